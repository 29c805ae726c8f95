import PyProof.Rows.All
import Wide.All
import OpenK.AllK
import Wide.FinOn
import Lean
import PyProof.EqAt
import PyProof.EqKinds
import PyProof.TupleCall
import PySem.Challenge.RW_liarclocks_k39_whole_tracks
set_option Elab.async false
set_option linter.all false
set_option maxRecDepth 100000
set_option maxHeartbeats 4000000
namespace MH
open PySem PySem.W
def goT (tb : String → Option Builtin) (p : Program) (w : World) (n₀ : Nat) (ann : Option Value) : Nat → SharedT → Thread → Option SharedT
  | 0, _, _ => none
  | m + 1, s, th => match through th with
    | true => some s
    | false => match stepOk n₀ ann th with
      | false => none
      | true => match stepT (denote tb) p w s th with
        | some (s', th') => goT tb p w n₀ ann m s' th'
        | none => none
theorem goT_run {tb : String → Option Builtin} {p : Program} {w : World} {n₀ : Nat} {ann : Option Value} {m : Nat} : ∀ {s r : SharedT} {th : Thread}, goT tb p w n₀ ann m s th = some r → topRun tb p w n₀ ann m s.abs th = some r.abs := by
  induction m with
  | zero => intro s r th h; cases h
  | succ m ih =>
    intro s r th h
    unfold goT at h
    unfold topRun
    cases he : through th with
    | true => rw [he] at h; cases h; rfl
    | false =>
      rw [he] at h
      cases hk : stepOk n₀ ann th with
      | false => rw [hk] at h; cases h
      | true =>
        rw [hk] at h
        cases hs : stepT (denote tb) p w s th with
        | none => rw [hs] at h; cases h
        | some x => obtain ⟨s₂, t₂⟩ := x; rw [hs] at h; dsimp only; rw [stepT_spec hs]; exact ih h
def toTree (l : List Obj) : BT × Nat := l.foldl (fun t o => (t.1.ins t.2 o, t.2 + 1)) (.nil, 0)
def begin0 (h : Heap) (d : Drawn) (k : Nat) (os : OsState) : SharedT := ⟨(toTree h.objs.toList).1, h.objs.toList.length, h.life, #[], d, k, os⟩
def seenBy (p q : Program) (loose : List Str) (lv : List (Str × WData)) (R : WRecords) (as : List Addr) (h₀ : Heap) (s : Shared) :=
  ((staticsOk (importedModules p.main.body) h₀ s.heap && namesBound p s.heap && gensDone s && laidKept h₀ s.heap), openSeen q loose (importedModules p.main.body) (fun s => xlAt q lv s && recOk R s) true s, PySem.W.X.obsZ as s)
def E (p q : Program) (loose : List Str) (lv : List (Str × WData)) (R : WRecords) (as : List Addr) (m₀ : Nat) (ann : Option Value) (M : Nat) (h₀ : Heap) (d : Drawn) (k : Nat) (w : World) (os : OsState) :=
  (goT treeTable p w m₀ ann M (begin0 h₀ d k os) (topStub p)).map fun s => seenBy p q loose lv R as h₀ s.abs
def sz (h : Heap) : Bool × Nat × Option Value := (h.isNs mainGlobals && (#[] : Array GenState).size == 0, h.objs.size, h.nsMap mainGlobals "__annotations__")
theorem le_add {M N : Nat} (le : Nat.ble M N = true) : M + (N - M) = N := Nat.add_sub_cancel' (Nat.le_of_ble_eq_true le)
theorem left {p q p' q' : Program} {loose loose' : List Str} {lv : List (Str × WData)} {R : WRecords} {as : List Addr} {N m₀ M : Nat} {ann : Option Value} {Ya : World → List (Option Obj) × Nat × Nat} {E2 : _} {sz2 : _} (hE : @E = E2) (hS : @sz = sz2) (hp : p = p') (hq : q = q') (hl : loose = loose')
    (o1 : opening p = plainProg p.main.scope.names) (hN : Nat.ble 600 N = true) (o2 : ∀ s, fenceModules? p s = some s) (habs : ∀ (P : Params) d k os, (begin0 (boot_heap P) d k os).abs = ⟨boot_heap P, #[], d, k, os⟩)
    (size : ∀ P : Params, sz2 (boot_heap P) = (true, m₀, ann)) (le : Nat.ble M N = true)
    (run : ∀ (w : World) (os : OsState), E2 p' q' loose' lv R as m₀ ann M (boot_heap w.params) boot_drawn boot_toks w os = some (true, openGood q' loose', Ya w)) :
    LeftO p q loose (fun s => xlAt q lv s && recOk R s) (PySem.W.X.obsZ as) Ya N := fun w => by
  subst hE hS hp hq hl
  obtain ⟨⟨h, gs, d, k, os⟩, e, e'⟩ := Option.map_eq_some_iff.mp (boot_open o1 hN o2 w)
  obtain ⟨rfl, rfl, rfl, rfl⟩ : h = boot_heap w.params ∧ gs = #[] ∧ d = boot_drawn ∧ k = boot_toks := by simpa using e'
  obtain ⟨z1, z2, z3⟩ : _ ∧ _ ∧ _ := by simpa only [sz, Prod.mk.injEq] using size w.params
  obtain ⟨s₁, r, l⟩ := Option.map_eq_some_iff.mp (run w os)
  obtain ⟨l1, l2, l3⟩ : _ ∧ _ ∧ _ := by simpa only [seenBy, Prod.mk.injEq] using l
  have r := goT_run r
  rw [habs] at r
  have r := topRun_mono (N - M) _ _ _ _ r
  rw [le_add le] at r
  have t : topFrom treeTable p w N ⟨boot_heap w.params, #[], boot_drawn, boot_toks, os⟩ = some s₁.abs := by
    unfold topFrom
    dsimp only
    rw [z1, z2, z3, r]
    show (match staticsOk (importedModules p.main.body) (boot_heap w.params) s₁.abs.heap && namesBound p s₁.abs.heap && gensDone s₁.abs && laidKept (boot_heap w.params) s₁.abs.heap with | true => _ | false => _) = _
    rw [l1]
  unfold openEnds
  rw [e]
  show (topFrom treeTable p w N _).map _ = _
  rw [t]
  show some (_, _) = _
  rw [l2, l3]
theorem hide {α : Sort _} {a b : α} (h : a = b) : a = b := h
theorem two {P : World → Prop} (row : String) (hf : ∀ w : World, P (w.withFollow row false)) (ht : ∀ w : World, P (w.withFollow row true)) (w : World) : P w := byRow2 row hf ht w
theorem begin_abs (P : Params) (d : Drawn) (k : Nat) (os : OsState) : (begin0 (boot_heap P) d k os).abs = ⟨boot_heap P, #[], d, k, os⟩ := by kernel_rfl
end MH
lay_quick MH.E MH.sz PySem.Challenge.pw_liarclocks_k39_whole_tracks
section
open PySem PySem.W PySem.W.X PySem.W.ZRun
local macro_rules
  | `(tactic| refine $f $args*) => do
    let is (a : Lean.Syntax) (n : Lean.Name) : Bool := a.isOfKind `Lean.Parser.Term.syntheticHole && a[1].getId.eraseMacroScopes == n
    unless args.any (fun a => is a.raw `hl) do Lean.Macro.throwUnsupported
    let as : Array Lean.Syntax := args.map fun a => if is a.raw `hl then (Lean.mkIdent `hl).raw else if is a.raw `hc then (Lean.mkIdent `hc).raw else a.raw
    let t : Lean.TSyntax `term := ⟨Lean.mkNode `Lean.Parser.Term.app #[f.raw, Lean.mkNullNode as]⟩
    `(tactic| refine $t)
set_option maxHeartbeats 0 in
/-- only to have the kit write out the kept heap and the view; it is used nowhere -/
theorem MH.wr (hl : ∀ {q : Program} {loose : List Str} {Xt : Shared → Bool} {Yf : Shared → List (Option Obj) × Nat × Nat} {Ya : World → List (Option Obj) × Nat × Nat} {N : Nat}, LeftO PySem.Challenge.pw_liarclocks_k39_whole_tracks q loose Xt Yf Ya N) (hc : ∀ {q : Program} {loose : List Str} {XP : (Str → Option Value) → Heap → Prop} {Yf : Shared → List (Option Obj) × Nat × Nat} {Ya : World → List (Option Obj) × Nat × Nat} {r : RowW} {d : DefRec} {kwd : List (Str × Expr)} {run : Value → List Value → Sem Value}, WalkX q loose XP Yf Ya r d kwd run) : PySem.Challenge.rw_liarclocks_k39_whole_tracks.Holds := by
  w_on; o_law; z_head; (case hw => w_witness2)
end
namespace MH
open PySem PySem.W
noncomputable def as0 : List Addr := [0, 1, 2, 3, 4, 5, 6, 7, 8, 9, 10, 11, 12, 13, 14, 15, 22, 23, 24, 25, 28, 35, 36, 37, 40, 47, 48, 49, 52, 59, 60, 61, 64, 65, 66, 67, 68, 69, 70, 71, 72, 73, 74, 75, 76, 77, 78, 79, 80, 81, 82, 83, 84, 85, 86, 87, 88, 89, 90, 91, 92, 93, 94, 95, 96, 97, 98, 99, 100, 101, 102, 103, 104, 105, 106, 107, 108, 109, 110, 111, 112, 113, 114, 115, 116, 117, 118, 119, 120, 121, 122, 123, 124, 125, 126, 127, 128, 129, 130, 131, 132, 133, 134, 135, 136, 137, 138, 139, 140, 141, 142, 143, 144, 145, 146, 147, 148, 149, 150, 151, 152, 153, 154, 155, 156, 157, 158, 159, 160, 168, 169, 170, 171, 172, 173, 174, 175, 176, 177, 178, 179, 180, 181, 182, 183, 184, 185, 186, 187, 188, 189, 190, 191, 192, 193, 194, 195, 196, 197, 198, 199, 200, 201, 202, 203, 204, 205, 206, 207, 208, 209, 210, 211, 212, 213, 214, 217, 218, 219, 220, 221, 222, 223, 224, 225, 226, 227, 228, 229, 230, 231, 232, 233, 234, 235, 236, 237, 238, 239, 240, 241, 242, 243, 244, 245, 246, 247, 248, 249, 250, 251, 252, 253, 254, 255, 256, 257, 258, 259, 260, 261, 262, 263]
noncomputable def q0 : Program := PySem.W.view PySem.W.Fast.tw6007918049581984322 [1,2,3,4,6,7,8,9,10,11,12,13,14,15,16,17,19,20,21,22,23,24,25,27,28,30,31,32,33,34,35,36]
noncomputable def lo0 : List Str := []
def Ok (w : World) : Prop := ∀ os : OsState, PySem.W.Fast.tw6129207837983636007 PySem.W.Fast.tw6007918049581984322 q0 lo0 [] (PySem.W.RowW.records (PySem.W.OpenRow.toRowW (PySem.W.OpenLaw.row PySem.Challenge.rw_liarclocks_k39_whole_tracks))) as0 11 (some (PySem.Value.ref 6)) 4036 (boot_heap w.params) boot_drawn boot_toks w os = some (true, openGood q0 lo0, PySem.W.X.valZ MH.wr.heap_261 264 526 w)
theorem ok (w : World) : Ok w := fun os => by kernel_rfl
theorem q_eq : MH.wr.view_516 = q0 := Eq.trans (b := PySem.W.view PySem.Challenge.pw_liarclocks_k39_whole_tracks [1,2,3,4,6,7,8,9,10,11,12,13,14,15,16,17,19,20,21,22,23,24,25,27,28,30,31,32,33,34,35,36]) (by kernel_rfl) (congrArg (fun p => PySem.W.view p [1,2,3,4,6,7,8,9,10,11,12,13,14,15,16,17,19,20,21,22,23,24,25,27,28,30,31,32,33,34,35,36]) PySem.W.Fast.te6007918049581984322)
theorem lo_eq : ([] : List Str) = lo0 := by kernel_rfl
theorem le_ok : LeftO PySem.Challenge.pw_liarclocks_k39_whole_tracks MH.wr.view_516 [] (fun s => xlAt MH.wr.view_516 [] s && recOk (PySem.W.RowW.records (PySem.W.OpenRow.toRowW (PySem.W.OpenLaw.row PySem.Challenge.rw_liarclocks_k39_whole_tracks))) s) (PySem.W.X.obsZ as0) (PySem.W.X.valZ MH.wr.heap_261 264 526) 4036 :=
  left PySem.W.Fast.te6129207837983636007 PySem.W.Fast.te9778236028270751511 PySem.W.Fast.te6007918049581984322 q_eq lo_eq (by kernel_rfl) (by decide) (fun s => by kernel_rfl) begin_abs (fun P => by kernel_rfl) (by decide) ok
theorem as_eq (P : Params) : as0 = (MH.wr.heap_261 P).map fun p => p.1 := by kernel_rfl
end MH
set_option Elab.async false
set_option linter.all false
set_option maxRecDepth 100000
namespace L2
open PySem PySem.Spec PyProof.Rows

abbrev Key := Sum Int Str
def keyIs : Key → Value → Bool
  | .inl k, v => Value.isInt k v
  | .inr x, v => Value.isStrOf x v
def keyH (w : World) : Key → Int
  | .inl k => hashInt k
  | .inr x => hashStr w x
theorem keyIs_shape : ∀ {k : Key} {v : Value}, keyIs k v = true → (∃ i t, k = Sum.inl i ∧ v = Value.int i t) ∨ (∃ x t, k = Sum.inr x ∧ v = Value.str x t)
  | .inl i, v, h => by
    obtain ⟨t, e⟩ := Value.isInt_shape (k := i) (v := v) h
    exact .inl ⟨i, t, rfl, e⟩
  | .inr x, v, h => by
    obtain ⟨t, e⟩ := Value.isStrOf_shape (x := x) (v := v) h
    exact .inr ⟨x, t, rfl, e⟩
theorem keyIs_int (i : Int) (t : Tok) : keyIs (.inl i) (.int i t) = true := by simp [keyIs, Value.isInt]
theorem keyIs_str (x : Str) (t : Tok) : keyIs (.inr x) (.str x t) = true := by simp [keyIs, Value.isStrOf]
theorem key_ll (a b : Int) : decide ((Sum.inl a : Key) = Sum.inl b) = (a == b) := by
  by_cases e : a = b
  · subst e; simp
  · have h : ¬ (Sum.inl a : Key) = Sum.inl b := fun q => e (Sum.inl.inj q)
    rw [decide_eq_false h]
    exact (beq_eq_false_iff_ne.mpr e).symm
theorem key_rr (a b : Str) : decide ((Sum.inr a : Key) = Sum.inr b) = decide (a = b) := by
  by_cases e : a = b
  · subst e; simp
  · have h : ¬ (Sum.inr a : Key) = Sum.inr b := fun q => e (Sum.inr.inj q)
    rw [decide_eq_false h, decide_eq_false e]
theorem key_lr (a : Int) (b : Str) : decide ((Sum.inl a : Key) = Sum.inr b) = false := decide_eq_false (fun q => nomatch q)
theorem key_rl (a : Str) (b : Int) : decide ((Sum.inr a : Key) = Sum.inl b) = false := decide_eq_false (fun q => nomatch q)

def mixKind (prog : Program) (w : World) : PySem.KeyKind prog w Key where
  is := keyIs
  hash := keyH w
  inj := fun v a b ha hb => by
    rcases keyIs_shape ha with ⟨i, t, rfl, rfl⟩ | ⟨x, t, rfl, rfl⟩
    · rcases keyIs_shape hb with ⟨j, u, rfl, e⟩ | ⟨y, u, rfl, e⟩
      · injection e with e1 _; rw [e1]
      · exact nomatch e
    · rcases keyIs_shape hb with ⟨j, u, rfl, e⟩ | ⟨y, u, rfl, e⟩
      · exact nomatch e
      · injection e with e1 _; rw [e1]
  byValue := fun k v h => by
    rcases keyIs_shape h with ⟨i, t, rfl, rfl⟩ | ⟨x, t, rfl, rfl⟩ <;> rfl
  pyHash := fun hv h => by
    rcases keyIs_shape hv with ⟨i, t, rfl, rfl⟩ | ⟨x, t, rfl, rfl⟩
    · exact wpAny_pyHash_int h
    · exact wpAny_pyHash_str h
  eqBool := fun hu hv h => by
    rcases keyIs_shape hu with ⟨i, t, rfl, rfl⟩ | ⟨x, t, rfl, rfl⟩
    · rcases keyIs_shape hv with ⟨j, u, rfl, rfl⟩ | ⟨y, u, rfl, rfl⟩
      · rw [key_ll] at h; exact wpAny_eqBool_int h
      · rw [key_lr] at h; exact SeqAt.EqAt.int_str i t y u _ _ _ _ h
    · rcases keyIs_shape hv with ⟨j, u, rfl, rfl⟩ | ⟨y, u, rfl, rfl⟩
      · rw [key_rl] at h; exact SeqAt.EqAt.str_int x t j u _ _ _ _ h
      · rw [key_rr] at h; exact wpAny_eqBool_str h
  «strs» := fun k x t v h => by
    rcases keyIs_shape h with ⟨i, u, rfl, e⟩ | ⟨y, u, rfl, e⟩
    · exact nomatch e
    · injection e with e1 _
      subst e1
      cases v <;> rfl

theorem mixKind_int (prog : Program) (w : World) (i : Int) (t : Tok) : (mixKind prog w).is (.inl i) (.int i t) = true := keyIs_int i t
theorem mixKind_str (prog : Program) (w : World) (x : Str) (t : Tok) : (mixKind prog w).is (.inr x) (.str x t) = true := keyIs_str x t
end L2

namespace L2
open PySem PySem.Spec PyProof.Rows

inductive V where
  | non | bl (b : Bool) | int (i : Int) | str (x : Str) | byt (b : Array UInt8) | flt (b : UInt64) | ref (a : Addr) | ty (n : String)
  deriving DecidableEq

def RelV : V → Value → Prop
  | .non, u => u = Value.none
  | .bl b, u => u = Value.bool b
  | .int i, u => ∃ t, u = Value.int i t
  | .str x, u => ∃ t, u = Value.str x t
  | .byt b, u => ∃ t, u = Value.bytes b t
  | .flt b, u => ∃ t, u = Value.float b t
  | .ref a, u => u = Value.ref a
  | .ty n, u => u = Value.type n

abbrev Vals : List V → List Value → Prop := Paired RelV
theorem Vals.length {xs : List V} {us : List Value} (r : Vals xs us) : xs.length = us.length := Paired.length r
theorem Vals.get : ∀ {xs : List V} {us : List Value} {i : Nat} {x : V}, Vals xs us → xs[i]? = some x → ∃ u, us[i]? = some u ∧ RelV x u
  | _, _, _, _, .nil, e => by simp at e
  | _, _, 0, _, .cons r _, e => by simp at e; subst e; exact ⟨_, rfl, r⟩
  | _, _, i + 1, x, .cons _ t, e => by
    obtain ⟨u, h1, h2⟩ := Vals.get (i := i) (x := x) t (by simpa using e)
    exact ⟨u, by simpa using h1, h2⟩
theorem Vals.set {x : V} {u : Value} (r : RelV x u) : ∀ {xs : List V} {us : List Value} (i : Nat), Vals xs us → Vals (xs.set i x) (us.set i u)
  | _, _, _, .nil => .nil
  | _, _, 0, .cons _ t => .cons r t
  | _, _, i + 1, .cons q t => .cons q (Vals.set r i t)
theorem Vals.append {xs ys : List V} {us ws : List Value} (h : Vals xs us) (s : Vals ys ws) : Vals (xs ++ ys) (us ++ ws) := by
  induction h with
  | nil => exact s
  | cons r t ih => exact .cons r ih
theorem Vals.take : ∀ {xs : List V} {us : List Value} (n : Nat), Vals xs us → Vals (xs.take n) (us.take n)
  | _, _, 0, _ => .nil
  | _, _, _ + 1, .nil => .nil
  | _, _, n + 1, .cons r t => .cons r (Vals.take n t)
theorem Vals.drop : ∀ {xs : List V} {us : List Value} (n : Nat), Vals xs us → Vals (xs.drop n) (us.drop n)
  | _, _, 0, r => r
  | _, _, _ + 1, .nil => .nil
  | _, _, n + 1, .cons _ t => Vals.drop n t
theorem Vals.none_of : ∀ {xs : List V} {us : List Value} {i : Nat}, Vals xs us → xs[i]? = none → us[i]? = none := fun {xs us i} r e => by
  have h1 := r.length
  have h2 : xs.length ≤ i := List.getElem?_eq_none_iff.mp e
  exact List.getElem?_eq_none_iff.mpr (by omega)

def RelO : Option V → Option Value → Prop
  | some v, some u => RelV v u
  | none, none => True
  | _, _ => False
def KV {κ : Type} : List (κ × V) → List (κ × Value) → Prop := Paired fun (p : κ × V) (q : κ × Value) => p.1 = q.1 ∧ RelV p.2 q.2

def kV : Key → V
  | .inl i => .int i
  | .inr x => .str x

inductive HO where
    | lst (xs : List V)
    | tup (xs : List V)
    | dK (kvs : List (Key × V)) | dT (kvs : List (List Key × V))
    | set (S : Int → Bool) (n : Nat)
    | ins (C dx : Addr) (fs : List (Str × V))
    | own (x : Addr)
    | xd (fs : List (Str × V))
    | met (f x : Addr)
    | rng (lo hi : Int)
    | frz (o : Obj) (u : HO)
    | tbl (ps : Array Value)
    | ext (φ : Heap → Prop)

abbrev Hp := Addr → Option HO
def upd (H : Hp) (a : Addr) (o : HO) : Hp := fun b => if b = a then some o else H b
theorem upd_same {H : Hp} {a : Addr} {o : HO} : upd H a o a = some o := by unfold upd; rw [if_pos rfl]
theorem upd_ne {H : Hp} {a b : Addr} {o : HO} (h : b ≠ a) : upd H a o b = H b := by unfold upd; rw [if_neg h]
theorem upd_upd {H : Hp} {a : Addr} {o u : HO} : upd (upd H a o) a u = upd H a u := by
  funext b; unfold upd; split <;> rfl
theorem ne_of {H : Hp} {a b : Addr} {o u : HO} (h : H a = some o) (h' : H b = some u) (d : o ≠ u) : a ≠ b := by
  intro e; subst e; rw [h] at h'; exact d (Option.some.inj h')
theorem ne_of_none {H : Hp} {a b : Addr} {o : HO} (h : H a = some o) (h' : H b = none) : a ≠ b := by
  intro e; subst e; rw [h] at h'; cases h'

section
variable (P : Program) (w : World)
def ObjOk (H : Hp) (h : Heap) (a : Addr) : HO → Prop
  | .lst xs => xs.length ≤ sizeLine ∧ ∃ (its : List Value) (n : Nat), Vals xs its ∧ h.get? a = some { cls := .type "list", data := .seq its.toArray n }
  | .tup xs => xs.length ≤ sizeLine ∧ ∃ its : List Value, Vals xs its ∧ IsTup h a its.toArray
  | .dK kvs => kvs.length ≤ sizeLine ∧ (a == sysModules) = false ∧ ∃ vs, KV kvs vs ∧ h.DictOf (mixKind P w) a vs
  | .dT kvs => kvs.length ≤ sizeLine ∧ (a == sysModules) = false ∧ ∃ xs : List (List Key × Addr × Value),
      Paired (fun (p : List Key × V) (q : List Key × Addr × Value) => p.1 = q.1 ∧ H q.2.1 = some (.tup (p.1.map kV)) ∧ RelV p.2 q.2.2) kvs xs ∧
      ∃ o es ep, h.get? a = some o ∧ o.ExactDict ∧ o.data = .dict es ep ∧ es.toList = xs.map (entryOfKey (tupleKind (mixKind P w))) ∧ (xs.map (·.1)).Nodup
  | .set S n => h.SetOf (intKind P w) a S n
  | .ins C dx fs => H dx = some (.own a) ∧ fs.length ≤ 1000 ∧ dx ≠ a ∧ h.get? a = some (PySem.W.instObj C dx) ∧
      ∃ mA, h.Ns1 dx mA ∧ (∀ f, RelO (fs.lookup f) (mA f)) ∧ PySem.Within mA (fs.map (·.1))
  | .own _ => ∃ o, h.get? a = some o
  | .xd fs => ∃ mA, h.Ns1 a mA ∧ ∀ f, RelO (fs.lookup f) (mA f)
  | .rng lo hi => ∃ t u v, h.get? a = some { cls := .type "range", data := .fields #[.int lo t, .int hi u, .int 1 v] }
  | .frz o u => h.get? a = some o ∧ ObjOk H h a u
  | .tbl ps => h.get? a = some { cls := .none, data := .fields ps }
  | .met f x => h.get? a = some (PySem.W.methodObj (.ref f) (.ref x))
  | .ext φ => φ h ∧ (∃ o, h.get? a = some o) ∧ ∀ h1 h2 : Heap, φ h1 → (∀ o, h1.get? a = some o → h2.get? a = some o) → φ h2
def HOk (H : Hp) (h : Heap) : Prop := ∀ a o, H a = some o → ObjOk P w H h a o
end

section
variable {P : Program} {w : World} {H H' : Hp} {h h' : Heap} {a : Addr} {o : HO}
theorem ObjOk.lt (x : ObjOk P w H h a o) : a < h.objs.size := by
  cases o with
  | lst xs => obtain ⟨_, _, _, _, e⟩ := x; exact Heap.lt_size e
  | tup xs => obtain ⟨_, _, _, p⟩ := x; exact p.lt
  | dK kvs => obtain ⟨_, _, _, _, o, _, _, e, _⟩ := x; exact Heap.lt_size e
  | dT kvs => obtain ⟨_, _, _, _, o, _, _, e, _⟩ := x; exact Heap.lt_size e
  | set S n => obtain ⟨o, _, _, _, e, _⟩ := x; exact Heap.lt_size e
  | ins C dx fs => obtain ⟨_, _, _, e, _⟩ := x; exact Heap.lt_size e
  | own y => obtain ⟨_, e⟩ := x; exact Heap.lt_size e
  | xd fs => obtain ⟨_, ⟨_, _, _, e, _⟩, _⟩ := x; exact Heap.lt_size e
  | rng lo hi => obtain ⟨_, _, _, e⟩ := x; exact Heap.lt_size e
  | frz ob u => obtain ⟨e, _⟩ := x; exact Heap.lt_size e
  | tbl ps => exact Heap.lt_size (show h.get? a = some _ from x)
  | met f y => exact Heap.lt_size (show h.get? a = some _ from x)
  | ext φ => obtain ⟨_, ⟨_, e⟩, _⟩ := x; exact Heap.lt_size e
theorem Paired.mapP {α β : Type} {F G : α → β → Prop} {l₁ : List α} {l₂ : List β} (h : Paired F l₁ l₂) (f : ∀ a b, F a b → G a b) : Paired G l₁ l₂ := by
  induction h with
  | nil => exact .nil
  | cons r t ih => exact .cons (f _ _ r) ih
theorem ObjOk.stay (x : ObjOk P w H h a o) (k : ∀ b u, (b = a ∨ H b = some (.own a)) → h.get? b = some u → h'.get? b = some u)
    (ho : ∀ b, H b = some (.own a) → H' b = some (.own a)) (ht : ∀ b xs, H b = some (.tup xs) → H' b = some (.tup xs)) : ObjOk P w H' h' a o := by
  induction o with
  | lst xs => obtain ⟨z, its, n, r, e⟩ := x; exact ⟨z, its, n, r, k _ _ (.inl rfl) e⟩
  | tup xs => obtain ⟨z, its, r, ob, e, c⟩ := x; exact ⟨z, its, r, ob, k _ _ (.inl rfl) e, c⟩
  | dK kvs => obtain ⟨z, y, vs, r, ob, es, ep, e, c⟩ := x; exact ⟨z, y, vs, r, ob, es, ep, k _ _ (.inl rfl) e, c⟩
  | dT kvs =>
    obtain ⟨z, y, xs, r, ob, es, ep, e, c⟩ := x
    exact ⟨z, y, xs, Paired.mapP r fun p q z => ⟨z.1, ht _ _ z.2.1, z.2.2⟩, ob, es, ep, k _ _ (.inl rfl) e, c⟩
  | set S n => obtain ⟨ob, es, ep, t, e, c⟩ := x; exact ⟨ob, es, ep, t, k _ _ (.inl rfl) e, c⟩
  | ins C dx fs =>
    obtain ⟨d, z, ne, e, mA, ⟨od, es, ep, e2, c⟩, r⟩ := x
    exact ⟨ho _ d, z, ne, k _ _ (.inl rfl) e, mA, ⟨od, es, ep, k _ _ (.inr d) e2, c⟩, r⟩
  | own y => obtain ⟨ob, e⟩ := x; exact ⟨ob, k _ _ (.inl rfl) e⟩
  | xd fs => obtain ⟨mA, ⟨od, es, ep, e, c⟩, r⟩ := x; exact ⟨mA, ⟨od, es, ep, k _ _ (.inl rfl) e, c⟩, r⟩
  | rng lo hi => obtain ⟨t, u, v, e⟩ := x; exact ⟨t, u, v, k _ _ (.inl rfl) e⟩
  | frz ob u ih => obtain ⟨e, q⟩ := x; exact ⟨k _ _ (.inl rfl) e, ih q⟩
  | tbl ps =>
    have e : h.get? a = some { cls := .none, data := .fields ps } := x
    show h'.get? a = some { cls := .none, data := .fields ps }
    exact k a _ (.inl rfl) e
  | met f y =>
    have e : h.get? a = some (PySem.W.methodObj (.ref f) (.ref y)) := x
    show h'.get? a = some (PySem.W.methodObj (.ref f) (.ref y))
    exact k a _ (.inl rfl) e
  | ext φ => obtain ⟨p, ⟨o, e⟩, st⟩ := x; exact ⟨st _ _ p fun o q => k _ _ (.inl rfl) q, ⟨o, k _ _ (.inl rfl) e⟩, st⟩
theorem HOk.lt (x : HOk P w H h) (e : H a = some o) : a < h.objs.size := (x a o e).lt
theorem HOk.fresh (x : HOk P w H h) (e : h.objs.size ≤ a) : H a = none := by
  cases q : H a with
  | none => rfl
  | some u => exact absurd (Nat.lt_of_lt_of_le (x.lt q) e) (Nat.lt_irrefl _)
theorem HOk.kept (x : HOk P w H h) (k : ∀ b u, h.get? b = some u → h'.get? b = some u) : HOk P w H h' := fun a o e =>
  (x a o e).stay (fun b u _ q => k b u q) (fun _ q => q) fun _ _ q => q
theorem HOk.laid (x : HOk P w H h) (k : ∀ b u, h.get? b = some u → h'.get? b = some u) (hp : h.objs.size ≤ a) (new : ObjOk P w (upd H a o) h' a o) : HOk P w (upd H a o) h' := fun b u e => by
  have hn := x.fresh hp
  by_cases hb : b = a
  · subst hb; rw [upd_same] at e; cases e; exact new
  · rw [upd_ne hb] at e
    exact (x b u e).stay (fun c v _ q => k c v q) (fun c q => by rw [upd_ne (ne_of_none q hn)]; exact q) fun c xs q => by rw [upd_ne (ne_of_none q hn)]; exact q
end

def Rd (H : Hp) (a : Addr) (u : HO) : Prop := H a = some u ∨ ∃ o, H a = some (.frz o u)
theorem Rd.of {H : Hp} {a : Addr} {u : HO} (h : H a = some u) : Rd H a u := .inl h
theorem Rd.ok {P : Program} {w : World} {H : Hp} {h : Heap} {a : Addr} {u : HO} (r : Rd H a u) (x : HOk P w H h) : ObjOk P w H h a u := by
  rcases r with r | ⟨o, r⟩
  · exact x a u r
  · obtain ⟨_, q⟩ := x a _ r
    exact q
def Mut : Option HO → Prop
  | some (.lst _) => True
  | some (.dK _) => True
  | some (.dT _) => True
  | some (.set _ _) => True
  | some (.ins _ _ _) => True
  | some (.ext _) => True
  | _ => False
section
variable {P : Program} {w : World} {H : Hp} {h h' : Heap} {x e : Addr} {o' : HO}
theorem HOk.write (ok : HOk P w H h) (mu : Mut (H x)) (he : e = x ∨ H e = some (.own x)) (k : ∀ b u, b ≠ e → h.get? b = some u → h'.get? b = some u) (heo : ∃ u, h'.get? e = some u)
    (new : ObjOk P w (upd H x o') h' x o') : HOk P w (upd H x o') h' := fun b u q => by
  have nown : ∀ c y, H c = some (.own y) → c ≠ x := fun c y r z => by subst z; rw [r] at mu; exact mu
  have ntup : ∀ c xs, H c = some (.tup xs) → c ≠ x := fun c xs r z => by subst z; rw [r] at mu; exact mu
  by_cases hb : b = x
  · subst hb; rw [upd_same] at q; cases q; exact new
  · rw [upd_ne hb] at q
    by_cases hbe : b = e
    · have q' : H b = some (.own x) := by
        rcases he with z | z
        · exact absurd (hbe.trans z) hb
        · rw [hbe]; exact z
      rw [q] at q'; cases q'
      obtain ⟨v, hv⟩ := heo
      exact ⟨v, by rw [hbe]; exact hv⟩
    · refine (ok b u q).stay (fun c v hc r => k c v ?_ r) (fun c r => by rw [upd_ne (nown c b r)]; exact r) fun c xs r => by rw [upd_ne (ntup c xs r)]; exact r
      rcases hc with rfl | hc
      · exact hbe
      · rintro rfl
        rcases he with z | z
        · exact nown c b hc z
        · rw [hc] at z; cases z; exact hb rfl
end

structure Un (fs ex : List Addr) (H H' : Hp) (h h' : Heap) : Prop where
  keep : ∀ b o, h.get? b = some o → H b = none → b ∉ fs → b ∉ ex → h'.get? b = some o
  slot : ∀ b o, h.get? b = some o → H b = none → b ∈ fs → b ∉ ex → ∃ sl, h'.get? b = some { o with slots := sl }
  free : ∀ b o, h.get? b = some o → H b = none → b ∉ ex → H' b = none
  there : ∀ b o, h.get? b = some o → b ∉ ex → ∃ o', h'.get? b = some o'
  tups : ∀ b xs, H b = some (.tup xs) → H' b = some (.tup xs)
  frzs : ∀ b o u, H b = some (.frz o u) → H' b = some (.frz o u)
  tbls : ∀ b ps, H b = some (.tbl ps) → ∃ more, H' b = some (.tbl (ps ++ more))
section
variable {fs fs' ex ex' : List Addr} {H H1 H2 : Hp} {h h1 h2 h' : Heap} {a x e : Addr} {o : HO}
theorem Un.any (u : Un fs ex H H1 h h1) {b : Addr} {ob : Obj} (q : h.get? b = some ob) (n : H b = none) (hx : b ∉ ex) : ∃ sl, h1.get? b = some { ob with slots := sl } := by
  by_cases hb : b ∈ fs
  · exact u.slot b ob q n hb hx
  · exact ⟨ob.slots, u.keep b ob q n hb hx⟩
theorem Un.trans (a : Un fs ex H H1 h h1) (b : Un fs ex H1 H2 h1 h2) : Un fs ex H H2 h h2 where
  keep := fun c ob q n hc hx => b.keep c ob (a.keep c ob q n hc hx) (a.free c ob q n hx) hc hx
  slot := fun c ob q n hc hx => by
    obtain ⟨sl, e1⟩ := a.slot c ob q n hc hx
    obtain ⟨sl', e2⟩ := b.slot c _ e1 (a.free c ob q n hx) hc hx
    exact ⟨sl', e2⟩
  free := fun c ob q n hx => by
    obtain ⟨o', e1⟩ := a.there c ob q hx
    exact b.free c o' e1 (a.free c ob q n hx) hx
  there := fun c ob q hx => by
    obtain ⟨o', e1⟩ := a.there c ob q hx
    exact b.there c o' e1 hx
  tups := fun c xs q => b.tups c xs (a.tups c xs q)
  frzs := fun c ob xs q => b.frzs c ob xs (a.frzs c ob xs q)
  tbls := fun c ps q => by
    obtain ⟨m1, e1⟩ := a.tbls c ps q
    obtain ⟨m2, e2⟩ := b.tbls c _ e1
    exact ⟨m1 ++ m2, by rw [e2, Array.append_assoc]⟩
theorem Un.kept (k : ∀ b u, h.get? b = some u → h'.get? b = some u) : Un fs ex H H h h' :=
  ⟨fun b ob q _ _ _ => k b ob q, fun b ob q _ _ _ => ⟨ob.slots, k b ob q⟩, fun _ _ _ n _ => n, fun b ob q _ => ⟨ob, k b ob q⟩, fun _ _ q => q, fun _ _ _ q => q, fun _ ps q => ⟨#[], by rw [q]; simp⟩⟩
theorem Un.refl : Un fs ex H H h h := Un.kept fun _ _ q => q
theorem Un.laid (k : ∀ b u, h.get? b = some u → h'.get? b = some u) (hp : h.objs.size ≤ a) (hn : H a = none) : Un fs ex H (upd H a o) h h' where
  keep := fun b u q _ _ _ => k b u q
  slot := fun b u q _ _ _ => ⟨u.slots, k b u q⟩
  free := fun b u q n _ => by rw [upd_ne (Nat.ne_of_lt (Nat.lt_of_lt_of_le (Heap.lt_size q) hp))]; exact n
  there := fun b u q _ => ⟨u, k b u q⟩
  tups := fun b xs q => by rw [upd_ne (ne_of_none q hn)]; exact q
  frzs := fun b u xs q => by rw [upd_ne (ne_of_none q hn)]; exact q
  tbls := fun b ps q => ⟨#[], by rw [upd_ne (ne_of_none q hn), q]; simp⟩
theorem Un.write (mu : Mut (H x)) (he : e = x ∨ H e = some (.own x)) (k : ∀ b u, b ≠ e → h.get? b = some u → h'.get? b = some u) (heo : ∃ u, h'.get? e = some u) : Un fs ex H (upd H x o) h h' := by
  have hx : ∀ b, H b = none → b ≠ x := fun b n z => by subst z; rw [n] at mu; exact mu
  have hb : ∀ b, H b = none → b ≠ e := fun b n z => by
    subst z
    rcases he with r | r
    · exact hx b n r
    · rw [n] at r; cases r
  have hm : ∀ b u, H b = some u → ¬ Mut (some u) → b ≠ x := fun b u q nm z => by subst z; rw [q] at mu; exact nm mu
  refine ⟨fun b u q n _ _ => k b u (hb b n) q, fun b u q n _ _ => ⟨u.slots, k b u (hb b n) q⟩, fun b u q n _ => by rw [upd_ne (hx b n)]; exact n, fun b u q _ => ?_,
    fun b xs q => by rw [upd_ne (hm b _ q fun z => z)]; exact q, fun b u xs q => by rw [upd_ne (hm b _ q fun z => z)]; exact q, fun b ps q => ⟨#[], by rw [upd_ne (hm b _ q fun z => z), q]; simp⟩⟩
  by_cases hbe : b = e
  · subst hbe; exact heo
  · exact ⟨u, k b u hbe q⟩
theorem Un.mono (u : Un fs ex H H1 h h1) (hs : ∀ b ∈ fs, b ∈ fs') (hx : ∀ b ∈ ex, b ∈ ex') : Un fs' ex' H H1 h h1 :=
  ⟨fun b ob q n hb he => u.keep b ob q n (fun z => hb (hs b z)) fun z => he (hx b z), fun _ _ q n _ he => u.any q n fun z => he (hx _ z), fun b ob q n he => u.free b ob q n fun z => he (hx b z), fun b ob q he => u.there b ob q fun z => he (hx b z), u.tups, u.frzs, u.tbls⟩
end

def trk (h : Heap) (H : Hp) : List Addr := (List.range h.objs.size).filter fun a => (H a).isSome
def hidT (h : Heap) (H : Hp) : Heap := PySem.W.hideAll h (trk h H)
theorem hidT_size (h : Heap) (H : Hp) : (hidT h H).objs.size = h.objs.size := PySem.W.hideAll_size _ _
theorem hidT_get {h : Heap} {H : Hp} {b : Addr} {o : Obj} (e : h.get? b = some o) (n : H b = none) : (hidT h H).get? b = some o :=
  PySem.W.hideAll_get _ e fun hm => by
    have q : (H b).isSome = true := (List.mem_filter.mp hm).2
    rw [n] at q; simp at q
theorem of_hidT {h : Heap} {H : Hp} {b : Addr} {o : Obj} (e : (hidT h H).get? b = some o) : h.get? b = some o ∧ H b = none := by
  have e' : h.get? b = some o := PySem.W.of_hideAll (trk h H) e
  refine ⟨e', ?_⟩
  cases q : H b with
  | none => rfl
  | some x =>
    have hm : b ∈ trk h H := List.mem_filter.mpr ⟨List.mem_range.mpr (Heap.lt_size e'), by simp [q]⟩
    have z : (hidT h H).get? b = none := PySem.W.hideAll_none (trk h H) hm
    rw [z] at e; cases e

def allNews (g h : Heap) (L : Addr) : List (Addr × Obj) := (List.range h.objs.size).filterMap fun a => if a = L ∨ (g.get? a).isSome = true then none else (h.get? a).map fun o => (a, o)
def rest (g h : Heap) (L d : Addr) : List (Addr × Obj) := (allNews g h L).filter fun p => decide (p.1 ≠ d)
end L2

namespace L2
open PySem PySem.Spec PyProof.Rows

structure Mod (K : PySem.W.Frag) (mg : Str → Option Value) (base : Heap) : Prop where
  kin : K.In base
  glob : base.Ns mainGlobals mg
  blt : ∃ mb, base.Ns builtinsNs mb ∧ ∀ x : Str, x ≠ "__name__" → mb x = bootBuiltins x
  nolimit : base.NoLimit

structure Cx where
  prog : Program
  w : World
  K : PySem.W.Frag
  mg : Str → Option Value
  base : Heap
  A : Around
  N : List Str
  s₀ : Shared
  H₀ : Hp
  env : Env
  outer : List Env
  stack : List Env
  ex : List Addr
  fn : Str → Bool
  calm : Bool
  pn : List (Addr × Obj)
  xe : Value → Shared → Prop
def frs (l : List Env) : List Addr := l.filterMap (·.frame)
abbrev Cx.fs (X : Cx) : List Addr := frs X.outer

def Vis (sc : Scope) (x : Str) : Prop := sc.names.lookup x = some .local ∨ sc.names.lookup x = some .cell ∨ sc.names.lookup x = some .free
def Loc (sc : Scope) (x : Str) : Prop := sc.names.lookup x = some .local ∨ sc.names.lookup x = some .cell
def Look (env : Env) (h : Heap) (m : Str → Option Value) (x : Str) (u : Value) : Prop :=
  (env.kindOf x = some .local ∧ m x = some u) ∨ ((env.kindOf x = some .cell ∨ env.kindOf x = some .free) ∧ ∃ c, env.cells.lookup x = some c ∧ h.IsCell c (some u))

structure Cx.Ok (X : Cx) : Prop where
  mod : Mod X.K X.mg X.base
  kind : X.env.scope.kind = .function
  glob : X.env.globals = mainGlobals
  blt : X.env.builtins = builtinsNs
  above : X.s₀.heap.objs.size ≤ X.env.locals
  inj : ∀ x y c, X.env.cells.lookup x = some c → X.env.cells.lookup y = some c → x = y
  has : ∀ x, (X.env.kindOf x = some .cell ∨ X.env.kindOf x = some .free) → ∃ c, X.env.cells.lookup x = some c
  cab : ∀ x c, X.fn x = true → X.env.cells.lookup x = some c → X.s₀.heap.objs.size ≤ c
  hd : X.calm = true → X.A.handled = none
  frames : X.A.frames = some X.stack
  stk : X.stack = X.outer ∨ (X.stack = X.env :: X.outer ∧ X.env.frame = some X.env.locals)
  exf : ∀ b ∈ X.ex, b ≠ X.env.locals ∧ ∀ x c, X.env.cells.lookup x = some c → c ≠ b
  bs : ∀ b o, X.base.get? b = some o → X.s₀.heap.get? b = some o ∧ X.H₀ b = none
  bsz : X.base.objs.size ≤ X.s₀.heap.objs.size
  noex : ∀ b o, X.base.get? b = some o → b ∉ X.ex
  exfs : ∀ b ∈ X.ex, b ∉ X.fs
  funs : X.s₀.heap.FunFrames X.base X.outer
  frf : ∀ b ∈ X.fs, X.H₀ b = none

structure Inv (X : Cx) (pins : List (Addr × Obj)) (σ : List (Option V)) (H : Hp) (s : Shared) : Prop where
  ok : X.Ok
  os : s.os = X.s₀.os
  bare : AllBare s.gens
  base : Un X.fs X.ex X.H₀ H X.s₀.heap s.heap
  loc : ∃ m, s.heap.Ns X.env.locals m ∧ ∀ (i : Nat) (x : Str) (v : V), X.N[i]? = some x → σ[i]? = some (some v) → Vis X.env.scope x → ∃ u, RelV v u ∧ Look X.env s.heap m x u
  cell : ∀ x c, X.env.cells.lookup x = some c → ∃ v, s.heap.IsCell c v
  free : H X.env.locals = none
  freeC : ∀ x c, X.env.cells.lookup x = some c → H c = none
  pin : ∀ p ∈ X.pn ++ pins, s.heap.get? p.1 = some p.2 ∧ H p.1 = none ∧ p.1 ≠ X.env.locals ∧ p.1 ∉ X.fs ∧ ∀ v, p.2.data ≠ .cell v
  hok : HOk X.prog X.w H s.heap
  len : σ.length = X.N.length

section
variable {X : Cx} {pins : List (Addr × Obj)} {σ : List (Option V)} {H H' : Hp} {s : Shared} {h' : Heap}

theorem Cx.Ok.nofr (ok : X.Ok) {b : Addr} {o : Obj} (e : X.base.get? b = some o) : b ∉ X.fs := fun hb => by
  have := (ok.funs.mem hb).1
  rw [e] at this; cases this
theorem Inv.bs (I : Inv X pins σ H s) : ∀ b o, X.base.get? b = some o → s.heap.get? b = some o ∧ H b = none := fun b o e =>
  ⟨I.base.keep b o (I.ok.bs b o e).1 (I.ok.bs b o e).2 (I.ok.nofr e) (I.ok.noex b o e), I.base.free b o (I.ok.bs b o e).1 (I.ok.bs b o e).2 (I.ok.noex b o e)⟩
theorem Inv.bk (I : Inv X pins σ H s) : ∀ b o, X.base.get? b = some o → s.heap.get? b = some o := fun b o e => (I.bs b o e).1
theorem Inv.mod (I : Inv X pins σ H s) : Mod X.K X.mg X.base := I.ok.mod
theorem Inv.kIn (I : Inv X pins σ H s) : X.K.In s.heap := I.ok.mod.kin.keeps I.bk
theorem Inv.nolimit (I : Inv X pins σ H s) : s.heap.NoLimit := I.ok.mod.nolimit.keeps I.bk
theorem Inv.fr (I : Inv X pins σ H s) : ∃ m, Fr X.base X.env.locals s.heap m :=
  let ⟨m, hn, _⟩ := I.loc
  ⟨m, hn, I.bk, Nat.le_trans I.ok.bsz I.ok.above⟩
theorem Inv.lt (I : Inv X pins σ H s) : X.env.locals < s.heap.objs.size := let ⟨_, hn, _⟩ := I.loc; hn.lt
theorem Inv.sz (I : Inv X pins σ H s) : X.s₀.heap.objs.size ≤ s.heap.objs.size := Nat.le_trans I.ok.above (Nat.le_of_lt I.lt)
theorem Inv.nofs (I : Inv X pins σ H s) {a : Addr} (h : s.heap.objs.size ≤ a) : a ∉ X.fs := fun hb => by
  obtain ⟨_, o, ho, _⟩ := I.ok.funs.mem hb
  exact absurd (Nat.lt_of_lt_of_le (Heap.lt_size ho) (Nat.le_trans I.sz h)) (Nat.lt_irrefl _)
theorem Inv.cne (I : Inv X pins σ H s) : ∀ x c, X.env.cells.lookup x = some c → c ≠ X.env.locals := fun x c e z => by
  obtain ⟨v, o, ho, hd⟩ := I.cell x c e
  obtain ⟨m, ⟨o', es, ep, ho', hd', _⟩, _⟩ := I.loc
  rw [z, ho'] at ho; cases ho; rw [hd'] at hd; cases hd
theorem Inv.funs (I : Inv X pins σ H s) : s.heap.FunFrames X.base X.outer := by
  have all : ∀ (l : List Env), (∀ b ∈ frs l, b ∈ X.fs) → X.s₀.heap.FunFrames X.base l → s.heap.FunFrames X.base l := by
    intro l
    induction l with
    | nil => intro _ _; trivial
    | cons env r ih =>
      intro hs hl
      obtain ⟨hk, ⟨L, o, hf, hn, ho, hd⟩, hr⟩ := hl
      have hL : L ∈ X.fs := hs L (by unfold frs; rw [List.filterMap_cons, hf]; exact List.mem_cons_self)
      obtain ⟨sl, e⟩ := I.base.slot L o ho (I.ok.frf L hL) hL fun z => I.ok.exfs L z hL
      exact ⟨hk, ⟨L, _, hf, hn, e, hd⟩, ih (fun b hb => hs b (by unfold frs; rw [List.filterMap_cons, hf]; exact List.mem_cons_of_mem _ hb)) hr⟩
  exact all X.outer (fun _ hb => hb) I.ok.funs

theorem Inv.stack (I : Inv X pins σ H s) : s.heap.FunFrames X.base X.stack := by
  rcases I.ok.stk with e | ⟨e, hf⟩
  · rw [e]; exact I.funs
  · rw [e]
    obtain ⟨m, hn, _⟩ := I.loc
    refine .cons (by rw [I.ok.kind]; decide) hf hn ?_ I.funs
    exact Heap.get?_none_of_le (Nat.le_trans I.ok.bsz I.ok.above)
theorem Inv.stkSub (I : Inv X pins σ H s) : ∀ b ∈ frs X.stack, b ∈ X.env.locals :: X.fs := fun b hb => by
  rcases I.ok.stk with e | ⟨e, hf⟩
  · rw [e] at hb; exact List.mem_cons_of_mem _ hb
  · rw [e] at hb
    unfold frs at hb
    rw [List.filterMap_cons, hf] at hb
    exact hb
theorem Inv.stkFree (I : Inv X pins σ H s) : ∀ b ∈ frs X.stack, H b = none := fun b hb => by
  rcases List.mem_cons.mp (I.stkSub b hb) with e | hb
  · rw [e]; exact I.free
  · obtain ⟨_, o, ho, _⟩ := I.ok.funs.mem hb
    exact I.base.free b o ho (I.ok.frf b hb) fun z => I.ok.exfs b z hb

theorem Inv.step {g' : Array GenState} {t' : Nat} {d' : Drawn} {ch : List Addr} (I : Inv X pins σ H s)
    (hch : ∀ b ∈ ch, (b ∈ X.ex ∨ X.s₀.heap.objs.size ≤ b) ∧ b ≠ X.env.locals ∧ (∀ x c, X.env.cells.lookup x = some c → c ≠ b) ∧ ∀ p ∈ X.pn ++ pins, p.1 ≠ b)
    (keep : ∀ b o, b ≠ X.env.locals → b ∉ X.fs → b ∉ ch → s.heap.get? b = some o → H b = none → h'.get? b = some o)
    (slot : ∀ b o, b ≠ X.env.locals → b ∈ X.fs → b ∉ ch → s.heap.get? b = some o → H b = none → ∃ sl, h'.get? b = some { o with slots := sl }) (free : ∀ b o, b ∉ ch → s.heap.get? b = some o → H b = none → H' b = none)
    (there : ∀ b o, b ∉ ch → s.heap.get? b = some o → ∃ o', h'.get? b = some o')
    (tups : ∀ b xs, H b = some (.tup xs) → H' b = some (.tup xs)) (frzs : ∀ b o u, H b = some (.frz o u) → H' b = some (.frz o u)) (tbls : ∀ b ps, H b = some (.tbl ps) → ∃ more, H' b = some (.tbl (ps ++ more)))
    (ns : ∀ m, s.heap.Ns X.env.locals m → h'.Ns X.env.locals m) (hok : HOk X.prog X.w H' h') (hg : AllBare g') :
    Inv X pins σ H' { s with heap := h', gens := g', drawn := d', toks := t' } := by
  have neL : ∀ b o, X.s₀.heap.get? b = some o → b ≠ X.env.locals := fun b o e => Nat.ne_of_lt (Nat.lt_of_lt_of_le (Heap.lt_size e) I.ok.above)
  have neC : ∀ b o, X.s₀.heap.get? b = some o → b ∉ X.ex → b ∉ ch := fun b o e hx hb => by
    rcases (hch b hb).1 with z | z
    · exact hx z
    · exact absurd (Nat.lt_of_lt_of_le (Heap.lt_size e) z) (Nat.lt_irrefl _)
  have cellK : ∀ x c, X.env.cells.lookup x = some c → ∀ v, s.heap.IsCell c v → h'.IsCell c v := fun x c e v hQQ => by
    obtain ⟨o, ho, hd⟩ := hQQ
    have nch : c ∉ ch := fun z => (hch c z).2.2.1 x c e rfl
    by_cases hc : c ∈ X.fs
    · obtain ⟨sl, q⟩ := slot c o (I.cne x c e) hc nch ho (I.freeC x c e)
      exact ⟨_, q, hd⟩
    · exact ⟨o, keep c o (I.cne x c e) hc nch ho (I.freeC x c e), hd⟩
  refine ⟨I.ok, I.os, hg, ⟨fun b o e n hb hx => ?_, fun b o e n hb hx => ?_, fun b o e n hx => ?_, fun b o e hx => ?_, fun b xs e => tups b xs (I.base.tups b xs e), fun b o xs e => frzs b o xs (I.base.frzs b o xs e), fun b ps e => ?_⟩, ?_, fun x c e => ?_, ?_, fun x c e => ?_, fun p hp => ?_, hok, I.len⟩
  · exact keep b o (neL b o e) hb (neC b o e hx) (I.base.keep b o e n hb hx) (I.base.free b o e n hx)
  · obtain ⟨sl, e1⟩ := I.base.slot b o e n hb hx
    obtain ⟨sl', e2⟩ := slot b _ (neL b o e) hb (neC b o e hx) e1 (I.base.free b o e n hx)
    exact ⟨sl', e2⟩
  · obtain ⟨o', e1⟩ := I.base.there b o e hx
    exact free b o' (neC b o e hx) e1 (I.base.free b o e n hx)
  · obtain ⟨o', e1⟩ := I.base.there b o e hx
    exact there b o' (neC b o e hx) e1
  · obtain ⟨m1, e1⟩ := I.base.tbls b ps e
    obtain ⟨m2, e2⟩ := tbls b _ e1
    exact ⟨m1 ++ m2, by rw [e2, Array.append_assoc]⟩
  · obtain ⟨m, hn, hl⟩ := I.loc
    refine ⟨m, ns m hn, fun i x v e1 e2 e3 => ?_⟩
    obtain ⟨u, r, l⟩ := hl i x v e1 e2 e3
    refine ⟨u, r, ?_⟩
    rcases l with l | ⟨k, c, e, z⟩
    · exact .inl l
    · exact .inr ⟨k, c, e, cellK x c e _ z⟩
  · obtain ⟨v, z⟩ := I.cell x c e
    exact ⟨v, cellK x c e v z⟩
  · obtain ⟨m, ⟨o, _, _, ho, _⟩, _⟩ := I.loc
    exact free _ o (fun z => (hch _ z).2.1 rfl) ho I.free
  · obtain ⟨v, o, ho, hd⟩ := I.cell x c e
    exact free c o (fun z => (hch c z).2.2.1 x c e rfl) ho (I.freeC x c e)
  · obtain ⟨e, n, ne, nf, d⟩ := I.pin p hp
    have nch : p.1 ∉ ch := fun z => (hch p.1 z).2.2.2 p hp rfl
    exact ⟨keep p.1 p.2 ne nf nch e n, free p.1 p.2 nch e n, ne, nf, d⟩
theorem Inv.un {t' : Nat} (I : Inv X pins σ H s) (u : Un X.fs [] H H' s.heap h') (hok : HOk X.prog X.w H' h') : Inv X pins σ H' { s with heap := h', toks := t' } := by
  obtain ⟨m, ⟨o, es, ep, ho, r⟩, _⟩ := id I.loc
  obtain ⟨sl, hL⟩ := u.any ho I.free (by simp)
  exact I.step (g' := s.gens) (d' := s.drawn) (ch := []) (fun _ z => nomatch z) (fun b o _ hb _ e n => u.keep b o e n hb (by simp)) (fun b o _ hb _ e n => u.slot b o e n hb (by simp)) (fun b o _ e n => u.free b o e n (by simp)) (fun b o _ e => u.there b o e (by simp)) u.tups u.frzs u.tbls (fun m' hm => by
    obtain ⟨o', es', ep', ho', r'⟩ := hm
    rw [ho] at ho'; cases ho'
    exact ⟨_, es', ep', hL, r'⟩) hok I.bare
theorem Inv.call {g' : Array GenState} {t' : Nat} {d' : Drawn} {ch : List Addr} (I : Inv X pins σ H s) (u : Un (frs X.stack) ch H H' s.heap h') (hok : HOk X.prog X.w H' h') (hg : AllBare g')
    (hch : ∀ b ∈ ch, (b ∈ X.ex ∨ X.s₀.heap.objs.size ≤ b) ∧ b ≠ X.env.locals ∧ (∀ x c, X.env.cells.lookup x = some c → c ≠ b) ∧ ∀ p ∈ X.pn ++ pins, p.1 ≠ b) :
    Inv X pins σ H' { s with heap := h', gens := g', drawn := d', toks := t' } := by
  obtain ⟨m, ⟨o, es, ep, ho, r⟩, _⟩ := id I.loc
  obtain ⟨sl, hL⟩ := u.any ho I.free fun z => (hch _ z).2.1 rfl
  exact I.step (ch := ch) hch (fun b o hL hb hc e n => u.keep b o e n (fun z => (List.mem_cons.mp (I.stkSub b z)).elim hL hb) hc) (fun b o _ _ hc e n => u.any e n hc) (fun b o hc e n => u.free b o e n hc) (fun b o hc e => u.there b o e hc) u.tups u.frzs u.tbls (fun m' hm => by
    obtain ⟨o', es', ep', ho', r'⟩ := hm
    rw [ho] at ho'; cases ho'
    exact ⟨_, es', ep', hL, r'⟩) hok hg
theorem Inv.turned {t' : Nat} {it : Addr} (I : Inv X pins σ H s) (k : ∀ b o, b ≠ it → s.heap.get? b = some o → h'.get? b = some o) (hn : H it = none) (hL : it ≠ X.env.locals)
    (h1 : it ∈ X.ex ∨ X.s₀.heap.objs.size ≤ it) (h2 : ∀ x c, X.env.cells.lookup x = some c → c ≠ it) (h3 : ∀ p ∈ X.pn ++ pins, p.1 ≠ it) : Inv X pins σ H { s with heap := h', toks := t' } := by
  have nit : ∀ b u, H b = some u → b ≠ it := fun b u e z => by rw [z, hn] at e; cases e
  refine I.step (g' := s.gens) (d' := s.drawn) (ch := [it]) (fun b hb => ?_) (fun b o _ _ hc e _ => k b o (fun z => hc (by simp [z])) e) (fun b o _ _ hc e _ => ⟨o.slots, k b o (fun z => hc (by simp [z])) e⟩) (fun _ _ _ _ n => n)
    (fun b o hc e => ⟨o, k b o (fun z => hc (by simp [z])) e⟩) (fun _ _ e => e) (fun _ _ _ e => e) (fun b ps e => ⟨#[], by rw [e]; simp⟩) (fun m hm => ?_) (fun b u e => ?_) I.bare
  · have e : b = it := by simpa using hb
    subst e
    exact ⟨h1, hL, h2, h3⟩
  · obtain ⟨o, es, ep, ho, r⟩ := hm
    exact ⟨o, es, ep, k _ o (Ne.symm hL) ho, r⟩
  · refine (I.hok b u e).stay (fun c v hc q => k c v ?_ q) (fun _ q => q) fun _ _ q => q
    rcases hc with z | z
    · rw [z]; exact nit b u e
    · exact nit c _ z
theorem Inv.tok (I : Inv X pins σ H s) (t : Nat) : Inv X pins σ H { s with toks := t } := I.un (h' := s.heap) (t' := t) Un.refl I.hok
theorem Inv.kept {t' : Nat} (I : Inv X pins σ H s) (k : ∀ b u, s.heap.get? b = some u → h'.get? b = some u) : Inv X pins σ H { s with heap := h', toks := t' } := I.un (Un.kept k) (I.hok.kept k)
theorem Inv.laid {a : Addr} {o : HO} {t' : Nat} (I : Inv X pins σ H s) (k : ∀ b u, s.heap.get? b = some u → h'.get? b = some u) (hp : s.heap.objs.size ≤ a) (new : ObjOk X.prog X.w (upd H a o) h' a o) :
    Inv X pins σ (upd H a o) { s with heap := h', toks := t' } := I.un (Un.laid k hp (I.hok.fresh hp)) (I.hok.laid k hp new)
theorem Inv.write {x e : Addr} {o : HO} {t' : Nat} (I : Inv X pins σ H s) (mu : Mut (H x)) (he : e = x ∨ H e = some (.own x)) (k : ∀ b u, b ≠ e → s.heap.get? b = some u → h'.get? b = some u) (heo : ∃ u, h'.get? e = some u)
    (new : ObjOk X.prog X.w (upd H x o) h' x o) : Inv X pins σ (upd H x o) { s with heap := h', toks := t' } := I.un (Un.write mu he k heo) (I.hok.write mu he k heo new)
theorem Inv.weak {σ' : List (Option V)} (I : Inv X pins σ H s) (hl : σ'.length = σ.length) (w : ∀ (i : Nat) v, σ'[i]? = some (some v) → σ[i]? = some (some v)) : Inv X pins σ' H s :=
  ⟨I.ok, I.os, I.bare, I.base, let ⟨m, hn, hl'⟩ := I.loc; ⟨m, hn, fun i x v e1 e2 e3 => hl' i x v e1 (w i v e2) e3⟩, I.cell, I.free, I.freeC, I.pin, I.hok, hl.trans I.len⟩
theorem Inv.pins_of {pins' : List (Addr × Obj)} (I : Inv X pins σ H s) (h : ∀ p ∈ pins', s.heap.get? p.1 = some p.2 ∧ H p.1 = none ∧ p.1 ≠ X.env.locals ∧ p.1 ∉ X.fs ∧ ∀ v, p.2.data ≠ .cell v) : Inv X pins' σ H s :=
  ⟨I.ok, I.os, I.bare, I.base, I.loc, I.cell, I.free, I.freeC, fun p hp => (List.mem_append.mp hp).elim (fun z => I.pin p (List.mem_append_left _ z)) (h p), I.hok, I.len⟩

theorem nodup_ix {N : List Str} (hN : N.Nodup) {i j : Nat} {x : Str} (a : N[i]? = some x) (b : N[j]? = some x) : i = j := by
  obtain ⟨h1, e1⟩ := List.getElem?_eq_some_iff.mp a
  obtain ⟨h2, e2⟩ := List.getElem?_eq_some_iff.mp b
  exact (List.getElem_inj hN).mp (e1.trans e2.symm)

theorem store_ok2 {M : Model} {A : Around} {E : Value → Shared → Prop} {i : Nat} {x : Str} {v : V} {u : Value} {Q : Unit → Shared → Prop} (I : Inv X pins σ H s) (hN : X.N.Nodup) (hi : X.N[i]? = some x) (hx : Loc X.env.scope x) (r : RelV v u)
    (h : ∀ s', Inv X pins (σ.set i (some v)) H s' → (∃ a, Heap.SameBut a s.heap s'.heap ∧ (a = X.env.locals ∨ X.env.cells.lookup x = some a)) → Q () s') (hf : X.fn x = true ∨ X.env.scope.names.lookup x = some .local := by first | exact .inl rfl | exact .inr rfl | assumption) : wpAny M A (storeName X.env x u) Q E s := by
  obtain ⟨m, hn, hl⟩ := id I.loc
  have hcls : (X.env.scope.kind == .class || (X.env.scope.kind == .module && X.env.locals != X.env.globals)) = false := by rw [I.ok.kind]; rfl
  have hiσ : i < σ.length := by rw [I.len]; exact (List.getElem?_eq_some_iff.mp hi).1
  have cne := I.cne
  have tracked : ∀ {a : Addr} {h' : Heap}, (∃ o, s.heap.get? a = some o ∧ H a = none) → Heap.SameBut a s.heap h' → HOk X.prog X.w H h' := fun {a h'} ha hs b ob e => by
    obtain ⟨_, _, hfree⟩ := ha
    refine (I.hok b ob e).stay (fun c w' hc q => (hs.2 c ?_).trans q) (fun _ q => q) fun _ _ q => q
    rintro rfl
    rcases hc with rfl | hc
    · rw [hfree] at e; cases e
    · rw [hfree] at hc; cases hc
  rcases hx with hk | hk
  · refine wpAny_storeName_local hk hn (fun h' hn' hs => ?_) hcls
    obtain ⟨oL, _, _, hoL, _⟩ := id hn
    refine h _ ⟨I.ok, I.os, I.bare, ⟨fun b o e n hb hx => ?_, fun b o e n hb hx => ?_, I.base.free, fun b o e hx => ?_, I.base.tups, I.base.frzs, I.base.tbls⟩, ⟨_, hn', fun j y v' e1 e2 e3 => ?_⟩, fun y c e => ?_, I.free, I.freeC, fun p hp => ?_, tracked ⟨oL, hoL, I.free⟩ hs, by simpa using I.len⟩ ⟨_, hs, .inl rfl⟩
    · exact (hs.2 b (Nat.ne_of_lt (Nat.lt_of_lt_of_le (Heap.lt_size e) I.ok.above))).trans (I.base.keep b o e n hb hx)
    · obtain ⟨sl, e1⟩ := I.base.slot b o e n hb hx
      exact ⟨sl, (hs.2 b (Nat.ne_of_lt (Nat.lt_of_lt_of_le (Heap.lt_size e) I.ok.above))).trans e1⟩
    · obtain ⟨o', e1⟩ := I.base.there b o e hx
      exact ⟨o', (hs.2 b (Nat.ne_of_lt (Nat.lt_of_lt_of_le (Heap.lt_size e) I.ok.above))).trans e1⟩
    · by_cases hj : j = i
      · subst hj
        rw [hi] at e1; cases e1
        rw [List.getElem?_set_self hiσ] at e2
        cases e2
        exact ⟨u, r, .inl ⟨hk, by simp⟩⟩
      · rw [List.getElem?_set_ne (Ne.symm hj)] at e2
        obtain ⟨u', r', q⟩ := hl j y v' e1 e2 e3
        refine ⟨u', r', ?_⟩
        rcases q with ⟨k, e⟩ | ⟨k, c, e, z⟩
        · refine .inl ⟨k, ?_⟩
          have : y ≠ x := fun e => hj (nodup_ix hN e1 (e ▸ hi))
          simp [this, e]
        · exact .inr ⟨k, c, e, z.sameBut hs (cne y c e)⟩
    · obtain ⟨w', z⟩ := I.cell y c e
      exact ⟨w', z.sameBut hs (cne y c e)⟩
    · obtain ⟨e, n, ne, nf, d⟩ := I.pin p hp
      exact ⟨(hs.2 p.1 ne).trans e, n, ne, nf, d⟩
  · have hfn : X.fn x = true := by
      rcases hf with z | z
      · exact z
      · rw [z] at hk; cases hk
    obtain ⟨c, hc⟩ := I.ok.has x (.inl hk)
    obtain ⟨w', z⟩ := I.cell x c hc
    refine wpAny_storeName_cell I.ok.kind hk hc z (fun h' hc' hs => ?_)
    obtain ⟨oc, hoc, hocd⟩ := id z
    refine h { s with heap := h' } ⟨I.ok, I.os, I.bare, ⟨fun b o e n hb hx => ?_, fun b o e n hb hx => ?_, I.base.free, fun b o e hx => ?_, I.base.tups, I.base.frzs, I.base.tbls⟩, ⟨m, hn.sameBut hs (Ne.symm (cne x c hc)), fun j y v' e1 e2 e3 => ?_⟩, fun y c' e => ?_, I.free, I.freeC, fun p hp => ?_, tracked ⟨oc, hoc, I.freeC x c hc⟩ hs, by simpa using I.len⟩ ⟨c, hs, .inr hc⟩
    · exact (hs.2 b (Nat.ne_of_lt (Nat.lt_of_lt_of_le (Heap.lt_size e) (I.ok.cab x c hfn hc)))).trans (I.base.keep b o e n hb hx)
    · obtain ⟨sl, e1⟩ := I.base.slot b o e n hb hx
      exact ⟨sl, (hs.2 b (Nat.ne_of_lt (Nat.lt_of_lt_of_le (Heap.lt_size e) (I.ok.cab x c hfn hc)))).trans e1⟩
    · obtain ⟨o', e1⟩ := I.base.there b o e hx
      exact ⟨o', (hs.2 b (Nat.ne_of_lt (Nat.lt_of_lt_of_le (Heap.lt_size e) (I.ok.cab x c hfn hc)))).trans e1⟩
    · by_cases hj : j = i
      · subst hj
        rw [hi] at e1; cases e1
        rw [List.getElem?_set_self hiσ] at e2
        cases e2
        exact ⟨u, r, .inr ⟨.inl hk, c, hc, hc'⟩⟩
      · rw [List.getElem?_set_ne (Ne.symm hj)] at e2
        obtain ⟨u', r', q⟩ := hl j y v' e1 e2 e3
        refine ⟨u', r', ?_⟩
        rcases q with q | ⟨k, c', e, z'⟩
        · exact .inl q
        · refine .inr ⟨k, c', e, z'.sameBut hs ?_⟩
          rintro rfl
          exact hj (nodup_ix hN e1 (I.ok.inj _ _ _ e hc ▸ hi))
    · by_cases hcc : c' = c
      · subst hcc; exact ⟨_, hc'⟩
      · obtain ⟨w2, z2⟩ := I.cell y c' e
        exact ⟨w2, z2.sameBut hs hcc⟩
    · obtain ⟨e, n, ne, nf, d⟩ := I.pin p hp
      refine ⟨(hs.2 p.1 ?_).trans e, n, ne, nf, d⟩
      intro q
      rw [q, hoc] at e
      have q' : oc = p.2 := Option.some.inj e
      exact d w' (by rw [← q']; exact hocd)
theorem store_ok {M : Model} {A : Around} {E : Value → Shared → Prop} {i : Nat} {x : Str} {v : V} {u : Value} {Q : Unit → Shared → Prop} (I : Inv X pins σ H s) (hN : X.N.Nodup) (hi : X.N[i]? = some x) (hx : Loc X.env.scope x) (r : RelV v u)
    (h : ∀ s', Inv X pins (σ.set i (some v)) H s' → Q () s') (hf : X.fn x = true ∨ X.env.scope.names.lookup x = some .local := by first | exact .inl rfl | exact .inr rfl | assumption) : wpAny M A (storeName X.env x u) Q E s :=
  store_ok2 I hN hi hx r (fun s' I' _ => h s' I') hf
theorem Inv.call' {s' : Shared} {ch : List Addr} (I : Inv X pins σ H s) (ho : s'.os = s.os) (u : Un (frs X.stack) ch H H' s.heap s'.heap) (hok : HOk X.prog X.w H' s'.heap) (hg : AllBare s'.gens)
    (hch : ∀ b ∈ ch, (b ∈ X.ex ∨ X.s₀.heap.objs.size ≤ b) ∧ b ≠ X.env.locals ∧ (∀ x c, X.env.cells.lookup x = some c → c ≠ b) ∧ ∀ p ∈ X.pn ++ pins, p.1 ≠ b) : Inv X pins σ H' s' := by
  obtain ⟨h', g', d', t', o'⟩ := s'
  have e : o' = s.os := ho
  subst e
  exact I.call (g' := g') (t' := t') (d' := d') u hok hg hch
end

abbrev XK := Value → Option Addr → Hp → Prop
abbrev St := List (Option V)
abbrev VK := V → Hp → Prop
abbrev TE := St → Hp → VK → Prop
abbrev TT := St → Hp → (Bool → Hp → Prop) → Prop
abbrev TA := St → Hp → (List V → Hp → Prop) → Prop
structure Ends where
  nx : St → Hp → Prop
  rt : VK
  bk : St → Hp → Prop := fun _ _ => False
  ct : St → Hp → Prop := fun _ _ => False
abbrev TS := Ends → St → Hp → Prop

def EP (X : Cx) (pins : List (Addr × Obj)) (σ : St) (Q : VK) (u : Value) (s' : Shared) : Prop := ∃ v H', Inv X pins σ H' s' ∧ RelV v u ∧ Q v H'
def TP (X : Cx) (pins : List (Addr × Obj)) (σ : St) (Q : Bool → Hp → Prop) (b : Bool) (s' : Shared) : Prop := ∃ H', Inv X pins σ H' s' ∧ Q b H'
def AP (X : Cx) (pins : List (Addr × Obj)) (σ : St) (Q : List V → Hp → Prop) (us : List Value) (s' : Shared) : Prop := ∃ vs H', Inv X pins σ H' s' ∧ Vals vs us ∧ Q vs H'
def SP (X : Cx) (pins : List (Addr × Obj)) (D : Ends) (f : Flow) (s' : Shared) : Prop :=
  match f with
  | .next => ∃ σ' H', Inv X pins σ' H' s' ∧ D.nx σ' H'
  | .brk => ∃ σ' H', Inv X pins σ' H' s' ∧ D.bk σ' H'
  | .cont => ∃ σ' H', Inv X pins σ' H' s' ∧ D.ct σ' H'
  | .ret u => ∃ v σ' H', Inv X pins σ' H' s' ∧ RelV v u ∧ D.rt v H'

def PE (X : Cx) (e : Expr) (t : TE) : Prop :=
  ∀ (pins : List (Addr × Obj)) (s : Shared) (σ : St) (H : Hp) (Q : VK), Inv X pins σ H s → t σ H Q → wpAny (model X.prog X.w) X.A (eval e X.env) (EP X pins σ Q) X.xe s
def PT (X : Cx) (e : Expr) (t : TT) : Prop :=
  ∀ (pins : List (Addr × Obj)) (s : Shared) (σ : St) (H : Hp) (Q : Bool → Hp → Prop), Inv X pins σ H s → t σ H Q → wpAny (model X.prog X.w) X.A (isTrue e X.env (eval e X.env)) (TP X pins σ Q) X.xe s
def PW (X : Cx) (e : Expr) (t : TT) : Prop :=
  ∀ (whole : Sem Value) (pins : List (Addr × Obj)) (s : Shared) (σ : St) (H : Hp) (Q : Bool → Hp → Prop), Inv X pins σ H s → t σ H Q → wpAny (model X.prog X.w) X.A (isTrue e X.env whole) (TP X pins σ Q) X.xe s
theorem PW.pt {X : Cx} {e : Expr} {t : TT} (h : PW X e t) : PT X e t := h _
def PA (X : Cx) (es : List Expr) (t : TA) : Prop :=
  ∀ (pos : Pos) (pins : List (Addr × Obj)) (s : Shared) (σ : St) (H : Hp) (Q : List V → Hp → Prop), Inv X pins σ H s → t σ H Q → wpAny (model X.prog X.w) X.A (spliced (backTo pos (starEach es X.env))) (AP X pins σ Q) X.xe s
def PS (X : Cx) (st : Stmt) (t : TS) : Prop :=
  ∀ (pins : List (Addr × Obj)) (s : Shared) (σ : St) (H : Hp) (D : Ends), Inv X pins σ H s → t D σ H → wpAny (model X.prog X.w) X.A (exec st X.env) (SP X pins D) X.xe s
def PSs (X : Cx) (st : List Stmt) (t : TS) : Prop :=
  ∀ (pins : List (Addr × Obj)) (s : Shared) (σ : St) (H : Hp) (D : Ends), Inv X pins σ H s → t D σ H → wpAny (model X.prog X.w) X.A (execs st X.env) (SP X pins D) X.xe s
theorem thn {α : Type} {t : Sem α} {Q Q' : α → Shared → Prop} {M : Model} {A : Around} {E : Value → Shared → Prop} {s : Shared} (h : wpAny M A t Q E s) (hQ : ∀ a s, Q a s → Q' a s) : wpAny M A t Q' E s := wpAny_mono h hQ fun _ _ x => x
end L2

namespace L2
open PySem PySem.Spec PyProof.Rows
section
variable {X : Cx}

def tVar (i : Nat) : TE := fun σ H Q => ∃ v, σ[i]? = some (some v) ∧ Q v H
def tC (v : V) : TE := fun _ H Q => Q v H
theorem pe_var {i : Nat} {x : Str} {pos : Pos} (hN : X.N[i]? = some x) (hv : Vis X.env.scope x) (hd : (x == ("__debug__" : Str)) = false := by decide) (hcd : (x == ("__classdict__" : Str)) = false := by decide) : PE X (.Name x pos) (tVar i) := by
  intro pins s σ H Q I h
  obtain ⟨v, e, h⟩ := h
  obtain ⟨m, hn, hl⟩ := I.loc
  obtain ⟨u, r, l⟩ := hl i x v hN e hv
  have fin : EP X pins σ Q u s := ⟨v, H, I, r, h⟩
  rcases l with ⟨hk, hm⟩ | ⟨hk, c, hc, hcell⟩
  · exact wpAny_Name (wpAny_loadName_local I.ok.kind hk hn hm fin) hd
  · rcases hk with hk | hk
    · exact wpAny_Name (wpAny_loadName_cell I.ok.kind hk hc hcell fin) hd
    · exact wpAny_Name (wpAny_loadName_free I.ok.kind hk hc hcell fin hcd) hd
theorem pe_int {i j pos} : PE X (.Constant (.int i) j pos) (tC (.int i)) := fun _ _ _ H _ I h => wpAny_Constant_int ⟨.int i, H, I.tok _, ⟨_, rfl⟩, h⟩
theorem pe_bl {b j pos} : PE X (.Constant (.bool b) j pos) (tC (.bl b)) := fun _ _ _ H _ I h => Constant_bool ⟨.bl b, H, I, rfl, h⟩
theorem pe_non {j pos} : PE X (.Constant .none j pos) (tC .non) := fun _ _ _ H _ I h => Constant_none ⟨.non, H, I, rfl, h⟩
theorem pe_str {x j pos} : PE X (.Constant (.str x) j pos) (tC (.str x)) := fun _ _ _ H _ I h => Calls.Constant_str ⟨.str x, H, I.tok _, ⟨_, rfl⟩, h⟩

def Gl (X : Cx) (x : Str) : Prop := X.env.kindOf x = some .globalImplicit
theorem ld_glob {E : Value → Shared → Prop} {pins : List (Addr × Obj)} {s : Shared} {σ : St} {H : Hp} {x : Str} {u : Value} {pos : Pos} {Q : Value → Shared → Prop} (I : Inv X pins σ H s) (hg : Gl X x) (hm : X.mg x = some u) (h : Q u s)
    (hd : (x == ("__debug__" : Str)) = false := by decide) : wpAny (model X.prog X.w) X.A (eval (.Name x pos) X.env) Q E s :=
  Calls.Name_function_global I.ok.kind hg (Calls.loadGlobal_global (by rw [I.ok.glob]; exact I.mod.glob.keeps I.bk) hm h) hd
theorem ld_blt {E : Value → Shared → Prop} {pins : List (Addr × Obj)} {s : Shared} {σ : St} {H : Hp} {x : Str} {u : Value} {pos : Pos} {Q : Value → Shared → Prop} (I : Inv X pins σ H s) (hg : Gl X x) (hm : X.mg x = none) (hv : bootBuiltins x = some u) (h : Q u s)
    (hn : x ≠ "__name__" := by decide) (hd : (x == ("__debug__" : Str)) = false := by decide) : wpAny (model X.prog X.w) X.A (eval (.Name x pos) X.env) Q E s := by
  obtain ⟨mb, h1, h2⟩ := I.mod.blt
  exact Calls.Name_function_global I.ok.kind hg (Calls.loadGlobal_builtin (by rw [I.ok.glob]; exact I.mod.glob.keeps I.bk) hm (by rw [I.ok.blt]; exact h1.keeps I.bk) ((h2 x hn).trans hv) h) hd
theorem pe_glob {x : Str} {v : V} {u : Value} {pos : Pos} (hg : Gl X x) (hm : X.mg x = some u) (r : RelV v u) (hd : (x == ("__debug__" : Str)) = false := by decide) : PE X (.Name x pos) (tC v) :=
  fun _ _ _ H _ I h => ld_glob I hg hm ⟨v, H, I, r, h⟩ hd
theorem pe_bltn {x : Str} {v : V} {u : Value} {pos : Pos} (hg : Gl X x) (hm : X.mg x = none) (hv : bootBuiltins x = some u) (r : RelV v u) (hn : x ≠ "__name__" := by decide) (hd : (x == ("__debug__" : Str)) = false := by decide) : PE X (.Name x pos) (tC v) :=
  fun _ _ _ H _ I h => ld_blt I hg hm hv ⟨v, H, I, r, h⟩ hn hd

variable {a b : Expr} {ta tb : TE} {pos : Pos}
variable {tA tB' : TT} {rest : List Expr}
def tAnd (t u : TT) : TT := fun σ H Q => t σ H fun c H1 => if c = true then u σ H1 Q else Q false H1
def tOr (t u : TT) : TT := fun σ H Q => t σ H fun c H1 => if c = true then Q true H1 else u σ H1 Q
def tNot (t : TT) : TT := fun σ H Q => t σ H fun c H1 => Q (!c) H1
theorem pw_and1 (ha : PT X a tA) : PW X (.BoolOp .And [a] pos) tA := by
  intro wh pins s σ H Q I h
  refine isTrue_and (thn (ha pins s σ H Q I h) fun c s1 e => ?_)
  cases c with
  | true => exact isTrue_and_nil e
  | false => exact e
theorem pw_or1 (ha : PT X a tA) : PW X (.BoolOp .Or [a] pos) tA := by
  intro wh pins s σ H Q I h
  refine isTrue_or (thn (ha pins s σ H Q I h) fun c s1 e => ?_)
  cases c with
  | false => exact isTrue_or_nil e
  | true => exact e
theorem pw_and (ha : PT X a tA) (hb : PW X (.BoolOp .And (b :: rest) pos) tB') : PW X (.BoolOp .And (a :: b :: rest) pos) (tAnd tA tB') := by
  intro wh pins s σ H Q I h
  refine isTrue_and (thn (ha pins s σ H _ I h) fun c s1 hQQ => ?_)
  obtain ⟨H1, I1, q1⟩ := hQQ
  cases c with
  | true => exact hb wh pins s1 σ H1 Q I1 q1
  | false => exact ⟨H1, I1, q1⟩
theorem pw_or (ha : PT X a tA) (hb : PW X (.BoolOp .Or (b :: rest) pos) tB') : PW X (.BoolOp .Or (a :: b :: rest) pos) (tOr tA tB') := by
  intro wh pins s σ H Q I h
  refine isTrue_or (thn (ha pins s σ H _ I h) fun c s1 hQQ => ?_)
  obtain ⟨H1, I1, q1⟩ := hQQ
  cases c with
  | true => exact ⟨H1, I1, q1⟩
  | false => exact hb wh pins s1 σ H1 Q I1 q1
theorem pt_not (ha : PT X a tA) : PT X (.UnaryOp .Not a pos) (tNot tA) := by
  intro pins s σ H Q I h
  exact isTrue_not (ha pins s σ H (fun c H1 => Q (!c) H1) I h)
def tAndV (ta tb : TE) : TE := fun σ H Q => ta σ H fun x H1 => ∃ c, x = .bl c ∧ if c = true then tb σ H1 Q else Q (.bl false) H1
def tNotV (ta : TE) : TE := fun σ H Q => ta σ H fun x H1 => ∃ c, x = .bl c ∧ Q (.bl (!c)) H1
theorem pe_one {op} {t : TE} (h : PE X a t) : PE X (.BoolOp op [a] pos) t := fun pins s σ H Q I hw => BoolOp_one (h pins s σ H Q I hw)
theorem pe_and (ha : PE X a ta) (hb : PE X (.BoolOp .And (b :: rest) pos) tb) : PE X (.BoolOp .And (a :: b :: rest) pos) (tAndV ta tb) := by
  intro pins s σ H Q I h
  refine BoolOp_and (thn (ha pins s σ H _ I h) fun v s1 hQQ => ?_)
  obtain ⟨x, H1, I1, r1, q1⟩ := hQQ
  obtain ⟨c, rfl, q1⟩ := q1
  cases r1
  refine wpAny_truthy_bool ?_
  cases c with
  | true => exact hb pins s1 σ H1 Q I1 q1
  | false => exact ⟨.bl false, H1, I1, rfl, q1⟩
theorem pe_not (ha : PE X a ta) : PE X (.UnaryOp .Not a pos) (tNotV ta) := by
  intro pins s σ H Q I h
  refine UnaryOp_ (thn (ha pins s σ H _ I h) fun v s1 hQQ => ?_)
  obtain ⟨x, H1, I1, r1, q1⟩ := hQQ
  obtain ⟨c, rfl, q1⟩ := q1
  cases r1
  exact not_of (wpAny_truthy_bool ⟨.bl (!c), H1, I1, rfl, q1⟩)
def tIf (t : TT) (ta tb : TE) : TE := fun σ H Q => t σ H fun c H1 => if c = true then ta σ H1 Q else tb σ H1 Q
theorem pe_ifExp {c : Expr} (hc : PT X c tA) (ha : PE X a ta) (hb : PE X b tb) : PE X (.IfExp c a b pos) (tIf tA ta tb) := by
  intro pins s σ H Q I h
  refine wpAny_IfExp (thn (hc pins s σ H _ I h) fun d s1 hQQ => ?_)
  obtain ⟨H1, I1, q1⟩ := hQQ
  cases d with
  | true => exact ha pins s1 σ H1 Q I1 q1
  | false => exact hb pins s1 σ H1 Q I1 q1
end
end L2

namespace L2
open PySem PySem.Spec PyProof.Rows

def SqL (K : PySem.W.Frag) (H : Hp) (a : Addr) (xs : List V) : Prop :=
  Rd H a (.lst xs) ∨
    ∃ (o : Obj) (its : Array Value) (n : Nat), K.lookup a = some o ∧ o.cls = .type "list" ∧ o.dict = none ∧ o.data = .seq its n ∧ its.size ≤ sizeLine ∧ Vals xs its.toList
def SqT (K : PySem.W.Frag) (H : Hp) (a : Addr) (xs : List V) : Prop :=
  Rd H a (.tup xs) ∨
    ∃ (o : Obj) (its : Array Value) (n : Nat), K.lookup a = some o ∧ o.cls = .type "tuple" ∧ o.data = .seq its n ∧ its.size ≤ sizeLine ∧ Vals xs its.toList
def absV : Value → Option V
  | .none => some .non
  | .bool b => some (.bl b)
  | .int i _ => some (.int i)
  | .str x _ => some (.str x)
  | .bytes b _ => some (.byt b)
  | .float b _ => some (.flt b)
  | .ref a => some (.ref a)
  | .type n => some (.ty n)
  | _ => none
theorem RelV.abs {x : V} {u : Value} (r : RelV x u) : absV u = some x := by
  cases x with
  | non => cases r; rfl
  | bl _ => cases r; rfl
  | int _ => obtain ⟨t, rfl⟩ := r; rfl
  | str _ => obtain ⟨t, rfl⟩ := r; rfl
  | byt _ => obtain ⟨t, rfl⟩ := r; rfl
  | flt _ => obtain ⟨t, rfl⟩ := r; rfl
  | ref _ => cases r; rfl
  | ty _ => cases r; rfl
theorem RelV.inj {x y : V} {u : Value} (r : RelV x u) (q : RelV y u) : x = y := Option.some.inj (r.abs.symm.trans q.abs)
theorem Vals.inj {xs ys : List V} {us : List Value} (h : Vals xs us) (h' : Vals ys us) : xs = ys := by
  induction h generalizing ys with
  | nil => cases h'; rfl
  | cons r t ih =>
    cases h' with
    | cons r' t' => rw [r.inj r', ih t']
section
variable {X : Cx} {pins : List (Addr × Obj)} {σ : St} {H : Hp} {s : Shared} {a : Addr} {xs ys : List V}
theorem SqL.of {K : PySem.W.Frag} (h : H a = some (.lst xs)) : SqL K H a xs := .inl (.inl h)
theorem SqT.of {K : PySem.W.Frag} (h : H a = some (.tup xs)) : SqT K H a xs := .inl (.inl h)
theorem Inv.list (I : Inv X pins σ H s) (h : SqL X.K H a xs) : ∃ its : List Value, Vals xs its ∧ PlainL s.heap a its.toArray ∧ xs.length ≤ sizeLine := by
  rcases h with h | ⟨o, its, n, hk, hc, hd, hs, hz, r⟩
  · obtain ⟨z, its, n, r, e⟩ := h.ok I.hok
    exact ⟨its, r, ⟨_, n, e, rfl, rfl, rfl⟩, z⟩
  · refine ⟨its.toList, r, ⟨o, n, I.kIn a o hk, hc, hd, by simpa using hs⟩, ?_⟩
    have e := r.length
    simp only [Array.length_toList] at e
    omega
theorem Inv.tuple (I : Inv X pins σ H s) (h : SqT X.K H a xs) : ∃ its : List Value, Vals xs its ∧ IsTup s.heap a its.toArray ∧ xs.length ≤ sizeLine := by
  rcases h with h | ⟨o, its, n, hk, hc, hs, hz, r⟩
  · obtain ⟨z, its, r, p⟩ := h.ok I.hok
    exact ⟨its, r, p, z⟩
  · refine ⟨its.toList, r, ⟨o, I.kIn a o hk, hc, n, by simpa using hs⟩, ?_⟩
    have e := r.length
    simp only [Array.length_toList] at e
    omega
theorem Inv.list_inj (I : Inv X pins σ H s) (h : SqL X.K H a xs) (h' : SqL X.K H a ys) : xs = ys := by
  obtain ⟨its, r, ⟨o, n, e, _, _, d⟩, _⟩ := I.list h
  obtain ⟨its', r', ⟨o', n', e', _, _, d'⟩, _⟩ := I.list h'
  rw [e] at e'; cases e'
  rw [d] at d'
  injection d' with d1 _
  have : its = its' := by simpa using congrArg Array.toList d1
  subst this
  exact r.inj r'
theorem Inv.tuple_inj (I : Inv X pins σ H s) (h : SqT X.K H a xs) (h' : SqT X.K H a ys) : xs = ys := by
  obtain ⟨its, r, ⟨o, e, _, n, d⟩, _⟩ := I.tuple h
  obtain ⟨its', r', ⟨o', e', _, n', d'⟩, _⟩ := I.tuple h'
  rw [e] at e'; cases e'
  rw [d] at d'
  injection d' with d1 _
  have : its = its' := by simpa using congrArg Array.toList d1
  subst this
  exact r.inj r'
end

abbrev Cx.wish (X : Cx) (E : Value → Shared → Prop) : Cx := { X with xe := E }
abbrev Cx.nox (X : Cx) : Cx := X.wish fun _ _ => False
theorem Cx.Ok.wish {X : Cx} (ok : X.Ok) (E : Value → Shared → Prop) : (X.wish E).Ok :=
  ⟨ok.mod, ok.kind, ok.glob, ok.blt, ok.above, ok.inj, ok.has, ok.cab, ok.hd, ok.frames, ok.stk, ok.exf, ok.bs, ok.bsz, ok.noex, ok.exfs, ok.funs, ok.frf⟩
theorem Cx.Ok.unwish {X : Cx} {E : Value → Shared → Prop} (ok : (X.wish E).Ok) : X.Ok :=
  ⟨ok.mod, ok.kind, ok.glob, ok.blt, ok.above, ok.inj, ok.has, ok.cab, ok.hd, ok.frames, ok.stk, ok.exf, ok.bs, ok.bsz, ok.noex, ok.exfs, ok.funs, ok.frf⟩
section
variable {X : Cx} {pins : List (Addr × Obj)} {σ : St} {H : Hp} {s : Shared} {E : Value → Shared → Prop}
theorem Inv.wish (I : Inv X pins σ H s) (E : Value → Shared → Prop) : Inv (X.wish E) pins σ H s := ⟨I.ok.wish E, I.os, I.bare, I.base, I.loc, I.cell, I.free, I.freeC, I.pin, I.hok, I.len⟩
theorem Inv.unwish (I : Inv (X.wish E) pins σ H s) : Inv X pins σ H s := ⟨I.ok.unwish, I.os, I.bare, I.base, I.loc, I.cell, I.free, I.freeC, I.pin, I.hok, I.len⟩
theorem SP.unwish {D : Ends} {f : Flow} {s' : Shared} (h : SP (X.wish E) pins D f s') : SP X pins D f s' := by
  cases f with
  | next => obtain ⟨σ', H', I, q⟩ := h; exact ⟨σ', H', I.unwish, q⟩
  | brk => obtain ⟨σ', H', I, q⟩ := h; exact ⟨σ', H', I.unwish, q⟩
  | cont => obtain ⟨σ', H', I, q⟩ := h; exact ⟨σ', H', I.unwish, q⟩
  | ret u => obtain ⟨v, σ', H', I, r, q⟩ := h; exact ⟨v, σ', H', I.unwish, r, q⟩
theorem PE.nox {e : Expr} {t : TE} (h : PE X.nox e t) : PE X e t := fun pins s σ H Q I hw =>
  wpAny_mono (h pins s σ H Q (I.wish _) hw) (fun _ _ ⟨v, H', I', r, q⟩ => ⟨v, H', I'.unwish, r, q⟩) fun _ _ z => False.elim z
theorem PT.nox {e : Expr} {t : TT} (h : PT X.nox e t) : PT X e t := fun pins s σ H Q I hw =>
  wpAny_mono (h pins s σ H Q (I.wish _) hw) (fun _ _ ⟨H', I', q⟩ => ⟨H', I'.unwish, q⟩) fun _ _ z => False.elim z
theorem PSs.nox {st : List Stmt} {t : TS} (h : PSs X.nox st t) : PSs X st t := fun pins s σ H D I hw =>
  wpAny_mono (h pins s σ H D (I.wish _) hw) (fun _ _ q => q.unwish) fun _ _ z => False.elim z
end

section
variable {X : Cx} {st : Stmt} {rest : List Stmt} {t u : TS} {e : Expr} {te : TE} {pos : Pos}
def tNext : TS := fun D σ H => D.nx σ H
def tSeq (t u : TS) : TS := fun D σ H => t { D with nx := u D } σ H
theorem pss_nil : PSs X [] tNext := fun _ _ σ H _ I h => wpAny_execs_nil ⟨σ, H, I, h⟩
theorem pss_cons (h1 : PS X st t) (h2 : PSs X rest u) : PSs X (st :: rest) (tSeq t u) := by
  intro pins s σ H D I h
  refine wpAny_execs_cons (thn (h1 pins s σ H { D with nx := u D } I h) fun f s1 q => ?_)
  cases f with
  | next =>
    obtain ⟨σ', H', I', q⟩ := q
    exact h2 pins s1 σ' H' D I' q
  | ret v => exact q
  | brk => exact q
  | cont => exact q
theorem pss_one (h1 : PS X st t) : PSs X [st] t := by
  intro pins s σ H D I h
  refine wpAny_execs_cons (thn (h1 pins s σ H D I h) fun f s1 q => ?_)
  cases f with
  | next => exact wpAny_execs_nil q
  | ret v => exact q
  | brk => exact q
  | cont => exact q
theorem Inv.quiet {pins : List (Addr × Obj)} {σ : St} {H : Hp} {s : Shared} (I : Inv X pins σ H s) : interactive X.env = false := by simp [interactive, I.ok.kind]
def tDrop (te : TE) : TS := fun D σ H => te σ H fun _ H1 => D.nx σ H1
theorem ps_expr (he : PE X e te) (hs : swapsWith e none pos.line X.env = pure false := by rfl) : PS X (.Expr e pos) (tDrop te) := by
  intro pins s σ H D I h
  exact wpAny_Expr_any (thn (he pins s σ H _ I h) fun v s1 ⟨x, H1, I1, r1, q1⟩ => ⟨σ, H1, I1, q1⟩) I.quiet hs
def tRet (te : TE) : TS := fun D σ H => te σ H D.rt
theorem ps_ret (he : PE X e te) : PS X (.Return (some e) pos) (tRet te) := by
  intro pins s σ H D I h
  exact wpAny_Return_some (thn (he pins s σ H _ I h) fun v s1 ⟨x, H1, I1, r1, q1⟩ => ⟨x, σ, H1, I1, r1, q1⟩)
def tIfS (c : TT) (t u : TS) : TS := fun D σ H => c σ H fun b H1 => if b = true then t D σ H1 else u D σ H1
theorem ps_if {c : Expr} {a b : List Stmt} {tc : TT} (hc : PT X c tc) (ha : PSs X a t) (hb : PSs X b u) : PS X (.If c a b pos) (tIfS tc t u) := by
  intro pins s σ H D I h
  refine wpAny_If (thn (hc pins s σ H _ I h) fun d s1 hQQ => ?_)
  obtain ⟨H1, I1, q1⟩ := hQQ
  cases d with
  | true => exact ha pins s1 σ H1 D I1 q1
  | false => exact hb pins s1 σ H1 D I1 q1
def tNever : TS := fun _ _ _ => False
theorem ps_never : PS X st tNever := fun _ _ _ _ _ _ h => h.elim
end

abbrev TG := V → St → Hp → (St → Hp → Prop) → Prop
abbrev TGs := List V → St → Hp → (St → Hp → Prop) → Prop
def PG (X : Cx) (target : Expr) (t : TG) : Prop :=
  ∀ (pins : List (Addr × Obj)) (s : Shared) (σ : St) (H : Hp) (v : V) (u : Value) (Q : St → Hp → Prop), Inv X pins σ H s → RelV v u → t v σ H Q →
    wpAny (model X.prog X.w) X.A (assign target X.env u) (fun _ s' => ∃ σ' H', Inv X pins σ' H' s' ∧ Q σ' H') X.xe s
def PGs (X : Cx) (ts : List Expr) (t : TGs) : Prop :=
  ∀ (pins : List (Addr × Obj)) (s : Shared) (σ : St) (H : Hp) (vs : List V) (us : List Value) (Q : St → Hp → Prop), Inv X pins σ H s → Vals vs us → t vs σ H Q →
    wpAny (model X.prog X.w) X.A (assignInOrder ((assignEach ts X.env).map (·.2)) us) (fun _ s' => ∃ σ' H', Inv X pins σ' H' s' ∧ Q σ' H') X.xe s
abbrev TSet := V → V → V → Hp → (Hp → Prop) → Prop
def PSet (X : Cx) (t : TSet) : Prop :=
  ∀ (pins : List (Addr × Obj)) (s : Shared) (σ : St) (H : Hp) (o i v : V) (ov iv u : Value) (Q : Hp → Prop), Inv X pins σ H s → RelV o ov → RelV i iv → RelV v u → t o i v H Q →
    wpAny (model X.prog X.w) X.A (setItem ov iv u) (fun _ s' => ∃ H', Inv X pins σ H' s' ∧ Q H') X.xe s
section
variable {X : Cx} {pos : Pos}
def gName (i : Nat) : TG := fun v σ H Q => Q (σ.set i (some v)) H
theorem pg_name {i : Nat} {x : Str} (hN : X.N.Nodup) (hi : X.N[i]? = some x) (hx : Loc X.env.scope x) (hf : X.fn x = true ∨ X.env.scope.names.lookup x = some .local := by first | exact .inl rfl | exact .inr rfl | assumption) : PG X (.Name x pos) (gName i) := by
  intro pins s σ H v u Q I r h
  exact wpAny_assign_Name (store_ok I hN hi hx r (fun s' I' => ⟨_, H, I', h⟩) hf)
def gNil : TGs := fun vs σ H Q => vs = [] ∧ Q σ H
def gCons (t : TG) (u : TGs) : TGs := fun vs σ H Q => ∃ v r, vs = v :: r ∧ t v σ H fun σ' H' => u r σ' H' Q
theorem pgs_nil : PGs X [] gNil := by
  intro pins s σ H vs us Q I r h
  obtain ⟨e, h⟩ := h
  subst e
  cases r
  exact assignInOrder_nil ⟨σ, H, I, h⟩
theorem pgs_cons {e : Expr} {es : List Expr} {t : TG} {u : TGs} (h1 : PG X e t) (h2 : PGs X es u)
    (hs : (assignEach (e :: es) X.env).map (·.2) = assign e X.env :: (assignEach es X.env).map (·.2) := by rfl) : PGs X (e :: es) (gCons t u) := by
  intro pins s σ H vs us Q I r h
  obtain ⟨v, vr, e1, h⟩ := h
  subst e1
  cases r with
  | cons r rr =>
    rw [hs]
    refine assignInOrder_cons (thn (h1 pins s σ H _ _ _ I r h) fun _ s1 hQQ => ?_)
    obtain ⟨σ1, H1, I1, q1⟩ := hQQ
    exact h2 pins s1 σ1 H1 _ _ Q I1 rr q1
def gTup (K : PySem.W.Frag) (n : Nat) (t : TGs) : TG := fun v σ H Q => ∃ a xs, v = .ref a ∧ SqT K H a xs ∧ xs.length = n ∧ t xs σ H Q
theorem pg_tup {es : List Expr} {k : Nat} {t : TGs} {n : Nat} (hc : X.calm = true) (h : PGs X es t)
    (hn : (assignEach es X.env).length = n := by rfl) (hst : (assignEach es X.env).findIdx? (·.1) = none := by rfl) : PG X (.Tuple es k pos) (gTup X.K n t) := by
  intro pins s σ H v u Q I r hw
  obtain ⟨a, xs, e1, hq, hl, hw⟩ := hw
  subst e1
  cases r
  obtain ⟨its, rv, ht, hz⟩ := I.tuple hq
  refine assign_Tuple_tuple (I.ok.hd hc) ht (by simp [hn, ← hl, rv.length]) hst fun h' hx => ?_
  have I1 : Inv X pins σ H { s with heap := h' } := I.kept (t' := s.toks) fun b o e => hx b o (Nat.ne_of_lt (Heap.lt_size e)) e
  exact h pins _ σ H xs _ Q I1 (by simpa using rv) hw
def gSub (to ti : TE) (t : TSet) : TG := fun v σ H Q => to σ H fun o H1 => ti σ H1 fun i H2 => t o i v H2 fun H3 => Q σ H3
theorem pg_sub {o i : Expr} {to ti : TE} {t : TSet} (ho : PE X o to) (hi : PE X i ti) (hs : PSet X t)
    (ha : ∀ v, assign (.Subscript o i pos) X.env v = (do
      let ov ← holding [v] (eval o X.env)
      let iv ← holding [v, ov] (eval i X.env)
      standAt pos
      holding [v, ov, iv] (setItem ov iv v)
      release [v, ov, iv] []) := by intro _; rfl) : PG X (.Subscript o i pos) (gSub to ti t) := by
  intro pins s σ H v u Q I r h
  rw [ha]
  refine wpAny_bind (wpAny_holding (thn (ho pins s σ H _ I h) fun ov s1 hQQ => ?_))
  obtain ⟨x, H1, I1, r1, q1⟩ := hQQ
  refine wpAny_bind (wpAny_holding (thn (hi pins s1 σ H1 _ I1 q1) fun iv s2 hQQ => ?_))
  obtain ⟨y, H2, I2, r2, q2⟩ := hQQ
  refine wpAny_bind (wpAny_standAt (wpAny_bind (wpAny_holding (thn (hs pins s2 σ H2 x y v ov iv u _ I2 r1 r2 r q2) fun _ s3 hQQ => ?_))))
  obtain ⟨H3, I3, q3⟩ := hQQ
  exact wpAny_release ⟨σ, H3, I3, q3⟩
def tAsg (te : TE) (g : TG) : TS := fun D σ H => te σ H fun x H1 => g x σ H1 D.nx
theorem ps_asg {tg e : Expr} {te : TE} {g : TG} (he : PE X e te) (hg : PG X tg g) (hs : swapsWithSole [tg] e pos.line X.env = pure false := by rfl) (hw : swappedStores [tg] e X.env = pure none := by rfl)
    (h1 : (assignEach [tg] X.env).map (·.2) = [assign tg X.env] := by rfl) : PS X (.Assign [tg] e pos) (tAsg te g) := by
  intro pins s σ H D I h
  refine wpAny_Assign_stores (thn (he pins s σ H _ I h) fun v s1 hQQ => ?_) hs hw
  obtain ⟨x, H1, I1, r1, q1⟩ := hQQ
  rw [h1]
  exact thn (hg pins s1 σ H1 x v _ I1 r1 q1) fun _ s2 q => q
theorem ps_set {i : Nat} {x : Str} {e : Expr} {te : TE} {pos' : Pos} (hN : X.N.Nodup) (hi : X.N[i]? = some x) (hx : Loc X.env.scope x) (he : PE X e te) (hs : swapsWith e (some (.Name x pos')) pos.line X.env = pure false := by rfl) (hf : X.fn x = true ∨ X.env.scope.names.lookup x = some .local := by first | exact .inl rfl | exact .inr rfl | assumption) :
    PS X (.Assign [.Name x pos'] e pos) (tAsg te (gName i)) := by
  intro pins s σ H D I h
  refine wpAny_Assign_Name (thn (he pins s σ H _ I h) fun v s1 hQQ => ?_) hs
  obtain ⟨y, H1, I1, r1, q1⟩ := hQQ
  exact store_ok I1 hN hi hx r1 (fun s2 I2 => ⟨_, H1, I2, q1⟩) hf
end

section
variable {X : Cx} {pos : Pos}
end

structure It where
  go : Nat → Hp → Prop
  yld : Nat → Hp → V → Hp → Prop
  stop : Nat → Hp → Prop
def FpOk (X : Cx) (pins : List (Addr × Obj)) (H : Hp) (b : Addr) : Prop :=
  H b = none ∧ b ≠ X.env.locals ∧ b ∉ X.fs ∧ (b ∈ X.ex ∨ X.s₀.heap.objs.size ≤ b) ∧ (∀ x c, X.env.cells.lookup x = some c → c ≠ b) ∧ ∀ p ∈ X.pn ++ pins, p.1 ≠ b
theorem Inv.fpOk {X : Cx} {pins : List (Addr × Obj)} {σ : St} {H H' : Hp} {s : Shared} {b : Addr} (I : Inv X pins σ H s) (hb : s.heap.objs.size ≤ b) (hn : H' b = none) : FpOk X pins H' b := by
  refine ⟨hn, Nat.ne_of_gt (Nat.lt_of_lt_of_le I.lt hb), I.nofs hb, .inr (Nat.le_trans I.sz hb), fun x c e z => ?_, fun p hp z => ?_⟩
  · obtain ⟨v, q⟩ := I.cell x c e
    exact absurd (Nat.lt_of_lt_of_le q.lt (by rw [z]; exact hb)) (Nat.lt_irrefl _)
  · exact absurd (Nat.lt_of_lt_of_le (Heap.lt_size (I.pin p hp).1) (by rw [z]; exact hb)) (Nat.lt_irrefl _)
structure Turn (P : Program) (w : World) (K : PySem.W.Frag) (tg : Expr) (J : It) (fp : List Addr) (it : Addr) (tn : Nat → Heap → Prop) : Prop where
  mem : it ∈ fp
  obj : ∀ i h, tn i h → ∀ b ∈ fp, ∃ o, h.get? b = some o ∧ ∀ v, o.data ≠ .cell v
  keep : ∀ i h h', tn i h → (∀ b ∈ fp, ∀ o, h.get? b = some o → h'.get? b = some o) → tn i h'
  item : ∀ (X : Cx), X.prog = P → X.w = w → X.K = K → X.calm = true → ∀ (i : Nat) (pins : List (Addr × Obj)) (s : Shared) (σ : St) (H : Hp) (E : Value → Shared → Prop), Inv X pins σ H s → (∀ b ∈ fp, FpOk X pins H b) → tn i s.heap → J.go i H →
    wpAny (model P w) X.A (pyNext (.ref it)) (fun r s1 => ∃ u, r = some u ∧
      wpAny (model P w) X.A (letOwnedTupleGo tg (.ref it) u) (fun _ s2 => ∃ x H', Inv X pins σ H' s2 ∧ RelV x u ∧ J.yld i H x H' ∧ tn (i + 1) s2.heap ∧ ∀ b ∈ fp, H' b = none) E s1) E s
  done : ∀ (X : Cx), X.prog = P → X.w = w → X.K = K → X.calm = true → ∀ (i : Nat) (pins : List (Addr × Obj)) (s : Shared) (σ : St) (H : Hp) (E : Value → Shared → Prop), Inv X pins σ H s → (∀ b ∈ fp, FpOk X pins H b) → tn i s.heap → J.stop i H →
    wpAny (model P w) X.A (pyNext (.ref it)) (fun r s1 => r = none ∧ Inv X pins σ H s1) E s
  self : ∀ (A : Around) (i : Nat) (s : Shared) (Q : Value → Shared → Prop) (E : Value → Shared → Prop), tn i s.heap → Q (.ref it) s → wpAny (model P w) A (pyIter (.ref it)) Q E s
abbrev TI := St → Hp → (It → Hp → Prop) → Prop
def PIE (X : Cx) (pins : List (Addr × Obj)) (σ : St) (tg : Expr) (R : It → Hp → Prop) (itv : Value) (s2 : Shared) : Prop :=
  ∃ (it : Addr) (fp : List Addr) (tn : Nat → Heap → Prop) (J : It) (H' : Hp), itv = .ref it ∧ Inv X pins σ H' s2 ∧ Turn X.prog X.w X.K tg J fp it tn ∧ tn 0 s2.heap ∧ (∀ b ∈ fp, FpOk X pins H' b) ∧ R J H'
def PI (X : Cx) (tg iter : Expr) (wi : TI) : Prop :=
  ∀ (pins : List (Addr × Obj)) (s : Shared) (σ : St) (H : Hp) (R : It → Hp → Prop), Inv X pins σ H s → wi σ H R →
    wpAny (model X.prog X.w) X.A (eval iter X.env) (fun v s1 => wpAny (model X.prog X.w) X.A (pyIter v) (PIE X pins σ tg R) X.xe s1) X.xe s

theorem go_of {M : Model} {A : Around} {E : Value → Shared → Prop} {s : Shared} {tg : Expr} {it : Addr} {u : Value} {o : Obj} {n : String} {vs : Array Value} {Q : Unit → Shared → Prop} (ho : s.heap.get? it = some o) (hc : o.cls = .type n) (hd : o.data = .fields vs)
    (hn : ["enumerate", "zip", "dict_itemiterator", "dict_reverseitemiterator", "odict_iterator", "itertools.zip_longest", "itertools.pairwise"].contains n = false) (hQ : Q () s) : wpAny M A (letOwnedTupleGo tg (.ref it) u) Q E s := by
  unfold letOwnedTupleGo
  cases tg <;> first
    | exact wpAny_pure hQ
    | (cases u <;> first
        | exact wpAny_pure hQ
        | (refine wpAny_bind (wpAny_load ho ?_)
           rw [hc, hd]
           show wpAny M A (if (["enumerate", "zip", "dict_itemiterator", "dict_reverseitemiterator", "odict_iterator", "itertools.zip_longest", "itertools.pairwise"].contains n && vs[0]? == some (rawInt _)) = true then _ else _) Q E s
           rw [if_neg (by intro h; rw [hn, Bool.false_and] at h; cases h)]
           exact wpAny_pure hQ))

def Itl (K : PySem.W.Frag) (a : Addr) : It :=
  ⟨fun i H => ∃ xs x, SqL K H a xs ∧ xs[i]? = some x, fun i H x H' => H' = H ∧ ∀ xs, SqL K H a xs → xs[i]? = some x, fun i H => ∃ xs, SqL K H a xs ∧ xs.length ≤ i⟩
def Itr (lo : Int) (n : Nat) : It := ⟨fun i _ => i < n, fun i H x H' => H' = H ∧ x = .int (lo + i), fun i _ => n ≤ i⟩
theorem turn_list {P : Program} {w : World} {K : PySem.W.Frag} {tg : Expr} (a it : Addr) : Turn P w K tg (Itl K a) [it] it (fun i h => h.IsListIter it a i) where
  mem := by simp
  obj := fun i h st b hb => by
    have e : b = it := by simpa using hb
    subst e
    obtain ⟨o, e, c, d⟩ := st
    exact ⟨o, e, fun v z => by rw [d] at z; cases z⟩
  keep := fun i h h' st k => st.at fun o e => k it (by simp) o e
  item := by
    intro X hP hw hK hc i pins s σ H E I hf st hg
    subst hP hw hK
    obtain ⟨xs, x, hq, hx⟩ := hg
    obtain ⟨its, rv, p, hz⟩ := I.list hq
    obtain ⟨u, hu, ru⟩ := rv.get hx
    obtain ⟨f0, f1, f2, f3, f4, f5⟩ := hf it (by simp)
    refine wpAny_pyNext_list_item st p.isList (x := u) (by simpa using hu) fun h' st' sb => ?_
    have I1 : Inv X pins σ H { s with heap := h' } := I.turned (t' := s.toks) (fun b o hb e => (sb.2 b hb).trans e) f0 f1 f3 f4 f5
    obtain ⟨o, e, c, d⟩ := id st'
    exact ⟨u, rfl, go_of (s := { s with heap := h' }) e c d (by decide) ⟨x, H, I1, ru, ⟨rfl, fun ys hy => by rw [I.list_inj hy hq]; exact hx⟩, st', fun b hb => (hf b hb).1⟩⟩
  done := by
    intro X hP hw hK hc i pins s σ H E I hf st hg
    subst hP hw hK
    obtain ⟨xs, hq, hx⟩ := hg
    obtain ⟨its, rv, p, hz⟩ := I.list hq
    obtain ⟨f0, f1, f2, f3, f4, f5⟩ := hf it (by simp)
    have hl := rv.length
    exact wpAny_pyNext_list_end (I.ok.hd hc) st p.isList (by simp; omega) fun h' eb => ⟨rfl, I.turned (t' := s.toks) (fun b o hb e => eb b o hb e) f0 f1 f3 f4 f5⟩
  self := fun _ _ _ _ _ st h => wpAny_pyIter_listiter st h
theorem turn_range {P : Program} {w : World} {K : PySem.W.Frag} {tg : Expr} (it : Addr) (lo : Int) (n : Nat) : Turn P w K tg (Itr lo n) [it] it (fun i h => IsRangeIter h it (lo + (i : Nat) * 1) ((n : Int) - (i : Nat)) 1) where
  mem := by simp
  obj := fun i h st b hb => by
    have e : b = it := by simpa using hb
    subst e
    exact ⟨_, st, fun v z => by
      have z' : Data.fields _ = Data.cell v := z
      cases z'⟩
  keep := fun i h h' st k => k it (by simp) _ st
  item := by
    intro X hP hw hK hc i pins s σ H E I hf st hg
    subst hP hw hK
    obtain ⟨f0, f1, f2, f3, f4, f5⟩ := hf it (by simp)
    have W := Walks.range (prog := X.prog) (w := X.w) (I.ok.hd hc) it lo 1 n
    refine W.item i s _ _ hg st fun v h' tk hv st' kk => ?_
    obtain ⟨t, rfl⟩ := hv
    have I1 : Inv X pins σ H { s with heap := h', toks := tk } := I.turned (fun b o hb e => kk b o (by simpa using hb) e) f0 f1 f3 f4 f5
    refine ⟨_, rfl, go_of (s := { s with heap := h', toks := tk }) (n := "range_iterator") st' rfl rfl (by decide) ⟨.int (lo + i), H, I1, ⟨t, ?_⟩, ⟨rfl, rfl⟩, st', fun b hb => (hf b hb).1⟩⟩
    rw [Int.mul_one]
  done := by
    intro X hP hw hK hc i pins s σ H E I hf st hg
    subst hP hw hK
    obtain ⟨f0, f1, f2, f3, f4, f5⟩ := hf it (by simp)
    exact wpAny_pyNext_range_end (I.ok.hd hc) st (by have : n ≤ i := hg; omega) fun h' eb => ⟨rfl, I.turned (t' := s.toks) (fun b o hb e => eb b o hb e) f0 f1 f3 f4 f5⟩
  self := fun _ _ _ _ _ st h => wpAny_pyIter_rangeiter st h
end L2

namespace L2
open PySem PySem.Spec PyProof.Rows
section
variable {X : Cx} {tg : Expr}
def iList (K : PySem.W.Frag) (tl : TE) : TI := fun σ H R => tl σ H fun x H1 => ∃ a, x = .ref a ∧ (∃ xs, SqL K H1 a xs) ∧ R (Itl K a) H1
theorem pi_list {l : Expr} {tl : TE} (hl : PE X l tl) : PI X tg l (iList X.K tl) := by
  intro pins s σ H R I h
  refine thn (hl pins s σ H _ I h) fun v s1 hQQ => ?_
  obtain ⟨x, H1, I1, r1, q1⟩ := hQQ
  obtain ⟨a, e, ⟨xs, hq⟩, q⟩ := q1
  subst e
  cases r1
  obtain ⟨its, rv, p, hz⟩ := I1.list hq
  refine wpAny_pyIter_list p.isList ?_
  refine ⟨s1.heap.objs.size, [s1.heap.objs.size], _, _, H1, rfl, I1.kept (t' := s1.toks) fun b o e => Heap.get?_push_of_some _ e, turn_list a _, ⟨_, Heap.get?_push_size _ rfl, rfl, rfl⟩, fun b hb => ?_, q⟩
  have e : b = s1.heap.objs.size := by simpa using hb
  subst e
  exact I1.fpOk (Nat.le_refl _) (I1.hok.fresh (Nat.le_refl _))
theorem range_it {pins : List (Addr × Obj)} {σ : St} {H : Hp} {s : Shared} {R : It → Hp → Prop} {E : Value → Shared → Prop} {lo hi : Int} {t u v : Tok} {tk : Nat} (I : Inv X pins σ H s) (h1 : -(2 ^ 62) ≤ lo) (h2 : lo < 2 ^ 62) (h3 : -(2 ^ 62) ≤ hi) (h4 : hi < 2 ^ 62)
    (q : R (Itr lo (hi - lo).toNat) H) : wpAny (model X.prog X.w) X.A (pyIter (.ref s.heap.objs.size)) (PIE X pins σ tg R) E { s with heap := s.heap.push { cls := .type "range", data := .fields #[.int lo t, .int hi u, .int 1 v] }, toks := tk } := by
  refine wpAny_pyIter_range (IsRange.new ..) (small_one h1 h2 h3 h4) ?_
  have I1 : Inv X pins σ H { s with heap := s.heap.push { cls := .type "range", data := .fields #[.int lo t, .int hi u, .int 1 v] }, toks := tk } := I.kept fun b o e => Heap.get?_push_of_some _ e
  refine ⟨(s.heap.push { cls := .type "range", data := .fields #[.int lo t, .int hi u, .int 1 v] }).objs.size, [(s.heap.push { cls := .type "range", data := .fields #[.int lo t, .int hi u, .int 1 v] }).objs.size], _, _, H, rfl,
    I1.kept (t' := tk) fun b o e => Heap.get?_push_of_some _ e, turn_range _ lo (hi - lo).toNat, ?_, fun b hb => ?_, q⟩
  · have e1 : lo + ((0 : Nat) : Int) * 1 = lo := by simp
    have e2 : (((hi - lo).toNat : Nat) : Int) - ((0 : Nat) : Int) = Builtin.Range.rangeSize lo hi 1 := by rw [rangeSize_one]; split <;> omega
    show IsRangeIter _ _ (lo + ((0 : Nat) : Int) * 1) ((((hi - lo).toNat : Nat) : Int) - ((0 : Nat) : Int)) 1
    rw [e1, e2]
    exact Heap.get?_push_size _ rfl
  · have e : b = (s.heap.push { cls := .type "range", data := .fields #[.int lo t, .int hi u, .int 1 v] }).objs.size := by simpa using hb
    subst e
    exact I1.fpOk (Nat.le_refl _) (I1.hok.fresh (Nat.le_refl _))
def iRng1 (ta : TA) : TI := fun σ H R => ta σ H fun vs H1 => ∃ j : Int, vs = [.int j] ∧ -(2 ^ 62) ≤ j ∧ j < 2 ^ 62 ∧ R (Itr 0 j.toNat) H1
theorem pi_range1 {a : Expr} {ta : TA} {p pos : Pos} (hg : Gl X "range") (hm : X.mg "range" = none) (ha : PA X [a] ta) (hs : starEach [a] X.env = [(false, eval a X.env)] := by rfl) : PI X tg (.Call (.Name "range" p) [a] [] pos) (iRng1 ta) := by
  intro pins s σ H R I h
  refine Call_ (ld_blt I hg hm boot_range (PyProof.Rows.callWith_type1 (thn (ha pos pins s σ H _ I h) fun us s1 hQQ => ?_) hs rfl))
  obtain ⟨vs, H1, I1, r1, q1⟩ := hQQ
  obtain ⟨j, e, q1, q2, q⟩ := q1
  subst e
  cases r1 with
  | cons r rr =>
    cases rr
    obtain ⟨t, rfl⟩ := r
    exact call_range_1 (range_it I1 (by omega) (by omega) q1 q2 (by simpa using q))
def tFor (wi : TI) (g : TG) (tb : TS) : TS := fun D σ H => wi σ H fun J H1 => ∃ W : Nat → Nat → St → Hp → Prop, (∃ m, W 0 m σ H1) ∧ ∀ i m σ H, W i m σ H →
  (J.stop i H ∧ D.nx σ H) ∨ (J.go i H ∧ ∃ N : St → Hp → Prop, (∀ σ' H', N σ' H' → ∃ m', m' < m ∧ W (i + 1) m' σ' H') ∧ ∀ x H', J.yld i H x H' → g x σ H' fun σ2 H2 => tb { D with nx := N, ct := N, bk := D.nx } σ2 H2)
def pinsAt (fp : List Addr) (h : Heap) : List (Addr × Obj) := fp.filterMap fun b => (h.get? b).map fun o => (b, o)
theorem mem_pinsAt {fp : List Addr} {h : Heap} {b : Addr} {o : Obj} (hb : b ∈ fp) (e : h.get? b = some o) : (b, o) ∈ pinsAt fp h := List.mem_filterMap.mpr ⟨b, hb, by rw [e]; rfl⟩
theorem of_pinsAt {fp : List Addr} {h : Heap} {p : Addr × Obj} (hp : p ∈ pinsAt fp h) : p.1 ∈ fp ∧ h.get? p.1 = some p.2 := by
  obtain ⟨b, hb, e⟩ := List.mem_filterMap.mp hp
  cases q : h.get? b with
  | none => rw [q] at e; cases e
  | some o =>
    rw [q] at e
    have e' : (b, o) = p := Option.some.inj e
    subst e'
    exact ⟨hb, q⟩
theorem Inv.pinned {pins : List (Addr × Obj)} {σ : St} {H : Hp} {s : Shared} {fp : List Addr} (I : Inv X pins σ H s) (hf : ∀ b ∈ fp, FpOk X pins H b) (ho : ∀ b ∈ fp, ∃ o, s.heap.get? b = some o ∧ ∀ v, o.data ≠ .cell v) : Inv X (pins ++ pinsAt fp s.heap) σ H s :=
  I.pins_of fun p hp => (List.mem_append.mp hp).elim (fun z => I.pin p (List.mem_append_right _ z)) fun z => by
    obtain ⟨hb, e⟩ := of_pinsAt z
    obtain ⟨f0, f1, f2, _⟩ := hf p.1 hb
    obtain ⟨o, e', d⟩ := ho p.1 hb
    rw [e] at e'; cases e'
    exact ⟨e, f0, f1, f2, d⟩
theorem Inv.unpinned {pins pl : List (Addr × Obj)} {σ : St} {H : Hp} {s : Shared} (I : Inv X (pins ++ pl) σ H s) : Inv X pins σ H s := I.pins_of fun p hp => I.pin p (List.mem_append_right _ (List.mem_append_left _ hp))
theorem ps_for {iter : Expr} {body : List Stmt} {wi : TI} {g : TG} {tb : TS} {pos : Pos} (hp : PassesOwn (model X.prog X.w) X.A X.env X.xe) (hc : X.calm = true) (hi : PI X tg iter wi) (hg : PG X tg g) (hb : PSs X body tb)
    (hs : ∀ x, foldedSetIterable iter X.env x = pure x := by intro _; rfl) : PS X (.For tg iter body [] pos) (tFor wi g tb) := by
  intro pins s σ H D I h
  refine wpAny_For (thn (hi pins s σ H _ I h) fun v s1 h1 => thn h1 fun itv s2 h2 => ?_) hs
  obtain ⟨it, fp, tn, J, H2, e, I2, T, st2, f2, W, ⟨m0, w0⟩, turn⟩ := h2
  subst e
  -- what stays true of the iterator's objects through the loop
  have stat : ∀ {H' : Hp}, (∀ b ∈ fp, H' b = none) → ∀ b ∈ fp, FpOk X pins H' b := fun hn b hb => ⟨hn b hb, (f2 b hb).2⟩
  refine codeAny_forLoop_any (fun n s' => ∃ i σ' H', Inv X pins σ' H' s' ∧ tn i s'.heap ∧ (∀ b ∈ fp, H' b = none) ∧ W i n σ' H') ?_ m0 ⟨0, σ, H2, I2, st2, fun b hb => (f2 b hb).1, w0⟩
  rintro n s3 ⟨i, σ3, H3, I3, st3, fr3, w3⟩
  rcases turn i n σ3 H3 w3 with ⟨stop, qn⟩ | ⟨go, N, hN, step⟩
  · refine wpAny_passesOwn hp (thn (T.done X rfl rfl rfl hc i pins s3 σ3 H3 X.xe I3 (stat fr3) st3 stop) fun r s4 hQQ => ?_)
    obtain ⟨hr, I4⟩ := hQQ
    subst hr
    exact wpAny_execs_nil ⟨σ3, H3, I4, qn⟩
  · refine wpAny_passesOwn hp (thn (T.item X rfl rfl rfl hc i pins s3 σ3 H3 X.xe I3 (stat fr3) st3 go) fun r s4 hQQ => ?_)
    obtain ⟨u, hr, h4⟩ := hQQ
    subst hr
    refine wpAny_passesOwn hp (thn h4 fun _ s5 hQQ => ?_)
    obtain ⟨x, H5, I5, r5, y5, st5, fr5⟩ := hQQ
    have I5' := I5.pinned (stat fr5) (T.obj _ _ st5)
    refine wpAny_passesOwn hp (thn (hg _ s5 σ3 H5 x u _ I5' r5 (step x H5 y5)) fun _ s6 hQQ => ?_)
    obtain ⟨σ6, H6, I6, q6⟩ := hQQ
    refine wpAny_passesOwn hp (thn (hb _ s6 σ6 H6 _ I6 q6) fun f s7 q7 => ?_)
    have again : ∀ {σ7 : St} {H7 : Hp}, Inv X (pins ++ pinsAt fp s5.heap) σ7 H7 s7 → N σ7 H7 → ∃ m, m < n ∧ ∃ i σ' H', Inv X pins σ' H' s7 ∧ tn i s7.heap ∧ (∀ b ∈ fp, H' b = none) ∧ W i m σ' H' := fun {σ7 H7} I7 n7 => by
      obtain ⟨m', hm, w7⟩ := hN σ7 H7 n7
      refine ⟨m', hm, i + 1, σ7, H7, I7.unpinned, T.keep _ _ _ st5 fun b hb o e => (I7.pin (b, o) (List.mem_append_right _ (List.mem_append_right _ (mem_pinsAt hb e)))).1, fun b hb => ?_, w7⟩
      obtain ⟨o, e, d⟩ := T.obj _ _ st5 b hb
      exact (I7.pin (b, o) (List.mem_append_right _ (List.mem_append_right _ (mem_pinsAt hb e)))).2.1
    cases f with
    | next => obtain ⟨σ7, H7, I7, n7⟩ := q7; exact again I7 n7
    | cont => obtain ⟨σ7, H7, I7, n7⟩ := q7; exact again I7 n7
    | brk => obtain ⟨σ7, H7, I7, q7⟩ := q7; exact ⟨σ7, H7, I7.unpinned, q7⟩
    | ret v => obtain ⟨x7, σ7, H7, I7, r7, q7⟩ := q7; exact ⟨x7, σ7, H7, I7.unpinned, r7, q7⟩
end

end L2

namespace L2
open PySem PySem.Spec PyProof.Rows

abbrev R2 := V → V → Hp → VK → Prop
def OpR (X : Cx) (f : Value → Value → Sem Value) (r : R2) : Prop :=
  ∀ (pins : List (Addr × Obj)) (s : Shared) (σ : St) (H : Hp) (x y : V) (v u : Value) (Q : VK), Inv X pins σ H s → RelV x v → RelV y u → r x y H Q →
    wpAny (model X.prog X.w) X.A (f v u) (EP X pins σ Q) X.xe s
def UnR (X : Cx) (f : Value → Sem Value) (r : V → Hp → VK → Prop) : Prop :=
  ∀ (pins : List (Addr × Obj)) (s : Shared) (σ : St) (H : Hp) (x : V) (v : Value) (Q : VK), Inv X pins σ H s → RelV x v → r x H Q →
    wpAny (model X.prog X.w) X.A (f v) (EP X pins σ Q) X.xe s
def CallR (X : Cx) (f : Value) (r : List V → Hp → VK → Prop) : Prop :=
  ∀ (pins : List (Addr × Obj)) (s : Shared) (σ : St) (H : Hp) (xs : List V) (us : List Value) (Q : VK), Inv X pins σ H s → Vals xs us → r xs H Q →
    wpAny (model X.prog X.w) X.A (call f us) (EP X pins σ Q) X.xe s
def TruR (X : Cx) (r : V → Hp → (Bool → Hp → Prop) → Prop) : Prop :=
  ∀ (pins : List (Addr × Obj)) (s : Shared) (σ : St) (H : Hp) (x : V) (v : Value) (Q : Bool → Hp → Prop), Inv X pins σ H s → RelV x v → r x H Q →
    wpAny (model X.prog X.w) X.A (truthy v) (TP X pins σ Q) X.xe s

def tOp (r : R2) (ta tb : TE) : TE := fun σ H Q => ta σ H fun x H1 => tb σ H1 fun y H2 => r x y H2 Q
def tUn (r : V → Hp → VK → Prop) (ta : TE) : TE := fun σ H Q => ta σ H fun x H1 => r x H1 Q
def rI (C : Int → Int → Prop) (g : Int → Int → V) : R2 := fun x y H Q => ∃ i j, x = .int i ∧ y = .int j ∧ C i j ∧ Q (g i j) H
def rI0 (g : Int → Int → V) : R2 := fun x y H Q => ∃ i j, x = .int i ∧ y = .int j ∧ Q (g i j) H
def rU (g : Int → V) : V → Hp → VK → Prop := fun x H Q => ∃ i, x = .int i ∧ Q (g i) H

section
variable {X : Cx} {a b c : Expr} {ta tb tc : TE} {pos : Pos}

theorem binT (ha : PE X a ta) (hb : PE X b tb) {pins : List (Addr × Obj)} {s : Shared} {σ : St} {H : Hp} {R : V → V → Hp → Prop} (I : Inv X pins σ H s)
    (h : ta σ H fun x H1 => tb σ H1 fun y H2 => R x y H2) {Q : Value → Shared → Prop} {f : Value → Value → Sem Value}
    (hf : ∀ v u s2 x y H2, Inv X pins σ H2 s2 → RelV x v → RelV y u → R x y H2 → wpAny (model X.prog X.w) X.A (f v u) Q X.xe s2) :
    wpAny (model X.prog X.w) X.A (eval a X.env) (fun v s₁ => wpAny (model X.prog X.w) X.A (eval b X.env) (fun u s₂ => wpAny (model X.prog X.w) X.A (f v u) Q X.xe s₂) X.xe s₁) X.xe s := by
  refine thn (ha pins s σ H _ I h) fun v s1 hQQ => ?_
  obtain ⟨x, H1, I1, r1, q1⟩ := hQQ
  refine thn (hb pins s1 σ H1 _ I1 q1) fun u s2 hQQ => ?_
  obtain ⟨y, H2, I2, r2, q2⟩ := hQQ
  exact hf v u s2 x y H2 I2 r1 r2 q2

theorem pe_op {op : Operator} {r : R2} (ho : OpR X (binaryOp op) r) (ha : PE X a ta) (hb : PE X b tb) : PE X (.BinOp a op b pos) (tOp r ta tb) := by
  intro pins s σ H Q I h
  exact wpAny_BinOp (binT ha hb I h fun v u s2 x y H2 I2 rx ry q => ho pins s2 σ H2 x y v u Q I2 rx ry q)
theorem pe_un {op : UnaryOp} {r : V → Hp → VK → Prop} (ho : UnR X (unaryOp op) r) (ha : PE X a ta) : PE X (.UnaryOp op a pos) (tUn r ta) := by
  intro pins s σ H Q I h
  exact UnaryOp_ (thn (ha pins s σ H _ I h) fun v s1 ⟨x, H1, I1, r1, q1⟩ => ho pins s1 σ H1 x v Q I1 r1 q1)
theorem opI {f : Value → Value → Sem Value} {C : Int → Int → Prop} {g : Int → Int → Int}
    (rule : ∀ (i j : Int) (t u : Tok) (s : Shared) (Q : Value → Shared → Prop) (E : Value → Shared → Prop), C i j → Q (.int (g i j) s.toks) { s with toks := s.toks + 1 } → wpAny (model X.prog X.w) X.A (f (.int i t) (.int j u)) Q E s) :
    OpR X f (rI C fun i j => .int (g i j)) := by
  intro pins s σ H x y v u Q I rx ry h
  obtain ⟨i, j, rfl, rfl, hc, q⟩ := h
  obtain ⟨t, rfl⟩ := rx
  obtain ⟨t', rfl⟩ := ry
  exact rule i j t t' s _ _ hc ⟨.int (g i j), H, I.tok _, ⟨_, rfl⟩, q⟩
theorem opI0 {f : Value → Value → Sem Value} {g : Int → Int → Int}
    (rule : ∀ (i j : Int) (t u : Tok) (s : Shared) (Q : Value → Shared → Prop) (E : Value → Shared → Prop), Q (.int (g i j) s.toks) { s with toks := s.toks + 1 } → wpAny (model X.prog X.w) X.A (f (.int i t) (.int j u)) Q E s) :
    OpR X f (rI0 fun i j => .int (g i j)) := by
  intro pins s σ H x y v u Q I rx ry h
  obtain ⟨i, j, rfl, rfl, q⟩ := h
  obtain ⟨t, rfl⟩ := rx
  obtain ⟨t', rfl⟩ := ry
  exact rule i j t t' s _ _ ⟨.int (g i j), H, I.tok _, ⟨_, rfl⟩, q⟩
theorem opB0 {f : Value → Value → Sem Value} {g : Int → Int → Bool}
    (rule : ∀ (i j : Int) (t u : Tok) (s : Shared) (Q : Value → Shared → Prop) (E : Value → Shared → Prop), Q (.bool (g i j)) s → wpAny (model X.prog X.w) X.A (f (.int i t) (.int j u)) Q E s) :
    OpR X f (rI0 fun i j => .bl (g i j)) := by
  intro pins s σ H x y v u Q I rx ry h
  obtain ⟨i, j, rfl, rfl, q⟩ := h
  obtain ⟨t, rfl⟩ := rx
  obtain ⟨t', rfl⟩ := ry
  exact rule i j t t' s _ _ ⟨.bl (g i j), H, I, rfl, q⟩

def CDiv (i j : Int) : Prop := 0 < j ∧ j < 1073741824
def CPow (i j : Int) : Prop := 0 ≤ j ∧ j ≤ 1000000 ∧ i.natAbs < 2 ^ 64
def CMul (i j : Int) : Prop := (-(2 ^ 64) < i ∧ i < 2 ^ 64) ∨ (-(2 ^ 64) < j ∧ j < 2 ^ 64)
theorem CMul.ok {i j : Int} (h : CMul i j) : IntMulOk i j := by
  rcases h with ⟨h1, h2⟩ | ⟨h1, h2⟩
  · exact .of_left (intBits_le_64 h1 h2)
  · exact .of_right (intBits_le_64 h1 h2)
theorem op_add : OpR X (binaryOp .Add) (rI0 fun i j => .int (i + j)) := opI0 fun _ _ _ _ _ _ _ q => add_int q
theorem op_sub : OpR X (binaryOp .Sub) (rI0 fun i j => .int (i - j)) := opI0 fun _ _ _ _ _ _ _ q => sub_int q
theorem op_mul : OpR X (binaryOp .Mult) (rI CMul fun i j => .int (i * j)) := opI fun _ _ _ _ _ _ _ hc q => mul_int q hc.ok
theorem op_fdiv : OpR X (binaryOp .FloorDiv) (rI CDiv fun i j => .int (i / j)) := opI fun i j _ _ _ _ _ hc q => by
  have h1 : (0 : Int) < j := hc.1
  have h2 : j < 1073741824 := hc.2
  exact floordiv_int (by omega) (by rw [Int.fdiv_eq_ediv_of_nonneg i (by omega)]; exact q) (.inl (PyProof.noPylong_small (by omega)))
theorem op_mod : OpR X (binaryOp .Mod) (rI (fun _ j => 0 < j) fun i j => .int (i % j)) := opI fun i j _ _ _ _ _ hc q => by
  have h1 : (0 : Int) < j := hc
  exact mod_int' (by omega) (by rw [Int.fmod_eq_emod_of_nonneg i (by omega)]; exact q)
theorem op_pow : OpR X (binaryOp .Pow) (rI CPow fun i j => .int (i ^ j.toNat)) := opI fun _ _ _ _ _ _ _ hc q => pow_int_small hc.1 hc.2.1 hc.2.2 q
theorem unI {f : Value → Sem Value} {g : Int → Int}
    (rule : ∀ (i : Int) (t : Tok) (s : Shared) (Q : Value → Shared → Prop) (E : Value → Shared → Prop), Q (.int (g i) s.toks) { s with toks := s.toks + 1 } → wpAny (model X.prog X.w) X.A (f (.int i t)) Q E s) :
    UnR X f (rU fun i => .int (g i)) := by
  intro pins s σ H x v Q I rx h
  obtain ⟨i, rfl, q⟩ := h
  obtain ⟨t, rfl⟩ := rx
  exact rule i t s _ _ ⟨.int (g i), H, I.tok _, ⟨_, rfl⟩, q⟩
theorem un_neg : UnR X (unaryOp .USub) (rU fun i => .int (-i)) := unI fun _ _ _ _ _ q => neg_int q
end

section
variable {X : Cx} {a b c : Expr} {ta tb tc : TE} {pos : Pos}
theorem fin_bl {pins : List (Addr × Obj)} {σ : St} {H : Hp} {s : Shared} {Q : VK} {k k' : Bool} (I : Inv X pins σ H s) (q : Q (.bl k) H) (e : k = k') : EP X pins σ Q (.bool k') s := by
  subst e
  exact ⟨.bl k, H, I, rfl, q⟩
theorem op_lt : OpR X (compareOp .Lt) (rI0 fun i j => .bl (decide (i < j))) := opB0 fun _ _ _ _ _ _ _ q => lt_int q
theorem op_le : OpR X (compareOp .LtE) (rI0 fun i j => .bl (decide (i ≤ j))) := opB0 fun _ _ _ _ _ _ _ q => le_int q
theorem op_gt : OpR X (compareOp .Gt) (rI0 fun i j => .bl (decide (j < i))) := opB0 fun _ _ _ _ _ _ _ q => gt_int q
theorem op_ge : OpR X (compareOp .GtE) (rI0 fun i j => .bl (decide (j ≤ i))) := opB0 fun _ _ _ _ _ _ _ q => ge_int q
theorem op_isN : OpR X (compareOp .Is) (fun x y H Q => y = .non ∧ Q (.bl (decide (x = .non))) H) := by
  intro pins s σ H x y v u Q I rx ry h
  obtain ⟨rfl, q⟩ := h
  cases ry
  refine is_none_gen (fin_bl I q ?_)
  cases x <;> first
    | (cases rx; rfl)
    | (obtain ⟨t, rfl⟩ := rx; rfl)
theorem op_notN : OpR X (compareOp .IsNot) (fun x y H Q => y = .non ∧ Q (.bl (!decide (x = .non))) H) := by
  intro pins s σ H x y v u Q I rx ry h
  obtain ⟨rfl, q⟩ := h
  cases ry
  refine isnot_none_gen (fin_bl I q ?_)
  cases x <;> first
    | (cases rx; rfl)
    | (obtain ⟨t, rfl⟩ := rx; rfl)

theorem OpR.or {f : Value → Value → Sem Value} {r r' : R2} (h : OpR X f r) (h' : OpR X f r') : OpR X f (fun x y H Q => r x y H Q ∨ r' x y H Q) := by
  intro pins s σ H x y v u Q I rx ry q
  rcases q with q | q
  · exact h pins s σ H x y v u Q I rx ry q
  · exact h' pins s σ H x y v u Q I rx ry q

theorem nomark (b : Expr) {op : CmpOp} (h : op ≠ .In := by decide) (h2 : op ≠ .NotIn := by decide) : behindInMarks op b = false := by
  have e1 : (op == CmpOp.In) = false := by cases op <;> first | rfl | exact absurd rfl h
  have e2 : (op == CmpOp.NotIn) = false := by cases op <;> first | rfl | exact absurd rfl h2
  cases b <;> simp [behindInMarks, e1, e2]
theorem pe_cmpR {op : CmpOp} {r : R2} (ho : OpR X (compareOp op) r) (ha : PE X a ta) (hb : PE X b tb) (hm : behindInMarks op b = false) : PE X (.Compare a [op] [b] pos) (tOp r ta tb) := by
  intro pins s σ H Q I h
  exact wpAny_Compare1 (binT ha hb I h fun v u s2 x y H2 I2 rx ry q => ho pins s2 σ H2 x y v u Q I2 rx ry q) hm
def tTest (t : TE) : TT := fun σ H Q => t σ H fun x H' => ∃ k, x = .bl k ∧ Q k H'
theorem pt_cmpR {op : CmpOp} {r : R2} (ho : OpR X (compareOp op) r) (ha : PE X a ta) (hb : PE X b tb) (hm : behindInMarks op b = false) : PT X (.Compare a [op] [b] pos) (tTest (tOp r ta tb)) := by
  intro pins s σ H Q I h
  refine wpAny_isTrue_Compare1 (thn (ha pins s σ H _ I h) fun v s1 ⟨x, H1, I1, r1, q1⟩ => thn (hb pins s1 σ H1 _ I1 q1) fun u s2 ⟨y, H2, I2, r2, q2⟩ =>
    thn (ho pins s2 σ H2 x y v u _ I2 r1 r2 q2) fun c s3 ⟨z, H3, I3, r3, k, e, q3⟩ => ?_) hm
  subst e
  cases r3
  exact wpAny_truthy_bool ⟨H3, I3, q3⟩
def tChain (r r' : R2) (ta tb tc : TE) : TE := fun σ H Q => ta σ H fun x H1 => tb σ H1 fun y H2 => r x y H2 fun z H3 => ∃ k, z = .bl k ∧
  (if k = true then tc σ H3 fun w' H4 => r' y w' H4 Q else Q (.bl false) H3)
theorem pe_chain {op op' : CmpOp} {r r' : R2} (ho : OpR X (compareOp op) r) (ho' : OpR X (compareOp op') r') (ha : PE X a ta) (hb : PE X b tb) (hc : PE X c tc)
    (hm : lastMarks [op, op'] [b, c] = false := by with_unfolding_all rfl) : PE X (.Compare a [op, op'] [b, c] pos) (tChain r r' ta tb tc) := by
  intro pins s σ H Q I h
  refine Compare_chain (thn (ha pins s σ H _ I h) fun v s1 ⟨x, H1, I1, r1, q1⟩ => chain_link (thn (hb pins s1 σ H1 _ I1 q1) fun u s2 ⟨y, H2, I2, r2, q2⟩ =>
    thn (ho pins s2 σ H2 x y v u _ I2 r1 r2 q2) fun d s3 ⟨z, H3, I3, r3, k, e, q3⟩ => ?_)) hm
  subst e
  cases r3
  refine wpAny_truthy_bool ?_
  cases k with
  | false => exact ite_ff ⟨.bl false, H3, I3, rfl, q3⟩
  | true => exact ite_tt (chain_last (thn (hc pins s3 σ H3 _ I3 q3) fun w' s4 ⟨z', H4, I4, r4, q4⟩ => ho' pins s4 σ H4 y z' u w' Q I4 r2 r4 q4))
theorem pt_chain {op op' : CmpOp} {r r' : R2} (ho : OpR X (compareOp op) r) (ho' : OpR X (compareOp op') r') (ha : PE X a ta) (hb : PE X b tb) (hc : PE X c tc)
    (hm : lastMarks [op, op'] [b, c] = false := by with_unfolding_all rfl) : PT X (.Compare a [op, op'] [b, c] pos) (tTest (tChain r r' ta tb tc)) := by
  intro pins s σ H Q I h
  refine isTrue_chain (thn (ha pins s σ H _ I h) fun v s1 ⟨x, H1, I1, r1, q1⟩ => test_link (thn (hb pins s1 σ H1 _ I1 q1) fun u s2 ⟨y, H2, I2, r2, q2⟩ =>
    thn (ho pins s2 σ H2 x y v u _ I2 r1 r2 q2) fun d s3 ⟨z, H3, I3, r3, k, e, q3⟩ => ?_)) hm
  subst e
  cases r3
  refine wpAny_truthy_bool ?_
  cases k with
  | false =>
    obtain ⟨k', e', q'⟩ := q3
    cases e'
    exact ite_ff ⟨H3, I3, q'⟩
  | true =>
    refine ite_tt (test_last (thn (hc pins s3 σ H3 _ I3 q3) fun w' s4 ⟨z', H4, I4, r4, q4⟩ => thn (ho' pins s4 σ H4 y z' u w' _ I4 r2 r4 q4) fun d' s5 hQQ => ?_))
    obtain ⟨z2, H5, I5, r5, k2, e2, q5⟩ := hQQ
    subst e2
    cases r5
    exact wpAny_truthy_bool ⟨H5, I5, q5⟩

def TruV (K : PySem.W.Frag) (x : V) (H : Hp) (k : Bool) : Prop :=
  match x with
  | .non => k = false
  | .bl b => k = b
  | .int i => k = (i != 0)
  | .str y => y.length ≤ sizeLine ∧ k = ((y.length : Int) != 0)
  | .byt y => y.size ≤ sizeLine ∧ k = ((y.size : Int) != 0)
  | .ref p => (∃ xs, SqL K H p xs ∧ k = !xs.isEmpty) ∨ (∃ xs, SqT K H p xs ∧ k = !xs.isEmpty) ∨ ∃ kvs, H p = some (.dK kvs) ∧ k = !kvs.isEmpty
  | _ => False
theorem isEmpty_kv {κ : Type} {kvs : List (κ × V)} {vs : List (κ × Value)} (r : KV kvs vs) : (!vs.isEmpty) = !kvs.isEmpty := by
  cases r <;> rfl
theorem isEmpty_of {xs : List V} {its : List Value} (r : Vals xs its) : (!its.toArray.isEmpty) = !xs.isEmpty := by
  cases r <;> simp
theorem line63 : (sizeLine : Nat) < 2 ^ 63 := by rw [sizeLine_eq]; decide
theorem tru_ok : TruR X (fun x H Q => ∃ k, TruV X.K x H k ∧ Q k H) := by
  intro pins s σ H x v Q I rx h
  obtain ⟨k, e, q⟩ := h
  have hl := line63
  have hs : sizeLine = 16777216 := sizeLine_eq
  cases x with
  | non =>
    cases rx
    have e' : k = false := e
    subst e'
    exact truthy_none ⟨H, I, q⟩
  | bl b =>
    cases rx
    have e' : k = b := e
    subst e'
    exact wpAny_truthy_bool ⟨H, I, q⟩
  | int i =>
    obtain ⟨t, rfl⟩ := rx
    have e' : k = (i != 0) := e
    subst e'
    exact PySem.P.truthy_int ⟨H, I, q⟩
  | str y =>
    obtain ⟨t, rfl⟩ := rx
    obtain ⟨hy, e'⟩ : y.length ≤ sizeLine ∧ k = ((y.length : Int) != 0) := e
    subst e'
    exact PySem.P.truthy_str (by omega) ⟨H, I.tok _, q⟩
  | byt y =>
    obtain ⟨t, rfl⟩ := rx
    obtain ⟨hy, e'⟩ : y.size ≤ sizeLine ∧ k = ((y.size : Int) != 0) := e
    subst e'
    exact PySem.W.truthy_bytes (by omega) ⟨H, I.tok _, q⟩
  | ref p =>
    cases rx
    have e' : (∃ xs, SqL X.K H p xs ∧ k = !xs.isEmpty) ∨ (∃ xs, SqT X.K H p xs ∧ k = !xs.isEmpty) ∨ ∃ kvs, H p = some (.dK kvs) ∧ k = !kvs.isEmpty := e
    rcases e' with ⟨xs, hx, e'⟩ | ⟨xs, hx, e'⟩ | ⟨kvs, hx, e'⟩
    · subst e'
      obtain ⟨its, r, pl, hz⟩ := I.list hx
      have hlen := r.length
      exact wpAny_truthy_list pl.isList (by simp only [List.size_toArray]; omega) ⟨H, I.tok _, by rw [isEmpty_of r]; exact q⟩
    · subst e'
      obtain ⟨its, r, pl, hz⟩ := I.tuple hx
      have hlen := r.length
      exact truthy_tuple pl (by simp only [List.size_toArray]; omega) ⟨H, I.tok _, by rw [isEmpty_of r]; exact q⟩
    · subst e'
      obtain ⟨hz, hS, vs, r, m⟩ : kvs.length ≤ sizeLine ∧ (p == sysModules) = false ∧ ∃ vs, KV kvs vs ∧ s.heap.DictOf (mixKind X.prog X.w) p vs := I.hok p _ hx
      have hlen : kvs.length = vs.length := Paired.length r
      exact wpAny_truthy_dict hS m (by omega) ⟨H, I.tok _, by rw [isEmpty_kv r]; exact q⟩
  | _ => exact (show False from e).elim
theorem vals1 {x : V} {us : List Value} (r : Vals [x] us) : ∃ u, us = [u] ∧ RelV x u := by
  cases r with
  | cons r1 r2 => cases r2; exact ⟨_, rfl, r1⟩
theorem vals2 {x y : V} {us : List Value} (r : Vals [x, y] us) : ∃ u w', us = [u, w'] ∧ RelV x u ∧ RelV y w' := by
  cases r with
  | cons r1 r2 =>
    cases r2 with
    | cons r3 r4 => cases r4; exact ⟨_, _, rfl, r1, r3⟩
theorem call_max2 (hc : X.calm = true) : CallR X (.builtin "max") (fun xs H Q => ∃ i j, xs = [.int i, .int j] ∧ Q (.int (if j > i then j else i)) H) := by
  intro pins s σ H xs us Q I r h
  obtain ⟨i, j, rfl, q⟩ := h
  obtain ⟨u, w', rfl, ⟨t, rfl⟩, ⟨t', rfl⟩⟩ := vals2 r
  refine max_two_ints (I.ok.hd hc) fun h' tk k => ⟨_, H, I.kept k, ?_, q⟩
  by_cases hj : j > i
  · rw [if_pos hj, if_pos hj]; exact ⟨_, rfl⟩
  · rw [if_neg hj, if_neg hj]; exact ⟨_, rfl⟩
theorem call_min2 (hc : X.calm = true) : CallR X (.builtin "min") (fun xs H Q => ∃ i j, xs = [.int i, .int j] ∧ Q (.int (if j < i then j else i)) H) := by
  intro pins s σ H xs us Q I r h
  obtain ⟨i, j, rfl, q⟩ := h
  obtain ⟨u, w', rfl, ⟨t, rfl⟩, ⟨t', rfl⟩⟩ := vals2 r
  refine min_two_ints (I.ok.hd hc) fun h' tk k => ⟨_, H, I.kept k, ?_, q⟩
  by_cases hj : j < i
  · rw [if_pos hj, if_pos hj]; exact ⟨_, rfl⟩
  · rw [if_neg hj, if_neg hj]; exact ⟨_, rfl⟩
end
end L2

namespace L2
open PySem PySem.Spec PyProof.Rows

structure ObjM (h : Heap) (x dx C : Addr) (mA : Str → Option Value) : Prop where
  obj : h.get? x = some (PySem.W.instObj C dx)
  ns : h.Ns1 dx mA
  ne : dx ≠ x

theorem lookIn_ns {h : Heap} {dx : Addr} {mA : Str → Option Value} (n : h.Ns1 dx mA) : ∃ od, h.get? dx = some od ∧ ∀ name, PySem.W.lookIn name od = some (mA name) := by
  obtain ⟨o, es, ep, ho, hd, hk, _, hm⟩ := n
  refine ⟨o, ho, fun name => ?_⟩
  have e := hm name
  unfold nsFind findBy at e
  rw [← Array.find?_toList] at e
  unfold PySem.W.lookIn
  rw [hd]
  dsimp only
  split
  · rename_i y q
    rw [q] at e
    exact congrArg some e
  · rename_i q
    rw [q] at e
    have a : es.toList.any (·.refKey) = false := by
      rw [List.any_eq_false]
      intro y hy
      obtain ⟨z, t, hkey⟩ := hk y (Array.mem_toList_iff.mp hy)
      simp [DictEntry.refKey, hkey]
    have a' : ¬ es.toList.any (·.refKey) = true := by rw [a]; exact Bool.false_ne_true
    rw [if_neg a']
    exact congrArg some e

theorem ObjM.look {h : Heap} {x dx C : Addr} {mA : Str → Option Value} (I : ObjM h x dx C mA) : ∃ od, PySem.W.InstAt h x (PySem.W.instObj C dx) C (some od) ∧ ∀ name, PySem.W.lookIn name od = some (mA name) :=
  let ⟨od, ho, hl⟩ := lookIn_ns I.ns
  ⟨od, ⟨I.obj, rfl, rfl, ho⟩, hl⟩

section
variable {prog : Program} {w : World} {A : Around} {E : Value → Shared → Prop} {s : Shared} {K : PySem.W.Frag} {x dx C f : Addr} {mA : Str → Option Value} {name : Str} {v : Value}

theorem get_map {expr : Bool} {Q : Value → Shared → Prop} (X : K.In s.heap) (I : ObjM s.heap x dx C mA) (hg : PySem.W.plainGet K C name = true) (hh : PySem.W.hasDictIn K C = true)
    (ha : PySem.W.findIn K (.ref C) name = some none) (hv : mA name = some v) (hv' : PySem.W.handedIn v = true) (h : Q v { s with toks := s.toks + 1 }) :
    wpAny (model prog w) A (getAttr (.ref x) name expr) Q E s := by
  obtain ⟨od, J, hl⟩ := I.look
  exact PySem.W.get_value X J (PySem.W.plainGet_of hg).1 (PySem.W.findObj_own hh ha rfl (by rw [hl, hv])) hv' h

theorem get_meth {pl : Sem Bool} {Q : Value × List Value → Shared → Prop} (X : K.In s.heap) (I : ObjM s.heap x dx C mA) (hg : PySem.W.plainGet K C name = true)
    (hf : PySem.W.findIn K (.ref C) name = some (some (.ref f))) (ht : PySem.W.isFn K (.ref f) = true) (hv : mA name = none) (h : Q (.ref f, [.ref x]) s) :
    wpAny (model prog w) A (getMethod (.ref x) name pl) Q E s := by
  obtain ⟨od, J, hl⟩ := I.look
  exact PySem.W.method_fn X J (PySem.W.plainGet_of hg).1 (PySem.W.plainGet_of hg).2 hf (beq_iff_eq.mp ht) (by show (PySem.W.lookIn name od).map (·.isSome) = some false; rw [hl, hv]; rfl) h

theorem set_map {ns : List Str} {Q : Unit → Shared → Prop} (X : K.In s.heap) (I : ObjM s.heap x dx C mA)
    (hs : PySem.W.findIn K (.ref C) "__setattr__" = some (some (.builtin "object.__setattr__"))) (hp : PySem.W.plainOver K C = true) (ht : PySem.W.takerIn K C name = some none) (hh : PySem.W.hasDictIn K C = true)
    (hw : PySem.Within mA ns) (hsz : ns.length ≤ sizeLine)
    (h : ∀ h', ObjM h' x dx C (fun y => if y = name then some v else mA y) → Heap.SameBut dx s.heap h' → Q () { s with heap := h', toks := s.toks + 2 }) :
    wpAny (model prog w) A (setAttr (.ref x) name v) Q E s := by
  obtain ⟨od, J, hl⟩ := I.look
  refine PySem.W.set_plain X J hs (PySem.W.osa_open (s := { s with toks := s.toks + 1 }) (r := none) X J hp ht fun b => ?_)
  obtain ⟨cd, hc, hd'⟩ := PySem.W.any_some hh
  have hx : s.heap.get? x = some ⟨.ref C, some dx, .plain, #[]⟩ := I.obj
  refine wpAny_bind (wpAny_pure (wpAny_bind (wpAny_bind (wpAny_loadPart hx (wpAny_bind (PySem.W.Looks.here (s := { s with toks := s.toks + 1 }) (PySem.W.looks_clsIn X hc) ?_))))))
  rw [hd']
  refine wpAny_pure (a := some dx) (wpAny_bind (wpAny_pure (wpAny_bind ?_)))
  refine wpAny_nsSet1 (s := { s with toks := s.toks + 1 }) I.ns fun h' hn2 hs2 => ?_
  obtain ⟨oD, esD, epD, hoD, hdD, hcD⟩ := hn2.count (PySem.Within.cons name v hw)
  refine wpAny_bind (wpAny_lookBehind hoD (by rw [hdD]; exact pastItsLine_dict (Nat.le_trans hcD (by rw [List.length_cons]; omega))) ?_)
  exact wpAny_pure (h _ ⟨(hs2.2 _ (Ne.symm I.ne)).trans I.obj, hn2, I.ne⟩ hs2)

theorem make_map {R : Result → Shared → Prop} {vs : List Value} {kw : List (Str × Value)} (X : K.In s.heap) (hm : PySem.W.makesIn K C = true)
    (hi : PySem.W.findIn K (.ref C) "__init__" = some (some (.ref f))) (hf : PySem.W.typeIn K (.ref f) = some (.type "function"))
    (h : codeAny (model prog w) (A.under (.builtin "type.__call__" ⟨.ref C :: vs, kw⟩)) (.call (.ref f) ⟨.ref (s.heap.objs.size + 1) :: vs, kw⟩) (PySem.W.InitBack (s.heap.objs.size + 1) R)
      { s with heap := (s.heap.push PySem.W.emptyDict).push (PySem.W.instObj C s.heap.objs.size) }) :
    codeAny (model prog w) A (.call (.ref C) ⟨vs, kw⟩) R s := by
  obtain ⟨hh, g, d, t, os⟩ := s
  exact PySem.W.make_core (PySem.W.makes_of X hm) (PySem.W.looks_findIn X hi) (fun self => PySem.W.bind_fn X self hf) (.inl rfl) h
end

def putF (f : Str) (v : V) : List (Str × V) → List (Str × V)
  | [] => [(f, v)]
  | (g, x) :: r => if g = f then (g, v) :: r else (g, x) :: putF f v r
theorem lookup_putF (f g : Str) (v : V) : ∀ fs : List (Str × V), (putF f v fs).lookup g = if g = f then some v else fs.lookup g
  | [] => by
    show List.lookup g [(f, v)] = _
    by_cases h : g = f
    · have hb : (g == f) = true := beq_iff_eq.mpr h
      simp only [List.lookup, hb, if_pos h]
    · have hb : (g == f) = false := beq_eq_false_iff_ne.mpr h
      simp only [List.lookup, hb, if_neg h]
  | (k, x) :: r => by
    have ih := lookup_putF f g v r
    rw [show putF f v ((k, x) :: r) = (if k = f then (k, v) :: r else (k, x) :: putF f v r) from rfl]
    by_cases hk : k = f
    · rw [if_pos hk]
      by_cases h : g = k
      · have hb : (g == k) = true := beq_iff_eq.mpr h
        simp only [List.lookup, hb, if_pos (h.trans hk)]
      · have hb : (g == k) = false := beq_eq_false_iff_ne.mpr h
        simp only [List.lookup, hb, if_neg (fun e : g = f => h (e.trans hk.symm))]
    · rw [if_neg hk]
      by_cases h : g = k
      · have hb : (g == k) = true := beq_iff_eq.mpr h
        simp only [List.lookup, hb, if_neg (fun e : g = f => hk (h.symm.trans e))]
      · have hb : (g == k) = false := beq_eq_false_iff_ne.mpr h
        simp only [List.lookup, hb]
        exact ih
theorem keys_putF (f : Str) (v : V) : ∀ fs : List (Str × V), f ∈ (putF f v fs).map (·.1) ∧ ∀ g, g ∈ fs.map (·.1) → g ∈ (putF f v fs).map (·.1)
  | [] => ⟨by simp [putF], fun g h => by simp at h⟩
  | (k, x) :: r => by
    obtain ⟨i1, i2⟩ := keys_putF f v r
    rw [show putF f v ((k, x) :: r) = (if k = f then (k, v) :: r else (k, x) :: putF f v r) from rfl]
    by_cases hk : k = f
    · rw [if_pos hk]
      subst hk
      exact ⟨by simp, fun g h => by simpa using h⟩
    · rw [if_neg hk]
      refine ⟨?_, fun g h => ?_⟩
      · rw [List.map_cons]
        exact List.mem_cons_of_mem _ i1
      · rw [List.map_cons] at h ⊢
        rcases List.mem_cons.mp h with e | e
        · exact List.mem_cons.mpr (.inl e)
        · exact List.mem_cons_of_mem _ (i2 g e)
theorem length_putF (f : Str) (v : V) : ∀ fs : List (Str × V), (putF f v fs).length ≤ fs.length + 1
  | [] => by simp [putF]
  | (k, x) :: r => by
    have ih := length_putF f v r
    rw [show putF f v ((k, x) :: r) = (if k = f then (k, v) :: r else (k, x) :: putF f v r) from rfl]
    by_cases hk : k = f
    · rw [if_pos hk, List.length_cons, List.length_cons]; omega
    · rw [if_neg hk, List.length_cons, List.length_cons]; omega

theorem RelO.some_of {v : V} {o : Option Value} (r : RelO (some v) o) : ∃ u, o = some u ∧ RelV v u := by
  cases o with
  | none => exact (show False from r).elim
  | some u => exact ⟨u, rfl, r⟩
theorem RelO.none_of {o : Option Value} (r : RelO none o) : o = none := by
  cases o with
  | none => rfl
  | some u => exact (show False from r).elim
theorem handed_of {v : V} {u : Value} (r : RelV v u) : PySem.W.handedIn u = true := by
  cases v with
  | non => cases (show u = Value.none from r); rfl
  | bl b => cases (show u = Value.bool b from r); rfl
  | int i => obtain ⟨t, e⟩ := (show ∃ t, u = Value.int i t from r); cases e; rfl
  | str x => obtain ⟨t, e⟩ := (show ∃ t, u = Value.str x t from r); cases e; rfl
  | byt b => obtain ⟨t, e⟩ := (show ∃ t, u = Value.bytes b t from r); cases e; rfl
  | flt b => obtain ⟨t, e⟩ := (show ∃ t, u = Value.float b t from r); cases e; rfl
  | ref a => cases (show u = Value.ref a from r); rfl
  | ty n => cases (show u = Value.type n from r); rfl

section
variable {P : Program} {w : World} {H H' : Hp} {h h' : Heap} {a C dx : Addr} {fs fs' : List (Str × V)}
theorem ins_get (hok : HOk P w H h) (e : H a = some (.ins C dx fs)) : ∃ mA, ObjM h a dx C mA ∧ (∀ f, RelO (fs.lookup f) (mA f)) ∧ PySem.Within mA (fs.map (·.1)) ∧ fs.length ≤ 1000 ∧ H dx = some (.own a) := by
  obtain ⟨d, z, ne, ob, mA, n, r, q⟩ := (show ObjOk P w H h a (.ins C dx fs) from hok a _ e)
  exact ⟨mA, ⟨ob, n, ne⟩, r, q, z, d⟩
end

structure Cls (K : PySem.W.Frag) (C : Addr) : Prop where
  pg : PySem.W.plainGet K C Str.empty = true
  hd : PySem.W.hasDictIn K C = true
  po : PySem.W.plainOver K C = true
  sa : PySem.W.findIn K (.ref C) "__setattr__" = some (some (.builtin "object.__setattr__"))
theorem Cls.get {K : PySem.W.Frag} {C : Addr} (c : Cls K C) (f : Str) : PySem.W.plainGet K C f = true := c.pg
def NoAttr (K : PySem.W.Frag) (C : Addr) (f : Str) : Prop := PySem.W.findIn K (.ref C) f = some none
theorem NoAttr.taker {K : PySem.W.Frag} {C : Addr} {f : Str} (n : NoAttr K C f) : PySem.W.takerIn K C f = some none := by
  unfold PySem.W.takerIn
  rw [show PySem.W.findIn K (.ref C) f = some none from n]
  rfl
structure Con (K : PySem.W.Frag) (C : Addr) (f : Str) (v : V) (u : Value) : Prop where
  at_ : PySem.W.findIn K (.ref C) f = some (some u)
  rel : RelV v u
  get : PySem.W.specialIn K u "__get__" = some none
  cp : PySem.W.copiedNames.contains f = false
structure Meth (K : PySem.W.Frag) (C : Addr) (m : Str) (f : Addr) : Prop where
  at_ : PySem.W.findIn K (.ref C) m = some (some (.ref f))
  fn : PySem.W.isFn K (.ref f) = true
  kp : PySem.W.keepIn K (.ref f) = true

section
variable {X : Cx} {pins : List (Addr × Obj)} {σ : St} {H : Hp} {s : Shared} {a C dx : Addr} {fs : List (Str × V)} {f : Str} {v : V} {A : Around} {E : Value → Shared → Prop}

theorem getattr_ok {b : Bool} {Q : Value → Shared → Prop} (I : Inv X pins σ H s) (e : H a = some (.ins C dx fs)) (c : Cls X.K C) (n : NoAttr X.K C f) (l : fs.lookup f = some v)
    (h : ∀ u s', Inv X pins σ H s' → RelV v u → Q u s') : wpAny (model X.prog X.w) A (getAttr (.ref a) f b) Q E s := by
  obtain ⟨mA, O, r, _, _, _⟩ := ins_get I.hok e
  obtain ⟨u, hu, ru⟩ := RelO.some_of (v := v) (o := mA f) (by rw [← l]; exact r f)
  exact get_map I.kIn O (c.get f) c.hd n hu (handed_of ru) (h u _ (I.tok _) ru)

theorem getmeth_ok {m : Str} {g : Addr} {pl : Sem Bool} {Q : Value × List Value → Shared → Prop} (I : Inv X pins σ H s) (e : H a = some (.ins C dx fs)) (c : Cls X.K C) (k : Meth X.K C m g) (l : fs.lookup m = none)
    (h : Q (.ref g, [.ref a]) s) : wpAny (model X.prog X.w) A (getMethod (.ref a) m pl) Q E s := by
  obtain ⟨mA, O, r, _, _, _⟩ := ins_get I.hok e
  have hn : mA m = none := RelO.none_of (by rw [← l]; exact r m)
  exact get_meth I.kIn O (c.get m) k.at_ k.fn hn h

theorem setattr_ok {y : V} {u : Value} {Q : Unit → Shared → Prop} (I : Inv X pins σ H s) (e : H a = some (.ins C dx fs)) (c : Cls X.K C) (n : NoAttr X.K C f) (hl : fs.length < 1000) (ry : RelV y u)
    (h : ∀ s', Inv X pins σ (upd H a (.ins C dx (putF f y fs))) s' → Q () s') : wpAny (model X.prog X.w) A (setAttr (.ref a) f u) Q E s := by
  obtain ⟨mA, O, r, wi, _, ho⟩ := ins_get I.hok e
  have hz : (fs.map (·.1)).length ≤ sizeLine := by rw [List.length_map, sizeLine_eq]; omega
  refine set_map I.kIn O c.sa c.po n.taker c.hd wi hz fun h' O' sb => h _ ?_
  have hd : ∃ o, h'.get? dx = some o := let ⟨o, _, _, e', _⟩ := O'.ns; ⟨o, e'⟩
  refine I.write (x := a) (e := dx) (by rw [e]; exact True.intro) (.inr ho) (fun b q hb z => (sb.2 b hb).trans z) hd ?_
  refine ⟨by rw [upd_ne O.ne]; exact ho, ?_, O.ne, O'.obj, _, O'.ns, fun g => ?_, fun g hg => ?_⟩
  · have := length_putF f y fs; omega
  · show RelO ((putF f y fs).lookup g) (if g = f then some u else mA g)
    rw [lookup_putF]
    by_cases q : g = f
    · rw [if_pos q, if_pos q]; exact ry
    · rw [if_neg q, if_neg q]; exact r g
  · by_cases q : g = f
    · rw [q]; exact (keys_putF f y fs).1
    · refine (keys_putF f y fs).2 g (wi g fun z => hg ?_)
      show (if g = f then some u else mA g) = none
      rw [if_neg q]; exact z

theorem Inv.made (I : Inv X pins σ H s) : Inv X pins σ (upd (upd H s.heap.objs.size (.own (s.heap.objs.size + 1))) (s.heap.objs.size + 1) (.ins C s.heap.objs.size []))
    { s with heap := (s.heap.push PySem.W.emptyDict).push (PySem.W.instObj C s.heap.objs.size) } := by
  have e1 : (s.heap.push PySem.W.emptyDict).get? s.heap.objs.size = some PySem.W.emptyDict := Heap.get?_push_size s.heap rfl
  have e2 : ((s.heap.push PySem.W.emptyDict).push (PySem.W.instObj C s.heap.objs.size)).get? (s.heap.objs.size + 1) = some (PySem.W.instObj C s.heap.objs.size) := by
    have := Heap.get?_push_size (s.heap.push PySem.W.emptyDict) (o := PySem.W.instObj C s.heap.objs.size) rfl
    rwa [Heap.size_push] at this
  have e3 : (s.heap.push PySem.W.emptyDict).Ns s.heap.objs.size (fun _ => none) := ⟨PySem.W.emptyDict, #[], _, e1, rfl, (fun e he => absurd he (by simp)), fun _ => rfl⟩
  have I1 := I.laid (a := s.heap.objs.size) (o := .own (s.heap.objs.size + 1)) (h' := s.heap.push PySem.W.emptyDict) (t' := s.toks) (fun b u q => Heap.get?_push_of_some _ q) (Nat.le_refl _) ⟨_, e1⟩
  refine I1.laid (a := s.heap.objs.size + 1) (o := .ins C s.heap.objs.size []) (t' := s.toks) (fun b u q => Heap.get?_push_of_some _ q) (Nat.le_of_eq (Heap.size_push _ _)) ?_
  have ne : s.heap.objs.size ≠ s.heap.objs.size + 1 := Nat.ne_of_lt (Nat.lt_succ_self _)
  refine ⟨by rw [upd_ne ne, upd_same], Nat.zero_le _, ne, e2, fun _ => none, (Heap.Ns1.of_empty e3).at fun o q => Heap.get?_push_of_some _ q, fun _ => True.intro, fun y hy => absurd rfl hy⟩

theorem attr_of {prog : Program} {w : World} {env : Env} {e : Expr} {f : Str} {pos : Pos} {s : Shared} {Q : Value → Shared → Prop} (hb : attributeBase e f env (eval e env) = eval e env)
    (h : wpAny (model prog w) A (eval e env) (fun o s₁ => wpAny (model prog w) A (getAttr o f true) Q E s₁) E s) : wpAny (model prog w) A (eval (.Attribute e f pos) env) Q E s :=
  Attribute_any_ h (by rw [arm_eval_Attribute, hb])
end

def tFld (K : PySem.W.Frag) (ta : TE) (f : Str) : TE := fun σ H Q => ta σ H fun x H1 => ∃ a C dx fs v, x = .ref a ∧ H1 a = some (.ins C dx fs) ∧ Cls K C ∧ NoAttr K C f ∧ fs.lookup f = some v ∧ Q v H1
def sFld (K : PySem.W.Frag) (ta tv : TE) (f : Str) : TS := fun D σ H => tv σ H fun y H1 => ta σ H1 fun x H2 => ∃ a C dx fs, x = .ref a ∧ H2 a = some (.ins C dx fs) ∧ Cls K C ∧ NoAttr K C f ∧ fs.length < 1000 ∧
  D.nx σ (upd H2 a (.ins C dx (putF f y fs)))
section
variable {X : Cx} {o e value : Expr} {f : Str} {pos pos' tpos : Pos} {ta tv : TE}
theorem pe_fld (he : PE X e ta) (hb : attributeBase e f X.env (eval e X.env) = eval e X.env) : PE X (.Attribute e f pos) (tFld X.K ta f) := by
  intro pins s σ H Q I h
  refine attr_of hb (thn (he pins s σ H _ I h) fun u s1 hQQ => ?_)
  obtain ⟨x, H1, I1, rx, a, C, dx, fs, v, ex, ea, c, n, l, q⟩ := hQQ
  subst ex
  obtain rfl : u = Value.ref a := rx
  exact getattr_ok I1 ea c n l fun u' s2 I2 ru => ⟨v, H1, I2, ru, q⟩
theorem ps_fld (ha : PE X o ta) (hv : PE X value tv) (hs : swapsWith value (some (.Attribute o f pos')) pos.line X.env = pure false) : PS X (.Assign [.Attribute o f pos'] value pos) (sFld X.K ta tv f) := by
  intro pins s σ H D I h
  refine plainObj_wpAny_Assign_Attribute (thn (hv pins s σ H _ I h) fun u s1 ⟨y, H1, I1, ry, q⟩ => thn (ha pins s1 σ H1 _ I1 q) fun ov s2 hQQ => ?_) hs
  obtain ⟨x, H2, I2, rx, a, C, dx, fs, ex, ea, c, n, l, q2⟩ := hQQ
  subst ex
  obtain rfl : ov = Value.ref a := rx
  exact setattr_ok I2 ea c n l ry fun s3 I3 => ⟨σ, _, I3, q2⟩
end

section
variable {X : Cx} {pins : List (Addr × Obj)} {σ : St} {H : Hp} {s : Shared} {A : Around} {E : Value → Shared → Prop} {Q : Value → Shared → Prop} {c : Value} {b : Bool}
inductive TyOf (K : PySem.W.Frag) (H : Hp) : V → Value → Prop where
  | non : TyOf K H .non (.type "NoneType")
  | bl (x : Bool) : TyOf K H (.bl x) (.type "bool")
  | int (i : Int) : TyOf K H (.int i) (.type "int")
  | str (x : Str) : TyOf K H (.str x) (.type "str")
  | flt (x : UInt64) : TyOf K H (.flt x) (.type "float")
  | lst {a : Addr} {xs : List V} (e : H a = some (.lst xs)) : TyOf K H (.ref a) (.type "list")
  | frz {a : Addr} {o : Obj} {xs : List V} (e : H a = some (.frz o (.lst xs))) : TyOf K H (.ref a) (.type "list")
  | tup {a : Addr} {xs : List V} (e : H a = some (.tup xs)) : TyOf K H (.ref a) (.type "tuple")
  | dK {a : Addr} {kvs : List (Key × V)} (e : H a = some (.dK kvs)) : TyOf K H (.ref a) (.type "dict")
  | dT {a : Addr} {kvs : List (List Key × V)} (e : H a = some (.dT kvs)) : TyOf K H (.ref a) (.type "dict")
  | ins {a C dx : Addr} {fs : List (Str × V)} (e : H a = some (.ins C dx fs)) (cl : Cls K C) (ha : PySem.W.findIn K (.ref C) "__class__" = some (some (.builtin "object.__class__")))
      (hn : PySem.W.specialIn K (.builtin "object.__class__") "__get__" = some (some (.builtin "getset_descriptor.__get__"))) (htk : PySem.W.takesIn K (.builtin "object.__class__") = some true)
      (hm : PySem.W.mroIn K C (.type "object") = some true) : TyOf K H (.ref a) (.ref C)
end
end L2

namespace L2
open PySem PySem.Spec PyProof.Rows

structure Room (k : Nat) (A : Around) : Prop where
  hd : A.handled = none
  dp : A.depth + 3 * k + 5 < recursionLimit
  un : A.units + 16 * k + 200 < cLine
theorem Room.mono {j k : Nat} {A : Around} (r : Room k A) (h : j ≤ k) : Room j A := ⟨r.hd, by have := r.dp; omega, by have := r.un; omega⟩
theorem Room.deeper {k : Nat} {A : Around} (r : Room (k + 1) A) (env : Env) : Room k (A.deeper env) :=
  ⟨r.hd, by have := r.dp; show A.depth + 1 + 3 * k + 5 < _; omega, by have := r.un; show A.units + 3 + 16 * k + 200 < _; omega⟩
theorem Room.in1 {k : Nat} {A : Around} (r : Room (k + 1) A) : Room k A.in1 :=
  ⟨r.hd, by have := r.dp; show A.depth + 3 * k + 5 < _; omega, by have := r.un; show A.units + 1 + 16 * k + 200 < _; omega⟩
theorem make_depth {A : Around} {C : Addr} {us : List Value} {kw : List (Str × Value)} : (A.under (.builtin "type.__call__" ⟨.ref C :: us, kw⟩)).depth = A.depth + 1 := by
  first | rfl | simp [Around.under, Code.weight, Code.isCreation, Code.isGuard, Code.isCaller, Code.frames, Code.isFrame, guardIds]
theorem make_units {A : Around} {C : Addr} {us : List Value} {kw : List (Str × Value)} : (A.under (.builtin "type.__call__" ⟨.ref C :: us, kw⟩)).units = A.units + 1 := by
  first | rfl | simp [Around.under, Code.cUnits, Code.frames, Code.isFrame]
theorem Room.make {k : Nat} {A : Around} (r : Room (k + 1) A) (C : Addr) (us : List Value) (kw : List (Str × Value)) : Room k (A.under (.builtin "type.__call__" ⟨.ref C :: us, kw⟩)) :=
  ⟨r.hd, by have := r.dp; rw [make_depth]; omega, by have := r.un; rw [make_units]; omega⟩
theorem Room.depth {k : Nat} {A : Around} (r : Room k A) : A.depth < recursionLimit := by have := r.dp; omega
theorem Room.units {k : Nat} {A : Around} (r : Room k A) : A.units + 64 < cLine := by have := r.un; omega
theorem Room.units0 {k : Nat} {A : Around} (r : Room k A) : A.units < cLine := by have := r.un; omega

def tNil : TA := fun _ H Q => Q [] H
def tCons (ta : TE) (tr : TA) : TA := fun σ H Q => ta σ H fun x H1 => tr σ H1 fun xs H2 => Q (x :: xs) H2
section
variable {X : Cx} {e : Expr} {es : List Expr} {te : TE} {t : TA} {pos : Pos}
theorem pa_nil : PA X [] tNil := fun _ _ _ _ H Q I h => Calls.spliced_nil ⟨[], H, I, .nil, h⟩
theorem pa_cons (ha : PE X e te) (hr : PA X es t) (hs : starEach (e :: es) X.env = (false, eval e X.env) :: starEach es X.env := by rfl) : PA X (e :: es) (tCons te t) := by
  intro pos pins s σ H Q I h
  rw [hs]
  show wpAny _ _ (spliced ((false, eval e X.env) :: backTo pos (starEach es X.env))) _ _ s
  refine Calls.spliced_cons (thn (ha pins s σ H _ I h) fun u s1 hQQ => ?_)
  obtain ⟨x, H1, I1, r1, q1⟩ := hQQ
  exact thn (hr pos pins s1 σ H1 _ I1 q1) fun us s2 ⟨xs, H2, I2, r2, q2⟩ => ⟨x :: xs, H2, I2, .cons r1 r2, q2⟩

def tTup (t : TA) : TE := fun σ H Q => t σ H fun xs H1 => xs.length ≤ sizeLine ∧ ∀ p, H1 p = none → Q (.ref p) (upd H1 p (.tup xs))
def tLst (t : TA) : TE := fun σ H Q => t σ H fun xs H1 => xs.length ≤ sizeLine ∧ ∀ p, H1 p = none → Q (.ref p) (upd H1 p (.lst xs))
theorem pe_tup {x1} (h : PA X es t) : PE X (.Tuple es x1 pos) (tTup t) := by
  intro pins s σ H Q I hq
  refine wpAny_Tuple_spliced (thn (h pos pins s σ H _ I hq) fun us s1 ⟨xs, H1, I1, r, z, q⟩ => ⟨by rw [← r.length]; exact z, ?_⟩)
  have hf : H1 s1.heap.objs.size = none := I1.hok.fresh (Nat.le_refl _)
  refine ⟨.ref s1.heap.objs.size, upd H1 s1.heap.objs.size (.tup xs), I1.laid (t' := s1.toks) (fun b u e => Heap.get?_push_of_some _ e) (Nat.le_refl _) ?_, rfl, q _ hf⟩
  exact ⟨z, us, r, ⟨_, Heap.get?_push_size _ rfl, rfl, _, rfl⟩⟩
theorem pe_lst (h : PA X es t) : PE X (.List es pos) (tLst t) := by
  intro pins s σ H Q I hq
  refine wpAny_List_spliced (thn (h pos pins s σ H _ I hq) fun us s1 ⟨xs, H1, I1, r, z, q⟩ => ⟨by rw [← r.length]; exact z, ?_⟩)
  have hf : H1 s1.heap.objs.size = none := I1.hok.fresh (Nat.le_refl _)
  refine ⟨.ref s1.heap.objs.size, upd H1 s1.heap.objs.size (.lst xs), I1.laid (t' := s1.toks) (fun b u e => Heap.get?_push_of_some _ e) (Nat.le_refl _) ?_, rfl, q _ hf⟩
  exact ⟨z, us, 0, r, Heap.get?_push_size _ rfl⟩
end

abbrev Sp := List V → Hp → VK → XK → Prop
abbrev CXT := List Env → Hp → Shared → XK → Value → Shared → Prop

structure Env0 (P : Program) (w : World) (K : PySem.W.Frag) (mg : Str → Option Value) (base : Heap) (A : Around) (outer : List Env) (s : Shared) (H : Hp) : Prop where
  frames : A.frames = some outer
  mod : Mod K mg base
  bs : ∀ b o, base.get? b = some o → s.heap.get? b = some o ∧ H b = none
  bsz : base.objs.size ≤ s.heap.objs.size
  funs : s.heap.FunFrames base outer
  frf : ∀ b ∈ frs outer, H b = none
  hok : HOk P w H s.heap
  bare : AllBare s.gens
def CE (outer : List Env) (P : Program) (w : World) (H : Hp) (s : Shared) (Q : VK) (u : Value) (s' : Shared) : Prop :=
  ∃ v H', s'.os = s.os ∧ AllBare s'.gens ∧ Un (frs outer) [] H H' s.heap s'.heap ∧ HOk P w H' s'.heap ∧ RelV v u ∧ Q v H'
def CR (CX : CXT) (outer : List Env) (P : Program) (w : World) (H : Hp) (s : Shared) (Q : VK) (E : XK) (r : Result) (s' : Shared) : Prop :=
  match r with
  | .ok (.ret u) => CE outer P w H s Q u s'
  | .ok _ => False
  | .error e => CX outer H s E e s'
structure FnOk (P : Program) (w : World) (K : PySem.W.Frag) (mg : Str → Option Value) (base : Heap) (CX : CXT) (k : Nat) (f : Addr) (fd : FuncData) (ps : List Str) (sp : Sp) : Prop where
  len : ∀ vs H Q E, sp vs H Q E → vs.length = ps.length
  run : ∀ (A : Around) (outer : List Env) (s : Shared) (H : Hp) (args : Args) (us : List Value) (vs : List V) (Q : VK) (E : XK), Room k A → Env0 P w K mg base A outer s H → BindsTo s fd args (ps.zip us) → Vals vs us → sp vs H Q E →
    codeAny (model P w) A (.call (.ref f) args) (CR CX outer P w H s Q E) s
theorem FnOk.mono {P : Program} {w : World} {K : PySem.W.Frag} {mg : Str → Option Value} {base : Heap} {CX : CXT} {j k : Nat} {f : Addr} {fd : FuncData} {ps : List Str} {sp : Sp} (F : FnOk P w K mg base CX j f fd ps sp) (h : j ≤ k) :
    FnOk P w K mg base CX k f fd ps sp := ⟨F.len, fun A outer s H args us vs Q E hr => F.run A outer s H args us vs Q E (hr.mono h)⟩
theorem FnOk.imp {P : Program} {w : World} {K : PySem.W.Frag} {mg : Str → Option Value} {base : Heap} {CX : CXT} {k : Nat} {f : Addr} {fd : FuncData} {ps : List Str} {sp sp' : Sp} (F : FnOk P w K mg base CX k f fd ps sp)
    (h : ∀ vs H Q E, sp' vs H Q E → sp vs H Q E) : FnOk P w K mg base CX k f fd ps sp' :=
  ⟨fun vs H Q E q => F.len vs H Q E (h _ _ _ _ q), fun A outer s H args us vs Q E hr he hb hv hs => F.run A outer s H args us vs Q E hr he hb hv (h _ _ _ _ hs)⟩

theorem Env0.make {P : Program} {w : World} {K : PySem.W.Frag} {mg : Str → Option Value} {base : Heap} {A : Around} {outer : List Env} {s : Shared} {H : Hp} (e : Env0 P w K mg base A outer s H) (C : Addr) (us : List Value) (kw : List (Str × Value)) :
    Env0 P w K mg base (A.under (.builtin "type.__call__" ⟨.ref C :: us, kw⟩)) outer s H := ⟨by first | exact e.frames | (simpa [Around.under, Code.envs, Code.isFrame, pushEnvs] using e.frames), e.mod, e.bs, e.bsz, e.funs, e.frf, e.hok, e.bare⟩
theorem Env0.in1 {P : Program} {w : World} {K : PySem.W.Frag} {mg : Str → Option Value} {base : Heap} {A : Around} {outer : List Env} {s : Shared} {H : Hp} (e : Env0 P w K mg base A outer s H) :
    Env0 P w K mg base A.in1 outer s H := ⟨e.frames, e.mod, e.bs, e.bsz, e.funs, e.frf, e.hok, e.bare⟩

section
variable {X : Cx} {pins : List (Addr × Obj)} {σ : St} {H : Hp} {s s' : Shared}
theorem Inv.env0 (I : Inv X pins σ H s) : Env0 X.prog X.w X.K X.mg X.base X.A X.stack s H :=
  ⟨I.ok.frames, I.ok.mod, I.bs, Nat.le_trans I.ok.bsz I.sz, I.stack, I.stkFree, I.hok, I.bare⟩
theorem Inv.after {Q : VK} {u : Value} (I : Inv X pins σ H s) (h : CE X.stack X.prog X.w H s Q u s') : EP X pins σ Q u s' := by
  obtain ⟨v, H', os, bare, un, hok, r, q⟩ := h
  obtain ⟨hh, g, d, t, os'⟩ := s'
  obtain rfl : os' = s.os := os
  exact ⟨v, H', I.call (h' := hh) (g' := g) (d' := d) (t' := t) (ch := []) un hok bare (fun b z => absurd z (by simp)), r, q⟩
end

def Binds (K : PySem.W.Frag) (fd : FuncData) (ps : List Str) (ds : List Value) : Prop :=
  ∀ (s : Shared) (us : List Value), K.In s.heap → (us ++ ds).length = ps.length → BindsTo s fd ⟨us, []⟩ (ps.zip (us ++ ds))
theorem Binds.all {K : PySem.W.Frag} {fd : FuncData} {ps : List Str} (h : ∀ us : List Value, us.length = ps.length → bindArgs fd ⟨us, []⟩ = pure (ps.zip us)) : Binds K fd ps [] := fun s us _ hl => by
  rw [List.append_nil] at hl ⊢
  exact .of_eq (h us hl)

def Passes (CX : CXT) (X : Cx) (E : XK) : Prop := ∀ (pins : List (Addr × Obj)) (σ : St) (H : Hp) (s : Shared) (e : Value) (s' : Shared), Inv X pins σ H s → CX X.stack H s E e s' → X.xe e s'

section
variable {X : Cx} {CX : CXT} {k : Nat} {f C : Addr} {fd : FuncData} {ps : List Str} {sp : Sp} {dvs : List V} {ds : List Value} {E : XK} {x m : Str} {p pos apos : Pos} {e o : Expr} {es : List Expr} {ta : TE} {t : TA}

structure Mk (K : PySem.W.Frag) (C f : Addr) : Prop where
  makes : PySem.W.makesIn K C = true
  init : PySem.W.findIn K (.ref C) "__init__" = some (some (.ref f))
  fn : PySem.W.isFn K (.ref f) = true
  kp : PySem.W.keepIn K (.ref C) = true

end

def PK (X : Cx) (kws : List Keyword) (t : TA) : Prop :=
  ∀ (pos : Pos) (pins : List (Addr × Obj)) (s : Shared) (σ : St) (H : Hp) (Q : List V → Hp → Prop), Inv X pins σ H s → t σ H Q → wpAny (model X.prog X.w) X.A (evalAll ((backToKw pos (keywordEach kws X.env)).map (·.2))) (AP X pins σ Q) X.xe s
section
variable {X : Cx} {CX : CXT} {k : Nat} {f C : Addr} {fd : FuncData} {ps ks : List Str} {sp : Sp} {E : XK} {x m : Str} {p pos apos kpos : Pos} {e o : Expr} {es : List Expr} {kws : List Keyword} {te ta : TE} {t tk : TA} {nm : Option Str}
theorem pk_nil : PK X [] tNil := fun _ _ _ _ H Q I h => wpAny_evalAll_nil ⟨[], H, I, .nil, h⟩
theorem pk_cons (ha : PE X e te) (hr : PK X kws t) : PK X (⟨nm, e, kpos⟩ :: kws) (tCons te t) := by
  intro pos pins s σ H Q I h
  show wpAny _ _ (evalAll ((do let v ← eval e X.env; standAt pos; pure v) :: (backToKw pos (keywordEach kws X.env)).map (·.2))) _ _ s
  refine wpAny_evalAll_cons (wpAny_bind (thn (ha pins s σ H _ I h) fun u s1 ⟨x, H1, I1, r1, q1⟩ => wpAny_bind (wpAny_standAt (wpAny_pure ?_))))
  exact thn (hr pos pins s1 σ H1 _ I1 q1) fun us s2 ⟨xs, H2, I2, r2, q2⟩ => ⟨x :: xs, H2, I2, .cons r1 r2, q2⟩

structure KBinds (K : PySem.W.Frag) (fd : FuncData) (ps ks : List Str) (g : List Value → List Value → List Value) (gV : List V → List V → List V) : Prop where
  to : ∀ (s : Shared) (us ws : List Value), K.In s.heap → (g us ws).length = ps.length → BindsTo s fd ⟨us, ks.zip ws⟩ (ps.zip (g us ws))
  rel : ∀ {vs : List V} {us : List Value} {zs : List V} {ws : List Value}, Vals vs us → Vals zs ws → Vals (gV vs zs) (g us ws)
variable {g : List Value → List Value → List Value} {gV : List V → List V → List V}
end

structure FnScope (N P : List Str) (sc : Scope) : Prop where
  kind : sc.kind = .function
  co : sc.isCoroutine = false
  gen : sc.isGenerator = false
  nd : N.Nodup
  pre : N.take P.length = P
  par : ∀ x ∈ P, sc.names.lookup x = some .local ∨ sc.names.lookup x = some .cell
  nofree : ∀ y ∈ sc.names, y.2 ≠ .free

theorem bindL_out {kindOf : Str → Option NameKind} {x : Str} : ∀ {binds : List (Str × Value)} {m : Str → Option Value}, (∀ v, (x, v) ∉ binds) → bindL kindOf binds m x = m x
  | [], _, _ => rfl
  | (n, v) :: r, m, h => by
    unfold bindL
    rw [bindL_out fun w hw => h w (List.mem_cons_of_mem _ hw)]
    split
    · have : x ≠ n := by rintro rfl; exact h v List.mem_cons_self
      simp [this]
    · rfl
theorem bindC_out {kindOf : Str → Option NameKind} {x : Str} : ∀ {binds : List (Str × Value)} {m : Str → Option Value}, (∀ v, (x, v) ∉ binds) → bindC kindOf binds m x = m x
  | [], _, _ => rfl
  | (n, v) :: r, m, h => by
    unfold bindC
    rw [bindC_out fun w hw => h w (List.mem_cons_of_mem _ hw)]
    split
    · rfl
    · have : x ≠ n := by rintro rfl; exact h v List.mem_cons_self
      simp [this]
theorem bindL_get {kindOf : Str → Option NameKind} {x : Str} {v : Value} : ∀ {P : List Str} {vs : List Value} {i : Nat} {m : Str → Option Value}, P.Nodup → P[i]? = some x → vs[i]? = some v → kindOf x = some .local →
    bindL kindOf (P.zip vs) m x = some v
  | [], _, _, _, _, h, _, _ => by simp at h
  | _ :: _, [], _, _, _, _, h, _ => by simp at h
  | p :: P, w :: vs, 0, m, nd, h1, h2, hk => by
    simp at h1 h2; subst h1; subst h2
    show bindL kindOf ((p, w) :: P.zip vs) m p = _
    unfold bindL
    rw [bindL_out fun v hv => (List.nodup_cons.mp nd).1 (List.of_mem_zip hv).1, if_pos hk]
    simp
  | p :: P, w :: vs, i + 1, m, nd, h1, h2, hk => by
    show bindL kindOf ((p, w) :: P.zip vs) m x = _
    unfold bindL
    exact bindL_get (i := i) (List.nodup_cons.mp nd).2 (by simpa using h1) (by simpa using h2) hk
theorem bindC_get {kindOf : Str → Option NameKind} {x : Str} {v : Value} : ∀ {P : List Str} {vs : List Value} {i : Nat} {m : Str → Option Value}, P.Nodup → P[i]? = some x → vs[i]? = some v → kindOf x ≠ some .local →
    bindC kindOf (P.zip vs) m x = some v
  | [], _, _, _, _, h, _, _ => by simp at h
  | _ :: _, [], _, _, _, _, h, _ => by simp at h
  | p :: P, w :: vs, 0, m, nd, h1, h2, hk => by
    simp at h1 h2; subst h1; subst h2
    show bindC kindOf ((p, w) :: P.zip vs) m p = _
    unfold bindC
    rw [bindC_out fun v hv => (List.nodup_cons.mp nd).1 (List.of_mem_zip hv).1, if_neg hk]
    simp
  | p :: P, w :: vs, i + 1, m, nd, h1, h2, hk => by
    show bindC kindOf ((p, w) :: P.zip vs) m x = _
    unfold bindC
    exact bindC_get (i := i) (List.nodup_cons.mp nd).2 (by simpa using h1) (by simpa using h2) hk

def start (N : List Str) (vs : List V) : St := vs.map some ++ List.replicate (N.length - vs.length) none

def cxOf (CX : CXT) (P : Program) (w : World) (K : PySem.W.Frag) (mg : Str → Option Value) (base : Heap) (N : List Str) (qual : Str) (scope : Scope) (f : Addr) (cd : Value) (A : Around) (outer : List Env) (s : Shared) (H : Hp) (E : XK) : Cx where
  prog := P
  w := w
  K := K
  mg := mg
  base := base
  A := A.deeper (envOfC qual scope s.heap.objs.size f cd)
  N := N
  s₀ := s
  H₀ := H
  env := envOfC qual scope s.heap.objs.size f cd
  outer := outer
  stack := envOfC qual scope s.heap.objs.size f cd :: outer
  ex := []
  calm := true
  fn := fun _ => true
  pn := []
  xe := fun e s' => wpAny (model P w) (A.deeper (envOfC qual scope s.heap.objs.size f cd)) («leaving» (envOfC qual scope s.heap.objs.size f cd) e) (fun _ s'' => CX outer H s E e s'') (fun e' s'' => CX outer H s E e' s'') s'

theorem cell_has {sc : Scope} {n : Nat} {x : Str} (h : sc.names.lookup x = some .cell) : ∃ c, (cellsFrom n sc.names []).lookup x = some c := by
  have q := PySem.W.cellsFrom_some sc.names n [] (.inl h)
  exact Option.isSome_iff_exists.mp q

theorem inv_start {CX : CXT} {P : Program} {w : World} {K : PySem.W.Frag} {mg : Str → Option Value} {base : Heap} {N ps : List Str} {qual : Str} {scope : Scope} {f : Addr} {cd : Value} {A : Around} {outer : List Env} {s s1 : Shared} {H : Hp} {E : XK} {us : List Value} {vs : List V}
    (S : FnScope N ps scope) (hd : A.handled = none) (e0 : Env0 P w K mg base A outer s H) (hl : vs.length = ps.length) (r : Vals vs us)
    (x : InCallC s s.heap.objs.size (bindL (envOfC qual scope s.heap.objs.size f cd).kindOf (ps.zip us) fun _ => none) (cellsFrom (s.heap.objs.size + 1) scope.names []) (bindC (envOfC qual scope s.heap.objs.size f cd).kindOf (ps.zip us) fun _ => none) s1) :
    Inv (cxOf CX P w K mg base N qual scope f cd A outer s H E) [] (start N vs) H s1 := by
  have hpl : ps.length ≤ N.length := by have := congrArg List.length S.pre; rw [List.length_take] at this; omega
  obtain ⟨h1, tk, rfl, hk⟩ := x.done
  have noA : ∀ b : Addr, b ∉ (cxOf CX P w K mg base N qual scope f cd A outer s H E).ex := fun b z => absurd (show b ∈ ([] : List Addr) from z) (by simp)
  refine ⟨⟨e0.mod, S.kind, rfl, rfl, Nat.le_refl _, fun y z c h1 h2 => ?_, fun y hy => ?_, fun y c _ h => ?_, fun _ => hd, Around.frames_deeper e0.frames, .inr ⟨rfl, rfl⟩, fun b z => absurd z (noA b), e0.bs, e0.bsz, fun b _ _ => noA b, fun b z => absurd z (noA b), e0.funs, e0.frf⟩,
    rfl, e0.bare, Un.kept hk, ⟨_, x.toInCall.ns, fun i y v h1 h2 h3 => ?_⟩, fun y c h => ⟨_, x.cell y c h⟩, e0.hok.fresh (Nat.le_refl _), fun y c h => ?_, fun p hp => absurd (show p ∈ ([] : List (Addr × Obj)) from hp) (by simp), e0.hok.kept hk, ?_⟩
  · exact name_of_addr x.apart (PySem.mem_of_lookup h1) (PySem.mem_of_lookup h2)
  · have hy : scope.names.lookup y = some .cell ∨ scope.names.lookup y = some .free := hy
    rcases hy with hy | hy
    · exact cell_has hy
    · exact absurd rfl (S.nofree _ (PySem.mem_of_lookup hy))
  · exact Nat.le_of_lt (x.above y c (PySem.mem_of_lookup h))
  · have hi : i < vs.length := by
      unfold start at h2
      by_cases hi : i < vs.length
      · exact hi
      · rw [List.getElem?_append_right (by simpa using hi)] at h2
        rw [List.getElem?_replicate] at h2
        split at h2 <;> cases h2
    have ha : vs[i]? = some v := by
      unfold start at h2
      rw [List.getElem?_append_left (by simpa using hi), List.getElem?_map] at h2
      cases e : vs[i]? with
      | none => rw [e] at h2; cases h2
      | some a => rw [e] at h2; cases h2; rfl
    obtain ⟨u, hu, rv⟩ := r.get ha
    have hp : ps[i]? = some y := by
      rw [← S.pre, List.getElem?_take_of_lt (by omega)]; exact h1
    have ndP : ps.Nodup := by rw [← S.pre]; exact S.nd.sublist (List.take_sublist _ _)
    refine ⟨u, rv, ?_⟩
    rcases S.par y (List.mem_of_getElem? hp) with k | k
    · exact .inl ⟨k, bindL_get ndP hp hu k⟩
    · obtain ⟨c, e⟩ := cell_has (n := s.heap.objs.size + 1) k
      refine .inr ⟨.inl k, c, e, ?_⟩
      have q := x.cell y c e
      rw [bindC_get ndP hp hu (by show scope.names.lookup y ≠ _; rw [k]; decide)] at q
      exact q
  · exact e0.hok.fresh (Nat.le_of_lt (x.above y c (PySem.mem_of_lookup h)))
  · unfold start
    show _ = N.length
    rw [List.length_append, List.length_map, List.length_replicate]
    omega

theorem fn_of {CX : CXT} {P : Program} {w : World} {K : PySem.W.Frag} {mg : Str → Option Value} {base : Heap} {k : Nat} {f : Addr} {name qual : Str} {params : Arguments} {body : List Stmt} {scope : Scope} {dV kV doc pm cdv ct oc : Value} {an od : Option Addr}
    {osl : Array (Option Value)} {N ps : List Str} {sp : Sp} (lk : K.lookup f = some ⟨oc, od, .func (PySem.W.fnOf name qual params body scope dV kV doc pm an cdv ct), osl⟩) (hcd : PySem.W.codeIn K cdv qual = true) (S : FnScope N ps scope)
    (len : ∀ vs H Q E, sp vs H Q E → vs.length = ps.length)
    (hbody : ∀ (A : Around) (outer : List Env) (s : Shared) (H : Hp) (vs : List V) (Q : VK) (E : XK), Room k (A.deeper (envOfC qual scope s.heap.objs.size f cdv)) → sp vs H Q E →
      ∃ t, PSs (cxOf CX P w K mg base N qual scope f cdv A outer s H E) body t ∧ t { nx := fun _ H' => Q .non H', rt := Q } (start N vs) H) :
    FnOk P w K mg base CX (k + 1) f (PySem.W.fnOf name qual params body scope dV kV doc pm an cdv ct) ps sp := by
  refine ⟨len, fun A outer s H args us vs Q E hr e0 hb r hsp => ?_⟩
  have hl := len _ _ _ _ hsp
  have KX : K.In s.heap := e0.mod.kin.keeps fun b o e => (e0.bs b o e).1
  have lim : s.heap.NoLimit := e0.mod.nolimit.keeps fun b o e => (e0.bs b o e).1
  have hkind : ∀ y ∈ ps.zip us, scope.names.lookup y.1 = some .local ∨ (scope.names.lookup y.1 = some .cell ∧ ((cellsFrom (s.heap.objs.size + 1) scope.names []).lookup y.1).isSome = true) := fun ⟨n, v⟩ hy => by
    rcases S.par n (List.of_mem_zip hy).1 with q | q
    · exact .inl q
    · exact .inr ⟨q, PySem.W.cellsFrom_some _ _ _ (.inl q)⟩
  refine codeAny_call_function hr.depth (KX _ _ lk) rfl S.co S.gen rfl (PySem.W.codeRec_of KX hcd) (hb _ _ _ _ ?_)
  refine wpAny_newFunctionEnv_cells S.kind hkind fun env he s1 x => ?_
  subst he
  refine ⟨lim.keeps x.toInCall.keep, codeAny_func ?_⟩
  obtain ⟨t, ht, hq⟩ := hbody A outer s H vs Q E (hr.deeper _) hsp
  have I : Inv (cxOf CX P w K mg base N qual scope f cdv A outer s H E) [] (start N vs) H s1 := inv_start S hr.hd e0 hl r x
  refine wpAny_mono (ht [] s1 (start N vs) H _ I hq) (fun fl s' hs => ?_) fun e s' hs => hs
  have fin : ∀ {σ' : St} {H' : Hp} {v : V} {u : Value}, Inv (cxOf CX P w K mg base N qual scope f cdv A outer s H E) [] σ' H' s' → RelV v u → Q v H' → CE outer P w H s Q u s' :=
    fun {σ' H' v u} J rv q => ⟨v, H', J.os, J.bare, J.base, J.hok, rv, q⟩
  cases fl with
  | ret u =>
    obtain ⟨v, σ', H', J, rv, q⟩ := hs
    exact fin J rv q
  | next =>
    obtain ⟨σ', H', J, q⟩ := hs
    exact fin (v := V.non) (u := Value.none) J rfl q
  | brk =>
    obtain ⟨_, _, _, q⟩ := hs
    exact False.elim q
  | cont =>
    obtain ⟨_, _, _, q⟩ := hs
    exact False.elim q
end L2

namespace L2
open PySem PySem.Spec PyProof.Rows
section
variable {X : Cx} {x : Str} {p pos : Pos} {e : Expr} {es : List Expr} {t : TA} {id T : String} {r : List V → Hp → VK → Prop}

def tCB (r : List V → Hp → VK → Prop) (t : TA) : TE := fun σ H Q => t σ H fun vs H1 => r vs H1 Q
theorem pe_callB (hc : CallR X (.builtin id) r) (hg : Gl X x) (hm : X.mg x = none) (hv : bootBuiltins x = some (.builtin id)) (ha : PA X (e :: es) t) (hn : x ≠ "__name__" := by decide) (hdb : (x == ("__debug__" : Str)) = false := by decide)
    (he : starEach (e :: es) X.env = (false, eval e X.env) :: starEach es X.env := by rfl) (hpl : (backTo pos (starEach es X.env)).any (·.1) = false := by rfl) : PE X (.Call (.Name x p) (e :: es) [] pos) (tCB r t) := by
  intro pins s σ H Q I h
  refine wpAny_Call_Name_kw (ld_blt I hg hm hv ?_ hn hdb)
  exact PyProof.Rows.callWith_builtin1 (thn (ha pos pins s σ H _ I h) fun us s1 ⟨vs, H1, I1, r1, q1⟩ => hc pins s1 σ H1 vs us Q I1 r1 q1) he hpl
theorem pe_callTy (hc : CallR X (.type T) r) (hg : Gl X x) (hm : X.mg x = none) (hv : bootBuiltins x = some (.type T)) (ha : PA X (e :: es) t) (hn : x ≠ "__name__" := by decide) (hdb : (x == ("__debug__" : Str)) = false := by decide)
    (he : starEach (e :: es) X.env = (false, eval e X.env) :: starEach es X.env := by rfl) (hpl : (backTo pos (starEach es X.env)).any (·.1) = false := by rfl) : PE X (.Call (.Name x p) (e :: es) [] pos) (tCB r t) := by
  intro pins s σ H Q I h
  refine wpAny_Call_Name_kw (ld_blt I hg hm hv ?_ hn hdb)
  exact PyProof.Rows.callWith_type1 (thn (ha pos pins s σ H _ I h) fun us s1 ⟨vs, H1, I1, r1, q1⟩ => hc pins s1 σ H1 vs us Q I1 r1 q1) he hpl
end
end L2

namespace HT
open PySem PyProof.Rows

section
open PySem.SeqAt
open PySem.AutoSeq1 (wpAny_loadPart')
open PySem.MeetsSeq PySem.MeetsSeq2 PySem.MeetsSeq3

end

section
variable {prog : Program} {w : World} {A : Around} {E : Value → Shared → Prop} {s : Shared}

theorem cat_tup {t b : Addr} {vs ws : List Value} {Q : Value → Shared → Prop} (ht : IsTup s.heap t vs.toArray) (hb : IsTup s.heap b ws.toArray) (hv : vs ≠ [])
    (h1 : ws = [] → Q (.ref t) s) (h2 : ws ≠ [] → Q (.ref s.heap.objs.size) { s with heap := s.heap.push { cls := .type "tuple", data := .seq (vs ++ ws).toArray } })
    (hsz : vs.length + ws.length ≤ sizeLine) : wpAny (model prog w) A (binaryOp .Add (.ref t) (.ref b)) Q E s := by
  obtain ⟨⟨cls, dd, data, sl⟩, ho, hc, n, hd⟩ := id ht
  obtain ⟨⟨cls2, dd2, data2, sl2⟩, ho2, hc2, n2, hd2⟩ := id hb
  simp only at hc hd hc2 hd2
  subst hc hd hc2 hd2
  have e : vs.toArray ++ ws.toArray = (vs ++ ws).toArray := by simp
  by_cases hw : ws = []
  · exact concat_meets ⟨_, ho, rfl⟩ ⟨_, ho2, rfl⟩ noFill_tuple_add seq_tuple_add PySem.F.slot_tuple_add PySem.F.entry_tuple_add (PySem.F.args_tuple_add_2 _ _)
      (tuple_addW1 t b vs.toArray ws.toArray n n2 dd dd2 sl sl2 (by simpa using hv) (by simp [hw])) ⟨ho, ho2, h1 hw⟩
  · refine concat_meets ⟨_, ho, rfl⟩ ⟨_, ho2, rfl⟩ noFill_tuple_add seq_tuple_add PySem.F.slot_tuple_add PySem.F.entry_tuple_add (PySem.F.args_tuple_add_2 _ _)
      (tuple_addW2 t b vs.toArray ws.toArray n n2 dd dd2 sl sl2 (by simpa using hv) (by simpa using hw) (by rw [List.size_toArray, List.size_toArray]; exact hsz)) ⟨ho, ho2, ?_⟩
    rw [e]
    exact h2 hw

def sIx (n d : Nat) : Option Int → Nat
  | none => d
  | some v => if v < 0 then (v + (n : Int)).toNat else min v.toNat n
end
end HT

namespace L2
open PySem PySem.Spec PyProof.Rows

abbrev TO := St → Hp → (Option Int → Hp → Prop) → Prop
def PO (X : Cx) (e : Option Expr) (t : TO) : Prop :=
  ∀ (pins : List (Addr × Obj)) (s : Shared) (σ : St) (H : Hp) (Q : Option Int → Hp → Prop), Inv X pins σ H s → t σ H Q →
    wpAny (model X.prog X.w) X.A (evalPart e X.env) (fun u s' => ∃ o H', Inv X pins σ H' s' ∧ IsPart u o ∧ Q o H') X.xe s
theorem intsAre_of {ns : List Int} : ∀ {us : List Value}, Vals (ns.map V.int) us → IntsAre us ns := by
  induction ns with
  | nil => intro us r; rw [List.map_nil] at r; cases r; exact .nil
  | cons n ns ih =>
    intro us r
    rw [List.map_cons] at r
    cases r with
    | cons r1 r2 =>
      obtain ⟨t, e⟩ := r1
      subst e
      exact .cons n t (ih r2)

section
variable {X : Cx} {e : Expr} {te : TE} {lo hi : Option Expr} {tl th : TO} {pos p2 : Pos}

def SlR (X : Cx) (r : V → Option Int → Option Int → Hp → VK → Prop) : Prop :=
  ∀ (pins : List (Addr × Obj)) (s : Shared) (σ : St) (H : Hp) (x : V) (v vl vu : Value) (lo hi : Option Int) (sl : Addr) (Q : VK), Inv X pins σ H s → RelV x v → s.heap.IsSliceOf sl vl vu .none → IsPart vl lo → IsPart vu hi → r x lo hi H Q →
    ∃ T id, typeLookup (.type T) "__getitem__" = pure (some (.builtin id)) ∧ s.TypeIs v T ∧ wpAny (model X.prog X.w) X.A (getItem v (.ref sl)) (EP X pins σ Q) X.xe s
theorem SlR.or {r r' : V → Option Int → Option Int → Hp → VK → Prop} (h : SlR X r) (h' : SlR X r') : SlR X (fun x lo hi H Q => r x lo hi H Q ∨ r' x lo hi H Q) := by
  intro pins s σ H x v vl vu lo hi sl Q I rx hs pl pu q
  rcases q with q | q
  · exact h pins s σ H x v vl vu lo hi sl Q I rx hs pl pu q
  · exact h' pins s σ H x v vl vu lo hi sl Q I rx hs pl pu q
def rCatT (K : PySem.W.Frag) : R2 := fun x y H Q => ∃ a b xs ys, x = .ref a ∧ y = .ref b ∧ SqT K H a xs ∧ SqT K H b ys ∧ xs ≠ [] ∧ xs.length + ys.length ≤ sizeLine ∧
  (ys = [] → Q (.ref a) H) ∧ (ys ≠ [] → ∀ p, H p = none → Q (.ref p) (upd H p (.tup (xs ++ ys))))
theorem Vals.nil_iff {xs : List V} {us : List Value} (r : Vals xs us) : us = [] ↔ xs = [] := by
  cases r with
  | nil => simp
  | cons _ _ => simp
theorem op_catT : OpR X (binaryOp .Add) (rCatT X.K) := by
  intro pins s σ H x y v u Q I rx ry h
  obtain ⟨a, b, xs, ys, rfl, rfl, ha, hb, hx, hz, q1, q2⟩ := h
  cases rx
  cases ry
  obtain ⟨its, r1, p1, _⟩ := I.tuple ha
  obtain ⟨its2, r2, p2, _⟩ := I.tuple hb
  refine HT.cat_tup p1 p2 (fun z => hx (r1.nil_iff.mp z)) (fun z => ⟨.ref a, H, I, rfl, q1 (r2.nil_iff.mp z)⟩) (fun z => ?_) (by rw [← r1.length, ← r2.length]; exact hz)
  refine ⟨.ref s.heap.objs.size, _, I.laid (t' := s.toks) (o := .tup (xs ++ ys)) (fun b ob q => Heap.get?_push_of_some _ q) (Nat.le_refl _) ?_, rfl, q2 (fun w => z (r2.nil_iff.mpr w)) _ (I.hok.fresh (Nat.le_refl _))⟩
  exact ⟨by rw [List.length_append]; exact hz, _, r1.append r2, IsTup.new _ _⟩
end
end L2

namespace L2
open PySem PySem.Spec PyProof.Rows

def ixN (n : Nat) (i : Int) : Option Nat := if 0 ≤ i then (if i < n then some i.toNat else none) else if -(n : Int) ≤ i then some (i + n).toNat else none
def atI {α : Type} (xs : List α) (i : Int) : Option α := (ixN xs.length i).bind fun j => xs[j]?
theorem ixN_seq {n : Nat} {i : Int} {j : Nat} (h : ixN n i = some j) : seqIndex? i n = some j ∧ j < n ∧ -(n : Int) ≤ i ∧ i < n := by
  unfold ixN at h
  by_cases h0 : 0 ≤ i
  · rw [if_pos h0] at h
    by_cases h1 : i < n
    · rw [if_pos h1] at h
      have e : i.toNat = j := Option.some.inj h
      exact ⟨by rw [seqIndex_of h0 h1, e], by omega, by omega, h1⟩
    · rw [if_neg h1] at h; cases h
  · rw [if_neg h0] at h
    by_cases h1 : -(n : Int) ≤ i
    · rw [if_pos h1] at h
      have e : (i + n).toNat = j := Option.some.inj h
      exact ⟨by rw [seqIndex_neg (by omega) h1, e], by omega, h1, by omega⟩
    · rw [if_neg h1] at h; cases h
theorem atI_get {α : Type} {xs : List α} {i : Int} {v : α} (h : atI xs i = some v) : ∃ j, seqIndex? i xs.length = some j ∧ xs[j]? = some v ∧ j < xs.length ∧ -(xs.length : Int) ≤ i ∧ i < xs.length := by
  unfold atI at h
  cases e : ixN xs.length i with
  | none => rw [e] at h; cases h
  | some j =>
    rw [e] at h
    obtain ⟨h1, h2, h3, h4⟩ := ixN_seq e
    exact ⟨j, h1, h, h2, h3, h4⟩
def PlainIx (b : Expr) : Prop := ∀ o i, subscripted b false o i = operate [o, i] (getItem o i)
def IxR (X : Cx) (r : R2) : Prop :=
  ∀ (value slice : Expr) (pins : List (Addr × Obj)) (s : Shared) (σ : St) (H : Hp) (x y : V) (v u : Value) (Q : VK), Inv X pins σ H s → RelV x v → RelV y u → r x y H Q →
    subscripted slice false v u = operate [v, u] (getItem v u) → wpAny (model X.prog X.w) X.A (subscriptTail value slice v u) (EP X pins σ Q) X.xe s
def MtR (X : Cx) (id : String) (r : V → List V → Hp → VK → Prop) : Prop :=
  ∀ (pins : List (Addr × Obj)) (s : Shared) (σ : St) (H : Hp) (x : V) (xs : List V) (v : Value) (us : List Value) (Q : VK), Inv X pins σ H s → RelV x v → Vals xs us → r x xs H Q →
    wpAny (model X.prog X.w) X.A (call (.builtin id) (v :: us)) (EP X pins σ Q) X.xe s
section
variable {X : Cx} {a b : Expr} {ta tb : TE} {pos : Pos}
theorem IxR.or {r r' : R2} (h : IxR X r) (h' : IxR X r') : IxR X (fun x y H Q => r x y H Q ∨ r' x y H Q) := by
  intro value slice pins s σ H x y v u Q I rx ry q hs
  rcases q with q | q
  · exact h value slice pins s σ H x y v u Q I rx ry q hs
  · exact h' value slice pins s σ H x y v u Q I rx ry q hs
theorem MtR.or {id : String} {r r' : V → List V → Hp → VK → Prop} (h : MtR X id r) (h' : MtR X id r') : MtR X id (fun x xs H Q => r x xs H Q ∨ r' x xs H Q) := by
  intro pins s σ H x xs v us Q I rx rs q
  rcases q with q | q
  · exact h pins s σ H x xs v us Q I rx rs q
  · exact h' pins s σ H x xs v us Q I rx rs q
theorem pe_ix {r : R2} (hr : IxR X r) (ha : PE X a ta) (hb : PE X b tb) (hs : PlainIx b) : PE X (.Subscript a b pos) (tOp r ta tb) := by
  intro pins s σ H Q I h
  exact Subscript_ (binT ha hb I h fun v u s2 x y H2 I2 rx ry q => hr a b pins s2 σ H2 x y v u Q I2 rx ry q (hs _ _))

def rIxL (K : PySem.W.Frag) : R2 := fun x y H Q => ∃ p xs i v, x = .ref p ∧ y = .int i ∧ SqL K H p xs ∧ atI xs i = some v ∧ Q v H
def rIxT (K : PySem.W.Frag) : R2 := fun x y H Q => ∃ p xs i v, x = .ref p ∧ y = .int i ∧ SqT K H p xs ∧ atI xs i = some v ∧ Q v H
theorem ix_list : IxR X (rIxL X.K) := by
  intro value slice pins s σ H x y v u Q I rx ry h hs
  obtain ⟨p, xs, i, z, rfl, rfl, hq, he, q⟩ := h
  cases rx
  obtain ⟨t, rfl⟩ := ry
  obtain ⟨its, r, pl, hz⟩ := I.list hq
  obtain ⟨j, h1, h2, h3, h4, h5⟩ := atI_get he
  obtain ⟨w, ew, rw'⟩ := r.get h2
  have hl := r.length
  have hn := line63
  have fin : EP X pins σ Q w s := ⟨z, H, I, rw', q⟩
  by_cases h0 : 0 ≤ i
  · have hj : i.toNat = j := by
      rw [seqIndex_of h0 h5] at h1
      exact Option.some.inj h1
    exact item_listR pl.isList h0 (by omega) (by rw [hj]; simpa using ew) fin hs
  · have hj : (i + (its.toArray.size : Int)).toNat = j := by
      rw [seqIndex_neg (by omega) h4] at h1
      rw [List.size_toArray, ← hl]
      exact Option.some.inj h1
    exact subscriptTail_builtinR (x := w) pl.isList.typeIs slot_list_getitem.lookup
      (wpAny_getItem_list_neg (Q := fun r s' => r = w ∧ EP X pins σ Q r s') pl.isList (by omega) (by rw [List.size_toArray] <;> omega) (by omega) (by rw [hj]; simpa using ew) ⟨rfl, fin⟩) hs
theorem ix_tup : IxR X (rIxT X.K) := by
  intro value slice pins s σ H x y v u Q I rx ry h hs
  obtain ⟨p, xs, i, z, rfl, rfl, hq, he, q⟩ := h
  cases rx
  obtain ⟨t, rfl⟩ := ry
  obtain ⟨its, r, pl, hz⟩ := I.tuple hq
  obtain ⟨j, h1, h2, h3, h4, h5⟩ := atI_get he
  obtain ⟨w, ew, rw'⟩ := r.get h2
  have hl := r.length
  have hn := line63
  have fin : EP X pins σ Q w s := ⟨z, H, I, rw', q⟩
  exact subscriptTail_builtinR (x := w) pl.typeIs slot_tuple_getitem.lookup
    (getItem_tuple (j := j) (Q := fun r s' => r = w ∧ EP X pins σ Q r s') pl (by omega) (by omega) (by rw [List.size_toArray, ← hl]; exact h1) (by simpa using ew) ⟨rfl, fin⟩) hs
theorem mapSeq_set (its : List Value) (n j : Nat) (u : Value) : Obj.mapSeq (·.setIfInBounds j u) { cls := .type "list", data := .seq its.toArray n } = { cls := .type "list", data := .seq (its.set j u).toArray n } := by
  simp [Obj.mapSeq]
theorem Inv.lst {pins : List (Addr × Obj)} {σ : St} {H : Hp} {s : Shared} {p : Addr} {xs : List V} (I : Inv X pins σ H s) (h : H p = some (.lst xs)) :
    ∃ (its : List Value) (n : Nat), Vals xs its ∧ s.heap.get? p = some { cls := .type "list", data := .seq its.toArray n } ∧ xs.length ≤ sizeLine := by
  obtain ⟨z, its, n, r, e⟩ := I.hok p _ h
  exact ⟨its, n, r, e, z⟩
theorem Inv.lstUpd {pins : List (Addr × Obj)} {σ : St} {H : Hp} {s : Shared} {p : Addr} {xs ys : List V} {its its' : List Value} {n n' : Nat} {f : Obj → Obj} (I : Inv X pins σ H s) (h : H p = some (.lst xs))
    (ho : s.heap.get? p = some { cls := .type "list", data := .seq its.toArray n }) (hf : f { cls := .type "list", data := .seq its.toArray n } = { cls := .type "list", data := .seq its'.toArray n' }) (r : Vals ys its') (hz : ys.length ≤ sizeLine) (t : Nat) :
    Inv X pins σ (upd H p (.lst ys)) { s with heap := s.heap.update p f, toks := t } := by
  have e : (s.heap.update p f).get? p = some { cls := .type "list", data := .seq its'.toArray n' } := by
    rw [Heap.get?_update_self f ho (by rw [hf] <;> rfl), hf]
  refine I.write (x := p) (e := p) (by rw [h]; trivial) (.inl rfl) (fun b u hb q => (Heap.get?_update_other _ _ (Ne.symm hb)).trans q) ⟨_, e⟩ ?_
  exact ⟨hz, its', n', r, e⟩
def rSetL : V → V → V → Hp → (Hp → Prop) → Prop := fun o i v H Q => ∃ p xs k j, o = .ref p ∧ i = .int k ∧ H p = some (.lst xs) ∧ ixN xs.length k = some j ∧ Q (upd H p (.lst (xs.set j v)))
theorem set_list : PSet X rSetL := by
  intro pins s σ H o i v ov iv u Q I ro ri rv h
  obtain ⟨p, xs, k, j, rfl, rfl, hp, hj, q⟩ := h
  cases ro
  obtain ⟨t, rfl⟩ := ri
  obtain ⟨its, n, r, ho, hz⟩ := I.lst hp
  obtain ⟨h1, h2, h3, h4⟩ := ixN_seq hj
  have hl := r.length
  have hn := line63
  have I' : Inv X pins σ (upd H p (.lst (xs.set j v))) { s with heap := s.heap.update p (Obj.mapSeq (·.setIfInBounds j u)) } :=
    I.lstUpd hp ho (mapSeq_set its n j u) (r.set rv j) (by rw [List.length_set]; exact hz) s.toks
  by_cases h0 : 0 ≤ k
  · have hk : k.toNat = j := by
      rw [seqIndex_of h0 h4] at h1
      exact Option.some.inj h1
    exact PySem.W.ki_setAt ho h0 (by omega) (by rw [List.size_toArray, ← hl]; exact h4) (by rw [hk]; exact ⟨_, I', q⟩)
  · have hk : (k + (its.toArray.size : Int)).toNat = j := by
      rw [seqIndex_neg (by omega) h3] at h1
      rw [List.size_toArray, ← hl]
      exact Option.some.inj h1
    exact PySem.W.ki_setBack ho (by omega) (by rw [List.size_toArray, ← hl]; exact h3) (by omega) (by rw [hk]; exact ⟨_, I', q⟩)

def flatV : V → Bool
  | .non => true
  | .bl _ => true
  | .int _ => true
  | .str _ => true
  | _ => false
def eqV : V → V → Bool
  | .non, .non => true
  | .bl a, .bl b => a == b
  | .bl a, .int b => (if a then 1 else 0) == b
  | .int a, .bl b => a == (if b then 1 else 0)
  | .int a, .int b => a == b
  | .str a, .str b => a == b
  | _, _ => false
theorem eqAt_V {A : Around} {s : Shared} {y x : V} {u v : Value} (ry : RelV y u) (rx : RelV x v) (fy : flatV y = true) (fx : flatV x = true) : SeqAt.EqAt A s u v (eqV y x) := by
  cases y with
  | non =>
    cases ry
    cases x with
    | non => cases rx; exact SeqAt.EqAt.same _
    | bl b => cases rx; exact SeqAt.EqAt.none_bool b
    | int b => obtain ⟨t, rfl⟩ := rx; exact SeqAt.EqAt.none_int b t
    | str b => obtain ⟨t, rfl⟩ := rx; exact SeqAt.EqAt.none_str b t
    | _ => exact absurd (show false = true from fx) Bool.false_ne_true
  | bl a =>
    cases ry
    cases x with
    | non => cases rx; exact SeqAt.EqAt.bool_none a
    | bl b => cases rx; exact SeqAt.EqAt.bool_bool a b
    | int b => obtain ⟨t, rfl⟩ := rx; exact SeqAt.EqAt.bool_int a b t
    | str b => obtain ⟨t, rfl⟩ := rx; exact SeqAt.EqAt.bool_str a b t
    | _ => exact absurd (show false = true from fx) Bool.false_ne_true
  | int a =>
    obtain ⟨t', rfl⟩ := ry
    cases x with
    | non => cases rx; exact SeqAt.EqAt.int_none a t'
    | bl b => cases rx; exact SeqAt.EqAt.int_bool a t' b
    | int b => obtain ⟨t, rfl⟩ := rx; exact SeqAt.EqAt.int_int a t' b t
    | str b => obtain ⟨t, rfl⟩ := rx; exact SeqAt.EqAt.int_str a t' b t
    | _ => exact absurd (show false = true from fx) Bool.false_ne_true
  | str a =>
    obtain ⟨t', rfl⟩ := ry
    cases x with
    | non => cases rx; exact SeqAt.EqAt.str_none a t'
    | bl b => cases rx; exact SeqAt.EqAt.str_bool a t' b
    | int b => obtain ⟨t, rfl⟩ := rx; exact SeqAt.EqAt.str_int a t' b t
    | str b => obtain ⟨t, rfl⟩ := rx; exact SeqAt.EqAt.str_str a t' b t
    | _ => exact absurd (show false = true from fx) Bool.false_ne_true
  | _ => exact absurd (show false = true from fy) Bool.false_ne_true
theorem call_len_seq : CallR X (.builtin "len") (fun xs H Q => ∃ p ys, xs = [.ref p] ∧ (SqL X.K H p ys ∨ SqT X.K H p ys) ∧ Q (.int ys.length) H) := by
  intro pins s σ H xs us Q I r h
  obtain ⟨p, ys, rfl, hq, q⟩ := h
  obtain ⟨u, rfl, rx⟩ := vals1 r
  cases rx
  have hn := line63
  rcases hq with hq | hq
  · obtain ⟨its, r', pl, hz⟩ := I.list hq
    have hlen := r'.length
    exact Calls.call_len_list pl.isList (by simp only [List.size_toArray] <;> omega) ⟨.int ys.length, H, I.tok _, ⟨s.toks + 1, by rw [List.size_toArray, hlen]⟩, q⟩
  · obtain ⟨its, r', pl, hz⟩ := I.tuple hq
    have hlen := r'.length
    exact len_tuple pl (by simp only [List.size_toArray] <;> omega) ⟨.int ys.length, H, I.tok _, ⟨s.toks + 1, by rw [List.size_toArray, hlen]⟩, q⟩
theorem CallR.or {f : Value} {r r' : List V → Hp → VK → Prop} (h : CallR X f r) (h' : CallR X f r') : CallR X f (fun xs H Q => r xs H Q ∨ r' xs H Q) := by
  intro pins s σ H xs us Q I rs q
  rcases q with q | q
  · exact h pins s σ H xs us Q I rs q
  · exact h' pins s σ H xs us Q I rs q
theorem call_list_of : CallR X (.type "list") (fun xs H Q => ∃ p ys, xs = [.ref p] ∧ (SqL X.K H p ys ∨ SqT X.K H p ys) ∧ ∀ l, H l = none → Q (.ref l) (upd H l (.lst ys))) := by
  intro pins s σ H xs us Q I r h
  obtain ⟨p, ys, rfl, hq, q⟩ := h
  obtain ⟨u, rfl, rx⟩ := vals1 r
  cases rx
  have fin : ∀ (its : List Value), Vals ys its → ys.length ≤ sizeLine → ∀ (h' : Heap) (c' : Nat), (∀ b o', s.heap.get? b = some o' → h'.get? b = some o') →
      h'.get? s.heap.objs.size = some { cls := .type "list", dict := none, data := .seq its.toArray c', slots := #[] } → EP X pins σ Q (.ref s.heap.objs.size) { s with heap := h' } := fun its r' hz h' c' kp e =>
    ⟨.ref s.heap.objs.size, _, I.laid (t' := s.toks) kp (Nat.le_refl _) (show ObjOk X.prog X.w _ h' _ (.lst ys) from ⟨hz, its, c', r', e⟩), rfl, q _ (I.hok.fresh (Nat.le_refl _))⟩
  rcases hq with hq | hq
  · obtain ⟨its, r', pl, hz⟩ := I.list hq
    have hlen := r'.length
    obtain ⟨o, ho, hc, n, hd⟩ := pl.isList
    exact call_list_seq p (.inl rfl) ho hc hd (fun h' c' kp e => fin its r' hz h' c' kp e) (by simp only [List.size_toArray] <;> omega)
  · obtain ⟨its, r', pl, hz⟩ := I.tuple hq
    have hlen := r'.length
    obtain ⟨o, ho, hc, n, hd⟩ := pl
    exact call_list_seq p (.inr rfl) ho hc hd (fun h' c' kp e => fin its r' hz h' c' kp e) (by simp only [List.size_toArray] <;> omega)
def tyV (K : PySem.W.Frag) (T : String) (x : V) (H : Hp) : Prop := match x with
  | .str _ => T = "str"
  | .int _ => T = "int"
  | .ref p => (T = "list" ∧ ∃ xs, SqL K H p xs) ∨ (T = "tuple" ∧ ∃ o, K.lookup p = some o ∧ o.cls = .type "tuple" ∧ o.dict = none) ∨
      (T = "dict" ∧ ((∃ kvs, H p = some (.dK kvs)) ∨ ∃ kvs, H p = some (.dT kvs))) ∨ (T = "set" ∧ ∃ S n, H p = some (.set S n))
  | _ => False
theorem tyV_is {pins : List (Addr × Obj)} {σ : St} {H : Hp} {s : Shared} {T : String} {x : V} {v : Value} (I : Inv X pins σ H s) (r : RelV x v) (ty : tyV X.K T x H) :
    s.TypeIs v T ∧ ∀ a, v = .ref a → ∃ ob, s.heap.get? a = some ob ∧ ob.dict = none := by
  cases x with
  | str z =>
    obtain ⟨t, rfl⟩ := r
    cases (show T = "str" from ty)
    exact ⟨typeIs_str s z t, fun _ e => nomatch e⟩
  | int i =>
    obtain ⟨t, rfl⟩ := r
    cases (show T = "int" from ty)
    exact ⟨typeIs_int s i t, fun _ e => nomatch e⟩
  | ref p =>
    cases r
    rcases ty with ⟨rfl, xs, hq⟩ | ⟨rfl, o, hk, hc, hd⟩ | ⟨rfl, hk⟩ | ⟨rfl, S, n, hk⟩
    · obtain ⟨its, _, pl, _⟩ := I.list hq
      refine ⟨pl.isList.typeIs, fun a e => ?_⟩
      cases e
      obtain ⟨o, n, e, c, hd, _⟩ := pl
      exact ⟨o, e, hd⟩
    · refine ⟨⟨o, I.kIn p o hk, hc⟩, fun a e => ?_⟩
      cases e
      exact ⟨o, I.kIn _ o hk, hd⟩
    · have z : ∃ o, s.heap.get? p = some o ∧ o.ExactDict := by
        rcases hk with ⟨kvs, hk⟩ | ⟨kvs, hk⟩
        · obtain ⟨_, _, _, _, o, _, _, e, ex, _⟩ := I.hok p _ hk
          exact ⟨o, e, ex⟩
        · obtain ⟨_, _, _, _, o, _, _, e, ex, _⟩ := I.hok p _ hk
          exact ⟨o, e, ex⟩
      obtain ⟨o, e, ex⟩ := z
      refine ⟨⟨o, e, ex.1⟩, fun a e2 => ?_⟩
      cases e2
      exact ⟨o, e, ex.2.1⟩
    · obtain ⟨o, _, _, _, e, ex, _⟩ := I.hok p _ hk
      refine ⟨⟨o, e, ex.1⟩, fun a e2 => ?_⟩
      cases e2
      exact ⟨o, e, ex.2.1⟩
  | _ => exact False.elim ty
def tBM (K : PySem.W.Frag) (T : String) (r : V → List V → Hp → VK → Prop) (to : TE) (t : TA) : TE := fun σ H Q => to σ H fun x H1 => tyV K T x H1 ∧ t σ H1 fun xs H2 => r x xs H2 Q
variable {o e : Expr} {es : List Expr} {to : TE} {t : TA} {name : Str} {apos cpos : Pos} {T id : String} {r : V → List V → Hp → VK → Prop}
theorem pe_bm (pa : PlainAttrs T) (slot : Slot T name id) (hty : typeOf (.builtin id) = pure (.type "method_descriptor")) (hm : MtR X id r) (ho : PE X o to) (ha : PA X (e :: es) t)
    (hbase : attributeBase o name X.env (eval o X.env) = eval o X.env := by rfl)
    (hfew : ((backTo cpos (starEach (e :: es) X.env)).all (fun x => !x.1) && (backToKw cpos (keywordEach [] X.env)).all (fun x => x.1.isSome)
      && decide ((e :: es).length + ([] : List Keyword).length + (if ([] : List Keyword).isEmpty then 0 else 1) < 30)) = true := by rfl)
    (hline : (apos.endLine == cpos.line) = true := by rfl) (hs : starEach (e :: es) X.env = (false, eval e X.env) :: starEach es X.env := by rfl) (hplain : (backTo cpos (starEach es X.env)).any (·.1) = false := by rfl) :
    PE X (.Call (.Attribute o name apos) (e :: es) [] cpos) (tBM X.K T r to t) := by
  intro pins s σ H Q I h
  refine wpAny_Call_method_late hbase hfew hline rfl (thn (ho pins s σ H _ I h) fun v s1 hQQ => ?_)
  obtain ⟨x, H1, I1, r1, ty, q1⟩ := hQQ
  obtain ⟨h1, h2⟩ := tyV_is I1 r1 ty
  refine ⟨T, id, pa, slot, hty, h1, h2, ?_⟩
  have hA := ha cpos pins s1 σ H1 _ I1 q1
  rw [hs] at hA ⊢
  refine Calls.callWith_builtin (by show (false || (backTo cpos (starEach es X.env)).any (·.1)) = false; rw [hplain] <;> rfl) (Calls.evalArgs_plain ?_)
  exact thn hA fun us s2 ⟨vs, H2, I2, r2, q2⟩ => hm pins s2 σ H2 x vs v us Q I2 r1 r2 q2
/- xs.append(e), list.index on a module's tuple .. are MtR facts of 06m -/
end
end L2

namespace L2
open PySem PySem.Spec PyProof.Rows

def MtM (X : Cx) (id : String) (r : V → List V → Hp → VK → Prop) : Prop :=
  ∀ (pins : List (Addr × Obj)) (s : Shared) (σ : St) (H : Hp) (x : V) (xs : List V) (v : Value) (us : List Value) (Q : VK), Inv X pins σ H s → RelV x v → Vals xs us → r x xs H Q →
    wpAny (model X.prog X.w) X.A (call (.builtin id) (v :: us)) (EP X pins σ Q) X.xe s

theorem Vals.one : ∀ {x : V} {us : List Value}, Vals [x] us → ∃ u, us = [u] ∧ RelV x u
  | _, _, .cons r .nil => ⟨_, rfl, r⟩
theorem Vals.two : ∀ {x y : V} {us : List Value}, Vals [x, y] us → ∃ u v, us = [u, v] ∧ RelV x u ∧ RelV y v
  | _, _, _, .cons r (.cons q .nil) => ⟨_, _, rfl, r, q⟩
theorem Vals.zero : ∀ {us : List Value}, Vals [] us → us = []
  | _, .nil => rfl
theorem Vals.eraseIdx : ∀ {xs : List V} {us : List Value} (i : Nat), Vals xs us → Vals (xs.eraseIdx i) (us.eraseIdx i)
  | _, _, _, .nil => .nil
  | _, _, 0, .cons _ t => t
  | _, _, i + 1, .cons r t => .cons r (Vals.eraseIdx i t)
theorem Vals.reverse {xs : List V} {us : List Value} (h : Vals xs us) : Vals xs.reverse us.reverse := by
  induction h with
  | nil => exact .nil
  | cons r t ih => rw [List.reverse_cons, List.reverse_cons]; exact Vals.append ih (.cons r .nil)
theorem Vals.rep {xs : List V} {us : List Value} (h : Vals xs us) : ∀ k : Nat, Vals (List.replicate k xs).flatten (List.replicate k us).flatten
  | 0 => .nil
  | k + 1 => by
    rw [List.replicate_succ, List.replicate_succ, List.flatten_cons, List.flatten_cons]
    exact Vals.append h (Vals.rep h k)
theorem foldl_rep (its : List Value) : ∀ (k : Nat) (acc : List Value),
    List.foldl (fun x1 x2 => x1 ++ x2) acc.toArray (List.replicate k its.toArray) = (acc ++ (List.replicate k its).flatten).toArray
  | 0, acc => by simp
  | k + 1, acc => by
    have e : acc.toArray ++ its.toArray = (acc ++ its).toArray := by simp
    have e2 : (acc ++ its) ++ (List.replicate k its).flatten = acc ++ (List.replicate (k + 1) its).flatten := by
      rw [List.replicate_succ, List.flatten_cons, List.append_assoc]
    rw [← e2, ← foldl_rep its k (acc ++ its), ← e, List.replicate_succ, List.foldl_cons]

section
variable {X : Cx} {pins : List (Addr × Obj)} {σ : St} {H : Hp} {s : Shared} {l b : Addr} {xs ys zs : List V}

theorem Inv.lset {its its' : List Value} {n : Nat} {f : Array Value → Array Value} {t' : Nat} (I : Inv X pins σ H s) (hH : H l = some (.lst xs))
    (e : s.heap.get? l = some { cls := .type "list", data := .seq its.toArray n }) (hf : f its.toArray = its'.toArray) (hv : Vals ys its') (hz : ys.length ≤ sizeLine) :
    Inv X pins σ (upd H l (.lst ys)) { s with heap := s.heap.update l (Obj.mapSeq f), toks := t' } := by
  have q := PySem.IsL.update e f
  rw [hf] at q
  refine I.write (x := l) (e := l) (by rw [hH]; exact trivial) (.inl rfl) (fun b' u hb hu => (Heap.get?_update_other s.heap (Obj.mapSeq f) (Ne.symm hb)).trans hu) ⟨_, q⟩ ?_
  exact ⟨hz, its', _, hv, q⟩
theorem Inv.lnew {its : List Value} {t' : Nat} (I : Inv X pins σ H s) (hv : Vals ys its) (hz : ys.length ≤ sizeLine) :
    Inv X pins σ (upd H s.heap.objs.size (.lst ys)) { s with heap := s.heap.push { cls := .type "list", data := .seq its.toArray }, toks := t' } :=
  I.laid (fun _ _ q => Heap.get?_push_of_some _ q) (Nat.le_refl _) ⟨hz, its, 0, hv, Heap.get?_push_size _ rfl⟩
theorem Inv.fresh (I : Inv X pins σ H s) : H s.heap.objs.size = none := I.hok.fresh (Nat.le_refl _)
theorem Inv.lstM (I : Inv X pins σ H s) (hH : H l = some (.lst xs)) : xs.length ≤ sizeLine ∧ ∃ (its : List Value) (n : Nat), Vals xs its ∧ xs.length = its.length ∧ s.heap.get? l = some { cls := .type "list", data := .seq its.toArray n } := by
  obtain ⟨z, its, n, r, e⟩ := I.hok l _ hH
  exact ⟨z, its, n, r, r.length, e⟩

theorem notLongL {n : Nat} (h : n ≤ sizeLine) : Builtin.List.listTooLong n = false := by
  unfold Builtin.List.listTooLong
  exact decide_eq_false (by omega)
end

section
variable {X : Cx}

def rAppend : V → List V → Hp → VK → Prop := fun x vs H Q => ∃ l xs y, x = .ref l ∧ vs = [y] ∧ H l = some (.lst xs) ∧ xs.length < sizeLine ∧ Q .non (upd H l (.lst (xs ++ [y])))
theorem mt_append : MtM X "list.append" rAppend := by
  intro pins s σ H x vs v us Q I rx rv h
  obtain ⟨l, xs, y, rfl, rfl, hH, hz, q⟩ := h
  cases rx
  obtain ⟨u, rfl, ru⟩ := rv.one
  obtain ⟨z, its, n, r, hl, e⟩ := I.lstM hH
  refine call_meets F.slot_list_append ⟨_, e, rfl⟩ F.entry_list_append (F.args_list_append_2 _ _) (PySem.list_append l its.toArray n u (by rw [List.size_toArray]; omega)) ⟨e, ?_⟩
  refine ⟨.non, _, I.lset (its' := its ++ [u]) hH e (by simp) (r.append (.cons ru .nil)) ?_, rfl, q⟩
  rw [List.length_append, List.length_singleton]
  omega

def rCat : R2 := fun x y H Q => ∃ l b xs zs, x = .ref l ∧ y = .ref b ∧ H l = some (.lst xs) ∧ H b = some (.lst zs) ∧ xs.length + zs.length ≤ sizeLine ∧ ∀ p, H p = none → Q (.ref p) (upd H p (.lst (xs ++ zs)))
theorem op_cat : OpR X (binaryOp .Add) rCat := by
  intro pins s σ H x y v u Q I rx ry h
  obtain ⟨l, b, xs, zs, rfl, rfl, hH, hB, hz, q⟩ := h
  cases rx
  cases ry
  obtain ⟨z, its, n, r, hl, e⟩ := I.lstM hH
  obtain ⟨z2, its2, n2, r2, hl2, e2⟩ := I.lstM hB
  refine PySem.P.add_list e e2 ?_ (by rw [List.size_toArray, List.size_toArray]; omega)
  have ea : its.toArray ++ its2.toArray = (its ++ its2).toArray := by simp
  rw [ea]
  exact ⟨.ref _, _, I.lnew (t' := s.toks) (r.append r2) (by rw [List.length_append]; omega), rfl, q _ I.fresh⟩
def rRep : R2 := fun x y H Q => ∃ l k xs, x = .ref l ∧ y = .int k ∧ H l = some (.lst xs) ∧ -(2 ^ 63) ≤ k ∧ k < 2 ^ 63 ∧ xs.length * k.toNat ≤ sizeLine ∧
  ∀ p, H p = none → Q (.ref p) (upd H p (.lst (List.replicate k.toNat xs).flatten))
theorem len_rep {α : Type} (xs : List α) (k : Nat) : (List.replicate k xs).flatten.length = k * xs.length := by
  induction k with
  | zero => simp
  | succ k ih => rw [List.replicate_succ, List.flatten_cons, List.length_append, ih, Nat.succ_mul, Nat.add_comm]
theorem op_rep : OpR X (binaryOp .Mult) rRep := by
  intro pins s σ H x y v u Q I rx ry h
  obtain ⟨l, k, xs, rfl, rfl, hH, h1, h2, hz, q⟩ := h
  cases rx
  obtain ⟨t, rfl⟩ := ry
  obtain ⟨z, its, n, r, hl, e⟩ := I.lstM hH
  have hlen : its.toArray.size * k.toNat ≤ sizeLine := by rw [List.size_toArray, ← hl]; exact hz
  have hcap : ¬ its.toArray.size * k.toNat > (2 ^ 63 - 1) / 8 := by
    have : (sizeLine : Nat) ≤ (2 ^ 63 - 1) / 8 := by decide
    omega
  have hfit : ¬ (!Builtin.List.listFitsIndex k) = true := by
    rw [fitsIndex_both h1 h2]
    exact Bool.false_ne_true
  have hlong : ¬ Builtin.List.listTooLong (its.toArray.size * k.toNat) = true := by
    rw [notLongL hlen]
    exact Bool.false_ne_true
  have hnew : List.foldl (fun x1 x2 => x1 ++ x2) #[] (List.replicate (if its.toArray.isEmpty = true then 0 else k.toNat) its.toArray) = (List.replicate k.toNat its).flatten.toArray := by
    have f0 : ∀ m : Nat, List.foldl (fun x1 x2 => x1 ++ x2) #[] (List.replicate m its.toArray) = (List.replicate m its).flatten.toArray := fun m => by
      have := foldl_rep its m []
      rw [List.nil_append] at this
      exact this
    rw [f0]
    cases its with
    | nil => simp
    | cons a r' => rw [if_neg (by simp)]
  refine wpAny_binaryOp_repeat_ref (T := "list") (U := "int") (by decide) ⟨_, e, rfl⟩ (fun s' => typeIs_int s' k t) noFill_list_mul F.fills_int_mul F.slot_int_rmul repeat_list F.slot_int_index.lookup
    (call_meets F.slot_int_rmul (typeIs_int s k t) F.entry_int_rmul (F.args_int_rmul_2 _ _) (int___rmul___int_list k t l its.toArray n)
      ⟨e, rfl, ⟨_, e, rfl⟩, call_meets F.slot_list_mul ⟨_, e, rfl⟩ F.entry_list_mul (F.args_list_mul_2 _ _) (AutoListH.list___mul___list_int_3 l its.toArray n k t hfit hcap hlong) ⟨e, ?_⟩⟩)
  rw [hnew]
  exact ⟨.ref _, _, I.lnew (t' := s.toks) (r.rep k.toNat) (by rw [len_rep, Nat.mul_comm]; exact hz), rfl, q _ I.fresh⟩

end

section
variable {prog : Program} {w : World} {A : Around} {E : Value → Shared → Prop} {s : Shared}
end

section
variable {X : Cx}
end
end L2

namespace Att
open PySem PySem.W PySem.Calls PyProof.Rows

theorem ints_of_wellAll {P : Params} {h : Heap} : ∀ (ns : List Int) (vs : List Value), WellAll P h vs (ns.map WData.int) → IntsAre vs ns := by
  intro ns
  induction ns with
  | nil =>
    intro vs w
    rw [List.map_nil] at w
    cases w
    exact .nil
  | cons n ns ih =>
    intro vs w
    rw [List.map_cons] at w
    cases w with
    | cons a b =>
      cases a
      exact .cons _ _ (ih _ b)

theorem script_of {l : OpenLaw} {n : Nat} (hn : l.most = some n) {P : Params} {h : Heap} {args : List WData} {vals : List Value}
    (hpre : l.row.toRowW.claim.pre args = true) (hwl : WellAll P h vals args) :
    ∃ a vs ns, vals = [Value.ref a] ∧ args = [WData.list (ns.map WData.int)] ∧ h.get? a = some { cls := .type "list", data := .seq vs.toArray } ∧ IntsAre vs ns ∧ ns.length ≤ n := by
  have hsh : WShape.hasAll [] args [.list .int] = true := (pre_splitW hpre).1
  have hc : l.pre.holds [] { args := args } = true := (pre_splitW hpre).2
  obtain ⟨d, r, rfl, h1, h2⟩ := hasAllW_cons hsh
  obtain rfl := hasAllW_nil h2
  obtain ⟨xs, rfl, h3⟩ := hasW_list h1
  obtain ⟨ns, rfl⟩ := items_int h3
  have hlen : ns.length ≤ n := by
    unfold OpenLaw.pre at hc
    have h4 : (WTm.not (.lt (.lit (.int (n : Int))) (.len (.arg 0)))).holds [] { args := [.list (ns.map .int)] } = true := by
      have h4 := (holds_andW hc).1
      rw [hn] at h4
      exact h4
    have h5 := condW_of h4 (w_not (w_lt w_lit (w_len_list (w_arg rfl))))
    rw [List.length_map] at h5
    refine Nat.le_of_not_lt fun q => ?_
    have q' : (n : Int) < ((ns.length : Nat) : Int) := by omega
    first
      | (rw [decide_eq_true q'] at h5; exact absurd h5 (by decide))
      | (simp at h5; omega)
  cases hwl with
  | cons w1 w2 =>
    cases w2
    cases w1 with
    | list ho hall => exact ⟨_, _, ns, rfl, rfl, ho, ints_of_wellAll ns _ hall, hlen⟩

theorem post_true (l : OpenLaw) (args : List WData) : l.row.toRowW.claim.post args (.bool true) args = true :=
  postW_of (r := l.row.toRowW) (X := (true == true))
    (show WShape.has [] (.bool true) .bool = true by first | rfl | decide | simp [WShape.has, WShape.arms, WShape.armsAll])
    (show (WTm.eq .res (.lit (.bool true))).value [] { args := args, res := some (.bool true), after := args } = some (.bool (true == true)) from w_eq_bool (w_res rfl) w_lit) rfl

theorem attach_call {l : OpenLaw} {n : Nat} {q : Program} {loose : List Str} {XP : (Str → Option Value) → Heap → Prop} {YP : World → Heap → Prop} {d : DefRec}
    (hn : l.most = some n) (hdf : d.params.defaults = [])
    (call : ∀ (w : World) (s₀ s₁ : Shared) (mg mb : Str → Option Value) (fa : Addr) (o : Obj) (pm cd doc : Value) (a : Addr) (vs : List Value) (ns : List Int),
      Ground q loose [] XP w s₀ mg mb s₁.heap → YP w s₁.heap →
      s₁.heap.get? fa = some o → o.data = .func (docDef d.name d.params d.body d.scope pm cd doc) → s₁.heap.CodeRec cd d.name → mg d.name = some (.ref fa) →
      s₁.heap.get? a = some { cls := .type "list", data := .seq vs.toArray } → IntsAre vs ns → ns.length ≤ n → s₁.gens = #[] →
      codeAny (model l.prog w) callerA (.call (.ref fa) ⟨[.ref a], []⟩) (fun r s' => r = .ok (.ret (.bool true)) ∧ OldK s₁.heap s'.heap ∧ s'.os = s₁.os ∧ AllBare s'.gens) s₁) :
    WalkO q loose XP YP l.row.toRowW d [] (fun f vs => PySem.call f vs) := by
  intro w s₀ s₁ mg mb G Y fa o pm cd doc dV kV ho hd hcd hD hmg hg args vals as hpre hlay hrd hwl hlo
  obtain rfl : dV = .none := Dflts.none hD hdf
  obtain rfl : kV = .none := Dflts.noKw hD
  obtain ⟨a, vs, ns, rfl, rfl, hobj, hints, hlen⟩ := script_of hn hpre hwl
  refine enter_call (codeAny_mono (call w s₀ s₁ mg mb fa o pm cd doc a vs ns G Y ho (fd_plain hd) hcd hmg hobj hints hlen hg) fun r s' hq => ?_)
  obtain ⟨rfl, h2, h3, h4⟩ := hq
  exact ⟨.inl ⟨.bool true, .bool true, [], rfl, fun _ => rfl, .bool true, post_true l _, fun _ => ⟨List.Pairwise.nil, fun _ hm => (nomatch hm)⟩⟩, h2, h3, h4⟩

section
variable {prog : Program} {w : World} {A : Around} {E : Value → Shared → Prop} {s : Shared} {K : Frag}

end
end Att

namespace L2
open PySem PySem.Spec PyProof.Rows

theorem vals_ints {vs : List Value} {ns : List Int} (h : IntsAre vs ns) : Vals (ns.map V.int) vs := by
  induction h with
  | nil => exact .nil
  | cons n t h ih => exact .cons ⟨t, rfl⟩ ih

def Only (H : Hp) : Prop := ∀ b, H b = none ∨ ∃ o xs, H b = some (.frz o (.lst xs))

theorem law_call {P : Program} {w : World} {K : PySem.W.Frag} {mg mb : Str → Option Value} {CX : CXT} {k : Nat} {fa a : Addr} {fd : FuncData} {x : Str} {sp : Sp} {s₁ : Shared} {vs : List Value} {ns : List Int}
    (KX : K.In s₁.heap) (hns : s₁.heap.Ns mainGlobals mg) (hb : s₁.heap.Ns builtinsNs mb) (hbb : ∀ x : Str, x ≠ "__name__" → mb x = bootBuiltins x) (hlim : s₁.heap.NoLimit) (hg : s₁.gens = #[])
    (ha : s₁.heap.get? a = some { cls := .type "list", data := .seq vs.toArray }) (hi : IntsAre vs ns) (hl : ns.length ≤ sizeLine) (hr : Room k callerA)
    (F : ∀ base : Heap, K.In base → base.Ns mainGlobals mg → FnOk P w K mg base CX k fa fd [x] sp) (hbind : ∀ (s : Shared) (u : Value), BindsTo s fd ⟨[u], []⟩ [(x, u)])
    (hsp : ∀ H : Hp, Only H → SqL K H a (ns.map V.int) → sp [.ref a] H (fun v _ => v = .bl true) fun _ _ _ => False)
    (hCX : ∀ H e s', CX [] H s₁ (fun _ _ _ => False) e s' → False) :
    codeAny (model P w) callerA (.call (.ref fa) ⟨[.ref a], []⟩) (fun r s' => r = .ok (.ret (.bool true)) ∧ OldK s₁.heap s'.heap ∧ s'.os = s₁.os ∧ AllBare s'.gens) s₁ := by
  have rv := vals_ints hi
  have lenV := hi.length
  -- from an abstract heap in which nothing but the script may be tracked
  have core : ∀ H : Hp, Only H → SqL K H a (ns.map V.int) → HOk P w H s₁.heap → (∀ b, H b ≠ none → b = a) → (H a ≠ none → K.lookup a = none) →
      codeAny (model P w) callerA (.call (.ref fa) ⟨[.ref a], []⟩) (fun r s' => r = .ok (.ret (.bool true)) ∧ OldK s₁.heap s'.heap ∧ s'.os = s₁.os ∧ AllBare s'.gens) s₁ := by
    intro H hO hS hok hA hK
    have base_of : ∀ {b : Addr} {o : Obj}, s₁.heap.get? b = some o → H b = none → (hidT s₁.heap H).get? b = some o := fun e n => hidT_get e n
    have noA : ∀ {b : Addr} {o : Obj} {es : Array DictEntry} {ep : Nat}, s₁.heap.get? b = some o → o.data = .dict es ep → H b = none := fun {b o es ep} e d => by
      cases q : H b with
      | none => rfl
      | some u =>
        have e' : b = a := hA b (by rw [q]; simp)
        subst e'
        rw [ha] at e; cases e
        have d' : Data.seq vs.toArray _ = Data.dict es ep := d
        cases d'
    have nsK : ∀ {b : Addr} {m : Str → Option Value}, s₁.heap.Ns b m → (hidT s₁.heap H).Ns b m := fun {b m} ⟨o, es, ep, e, d, r⟩ => ⟨o, es, ep, base_of e (noA e d), d, r⟩
    have hKb : K.In (hidT s₁.heap H) := fun b o e => base_of (KX b o e) (by
      cases q : H b with
      | none => rfl
      | some u =>
        have e' : b = a := hA b (by rw [q]; simp)
        subst e'
        rw [hK (by rw [q]; simp)] at e; cases e)
    have hM : Mod K mg (hidT s₁.heap H) := ⟨hKb, nsK hns, ⟨mb, nsK hb, hbb⟩, let ⟨mc, h1, h2⟩ := hlim; ⟨mc, nsK h1, h2⟩⟩
    have e0 : Env0 P w K mg (hidT s₁.heap H) callerA [] s₁ H := ⟨rfl, hM, fun b o e => of_hidT e, Nat.le_of_eq (hidT_size _ _), trivial, fun b hb => absurd (show b ∈ ([] : List Addr) from hb) (by simp), hok, .of_eq hg⟩
    refine codeAny_mono ((F _ hKb (nsK hns)).run callerA [] s₁ H ⟨[.ref a], []⟩ [.ref a] [.ref a] _ _ hr e0 (hbind s₁ (.ref a)) (.cons rfl .nil) (hsp H hO hS)) fun r s' h => ?_
    cases r with
    | error e => exact (hCX H e s' h).elim
    | ok fl =>
      cases fl with
      | next => exact False.elim h
      | brk => exact False.elim h
      | cont => exact False.elim h
      | ret u =>
        obtain ⟨v, H', os, bare, un, hok', r', q⟩ := h
        have q' : v = .bl true := q
        subst q'
        obtain rfl : u = Value.bool true := r'
        refine ⟨rfl, OldK.of_keep fun b o e => ?_, os, bare⟩
        cases q : H b with
        | none => exact un.keep b o e q (by intro z; exact absurd (show b ∈ ([] : List Addr) from z) (by simp)) (by simp)
        | some u =>
          rcases hO b with z | ⟨ob, xs, z⟩
          · rw [q] at z; cases z
          · have z2 := un.frzs b ob _ z
            obtain ⟨e1, _⟩ := hok b _ z
            obtain ⟨e2, _⟩ := hok' b _ z2
            rw [e] at e1; cases e1
            exact e2
  cases hk : K.lookup a with
  | some o =>
    -- the script is one of the module's own objects
    have e := KX a o hk
    rw [ha] at e
    cases e
    refine core (fun _ => none) (fun _ => .inl rfl) (.inr ⟨_, vs.toArray, _, hk, rfl, rfl, rfl, by rw [List.size_toArray, lenV]; exact hl, by simpa using rv⟩) (fun b u z => by have z' : (none : Option HO) = some u := z; cases z') (fun b z => absurd rfl z) fun z => absurd rfl z
  | none =>
    refine core (fun b => if b = a then some (.frz { cls := .type "list", data := .seq vs.toArray } (.lst (ns.map V.int))) else none) (fun b => ?_) (.inl (.inr ⟨{ cls := .type "list", data := .seq vs.toArray }, if_pos rfl⟩)) (fun b u z => ?_) (fun b z => ?_) fun _ => hk
    · by_cases hb : b = a
      · exact .inr ⟨_, _, if_pos hb⟩
      · exact .inl (if_neg hb)
    · by_cases hb : b = a
      · have z' := (if_pos hb).symm.trans z
        cases z'
        subst hb
        exact ⟨ha, by rw [List.length_map]; exact hl, vs, _, rv, ha⟩
      · have z' := (if_neg hb).symm.trans z
        cases z'
    · by_cases hb : b = a
      · exact hb
      · exact absurd (if_neg hb) z
end L2

namespace L2
open PySem PySem.Spec PyProof.Rows

theorem walk_of {l : PySem.W.OpenLaw} {n k : Nat} {q : Program} {loose : List Str} {XP : (Str → Option Value) → Heap → Prop} {YP : World → Heap → Prop} {d : DefRec} {K : Params → PySem.W.Frag} {CX : World → CXT} {sp : World → Sp} {x : Str}
    (hn : l.most = some n) (hn2 : n ≤ sizeLine) (hdf : d.params.defaults = []) (hr : Room k callerA)
    (hY : ∀ (w : World) (h : Heap), YP w h → (K w.params).In h)
    (F : ∀ (w : World) (mg : Str → Option Value) (fa : Addr) (h : Heap), (K w.params).In h → h.Ns mainGlobals mg → mg d.name = some (.ref fa) →
      ∃ fd : FuncData, (∀ (s : Shared) (u : Value), BindsTo s fd ⟨[u], []⟩ [(x, u)]) ∧
        ∀ base : Heap, (K w.params).In base → base.Ns mainGlobals mg → FnOk l.prog w (K w.params) mg base (CX w) k fa fd [x] (sp w))
    (hsp : ∀ (w : World) (H : Hp) (a : Addr) (ns : List Int), ns.length ≤ n → Only H → SqL (K w.params) H a (ns.map V.int) → sp w [.ref a] H (fun v _ => v = .bl true) fun _ _ _ => False)
    (hCX : ∀ (w : World) (H : Hp) (s : Shared) (e : Value) (s' : Shared), CX w [] H s (fun _ _ _ => False) e s' → False) :
    PySem.W.WalkO q loose XP YP l.row.toRowW d [] (fun f vs => PySem.call f vs) := by
  refine Att.attach_call hn hdf fun w s₀ s₁ mg mb fa o pm cd doc a vs ns G Y ho hd hcd hmg hobj hints hlen hg => ?_
  have KX := hY w _ Y
  obtain ⟨fd, hb, hF⟩ := F w mg fa _ KX G.T.g hmg
  exact law_call KX G.T.g G.T.b G.T.builtins G.T.nolimit hg hobj hints (Nat.le_trans hlen hn2) hr hF hb (fun H hO hS => hsp w H a ns hlen hO hS) fun H e s' => hCX w H s₁ e s'
end L2

namespace L2
open PySem PySem.Spec PyProof.Rows

def inClass (s : Stmt) (j : Nat) : Stmt := match s with
  | .ClassDef _ _ _ body _ _ _ _ _ _ _ => body.getD j (.Pass ⟨0, 0, 0, 0⟩)
  | _ => .Pass ⟨0, 0, 0, 0⟩
def defArgs (s : Stmt) : Arguments := match s with
  | .FunctionDef _ a _ _ _ _ _ _ _ _ => a
  | _ => { posonlyargs := [], args := [], vararg := none, kwonlyargs := [], kw_defaults := [], kwarg := none, defaults := [] }
def defBody (s : Stmt) : List Stmt := match s with
  | .FunctionDef _ _ b _ _ _ _ _ _ _ => b
  | _ => []
def defScope (s : Stmt) : Scope := match s with
  | .FunctionDef _ _ _ _ _ _ sc _ _ _ => sc
  | _ => { kind := .function, names := [], isGenerator := false, isCoroutine := false }

abbrev CX0 : CXT := fun _ _ _ _ _ _ => False
abbrev E0 : XK := fun _ _ _ => False
structure Fun (K : PySem.W.Frag) (x qual : Str) (st : Stmt) (f : Addr) (fd : FuncData) : Prop where
  ex : ∃ (oc : Value) (od : Option Addr) (kV doc pm : Value) (an : Option Addr) (cdv ct : Value) (osl : Array (Option Value)),
    fd = PySem.W.fnOf x qual (defArgs st) (defBody st) (defScope st) .none kV doc pm an cdv ct ∧ K.lookup f = some ⟨oc, od, .func fd, osl⟩ ∧ PySem.W.codeIn K cdv qual = true
  kp : PySem.W.keepIn K (.ref f) = true
section
variable {P : Program} {w : World} {K : PySem.W.Frag} {mg : Str → Option Value} {base : Heap}
theorem Fun.ok {x qual : Str} {st : Stmt} {f : Addr} {fd : FuncData} {N ps : List Str} {k : Nat} {sp : Sp} (F : Fun K x qual st f fd) (S : FnScope N ps (defScope st)) (len : ∀ vs H Q E, sp vs H Q E → vs.length = ps.length)
    (hbody : ∀ (cdv : Value) (A : Around) (outer : List Env) (s : Shared) (H : Hp) (vs : List V) (Q : VK) (E : XK), Room k (A.deeper (envOfC qual (defScope st) s.heap.objs.size f cdv)) → sp vs H Q E →
      ∃ t, PSs (cxOf CX0 P w K mg base N qual (defScope st) f cdv A outer s H E).nox (defBody st) t ∧ t { nx := fun _ H' => Q .non H', rt := Q } (start N vs) H) : FnOk P w K mg base CX0 (k + 1) f fd ps sp := by
  obtain ⟨oc, od, kV, doc, pm, an, cdv, ct, osl, rfl, lk, hcd⟩ := F.ex
  refine fn_of lk hcd S len fun A outer s H vs Q E hr hsp => ?_
  obtain ⟨t, h, q⟩ := hbody cdv A outer s H vs Q E hr hsp
  exact ⟨t, h.nox, q⟩
theorem Fun.binds {x qual : Str} {st : Stmt} {f : Addr} {fd : FuncData} {ps : List Str} (F : Fun K x qual st f fd)
    (h : ∀ (kV doc pm : Value) (an : Option Addr) (cdv ct : Value) (us : List Value), us.length = ps.length → bindArgs (PySem.W.fnOf x qual (defArgs st) (defBody st) (defScope st) .none kV doc pm an cdv ct) ⟨us, []⟩ = pure (ps.zip us)) : Binds K fd ps [] := by
  obtain ⟨oc, od, kV, doc, pm, an, cdv, ct, osl, rfl, lk, hcd⟩ := F.ex
  exact .all (h kV doc pm an cdv ct)
theorem fun_mk {x qual : Str} {st : Stmt} {f : Addr} {oc : Value} {od an : Option Addr} {osl : Array (Option Value)} {kV doc pm cdv ct : Value} (l : K.lookup f = some ⟨oc, od, .func (PySem.W.fnOf x qual (defArgs st) (defBody st) (defScope st) .none kV doc pm an cdv ct), osl⟩)
    (c : PySem.W.codeIn K cdv qual = true) (k : PySem.W.keepIn K (.ref f) = true) : Fun K x qual st f (PySem.W.fnOf x qual (defArgs st) (defBody st) (defScope st) .none kV doc pm an cdv ct) := ⟨⟨oc, od, kV, doc, pm, an, cdv, ct, osl, rfl, l, c⟩, k⟩
end
section
variable {X : Cx}
end

def Same (H H' : Hp) : Prop := ∀ b o, H b = some o → H' b = some o
theorem Same.refl (H : Hp) : Same H H := fun _ _ h => h
theorem Same.trans {H H1 H2 : Hp} (a : Same H H1) (b : Same H1 H2) : Same H H2 := fun c o h => b c o (a c o h)
theorem Same.free {H H' : Hp} (e : Same H H') {l : Addr} (h : H' l = Option.none) : H l = Option.none := by
  cases q : H l with
  | none => rfl
  | some o =>
    rw [e l o q] at h
    cases h
theorem Same.seq {K : PySem.W.Frag} {H H' : Hp} {a : Addr} {xs : List V} (e : Same H H') (h : SqL K H a xs) : SqL K H' a xs := by
  rcases h with (h | ⟨o, h⟩) | h
  · exact .inl (.inl (e _ _ h))
  · exact .inl (.inr ⟨o, e _ _ h⟩)
  · exact .inr h

end L2

namespace L2
open PySem
section
variable {prog : Program} {w : World} {A : Around} {R : Result → Shared → Prop} {s : Shared}
theorem compLoop_any {elt target iter : Expr} {ifs : List Expr} {scope : Scope} {pos : Pos} {it acc : Value} {env : Env} (I : Nat → Shared → Prop)
    (turn : ∀ n s, I n s → wpAny (model prog w) A (pyNext it) (fun r s₁ => match r with
      | none => R (.ok .next) s₁
      | some v => wpAny (model prog w) A (letOwnedTupleGo target it v) (fun _ s₁' => wpAny (model prog w) A (assign target env v) (fun _ s₂ =>
          wpAny (model prog w) A (forIn ifs true fun c r => if r = true then do let ok ← isTrue c env (eval c env); pure (ForInStep.yield ok) else pure (ForInStep.yield r)) (fun ok s₃ =>
            if ok = true then wpAny (model prog w) A (eval elt env) (fun x s₄ =>
              wpAny (model prog w) A (call (.builtin "list.append") [acc, x]) (fun _ s₅ => ∃ m, m < n ∧ I m s₅) (fun _ _ => False) s₄) (fun _ _ => False) s₃
            else ∃ m, m < n ∧ I m s₃) (fun _ _ => False) s₂) (fun _ _ => False) s₁') (fun _ _ => False) s₁) (fun _ _ => False) s)
    (n : Nat) (h : I n s) :
    codeAny (model prog w) A (.compLoop (.ListComp elt [⟨target, iter, ifs, 0⟩] scope pos) 0 it acc env) R s := by
  refine codeAny_loop rfl I (fun n s hI => ?_) n h
  show wpAny _ A ((compTurn (.ListComp elt [⟨target, iter, ifs, 0⟩] scope pos) 0 it acc env).onRaise (fun x => do noteFrame x env; theTreesLotGoes x)) _ _ s
  refine wpAny_noted ?_
  rw [compTurn_list]
  refine wpAny_bind (wpAny_standAt (wpAny_bind (wpAny_mono (turn n s hI) (fun r s₁ h₁ => ?_) fun _ _ h' => h'.elim)))
  cases r with
  | none => exact wpAny_pure h₁
  | some v =>
    refine wpAny_bind (wpAny_mono h₁ (fun _ s₁' h₁' => ?_) fun _ _ h' => h'.elim)
    refine wpAny_bind (wpAny_mono h₁' (fun _ s₂ h₂ => wpAny_bind (wpAny_mono h₂ (fun ok s₃ h₃ => ?_) fun _ _ h' => h'.elim)) fun _ _ h' => h'.elim)
    cases ok with
    | false => exact wpAny_pure ⟨rfl, h₃⟩
    | true =>
      exact wpAny_bind (wpAny_bind (wpAny_mono h₃ (fun x s₄ h₄ => wpAny_bind (wpAny_mono h₄ (fun _ s₅ h₅ => wpAny_pure (wpAny_pure ⟨rfl, h₅⟩)) fun _ _ h' => h'.elim)) fun _ _ h' => h'.elim))
end
def clFrom (env : Env) : List (Str × NameKind) → List (Str × Addr) → List (Str × Addr)
  | [], cs => cs
  | (n, k) :: r, cs => clFrom env r (if k == .free then (n, (env.cells.lookup n).getD 0) :: cs else cs)
def clOf (scope : Scope) (env : Env) : List (Str × Addr) := clFrom env scope.names []
theorem clFrom_eq {env : Env} : ∀ (ns : List (Str × NameKind)) (cs : List (Str × Addr)), (∀ y ∈ ns, y.2 = .free → ∃ c, env.cells.lookup y.1 = some c) →
    (forIn ns cs fun (x : Str × NameKind) (r : List (Str × Addr)) => (if (x.2 == .free) = true then do
      let a ← cellOf env x.1
      pure (ForInStep.yield ((x.1, a) :: r)) else pure (ForInStep.yield r) : Sem (ForInStep (List (Str × Addr))))) = pure (clFrom env ns cs)
  | [], cs, _ => rfl
  | (n, k) :: r, cs, h => by
    rw [List.forIn_cons]
    have ih := fun cs => clFrom_eq r cs fun y hy => h y (List.mem_cons_of_mem _ hy)
    by_cases hk : k = .free
    · subst hk
      obtain ⟨c, e⟩ := h (n, .free) List.mem_cons_self rfl
      have e' : cellOf env n = pure c := by
        unfold cellOf
        have e2 : env.cells.lookup n = some c := e
        rw [e2]
      simp only [beq_self_eq_true, if_true, e', pure_bind, ih]
      have e3 : env.cells.lookup n = some c := e
      simp only [clFrom, beq_self_eq_true, if_true, e3, Option.getD_some]
    · have hb : (k == NameKind.free) = false := by simpa using hk
      simp only [hb, Bool.false_eq_true, if_false, pure_bind, ih, clFrom]
theorem closure_eq {scope : Scope} {env : Env} (h : ∀ y ∈ scope.names, y.2 = .free → ∃ c, env.cells.lookup y.1 = some c) : closureFor scope env = pure (clOf scope env) := by
  have e := clFrom_eq scope.names [] h
  unfold closureFor clOf
  rw [← e]
  simp only [bind_pure]
theorem clFrom_sub {env : Env} {x : Str} {c : Addr} : ∀ (ns : List (Str × NameKind)) (cs : List (Str × Addr)), (∀ y ∈ ns, y.2 = .free → ∃ c, env.cells.lookup y.1 = some c) →
    (cs.lookup x = some c → env.cells.lookup x = some c) → (clFrom env ns cs).lookup x = some c → env.cells.lookup x = some c
  | [], cs, _, h, e => h e
  | (n, k) :: r, cs, hf, h, e => by
    refine clFrom_sub r _ (fun y hy => hf y (List.mem_cons_of_mem _ hy)) ?_ e
    by_cases hk : k = .free
    · subst hk
      obtain ⟨c', e'⟩ := hf (n, .free) List.mem_cons_self rfl
      have e' : env.cells.lookup n = some c' := e'
      simp only [beq_self_eq_true, if_true, e', Option.getD_some]
      intro z
      rw [List.lookup_cons] at z
      cases hx : x == n with
      | true =>
        rw [hx] at z
        have hx' : x = n := by simpa using hx
        rw [hx', e']
        exact z
      | false =>
        rw [hx] at z
        exact h z
    · have hb : (k == NameKind.free) = false := by simpa using hk
      simp only [hb, Bool.false_eq_true, if_false]
      exact h
theorem clFrom_has {env : Env} {x : Str} : ∀ (ns : List (Str × NameKind)) (cs : List (Str × Addr)), ((∃ c, cs.lookup x = some c) ∨ (x, NameKind.free) ∈ ns) → ∃ c, (clFrom env ns cs).lookup x = some c
  | [], cs, h => by
    rcases h with h | h
    · exact h
    · cases h
  | (n, k) :: r, cs, h => by
    refine clFrom_has r _ ?_
    by_cases hk : k = .free
    · subst hk
      simp only [beq_self_eq_true, if_true]
      by_cases hx : x = n
      · subst hx
        left
        rw [List.lookup_cons]
        simp
      · rcases h with ⟨c, h⟩ | h
        · left
          refine ⟨c, ?_⟩
          rw [List.lookup_cons]
          have : (x == n) = false := by simpa using hx
          rw [this]
          exact h
        · right
          rcases List.mem_cons.mp h with h | h
          · cases h
            exact absurd rfl hx
          · exact h
    · have hb : (k == NameKind.free) = false := by simpa using hk
      simp only [hb, Bool.false_eq_true, if_false]
      rcases h with h | h
      · exact .inl h
      · right
        rcases List.mem_cons.mp h with h | h
        · cases h
          exact absurd rfl hk
        · exact h
end L2

namespace L2
open PySem PySem.Spec PyProof.Rows
def cxComp (X : Cx) (N' : List Str) (scope : Scope) (s₃ : Shared) (H₃ : Hp) (fp : List Addr) : Cx :=
  { X with N := N', s₀ := s₃, H₀ := H₃, env := compEnvC scope (cellsFrom (s₃.heap.objs.size + 1) scope.names (clOf scope X.env)) s₃.heap.objs.size X.env, outer := X.stack, ex := fp, fn := fun x => scope.names.lookup x == some .cell, pn := [], xe := fun _ _ => False }
def inner (own : Nat) (js : List Nat) (σ : St) : St := List.replicate own none ++ js.map fun j => (σ[j]?).getD none
def Keep (σ σ' : St) : Prop := σ'.length = σ.length ∧ ∀ (k : Nat) (v : V), σ[k]? = some (some v) → σ'[k]? = some (some v)
theorem Keep.refl (σ : St) : Keep σ σ := ⟨rfl, fun _ _ e => e⟩
theorem Keep.trans {a b c : St} (h : Keep a b) (k : Keep b c) : Keep a c := ⟨k.1.trans h.1, fun i v e => k.2 i v (h.2 i v e)⟩
theorem keep1 {r : St} {x : Option V} : Keep (none :: r) (x :: r) := ⟨rfl, fun k v e => by
  cases k with
  | zero => cases e
  | succ k => exact e⟩
theorem keep2 {r : St} {x y : Option V} : Keep (none :: none :: r) (x :: y :: r) := ⟨rfl, fun k v e => by
  cases k with
  | zero => cases e
  | succ k => cases k with
    | zero => cases e
    | succ k => exact e⟩
structure CompScope (osc sc : Scope) (own fr : List Str) : Prop where
  kind : sc.kind = .function
  cel : ∀ y ∈ sc.names, y.2 = .cell → sc.names.lookup y.1 = some .cell
  loc : ∀ y ∈ sc.names, y.2 = .local → sc.names.lookup y.1 = some .local
  free : ∀ y ∈ sc.names, y.2 = .free → osc.names.lookup y.1 = some .cell ∨ osc.names.lookup y.1 = some .free
  nown : ∀ x ∈ own, sc.names.lookup x = some .local ∨ sc.names.lookup x = some .cell
  nfr : ∀ x ∈ fr, (osc.names.lookup x = some .cell ∨ osc.names.lookup x = some .free) ∧ sc.names.lookup x = some .free
theorem lookup_relabel {env : Env} {x : Str} {k : NameKind} : ∀ {names : List (Str × NameKind)},
    (names.map fun (n, k) => if (k == NameKind.free && env.scope.kind == .function && env.kindOf n == some .cell) then (n, NameKind.cell) else (n, k)).lookup x = some k → names.lookup x = some k ∨ (k = .cell ∧ names.lookup x = some .free)
  | [], h => by simp at h
  | (n, k') :: r, h => by
    have ih := @lookup_relabel env x k r
    simp only [List.map_cons] at h
    rw [List.lookup_cons]
    by_cases hc : (k' == NameKind.free && env.scope.kind == .function && env.kindOf n == some .cell) = true
    · rw [if_pos hc, List.lookup_cons] at h
      have hf : k' = .free := by
        have := (Bool.and_eq_true_iff.mp (Bool.and_eq_true_iff.mp hc).1).1
        simpa using this
      cases hx : x == n with
      | true =>
        rw [hx] at h
        subst hf
        exact .inr ⟨(Option.some.inj h).symm, rfl⟩
      | false =>
        rw [hx] at h
        exact ih h
    · rw [if_neg hc, List.lookup_cons] at h
      cases hx : x == n with
      | true =>
        rw [hx] at h
        exact .inl h
      | false =>
        rw [hx] at h
        exact ih h
theorem lookup_relabel_free {env : Env} {x : Str} : ∀ {names : List (Str × NameKind)}, names.lookup x = some .free →
    (names.map fun (n, k) => if (k == NameKind.free && env.scope.kind == .function && env.kindOf n == some .cell) then (n, NameKind.cell) else (n, k)).lookup x = some .cell ∨
    (names.map fun (n, k) => if (k == NameKind.free && env.scope.kind == .function && env.kindOf n == some .cell) then (n, NameKind.cell) else (n, k)).lookup x = some .free
  | [], h => by simp at h
  | (n, k') :: r, h => by
    have ih := @lookup_relabel_free env x r
    rw [List.lookup_cons] at h
    simp only [List.map_cons]
    by_cases hc : (k' == NameKind.free && env.scope.kind == .function && env.kindOf n == some .cell) = true
    · rw [if_pos hc, List.lookup_cons]
      cases hx : x == n with
      | true => exact .inl rfl
      | false =>
        rw [hx] at h
        exact ih h
    · rw [if_neg hc, List.lookup_cons]
      cases hx : x == n with
      | true =>
        rw [hx] at h
        exact .inr h
      | false =>
        rw [hx] at h
        exact ih h
theorem cf_keep {x : Str} : ∀ {names : List (Str × NameKind)} {n : Nat} {acc : List (Str × Addr)}, (x, NameKind.cell) ∉ names → (cellsFrom n names acc).lookup x = acc.lookup x
  | [], _, _, _ => rfl
  | (m, k) :: r, n, acc, h => by
    unfold cellsFrom
    have hr : (x, NameKind.cell) ∉ r := fun z => h (List.mem_cons_of_mem _ z)
    split
    · rename_i hk
      rw [cf_keep hr, List.lookup_cons]
      have hk : k = .cell := by simpa using hk
      have hx : (x == m) = false := by
        cases e : x == m with
        | false => rfl
        | true =>
          have : x = m := by simpa using e
          exact absurd (by rw [this, hk]; exact List.mem_cons_self) h
      rw [hx]
    · exact cf_keep hr
theorem cf_own {x : Str} : ∀ {names : List (Str × NameKind)} {n : Nat} {acc : List (Str × Addr)}, (x, NameKind.cell) ∈ names → ∃ c, (cellsFrom n names acc).lookup x = some c ∧ n ≤ c
  | (m, k) :: r, n, acc, h => by
    unfold cellsFrom
    by_cases hr : (x, NameKind.cell) ∈ r
    · split
      · obtain ⟨c, e, l⟩ := cf_own (n := n + 1) (acc := (m, n) :: acc) hr
        exact ⟨c, e, by omega⟩
      · exact cf_own hr
    · rcases List.mem_cons.mp h with h | h
      · cases h
        rw [if_pos (by rfl), cf_keep hr, List.lookup_cons]
        exact ⟨n, by simp, Nat.le_refl _⟩
      · exact absurd h hr
theorem cf_sub {x : Str} {c : Addr} {names : List (Str × NameKind)} {n : Nat} {acc : List (Str × Addr)} (e : (cellsFrom n names acc).lookup x = some c) : (acc.lookup x = some c ∧ (x, NameKind.cell) ∉ names) ∨ (n ≤ c ∧ (x, NameKind.cell) ∈ names) := by
  by_cases h : (x, NameKind.cell) ∈ names
  · obtain ⟨c', e', l⟩ := cf_own (n := n) (acc := acc) h
    rw [e] at e'
    cases e'
    exact .inr ⟨l, h⟩
  · rw [cf_keep h] at e
    exact .inl ⟨e, h⟩
theorem cf_inj : ∀ (names : List (Str × NameKind)) (n : Nat) (acc : List (Str × Addr)), (∀ x c, acc.lookup x = some c → c < n) → (∀ x y c, acc.lookup x = some c → acc.lookup y = some c → x = y) → ∀ x y c, (cellsFrom n names acc).lookup x = some c → (cellsFrom n names acc).lookup y = some c → x = y
  | [], _, _, _, h => h
  | (m, k) :: r, n, acc, hl, h => by
    unfold cellsFrom
    split
    · refine cf_inj r (n + 1) _ (fun x c e => ?_) fun x y c e1 e2 => ?_
      · rw [List.lookup_cons] at e
        split at e
        · cases e; exact Nat.lt_succ_self _
        · exact Nat.lt_succ_of_lt (hl x c e)
      · rw [List.lookup_cons] at e1 e2
        cases hx : x == m <;> cases hy : y == m <;> rw [hx] at e1 <;> rw [hy] at e2
        · exact h x y c e1 e2
        · cases e2
          exact absurd (hl x _ e1) (Nat.lt_irrefl _)
        · cases e1
          exact absurd (hl y _ e2) (Nat.lt_irrefl _)
        · have a : x = m := by simpa using hx
          have b : y = m := by simpa using hy
          rw [a, b]
    · exact cf_inj r n acc hl h
theorem cf_cell {x : Str} {c : Addr} : ∀ (names : List (Str × NameKind)) (h : Heap) (acc : List (Str × Addr)), (∀ x c, acc.lookup x = some c → ∃ v, h.IsCell c v) → (cellsFrom h.objs.size names acc).lookup x = some c → ∃ v, (pushCells h names).IsCell c v
  | [], _, _, ha, e => ha x c e
  | (m, k) :: r, h, acc, ha, e => by
    unfold pushCells
    unfold cellsFrom at e
    split
    · rename_i hk
      rw [if_pos hk] at e
      refine cf_cell r (h.push { cls := .type "cell", data := .cell none }) ((m, h.objs.size) :: acc) (fun y d q => ?_) (by rw [Heap.size_push]; exact e)
      rw [List.lookup_cons] at q
      split at q
      · cases q
        exact ⟨none, _, Heap.get?_push_size _ rfl, rfl⟩
      · obtain ⟨v, hv⟩ := ha y d q
        exact ⟨v, hv.keeps fun b o e => Heap.get?_push_of_some _ e⟩
    · rename_i hk
      rw [if_neg hk] at e
      exact cf_cell r h acc ha e
theorem wpAny_newBlock {M : Model} {A : Around} {E : Value → Shared → Prop} {s : Shared} {scope : Scope} {globals : Addr} {closure : List (Str × Addr)} {qual : Str} {func : Option Addr} {code : Value} {outer : Env} {builtins : Addr} {Q : Env → Shared → Prop}
    (hQ : Q (newEnv scope s.heap.objs.size globals (cellsFrom (s.heap.objs.size + 1) scope.names closure) qual func code (some outer) builtins) { s with heap := pushCells (s.heap.push { cls := .type "dict", data := .dict #[] }) scope.names }) :
    wpAny M A (newFunctionEnv scope globals closure [] qual func code (some outer) builtins) Q E s := by
  simp only [newFunctionEnv, Option.isSome_some, if_true]
  refine wpAny_bind (wpAny_alloc ?_)
  refine wpAny_bind (wpAny_layCells _ (fun name kind cells => by cases hkc : kind == NameKind.cell <;> simp [hkc]) _ _ _ _ ?_)
  rw [show ({ s with heap := s.heap.push { cls := .type "dict", data := .dict #[] } } : Shared).heap.objs.size = s.heap.objs.size + 1 from Heap.size_push ..]
  rw [List.forIn_nil]
  exact wpAny_bind (wpAny_pure (wpAny_pure hQ))
theorem ns_push {h : Heap} {c : Addr} {m : Str → Option Value} (names : List (Str × NameKind)) (n : h.Ns c m) : (pushCells h names).Ns c m := n.keeps (fun b o e => pushCells_keeps names h b o e)
section
variable {X : Cx} {pins : List (Addr × Obj)} {σ : St} {H : Hp} {s : Shared} {osc sc : Scope} {own fr : List Str} {js : List Nat} {fp : List Addr}
theorem cl_ok (I : Inv X pins σ H s) (ho : X.env.scope = osc) (S : CompScope osc sc own fr) : ∀ y ∈ sc.names, y.2 = .free → ∃ c, X.env.cells.lookup y.1 = some c := fun y hy e => by
  refine I.ok.has y.1 ?_
  have h := S.free y hy e
  rw [← ho] at h
  exact h
theorem cl_sub (I : Inv X pins σ H s) (ho : X.env.scope = osc) (S : CompScope osc sc own fr) {x : Str} {c : Addr} (e : (clOf sc X.env).lookup x = some c) : X.env.cells.lookup x = some c :=
  clFrom_sub sc.names [] (cl_ok I ho S) (fun z => by cases z) e
theorem cl_has (S : CompScope osc sc own fr) {x : Str} (h : sc.names.lookup x = some .free) : ∃ c, (clOf sc X.env).lookup x = some c :=
  clFrom_has sc.names [] (.inr (PySem.mem_of_lookup h))
theorem bl_sub {n : Nat} (I : Inv X pins σ H s) (ho : X.env.scope = osc) (S : CompScope osc sc own fr) {x : Str} {c : Addr} (e : (cellsFrom n sc.names (clOf sc X.env)).lookup x = some c) : X.env.cells.lookup x = some c ∨ n ≤ c := by
  rcases cf_sub e with h | h
  · exact .inl (cl_sub I ho S h.1)
  · exact .inr h.1
theorem cell_lt (I : Inv X pins σ H s) {x : Str} {c : Addr} (e : X.env.cells.lookup x = some c) : c < s.heap.objs.size := by
  obtain ⟨v, hv⟩ := I.cell x c e
  exact hv.lt
theorem free_ncell (S : CompScope osc sc own fr) {x : Str} (h : sc.names.lookup x = some .free) : (x, NameKind.cell) ∉ sc.names := fun z => by
  have := S.cel _ z rfl
  rw [h] at this
  cases this
theorem bl_free (S : CompScope osc sc own fr) {x : Str} (n : Nat) (h : sc.names.lookup x = some .free) : (cellsFrom n sc.names (clOf sc X.env)).lookup x = (clOf sc X.env).lookup x := cf_keep (free_ncell S h)
theorem cx_comp (I : Inv X pins σ H s) (ho : X.env.scope = osc) (S : CompScope osc sc own fr) (hf : ∀ b ∈ fp, FpOk X pins H b) (hlt : ∀ b ∈ fp, b < s.heap.objs.size) (N' : List Str) : (cxComp X N' sc s H fp).Ok where
  mod := I.ok.mod
  kind := S.kind
  glob := I.ok.glob
  blt := I.ok.blt
  above := Nat.le_refl _
  inj := cf_inj _ _ _ (fun x c e => Nat.lt_succ_of_lt (cell_lt I (cl_sub I ho S e))) fun x y c h1 h2 => I.ok.inj x y c (cl_sub I ho S h1) (cl_sub I ho S h2)
  has := fun x h => by
    have h : (relabel sc X.env).names.lookup x = some .cell ∨ (relabel sc X.env).names.lookup x = some .free := h
    rcases h with h | h
    · rcases lookup_relabel h with h | ⟨_, h⟩
      · obtain ⟨c, e, _⟩ := cf_own (n := s.heap.objs.size + 1) (acc := clOf sc X.env) (PySem.mem_of_lookup h)
        exact ⟨c, e⟩
      · obtain ⟨c, e⟩ := cl_has (X := X) S h
        exact ⟨c, (bl_free S _ h).trans e⟩
    · rcases lookup_relabel h with h | ⟨e, _⟩
      · obtain ⟨c, e⟩ := cl_has (X := X) S h
        exact ⟨c, (bl_free S _ h).trans e⟩
      · cases e
  cab := fun x c h e => by
    have h : (sc.names.lookup x == some .cell) = true := h
    have h : sc.names.lookup x = some .cell := by simpa using h
    obtain ⟨c', e', l⟩ := cf_own (n := s.heap.objs.size + 1) (acc := clOf sc X.env) (PySem.mem_of_lookup h)
    have e : (cellsFrom (s.heap.objs.size + 1) sc.names (clOf sc X.env)).lookup x = some c := e
    rw [e] at e'
    cases e'
    exact Nat.le_of_succ_le l
  hd := I.ok.hd
  frames := I.ok.frames
  stk := .inl rfl
  exf := fun b hb => ⟨Nat.ne_of_lt (hlt b hb), fun x c e => by
    rcases bl_sub I ho S e with z | z
    · exact (hf b hb).2.2.2.2.1 x c z
    · exact Nat.ne_of_gt (Nat.lt_trans (hlt b hb) z)⟩
  bs := fun b o e => I.bs b o e
  bsz := Nat.le_trans I.ok.bsz I.sz
  noex := fun b o e hb => by
    have h := I.ok.noex b o e
    have h2 := (hf b hb).2.2.2.1
    rcases h2 with h2 | h2
    · exact h h2
    · have hb2 : b < X.base.objs.size := Heap.lt_size e
      exact absurd (Nat.lt_of_lt_of_le hb2 (Nat.le_trans I.ok.bsz h2)) (Nat.lt_irrefl _)
  exfs := fun b hb hm => by
    have := I.stkSub b hm
    rcases List.mem_cons.mp this with z | z
    · exact (hf b hb).2.1 z
    · exact (hf b hb).2.2.1 z
  funs := I.stack
  frf := I.stkFree
theorem inv_comp {h' : Heap} {tk : Nat} (I : Inv X pins σ H s) (ho : X.env.scope = osc) (S : CompScope osc sc own fr) (hj : js.map (fun j => X.N[j]?) = fr.map some) (hf : ∀ b ∈ fp, FpOk X pins H b) (hlt : ∀ b ∈ fp, b < s.heap.objs.size)
    (hn : h'.Ns s.heap.objs.size fun _ => none) (hk : ∀ b o, s.heap.get? b = some o → h'.get? b = some o) (hcl : ∀ x c, (cellsFrom (s.heap.objs.size + 1) sc.names (clOf sc X.env)).lookup x = some c → ∃ v, h'.IsCell c v) : Inv (cxComp X (own ++ fr) sc s H fp) [] (inner own.length js σ) H { s with heap := h', toks := tk } := by
  refine ⟨cx_comp I ho S hf hlt _, rfl, I.bare, Un.kept hk, ⟨_, hn, fun i x v h1 h2 h3 => ?_⟩, fun x c e => ?_, I.hok.fresh (Nat.le_refl _), fun x c e => (bl_sub I ho S e).elim (fun z => I.freeC x c z) (fun z => I.hok.fresh (Nat.le_of_succ_le z)), fun p hp => absurd (show p ∈ ([] : List (Addr × Obj)) from hp) (by simp), I.hok.kept hk, ?_⟩
  · have h1 : (own ++ fr)[i]? = some x := h1
    by_cases hi : i < own.length
    · unfold inner at h2
      rw [List.getElem?_append_left (by simpa using hi), List.getElem?_replicate] at h2
      split at h2 <;> cases h2
    · have hi' : own.length ≤ i := Nat.le_of_not_lt hi
      rw [List.getElem?_append_right hi'] at h1
      unfold inner at h2
      rw [List.getElem?_append_right (by simpa using hi'), List.length_replicate, List.getElem?_map] at h2
      have hx := congrArg (fun l : List (Option Str) => l[i - own.length]?) hj
      simp only [List.getElem?_map, h1, Option.map_some] at hx
      cases ej : js[i - own.length]? with
      | none => rw [ej] at hx; cases hx
      | some j =>
        rw [ej] at hx h2
        simp only [Option.map_some, Option.some.injEq] at hx h2
        have hsv : σ[j]? = some (some v) := by
          cases es : σ[j]? with
          | none => rw [es] at h2; cases h2
          | some z => rw [es] at h2; simp only [Option.getD_some] at h2; rw [h2]
        have hxf := S.nfr x (List.mem_of_getElem? h1)
        obtain ⟨m, hm, hl⟩ := I.loc
        have hv : Vis X.env.scope x := by
          rw [ho]
          rcases hxf.1 with z | z
          · exact .inr (.inl z)
          · exact .inr (.inr z)
        obtain ⟨u, ru, lk⟩ := hl j x v hx hsv hv
        refine ⟨u, ru, .inr ⟨lookup_relabel_free hxf.2, ?_⟩⟩
        rcases lk with ⟨lk, _⟩ | ⟨_, c, ec, ic⟩
        · have lk : X.env.scope.names.lookup x = some .local := lk
          rw [ho] at lk
          rcases hxf.1 with z | z <;> (rw [lk] at z; cases z)
        · obtain ⟨c', e'⟩ := cl_has (X := X) S hxf.2
          have e2 := cl_sub I ho S e'
          rw [ec] at e2
          cases e2
          exact ⟨c, (bl_free S _ hxf.2).trans e', ic.keeps hk⟩
  · exact hcl x c e
  · have e := congrArg List.length hj
    simp only [List.length_map] at e
    show (inner own.length js σ).length = (own ++ fr).length
    unfold inner
    simp only [List.length_append, List.length_replicate, List.length_map, e]
end
end L2

namespace L2
open PySem PySem.Spec PyProof.Rows
def CompW (J : It) (acc : Addr) (own : Nat) (js : List Nat) (g : TG) (tt : TT) (te : TE) (σ : St) (Q : VK) (H1 : Hp) : Prop :=
  ∃ W : Nat → Nat → List V → Hp → Prop, (∃ m, W 0 m [] (upd H1 acc (.lst []))) ∧ ∀ i m xs H2, W i m xs H2 → (J.stop i H2 ∧ Q (.ref acc) H2) ∨
    (J.go i H2 ∧ xs.length < sizeLine ∧ ∃ N : List V → Hp → Prop, (∀ ys H', N ys H' → ∃ m', m' < m ∧ W (i + 1) m' ys H') ∧ ∀ x H3, J.yld i H2 x H3 → g x (inner own js σ) H3 fun σ4 H4 => Keep (inner own js σ) σ4 ∧ tt σ4 H4 fun b H5 =>
      if b = true then te σ4 H5 fun y H6 => H6 acc = some (.lst xs) ∧ N (xs ++ [y]) (upd H6 acc (.lst (xs ++ [y]))) else N xs H5)
def tComp (wi : TI) (own : Nat) (js : List Nat) (g : TG) (tt : TT) (te : TE) : TE := fun σ H Q => wi σ H fun J H1 => ∀ acc, H1 acc = none → CompW J acc own js g tt te σ Q H1
def PIf (X : Cx) (ifs : List Expr) (tt : TT) : Prop :=
  ∀ (pins : List (Addr × Obj)) (s : Shared) (σ : St) (H : Hp) (Q : Bool → Hp → Prop), Inv X pins σ H s → tt σ H Q →
    wpAny (model X.prog X.w) X.A (forIn ifs true fun c r => if r = true then do let ok ← isTrue c X.env (eval c X.env); pure (ForInStep.yield ok) else pure (ForInStep.yield r)) (TP X pins σ Q) X.xe s
def tTrue : TT := fun _ H Q => Q true H
theorem if_nil {X : Cx} : PIf X [] tTrue := fun pins s σ H Q I h => wpAny_tests_nil ⟨H, I, h⟩
theorem if_one {X : Cx} {c : Expr} {tc : TT} (h : PT X c tc) : PIf X [c] tc := fun pins s σ H Q I q => wpAny_tests_one (h pins s σ H Q I q)
section
variable {X : Cx} {pins : List (Addr × Obj)} {σ : St} {H : Hp} {s : Shared} {osc sc : Scope} {own fr : List Str} {js : List Nat} {fp : List Addr}
theorem comp_back {acc : Addr} {s' : Shared} {σ' : St} {H' : Hp} {N' : List Str} (I : Inv X pins σ H s) (hacc : acc = s.heap.objs.size) {tk : Nat} (hf : ∀ b ∈ fp, FpOk X pins H b)
    (J : Inv (cxComp X N' sc { s with heap := s.heap.push { cls := .type "list", data := .seq ([] : List Value).toArray }, toks := tk } (upd H acc (.lst [])) fp) [] σ' H' s') : Inv X pins σ H' s' := by
  subst hacc
  refine I.call' J.os ?_ J.hok J.bare fun b hb => ⟨(hf b hb).2.2.2.1, (hf b hb).2.1, (hf b hb).2.2.2.2.1, (hf b hb).2.2.2.2.2⟩
  exact Un.trans (Un.laid (o := .lst []) (fun b u e => Heap.get?_push_of_some _ e) (Nat.le_refl _) (I.hok.fresh (Nat.le_refl _))) J.base
theorem comp_core {elt target iter : Expr} {ifs : List Expr} {pos : Pos} {it : Addr} {tn : Nat → Heap → Prop} {J : It} {g : TG} {tt : TT} {te : TE} {Q : VK} {RR : Value → Addr → Result → Shared → Prop} {E : Value → Shared → Prop}
    (hc : X.calm = true) (ho : X.env.scope = osc) (S : CompScope osc sc own fr) (hj : js.map (fun j => X.N[j]?) = fr.map some)
    (hg : ∀ s₃ H₃ fp, PG (cxComp X (own ++ fr) sc s₃ H₃ fp) target g) (ht : ∀ s₃ H₃ fp, PIf (cxComp X (own ++ fr) sc s₃ H₃ fp) ifs tt) (he : ∀ s₃ H₃ fp, PE (cxComp X (own ++ fr) sc s₃ H₃ fp) elt te)
    (I : Inv X pins σ H s) (T : Turn X.prog X.w X.K target J fp it tn) (st : tn 0 s.heap) (hf : ∀ b ∈ fp, FpOk X pins H b)
    (h : ∀ acc, H acc = none → CompW J acc own.length js g tt te σ Q H)
    (fin : ∀ acc C H' s', Inv X pins σ H' s' → FpOk X pins H' C → (∃ m, s'.heap.Ns C m) → Q (.ref acc) H' → RR (.ref acc) C (.ok .next) s') :
    wpAny (model X.prog X.w) X.A (newList []) (fun acc s₃ => wpAny (model X.prog X.w) X.A (newFunctionEnv sc X.env.globals (clOf sc X.env) [] X.env.qual none .none (some X.env)) (fun cenv s₄ =>
      codeAny (model X.prog X.w) X.A (.compStart (.ListComp elt [⟨target, iter, ifs, 0⟩] sc pos) 0 (.ref it) acc { cenv with scope := relabel sc X.env }) (RR acc cenv.locals) s₄) E s₃) E s := by
  obtain ⟨W, ⟨m0, w0⟩, turn⟩ := h s.heap.objs.size (I.hok.fresh (Nat.le_refl _))
  have hlt : ∀ b ∈ fp, b < s.heap.objs.size := fun b hb => by
    obtain ⟨o, e, _⟩ := T.obj _ _ st b hb
    exact Heap.lt_size e
  refine wpAny_newList ?_
  have I3 : Inv X pins σ (upd H s.heap.objs.size (.lst [])) { s with heap := s.heap.push { cls := .type "list", data := .seq ([] : List Value).toArray } } := I.lnew (its := []) (ys := []) (t' := s.toks) .nil (Nat.zero_le _)
  have f3 : ∀ b ∈ fp, FpOk X pins (upd H s.heap.objs.size (.lst [])) b := fun b hb => ⟨by rw [upd_ne (Nat.ne_of_lt (hlt b hb))]; exact (hf b hb).1, (hf b hb).2⟩
  have hsz3 : (s.heap.push { cls := .type "list", data := .seq ([] : List Value).toArray }).objs.size = s.heap.objs.size + 1 := Heap.size_push ..
  refine wpAny_newBlock ?_
  dsimp only
  obtain ⟨h₁, e₁⟩ : ∃ h₁, h₁ = pushCells ((s.heap.push { cls := .type "list", data := .seq ([] : List Value).toArray }).push { cls := .type "dict", data := .dict #[] }) sc.names := ⟨_, rfl⟩
  rw [← e₁]
  have hns₁ : h₁.Ns (s.heap.push { cls := .type "list", data := .seq ([] : List Value).toArray }).objs.size fun _ => none := by
    rw [e₁]
    exact ns_push _ (Heap.Ns.new ..)
  have old : ∀ b o, (s.heap.push { cls := .type "list", data := .seq ([] : List Value).toArray }).get? b = some o → h₁.get? b = some o := fun b o e => by
    rw [e₁]
    exact pushCells_keeps _ _ _ _ (Heap.get?_push_of_some _ e)
  have cel₁ : ∀ x c, (cellsFrom ((s.heap.push { cls := .type "list", data := .seq ([] : List Value).toArray }).objs.size + 1) sc.names (clOf sc X.env)).lookup x = some c → ∃ v, h₁.IsCell c v := fun x c e => by
    rw [e₁]
    refine cf_cell sc.names _ (clOf sc X.env) (fun y d q => ?_) (by rw [Heap.size_push]; exact e)
    obtain ⟨v, hv⟩ := I3.cell y d (cl_sub I3 ho S q)
    exact ⟨v, hv.keeps fun b o e => Heap.get?_push_of_some _ e⟩
  have lt3 : ∀ b ∈ fp, b < (s.heap.push { cls := .type "list", data := .seq ([] : List Value).toArray }).objs.size := fun b hb => by rw [hsz3]; exact Nat.lt_succ_of_lt (hlt b hb)
  have I4 := inv_comp (own := own) (fr := fr) (js := js) (tk := s.toks) I3 ho S hj f3 lt3 hns₁ old cel₁
  have st4 : tn 0 h₁ := T.keep _ _ _ st fun b _ o e => old b o (Heap.get?_push_of_some _ e)
  have fpX : ∀ {H' : Hp}, (∀ b ∈ fp, H' b = none) → ∀ b ∈ fp, FpOk (cxComp X (own ++ fr) sc { s with heap := s.heap.push { cls := .type "list", data := .seq ([] : List Value).toArray } } (upd H s.heap.objs.size (.lst [])) fp) [] H' b := fun hn b hb =>
    ⟨hn b hb, Nat.ne_of_lt (lt3 b hb), fun hm => by
      rcases List.mem_cons.mp (I.stkSub b hm) with z | z
      · exact (hf b hb).2.1 z
      · exact (hf b hb).2.2.1 z, .inl hb, fun x c e => (bl_sub I3 ho S e).elim (fun z => (hf b hb).2.2.2.2.1 x c z) (fun z => Nat.ne_of_gt (Nat.lt_trans (lt3 b hb) z)), fun p hp => absurd (show p ∈ ([] : List (Addr × Obj)) from hp) (by simp)⟩
  have loop : ∀ s₃ : Shared, s₃ = { s with heap := h₁ } →
      codeAny (model X.prog X.w) X.A (.compLoop (.ListComp elt [⟨target, iter, ifs, 0⟩] sc pos) 0 (.ref it) (.ref s.heap.objs.size) (compEnvC sc (cellsFrom ((s.heap.push { cls := .type "list", data := .seq ([] : List Value).toArray }).objs.size + 1) sc.names (clOf sc X.env)) (s.heap.push { cls := .type "list", data := .seq ([] : List Value).toArray }).objs.size X.env))
        (RR (.ref s.heap.objs.size) (s.heap.push { cls := .type "list", data := .seq ([] : List Value).toArray }).objs.size) s₃ := by
    rintro s₃ rfl
    refine compLoop_any (fun n s' => ∃ i xs σ' H', Inv (cxComp X (own ++ fr) sc { s with heap := s.heap.push { cls := .type "list", data := .seq ([] : List Value).toArray } } (upd H s.heap.objs.size (.lst [])) fp) [] σ' H' s' ∧ Keep (inner own.length js σ) σ' ∧ tn i s'.heap ∧ (∀ b ∈ fp, H' b = none) ∧ W i n xs H')
      ?_ m0 ⟨0, [], _, _, I4, Keep.refl _, st4, fun b hb => (f3 b hb).1, w0⟩
    rintro n s5 ⟨i, xs, σ5, H5, I5, k5, st5, fr5, w5⟩
    have I5' := I5.weak (σ' := inner own.length js σ) k5.1.symm k5.2
    have hc' : (cxComp X (own ++ fr) sc { s with heap := s.heap.push { cls := .type "list", data := .seq ([] : List Value).toArray } } (upd H s.heap.objs.size (.lst [])) fp).calm = true := hc
    rcases turn i n xs H5 w5 with ⟨stop, qn⟩ | ⟨go, hz, N, hN, step⟩
    · refine thn (T.done (cxComp X (own ++ fr) sc { s with heap := s.heap.push { cls := .type "list", data := .seq ([] : List Value).toArray } } (upd H s.heap.objs.size (.lst [])) fp) rfl rfl rfl hc' i [] s5 _ H5 _ I5' (fpX fr5) st5 stop) fun r s6 hQQ => ?_
      obtain ⟨hr, I6⟩ := hQQ
      subst hr
      have B := comp_back I rfl (tk := s.toks) hf I6
      refine fin _ _ H5 s6 B ?_ ?_ qn
      · refine I.fpOk ?_ I6.free
        show s.heap.objs.size ≤ (s.heap.push { cls := .type "list", data := .seq ([] : List Value).toArray }).objs.size
        rw [hsz3]
        exact Nat.le_succ _
      · obtain ⟨m, hm, _⟩ := I6.loc
        exact ⟨m, hm⟩
    · refine thn (T.item (cxComp X (own ++ fr) sc { s with heap := s.heap.push { cls := .type "list", data := .seq ([] : List Value).toArray } } (upd H s.heap.objs.size (.lst [])) fp) rfl rfl rfl hc' i [] s5 _ H5 _ I5' (fpX fr5) st5 go) fun r s6 hQQ => ?_
      obtain ⟨u, hr, h6⟩ := hQQ
      subst hr
      refine thn h6 fun _ s7 hQQ => ?_
      obtain ⟨x, H7, I7, r7, y7, st7, fr7⟩ := hQQ
      have I7' := I7.pinned (fpX fr7) (T.obj _ _ st7)
      have again : ∀ {s9 : Shared} {σ9 : St} {H9 : Hp} {ys : List V} {m' : Nat}, Inv (cxComp X (own ++ fr) sc { s with heap := s.heap.push { cls := .type "list", data := .seq ([] : List Value).toArray } } (upd H s.heap.objs.size (.lst [])) fp) ([] ++ pinsAt fp s7.heap) σ9 H9 s9 →
          Keep (inner own.length js σ) σ9 → m' < n → W (i + 1) m' ys H9 → ∃ m, m < n ∧ ∃ i xs σ' H', Inv (cxComp X (own ++ fr) sc { s with heap := s.heap.push { cls := .type "list", data := .seq ([] : List Value).toArray } } (upd H s.heap.objs.size (.lst [])) fp) [] σ' H' s9 ∧ Keep (inner own.length js σ) σ' ∧ tn i s9.heap ∧ (∀ b ∈ fp, H' b = none) ∧ W i m xs H' := fun {s9 σ9 H9 ys m'} I9 k9 hm w9 => by
        refine ⟨m', hm, i + 1, ys, σ9, H9, I9.unpinned, k9, T.keep _ _ _ st7 fun b hb o e => (I9.pin (b, o) (List.mem_append_right _ (List.mem_append_right _ (mem_pinsAt hb e)))).1, fun b hb => ?_, w9⟩
        obtain ⟨o, e, d⟩ := T.obj _ _ st7 b hb
        exact (I9.pin (b, o) (List.mem_append_right _ (List.mem_append_right _ (mem_pinsAt hb e)))).2.1
      refine thn (hg _ _ _ _ s7 _ H7 x u _ I7' r7 (step x H7 y7)) fun _ s8 hQQ => ?_
      obtain ⟨σ8, H8, I8, k8, q8⟩ := hQQ
      refine thn (ht _ _ _ _ s8 σ8 H8 _ I8 q8) fun b s9 hQQ => ?_
      obtain ⟨H9, I9, q9⟩ := hQQ
      cases b with
      | false =>
        rw [if_neg (by simp)]
        rw [if_neg (by simp)] at q9
        obtain ⟨m', hm, w9⟩ := hN _ _ q9
        exact again I9 k8 hm w9
      | true =>
        rw [if_pos rfl]
        rw [if_pos rfl] at q9
        refine thn (he _ _ _ _ s9 σ8 H9 _ I9 q9) fun y s10 hQQ => ?_
        obtain ⟨v, H10, I10, r10, a10, n10⟩ := hQQ
        obtain ⟨m', hm, w10⟩ := hN _ _ n10
        refine thn (mt_append _ s10 σ8 H10 (.ref s.heap.objs.size) [v] (.ref s.heap.objs.size) [y] (fun z H11 => z = .non ∧ H11 = upd H10 s.heap.objs.size (.lst (xs ++ [v]))) I10 rfl (.cons r10 .nil) ⟨_, xs, v, rfl, rfl, a10, hz, rfl, rfl⟩) fun z s11 hQQ => ?_
        obtain ⟨z', H11, I11, _, _, e11⟩ := hQQ
        subst e11
        exact again I11 k8 hm w10
  exact codeAny_compStart_list (loop _ rfl) (T.self _ 0 _ _ _ st4 (loop _ rfl))
end
section
variable {X : Cx} {osc sc : Scope} {own fr : List Str} {js : List Nat} {elt target iter : Expr} {ifs : List Expr} {pos : Pos} {wi : TI} {g : TG} {tt : TT} {te : TE}
theorem pe_comp (hc : X.calm = true) (ho : X.env.scope = osc) (S : CompScope osc sc own fr) (hj : js.map (fun j => X.N[j]?) = fr.map some) (hi : PI X target iter wi)
    (hg : ∀ s₃ H₃ fp, PG (cxComp X (own ++ fr) sc s₃ H₃ fp) target g) (ht : ∀ s₃ H₃ fp, PIf (cxComp X (own ++ fr) sc s₃ H₃ fp) ifs tt) (he : ∀ s₃ H₃ fp, PE (cxComp X (own ++ fr) sc s₃ H₃ fp) elt te)
    (hs : ∀ x, foldedSetIterable iter X.env x = pure x := by intro _; rfl) : PE X (.ListComp elt [⟨target, iter, ifs, 0⟩] sc pos) (tComp wi own.length js g tt te) := by
  intro pins s σ H Q I h
  rw [eval_ListComp]
  refine wpAny_comprehension_free (use := none) rfl hs (closure_eq (cl_ok I ho S)) S.kind S.loc (thn (hi pins s σ H _ I h) fun v s1 h1 => thn h1 fun itv s2 h2 => ?_)
  obtain ⟨it, fp, tn, J, H2, e, I2, T, st2, f2, q2⟩ := h2
  subst e
  refine comp_core (RR := fun acc C => compPost (model X.prog X.w) X.A X.xe none (EP X pins σ Q) acc C) hc ho S hj hg ht he I2 T st2 f2 q2 fun acc C H' s' J hC hn q => ?_
  obtain ⟨m, hm⟩ := hn
  refine ⟨m, hm, fun h' hs' => ⟨.ref acc, H', ?_, rfl, q⟩⟩
  obtain ⟨f0, f1, f2', f3, f4, f5⟩ := hC
  exact J.turned (t' := s'.toks) (fun b o hb e => hs'.extBut b o hb e) f0 f1 f3 f4 f5
theorem ps_comp {i : Nat} {x : Str} {px spos : Pos} (hc : X.calm = true) (ho : X.env.scope = osc) (S : CompScope osc sc own fr) (hj : js.map (fun j => X.N[j]?) = fr.map some) (hN : X.N.Nodup) (hi' : X.N[i]? = some x) (hx : X.env.scope.names.lookup x = some .local)
    (hi : PI X target iter wi) (hg : ∀ s₃ H₃ fp, PG (cxComp X (own ++ fr) sc s₃ H₃ fp) target g) (ht : ∀ s₃ H₃ fp, PIf (cxComp X (own ++ fr) sc s₃ H₃ fp) ifs tt) (he : ∀ s₃ H₃ fp, PE (cxComp X (own ++ fr) sc s₃ H₃ fp) elt te)
    (hsw : swapsWith (.ListComp elt [⟨target, iter, ifs, 0⟩] sc pos) (some (.Name x px)) spos.line X.env = pure true)
    (hs : ∀ x, foldedSetIterable iter X.env x = pure x := by intro _; rfl) : PS X (.Assign [.Name x px] (.ListComp elt [⟨target, iter, ifs, 0⟩] sc pos) spos) (tAsg (tComp wi own.length js g tt te) (gName i)) := by
  intro pins s σ H D I h
  rw [exec_Assign_Name_used _ _ _ _ hsw]
  refine wpAny_bind (wpAny_standAt (wpAny_bind ?_))
  show wpAny _ X.A (do let _ ← comprehension (.ListComp elt [⟨target, iter, ifs, 0⟩] sc pos) sc X.env _ (newList []) false (eval iter X.env) (some (assign (.Name x px) X.env))) _ _ s
  refine wpAny_bind (wpAny_mono (wpAny_comprehension_free (use := some (assign (.Name x px) X.env)) (Q := fun _ s' => SP X pins D .next s') rfl hs (closure_eq (cl_ok I ho S)) S.kind S.loc (thn (hi pins s σ H _ I h) fun v s1 h1 => thn h1 fun itv s2 h2 => ?_))
    (fun _ s' hq => wpAny_pure (wpAny_pure hq)) fun _ _ e => e)
  obtain ⟨it, fp, tn, J, H2, e, I2, T, st2, f2, q2⟩ := h2
  subst e
  refine comp_core (Q := fun v H' => gName i v σ H' D.nx) (RR := fun acc C => compPost (model X.prog X.w) X.A X.xe (some (assign (.Name x px) X.env)) (fun _ s' => SP X pins D .next s') acc C) hc ho S hj hg ht he I2 T st2 f2 q2 fun acc C H' s' J hC hn q => ?_
  obtain ⟨m, hm⟩ := hn
  obtain ⟨f0, f1, f2', f3, f4, f5⟩ := hC
  show wpAny _ X.A (assign (.Name x px) X.env (.ref acc)) _ _ _
  refine wpAny_assign_Name (store_ok2 J hN hi' (.inl hx) (v := .ref acc) rfl (fun s'' J' hsb => ?_) (.inr hx))
  obtain ⟨a, hsb, ha⟩ := hsb
  have hCa : C ≠ a := by
    rcases ha with rfl | ha
    · exact f1
    · exact (f4 x a ha).symm
  refine ⟨m, hm.sameBut hsb hCa, fun h' hs' => ⟨_, H', ?_, q⟩⟩
  exact J'.turned (t' := s''.toks) (fun b o hb e => hs'.extBut b o hb e) f0 f1 f3 f4 f5
end
end L2

namespace L2
open PySem PySem.Spec PyProof.Rows
section
variable {X : Cx}
theorem ints_of_vals : ∀ {ns : List Int} {us : List Value}, Vals (ns.map V.int) us → IntsAre us ns := fun h => intsAre_of h
theorem vals_of_ints {ns : List Int} {us : List Value} (h : IntsAre us ns) : Vals (ns.map V.int) us := vals_ints h
theorem min_at {xs : Array (Int × Tok)} (h : 0 < xs.size) : numAt xs (argBest (fun i j => decide (numAt xs i < numAt xs j)) (xs.size - 1)) ∈ xs.toList.map (·.1) ∧
    ∀ a ∈ xs.toList.map (·.1), numAt xs (argBest (fun i j => decide (numAt xs i < numAt xs j)) (xs.size - 1)) ≤ a := by
  obtain ⟨h1, h2⟩ := argBest_lt (numAt xs) (xs.size - 1)
  refine ⟨?_, fun a ha => ?_⟩
  · rw [numAt_eq]; exact PySem.getD_mem (by rw [List.length_map, Array.length_toList]; omega)
  · obtain ⟨j, hj, rfl⟩ := PySem.mem_getD ha
    rw [List.length_map, Array.length_toList] at hj
    rw [← numAt_eq]; exact h2 j (by omega)
theorem max_at {xs : Array (Int × Tok)} (h : 0 < xs.size) : numAt xs (argBest (fun i j => decide (numAt xs i > numAt xs j)) (xs.size - 1)) ∈ xs.toList.map (·.1) ∧
    ∀ a ∈ xs.toList.map (·.1), a ≤ numAt xs (argBest (fun i j => decide (numAt xs i > numAt xs j)) (xs.size - 1)) := by
  obtain ⟨h1, h2⟩ := argBest_gt (numAt xs) (xs.size - 1)
  refine ⟨?_, fun a ha => ?_⟩
  · rw [numAt_eq]; exact PySem.getD_mem (by rw [List.length_map, Array.length_toList]; omega)
  · obtain ⟨j, hj, rfl⟩ := PySem.mem_getD ha
    rw [List.length_map, Array.length_toList] at hj
    rw [← numAt_eq]; exact h2 j (by omega)
theorem call_minL (hc : X.calm = true) : CallR X (.builtin "min") (fun xs H Q => ∃ (p : Addr) (ns : List Int), xs = [.ref p] ∧ SqL X.K H p (ns.map V.int) ∧ 0 < ns.length ∧ ∀ M : Int, M ∈ ns → (∀ a ∈ ns, M ≤ a) → Q (.int M) H) := by
  intro pins s σ H xs us Q I r h
  obtain ⟨p, ns, rfl, hq, hne, q⟩ := h
  obtain ⟨u, rfl, rx⟩ := vals1 r
  cases rx
  obtain ⟨its, r', pl, hz⟩ := I.list hq
  have hI := ints_of_vals r'
  obtain ⟨ys, e⟩ := hI.allInts.items
  have hns : ns = ys.toList.map (·.1) := by rw [← hI.numsOf, ← nums_intItems, ← e]
  have hsz : 0 < ys.size := by
    have h3 := hne; rw [hns, List.length_map, Array.length_toList] at h3; exact h3
  have hl := pl.isList
  rw [e] at hl
  refine min_intList (I.ok.hd hc) hl hsz fun v h' tk hv hk => ?_
  obtain ⟨t, rfl⟩ := intItems_at hv
  obtain ⟨m1, m2⟩ := min_at hsz
  exact ⟨.int _, H, I.kept hk, ⟨t, rfl⟩, q _ (by rw [hns]; exact m1) (by rw [hns]; exact m2)⟩
theorem call_maxL (hc : X.calm = true) : CallR X (.builtin "max") (fun xs H Q => ∃ (p : Addr) (ns : List Int), xs = [.ref p] ∧ SqL X.K H p (ns.map V.int) ∧ 0 < ns.length ∧ ∀ M : Int, M ∈ ns → (∀ a ∈ ns, a ≤ M) → Q (.int M) H) := by
  intro pins s σ H xs us Q I r h
  obtain ⟨p, ns, rfl, hq, hne, q⟩ := h
  obtain ⟨u, rfl, rx⟩ := vals1 r
  cases rx
  obtain ⟨its, r', pl, hz⟩ := I.list hq
  have hI := ints_of_vals r'
  obtain ⟨ys, e⟩ := hI.allInts.items
  have hns : ns = ys.toList.map (·.1) := by rw [← hI.numsOf, ← nums_intItems, ← e]
  have hsz : 0 < ys.size := by
    have h3 := hne; rw [hns, List.length_map, Array.length_toList] at h3; exact h3
  have hl := pl.isList
  rw [e] at hl
  refine max_intList (I.ok.hd hc) hl hsz fun v h' tk hv hk => ?_
  obtain ⟨t, rfl⟩ := intItems_at hv
  obtain ⟨m1, m2⟩ := max_at hsz
  exact ⟨.int _, H, I.kept hk, ⟨t, rfl⟩, q _ (by rw [hns]; exact m1) (by rw [hns]; exact m2)⟩
theorem vals_at : ∀ {xs : List V} {us : List Value}, Vals xs us → ∀ (j : Nat) (h : j < us.length), RelV (xs.getD j .non) us[j]
  | _, _, .nil, j, h => absurd h (Nat.not_lt_zero _)
  | _ :: _, _ :: _, .cons r t, 0, _ => r
  | _ :: _, _ :: _, .cons r t, j + 1, h => by
    have := vals_at t j (Nat.lt_of_succ_lt_succ h)
    simpa using this
theorem all_range {α : Type} (d : α) (f : α → Bool) : ∀ (bs : List α), ((List.range bs.length).all fun i => f (bs.getD i d)) = bs.all f
  | [] => rfl
  | b :: r => by
    rw [List.length_cons, List.range_succ_eq_map, List.all_cons, List.all_map, List.all_cons]
    have ih := all_range d f r
    rw [← ih]
    rfl
theorem call_allL (hc : X.calm = true) : CallR X (.builtin "all") (fun xs H Q => ∃ (p : Addr) (bs : List Bool), xs = [.ref p] ∧ SqL X.K H p (bs.map V.bl) ∧ Q (.bl (bs.all id)) H) := by
  intro pins s σ H xs us Q I r h
  obtain ⟨p, bs, rfl, hq, q⟩ := h
  obtain ⟨u, rfl, rx⟩ := vals1 r
  cases rx
  obtain ⟨its, r', pl, hz⟩ := I.list hq
  have hlen := r'.length
  rw [List.length_map] at hlen
  have hlt : p < s.heap.objs.size := by obtain ⟨_, e, _⟩ := pl.isList; exact Heap.lt_size e
  refine call_all_walk (wpAny_pyIter_list pl.isList ?_)
  refine ⟨_, _, _, _, _, _, fun i => id (bs.getD i true), rfl, Walks.list (A := X.A.in1) (I.ok.hd hc) _ p (Nat.ne_of_lt hlt) its.toArray, ⟨⟨_, Heap.get?_push_size _ rfl, rfl, rfl⟩, pl.isList.push _⟩, ?_, fun h' tk hk => ?_⟩
  · intro i v s' Q' E' hP hQ
    have hi : i < its.length := by
      have := (Array.getElem?_eq_some_iff.mp hP).1
      simpa using this
    have hv : v = its[i] := by
      have := (Array.getElem?_eq_some_iff.mp hP).2
      simpa using this.symm
    have rv := vals_at r' i hi
    have e : (bs.map V.bl).getD i .non = V.bl (bs.getD i true) := by
      rw [List.getD_eq_getElem?_getD, List.getD_eq_getElem?_getD, List.getElem?_map, List.getElem?_eq_getElem (by omega)]
      rfl
    rw [e] at rv
    have rv : its[i] = Value.bool (bs.getD i true) := rv
    rw [hv, rv]
    exact wpAny_truthy_bool hQ
  · have e : ((List.range its.toArray.size).all fun i => id (bs.getD i true)) = bs.all id := by
      rw [List.size_toArray, ← hlen]
      exact all_range true id bs
    rw [e]
    exact ⟨.bl _, H, I.kept (old_kept hk), rfl, q⟩
def eqVs : List V → List V → Bool
  | [], [] => true
  | x :: xs, y :: ys => eqV x y && eqVs xs ys
  | _, _ => false
theorem eqVs_len : ∀ {xs ys : List V}, xs.length ≠ ys.length → eqVs xs ys = false
  | [], [], h => absurd rfl h
  | [], _ :: _, _ => rfl
  | _ :: _, [], _ => rfl
  | x :: xs, y :: ys, h => by
    have : eqVs xs ys = false := eqVs_len fun e => h (by simp [e])
    simp [eqVs, this]
theorem eqVs_range : ∀ {xs ys : List V}, xs.length = ys.length → ((List.range xs.length).all fun i => eqV (xs.getD i .non) (ys.getD i .non)) = eqVs xs ys
  | [], [], _ => rfl
  | x :: xs, y :: ys, h => by
    rw [List.length_cons, List.range_succ_eq_map, List.all_cons, List.all_map]
    have ih := eqVs_range (xs := xs) (ys := ys) (by simpa using h)
    show (eqV x y && _) = (eqV x y && eqVs xs ys)
    rw [← ih]
    rfl
  | [], _ :: _, h => by simp at h
  | _ :: _, [], h => by simp at h
theorem flat_getD {xs : List V} (h : xs.all flatV = true) (i : Nat) : flatV (xs.getD i .non) = true := by
  rw [List.getD_eq_getElem?_getD]
  cases e : xs[i]? with
  | none => rfl
  | some v => exact List.all_eq_true.mp h v (List.mem_of_getElem? e)
def rEqL (K : PySem.W.Frag) (neg : Bool) : R2 := fun x y H Q => ∃ a b xs ys, x = .ref a ∧ y = .ref b ∧ SqL K H a xs ∧ SqL K H b ys ∧ xs.all flatV = true ∧ ys.all flatV = true ∧ Q (.bl (if neg then !eqVs xs ys else eqVs xs ys)) H
theorem lists_at {pins : List (Addr × Obj)} {s : Shared} {σ : St} {H : Hp} {a b : Addr} {xs ys : List V} (I : Inv X pins σ H s) (ha : SqL X.K H a xs) (hb : SqL X.K H b ys) (fx : xs.all flatV = true) (fy : ys.all flatV = true) :
    ∃ items items2 : Array Value, s.heap.IsList a items ∧ s.heap.IsList b items2 ∧ items.size = xs.length ∧ items2.size = ys.length ∧
      ∀ A j (h1 : j < items.size) (h2 : j < items2.size), SeqAt.EqAt A s items[j] items2[j] (eqV (xs.getD j .non) (ys.getD j .non)) := by
  obtain ⟨its, r, pl, hz⟩ := I.list ha
  obtain ⟨its2, r2, pl2, hz2⟩ := I.list hb
  refine ⟨its.toArray, its2.toArray, pl.isList, pl2.isList, by simp [r.length], by simp [r2.length], fun A j h1 h2 => ?_⟩
  have q1 := vals_at r j (by simpa using h1)
  have q2 := vals_at r2 j (by simpa using h2)
  have := eqAt_V (A := A) (s := s) q1 q2 (flat_getD fx j) (flat_getD fy j)
  simpa using this
theorem op_neL (hu : X.A.units < cLine) : OpR X (compareOp .NotEq) (rEqL X.K true) := by
  intro pins s σ H x y v u Q I rx ry h
  obtain ⟨a, b, xs, ys, rfl, rfl, ha, hb, fx, fy, q⟩ := h
  cases rx
  cases ry
  obtain ⟨items, items2, l1, l2, s1, s2, he⟩ := lists_at I ha hb fx fy
  by_cases hl : xs.length = ys.length
  · refine SeqAt.RcNeAt.lists l1 l2 (by omega) hu (fun j h1 h2 => he _ j h1 h2) _ _ _ _ ⟨.bl _, H, I, rfl, ?_⟩
    rw [s1, eqVs_range hl]
    exact q
  · refine SeqAt.RcNeAt.lists_lengths l1 l2 (by simp; omega) hu _ _ _ _ ⟨.bl _, H, I, rfl, ?_⟩
    rw [eqVs_len hl] at q
    exact q
theorem op_isB : OpR X (compareOp .Is) (fun x y H Q => ∃ a b, x = .bl a ∧ y = .bl b ∧ Q (.bl (a == b)) H) := by
  intro pins s σ H x y v u Q I rx ry h
  obtain ⟨a, b, rfl, rfl, q⟩ := h
  cases rx
  cases ry
  exact is_bool ⟨.bl _, H, I, rfl, q⟩
end
end L2

namespace L2
open PySem PySem.Spec PyProof.Rows
theorem bt_len : bootBuiltins "len" = some (.builtin "len") := by decide +kernel
theorem bt_sorted : bootBuiltins "sorted" = some (.builtin "sorted") := by decide +kernel
theorem bt_min : bootBuiltins "min" = some (.builtin "min") := by decide +kernel
theorem bt_max : bootBuiltins "max" = some (.builtin "max") := by decide +kernel
theorem bt_all : bootBuiltins "all" = some (.builtin "all") := by decide +kernel
theorem bt_isinstance : bootBuiltins "isinstance" = some (.builtin "isinstance") := by decide +kernel
theorem bt_int : bootBuiltins "int" = some (.type "int") := by decide +kernel
theorem bt_bool : bootBuiltins "bool" = some (.type "bool") := by decide +kernel
theorem bt_list : bootBuiltins "list" = some (.type "list") := by decide +kernel
theorem bt_tuple : bootBuiltins "tuple" = some (.type "tuple") := by decide +kernel
structure Bl (mg : Str → Option Value) : Prop where
  no : ∀ x ∈ (["len", "sorted", "min", "max", "sum", "all", "isinstance", "int", "bool", "list", "tuple", "range"] : List Str), mg x = none
namespace Bl
variable {mg : Str → Option Value}
theorem len (B : Bl mg) : mg "len" = none := B.no _ (by simp)
theorem sorted (B : Bl mg) : mg "sorted" = none := B.no _ (by simp)
theorem min (B : Bl mg) : mg "min" = none := B.no _ (by simp)
theorem max (B : Bl mg) : mg "max" = none := B.no _ (by simp)
theorem sum (B : Bl mg) : mg "sum" = none := B.no _ (by simp)
theorem all (B : Bl mg) : mg "all" = none := B.no _ (by simp)
theorem isinstance (B : Bl mg) : mg "isinstance" = none := B.no _ (by simp)
theorem int (B : Bl mg) : mg "int" = none := B.no _ (by simp)
theorem bool (B : Bl mg) : mg "bool" = none := B.no _ (by simp)
theorem list (B : Bl mg) : mg "list" = none := B.no _ (by simp)
theorem tuple (B : Bl mg) : mg "tuple" = none := B.no _ (by simp)
theorem range (B : Bl mg) : mg "range" = none := B.no _ (by simp)
end Bl
structure Cal (P : Program) (w : World) (K : PySem.W.Frag) (mg : Str → Option Value) (base : Heap) (x : Str) (j : Nat) (ps : List Str) (sp : Sp) : Prop where
  ex : ∃ f fd, FnOk P w K mg base CX0 j f fd ps sp ∧ mg x = some (.ref f) ∧ PySem.W.keepIn K (.ref f) = true ∧ Binds K fd ps []
def g11 {α : Type} (us ws : List α) : List α := match us, ws with
  | [a], [b] => [a, b]
  | _, _ => []
structure CalK (P : Program) (w : World) (K : PySem.W.Frag) (mg : Str → Option Value) (base : Heap) (x : Str) (j : Nat) (ps ks : List Str) (sp : Sp) : Prop where
  ex : ∃ f fd, FnOk P w K mg base CX0 j f fd ps sp ∧ mg x = some (.ref f) ∧ PySem.W.keepIn K (.ref f) = true ∧ KBinds K fd ps ks g11 g11
section
variable {X : Cx} {x : Str} {j : Nat} {ps ks : List Str} {sp : Sp} {p pos : Pos} {e : Expr} {es : List Expr} {t tk : TA} {kws : List Keyword}
end
theorem hu0 {A : Around} {k : Nat} (hr : Room k A) : A.units < cLine := hr.units0
def But (bs : List Addr) (H H' : Hp) : Prop := ∀ b o, H b = some o → b ∉ bs → H' b = some o
theorem Same.but {H H' : Hp} (s : Same H H') (bs : List Addr) : But bs H H' := fun b o e _ => s b o e
theorem But.trans {bs : List Addr} {H H1 H2 : Hp} (a : But bs H H1) (b : But bs H1 H2) : But bs H H2 := fun c o e n => b c o (a c o e n) n
theorem Same.laid {H : Hp} {p : Addr} {o : HO} (h : H p = none) : Same H (upd H p o) := fun b u e => by rw [upd_ne (ne_of_none e h)]; exact e
theorem But.upd {bs : List Addr} {H : Hp} {p : Addr} {o : HO} (h : p ∈ bs) : But bs H (L2.upd H p o) := fun b u e n => by
  rw [upd_ne (fun z : b = p => n (by rw [z]; exact h))]
  exact e
end L2

namespace L2
open PySem PySem.Spec PyProof.Rows
end L2

namespace L2
open PySem PySem.Spec PyProof.Rows
section
variable {X : Cx}
end
end L2

namespace L2
open PySem PySem.Spec PyProof.Rows
section
variable {P : Program} {w : World} {H : Hp} {h h' : Heap} {a : Addr} {o : HO}
theorem ObjOk.there (x : ObjOk P w H h a o) : ∃ u, h.get? a = some u := by
  cases o with
  | lst xs =>
    obtain ⟨_, _, _, _, e⟩ := x
    exact ⟨_, e⟩
  | tup xs =>
    obtain ⟨_, _, _, p⟩ := x
    obtain ⟨ob, e, _⟩ := p
    exact ⟨_, e⟩
  | dK kvs =>
    obtain ⟨_, _, _, _, ob, _, _, e, _⟩ := x
    exact ⟨_, e⟩
  | dT kvs =>
    obtain ⟨_, _, _, _, ob, _, _, e, _⟩ := x
    exact ⟨_, e⟩
  | set S n =>
    obtain ⟨ob, _, _, _, e, _⟩ := x
    exact ⟨_, e⟩
  | ins C dx fs =>
    obtain ⟨_, _, _, e, _⟩ := x
    exact ⟨_, e⟩
  | own y => exact x
  | xd fs =>
    obtain ⟨_, ⟨_, _, _, e, _⟩, _⟩ := x
    exact ⟨_, e⟩
  | rng lo hi =>
    obtain ⟨_, _, _, e⟩ := x
    exact ⟨_, e⟩
  | frz ob u =>
    obtain ⟨e, _⟩ := x
    exact ⟨_, e⟩
  | tbl ps => exact ⟨_, x⟩
  | met f y => exact ⟨_, x⟩
  | ext φ => exact x.2.1
theorem HOk.moved (x : HOk P w H h) (k : ∀ b o u, H b = some o → h.get? b = some u → h'.get? b = some u) : HOk P w H h' := fun a o e =>
  (x a o e).stay (fun b u hb q => by
    rcases hb with rfl | hb
    · exact k _ _ u e q
    · exact k _ _ u hb q) (fun _ z => z) fun _ _ z => z
end
def CX1 (P : Program) (w : World) : CXT := fun outer H s E e s' => ∃ (ea C : Addr) (a0 : Value) (H' : Hp) (B : Heap), e = .ref ea ∧ s'.os = s.os ∧ AllBare s'.gens ∧ Heap.FlyingW B outer ea (.ref C) a0 s'.heap ∧
  (∀ b o, s.heap.get? b = some o → H b = none → b ∉ frs outer → B.get? b = some o) ∧ (∀ b o, s.heap.get? b = some o → b ∉ frs outer → ∃ o', B.get? b = some o') ∧
  (∀ b o, H' b = some o → ∃ u, B.get? b = some u) ∧ Un (frs outer) [] H H' s.heap s'.heap ∧ HOk P w H' s'.heap ∧ E (.ref C) none H'
theorem CX1.step {P : Program} {w : World} {outer : List Env} {H₀ H' : Hp} {s₀ s' : Shared} {h h'' : Heap} {B : Heap} {ea C : Addr} {a0 : Value} {E : XK} (ho : s'.os = s₀.os) (hb : AllBare s'.gens)
    (fl : Heap.FlyingW B outer ea (.ref C) a0 h'') (up : h.UpToSlots h'') (st : B.StaysIn h) (hfr : ∀ b ∈ frs outer, H₀ b = none) (hff : ∀ b ∈ frs outer, ∀ o, h.get? b = some o → ∀ vs, o.data ≠ .fields vs)
    (k1 : ∀ b o, s₀.heap.get? b = some o → H₀ b = none → b ∉ frs outer → B.get? b = some o) (k2 : ∀ b o, s₀.heap.get? b = some o → b ∉ frs outer → ∃ o', B.get? b = some o')
    (k3 : ∀ b o, H' b = some o → ∃ u, B.get? b = some u) (u : Un (frs outer) [] H₀ H' s₀.heap h) (hok : HOk P w H' h) (q : E (.ref C) none H') : CX1 P w outer H₀ s₀ E (.ref ea) { s' with heap := h'' } := by
  have slot : ∀ b o, s₀.heap.get? b = some o → H₀ b = none → b ∈ frs outer → ∃ sl, h''.get? b = some { o with slots := sl } := fun b o e n hm => by
    obtain ⟨sl, e1⟩ := u.slot b o e n hm (by simp)
    obtain ⟨sl', e2⟩ := up b _ e1 (hff b hm _ e1)
    exact ⟨sl', e2⟩
  refine ⟨ea, C, a0, H', B, rfl, ho, hb, fl, k1, k2, k3, ⟨fun b o e n hm _ => fl.1 b o (k1 b o e n hm), fun b o e n hm _ => slot b o e n hm, u.free, fun b o e _ => ?_, u.tups, u.frzs, u.tbls⟩, ?_, q⟩
  · by_cases hm : b ∈ frs outer
    · obtain ⟨sl, e2⟩ := slot b o e (hfr b hm) hm
      exact ⟨_, e2⟩
    · obtain ⟨o', e2⟩ := k2 b o e hm
      exact ⟨o', fl.1 b o' e2⟩
  · refine hok.moved fun b o u' e q' => ?_
    obtain ⟨u2, e2⟩ := k3 b o e
    have e3 := st b u2 e2
    rw [q'] at e3
    cases e3
    exact fl.1 b _ e2
section
variable {P : Program} {w : World} {K : PySem.W.Frag} {mg : Str → Option Value} {base : Heap} {N : List Str} {qual : Str} {scope : Scope} {f : Addr} {cd : Value} {A : Around} {outer : List Env} {s₀ : Shared} {H₀ : Hp} {E : XK}
theorem env_not {b : Addr} {o : Obj} (e : s₀.heap.get? b = some o) (hm : b ∉ frs outer) : b ∉ frs (envOfC qual scope s₀.heap.objs.size f cd :: outer) := fun hb => by
  have hb : b ∈ s₀.heap.objs.size :: frs outer := hb
  rcases List.mem_cons.mp hb with rfl | hb
  · exact Nat.lt_irrefl _ (Heap.lt_size e)
  · exact hm hb
theorem cx_raise {pins : List (Addr × Obj)} {σ : St} {H : Hp} {s : Shared} {e C : Addr} {us : List Value} {h' : Heap} (I : Inv (cxOf (CX1 P w) P w K mg base N qual scope f cd A outer s₀ H₀ E) pins σ H s)
    (hx : Heap.MadeExcOf s.heap h' e (.ref C) us) (q : E (.ref C) none H) : (cxOf (CX1 P w) P w K mg base N qual scope f cd A outer s₀ H₀ E).xe (.ref e) { s with heap := h' } := by
  have hst : s.heap.FunFrames base (envOfC qual scope s₀.heap.objs.size f cd :: outer) := I.stack
  have hin : ∀ env ∈ (envOfC qual scope s₀.heap.objs.size f cd :: outer), ∀ b, env.frame = some b → b ∈ frs (envOfC qual scope s₀.heap.objs.size f cd :: outer) := fun env he b hb => List.mem_filterMap.mpr ⟨env, he, hb⟩
  have hide := PySem.W.funFrames_hide hst hin
  refine wpAny_leaves_madeW (base := PySem.W.hideAll s.heap (frs (envOfC qual scope s₀.heap.objs.size f cd :: outer))) (s := { s with heap := h' }) I.ok.frames rfl (fun b o z => PySem.W.of_hideAll _ z) hide hx fun h'' t fl _ _ up => ?_
  have kB : ∀ b o, s.heap.get? b = some o → b ∉ frs (envOfC qual scope s₀.heap.objs.size f cd :: outer) → (PySem.W.hideAll s.heap (frs (envOfC qual scope s₀.heap.objs.size f cd :: outer))).get? b = some o := fun b o z n => PySem.W.hideAll_get _ z n
  have ub : Un (frs outer) [] H₀ H s₀.heap s.heap := I.base
  have bsx : ∀ b o, s₀.heap.get? b = some o → H₀ b = none → b ∉ frs outer → s.heap.get? b = some o := fun b o z n hm => ub.keep b o z n hm (by simp)
  refine CX1.step (s' := s) (h := s.heap) I.os I.bare fl (fun b o z nf => up b o (hx.keeps b o z) nf) (fun b o z => PySem.W.of_hideAll _ z) I.ok.frf (fun b hb o z => ?_) (fun b o z n hm => kB b o (bsx b o z n hm) (env_not z hm)) (fun b o z hm => ?_) (fun b o z => ?_) ub I.hok q
  · obtain ⟨_, o', e1, e2⟩ := hst.mem (b := b) (List.mem_cons_of_mem _ hb)
    rw [z] at e1
    cases e1
    exact e2
  · obtain ⟨o', e1⟩ := ub.there b o z (by simp)
    exact ⟨o', kB b o' e1 (env_not z hm)⟩
  · obtain ⟨u, e1⟩ := (I.hok b o z).there
    refine ⟨u, kB b u e1 fun hm => ?_⟩
    have := I.stkFree b hm
    rw [z] at this
    cases this
theorem cx_pass : Passes (CX1 P w) (cxOf (CX1 P w) P w K mg base N qual scope f cd A outer s₀ H₀ E) E := by
  intro pins σ H s e s' I h
  obtain ⟨ea, C, a0, H', B, rfl, ho, hb, fl, k1, k2, k3, u, hok, q⟩ := h
  have ub : Un (frs outer) [] H₀ H s₀.heap s.heap := I.base
  have fl : Heap.FlyingW B (envOfC qual scope s₀.heap.objs.size f cd :: outer) ea (.ref C) a0 s'.heap := fl
  have u : Un (frs (envOfC qual scope s₀.heap.objs.size f cd :: outer)) [] H H' s.heap s'.heap := u
  have J := I.call' ho u hok hb (ch := []) (fun b hb => by simp at hb)
  have uj : Un (frs outer) [] H₀ H' s₀.heap s'.heap := J.base
  have ofr : ∀ b ∈ frs outer, b ∈ frs (envOfC qual scope s₀.heap.objs.size f cd :: outer) := fun b hb => List.mem_cons_of_mem _ hb
  refine wpAny_leaves_onW I.ok.frames rfl fl fun h' fl' up => ?_
  refine CX1.step (s' := s') (h := s'.heap) (ho.trans I.os) hb fl' up fl.1 I.ok.frf (fun b hb o z => ?_) (fun b o z n hm => k1 b o (ub.keep b o z n hm (by simp)) (ub.free b o z n (by simp)) (env_not z hm)) (fun b o z hm => ?_) k3 uj hok q
  · obtain ⟨_, o', e1, e2⟩ := fl.2.2.1.mem (b := b) (ofr b hb)
    rw [z] at e1
    cases e1
    exact e2
  · obtain ⟨o', e1⟩ := ub.there b o z (by simp)
    exact k2 b o' e1 (env_not z hm)
end
theorem Fun.okX {P : Program} {w : World} {K : PySem.W.Frag} {mg : Str → Option Value} {base : Heap} {x qual : Str} {st : Stmt} {f : Addr} {fd : FuncData} {N ps : List Str} {k : Nat} {sp : Sp} (F : Fun K x qual st f fd) (S : FnScope N ps (defScope st)) (len : ∀ vs H Q E, sp vs H Q E → vs.length = ps.length)
    (hbody : ∀ (cdv : Value) (A : Around) (outer : List Env) (s : Shared) (H : Hp) (vs : List V) (Q : VK) (E : XK), Room k (A.deeper (envOfC qual (defScope st) s.heap.objs.size f cdv)) → sp vs H Q E →
      ∃ t, PSs (cxOf (CX1 P w) P w K mg base N qual (defScope st) f cdv A outer s H E) (defBody st) t ∧ t { nx := fun _ H' => Q .non H', rt := Q } (start N vs) H) : FnOk P w K mg base (CX1 P w) (k + 1) f fd ps sp := by
  obtain ⟨oc, od, kV, doc, pm, an, cdv, ct, osl, rfl, lk, hcd⟩ := F.ex
  exact fn_of lk hcd S len fun A outer s H vs Q E hr hsp => hbody cdv A outer s H vs Q E hr hsp
end L2

namespace L2
open PySem PySem.Spec PyProof.Rows
def tFmtI (tv : TE) : TE := fun σ H Q => tv σ H fun x H1 => ∃ i : Int, x = .int i ∧ i.natAbs.log2 < 1920 ∧ Q (.str (toString i)) H1
abbrev TJ := St → Hp → Str → (Str → Hp → Prop) → Prop
def PJ (X : Cx) (es : List Expr) (t : TJ) : Prop :=
  ∀ (pins : List (Addr × Obj)) (s : Shared) (σ : St) (H : Hp) (out : Str) (Q : Str → Hp → Prop), Inv X pins σ H s → t σ H out Q →
    wpAny (model X.prog X.w) X.A (joinParts out (evalEach es X.env)) (EP X pins σ fun v H' => ∃ z, v = .str z ∧ Q z H') X.xe s
def tjNil : TJ := fun _ H out Q => out.length ≤ sizeLine ∧ Q out H
def tjCons (te : TE) (tr : TJ) : TJ := fun σ H out Q => te σ H fun x H1 => ∃ y, x = .str y ∧ (out ++ y).length ≤ sizeLine ∧ tr σ H1 (out ++ y) Q
def tFstr (t : TJ) : TE := fun σ H Q => t σ H Str.empty fun z H1 => Q (.str z) H1
section
variable {X : Cx} {e e2 : Expr} {es : List Expr} {te tv : TE} {t : TJ} {pos : Pos}
theorem pe_fmtI (hv : PE X e tv) : PE X (.FormattedValue e (-1) none pos) (tFmtI tv) := by
  intro pins s σ H Q I h
  refine FormattedValue_plain (thn (hv pins s σ H _ I h) fun v s1 hQQ => ?_)
  obtain ⟨x, H1, I1, r1, i, ei, hi, q⟩ := hQQ
  subst ei
  obtain ⟨tk, rfl⟩ := (show ∃ tk, v = Value.int i tk from r1)
  exact formatField_int_small hi ⟨.str (toString i), H1, I1.tok _, ⟨_, rfl⟩, q⟩
theorem pj_nil : PJ X [] tjNil := fun pins s σ H out Q I h => joinParts_nil ⟨.str out, H, I.tok _, ⟨_, rfl⟩, out, rfl, h.2⟩ h.1
theorem pj_cons (he : PE X e te) (hr : PJ X es t) (hs : evalEach (e :: es) X.env = eval e X.env :: evalEach es X.env := by rfl) : PJ X (e :: es) (tjCons te t) := by
  intro pins s σ H out Q I h
  rw [hs]
  refine joinParts_cons (thn (he pins s σ H _ I h) fun v s1 hQQ => ?_)
  obtain ⟨x, H1, I1, r1, y, ey, hz, q⟩ := hQQ
  subst ey
  obtain ⟨tk, rfl⟩ := (show ∃ tk, v = Value.str y tk from r1)
  exact ⟨hz, hr pins s1 σ H1 _ Q I1 q⟩
theorem pe_fstr (h : PJ X (e :: e2 :: es) t) (hs : evalEach (e :: e2 :: es) X.env = eval e X.env :: eval e2 X.env :: evalEach es X.env := by rfl) : PE X (.JoinedStr (e :: e2 :: es) pos) (tFstr t) := by
  intro pins s σ H Q I q
  refine JoinedStr_many ?_
  rw [← hs]
  refine thn (h pins s σ H Str.empty _ I q) fun v s1 hQQ => ?_
  obtain ⟨x, H1, I1, r1, z, ez, q1⟩ := hQQ
  subst ez
  exact ⟨_, H1, I1, r1, q1⟩
end
abbrev bmVE : List Value := [.type "ValueError", .type "Exception", .type "BaseException", .type "object"]
theorem exc_obj {K : PySem.W.Frag} {h : Heap} {C : Addr} {bmB : List Value} {newId : String} (KX : K.In h) (hq : PySem.W.excIn K C bmB newId = true) :
    ∃ (tl : List Value) (Nn : Addr) (n1 n2 : Str) (bs : List Value) (b1 : Bool) (sn : List Str) (sub : List Value) (b2 : Bool) (col : Option Bool) (dd : Option Addr) (j0 j1 j2 j3 j5 : Option Value) (mN : Str → Option Value),
      h.get? C = some (excClassObj n1 n2 C Nn bs tl b1 sn sub b2 col dd j0 j1 j2 j3 j5 newId) ∧ h.Ns Nn mN ∧ mN "__init__" = none ∧ OwnTail h bmB tl := by
  unfold PySem.W.excIn at hq
  split at hq
  case h_2 => cases hq
  case h_1 dd cdat slots look =>
    split at hq
    case h_2 => cases hq
    case h_1 C2 tl j0 j1 j2 j3 idn j5 emro eslots =>
      simp only [Bool.and_eq_true, beq_iff_eq, Bool.not_eq_true'] at hq
      obtain ⟨⟨⟨⟨⟨z1, z2⟩, z3⟩, z4⟩, z5⟩, z6⟩ := hq
      subst z1
      subst z2
      obtain ⟨n1, bs, mr, nsa, n2, b1, sn, sub, b2, col, b3⟩ := cdat
      have z3' : b3 = false := z3
      have em : mr = .ref C2 :: tl := emro
      subst z3'
      subst em
      have es : slots = #[j0, j1, j2, j3, some (.builtin idn), j5] := by
        cases slots with
        | mk l =>
          have : l = [j0, j1, j2, j3, some (.builtin idn), j5] := eslots
          rw [this]
      subst es
      refine ⟨tl, nsa, n1, n2, bs, b1, sn, sub, b2, col, dd, j0, j1, j2, j3, j5, h.nsMap nsa, KX _ _ look, ?_⟩
      exact ⟨.of_isNs (PySem.W.isNs_of_in KX z5), PySem.W.nsMap_none_of_in KX z5 z6, PySem.W.tail_of_in KX z4⟩
structure Exc (K : PySem.W.Frag) (mg : Str → Option Value) (x : Str) (C : Addr) : Prop where
  at_ : mg x = some (.ref C)
  ex : PySem.W.excIn K C bmVE "ValueError.__new__" = true
def tRaise (C : Addr) (E : XK) (t : TA) : TS := fun _ σ H => t σ H fun vs H1 => vs.length ≤ sizeLine ∧ E (.ref C) none H1
theorem ps_raise {P : Program} {w : World} {K : PySem.W.Frag} {mg : Str → Option Value} {base : Heap} {N : List Str} {qual : Str} {scope : Scope} {f : Addr} {cd : Value} {A : Around} {outer : List Env} {s₀ : Shared} {H₀ : Hp} {E : XK}
    {x : Str} {C : Addr} {np cpos pos : Pos} {e : Expr} {es : List Expr} {t : TA} (hC : Exc K mg x C) (hg : Gl (cxOf (CX1 P w) P w K mg base N qual scope f cd A outer s₀ H₀ E) x) (ha : PA (cxOf (CX1 P w) P w K mg base N qual scope f cd A outer s₀ H₀ E) (e :: es) t)
    (hdb : (x == ("__debug__" : Str)) = false := by decide)
    (he : starEach (e :: es) (envOfC qual scope s₀.heap.objs.size f cd) = (false, eval e (envOfC qual scope s₀.heap.objs.size f cd)) :: starEach es (envOfC qual scope s₀.heap.objs.size f cd) := by rfl)
    (hpl : (backTo cpos (starEach es (envOfC qual scope s₀.heap.objs.size f cd))).any (·.1) = false := by rfl) :
    PS (cxOf (CX1 P w) P w K mg base N qual scope f cd A outer s₀ H₀ E) (.Raise (some (.Call (.Name x np) (e :: es) [] cpos)) none pos) (tRaise C E t) := by
  intro pins s σ H D I h
  obtain ⟨tl, Nn, n1, n2, bs, b1, sn, sub, b2, col, dd, j0, j1, j2, j3, j5, mN, o1, o2, o3, o4⟩ := exc_obj I.ok.mod.kin hC.ex
  refine wpAny_Raise_call_subT (C := C) (nm := n1) (q := n2) (N := Nn) (bs := bs) (bm := tl) (hdct := b1) (sn := sn) (sub := sub) (ab := b2) (col := col) (dd := dd) (k0 := j0) (k1 := j1) (k2 := j2) (k3 := j3) (k5 := j5) PySem.F.excBase_ValueError
    (mN := mN) (o4.hasType PySem.F.excBase_ValueError.hasBase) (I.ok.hd rfl) (by
      show (backTo cpos (starEach (e :: es) (envOfC qual scope s₀.heap.objs.size f cd))).any (·.1) = false
      rw [he]
      show (false || (backTo cpos (starEach es (envOfC qual scope s₀.heap.objs.size f cd))).any (·.1)) = false
      rw [hpl]
      rfl) o3 (ld_glob I hg hC.at_ ⟨rfl, ?_⟩ hdb)
  have hp := ha cpos pins s σ H _ I h
  have hp2 : wpAny (model P w) (A.deeper (envOfC qual scope s₀.heap.objs.size f cd)) (spliced (backTo cpos (starEach (e :: es) (envOfC qual scope s₀.heap.objs.size f cd)))) _ _ s := hp
  show wpAny (model P w) (A.deeper (envOfC qual scope s₀.heap.objs.size f cd)) (evalArgs (.ref C) true (backTo cpos (starEach (e :: es) (envOfC qual scope s₀.heap.objs.size f cd))) []) _ _ s
  rw [he] at hp2 ⊢
  refine Calls.evalArgs_plain (thn hp2 fun us s2 z => ?_)
  obtain ⟨vs, H1, I1, rv, hz, q⟩ := z
  refine ⟨rfl, by rw [← rv.length]; exact hz, I1.bk _ _ o1, o2.keeps I1.bk, o4.keeps I1.bk, fun h' ea hx => cx_raise I1 hx q⟩
end L2

namespace L2
open PySem PySem.Spec PyProof.Rows
def excO (ea C : Addr) : HO := .ext fun h => ∃ o vs, h.get? ea = some o ∧ o.cls = .ref C ∧ o.data = .fields vs
structure ExcK (K : PySem.W.Frag) (C : Addr) : Prop where
  ga : PySem.W.findIn K (.ref C) "__getattribute__" = some (some (.builtin "BaseException.__getattribute__"))
  cl : PySem.W.findIn K (.ref C) "__class__" = some (some (.builtin "object.__class__"))
  ob : PySem.W.mroIn K C (.type "object") = some true
  be : PySem.W.mroIn K C (.type "BaseException") = some true
  isc : (PySem.W.clsIn K C).isSome = true
  gh : PySem.W.findIn K (.ref C) "__getattr__" = some none
section
variable {prog : Program} {w : World} {A : Around} {E : Value → Shared → Prop} {K : PySem.W.Frag} {x C : Addr} {h : Heap} {g : Array GenState} {d : Drawn} {t : Nat} {os : OsState}
end
end L2
namespace L2
open PySem PySem.Spec PyProof.Rows
end L2

namespace L2
open PySem PySem.Spec PyProof.Rows
def Prot (X : Cx) (pins : List (Addr × Obj)) (H : Hp) (b : Addr) : Prop :=
  b = X.env.locals ∨ (∃ x, X.env.cells.lookup x = some b) ∨ (∃ p ∈ X.pn ++ pins, p.1 = b) ∨ (∃ o, H b = some o) ∨ ∃ o, X.s₀.heap.get? b = some o ∧ b ∉ X.ex
structure Fly (X : Cx) (pins : List (Addr × Obj)) (σ : St) (H : Hp) (B : Heap) (ea C : Addr) (a0 : Value) (s : Shared) : Prop where
  inv : Inv X pins σ H s
  fl : Heap.FlyingW B X.stack ea (.ref C) a0 s.heap
  kn : ∀ b, Prot X pins H b → b ∉ frs X.stack → ∃ o, B.get? b = some o
section
variable {X : Cx} {pins : List (Addr × Obj)} {σ : St} {H : Hp} {s : Shared} {B h' : Heap} {ea C a : Addr} {a0 : Value} {o : HO}
theorem Inv.flew {t' : Nat} (I : Inv X pins σ H s) (st : B.StaysIn s.heap) (st' : B.StaysIn h') (up : s.heap.UpToSlots h') (kn : ∀ b, Prot X pins H b → b ∉ frs X.stack → ∃ o, B.get? b = some o) :
    Inv X pins σ H { s with heap := h', toks := t' } := by
  have got : ∀ b o, Prot X pins H b → b ∉ frs X.stack → s.heap.get? b = some o → h'.get? b = some o := fun b o hp hf e => by
    obtain ⟨o', q⟩ := kn b hp hf
    have q2 := st b o' q
    rw [e] at q2
    cases q2
    exact st' b _ q
  have slot : ∀ b o, b ∈ frs X.stack → s.heap.get? b = some o → ∃ sl, h'.get? b = some { o with slots := sl } := fun b o hb e => by
    obtain ⟨_, o', e1, e2⟩ := I.stack.mem hb
    rw [e] at e1
    cases e1
    exact up b o e e2
  have any : ∀ b o, Prot X pins H b → s.heap.get? b = some o → ∃ sl, h'.get? b = some { o with slots := sl } := fun b o hp e => by
    by_cases hf : b ∈ frs X.stack
    · exact slot b o hf e
    · exact ⟨o.slots, got b o hp hf e⟩
  have neL : ∀ b o, X.s₀.heap.get? b = some o → b ≠ X.env.locals := fun b o e => Nat.ne_of_lt (Nat.lt_of_lt_of_le (Heap.lt_size e) I.ok.above)
  have nst : ∀ b, b ≠ X.env.locals → b ∉ X.fs → b ∉ frs X.stack := fun b hL hb z => (List.mem_cons.mp (I.stkSub b z)).elim hL hb
  have cellK : ∀ x c, X.env.cells.lookup x = some c → ∀ v, s.heap.IsCell c v → h'.IsCell c v := fun x c e v hQQ => by
    obtain ⟨o, ho, hd⟩ := hQQ
    obtain ⟨sl, q⟩ := any c o (.inr (.inl ⟨x, e⟩)) ho
    exact ⟨_, q, hd⟩
  refine ⟨I.ok, I.os, I.bare, ⟨fun b o e n hb hx => ?_, fun b o e n hb hx => ?_, I.base.free, fun b o e hx => ?_, I.base.tups, I.base.frzs, I.base.tbls⟩, ?_, fun x c e => ?_, I.free, I.freeC, fun p hp => ?_, ?_, I.len⟩
  · exact got b o (.inr (.inr (.inr (.inr ⟨o, e, hx⟩)))) (nst b (neL b o e) hb) (I.base.keep b o e n hb hx)
  · obtain ⟨sl, e1⟩ := I.base.slot b o e n hb hx
    obtain ⟨sl', e2⟩ := any b _ (.inr (.inr (.inr (.inr ⟨o, e, hx⟩)))) e1
    exact ⟨sl', e2⟩
  · obtain ⟨o', e1⟩ := I.base.there b o e hx
    obtain ⟨sl', e2⟩ := any b _ (.inr (.inr (.inr (.inr ⟨o, e, hx⟩)))) e1
    exact ⟨_, e2⟩
  · obtain ⟨m, ⟨o, es, ep, ho, r⟩, hl⟩ := I.loc
    obtain ⟨sl, q⟩ := any _ o (.inl rfl) ho
    refine ⟨m, ⟨_, es, ep, q, r⟩, fun i x v e1 e2 e3 => ?_⟩
    obtain ⟨u, r, l⟩ := hl i x v e1 e2 e3
    refine ⟨u, r, ?_⟩
    rcases l with l | ⟨k, c, e, z⟩
    · exact .inl l
    · exact .inr ⟨k, c, e, cellK x c e _ z⟩
  · obtain ⟨v, z⟩ := I.cell x c e
    exact ⟨v, cellK x c e v z⟩
  · obtain ⟨e, n, ne, nf, d⟩ := I.pin p hp
    exact ⟨got p.1 p.2 (.inr (.inr (.inl ⟨p, hp, rfl⟩))) (nst p.1 ne nf) e, n, ne, nf, d⟩
  · refine I.hok.moved fun b o u e q => got b u (.inr (.inr (.inr (.inl ⟨o, e⟩)))) (fun z => ?_) q
    have := I.stkFree b z
    rw [e] at this
    cases this
theorem Fly.turn {t' : Nat} (F : Fly X pins σ H B ea C a0 s) (fl : Heap.FlyingW B X.stack ea (.ref C) a0 h') (up : s.heap.UpToSlots h') : Fly X pins σ H B ea C a0 { s with heap := h', toks := t' } :=
  ⟨F.inv.flew F.fl.1 fl.1 up F.kn, fl, F.kn⟩
theorem Fly.obj (F : Fly X pins σ H B ea C a0 s) : ∃ o vs, s.heap.get? ea = some o ∧ o.cls = .ref C ∧ o.data = .fields vs := by
  obtain ⟨oe, vs, T, oT, ts, e1, e2, e3, _⟩ := F.fl.2.2.2
  exact ⟨oe, vs, e1, e2.1, e3⟩
theorem Inv.track (I : Inv X pins σ H s) (np : ¬ Prot X pins H a) (new : ObjOk X.prog X.w (upd H a o) s.heap a o) : Inv X pins σ (upd H a o) s := by
  have hn : H a = none := by
    cases q : H a with
    | none => rfl
    | some u => exact absurd (.inr (.inr (.inr (.inl ⟨u, q⟩)))) np
  refine ⟨I.ok, I.os, I.bare, ⟨I.base.keep, I.base.slot, fun b ob e n hx => ?_, I.base.there, fun b xs e => ?_, fun b ob xs e => ?_, fun b ps e => ?_⟩, I.loc, I.cell, ?_, fun x c e => ?_, fun p hp => ?_, fun b ob e => ?_, I.len⟩
  · rw [upd_ne (fun z : b = a => np (.inr (.inr (.inr (.inr ⟨ob, z ▸ e, z ▸ hx⟩)))))]
    exact I.base.free b ob e n hx
  · have q := I.base.tups b xs e
    rw [upd_ne (ne_of_none q hn)]
    exact q
  · have q := I.base.frzs b ob xs e
    rw [upd_ne (ne_of_none q hn)]
    exact q
  · obtain ⟨more, q⟩ := I.base.tbls b ps e
    exact ⟨more, by rw [upd_ne (ne_of_none q hn)]; exact q⟩
  · rw [upd_ne (fun z => np (.inl z.symm))]
    exact I.free
  · rw [upd_ne (fun z : c = a => np (.inr (.inl ⟨x, z ▸ e⟩)))]
    exact I.freeC x c e
  · obtain ⟨q1, q2, q3⟩ := I.pin p hp
    exact ⟨q1, by rw [upd_ne (fun z : p.1 = a => np (.inr (.inr (.inl ⟨p, hp, z⟩))))]; exact q2, q3⟩
  · by_cases hb : b = a
    · subst hb
      rw [upd_same] at e
      cases e
      exact new
    · rw [upd_ne hb] at e
      exact (I.hok b ob e).stay (fun _ _ _ z => z) (fun c z => by rw [upd_ne (ne_of_none z hn)]; exact z) fun c xs z => by rw [upd_ne (ne_of_none z hn)]; exact z
end
section
variable {X : Cx} {pins pins2 : List (Addr × Obj)} {σ : St} {H : Hp} {s : Shared} {T : St → Addr → Hp → Prop} {ea : Addr}
end
def PassesS (CX : CXT) (X : Cx) (E : St → XK) : Prop := ∀ (pins : List (Addr × Obj)) (σ : St) (H : Hp) (s : Shared) (e : Value) (s' : Shared), Inv X pins σ H s → CX X.stack H s (E σ) e s' → X.xe e s'
section
variable {X : Cx} {body suite : List Stmt} {b₀ : Stmt} {n x : Str} {i : Nat} {LC : Addr} {np hpos pos : Pos} {tb : (St → Addr → Hp → Prop) → TS} {th : TS}
end
section
variable {X : Cx} {CX : CXT} {k : Nat} {f : Addr} {fd : FuncData} {ps : List Str} {sp : Sp} {dvs : List V} {ds : List Value} {E : St → XK} {x : Str} {p pos : Pos} {e : Expr} {es : List Expr} {t : TA}
end
end L2

namespace L2
open PySem PySem.Spec PyProof.Rows
structure CalX (P : Program) (w : World) (K : PySem.W.Frag) (mg : Str → Option Value) (base : Heap) (x : Str) (j : Nat) (ps : List Str) (sp : Sp) : Prop where
  ex : ∃ f fd, FnOk P w K mg base (CX1 P w) j f fd ps sp ∧ mg x = some (.ref f) ∧ PySem.W.keepIn K (.ref f) = true ∧ Binds K fd ps []
structure CalKX (P : Program) (w : World) (K : PySem.W.Frag) (mg : Str → Option Value) (base : Heap) (x : Str) (j : Nat) (ps ks : List Str) (sp : Sp) : Prop where
  ex : ∃ f fd, FnOk P w K mg base (CX1 P w) j f fd ps sp ∧ mg x = some (.ref f) ∧ PySem.W.keepIn K (.ref f) = true ∧ KBinds K fd ps ks g11 g11
def sor (a b : Sp) : Sp := fun vs H Q E => a vs H Q E ∨ b vs H Q E
section
variable {P : Program} {w : World} {K : PySem.W.Frag} {mg : Str → Option Value} {base : Heap} {CX : CXT} {k : Nat} {f : Addr} {fd : FuncData} {ps ks : List Str} {sp sp' : Sp}
theorem FnOk.up (F : FnOk P w K mg base CX0 k f fd ps sp) : FnOk P w K mg base CX k f fd ps sp :=
  ⟨F.len, fun A outer s H args us vs Q E hr he hb hv hs => codeAny_mono (F.run A outer s H args us vs Q E hr he hb hv hs) fun r s' hq => by
    match r, hq with
    | .ok (.ret u), hq => exact hq
    | .error e, hq => exact False.elim hq⟩
theorem FnOk.or (F : FnOk P w K mg base CX k f fd ps sp) (G : FnOk P w K mg base CX k f fd ps sp') : FnOk P w K mg base CX k f fd ps (sor sp sp') :=
  ⟨fun vs H Q E h => h.elim (F.len vs H Q E) (G.len vs H Q E), fun A outer s H args us vs Q E hr he hb hv hs => hs.elim (F.run A outer s H args us vs Q E hr he hb hv) (G.run A outer s H args us vs Q E hr he hb hv)⟩
variable {x qual : Str} {st : Stmt}
end
section
variable {X : Cx} {x : Str} {j : Nat} {ps ks : List Str} {sp : Sp} {p pos : Pos} {e : Expr} {es : List Expr} {t tk : TA} {kws : List Keyword} {E : XK} {ES : St → XK}
end
inductive Kn (H : Hp) : V → String → Prop where
  | non : Kn H .non "NoneType"
  | bl (x : Bool) : Kn H (.bl x) "bool"
  | int (i : Int) : Kn H (.int i) "int"
  | str (x : Str) : Kn H (.str x) "str"
  | lst {a : Addr} {xs : List V} (e : H a = some (.lst xs)) : Kn H (.ref a) "list"
  | tup {a : Addr} {xs : List V} (e : H a = some (.tup xs)) : Kn H (.ref a) "tuple"
  | dK {a : Addr} {kvs : List (Key × V)} (e : H a = some (.dK kvs)) : Kn H (.ref a) "dict"
def kinds : List String := ["NoneType", "bool", "int", "str", "list", "tuple", "dict"]
def sub (n m : String) : Bool := n == m || (n == "bool" && m == "int")
theorem kit_tab (K : PySem.W.Frag) {n m : String} (hn : n ∈ kinds) (hm : m ∈ kinds) : PySem.W.kitOne K (.type n) (.type m) = some (sub n m) := by
  have tab : ∀ n ∈ kinds, ∀ m ∈ kinds, (Value.type n == Value.type m) = false → PySem.W.kitMeta m = true ∧ (fastBuiltinMro n).map (·.contains (.type m)) = some (sub n m) := by decide +kernel
  have tab2 : ∀ n ∈ kinds, ∀ m ∈ kinds, (Value.type n == Value.type m) = true → sub n m = true := by decide +kernel
  unfold PySem.W.kitOne
  cases h : (Value.type n == Value.type m) with
  | true => rw [if_pos rfl, tab2 n hn m hm h]
  | false =>
    obtain ⟨h1, h2⟩ := tab n hn m hm h
    rw [if_neg (by decide)]
    show (if PySem.W.kitMeta m = true then (fastBuiltinMro n).map (·.contains (.type m)) else none) = some (sub n m)
    rw [if_pos h1, h2]
section
variable {H H' : Hp} {v : V} {n : String}
theorem Kn.mem (k : Kn H v n) : n ∈ kinds := by cases k <;> decide
theorem Kn.ty (k : Kn H v n) (K : PySem.W.Frag) : TyOf K H v (.type n) := by
  cases k with
  | non => exact .non
  | bl x => exact .bl x
  | int i => exact .int i
  | str x => exact .str x
  | lst e => exact .lst e
  | tup e => exact .tup e
  | dK e => exact .dK e
theorem Kn.same (k : Kn H v n) (s : Same H H') : Kn H' v n := by
  cases k with
  | non => exact .non
  | bl x => exact .bl x
  | int i => exact .int i
  | str x => exact .str x
  | lst e => exact .lst (s _ _ e)
  | tup e => exact .tup (s _ _ e)
  | dK e => exact .dK (s _ _ e)
end
end L2

namespace L2
open PySem PySem.Spec PyProof.Rows
section
variable {X : Cx} {pos : Pos}
end
end L2
namespace L2
open PySem
end L2

namespace L2
open PySem PySem.Spec PyProof.Rows
structure FunD (K : PySem.W.Frag) (x qual : Str) (st : Stmt) (f : Addr) (fd : FuncData) : Prop where
  ex : ∃ (oc : Value) (od : Option Addr) (dV kV doc pm : Value) (an : Option Addr) (cdv ct : Value) (osl : Array (Option Value)),
    fd = PySem.W.fnOf x qual (defArgs st) (defBody st) (defScope st) dV kV doc pm an cdv ct ∧ K.lookup f = some ⟨oc, od, .func fd, osl⟩ ∧ PySem.W.codeIn K cdv qual = true
  kp : PySem.W.keepIn K (.ref f) = true
section
variable {P : Program} {w : World} {K : PySem.W.Frag} {mg : Str → Option Value} {base : Heap} {x qual : Str} {st : Stmt} {f : Addr} {fd : FuncData} {N ps ks : List Str} {k : Nat} {sp sp' : Sp}
theorem FunD.ok (F : FunD K x qual st f fd) (S : FnScope N ps (defScope st)) (len : ∀ vs H Q E, sp vs H Q E → vs.length = ps.length)
    (hbody : ∀ (cdv : Value) (A : Around) (outer : List Env) (s : Shared) (H : Hp) (vs : List V) (Q : VK) (E : XK), Room k (A.deeper (envOfC qual (defScope st) s.heap.objs.size f cdv)) → sp vs H Q E →
      ∃ t, PSs (cxOf CX0 P w K mg base N qual (defScope st) f cdv A outer s H E).nox (defBody st) t ∧ t { nx := fun _ H' => Q .non H', rt := Q } (start N vs) H) : FnOk P w K mg base CX0 (k + 1) f fd ps sp := by
  obtain ⟨oc, od, dV, kV, doc, pm, an, cdv, ct, osl, rfl, lk, hcd⟩ := F.ex
  refine fn_of lk hcd S len fun A outer s H vs Q E hr hsp => ?_
  obtain ⟨t, h, q⟩ := hbody cdv A outer s H vs Q E hr hsp
  exact ⟨t, h.nox, q⟩
theorem FunD.okX (F : FunD K x qual st f fd) (S : FnScope N ps (defScope st)) (len : ∀ vs H Q E, sp vs H Q E → vs.length = ps.length)
    (hbody : ∀ (cdv : Value) (A : Around) (outer : List Env) (s : Shared) (H : Hp) (vs : List V) (Q : VK) (E : XK), Room k (A.deeper (envOfC qual (defScope st) s.heap.objs.size f cdv)) → sp vs H Q E →
      ∃ t, PSs (cxOf (CX1 P w) P w K mg base N qual (defScope st) f cdv A outer s H E) (defBody st) t ∧ t { nx := fun _ H' => Q .non H', rt := Q } (start N vs) H) : FnOk P w K mg base (CX1 P w) (k + 1) f fd ps sp := by
  obtain ⟨oc, od, dV, kV, doc, pm, an, cdv, ct, osl, rfl, lk, hcd⟩ := F.ex
  exact fn_of lk hcd S len fun A outer s H vs Q E hr hsp => hbody cdv A outer s H vs Q E hr hsp
end
end L2

namespace L2
open PySem PySem.Spec PyProof.Rows
section
variable {X : Cx} {CX : CXT} {k : Nat} {f C : Addr} {fd : FuncData} {ps ks : List Str} {sp : Sp} {E : XK} {x : Str} {p pos : Pos} {kws : List Keyword} {tk : TA} {g : List Value → List Value → List Value} {gV : List V → List V → List V}
end
structure CalN (P : Program) (w : World) (K : PySem.W.Frag) (mg : Str → Option Value) (base : Heap) (x : Str) (C : Addr) (j : Nat) (ps ks : List Str) (gV : List V → List V → List V) (sp : Sp) : Prop where
  ex : ∃ (f : Addr) (fd : FuncData) (g : List Value → List Value → List Value), FnOk P w K mg base CX0 j f fd ps sp ∧ Mk K C f ∧ KBinds K fd ps ks g gV ∧ mg x = some (.ref C)
structure CalM (P : Program) (w : World) (K : PySem.W.Frag) (mg : Str → Option Value) (base : Heap) (C : Addr) (m : Str) (j : Nat) (ps : List Str) (sp : Sp) : Prop where
  ex : ∃ (f : Addr) (fd : FuncData), FnOk P w K mg base CX0 j f fd ps sp ∧ Meth K C m f ∧ Cls K C ∧ Binds K fd ps []
section
variable {X : Cx} {C : Addr} {x m : Str} {j : Nat} {ps ks : List Str} {sp : Sp} {p pos apos : Pos} {o e : Expr} {es : List Expr} {ta : TE} {t tk : TA} {kws : List Keyword} {gV : List V → List V → List V}
end
def g12 {α : Type} (us ws : List α) : List α := match us, ws with
  | [s], [a, b] => [s, a, b]
  | _, _ => []
def g11d {α : Type} (d : α) (us ws : List α) : List α := match us, ws with
  | [s], [a] => [s, a, d]
  | _, _ => []
def g10d {α : Type} (d e : α) (us ws : List α) : List α := match us, ws with
  | [s], [] => [s, d, e]
  | _, _ => []
section
variable {K : PySem.W.Frag} {fd : FuncData} {p0 p1 p2 : Str} {d e : V} {dv ev : Value}
theorem KB.two (h : ∀ u a b : Value, bindArgs fd ⟨[u], [(p1, a), (p2, b)]⟩ = pure [(p0, u), (p1, a), (p2, b)]) : KBinds K fd [p0, p1, p2] [p1, p2] g12 g12 where
  to := fun s us ws _ hl => by
    match us, ws, hl with
    | [u], [a, b], _ => exact .of_eq (h u a b)
  rel := fun {vs us zs ws} a b => by
    cases a with
    | nil => exact .nil
    | cons r t => cases t with
      | cons _ _ => exact .nil
      | nil => cases b with
        | nil => exact .nil
        | cons r2 t2 => cases t2 with
          | nil => exact .nil
          | cons r3 t3 => cases t3 with
            | nil => exact .cons r (.cons r2 (.cons r3 .nil))
            | cons _ _ => exact .nil
theorem KB.one (rd : RelV d dv) (h : ∀ (s : Shared) (u a : Value), K.In s.heap → BindsTo s fd ⟨[u], [(p1, a)]⟩ [(p0, u), (p1, a), (p2, dv)]) : KBinds K fd [p0, p1, p2] [p1] (g11d dv) (g11d d) where
  to := fun s us ws X hl => by
    match us, ws, hl with
    | [u], [a], _ => exact h s u a X
  rel := fun {vs us zs ws} a b => by
    cases a with
    | nil => exact .nil
    | cons r t => cases t with
      | cons _ _ => exact .nil
      | nil => cases b with
        | nil => exact .nil
        | cons r2 t2 => cases t2 with
          | nil => exact .cons r (.cons r2 (.cons rd .nil))
          | cons _ _ => exact .nil
theorem KB.zero (rd : RelV d dv) (re : RelV e ev) (h : ∀ (s : Shared) (u : Value), K.In s.heap → BindsTo s fd ⟨[u], []⟩ [(p0, u), (p1, dv), (p2, ev)]) : KBinds K fd [p0, p1, p2] [] (g10d dv ev) (g10d d e) where
  to := fun s us ws X hl => by
    match us, ws, hl with
    | [u], [], _ => exact h s u X
  rel := fun {vs us zs ws} a b => by
    cases a with
    | nil => exact .nil
    | cons r t => cases t with
      | cons _ _ => exact .nil
      | nil => cases b with
        | nil => exact .cons r (.cons rd (.cons re .nil))
        | cons _ _ => exact .nil
end
end L2

namespace L2
open PySem PySem.Spec PyProof.Rows
structure CalNX (P : Program) (w : World) (K : PySem.W.Frag) (mg : Str → Option Value) (base : Heap) (x : Str) (C : Addr) (j : Nat) (ps ks : List Str) (gV : List V → List V → List V) (sp : Sp) : Prop where
  ex : ∃ (f : Addr) (fd : FuncData) (g : List Value → List Value → List Value), FnOk P w K mg base (CX1 P w) j f fd ps sp ∧ Mk K C f ∧ KBinds K fd ps ks g gV ∧ mg x = some (.ref C)
structure CalMX (P : Program) (w : World) (K : PySem.W.Frag) (mg : Str → Option Value) (base : Heap) (C : Addr) (m : Str) (j : Nat) (ps : List Str) (sp : Sp) : Prop where
  ex : ∃ (f : Addr) (fd : FuncData), FnOk P w K mg base (CX1 P w) j f fd ps sp ∧ Meth K C m f ∧ Cls K C ∧ Binds K fd ps []
section
variable {X : Cx} {C : Addr} {x m : Str} {j : Nat} {ps ks : List Str} {sp : Sp} {p pos apos : Pos} {o e : Expr} {es : List Expr} {ta : TE} {t tk : TA} {kws : List Keyword} {gV : List V → List V → List V} {E : XK}
end
end L2

namespace L2
open PySem PySem.Spec PyProof.Rows
structure RA (X : Cx) (es : List Expr) (t : TA) : Prop where
  h : PA X es t
structure RE (X : Cx) (e : Expr) (t : TE) : Prop where
  h : PE X e t
section
variable {X : Cx} {e : Expr} {es : List Expr} {te : TE} {t : TA} {pos : Pos}
end
end L2

namespace L2
open PySem PySem.Spec PyProof.Rows
theorem Inv.turned2 {X : Cx} {pins : List (Addr × Obj)} {σ : St} {H : Hp} {s : Shared} {h' : Heap} {t' : Nat} {e it : Addr} (I : Inv X pins σ H s) (k : ∀ b o, b ≠ e → b ≠ it → s.heap.get? b = some o → h'.get? b = some o) (fe : FpOk X pins H e) (fi : FpOk X pins H it) :
    Inv X pins σ H { s with heap := h', toks := t' } := by
  have ne : ∀ b u, H b = some u → b ≠ e := fun b u q z => by rw [z, fe.1] at q; cases q
  have nit : ∀ b u, H b = some u → b ≠ it := fun b u q z => by rw [z, fi.1] at q; cases q
  have nc : ∀ b, b ∉ [e, it] → b ≠ e ∧ b ≠ it := fun b h => ⟨fun z => h (by simp [z]), fun z => h (by simp [z])⟩
  refine I.step (g' := s.gens) (d' := s.drawn) (ch := [e, it]) (fun b hb => ?_) (fun b o _ _ hc q _ => k b o (nc b hc).1 (nc b hc).2 q) (fun b o _ _ hc q _ => ⟨o.slots, k b o (nc b hc).1 (nc b hc).2 q⟩) (fun _ _ _ _ n => n)
    (fun b o hc q => ⟨o, k b o (nc b hc).1 (nc b hc).2 q⟩) (fun _ _ q => q) (fun _ _ _ q => q) (fun b ps q => ⟨#[], by rw [q]; simp⟩) (fun m hm => ?_) (fun b u q => ?_) I.bare
  · rcases List.mem_cons.mp hb with z | z
    · subst z
      exact ⟨fe.2.2.2.1, fe.2.1, fe.2.2.2.2.1, fe.2.2.2.2.2⟩
    · have z : b = it := by simpa using z
      subst z
      exact ⟨fi.2.2.2.1, fi.2.1, fi.2.2.2.2.1, fi.2.2.2.2.2⟩
  · obtain ⟨o, es, ep, ho, r⟩ := hm
    exact ⟨o, es, ep, k _ o (Ne.symm fe.2.1) (Ne.symm fi.2.1) ho, r⟩
  · refine (I.hok b u q).stay (fun c v hc z => k c v ?_ ?_ z) (fun _ z => z) fun _ _ z => z
    · rcases hc with y | y
      · rw [y]; exact ne b u q
      · exact ne c _ y
    · rcases hc with y | y
      · rw [y]; exact nit b u q
      · exact nit c _ y
theorem FpOk.np {X : Cx} {pins : List (Addr × Obj)} {H : Hp} {b : Addr} (f : FpOk X pins H b) : ¬ Prot X pins H b := by
  rintro (z | ⟨x, z⟩ | ⟨p, hp, z⟩ | ⟨o, z⟩ | ⟨o, z, hx⟩)
  · exact f.2.1 z
  · exact f.2.2.2.2.1 x b z rfl
  · exact f.2.2.2.2.2 p hp z
  · rw [f.1] at z
    cases z
  · rcases f.2.2.2.1 with y | y
    · exact hx y
    · exact Nat.lt_irrefl _ (Nat.lt_of_lt_of_le (Heap.lt_size z) y)
def Ite (K : PySem.W.Frag) (a : Addr) : It :=
  ⟨fun i H => ∃ xs x, SqL K H a xs ∧ xs[i]? = some x, fun i H x H' => ∃ p v, x = .ref p ∧ H p = none ∧ (∀ xs, SqL K H a xs → xs[i]? = some v) ∧ H' = upd H p (.tup [.int (i : Int), v]), fun i H => ∃ xs, SqL K H a xs ∧ xs.length ≤ i⟩
theorem turn_enum {P : Program} {w : World} {K : PySem.W.Frag} {elts : List Expr} {x1 : Nat} {pos : Pos} (a e it : Addr) (hne : e ≠ it) :
    Turn P w K (.Tuple elts x1 pos) (Ite K a) [e, it] e (fun i h => (∃ old, IsEnum h e it i old) ∧ h.IsListIter it a i) where
  mem := by simp
  obj := fun i h st b hb => by
    obtain ⟨⟨old, he⟩, o, ho, _, hd⟩ := st
    rcases List.mem_cons.mp hb with z | z
    · subst z
      exact ⟨_, he, fun v z => by
        have z' : Data.fields _ = Data.cell v := z
        cases z'⟩
    · have z : b = it := by simpa using z
      subst z
      exact ⟨o, ho, fun v z => by rw [hd] at z; cases z⟩
  keep := fun i h h' st k => by
    obtain ⟨⟨old, he⟩, hi⟩ := st
    exact ⟨⟨old, k e (by simp) _ he⟩, hi.at fun o q => k it (by simp) o q⟩
  item := by
    intro X hP hw hK hc i pins s σ H E I hf st hg
    subst hP hw hK
    obtain ⟨⟨old, he⟩, hi⟩ := st
    obtain ⟨xs, x, hq, hx⟩ := hg
    obtain ⟨its, rv, p, hz⟩ := I.list hq
    obtain ⟨u, hu, ru⟩ := rv.get hx
    have fe := hf e (by simp)
    have fi := hf it (by simp)
    refine wpAny_pyNext_enum_item he hi p.isList (x := u) (by simpa using hu) hne fun h' out it' tup sz keep => ?_
    refine ⟨_, rfl, wpAny_letOwnedTupleGo_enum (s := { s with heap := h', toks := s.toks + 1 }) out fun h2 he2 sb => ?_⟩
    have hp1 : s.heap.objs.size ≠ e := fun z => by
      have := Heap.lt_size (show s.heap.get? e = some _ from he)
      rw [← z] at this
      exact Nat.lt_irrefl _ this
    have hp2 : s.heap.objs.size ≠ it := fun z => by
      obtain ⟨o, ho, _⟩ := hi
      have := Heap.lt_size ho
      rw [← z] at this
      exact Nat.lt_irrefl _ this
    have keep2 : ∀ b o, b ≠ e → b ≠ it → s.heap.get? b = some o → h2.get? b = some o := fun b o h1 h3 q => (sb.2 b h1).trans (keep b o h1 h3 q)
    have I1 : Inv X pins σ H { s with heap := h2, toks := s.toks + 1 } := I.turned2 keep2 fe fi
    have fresh : H s.heap.objs.size = none := I.hok.fresh (Nat.le_refl _)
    have fp := I.fpOk (Nat.le_refl _) fresh
    have tup2 : h2.get? s.heap.objs.size = some { cls := .type "tuple", data := .seq #[.int i s.toks, u] } := (sb.2 _ hp1).trans tup
    refine ⟨.ref s.heap.objs.size, upd H s.heap.objs.size (.tup [.int (i : Int), x]), I1.track fp.np ⟨by show 2 ≤ sizeLine; decide, [.int i s.toks, u], .cons ⟨_, rfl⟩ (.cons ru .nil), ⟨_, tup2, rfl, _, rfl⟩⟩, rfl, ⟨_, x, rfl, fresh, fun ys hy => by rw [I.list_inj hy hq]; exact hx, rfl⟩, ⟨⟨_, he2⟩, ?_⟩, fun b hb => ?_⟩
    · exact it'.at fun o q => (sb.2 it (Ne.symm hne)).trans q
    · rcases List.mem_cons.mp hb with z | z
      · subst z
        rw [upd_ne (Ne.symm hp1)]
        exact fe.1
      · have z : b = it := by simpa using z
        subst z
        rw [upd_ne (Ne.symm hp2)]
        exact fi.1
  done := by
    intro X hP hw hK hc i pins s σ H E I hf st hg
    subst hP hw hK
    obtain ⟨⟨old, he⟩, hi⟩ := st
    obtain ⟨xs, hq, hx⟩ := hg
    obtain ⟨its, rv, p, hz⟩ := I.list hq
    obtain ⟨f0, f1, f2, f3, f4, f5⟩ := hf it (by simp)
    have hl := rv.length
    exact wpAny_pyNext_enum_end (I.ok.hd hc) he hi p.isList (by simp; omega) fun h' eb => ⟨rfl, I.turned (t' := s.toks) (fun b o hb q => eb b o hb q) f0 f1 f3 f4 f5⟩
  self := fun _ _ _ _ _ st h => by
    obtain ⟨⟨old, he⟩, _⟩ := st
    exact wpAny_pyIter_enum he h
section
variable {X : Cx} {elts : List Expr} {x1 : Nat} {tpos : Pos}
theorem bt_enumerate : bootBuiltins "enumerate" = some (.type "enumerate") := by decide +kernel
def iEnum (K : PySem.W.Frag) (ta : TA) : TI := fun σ H R => ta σ H fun vs H1 => ∃ a, vs = [.ref a] ∧ (∃ xs, SqL K H1 a xs) ∧ R (Ite K a) H1
theorem pi_enum {l : Expr} {ta : TA} {p pos : Pos} (hg : Gl X "enumerate") (hm : X.mg "enumerate" = none) (ha : PA X [l] ta) (hs : starEach [l] X.env = [(false, eval l X.env)] := by rfl) : PI X (.Tuple elts x1 tpos) (.Call (.Name "enumerate" p) [l] [] pos) (iEnum X.K ta) := by
  intro pins s σ H R I h
  refine Call_ (ld_blt I hg hm bt_enumerate (PyProof.Rows.callWith_type1 (thn (ha pos pins s σ H _ I h) fun us s1 hQQ => ?_) hs rfl))
  obtain ⟨vs, H1, I1, r1, q1⟩ := hQQ
  obtain ⟨a, e, ⟨xs, hq⟩, q⟩ := q1
  subst e
  cases r1 with
  | cons r rr =>
    cases rr
    cases r
    obtain ⟨its, rv, p, hz⟩ := I1.list hq
    refine call_enumerate_list p.isList fun h' he hi sz keep => ?_
    refine wpAny_pyIter_enum he ?_
    have ne : s1.heap.objs.size + 1 ≠ s1.heap.objs.size := Nat.succ_ne_self _
    refine ⟨s1.heap.objs.size + 1, [s1.heap.objs.size + 1, s1.heap.objs.size], _, _, H1, rfl, I1.kept (t' := s1.toks) keep, turn_enum a _ _ ne, ⟨⟨_, he⟩, hi⟩, fun b hb => ?_, q⟩
    rcases List.mem_cons.mp hb with z | z
    · subst z
      exact I1.fpOk (Nat.le_succ _) (I1.hok.fresh (Nat.le_succ _))
    · have z : b = s1.heap.objs.size := by simpa using z
      subst z
      exact I1.fpOk (Nat.le_refl _) (I1.hok.fresh (Nat.le_refl _))
end
end L2
namespace L2
open PySem PySem.Spec PyProof.Rows
def tTru (K : PySem.W.Frag) (t : TE) : TT := fun σ H Q => t σ H fun x H1 => ∃ k, TruV K x H1 k ∧ Q k H1
theorem pt_tru {X : Cx} {e : Expr} {t : TE} (h : PE X e t) (he : ∀ whole, isTrue e X.env whole = (do let v ← whole; standAt e.pos; holding [v] (truthy v)) := by intro _; rfl) : PT X e (tTru X.K t) := by
  intro pins s σ H Q I hw
  refine isTrue_plain (thn (h pins s σ H _ I hw) fun v s1 hQQ => ?_) (he _)
  obtain ⟨x, H1, I1, r1, q1⟩ := hQQ
  exact tru_ok pins s1 σ H1 x v _ I1 r1 q1
end L2

namespace L2
open PySem PySem.Spec PyProof.Rows

section
variable {κ : Type} [DecidableEq κ]
def valV (kvs : List (κ × V)) (k : κ) : Option V := (kvs.find? fun kv => decide (kv.1 = k)).map (·.2)
def putK (kvs : List (κ × V)) (k : κ) (v : V) : List (κ × V) :=
  if (kvs.any fun kv => decide (kv.1 = k)) = true then kvs.map (fun kv => if kv.1 = k then (kv.1, v) else kv) else kvs ++ [(k, v)]
def dropK (kvs : List (κ × V)) (k : κ) : List (κ × V) := kvs.filter fun kv => decide (kv.1 ≠ k)

theorem valV_pos {p : κ × V} {r : List (κ × V)} {k : κ} (e : p.1 = k) : valV (p :: r) k = some p.2 := by simp [valV, List.find?_cons, e]
theorem valV_neg {p : κ × V} {r : List (κ × V)} {k : κ} (e : ¬ p.1 = k) : valV (p :: r) k = valV r k := by simp [valV, List.find?_cons, e]
theorem valV_any (k : κ) : ∀ kvs : List (κ × V), (kvs.any fun kv => decide (kv.1 = k)) = (valV kvs k).isSome
  | [] => rfl
  | p :: r => by
    rw [List.any_cons]
    by_cases e : p.1 = k
    · simp only [valV_pos e, decide_eq_true e, Bool.true_or, Option.isSome_some]
    · rw [valV_neg e, decide_eq_false e, Bool.false_or]; exact valV_any k r
theorem length_putK (kvs : List (κ × V)) (k : κ) (v : V) : (putK kvs k v).length ≤ kvs.length + 1 := by
  unfold putK
  split
  · rw [List.length_map]; omega
  · rw [List.length_append, List.length_cons, List.length_nil]; omega
theorem RelO.isSome_eq {o : Option V} {u : Option Value} (r : RelO o u) : o.isSome = u.isSome := by
  cases o with
  | none => cases u with
    | none => rfl
    | some _ => exact (show False from r).elim
  | some _ => cases u with
    | none => exact (show False from r).elim
    | some _ => rfl
theorem RelO.getD {o : Option V} {u : Option Value} {d : V} {d' : Value} (r : RelO o u) (rd : RelV d d') : RelV (o.getD d) (u.getD d') := by
  cases o with
  | none => cases u with
    | none => exact rd
    | some _ => exact (show False from r).elim
  | some _ => cases u with
    | none => exact (show False from r).elim
    | some _ => exact r

theorem KV.val {kvs : List (κ × V)} {vs : List (κ × Value)} (r : KV kvs vs) (k : κ) : RelO (valV kvs k) (valueAt vs k) := by
  unfold KV at r
  induction r with
  | nil => exact True.intro
  | @cons p q ps qs h t ih =>
    obtain ⟨h1, h2⟩ := h
    by_cases e : p.1 = k
    · have e' : q.1 = k := h1.symm.trans e
      have b : valueAt (q :: qs) k = some q.2 := by simp [valueAt, List.find?_cons, e']
      rw [valV_pos e, b]; exact h2
    · have e' : ¬ q.1 = k := fun z => e (h1.trans z)
      have b : valueAt (q :: qs) k = valueAt qs k := by simp [valueAt, List.find?_cons, e']
      rw [valV_neg e, b]; exact ih
theorem KV.any {kvs : List (κ × V)} {vs : List (κ × Value)} (r : KV kvs vs) (k : κ) : (kvs.any fun kv => decide (kv.1 = k)) = vs.any fun kv => decide (kv.1 = k) := by
  unfold KV at r
  induction r with
  | nil => rfl
  | cons h t ih => rw [List.any_cons, List.any_cons, ih, h.1]
theorem KV.repl {kvs : List (κ × V)} {vs : List (κ × Value)} (r : KV kvs vs) (k : κ) {y : V} {u : Value} (ry : RelV y u) :
    KV (kvs.map fun kv => if kv.1 = k then (kv.1, y) else kv) (vs.map fun kv => if kv.1 = k then (kv.1, u) else kv) := by
  unfold KV at r ⊢
  induction r with
  | nil => exact .nil
  | @cons p q ps qs h t ih =>
    rw [List.map_cons, List.map_cons]
    refine .cons ?_ ih
    obtain ⟨h1, h2⟩ := h
    by_cases e : p.1 = k
    · rw [if_pos e, if_pos (h1.symm.trans e)]; exact ⟨h1, ry⟩
    · rw [if_neg e, if_neg (fun z => e (h1.trans z))]; exact ⟨h1, h2⟩
theorem KV.put {kvs : List (κ × V)} {vs : List (κ × Value)} (r : KV kvs vs) (k : κ) {y : V} {u : Value} (ry : RelV y u) : KV (putK kvs k y) (stored vs k u) := by
  unfold putK stored
  rw [r.any k]
  by_cases e : (vs.any fun kv => decide (kv.1 = k)) = true
  · rw [if_pos e, if_pos e]; exact r.repl k ry
  · rw [if_neg e, if_neg e]; exact Paired.snoc r ⟨rfl, ry⟩
theorem KV.drop {kvs : List (κ × V)} {vs : List (κ × Value)} (r : KV kvs vs) (k : κ) : KV (dropK kvs k) (without vs k) := by
  unfold KV at r ⊢
  unfold dropK without
  induction r with
  | nil => exact .nil
  | @cons p q ps qs h t ih =>
    obtain ⟨h1, h2⟩ := h
    rw [List.filter_cons, List.filter_cons]
    by_cases e : p.1 = k
    · have a : ¬ decide (p.1 ≠ k) = true := by simp [e]
      have b : ¬ decide (q.1 ≠ k) = true := by simp [h1.symm.trans e]
      rw [if_neg a, if_neg b]; exact ih
    · have e' : ¬ q.1 = k := fun z => e (h1.trans z)
      have a : decide (p.1 ≠ k) = true := by simp [e]
      have b : decide (q.1 ≠ k) = true := by simp [e']
      rw [if_pos a, if_pos b]; exact .cons ⟨h1, h2⟩ ih
theorem KV.keys {kvs : List (κ × V)} {vs : List (κ × Value)} (r : KV kvs vs) : kvs.map (·.1) = vs.map (·.1) := by
  unfold KV at r
  induction r with
  | nil => rfl
  | cons h t ih => rw [List.map_cons, List.map_cons, ih, h.1]
theorem KV.length {kvs : List (κ × V)} {vs : List (κ × Value)} (r : KV kvs vs) : kvs.length = vs.length := Paired.length r
end


theorem kV_is {P : Program} {w : World} {k : Key} {u : Value} (r : RelV (kV k) u) : (mixKind P w).is k u = true := by
  cases k with
  | inl i => obtain ⟨t, e⟩ := (show ∃ t, u = Value.int i t from r); subst e; exact mixKind_int P w i t
  | inr x => obtain ⟨t, e⟩ := (show ∃ t, u = Value.str x t from r); subst e; exact mixKind_str P w x t
theorem items_are {P : Program} {w : World} : ∀ {ks : List Key} {us : List Value}, Vals (ks.map kV) us → ItemsAre (mixKind P w) ks us
  | [], _, r => by rw [List.map_nil] at r; cases r; exact .nil
  | k :: ks, _, r => by
    rw [List.map_cons] at r
    cases r with
    | cons h t => exact .cons (kV_is h) (items_are t)

abbrev KT (H : Hp) : List (List Key × V) → List (List Key × Addr × Value) → Prop := Paired fun p q => p.1 = q.1 ∧ H q.2.1 = some (.tup (p.1.map kV)) ∧ RelV p.2 q.2.2
theorem KT.val {H : Hp} {kvs : List (List Key × V)} {xs : List (List Key × Addr × Value)} (r : KT H kvs xs) (k : List Key) : RelO (valV kvs k) ((atKey xs k).map (·.2)) := by
  induction r with
  | nil => exact True.intro
  | @cons p q ps qs h t ih =>
    obtain ⟨h1, _, h2⟩ := h
    by_cases e : p.1 = k
    · have e' : q.1 = k := h1.symm.trans e
      have b : atKey (q :: qs) k = some q.2 := by simp [atKey, List.find?_cons, e']
      rw [valV_pos e, b]; exact h2
    · have e' : ¬ q.1 = k := fun z => e (h1.trans z)
      have b : atKey (q :: qs) k = atKey qs k := by simp [atKey, List.find?_cons, e']
      rw [valV_neg e, b]; exact ih
theorem KT.repl {H : Hp} {kvs : List (List Key × V)} {xs : List (List Key × Addr × Value)} (r : KT H kvs xs) (k : List Key) {y : V} {u : Value} (ry : RelV y u) :
    KT H (kvs.map fun kv => if kv.1 = k then (kv.1, y) else kv) (xs.map (putAt k u)) := by
  induction r with
  | nil => exact .nil
  | @cons p q ps qs h t ih =>
    rw [List.map_cons, List.map_cons]
    refine .cons ?_ ih
    obtain ⟨h1, h2, h3⟩ := h
    unfold putAt
    by_cases e : p.1 = k
    · rw [if_pos e, if_pos (h1.symm.trans e)]; exact ⟨h1, h2, ry⟩
    · rw [if_neg e, if_neg (fun z => e (h1.trans z))]; exact ⟨h1, h2, h3⟩
theorem KT.put {H : Hp} {kvs : List (List Key × V)} {xs : List (List Key × Addr × Value)} (r : KT H kvs xs) (k : List Key) {b : Addr} {y : V} {u : Value} (hb : H b = some (.tup (k.map kV))) (ry : RelV y u) :
    KT H (putK kvs k y) (storedH xs k b u) := by
  have e : (kvs.any fun kv => decide (kv.1 = k)) = (atKey xs k).isSome := by
    rw [valV_any, (r.val k).isSome_eq, Option.isSome_map]
  unfold putK storedH
  rw [e]
  by_cases q : (atKey xs k).isSome = true
  · rw [if_pos q, if_pos q]; exact r.repl k ry
  · rw [if_neg q, if_neg q]; exact Paired.snoc r ⟨rfl, hb, ry⟩
theorem KT.keeps {H H' : Hp} {kvs : List (List Key × V)} {xs : List (List Key × Addr × Value)} (r : KT H kvs xs) (ht : ∀ b ys, H b = some (.tup ys) → H' b = some (.tup ys)) : KT H' kvs xs :=
  Paired.mapP r fun _ _ z => ⟨z.1, ht _ _ z.2.1, z.2.2⟩

section
variable {P : Program} {w : World} {H : Hp} {h : Heap} {a : Addr}
theorem rd_of {u : HO} (ok : HOk P w H h) (e : Rd H a u) : ObjOk P w H h a u := e.ok ok
theorem dk_rd {kvs : List (Key × V)} (ok : HOk P w H h) (e : Rd H a (.dK kvs)) : kvs.length ≤ sizeLine ∧ (a == sysModules) = false ∧ ∃ vs, KV kvs vs ∧ h.DictOf (mixKind P w) a vs :=
  show ObjOk P w H h a (.dK kvs) from rd_of ok e
theorem dk_of {kvs : List (Key × V)} (ok : HOk P w H h) (e : H a = some (.dK kvs)) : kvs.length ≤ sizeLine ∧ (a == sysModules) = false ∧ ∃ vs, KV kvs vs ∧ h.DictOf (mixKind P w) a vs := dk_rd ok (.inl e)
theorem key_of {ks : List Key} (ok : HOk P w H h) (e : H a = some (.tup (ks.map kV))) : (tupleKind (mixKind P w)).is h ks a := by
  obtain ⟨_, its, r, o, h1, h2, n, h3⟩ := (show ObjOk P w H h a (.tup (ks.map kV)) from ok a _ e)
  exact ⟨o, its.toArray, n, h1, h2, h3, by simpa using items_are r⟩
theorem dt_rd {kvs : List (List Key × V)} (ok : HOk P w H h) (e : Rd H a (.dT kvs)) : kvs.length ≤ sizeLine ∧ (a == sysModules) = false ∧
    ∃ xs, KT H kvs xs ∧ h.DictOfH (tupleKind (mixKind P w)) a xs := by
  obtain ⟨z, y, xs, r, o, es, ep, h1, h2, h3, h4, h5⟩ := (show ObjOk P w H h a (.dT kvs) from rd_of ok e)
  refine ⟨z, y, xs, r, o, es, ep, h1, h2, h3, h4, fun x hx => ?_, h5⟩
  have all : ∀ {l : List (List Key × V)} {m : List (List Key × Addr × Value)}, KT H l m → ∀ x ∈ m, (tupleKind (mixKind P w)).is h x.1 x.2.1 := by
    intro l m q
    induction q with
    | nil => intro x hx; exact nomatch hx
    | @cons p q ps qs hq t ih =>
      intro x hx
      rcases List.mem_cons.mp hx with e | hx
      · subst e
        exact key_of ok (by rw [← hq.1]; exact hq.2.1)
      · exact ih x hx
  exact all r x hx
theorem dt_of {kvs : List (List Key × V)} (ok : HOk P w H h) (e : H a = some (.dT kvs)) : kvs.length ≤ sizeLine ∧ (a == sysModules) = false ∧
    ∃ xs, KT H kvs xs ∧ h.DictOfH (tupleKind (mixKind P w)) a xs := dt_rd ok (.inl e)
end

def DGet (H : Hp) (a : Addr) (y : V) (r : Option V) : Prop :=
  (∃ kvs k, Rd H a (.dK kvs) ∧ y = kV k ∧ r = valV kvs k) ∨ ∃ kvs k b, Rd H a (.dT kvs) ∧ y = .ref b ∧ H b = some (.tup (k.map kV)) ∧ r = valV kvs k
def DPut (H : Hp) (a : Addr) (y v : V) (H' : Hp) : Prop :=
  (∃ kvs k, H a = some (.dK kvs) ∧ y = kV k ∧ kvs.length < sizeLine ∧ H' = upd H a (.dK (putK kvs k v))) ∨
  ∃ kvs k b, H a = some (.dT kvs) ∧ y = .ref b ∧ H b = some (.tup (k.map kV)) ∧ kvs.length < sizeLine ∧ H' = upd H a (.dT (putK kvs k v))
theorem DGet.k {H : Hp} {a : Addr} {kvs : List (Key × V)} {k : Key} (e : H a = some (.dK kvs)) : DGet H a (kV k) (valV kvs k) := .inl ⟨kvs, k, .inl e, rfl, rfl⟩
theorem DGet.t {H : Hp} {a b : Addr} {kvs : List (List Key × V)} {k : List Key} (e : H a = some (.dT kvs)) (eb : H b = some (.tup (k.map kV))) : DGet H a (.ref b) (valV kvs k) := .inr ⟨kvs, k, b, .inl e, rfl, eb, rfl⟩
theorem DPut.k {H : Hp} {a : Addr} {kvs : List (Key × V)} {k : Key} {v : V} (e : H a = some (.dK kvs)) (hl : kvs.length < sizeLine) : DPut H a (kV k) v (upd H a (.dK (putK kvs k v))) := .inl ⟨kvs, k, e, rfl, hl, rfl⟩
theorem DPut.t {H : Hp} {a b : Addr} {kvs : List (List Key × V)} {k : List Key} {v : V} (e : H a = some (.dT kvs)) (eb : H b = some (.tup (k.map kV))) (hl : kvs.length < sizeLine) :
    DPut H a (.ref b) v (upd H a (.dT (putK kvs k v))) := .inr ⟨kvs, k, b, e, rfl, eb, hl, rfl⟩


section
variable {X : Cx} {pins : List (Addr × Obj)} {σ : St} {H : Hp} {s : Shared} {a : Addr} {y v : V} {u r : Value} {o : Option V} {A : Around} {E : Value → Shared → Prop}

theorem Inv.big (I : Inv X pins σ H s) : sysModules < s.heap.objs.size := by
  have h : mainGlobals < s.heap.objs.size := (I.mod.glob.keeps I.bk).lt
  exact Nat.lt_trans (by decide) h

theorem d_write {h' : Heap} {t' : Nat} {ob : HO} (I : Inv X pins σ H s) (mu : Mut (H a)) (hs : Heap.SameBut a s.heap h') (he : ∃ q, h'.get? a = some q) (new : ObjOk X.prog X.w (upd H a ob) h' a ob) :
    Inv X pins σ (upd H a ob) { s with heap := h', toks := t' } :=
  I.write (x := a) (e := a) mu (.inl rfl) (fun b q hb z => (hs.2 b hb).trans z) he new
theorem dk_new {P : Program} {w : World} {H' : Hp} {h' : Heap} {kvs : List (Key × V)} {vs : List (Key × Value)} (z : kvs.length ≤ sizeLine) (hd : (a == sysModules) = false) (rel : KV kvs vs) (dd : h'.DictOf (mixKind P w) a vs) :
    ObjOk P w H' h' a (.dK kvs) := ⟨z, hd, vs, rel, dd⟩
theorem d_setItem {H' : Hp} {Q : Unit → Shared → Prop} (hu : A.units + 1 < cLine) (I : Inv X pins σ H s) (g : DPut H a y v H') (ry : RelV y u) (rv : RelV v r) (h : ∀ s', Inv X pins σ H' s' → Q () s') :
    wpAny (model X.prog X.w) A (setItem (.ref a) u r) Q E s := by
  rcases g with ⟨kvs, k, e, ey, l, eH⟩ | ⟨kvs, k, b, e, ey, eb, l, eH⟩
  · subst ey eH
    obtain ⟨z, hd, vs, rel, dd⟩ := dk_of I.hok e
    have hz : vs.length ≤ sizeLine := by rw [← rel.length]; exact z
    have hl : (putK kvs k v).length ≤ sizeLine := by have := length_putK kvs k v; omega
    refine wpAny_setItem_pairs (hsz := hz) (kV_is ry) dd fun h' dd' hs => h _ ?_
    have he : ∃ q, h'.get? a = some q := let ⟨q, _, _, hq, _⟩ := dd'; ⟨q, hq⟩
    exact d_write I (by rw [e]; exact True.intro) hs he (dk_new hl hd (rel.put k rv) dd')
  · subst ey eH
    cases (show u = Value.ref b from ry)
    obtain ⟨z, hd, xs, rel, dd⟩ := dt_of I.hok e
    have hz : xs.length ≤ sizeLine := by rw [← Paired.length rel]; exact z
    have hl : (putK kvs k v).length ≤ sizeLine := by have := length_putK kvs k v; omega
    refine wpAny_setItem_heap (hsz := hz) (tupleKind_room_in1 hu) (key_of I.hok eb) dd fun h' dd' hs => h _ ?_
    obtain ⟨q, es, ep, hq, h2, h3, h4, _, h5⟩ := dd'
    refine d_write I (by rw [e]; exact True.intro) hs ⟨q, hq⟩ ⟨hl, hd, _, (rel.put k eb rv).keeps fun c ys ec => ?_, q, es, ep, hq, h2, h3, h4, h5⟩
    rw [upd_ne (ne_of ec e (fun z => nomatch z))]
    exact ec
end

section
variable {X : Cx} {pins : List (Addr × Obj)} {σ : St} {H : Hp} {s : Shared} {a : Addr} {kvs : List (Key × V)} {k : Key} {u : Value} {A : Around} {E : Value → Shared → Prop}
end


def sDPut (td ty tv : TE) : TS := fun D σ H => tv σ H fun v H1 => td σ H1 fun x H2 => ty σ H2 fun y H3 => ∃ a H4, x = .ref a ∧ DPut H3 a y v H4 ∧ D.nx σ H4
section
variable {X : Cx} {o i e value : Expr} {pos pos' tpos : Pos} {td ty tv : TE}
theorem ps_dput (hu : X.A.units + 1 < cLine) (ho : PE X o td) (hi : PE X i ty) (hv : PE X value tv) (hs : swapsWith value (some (.Subscript o i pos')) pos.line X.env = pure false) :
    PS X (.Assign [.Subscript o i pos'] value pos) (sDPut td ty tv) := by
  intro pins s σ H D I h
  refine wpAny_Assign_Subscript (thn (hv pins s σ H _ I h) fun r s1 ⟨v, H1, I1, rv, q1⟩ => thn (ho pins s1 σ H1 _ I1 q1) fun u s2 ⟨x, H2, I2, rx, q2⟩ => thn (hi pins s2 σ H2 _ I2 q2) fun iv s3 hQQ => ?_) hs
  obtain ⟨y, H3, I3, ry, a, H4, ex, g, q3⟩ := hQQ
  subst ex
  obtain rfl : u = Value.ref a := rx
  exact d_setItem hu I3 g ry rv fun s4 I4 => ⟨σ, H4, I4, q3⟩
end


theorem dk_empty {P : Program} {w : World} {H : Hp} (h : Heap) (hb : sysModules < h.objs.size) : ObjOk P w H (h.push { cls := .type "dict", data := .dict #[] }) h.objs.size (.dK []) :=
  ⟨Nat.zero_le _, beq_eq_false_iff_ne.mpr (Ne.symm (Nat.ne_of_lt hb)), [], .nil, Heap.DictOf.new h⟩
def tDNewK : TE := fun _ H Q => ∀ p, H p = none → Q (.ref p) (upd H p (.dK []))
section
variable {X : Cx} {pos : Pos}
theorem pe_dnewK : PE X (.Dict [] [] pos) tDNewK := fun pins s σ H Q I h =>
  wpAny_Dict_empty ⟨.ref s.heap.objs.size, _, I.laid (a := s.heap.objs.size) (o := .dK []) (t' := s.toks) (fun _ _ q => Heap.get?_push_of_some _ q) (Nat.le_refl _) (dk_empty s.heap I.big), rfl, h _ (I.hok.fresh (Nat.le_refl _))⟩
end

structure M1 (X : Cx) (o : Expr) (m : Str) (apos : Pos) (e : Expr) (cpos : Pos) : Prop where
  base : attributeBase o m X.env (eval o X.env) = eval o X.env
  few : ((backTo cpos (starEach [e] X.env)).all (fun x => !x.1) && (backToKw cpos (keywordEach [] X.env)).all (fun x => x.1.isSome)
    && decide (([e] : List Expr).length + ([] : List Keyword).length + (if ([] : List Keyword).isEmpty then 0 else 1) < 30)) = true
  line : (apos.endLine == cpos.line) = true
  trees : backTo cpos (starEach [e] X.env) = [(false, eval e X.env)]
structure M2 (X : Cx) (o : Expr) (m : Str) (apos : Pos) (e f : Expr) (cpos : Pos) : Prop where
  base : attributeBase o m X.env (eval o X.env) = eval o X.env
  few : ((backTo cpos (starEach [e, f] X.env)).all (fun x => !x.1) && (backToKw cpos (keywordEach [] X.env)).all (fun x => x.1.isSome)
    && decide (([e, f] : List Expr).length + ([] : List Keyword).length + (if ([] : List Keyword).isEmpty then 0 else 1) < 30)) = true
  line : (apos.endLine == cpos.line) = true
  trees : backTo cpos (starEach [e, f] X.env) = [(false, eval e X.env), (false, eval f X.env)]

def IsD (H : Hp) (a : Addr) : Prop := (∃ kvs, Rd H a (.dK kvs)) ∨ ∃ kvs, Rd H a (.dT kvs)
theorem isD_at {X : Cx} {pins : List (Addr × Obj)} {σ : St} {H : Hp} {s : Shared} {a : Addr} (I : Inv X pins σ H s) (d : IsD H a) :
    s.TypeIs (.ref a) "dict" ∧ (∀ b, Value.ref a = .ref b → ∃ ob, s.heap.get? b = some ob ∧ ob.dict = none) ∧ (a == sysModules) = false := by
  rcases d with ⟨kvs, e⟩ | ⟨kvs, e⟩
  · obtain ⟨_, hd, vs, _, dd⟩ := dk_rd I.hok e
    refine ⟨dd.typeIs, fun b q => ?_, hd⟩
    cases q
    obtain ⟨ob, _, _, h1, h2, _⟩ := dd
    exact ⟨ob, h1, h2.2.1⟩
  · obtain ⟨_, hd, xs, _, dd⟩ := dt_rd I.hok e
    refine ⟨dd.typeIs, fun b q => ?_, hd⟩
    cases q
    obtain ⟨ob, _, _, h1, h2, _⟩ := dd
    exact ⟨ob, h1, h2.2.1⟩

section
variable {X : Cx} {pins : List (Addr × Obj)} {σ : St} {H : Hp} {s : Shared} {a : Addr} {y d : V} {u r : Value} {o : Option V} {A : Around} {E : Value → Shared → Prop}
end

section
variable {X : Cx} {o e f : Expr} {apos cpos : Pos} {td ty tx : TE}
end

section
variable {X : Cx} {pins : List (Addr × Obj)} {σ : St} {H : Hp} {s : Shared} {a : Addr} {kvs : List (Key × V)} {A : Around} {E : Value → Shared → Prop}
end


section
variable {X : Cx} {pins : List (Addr × Obj)} {σ : St} {H : Hp} {s : Shared} {a : Addr} {y : V} {u : Value} {A : Around} {E : Value → Shared → Prop}
end
end L2


namespace L2
open PySem PySem.Spec PyProof.Rows
section
variable {X : Cx} {elts : List Expr} {x1 : Nat} {tpos : Pos}
end
end L2

namespace L2
open PySem PySem.Spec PyProof.Rows
section
variable {prog : Program} {w : World} {A : Around} {E : Value → Shared → Prop} {s : Shared}
end
section
variable {X : Cx} {elts : List Expr} {x1 : Nat} {tpos : Pos}
end
end L2

namespace HT
open PySem PySem.Spec PyProof.Rows
section
variable {prog : Program} {w : World} {A : Around} {E : Value → Shared → Prop} {s : Shared}
end
end HT
namespace L2
open PySem PySem.Spec PyProof.Rows
section
variable {X : Cx}
end
end L2

namespace L2
open PySem PySem.Spec PyProof.Rows
section
variable {prog : Program} {w : World} {A : Around} {E : Value → Shared → Prop} {s : Shared}
end
end L2

namespace L2
open PySem PySem.Spec PyProof.Rows
theorem Paired.at {α β : Type} {F : α → β → Prop} {l₁ : List α} {l₂ : List β} (h : Paired F l₁ l₂) : ∀ {i : Nat} {x : α}, l₁[i]? = some x → ∃ y, l₂[i]? = some y ∧ F x y := by
  induction h with
  | nil => intro i x e; simp at e
  | cons r t ih =>
    intro i x e
    cases i with
    | zero => cases e; exact ⟨_, rfl, r⟩
    | succ i => exact ih (i := i) e
section
variable {X : Cx} {elts : List Expr} {x1 : Nat} {tpos : Pos}
end
end L2

namespace L2
open PySem PySem.Spec PyProof.Rows
abbrev NK := Int × List Key
section
variable {prog : Program} {w : World}
def IsNest (prog : Program) (w : World) (h : Heap) (k : NK) (a : Addr) : Prop :=
  ∃ o items n t c, h.get? a = some o ∧ o.cls = .type "tuple" ∧ o.data = .seq items n ∧ items.toList = [.int k.1 t, .ref c] ∧ (tupleKind (mixKind prog w)).is h k.2 c
theorem IsNest.typeIs {s : Shared} {k : NK} {a : Addr} (x : IsNest prog w s.heap k a) : s.TypeIs (.ref a) "tuple" := by
  obtain ⟨o, _, _, _, _, ho, hc, _⟩ := x
  exact ⟨o, ho, hc⟩
theorem IsNest.inj {h : Heap} {a : Addr} {x y : NK} (hx : IsNest prog w h x a) (hy : IsNest prog w h y a) : x = y := by
  obtain ⟨o, its, n, t, c, ho, _, hd, hi, hk⟩ := hx
  obtain ⟨o', its', n', t', c', ho', _, hd', hi', hk'⟩ := hy
  rw [ho] at ho'
  cases ho'
  rw [hd] at hd'
  injection hd' with h1 _
  subst h1
  rw [hi] at hi'
  injection hi' with h1 h2
  injection h1 with h1 _
  injection h2 with h2 _
  injection h2 with h2
  subst h2
  exact Prod.ext h1 ((tupleKind (mixKind prog w)).inj hk hk')
theorem IsNest.keeps {h h' : Heap} {k : NK} {a d : Addr} {o : Obj} {es ep} (x : IsNest prog w h k a) (ho : h.get? d = some o) (hd : o.data = .dict es ep) (hs : Heap.SameBut d h h') : IsNest prog w h' k a := by
  obtain ⟨o', its, n, t, c, ho', hc, hd', hi, hk⟩ := x
  have hne : a ≠ d := by
    rintro rfl
    rw [ho] at ho'
    cases ho'
    rw [hd] at hd'
    cases hd'
  exact ⟨o', its, n, t, c, (hs.2 a hne).trans ho', hc, hd', hi, (tupleKind (mixKind prog w)).keeps hk ho hd hs⟩
variable {A : Around} {E : Value → Shared → Prop} {s : Shared}
end
end L2

namespace L2
open PySem PySem.Spec PyProof.Rows
def nHash (w : World) (k : NK) : Int := reduceHash (Builtin.Tuple.tupleHashOf [keyH w (.inl k.1), reduceHash (Builtin.Tuple.tupleHashOf (k.2.map (keyH w)))])
def ndF (w : World) (d : Addr) (xs : List (NK × Addr × Value)) : Heap → Prop := fun h => (d == sysModules) = false ∧ xs.length ≤ sizeLine ∧ (xs.map (·.1)).Nodup ∧
  ∃ o es ep, h.get? d = some o ∧ o.ExactDict ∧ o.data = .dict es ep ∧ es.toList = xs.map fun x => ⟨nHash w x.1, .ref x.2.1, x.2.2⟩
def ndO (w : World) (d : Addr) (xs : List (NK × Addr × Value)) : HO := .ext (ndF w d xs)
def NKey (K : PySem.W.Frag) (H : Hp) (k : NK) (b : Addr) : Prop := ∃ c, H b = some (.tup [.int k.1, .ref c]) ∧ SqT K H c (k.2.map kV)
section
variable {X : Cx} {pins : List (Addr × Obj)} {σ : St} {H : Hp} {s : Shared} {a b : Addr} {k : NK} {xs : List (NK × Addr × Value)}
end
section
variable {prog : Program} {w : World} {A : Around} {E : Value → Shared → Prop} {s : Shared} {xs : List (NK × Addr × Value)}
end
section
variable {X : Cx} {pins : List (Addr × Obj)} {σ : St} {H : Hp} {s : Shared} {a b : Addr} {d : V} {r : Value} {A : Around} {E : Value → Shared → Prop} {xs : List (NK × Addr × Value)} {k : NK}
end
section
variable {X : Cx} {o e f : Expr} {apos cpos : Pos} {td ty tx : TE}
end
end L2

set_option maxHeartbeats 4000000

namespace L3
open PySem L2
inductive PV where
  | non | bl (b : Bool) | int (i : Int) | str (x : Str) | ty (n : String)
  | tup (xs : List PV) | lst (xs : List PV)
    | scr (ns : List Int)
    | top (k : Nat)
    | exn (k : Nat)
    | dct (kvs : List (List Int × Int))
    | ref (i : Nat)
inductive Cell where
  | lst (xs : List PV)
  | dct (kvs : List (List Int × Int))
  | ins (k : Nat) (fs : List (Str × PV))
  | dtv (l : List (List Int × PV))
  | dkv (l : List (Int × PV))
  | dsv (l : List (List Key × PV))
  | dnv (j : Nat) (l : List (NK × PV))
structure Sto where
  n : Nat
  g : Nat → Option Cell
def Sto.set (M : Sto) (i : Nat) (c : Cell) : Sto := ⟨M.n, fun j => if j = i then some c else M.g j⟩
def Sto.new (M : Sto) (c : Cell) : Sto := ⟨M.n + 1, fun j => if j = M.n then some c else M.g j⟩
def Sto.drop (M : Sto) (i : Nat) : Sto := ⟨M.n, fun j => if j = i then none else M.g j⟩
theorem Sto.set_same {M : Sto} {i : Nat} {c : Cell} : (M.set i c).g i = some c := if_pos rfl
theorem Sto.set_ne {M : Sto} {i j : Nat} {c : Cell} (h : j ≠ i) : (M.set i c).g j = M.g j := if_neg h
theorem Sto.new_same {M : Sto} {c : Cell} : (M.new c).g M.n = some c := if_pos rfl
theorem Sto.new_ne {M : Sto} {j : Nat} {c : Cell} (h : j ≠ M.n) : (M.new c).g j = M.g j := if_neg h
structure Tb where
  K : PySem.W.Frag
  C : Nat → Addr
  w : World
structure Wd where
  T : Tb
  F : Hp
  α : Nat → Option Addr
  G : Hp
structure Wd.le0 (W W' : Wd) : Prop where
  k : W'.T = W.T
  f : ∀ a o, W.F a = some o → W'.F a = some o
  a : ∀ i a, W.α i = some a → W'.α i = some a
structure Wd.le (W W' : Wd) : Prop extends toLe0 : Wd.le0 W W' where
  g : W'.G = W.G
theorem Wd.le0.trans {A B C : Wd} (h : A.le0 B) (k : B.le0 C) : A.le0 C := ⟨k.k.trans h.k, fun a o e => k.f a o (h.f a o e), fun i a e => k.a i a (h.a i a e)⟩
theorem Wd.le.refl (W : Wd) : W.le W := ⟨⟨rfl, fun _ _ e => e, fun _ _ e => e⟩, rfl⟩
theorem Wd.le.trans {A B C : Wd} (h : A.le B) (k : B.le C) : A.le C := ⟨h.toLe0.trans k.toLe0, k.g.trans h.g⟩
def dctV (l : List (List Int × Int)) : List (List Key × V) := l.map fun p => (p.1.map Sum.inl, V.int p.2)
mutual
def Rep (W : Wd) : PV → V → Prop
  | .non, v => v = .non
  | .bl b, v => v = .bl b
  | .int i, v => v = .int i
  | .str x, v => v = .str x
  | .ty n, v => v = .ty n
  | .top k, v => v = .ref (W.T.C k)
  | .exn k, v => ∃ a, v = .ref a ∧ W.F a = some (excO a (W.T.C k))
  | .dct l, v => ∃ a o, v = .ref a ∧ W.F a = some (.frz o (.dT (dctV l)))
  | .scr ns, v => ∃ a, v = .ref a ∧ SqL W.T.K W.F a (ns.map V.int) ∧ ns.length ≤ 63
  | .ref i, v => ∃ a, v = .ref a ∧ W.α i = some a
  | .tup xs, v => ∃ a vs, v = .ref a ∧ SqT W.T.K W.F a vs ∧ Reps W xs vs
  | .lst xs, v => ∃ a vs, v = .ref a ∧ W.F a = some (.lst vs) ∧ Reps W xs vs
def Reps (W : Wd) : List PV → List V → Prop
  | [], vs => vs = []
  | x :: xs, vs => ∃ v r, vs = v :: r ∧ Rep W x v ∧ Reps W xs r
end
theorem seqT {K : PySem.W.Frag} {H H' : Hp} {a : Addr} {xs : List V} (e : Same H H') (h : SqT K H a xs) : SqT K H' a xs := by
  rcases h with (h | ⟨o, h⟩) | h
  · exact .inl (.inl (e _ _ h))
  · exact .inl (.inr ⟨o, e _ _ h⟩)
  · exact .inr h
mutual
theorem Rep.up0 {W W' : Wd} (h : W.le0 W') : ∀ {x : PV} {v : V}, Rep W x v → Rep W' x v
  | .non, _, r => r
  | .bl _, _, r => r
  | .int _, _, r => r
  | .str _, _, r => r
  | .ty _, _, r => r
  | .top k, _, r => by
    show _ = V.ref (W'.T.C k)
    rw [h.k]
    exact r
  | .exn k, _, ⟨a, e, q⟩ => ⟨a, e, by rw [h.k]; exact h.f _ _ q⟩
  | .dct _, _, ⟨a, o, e, q⟩ => ⟨a, o, e, h.f _ _ q⟩
  | .scr _, _, ⟨a, e, q, z⟩ => ⟨a, e, by rw [h.k]; exact (show Same W.F W'.F from h.f).seq q, z⟩
  | .ref _, _, ⟨a, e, q⟩ => ⟨a, e, h.a _ _ q⟩
  | .tup _, _, ⟨a, vs, e, q, r⟩ => ⟨a, vs, e, by rw [h.k]; exact seqT h.f q, Reps.up0 h r⟩
  | .lst _, _, ⟨a, vs, e, q, r⟩ => ⟨a, vs, e, h.f _ _ q, Reps.up0 h r⟩
theorem Reps.up0 {W W' : Wd} (h : W.le0 W') : ∀ {xs : List PV} {vs : List V}, Reps W xs vs → Reps W' xs vs
  | [], _, r => r
  | _ :: _, _, ⟨v, r, e, a, b⟩ => ⟨v, r, e, Rep.up0 h a, Reps.up0 h b⟩
end
theorem Rep.up {W W' : Wd} (h : W.le W') {x : PV} {v : V} (r : Rep W x v) : Rep W' x v := r.up0 h.toLe0
theorem Reps.up {W W' : Wd} (h : W.le W') {x : List PV} {v : List V} (r : Reps W x v) : Reps W' x v := r.up0 h.toLe0
theorem Reps.length {W : Wd} : ∀ {xs : List PV} {vs : List V}, Reps W xs vs → vs.length = xs.length
  | [], _, r => by cases r; rfl
  | _ :: _, _, ⟨v, r, e, _, b⟩ => by subst e; simp [Reps.length b]
theorem Reps.append {W : Wd} : ∀ {xs : List PV} {vs : List V} {ys : List PV} {us : List V}, Reps W xs vs → Reps W ys us → Reps W (xs ++ ys) (vs ++ us)
  | [], _, _, _, r, q => by cases r; exact q
  | _ :: _, _, _, _, ⟨v, r, e, a, b⟩, q => by subst e; exact ⟨v, _, rfl, a, Reps.append b q⟩
theorem Reps.get {W : Wd} : ∀ {xs : List PV} {vs : List V} {i : Nat} {x : PV}, Reps W xs vs → xs[i]? = some x → ∃ v, vs[i]? = some v ∧ Rep W x v
  | [], _, _, _, _, e => by simp at e
  | _ :: _, _, 0, _, ⟨v, r, e, a, _⟩, q => by simp at q; subst q; subst e; exact ⟨v, rfl, a⟩
  | _ :: _, _, i + 1, _, ⟨v, r, e, _, b⟩, q => by
    subst e
    obtain ⟨u, h1, h2⟩ := Reps.get (i := i) b (by simpa using q)
    exact ⟨u, by simpa using h1, h2⟩
theorem Reps.drop {W : Wd} : ∀ {xs : List PV} {vs : List V} (n : Nat), Reps W xs vs → Reps W (xs.drop n) (vs.drop n)
  | _, _, 0, r => r
  | [], _, n + 1, r => by cases r; rfl
  | _ :: _, _, n + 1, ⟨v, r, e, _, b⟩ => by subst e; exact Reps.drop n b
theorem Reps.take {W : Wd} : ∀ {xs : List PV} {vs : List V} (n : Nat), Reps W xs vs → Reps W (xs.take n) (vs.take n)
  | _, _, 0, r => by simp [Reps]
  | [], _, n + 1, r => by cases r; rfl
  | _ :: _, _, n + 1, ⟨v, r, e, a, b⟩ => by subst e; exact ⟨v, _, rfl, a, Reps.take n b⟩
theorem Reps.set {W : Wd} {x : PV} {v : V} (h : Rep W x v) : ∀ {xs : List PV} {vs : List V} (n : Nat), Reps W xs vs → Reps W (xs.set n x) (vs.set n v)
  | [], _, n, r => by cases r; rfl
  | _ :: _, _, 0, ⟨u, r, e, a, b⟩ => by subst e; exact ⟨v, _, rfl, h, b⟩
  | _ :: _, _, n + 1, ⟨u, r, e, a, b⟩ => by subst e; exact ⟨u, _, rfl, a, Reps.set h n b⟩
theorem Reps.rep {W : Wd} {xs : List PV} {vs : List V} (h : Reps W xs vs) : ∀ n : Nat, Reps W (List.replicate n xs).flatten (List.replicate n vs).flatten
  | 0 => rfl
  | n + 1 => by
    rw [List.replicate_succ, List.replicate_succ, List.flatten_cons, List.flatten_cons]
    exact Reps.append h (Reps.rep h n)
theorem Reps.erase {W : Wd} : ∀ {xs : List PV} {vs : List V} (n : Nat), Reps W xs vs → Reps W (xs.eraseIdx n) (vs.eraseIdx n)
  | [], _, n, r => by cases r; rfl
  | _ :: _, _, 0, ⟨u, r, e, a, b⟩ => by subst e; exact b
  | _ :: _, _, n + 1, ⟨u, r, e, a, b⟩ => by subst e; exact ⟨u, _, rfl, a, Reps.erase n b⟩
theorem Reps.ints {W : Wd} : ∀ {ns : List Int} {vs : List V}, Reps W (ns.map PV.int) vs ↔ vs = ns.map V.int
  | [], _ => Iff.rfl
  | n :: ns, vs => by
    constructor
    · rintro ⟨v, r, e, a, b⟩
      have a : v = .int n := a
      rw [e, a, Reps.ints.mp b]
      rfl
    · rintro rfl
      exact ⟨_, _, rfl, rfl, Reps.ints.mpr rfl⟩
theorem Reps.bools {W : Wd} : ∀ {ns : List Bool} {vs : List V}, Reps W (ns.map PV.bl) vs ↔ vs = ns.map V.bl
  | [], _ => Iff.rfl
  | n :: ns, vs => by
    constructor
    · rintro ⟨v, r, e, a, b⟩
      have a : v = .bl n := a
      rw [e, a, Reps.bools.mp b]
      rfl
    · rintro rfl
      exact ⟨_, _, rfl, rfl, Reps.bools.mpr rfl⟩
def RepF (W : Wd) : List (Str × PV) → List (Str × V) → Prop
  | [], vs => vs = []
  | p :: xs, vs => ∃ v r, vs = (p.1, v) :: r ∧ Rep W p.2 v ∧ RepF W xs r
theorem RepF.up0 {W W' : Wd} (h : W.le0 W') : ∀ {xs : List (Str × PV)} {vs : List (Str × V)}, RepF W xs vs → RepF W' xs vs
  | [], _, r => r
  | _ :: _, _, ⟨v, r, e, a, b⟩ => ⟨v, r, e, a.up0 h, RepF.up0 h b⟩
theorem RepF.get {W : Wd} {f : Str} : ∀ {xs : List (Str × PV)} {vs : List (Str × V)}, RepF W xs vs → ∀ {x : PV}, xs.lookup f = some x → ∃ v, vs.lookup f = some v ∧ Rep W x v
  | [], _, _, _, e => by simp at e
  | p :: xs, _, ⟨v, r, e, a, b⟩, x, q => by
    subst e
    rw [List.lookup_cons] at q ⊢
    by_cases h : (f == p.1) = true
    · rw [h] at q ⊢
      cases q
      exact ⟨v, rfl, a⟩
    · rw [Bool.not_eq_true] at h
      rw [h] at q ⊢
      exact RepF.get b q
theorem RepF.none {W : Wd} {f : Str} : ∀ {xs : List (Str × PV)} {vs : List (Str × V)}, RepF W xs vs → xs.lookup f = none → vs.lookup f = none
  | [], _, e, _ => by cases e; rfl
  | p :: xs, _, ⟨v, r, e, a, b⟩, q => by
    subst e
    rw [List.lookup_cons] at q ⊢
    by_cases h : (f == p.1) = true
    · rw [h] at q
      cases q
    · rw [Bool.not_eq_true] at h
      rw [h] at q ⊢
      exact RepF.none b q
theorem RepF.length {W : Wd} : ∀ {xs : List (Str × PV)} {vs : List (Str × V)}, RepF W xs vs → vs.length = xs.length
  | [], _, e => by cases e; rfl
  | _ :: _, _, ⟨_, _, e, _, b⟩ => by subst e; simp [RepF.length b]
def putP (f : Str) (v : PV) : List (Str × PV) → List (Str × PV)
  | [] => [(f, v)]
  | p :: r => if f == p.1 then (p.1, v) :: r else p :: putP f v r
def RepA {α κ : Type} (W : Wd) (f : α → κ) : List (α × PV) → List (κ × V) → Prop
  | [], vs => vs = []
  | p :: r, vs => ∃ v rs, vs = (f p.1, v) :: rs ∧ Rep W p.2 v ∧ RepA W f r rs
theorem RepA.up0 {α κ : Type} {W W' : Wd} {f : α → κ} (h : W.le0 W') : ∀ {l : List (α × PV)} {vs : List (κ × V)}, RepA W f l vs → RepA W' f l vs
  | [], _, e => e
  | _ :: _, _, ⟨v, rs, e, r, t⟩ => ⟨v, rs, e, r.up0 h, RepA.up0 h t⟩
def keyT (k : List Int) : List Key := k.map Sum.inl
def keyI (k : Int) : Key := Sum.inl k
def RepN (W : Wd) : List (NK × PV) → List (NK × Addr × Value) → Prop
  | [], xs => xs = []
  | p :: r, xs => ∃ b u rs v, xs = (p.1, b, u) :: rs ∧ NKey W.T.K W.F p.1 b ∧ Rep W p.2 v ∧ RelV v u ∧ RepN W r rs
theorem RepN.up0 {W W' : Wd} (h : W.le0 W') : ∀ {l : List (NK × PV)} {xs : List (NK × Addr × Value)}, RepN W l xs → RepN W' l xs
  | [], _, e => e
  | _ :: _, _, ⟨b, u, rs, v, e, ⟨c, k1, k2⟩, r, ru, t⟩ => ⟨b, u, rs, v, e, ⟨c, h.f _ _ k1, by rw [h.k]; exact seqT h.f k2⟩, r.up0 h, ru, RepN.up0 h t⟩
def RepC (W : Wd) : Cell → HO → Prop
  | .lst xs, o => ∃ vs, o = .lst vs ∧ Reps W xs vs
  | .dct l, o => o = .dT (dctV l)
  | .ins k fs, o => ∃ dx vs, o = .ins (W.T.C k) dx vs ∧ RepF W fs vs
  | .dtv l, o => ∃ vs, o = .dT vs ∧ RepA W keyT l vs
  | .dkv l, o => ∃ vs, o = .dK vs ∧ RepA W keyI l vs
  | .dsv l, o => ∃ vs, o = .dT vs ∧ RepA W id l vs
  | .dnv j l, o => (l = [] ∧ o = .dT []) ∨ ∃ d xs, W.α j = some d ∧ o = ndO W.T.w d xs ∧ RepN W l xs
theorem RepC.up0 {W W' : Wd} (h : W.le0 W') : ∀ {c : Cell} {o : HO}, RepC W c o → RepC W' c o
  | .lst _, _, ⟨vs, e, r⟩ => ⟨vs, e, r.up0 h⟩
  | .dct _, _, r => r
  | .ins _ _, _, ⟨dx, vs, e, r⟩ => ⟨dx, vs, by rw [h.k]; exact e, r.up0 h⟩
  | .dtv _, _, ⟨vs, e, r⟩ => ⟨vs, e, r.up0 h⟩
  | .dkv _, _, ⟨vs, e, r⟩ => ⟨vs, e, r.up0 h⟩
  | .dsv _, _, ⟨vs, e, r⟩ => ⟨vs, e, r.up0 h⟩
  | .dnv _ _, _, .inl r => .inl r
  | .dnv _ _, _, .inr ⟨d, xs, e1, e2, r⟩ => .inr ⟨d, xs, h.a _ _ e1, by rw [h.k]; exact e2, r.up0 h⟩
theorem RepC.up {W W' : Wd} (h : W.le W') {c : Cell} {o : HO} (r : RepC W c o) : RepC W' c o := r.up0 h.toLe0
structure Held (W : Wd) (M : Sto) (H : Hp) : Prop where
  f : ∀ a o, W.F a = some o → H a = some o
  m : ∀ i c, M.g i = some c → ∃ a o, W.α i = some a ∧ W.F a = none ∧ H a = some o ∧ RepC W c o
  inj : ∀ i j a c c', M.g i = some c → M.g j = some c' → W.α i = some a → W.α j = some a → i = j
  top : ∀ i, M.n ≤ i → W.α i = none
  gd : ∀ a o, W.G a = some o → H a = some o ∧ W.F a = none ∧ ∀ i c, M.g i = some c → W.α i ≠ some a
  gl : ∀ a o, W.G a = some o → ∀ vs, o ≠ .tup vs
theorem Held.same {W : Wd} {M : Sto} {H H' : Hp} (h : Held W M H) (s : Same H H') : Held W M H' :=
  ⟨fun a o e => s a o (h.f a o e), fun i c e => by
    obtain ⟨a, o, h1, h2, h3, h4⟩ := h.m i c e
    exact ⟨a, o, h1, h2, s a o h3, h4⟩, h.inj, h.top, fun a o e => ⟨s a o (h.gd a o e).1, (h.gd a o e).2⟩, h.gl⟩
def Wd.frz (W : Wd) (l : Addr) (o : HO) : Wd := ⟨W.T, L2.upd W.F l o, W.α, W.G⟩
theorem Held.Fnone {W : Wd} {M : Sto} {H : Hp} {l : Addr} (h : Held W M H) (e : H l = none) : W.F l = none := by
  cases q : W.F l with
  | none => rfl
  | some o =>
    rw [h.f l o q] at e
    cases e
theorem Wd.le_frz {W : Wd} {l : Addr} {o : HO} (e : W.F l = none) : W.le (W.frz l o) :=
  ⟨⟨rfl, fun a u q => by
    show L2.upd W.F l o a = some u
    rw [upd_ne (fun z : a = l => by rw [z, e] at q; cases q)]
    exact q, fun _ _ q => q⟩, rfl⟩
theorem Held.frz {W : Wd} {M : Sto} {H : Hp} {l : Addr} {o : HO} (h : Held W M H) (e : H l = none) : W.le (W.frz l o) ∧ Held (W.frz l o) M (L2.upd H l o) ∧ (W.frz l o).F l = some o := by
  have le := Wd.le_frz (o := o) (h.Fnone e)
  refine ⟨le, ⟨fun a u q => ?_, fun i c q => ?_, h.inj, h.top, fun a u q => ?_, h.gl⟩, upd_same⟩
  rotate_left 2
  · obtain ⟨h1, h2, h3⟩ := h.gd a u q
    have z : a ≠ l := ne_of_none h1 e
    refine ⟨by rw [upd_ne z]; exact h1, ?_, h3⟩
    show L2.upd W.F l o a = none
    rw [upd_ne z]
    exact h2
  · have q : L2.upd W.F l o a = some u := q
    by_cases z : a = l
    · subst z
      rw [upd_same] at q ⊢
      exact q
    · rw [upd_ne z] at q ⊢
      exact h.f a u q
  · obtain ⟨a, u, h1, h2, h3, h4⟩ := h.m i c q
    have z : a ≠ l := ne_of_none h3 e
    refine ⟨a, u, h1, ?_, by rw [upd_ne z]; exact h3, h4.up le⟩
    show L2.upd W.F l o a = none
    rw [upd_ne z]
    exact h2
def Wd.put (W : Wd) (n : Nat) (l : Addr) : Wd := ⟨W.T, W.F, fun i => if i = n then some l else W.α i, W.G⟩
theorem Held.le_put {W : Wd} {M : Sto} {H : Hp} {l : Addr} (h : Held W M H) : W.le (W.put M.n l) :=
  ⟨⟨rfl, fun _ _ q => q, fun i a q => by
    show (if i = M.n then some l else W.α i) = some a
    rw [if_neg (fun z => by rw [z, h.top _ (Nat.le_refl _)] at q; cases q)]
    exact q⟩, rfl⟩
theorem Held.put {W : Wd} {M : Sto} {H : Hp} {l : Addr} {o : HO} {c : Cell} (h : Held W M H) (e : H l = none) (r : RepC W c o) : W.le (W.put M.n l) ∧ Held (W.put M.n l) (M.new c) (L2.upd H l o) ∧ (W.put M.n l).α M.n = some l := by
  have le := h.le_put (l := l)
  have fl := h.Fnone e
  refine ⟨le, ⟨fun a u q => ?_, fun i c' q => ?_, fun i j a c1 c2 q1 q2 e1 e2 => ?_, fun i hi => ?_, fun a u q => ?_, h.gl⟩, if_pos rfl⟩
  rotate_left 4
  · obtain ⟨h1, h2, h3⟩ := h.gd a u q
    have z : a ≠ l := ne_of_none h1 e
    refine ⟨by rw [upd_ne z]; exact h1, h2, fun i c' qi => ?_⟩
    show (if i = M.n then some l else W.α i) ≠ some a
    by_cases hi : i = M.n
    · rw [if_pos hi]
      exact fun w => z (Option.some.inj w).symm
    · rw [if_neg hi]
      rw [Sto.new_ne hi] at qi
      exact h3 i c' qi
  · have q : W.F a = some u := q
    rw [upd_ne (fun z : a = l => by rw [z, fl] at q; cases q)]
    exact h.f a u q
  · by_cases z : i = M.n
    · subst z
      rw [Sto.new_same] at q
      cases q
      exact ⟨l, o, if_pos rfl, fl, upd_same, r.up le⟩
    · rw [Sto.new_ne z] at q
      obtain ⟨a, u, h1, h2, h3, h4⟩ := h.m i c' q
      exact ⟨a, u, le.a _ _ h1, h2, by rw [upd_ne (ne_of_none h3 e)]; exact h3, h4.up le⟩
  · have e1 : (if i = M.n then some l else W.α i) = some a := e1
    have e2 : (if j = M.n then some l else W.α j) = some a := e2
    by_cases z1 : i = M.n
    · by_cases z2 : j = M.n
      · rw [z1, z2]
      · rw [if_pos z1] at e1
        rw [if_neg z2] at e2
        rw [Sto.new_ne z2] at q2
        obtain ⟨b, u, g1, _, g3, _⟩ := h.m j c2 q2
        rw [e2] at g1
        cases g1
        cases e1
        rw [e] at g3
        cases g3
    · rw [if_neg z1] at e1
      rw [Sto.new_ne z1] at q1
      by_cases z2 : j = M.n
      · rw [if_pos z2] at e2
        obtain ⟨b, u, g1, _, g3, _⟩ := h.m i c1 q1
        rw [e1] at g1
        cases g1
        cases e2
        rw [e] at g3
        cases g3
      · rw [if_neg z2] at e2
        rw [Sto.new_ne z2] at q2
        exact h.inj i j a c1 c2 q1 q2 e1 e2
  · show (if i = M.n then some l else W.α i) = none
    have hi : M.n + 1 ≤ i := hi
    rw [if_neg (by omega)]
    exact h.top i (by omega)
theorem Held.upd {W : Wd} {M : Sto} {H : Hp} {i : Nat} {a : Addr} {c c' : Cell} {o : HO} (h : Held W M H) (e : M.g i = some c) (ea : W.α i = some a) (r : RepC W c' o) : Held W (M.set i c') (L2.upd H a o) := by
  obtain ⟨b, u, g1, g2, g3, g4⟩ := h.m i c e
  rw [ea] at g1
  cases g1
  have live : ∀ {j c1}, (M.set i c').g j = some c1 → ∃ c2, M.g j = some c2 := fun {j c1} q => by
    by_cases z : j = i
    · exact ⟨c, by rw [z]; exact e⟩
    · rw [Sto.set_ne z] at q
      exact ⟨_, q⟩
  refine ⟨fun b u q => ?_, fun j c1 q => ?_, fun j k b c1 c2 q1 q2 e1 e2 => ?_, h.top, fun b u q => ?_, h.gl⟩
  rotate_left 3
  · obtain ⟨h1, h2, h3⟩ := h.gd b u q
    refine ⟨?_, h2, fun j c1 qj => ?_⟩
    · rw [upd_ne (fun z : b = a => h3 i c e (z ▸ ea))]
      exact h1
    · obtain ⟨d1, w1⟩ := live qj
      exact h3 j d1 w1
  · rw [upd_ne (fun z : b = a => by rw [z, g2] at q; cases q)]
    exact h.f b u q
  · by_cases z : j = i
    · subst z
      rw [Sto.set_same] at q
      cases q
      exact ⟨a, o, ea, g2, upd_same, r⟩
    · rw [Sto.set_ne z] at q
      obtain ⟨b, u', h1, h2, h3, h4⟩ := h.m j c1 q
      refine ⟨b, u', h1, h2, ?_, h4⟩
      rw [upd_ne (fun zz : b = a => z (h.inj j i a c1 c q e (zz ▸ h1) ea))]
      exact h3
  · obtain ⟨d1, w1⟩ := live q1
    obtain ⟨d2, w2⟩ := live q2
    exact h.inj j k b d1 d2 w1 w2 e1 e2
theorem Held.drop {W : Wd} {M : Sto} {H : Hp} (h : Held W M H) (i : Nat) : Held W (M.drop i) H := by
  have sub : ∀ {j c}, (M.drop i).g j = some c → M.g j = some c := fun {j c} q => by
    have q : (if j = i then none else M.g j) = some c := q
    by_cases z : j = i
    · rw [if_pos z] at q; cases q
    · rwa [if_neg z] at q
  exact ⟨h.f, fun j c q => h.m j c (sub q), fun j k b c1 c2 q1 q2 => h.inj j k b c1 c2 (sub q1) (sub q2), h.top, fun a o q => ⟨(h.gd a o q).1, (h.gd a o q).2.1, fun j c qj => (h.gd a o q).2.2 j c (sub qj)⟩, h.gl⟩
theorem Held.freeze {W : Wd} {M : Sto} {H : Hp} {i : Nat} {a : Addr} {xs : List PV} (h : Held W M H) (e : M.g i = some (.lst xs)) (ea : W.α i = some a) :
    ∃ vs, H a = some (.lst vs) ∧ W.le (W.frz a (.lst vs)) ∧ Held (W.frz a (.lst vs)) (M.drop i) H ∧ Rep (W.frz a (.lst vs)) (.lst xs) (.ref a) := by
  obtain ⟨b, u, g1, g2, g3, vs, rfl, rv⟩ := h.m i _ e
  rw [ea] at g1
  cases g1
  have le := Wd.le_frz (o := .lst vs) g2
  refine ⟨vs, g3, le, ⟨fun b u q => ?_, fun j c q => ?_, fun j k b c1 c2 q1 q2 e1 e2 => ?_, h.top, fun b u q => ?_, h.gl⟩, a, vs, rfl, upd_same, rv.up le⟩
  rotate_left 3
  · obtain ⟨h1, h2, h3⟩ := (h.drop i).gd b u q
    refine ⟨h1, ?_, h3⟩
    show L2.upd W.F a (.lst vs) b = none
    rw [upd_ne (fun z : b = a => (h.gd b u q).2.2 i _ e (z ▸ ea))]
    exact h2
  · have q : L2.upd W.F a (.lst vs) b = some u := q
    by_cases z : b = a
    · subst z
      rw [upd_same] at q
      cases q
      exact g3
    · rw [upd_ne z] at q
      exact h.f b u q
  · have q : (if j = i then none else M.g j) = some c := q
    by_cases z : j = i
    · rw [if_pos z] at q; cases q
    · rw [if_neg z] at q
      obtain ⟨b, u', h1, h2, h3, h4⟩ := h.m j c q
      refine ⟨b, u', h1, ?_, h3, h4.up le⟩
      show L2.upd W.F a (.lst vs) b = none
      rw [upd_ne (fun zz : b = a => z (h.inj j i a c _ q e (zz ▸ h1) ea))]
      exact h2
  · have hd := h.drop i
    exact hd.inj j k b c1 c2 q1 q2 e1 e2
def Wd.gd (W : Wd) (l : Addr) (o : HO) : Wd := ⟨W.T, W.F, W.α, L2.upd W.G l o⟩
theorem Wd.le0_gd {W : Wd} {l : Addr} {o : HO} : W.le0 (W.gd l o) := ⟨rfl, fun _ _ e => e, fun _ _ e => e⟩
theorem Held.guardO {W : Wd} {M : Sto} {H : Hp} {l : Addr} {o' : HO} (no : ∀ vs, o' ≠ .tup vs) (h : Held W M H) (e : H l = none) : Held (W.gd l o') M (L2.upd H l o') := by
  have nl : ∀ {b u}, H b = some u → b ≠ l := fun q => ne_of_none q e
  refine ⟨fun b u q => by rw [upd_ne (nl (h.f b u q))]; exact h.f b u q, fun i c q => ?_, h.inj, h.top, fun b u q => ?_, fun b u q => ?_⟩
  rotate_left 2
  · have q : L2.upd W.G l o' b = some u := q
    by_cases z : b = l
    · subst z
      rw [upd_same] at q
      cases q
      exact no
    · rw [upd_ne z] at q
      exact h.gl b u q
  · obtain ⟨a, u, h1, h2, h3, h4⟩ := h.m i c q
    exact ⟨a, u, h1, h2, by rw [upd_ne (nl h3)]; exact h3, h4.up0 Wd.le0_gd⟩
  · have q : L2.upd W.G l o' b = some u := q
    by_cases z : b = l
    · subst z
      rw [upd_same] at q
      cases q
      refine ⟨upd_same, h.Fnone e, fun i c qi w => ?_⟩
      obtain ⟨a, u, h1, h2, h3, h4⟩ := h.m i c qi
      have w : W.α i = some b := w
      rw [w] at h1
      cases h1
      rw [e] at h3
      cases h3
    · rw [upd_ne z] at q
      obtain ⟨h1, h2, h3⟩ := h.gd b u q
      exact ⟨by rw [upd_ne z]; exact h1, h2, h3⟩
theorem Held.guard {W : Wd} {M : Sto} {H : Hp} {l : Addr} {ws : List V} (h : Held W M H) (e : H l = none) : Held (W.gd l (.lst ws)) M (L2.upd H l (.lst ws)) := Held.guardO (fun _ z => nomatch z) h e
theorem Held.reguardO {W : Wd} {M : Sto} {H : Hp} {l : Addr} {o o' : HO} (no : ∀ vs, o' ≠ .tup vs) (h : Held W M H) (e : W.G l = some o) : Held (W.gd l o') M (L2.upd H l o') := by
  obtain ⟨g1, g2, g3⟩ := h.gd l o e
  refine ⟨fun b w q => ?_, fun i c q => ?_, h.inj, h.top, fun b w q => ?_, fun b w q => ?_⟩
  rotate_left 3
  · have q : L2.upd W.G l o' b = some w := q
    by_cases z : b = l
    · subst z
      rw [upd_same] at q
      cases q
      exact no
    · rw [upd_ne z] at q
      exact h.gl b w q
  · rw [upd_ne (fun z : b = l => by
      have q : W.F b = some w := q
      rw [z, g2] at q
      cases q)]
    exact h.f b w q
  · obtain ⟨a, w, h1, h2, h3, h4⟩ := h.m i c q
    exact ⟨a, w, h1, h2, by rw [upd_ne (fun z : a = l => g3 i c q (z ▸ h1))]; exact h3, h4.up0 Wd.le0_gd⟩
  · have q : L2.upd W.G l o' b = some w := q
    by_cases z : b = l
    · subst z
      rw [upd_same] at q
      cases q
      exact ⟨upd_same, g2, g3⟩
    · rw [upd_ne z] at q
      obtain ⟨h1, h2, h3⟩ := h.gd b w q
      exact ⟨by rw [upd_ne z]; exact h1, h2, h3⟩
theorem Held.reguard {W : Wd} {M : Sto} {H : Hp} {l : Addr} {o : HO} {ws : List V} (h : Held W M H) (e : W.G l = some o) : Held (W.gd l (.lst ws)) M (L2.upd H l (.lst ws)) := Held.reguardO (fun _ z => nomatch z) h e
def Wd.out (W : Wd) (G0 : Hp) (l : Addr) (o : HO) : Wd := ⟨W.T, L2.upd W.F l o, W.α, G0⟩
theorem Held.unguard {W : Wd} {M : Sto} {H G0 : Hp} {l : Addr} {o : HO} (h : Held W M H) (e : W.G l = some o) (hg : ∀ b u, G0 b = some u → W.G b = some u ∧ b ≠ l) : W.le0 (W.out G0 l o) ∧ Held (W.out G0 l o) M H := by
  obtain ⟨g1, g2, g3⟩ := h.gd l o e
  have le : W.le0 (W.out G0 l o) := ⟨rfl, (Wd.le_frz (o := o) g2).f, fun _ _ e => e⟩
  refine ⟨le, fun b u q => ?_, fun i c q => ?_, h.inj, h.top, fun b u q => ?_, fun b u q => h.gl b u (hg b u q).1⟩
  · have q : L2.upd W.F l o b = some u := q
    by_cases z : b = l
    · subst z
      rw [upd_same] at q
      cases q
      exact g1
    · rw [upd_ne z] at q
      exact h.f b u q
  · obtain ⟨a, w, h1, h2, h3, h4⟩ := h.m i c q
    refine ⟨a, w, h1, ?_, h3, h4.up0 le⟩
    show L2.upd W.F l o a = none
    rw [upd_ne (fun z : a = l => g3 i c q (z ▸ h1))]
    exact h2
  · obtain ⟨q1, z⟩ := hg b u q
    obtain ⟨h1, h2, h3⟩ := h.gd b u q1
    refine ⟨h1, ?_, h3⟩
    show L2.upd W.F l o b = none
    rw [upd_ne z]
    exact h2
def Wd.outN (W : Wd) (G0 : Hp) (n : Nat) (l : Addr) : Wd := ⟨W.T, W.F, fun i => if i = n then some l else W.α i, G0⟩
end L3

namespace L3
open PySem L2
inductive Res (α : Type) where
  | ok (a : α) (M : Sto) | exc (k : Nat) (M : Sto) | bad
def Res.bind {α β : Type} (r : Res α) (k : α → Sto → Res β) : Res β := match r with
  | .ok a M => k a M
  | .exc c M => .exc c M
  | .bad => .bad
@[simp] theorem Res.bind_ok {α β : Type} {a : α} {M : Sto} {k : α → Sto → Res β} : (Res.ok a M).bind k = k a M := rfl
@[simp] theorem Res.bind_exc {α β : Type} {c : Nat} {M : Sto} {k : α → Sto → Res β} : (Res.exc c M).bind k = .exc c M := rfl
@[simp] theorem Res.bind_bad {α β : Type} {k : α → Sto → Res β} : (Res.bad).bind k = .bad := rfl
def ofO {α : Type} (o : Option α) (M : Sto) : Res α := match o with
  | some z => .ok z M
  | none => .bad
@[simp] theorem ofO_some {α : Type} {z : α} {M : Sto} : ofO (some z) M = .ok z M := rfl
@[simp] theorem ofO_none {α : Type} {M : Sto} : ofO (none : Option α) M = .bad := rfl
abbrev En := List (Option PV)
abbrev DE := En → Sto → Res PV
abbrev DT := En → Sto → Res Bool
abbrev DA := En → Sto → Res (List PV)
def RepS (W : Wd) (ρ : En) (σ : St) : Prop := σ.length = ρ.length ∧ ∀ (i : Nat) (x : PV), ρ[i]? = some (some x) → ∃ v, σ[i]? = some (some v) ∧ Rep W x v
theorem RepS.up {W W' : Wd} {ρ : En} {σ : St} (h : RepS W ρ σ) (le : W.le W') : RepS W' ρ σ := ⟨h.1, fun i x e => by
  obtain ⟨v, e1, r⟩ := h.2 i x e
  exact ⟨v, e1, r.up le⟩⟩
theorem RepS.set {W : Wd} {ρ : En} {σ : St} {i : Nat} {x : PV} {v : V} (h : RepS W ρ σ) (r : Rep W x v) : RepS W (ρ.set i (some x)) (σ.set i (some v)) := by
  refine ⟨by simpa using h.1, fun j y e => ?_⟩
  by_cases hj : i = j
  · subst hj
    have hi : i < ρ.length := by
      have := (List.getElem?_eq_some_iff.mp e).1
      simpa using this
    rw [List.getElem?_set_self hi] at e
    cases e
    exact ⟨v, List.getElem?_set_self (by rw [h.1]; exact hi), r⟩
  · rw [List.getElem?_set_ne hj] at e
    obtain ⟨u, e1, q⟩ := h.2 j y e
    exact ⟨u, by rw [List.getElem?_set_ne hj]; exact e1, q⟩
def Post {α β : Type} (W : Wd) (R : Wd → α → β → Prop) (r : Res α) (Q : β → Hp → Prop) (E : XK) : Prop := match r with
  | .ok a M => ∀ W' H' b, W.le W' → Held W' M H' → R W' a b → Q b H'
  | .exc k M => ∀ W' H', W.le W' → Held W' M H' → E (.ref (W.T.C k)) none H'
  | .bad => False
theorem Post.up {α β : Type} {W W' : Wd} {R : Wd → α → β → Prop} {r : Res α} {Q : β → Hp → Prop} {E : XK} (h : Post W R r Q E) (le : W.le W') : Post W' R r Q E := by
  cases r with
  | ok a M => exact fun W2 H2 b l2 h2 r2 => h W2 H2 b (le.trans l2) h2 r2
  | exc k M =>
    intro W2 H2 l2 h2
    have := h W2 H2 (le.trans l2) h2
    rw [le.k]
    exact this
  | bad => exact h.elim
theorem Post.bind {α β γ δ : Type} {W : Wd} {R1 : Wd → α → β → Prop} {R2 : Wd → γ → δ → Prop} {r : Res α} {k : α → Sto → Res γ} {Q : δ → Hp → Prop} {Q1 : β → Hp → Prop} {E : XK} (h : Post W R2 (r.bind k) Q E)
    (f : ∀ W' M a b H1, W.le W' → Held W' M H1 → R1 W' a b → Post W' R2 (k a M) Q E → Q1 b H1) : Post W R1 r Q1 E := by
  cases r with
  | ok a M => exact fun W2 H2 b l2 h2 r2 => f W2 M a b H2 l2 h2 r2 (Post.up (r := k a M) h l2)
  | exc k M => exact h
  | bad => exact h.elim
def lft {α β : Type} (T : Tb) (R : Wd → α → β → Prop) (ES : St → XK) (d : En → Sto → Res α) : St → Hp → (β → Hp → Prop) → Prop := fun σ H Q =>
  ∃ W ρ M, W.T = T ∧ Held W M H ∧ RepS W ρ σ ∧ Post W R (d ρ M) Q (ES σ)
theorem lft_el {α β : Type} {T : Tb} {R : Wd → α → β → Prop} {ES : St → XK} {d : En → Sto → Res α} {σ : St} {H : Hp} {Q : β → Hp → Prop} {P : Prop} (h : lft T R ES d σ H Q) (k : ∀ W ρ M, W.T = T → Held W M H → RepS W ρ σ → Post W R (d ρ M) Q (ES σ) → P) : P := by
  obtain ⟨W, ρ, M, a, b, c, e⟩ := h
  exact k W ρ M a b c e
abbrev RB : Wd → Bool → Bool → Prop := fun _ a b => b = a
structure QE (X : Cx) (T : Tb) (ES : St → XK) (e : Expr) (d : DE) : Prop where
  h : PE X e (lft T Rep ES d)
structure QT (X : Cx) (T : Tb) (ES : St → XK) (e : Expr) (d : DT) : Prop where
  h : PT X e (lft T RB ES d)
structure QW (X : Cx) (T : Tb) (ES : St → XK) (e : Expr) (d : DT) : Prop where
  h : PW X e (lft T RB ES d)
structure QA (X : Cx) (T : Tb) (ES : St → XK) (es : List Expr) (d : DA) : Prop where
  h : PA X es (lft T Reps ES d)
structure QK (X : Cx) (T : Tb) (ES : St → XK) (ks : List Keyword) (d : DA) : Prop where
  h : PK X ks (lft T Reps ES d)
section
variable {X : Cx} {T : Tb} {ES : St → XK} {a b c e : Expr} {es : List Expr} {pos : Pos} {da db dc d : DE} {ds : DA}
theorem pe_imp {t t' : TE} (h : PE X e t) (f : ∀ σ H Q, t' σ H Q → t σ H Q) : PE X e t' := fun pins s σ H Q I q => h pins s σ H Q I (f σ H Q q)
theorem pt_imp {t t' : TT} (h : PT X e t) (f : ∀ σ H Q, t' σ H Q → t σ H Q) : PT X e t' := fun pins s σ H Q I q => h pins s σ H Q I (f σ H Q q)
theorem pw_imp {t t' : TT} (h : PW X e t) (f : ∀ σ H Q, t' σ H Q → t σ H Q) : PW X e t' := fun w pins s σ H Q I q => h w pins s σ H Q I (f σ H Q q)
theorem pa_imp {t t' : TA} (h : PA X es t) (f : ∀ σ H Q, t' σ H Q → t σ H Q) : PA X es t' := fun pos pins s σ H Q I q => h pos pins s σ H Q I (f σ H Q q)
theorem pk_imp {ks : List Keyword} {t t' : TA} (h : PK X ks t) (f : ∀ σ H Q, t' σ H Q → t σ H Q) : PK X ks t' := fun pos pins s σ H Q I q => h pos pins s σ H Q I (f σ H Q q)
def dVar (i : Nat) : DE := fun ρ M => match ρ[i]? with
  | some (some x) => .ok x M
  | _ => .bad
theorem qv (i : Nat) {x : Str} (hN : X.N[i]? = some x := by rfl) (hv : Vis X.env.scope x := by first | exact Or.inl rfl | exact Or.inr (Or.inl rfl) | exact Or.inr (Or.inr rfl)) (hd : (x == ("__debug__" : Str)) = false := by decide)
    (hcd : (x == ("__classdict__" : Str)) = false := by decide) : QE X T ES (.Name x pos) (dVar i) := ⟨pe_imp (pe_var hN hv hd hcd) fun σ H Q hQQ => by
  obtain ⟨W, ρ, M, _, hh, hs, p⟩ := hQQ
  unfold dVar at p
  split at p
  · rename_i y e
    obtain ⟨v, e1, r⟩ := hs.2 i y e
    exact ⟨v, e1, p W H v (.refl W) hh r⟩
  · exact p.elim⟩
def dC (x : PV) : DE := fun _ M => .ok x M
theorem qc {x : PV} {v : V} (h : PE X e (tC v)) (r : ∀ W : Wd, W.T = T → Rep W x v) : QE X T ES e (dC x) := ⟨pe_imp h fun σ H Q hQQ => lft_el hQQ fun W ρ M k hh hs p => p W H v (.refl W) hh (r W k)⟩
theorem q_int {i j} : QE X T ES (.Constant (.int i) j pos) (dC (.int i)) := qc pe_int fun _ _ => rfl
theorem q_bl {b j} : QE X T ES (.Constant (.bool b) j pos) (dC (.bl b)) := qc pe_bl fun _ _ => rfl
theorem q_non {j} : QE X T ES (.Constant .none j pos) (dC .non) := qc pe_non fun _ _ => rfl
theorem q_str {x j} : QE X T ES (.Constant (.str x) j pos) (dC (.str x)) := qc pe_str fun _ _ => rfl
theorem q_gint {x : Str} {i : Int} {t : Tok} (hg : Gl X x) (hm : X.mg x = some (.int i t)) (hd : (x == ("__debug__" : Str)) = false := by decide) : QE X T ES (.Name x pos) (dC (.int i)) := qc (pe_glob (v := .int i) hg hm ⟨_, rfl⟩ hd) fun _ _ => rfl
theorem q_ty {x : Str} {n : String} (hg : Gl X x) (hm : X.mg x = none) (hv : bootBuiltins x = some (.type n)) (hn : x ≠ "__name__" := by decide) (hd : (x == ("__debug__" : Str)) = false := by decide) : QE X T ES (.Name x pos) (dC (.ty n)) :=
  qc (pe_bltn (v := .ty n) hg hm hv rfl hn hd) fun _ _ => rfl
def dNil : DA := fun _ M => .ok [] M
def dCons (d : DE) (ds : DA) : DA := fun ρ M => (d ρ M).bind fun x M1 => (ds ρ M1).bind fun xs M2 => .ok (x :: xs) M2
theorem qa_nil : QA X T ES [] dNil := ⟨pa_imp pa_nil fun σ H Q hQQ => lft_el hQQ fun W ρ M k hh hs p => p W H [] (.refl W) hh rfl⟩
theorem cons_lift {σ : St} {H : Hp} {Q : List V → Hp → Prop} (h : lft T Reps ES (dCons d ds) σ H Q) : tCons (lft T Rep ES d) (lft T Reps ES ds) σ H Q := by
  obtain ⟨W, ρ, M, k, hh, hs, p⟩ := h
  refine ⟨W, ρ, M, k, hh, hs, Post.bind p fun W1 M1 x v H1 l1 h1 r1 p1 => ⟨W1, ρ, M1, l1.k.trans k, h1, hs.up l1, Post.bind p1 fun W2 M2 xs vs H2 l2 h2 r2 p2 => ?_⟩⟩
  exact p2 W2 H2 (v :: vs) (.refl W2) h2 ⟨v, vs, rfl, r1.up l2, r2⟩
theorem qa_cons (ha : QE X T ES e d) (hr : QA X T ES es ds) (hs : starEach (e :: es) X.env = (false, eval e X.env) :: starEach es X.env := by rfl) : QA X T ES (e :: es) (dCons d ds) := ⟨pa_imp (pa_cons ha.h hr.h hs) fun _ _ _ => cons_lift⟩
theorem qk_nil : QK X T ES [] dNil := ⟨pk_imp pk_nil fun σ H Q hQQ => lft_el hQQ fun W ρ M k hh hs p => p W H [] (.refl W) hh rfl⟩
theorem qk_cons {kws : List Keyword} {nm : Option Str} {kpos : Pos} (ha : QE X T ES e d) (hr : QK X T ES kws ds) : QK X T ES (⟨nm, e, kpos⟩ :: kws) (dCons d ds) := ⟨pk_imp (pk_cons ha.h hr.h) fun _ _ _ => cons_lift⟩
abbrev G2 := Sto → PV → PV → Option PV
def rP (T : Tb) (g : G2) : R2 := fun v u H Q => ∃ W M x y z, W.T = T ∧ Held W M H ∧ Rep W x v ∧ Rep W y u ∧ g M x y = some z ∧ ∀ W' H' v', W.le W' → Held W' M H' → Rep W' z v' → Q v' H'
abbrev OpP (X : Cx) (T : Tb) (f : Value → Value → Sem Value) (g : G2) : Prop := OpR X f (rP T g)
theorem opr_imp {f : Value → Value → Sem Value} {r r' : R2} (h : OpR X f r) (k : ∀ x y H Q, r' x y H Q → r x y H Q) : OpR X f r' := fun pins s σ H x y v u Q I rx ry q => h pins s σ H x y v u Q I rx ry (k _ _ _ _ q)
def orG (g g' : G2) : G2 := fun M x y => match g M x y with
  | some z => some z
  | none => g' M x y
theorem opp_or {f : Value → Value → Sem Value} {g g' : G2} (h : OpP X T f g) (h' : OpP X T f g') : OpP X T f (orG g g') := opr_imp (OpR.or h h') fun v u H Q hQQ => by
  obtain ⟨W, M, x, y, z, k, hh, rx, ry, e, q⟩ := hQQ
  unfold orG at e
  split at e
  · rename_i z' e'
    cases e
    exact .inl ⟨W, M, x, y, z, k, hh, rx, ry, e', q⟩
  · exact .inr ⟨W, M, x, y, z, k, hh, rx, ry, e, q⟩
def dOp (g : G2) (da db : DE) : DE := fun ρ M => (da ρ M).bind fun x M1 => (db ρ M1).bind fun y M2 => ofO (g M2 x y) M2
theorem op_lift {g : G2} {σ : St} {H : Hp} {Q : VK} (h : lft T Rep ES (dOp g da db) σ H Q) : tOp (rP T g) (lft T Rep ES da) (lft T Rep ES db) σ H Q := by
  obtain ⟨W, ρ, M, k, hh, hs, p⟩ := h
  refine ⟨W, ρ, M, k, hh, hs, Post.bind p fun W1 M1 x v H1 l1 h1 r1 p1 => ⟨W1, ρ, M1, l1.k.trans k, h1, hs.up l1, Post.bind p1 fun W2 M2 y u H2 l2 h2 r2 p2 => ?_⟩⟩
  cases e : g M2 x y with
  | none => rw [e] at p2; exact p2.elim
  | some z =>
    rw [e] at p2
    exact ⟨W2, M2, x, y, z, l2.k.trans (l1.k.trans k), h2, r1.up l2, r2, e, p2⟩
theorem qe_op {op : Operator} {g : G2} (ho : OpP X T (binaryOp op) g) (ha : QE X T ES a da) (hb : QE X T ES b db) : QE X T ES (.BinOp a op b pos) (dOp g da db) := ⟨pe_imp (pe_op ho ha.h hb.h) fun _ _ _ => op_lift⟩
theorem qe_cmp {op : CmpOp} {g : G2} (ho : OpP X T (compareOp op) g) (ha : QE X T ES a da) (hb : QE X T ES b db) (hm : behindInMarks op b = false) : QE X T ES (.Compare a [op] [b] pos) (dOp g da db) := ⟨pe_imp (pe_cmpR ho ha.h hb.h hm) fun _ _ _ => op_lift⟩
def asB : PV → Option Bool
  | .bl b => some b
  | _ => none
def dTest (d : DE) : DT := fun ρ M => (d ρ M).bind fun x M1 => ofO (asB x) M1
theorem qt_cmp {op : CmpOp} {g : G2} (ho : OpP X T (compareOp op) g) (ha : QE X T ES a da) (hb : QE X T ES b db) (hm : behindInMarks op b = false) : QT X T ES (.Compare a [op] [b] pos) (dTest (dOp g da db)) :=
  ⟨pt_imp (pt_cmpR ho ha.h hb.h hm) fun σ H Q hQQ => lft_el hQQ fun W ρ M k hh hs p => op_lift ⟨W, ρ, M, k, hh, hs, Post.bind (R1 := Rep) p fun W1 M1 x v H1 l1 h1 r1 p1 => by
    cases x with
    | bl b => exact ⟨b, r1, p1 W1 H1 b (.refl W1) h1 rfl⟩
    | _ => exact p1.elim⟩⟩
def dChain (g g' : G2) (da db dc : DE) : DE := fun ρ M => (da ρ M).bind fun x M1 => (db ρ M1).bind fun y M2 => match g M2 x y with
  | some (.bl true) => (dc ρ M2).bind fun z M3 => ofO (g' M3 y z) M3
  | some (.bl false) => .ok (.bl false) M2
  | _ => .bad
theorem chain_lift {g g' : G2} {σ : St} {H : Hp} {Q : VK} (h : lft T Rep ES (dChain g g' da db dc) σ H Q) : tChain (rP T g) (rP T g') (lft T Rep ES da) (lft T Rep ES db) (lft T Rep ES dc) σ H Q := by
  obtain ⟨W, ρ, M, k, hh, hs, p⟩ := h
  refine ⟨W, ρ, M, k, hh, hs, Post.bind p fun W1 M1 x v H1 l1 h1 r1 p1 => ⟨W1, ρ, M1, l1.k.trans k, h1, hs.up l1, Post.bind p1 fun W2 M2 y u H2 l2 h2 r2 p2 => ?_⟩⟩
  have k2 := l2.k.trans (l1.k.trans k)
  split at p2
  · rename_i e
    refine ⟨W2, M2, x, y, _, k2, h2, r1.up l2, r2, e, fun W3 H3 v' l3 h3 r3 => ⟨true, r3, ?_⟩⟩
    rw [if_pos rfl]
    refine ⟨W3, ρ, M2, l3.k.trans k2, h3, (hs.up (l1.trans l2)).up l3, Post.bind (Post.up p2 l3) fun W4 M4 z w H4 l4 h4 r4 p4 => ?_⟩
    cases e' : g' M4 y z with
    | none => rw [e'] at p4; exact p4.elim
    | some z' =>
      rw [e'] at p4
      exact ⟨W4, M4, y, z, z', l4.k.trans (l3.k.trans k2), h4, (r2.up l3).up l4, r4, e', p4⟩
  · rename_i e
    refine ⟨W2, M2, x, y, _, k2, h2, r1.up l2, r2, e, fun W3 H3 v' l3 h3 r3 => ⟨false, r3, ?_⟩⟩
    rw [if_neg (by simp)]
    exact p2 W3 H3 (.bl false) l3 h3 rfl
  · exact p2.elim
theorem qe_chain {op op' : CmpOp} {g g' : G2} (ho : OpP X T (compareOp op) g) (ho' : OpP X T (compareOp op') g') (ha : QE X T ES a da) (hb : QE X T ES b db) (hc : QE X T ES c dc)
    (hm : lastMarks [op, op'] [b, c] = false := by with_unfolding_all rfl) : QE X T ES (.Compare a [op, op'] [b, c] pos) (dChain g g' da db dc) := ⟨pe_imp (pe_chain ho ho' ha.h hb.h hc.h hm) fun _ _ _ => chain_lift⟩
theorem qt_chain {op op' : CmpOp} {g g' : G2} (ho : OpP X T (compareOp op) g) (ho' : OpP X T (compareOp op') g') (ha : QE X T ES a da) (hb : QE X T ES b db) (hc : QE X T ES c dc)
    (hm : lastMarks [op, op'] [b, c] = false := by with_unfolding_all rfl) : QT X T ES (.Compare a [op, op'] [b, c] pos) (dTest (dChain g g' da db dc)) :=
  ⟨pt_imp (pt_chain ho ho' ha.h hb.h hc.h hm) fun σ H Q hQQ => lft_el hQQ fun W ρ M k hh hs p => chain_lift ⟨W, ρ, M, k, hh, hs, Post.bind (R1 := Rep) p fun W1 M1 x v H1 l1 h1 r1 p1 => by
    cases x with
    | bl b => exact ⟨b, r1, p1 W1 H1 b (.refl W1) h1 rfl⟩
    | _ => exact p1.elim⟩⟩
def seqP (M : Sto) : PV → Option (List PV)
  | .lst xs => some xs
  | .ref i => (match M.g i with
    | some (.lst xs) => some xs
    | _ => none)
  | _ => none
theorem seq_at {W : Wd} {M : Sto} {H : Hp} {x : PV} {v : V} {xs : List PV} (hh : Held W M H) (r : Rep W x v) (e : seqP M x = some xs) : ∃ a vs, v = .ref a ∧ H a = some (.lst vs) ∧ Reps W xs vs := by
  cases x with
  | lst ys =>
    cases e
    obtain ⟨a, vs, e1, q, rr⟩ := r
    exact ⟨a, vs, e1, hh.f _ _ q, rr⟩
  | ref i =>
    obtain ⟨a, e1, q⟩ := r
    have e : (match M.g i with
      | some (.lst xs) => some xs
      | _ => none) = some xs := e
    split at e
    · rename_i ys e2
      cases e
      obtain ⟨b, o, h1, h2, h3, vs, rfl, rr⟩ := hh.m i _ e2
      rw [q] at h1
      cases h1
      exact ⟨a, vs, e1, h3, rr⟩
    · cases e
  | _ => cases e
theorem tup_at {W : Wd} {M : Sto} {H : Hp} {v : V} {xs : List PV} (hh : Held W M H) (r : Rep W (.tup xs) v) : ∃ a vs, v = .ref a ∧ SqT W.T.K H a vs ∧ Reps W xs vs := by
  obtain ⟨a, vs, e1, q, rr⟩ := r
  exact ⟨a, vs, e1, seqT hh.f q, rr⟩
def anyP (M : Sto) : PV → Option (List PV)
  | .tup xs => some xs
  | x => seqP M x
theorem any_at {W : Wd} {M : Sto} {H : Hp} {x : PV} {v : V} {xs : List PV} (hh : Held W M H) (r : Rep W x v) (e : anyP M x = some xs) : ∃ a vs, v = .ref a ∧ (SqL W.T.K H a vs ∨ SqT W.T.K H a vs) ∧ Reps W xs vs := by
  cases x with
  | tup ys =>
    cases e
    obtain ⟨a, vs, h1, h2, h3⟩ := tup_at hh r
    exact ⟨a, vs, h1, .inr h2, h3⟩
  | _ =>
    obtain ⟨a, vs, h1, h2, h3⟩ := seq_at hh r e
    exact ⟨a, vs, h1, .inl (SqL.of h2), h3⟩
theorem new_lst {W : Wd} {M : Sto} {H : Hp} {xs : List PV} {vs : List V} {p : Addr} (hh : Held W M H) (r : Reps W xs vs) (e : H p = none) : ∃ W', W.le W' ∧ Held W' M (L2.upd H p (.lst vs)) ∧ Rep W' (.lst xs) (.ref p) := by
  obtain ⟨le, h1, h2⟩ := hh.frz (o := .lst vs) e
  exact ⟨_, le, h1, p, vs, rfl, h2, r.up le⟩
theorem new_tup {W : Wd} {M : Sto} {H : Hp} {xs : List PV} {vs : List V} {p : Addr} (hh : Held W M H) (r : Reps W xs vs) (e : H p = none) : ∃ W', W.le W' ∧ Held W' M (L2.upd H p (.tup vs)) ∧ Rep W' (.tup xs) (.ref p) := by
  obtain ⟨le, h1, h2⟩ := hh.frz (o := .tup vs) e
  exact ⟨_, le, h1, p, vs, rfl, SqT.of h2, r.up le⟩
theorem new_cell {W : Wd} {M : Sto} {H : Hp} {xs : List PV} {vs : List V} {p : Addr} (hh : Held W M H) (r : Reps W xs vs) (e : H p = none) : ∃ W', W.le W' ∧ Held W' (M.new (.lst xs)) (L2.upd H p (.lst vs)) ∧ Rep W' (.ref M.n) (.ref p) := by
  obtain ⟨le, h1, h2⟩ := hh.put (l := p) (o := .lst vs) (c := .lst xs) e ⟨vs, rfl, r⟩
  exact ⟨_, le, h1, p, rfl, h2⟩
def dTup (ds : DA) : DE := fun ρ M => (ds ρ M).bind fun xs M1 => if xs.length ≤ sizeLine then .ok (.tup xs) M1 else .bad
def dLst (ds : DA) : DE := fun ρ M => (ds ρ M).bind fun xs M1 => if xs.length ≤ sizeLine then .ok (.lst xs) M1 else .bad
def dLstN (ds : DA) : DE := fun ρ M => (ds ρ M).bind fun xs M1 => if xs.length ≤ sizeLine then .ok (.ref M1.n) (M1.new (.lst xs)) else .bad
theorem qe_tup {x1} (h : QA X T ES es ds) : QE X T ES (.Tuple es x1 pos) (dTup ds) := ⟨pe_imp (pe_tup h.h) fun σ H Q hQQ => lft_el hQQ fun W ρ M k hh hs p => ⟨W, ρ, M, k, hh, hs, Post.bind p fun W1 M1 xs vs H1 l1 h1 r1 p1 => by
  split at p1
  · rename_i hz
    refine ⟨by rw [r1.length]; exact hz, fun q e => ?_⟩
    obtain ⟨W2, l2, h2, r2⟩ := new_tup h1 r1 e
    exact p1 W2 _ _ l2 h2 r2
  · exact p1.elim⟩⟩
theorem qe_lst (h : QA X T ES es ds) : QE X T ES (.List es pos) (dLst ds) := ⟨pe_imp (pe_lst h.h) fun σ H Q hQQ => lft_el hQQ fun W ρ M k hh hs p => ⟨W, ρ, M, k, hh, hs, Post.bind p fun W1 M1 xs vs H1 l1 h1 r1 p1 => by
  split at p1
  · rename_i hz
    refine ⟨by rw [r1.length]; exact hz, fun q e => ?_⟩
    obtain ⟨W2, l2, h2, r2⟩ := new_lst h1 r1 e
    exact p1 W2 _ _ l2 h2 r2
  · exact p1.elim⟩⟩
theorem qe_lstN (h : QA X T ES es ds) : QE X T ES (.List es pos) (dLstN ds) := ⟨pe_imp (pe_lst h.h) fun σ H Q hQQ => lft_el hQQ fun W ρ M k hh hs p => ⟨W, ρ, M, k, hh, hs, Post.bind p fun W1 M1 xs vs H1 l1 h1 r1 p1 => by
  split at p1
  · rename_i hz
    refine ⟨by rw [r1.length]; exact hz, fun q e => ?_⟩
    obtain ⟨W2, l2, h2, r2⟩ := new_cell h1 r1 e
    exact p1 W2 _ _ l2 h2 r2
  · exact p1.elim⟩⟩
def dFrz (d : DE) : DE := fun ρ M => (d ρ M).bind fun x M1 => match x with
  | .ref i => (match M1.g i with
    | some (.lst xs) => .ok (.lst xs) (M1.drop i)
    | _ => .bad)
  | _ => .bad
theorem qe_frz (h : QE X T ES e d) : QE X T ES e (dFrz d) := ⟨pe_imp h.h fun σ H Q hQQ => lft_el hQQ fun W ρ M k hh hs p => ⟨W, ρ, M, k, hh, hs, Post.bind p fun W1 M1 x v H1 l1 h1 r1 p1 => by
  split at p1
  · rename_i i
    split at p1
    · rename_i xs e
      obtain ⟨a, rfl, ea⟩ := r1
      obtain ⟨vs, _, l2, h2, r2⟩ := h1.freeze e ea
      exact p1 _ _ _ l2 h2 r2
    · exact p1.elim
  · exact p1.elim⟩⟩
def dAnd (da db : DT) : DT := fun ρ M => (da ρ M).bind fun c M1 => if c = true then db ρ M1 else .ok false M1
def dOr (da db : DT) : DT := fun ρ M => (da ρ M).bind fun c M1 => if c = true then .ok true M1 else db ρ M1
def dNot (da : DT) : DT := fun ρ M => (da ρ M).bind fun c M1 => .ok (!c) M1
variable {ta tb : DT} {rest : List Expr}
theorem QW.qt (h : QW X T ES e ta) : QT X T ES e ta := ⟨h.h.pt⟩
theorem qw_and1 (ha : QT X T ES a ta) : QW X T ES (.BoolOp .And [a] pos) ta := ⟨pw_and1 ha.h⟩
theorem qw_or1 (ha : QT X T ES a ta) : QW X T ES (.BoolOp .Or [a] pos) ta := ⟨pw_or1 ha.h⟩
theorem qw_and (ha : QT X T ES a ta) (hb : QW X T ES (.BoolOp .And (b :: rest) pos) tb) : QW X T ES (.BoolOp .And (a :: b :: rest) pos) (dAnd ta tb) := ⟨pw_imp (pw_and ha.h hb.h) fun σ H Q hQQ => lft_el hQQ fun W ρ M k hh hs p =>
  ⟨W, ρ, M, k, hh, hs, Post.bind p fun W1 M1 x v H1 l1 h1 r1 p1 => by
    subst r1
    cases v with
    | true => rw [if_pos rfl]; exact ⟨W1, ρ, M1, l1.k.trans k, h1, hs.up l1, p1⟩
    | false => rw [if_neg (by simp)]; exact p1 W1 H1 _ (.refl W1) h1 rfl⟩⟩
theorem qw_or (ha : QT X T ES a ta) (hb : QW X T ES (.BoolOp .Or (b :: rest) pos) tb) : QW X T ES (.BoolOp .Or (a :: b :: rest) pos) (dOr ta tb) := ⟨pw_imp (pw_or ha.h hb.h) fun σ H Q hQQ => lft_el hQQ fun W ρ M k hh hs p =>
  ⟨W, ρ, M, k, hh, hs, Post.bind p fun W1 M1 x v H1 l1 h1 r1 p1 => by
    subst r1
    cases v with
    | false => rw [if_neg (by simp)]; exact ⟨W1, ρ, M1, l1.k.trans k, h1, hs.up l1, p1⟩
    | true => rw [if_pos rfl]; exact p1 W1 H1 _ (.refl W1) h1 rfl⟩⟩
theorem qt_not (ha : QT X T ES a ta) : QT X T ES (.UnaryOp .Not a pos) (dNot ta) := ⟨pt_imp (pt_not ha.h) fun σ H Q hQQ => lft_el hQQ fun W ρ M k hh hs p =>
  ⟨W, ρ, M, k, hh, hs, Post.bind p fun W1 M1 x v H1 l1 h1 r1 p1 => by
    subst r1
    exact p1 W1 H1 _ (.refl W1) h1 rfl⟩⟩
def dAndV (da db : DE) : DE := fun ρ M => (da ρ M).bind fun x M1 => match x with
  | .bl true => db ρ M1
  | .bl false => .ok (.bl false) M1
  | _ => .bad
def dNotV (da : DE) : DE := fun ρ M => (da ρ M).bind fun x M1 => match x with
  | .bl b => .ok (.bl (!b)) M1
  | _ => .bad
theorem qe_one {op} (h : QE X T ES a da) : QE X T ES (.BoolOp op [a] pos) da := ⟨pe_one h.h⟩
theorem qe_and (ha : QE X T ES a da) (hb : QE X T ES (.BoolOp .And (b :: rest) pos) db) : QE X T ES (.BoolOp .And (a :: b :: rest) pos) (dAndV da db) := ⟨pe_imp (pe_and ha.h hb.h) fun σ H Q hQQ => lft_el hQQ fun W ρ M k hh hs p =>
  ⟨W, ρ, M, k, hh, hs, Post.bind p fun W1 M1 x v H1 l1 h1 r1 p1 => by
    split at p1
    · exact ⟨true, r1, by rw [if_pos rfl]; exact ⟨W1, ρ, M1, l1.k.trans k, h1, hs.up l1, p1⟩⟩
    · exact ⟨false, r1, by rw [if_neg (by simp)]; exact p1 W1 H1 _ (.refl W1) h1 rfl⟩
    · exact p1.elim⟩⟩
theorem qe_not (ha : QE X T ES a da) : QE X T ES (.UnaryOp .Not a pos) (dNotV da) := ⟨pe_imp (pe_not ha.h) fun σ H Q hQQ => lft_el hQQ fun W ρ M k hh hs p =>
  ⟨W, ρ, M, k, hh, hs, Post.bind p fun W1 M1 x v H1 l1 h1 r1 p1 => by
    split at p1
    · exact ⟨_, r1, p1 W1 H1 _ (.refl W1) h1 rfl⟩
    · exact p1.elim⟩⟩
def dIf (t : DT) (da db : DE) : DE := fun ρ M => (t ρ M).bind fun c M1 => if c = true then da ρ M1 else db ρ M1
theorem qe_if (hc : QT X T ES c ta) (ha : QE X T ES a da) (hb : QE X T ES b db) : QE X T ES (.IfExp c a b pos) (dIf ta da db) := ⟨pe_imp (pe_ifExp hc.h ha.h hb.h) fun σ H Q hQQ => lft_el hQQ fun W ρ M k hh hs p =>
  ⟨W, ρ, M, k, hh, hs, Post.bind p fun W1 M1 x v H1 l1 h1 r1 p1 => by
    subst r1
    cases v with
    | true => rw [if_pos rfl] at p1 ⊢; exact ⟨W1, ρ, M1, l1.k.trans k, h1, hs.up l1, p1⟩
    | false => rw [if_neg (by simp)] at p1 ⊢; exact ⟨W1, ρ, M1, l1.k.trans k, h1, hs.up l1, p1⟩⟩⟩
def truP (M : Sto) : PV → Option Bool
  | .non => some false
  | .bl b => some b
  | .int i => some (i != 0)
  | .tup xs => some (!xs.isEmpty)
  | x => (seqP M x).map fun xs => !xs.isEmpty
theorem Reps.empty {W : Wd} : ∀ {xs : List PV} {vs : List V}, Reps W xs vs → vs.isEmpty = xs.isEmpty
  | [], _, r => by cases r; rfl
  | _ :: _, _, ⟨_, _, e, _⟩ => by subst e; rfl
def dTru (d : DE) : DT := fun ρ M => (d ρ M).bind fun x M1 => ofO (truP M1 x) M1
theorem qt_val (hT : T.K = X.K) (h : QE X T ES e d) (he : ∀ whole, isTrue e X.env whole = (do let v ← whole; standAt e.pos; holding [v] (truthy v)) := by intro _; rfl) : QT X T ES e (dTru d) :=
  ⟨pt_imp (pt_tru h.h he) fun σ H Q hQQ => lft_el hQQ fun W ρ M k hh hs p => ⟨W, ρ, M, k, hh, hs, Post.bind p fun W1 M1 x v H1 l1 h1 r1 p1 => by
    cases e1 : truP M1 x with
    | none => rw [e1] at p1; exact p1.elim
    | some b =>
      rw [e1] at p1
      refine ⟨b, ?_, p1 W1 H1 b (.refl W1) h1 rfl⟩
      have sq : ∀ y, seqP M1 y = seqP M1 x → (seqP M1 x).map (fun xs => !xs.isEmpty) = some b → TruV X.K v H1 b := fun y _ q => by
        cases e2 : seqP M1 x with
        | none => rw [e2] at q; cases q
        | some xs =>
          rw [e2] at q
          cases q
          obtain ⟨a, vs, rfl, e3, rr⟩ := seq_at h1 r1 e2
          exact .inl ⟨vs, SqL.of e3, by rw [rr.empty]⟩
      cases x with
      | non => cases e1; cases r1; rfl
      | bl c => cases e1; cases r1; rfl
      | int i => cases e1; cases r1; rfl
      | tup xs =>
        cases e1
        obtain ⟨a, vs, rfl, e3, rr⟩ := tup_at h1 r1
        rw [l1.k.trans k, hT] at e3
        exact .inr (.inl ⟨vs, e3, by rw [rr.empty]⟩)
      | lst xs => exact sq _ rfl e1
      | ref i => exact sq _ rfl e1
      | _ => cases e1⟩⟩
end
end L3

namespace L3
open PySem L2
mutual
def plain : PV → Bool
  | .non => true
  | .bl _ => true
  | .int _ => true
  | .str _ => true
  | .tup xs => plains xs
  | .lst xs => plains xs
  | _ => false
def plains : List PV → Bool
  | [] => true
  | x :: xs => plain x && plains xs
end
mutual
def dep : PV → Nat
  | .tup xs => deps xs + 1
  | .lst xs => deps xs + 1
  | _ => 0
def deps : List PV → Nat
  | [] => 0
  | x :: xs => max (dep x) (deps xs)
end
mutual
def eqB : PV → PV → Bool
  | .non, .non => true
  | .bl a, .bl b => a == b
  | .bl a, .int b => (if a then 1 else 0) == b
  | .int a, .bl b => a == (if b then 1 else 0)
  | .int a, .int b => a == b
  | .str a, .str b => a == b
  | .tup xs, .tup ys => eqBs xs ys
  | .lst xs, .lst ys => eqBs xs ys
  | _, _ => false
def eqBs : List PV → List PV → Bool
  | [], [] => true
  | x :: xs, y :: ys => eqB x y && eqBs xs ys
  | _, _ => false
end
theorem plains_get : ∀ {xs : List PV} {j : Nat} {x : PV}, plains xs = true → xs[j]? = some x → plain x = true
  | [], _, _, _, e => by simp at e
  | y :: ys, 0, x, h, e => by
    simp at e
    subst e
    unfold plains at h
    exact (Bool.and_eq_true_iff.mp h).1
  | y :: ys, j + 1, x, h, e => by
    unfold plains at h
    exact plains_get (j := j) (Bool.and_eq_true_iff.mp h).2 (by simpa using e)
theorem dep_get : ∀ {xs : List PV} {j : Nat} {x : PV}, xs[j]? = some x → dep x ≤ deps xs
  | [], _, _, e => by simp at e
  | y :: ys, 0, x, e => by
    simp at e
    subst e
    show dep y ≤ max (dep y) (deps ys)
    omega
  | y :: ys, j + 1, x, e => by
    have := dep_get (j := j) (xs := ys) (x := x) (by simpa using e)
    show dep x ≤ max (dep y) (deps ys)
    omega
theorem eqBs_len : ∀ {xs ys : List PV}, xs.length ≠ ys.length → eqBs xs ys = false
  | [], [], h => absurd rfl h
  | [], _ :: _, _ => rfl
  | _ :: _, [], _ => rfl
  | x :: xs, y :: ys, h => by
    have : eqBs xs ys = false := eqBs_len fun e => h (by simp [e])
    show (eqB x y && eqBs xs ys) = false
    rw [this, Bool.and_false]
theorem eqBs_range : ∀ {xs ys : List PV}, xs.length = ys.length → ((List.range xs.length).all fun i => eqB (xs.getD i .non) (ys.getD i .non)) = eqBs xs ys
  | [], [], _ => rfl
  | x :: xs, y :: ys, h => by
    rw [List.length_cons, List.range_succ_eq_map, List.all_cons, List.all_map]
    have ih := eqBs_range (xs := xs) (ys := ys) (by simpa using h)
    show (eqB x y && _) = (eqB x y && eqBs xs ys)
    rw [← ih]
    rfl
  | [], _ :: _, h => by simp at h
  | _ :: _, [], h => by simp at h
mutual
theorem eqB_refl : ∀ {x : PV}, plain x = true → eqB x x = true
  | .non, _ => rfl
  | .bl b, _ => by show (b == b) = true; simp
  | .int b, _ => by show (b == b) = true; simp
  | .str b, _ => by show (b == b) = true; simp
  | .tup xs, h => eqBs_refl (xs := xs) h
  | .lst xs, h => eqBs_refl (xs := xs) h
theorem eqBs_refl : ∀ {xs : List PV}, plains xs = true → eqBs xs xs = true
  | [], _ => rfl
  | x :: xs, h => by
    unfold plains at h
    have h := Bool.and_eq_true_iff.mp h
    show (eqB x x && eqBs xs xs) = true
    rw [eqB_refl h.1, eqBs_refl h.2]
    rfl
end
def AtH (W : Wd) (s : Shared) : PV → Value → Prop
  | .non, u => u = .none
  | .bl b, u => u = .bool b
  | .int i, u => ∃ t, u = .int i t
  | .str x, u => ∃ t, u = .str x t
  | .lst xs, u => ∃ a its vs, u = .ref a ∧ s.heap.IsList a (List.toArray its) ∧ Vals vs its ∧ Reps W xs vs
  | .tup xs, u => ∃ a its vs, u = .ref a ∧ s.heap.IsTuple a (List.toArray its) ∧ Vals vs its ∧ Reps W xs vs
  | _, _ => False
theorem vals_get : ∀ {xs : List V} {us : List Value} {j : Nat} {u : Value}, Vals xs us → us[j]? = some u → ∃ v, xs[j]? = some v ∧ RelV v u
  | _, _, _, _, .nil, e => by simp at e
  | _, _, 0, _, .cons r _, e => by simp at e; subst e; exact ⟨_, rfl, r⟩
  | _, _, j + 1, u, .cons _ t, e => by
    obtain ⟨v, h1, h2⟩ := vals_get (j := j) t (by simpa using e)
    exact ⟨v, by simpa using h1, h2⟩
theorem reps_get : ∀ {W : Wd} {xs : List PV} {vs : List V} {i : Nat} {v : V}, Reps W xs vs → vs[i]? = some v → ∃ x, xs[i]? = some x ∧ Rep W x v
  | _, [], _, _, _, r, e => by cases r; simp at e
  | _, _ :: _, _, 0, _, ⟨v, r, e, a, _⟩, q => by subst e; simp at q; subst q; exact ⟨_, rfl, a⟩
  | _, _ :: _, _, i + 1, _, ⟨v, r, e, _, b⟩, q => by
    subst e
    obtain ⟨x, h1, h2⟩ := reps_get (i := i) b (by simpa using q)
    exact ⟨x, by simpa using h1, h2⟩
section
variable {X : Cx} {pins : List (Addr × Obj)} {σ : St} {H : Hp} {s : Shared} {W : Wd} {M : Sto}
theorem atH (I : Inv X pins σ H s) (hh : Held W M H) (hT : W.T.K = X.K) {x : PV} {v : V} {u : Value} (p : plain x = true) (r : Rep W x v) (q : RelV v u) : AtH W s x u := by
  cases x with
  | non => cases r; exact q
  | bl b => cases r; exact q
  | int b => cases r; exact q
  | str b => cases r; exact q
  | lst xs =>
    obtain ⟨a, vs, rfl, e, rr⟩ := r
    cases q
    obtain ⟨its, rv, pl, _⟩ := I.list (SqL.of (hh.f _ _ e))
    exact ⟨a, its, vs, rfl, pl.isList, rv, rr⟩
  | tup xs =>
    obtain ⟨a, vs, rfl, e, rr⟩ := r
    cases q
    obtain ⟨its, rv, pl, _⟩ := I.tuple (show SqT X.K H a vs from hT ▸ seqT hh.f e)
    exact ⟨a, its, vs, rfl, pl, rv, rr⟩
  | _ => cases p
theorem lt_no {a : Addr} {its its' : Array Value} (h : s.heap.IsList a its) (h' : s.heap.IsTuple a its') : False := SeqAt.ne_of_list_tuple h h' rfl
def back : V → Option PV
  | .non => some .non
  | .bl b => some (.bl b)
  | .int i => some (.int i)
  | .str x => some (.str x)
  | _ => none
theorem rep_back (I : Inv X pins σ H s) (hh : Held W M H) (hT : W.T.K = X.K) {x : PV} {v : V} (p : plain x = true) (r : Rep W x v) : back v = some x ∨ ∃ a vs, v = .ref a ∧ ((∃ xs, x = .lst xs ∧ W.F a = some (.lst vs) ∧ Reps W xs vs ∧ ∃ its, s.heap.IsList a its) ∨ (∃ xs, x = .tup xs ∧ SqT X.K H a vs ∧ Reps W xs vs ∧ ∃ its, s.heap.IsTuple a its)) := by
  cases x with
  | non => cases r; exact .inl rfl
  | bl _ => cases r; exact .inl rfl
  | int _ => cases r; exact .inl rfl
  | str _ => cases r; exact .inl rfl
  | lst xs =>
    obtain ⟨a, vs, rfl, e, rr⟩ := r
    obtain ⟨its, _, pl, _⟩ := I.list (SqL.of (hh.f _ _ e))
    exact .inr ⟨a, vs, rfl, .inl ⟨xs, rfl, e, rr, _, pl.isList⟩⟩
  | tup xs =>
    obtain ⟨a, vs, rfl, e, rr⟩ := r
    have e := (show SqT X.K H a vs from hT ▸ seqT hh.f e)
    obtain ⟨its, _, pl, _⟩ := I.tuple e
    exact .inr ⟨a, vs, rfl, .inr ⟨xs, rfl, e, rr, _, pl⟩⟩
  | _ => cases p
theorem reps_inj {n : Nat} (ih : ∀ (x y : PV) (v : V), dep x < n → plain x = true → plain y = true → Rep W x v → Rep W y v → x = y) (xs : List PV) : ∀ (ys : List PV) (vs : List V), deps xs < n → plains xs = true → plains ys = true → Reps W xs vs → Reps W ys vs → xs = ys := by
  induction xs with
  | nil =>
    intro ys vs _ _ _ r q
    cases r
    cases ys with
    | nil => rfl
    | cons y ys => obtain ⟨_, _, e, _⟩ := q; cases e
  | cons x xs hi =>
    intro ys vs hn p p' r q
    obtain ⟨v, r, rfl, a, b⟩ := r
    cases ys with
    | nil => cases q
    | cons y ys =>
      obtain ⟨v', r', e', a', b'⟩ := q
      cases e'
      unfold plains at p p'
      have p := Bool.and_eq_true_iff.mp p
      have p' := Bool.and_eq_true_iff.mp p'
      have hn : max (dep x) (deps xs) < n := hn
      rw [ih x y v (by omega) p.1 p'.1 a a', hi ys r (by omega) p.2 p'.2 b b']
theorem at_inj (I : Inv X pins σ H s) (hh : Held W M H) (hT : W.T.K = X.K) {x y : PV} {v : V} (px : plain x = true) (py : plain y = true) (rx : Rep W x v) (ry : Rep W y v) : x = y := by
  suffices h : ∀ (n : Nat) (x y : PV) (v : V), dep x < n → plain x = true → plain y = true → Rep W x v → Rep W y v → x = y from h _ x y v (Nat.lt_succ_self _) px py rx ry
  intro n
  induction n with
  | zero => intro x y v h; exact absurd h (Nat.not_lt_zero _)
  | succ n ih =>
  intro x y v hn px py rx ry
  rcases rep_back I hh hT px rx with h | ⟨a, vs, rfl, h⟩
  · rcases rep_back I hh hT py ry with h' | ⟨a, vs, rfl, _⟩
    · rw [h] at h'; exact Option.some.inj h'
    · cases h
  rcases rep_back I hh hT py ry with h' | ⟨a', us, e, h'⟩
  · cases h'
  cases e
  rcases h with ⟨xs, rfl, f, rr, its, hl⟩ | ⟨xs, rfl, f, rr, its, hl⟩ <;> rcases h' with ⟨ys, rfl, f', rr', its', hl'⟩ | ⟨ys, rfl, f', rr', its', hl'⟩
  · rw [f] at f'
    cases f'
    rw [reps_inj ih xs ys vs (show deps xs < n from Nat.lt_of_succ_lt_succ hn) px py rr rr']
  · exact (lt_no hl hl').elim
  · exact (lt_no hl' hl).elim
  · have := I.tuple_inj f f'
    subst this
    rw [reps_inj ih xs ys vs (show deps xs < n from Nat.lt_of_succ_lt_succ hn) px py rr rr']
theorem els_at {I0 : Prop} {xs ys : List PV} {vs us : List V} {its its' : List Value} {A : Around} (ih : ∀ (x y : PV) {v u : V} {v' u' : Value}, dep x ≤ deps xs → plain x = true → plain y = true → Rep W x v → Rep W y u → RelV v v' → RelV u u' → SeqAt.EqAt A s v' u' (eqB x y))
    (px : plains xs = true) (py : plains ys = true) (rx : Reps W xs vs) (ry : Reps W ys us) (qx : Vals vs its) (qy : Vals us its') {j : Nat} (h1 : j < its.length) (h2 : j < its'.length) : SeqAt.EqAt A s its[j] its'[j] (eqB (xs.getD j .non) (ys.getD j .non)) := by
  obtain ⟨v, e1, r1⟩ := vals_get qx (List.getElem?_eq_getElem h1)
  obtain ⟨u, e2, r2⟩ := vals_get qy (List.getElem?_eq_getElem h2)
  obtain ⟨x, e3, r3⟩ := reps_get rx e1
  obtain ⟨y, e4, r4⟩ := reps_get ry e2
  rw [List.getD_eq_getElem?_getD, List.getD_eq_getElem?_getD, e3, e4]
  exact ih x y (dep_get e3) (plains_get px e3) (plains_get py e4) r3 r4 r1 r2
theorem eqAt_P (I : Inv X pins σ H s) (hh : Held W M H) (hT : W.T.K = X.K) : ∀ (n : Nat) (x y : PV) {v u : V} {v' u' : Value} (A : Around), dep x < n → A.units + dep x < cLine → plain x = true → plain y = true → Rep W x v → Rep W y u → RelV v v' → RelV u u' → SeqAt.EqAt A s v' u' (eqB x y) := by
  intro n
  induction n with
  | zero => intro x y v u v' u' A h; exact absurd h (Nat.not_lt_zero _)
  | succ n ih =>
  intro x y v u v' u' A hn hu px py rx ry qx qy
  cases x with
  | lst xs =>
    have hn : deps xs + 1 < n + 1 := hn
    have hu : A.units + (deps xs + 1) < cLine := hu
    obtain ⟨a, its, vs, rfl, il, rv, rr⟩ := (show AtH W s (.lst xs) v' from atH I hh hT px rx qx)
    have hy := atH I hh hT py ry qy
    cases y with
    | lst ys =>
      obtain ⟨b, its', us, rfl, il', rv', rr'⟩ := hy
      by_cases hab : a = b
      · subst hab
        have e : v = u := qx.inj qy
        subst e
        have e := at_inj I hh hT px py rx ry
        cases e
        rw [eqB_refl px]
        exact SeqAt.EqAt.same _
      · refine SeqAt.EqAt.of_refs hab ?_
        have l1 := rv.length
        have l2 := rv'.length
        have l3 := rr.length
        have l4 := rr'.length
        by_cases hl : xs.length = ys.length
        · have := SeqAt.RcAt.lists (A := A) (e := fun j => eqB (xs.getD j .non) (ys.getD j .non)) il il' (by simp; omega) (by omega) fun j h1 h2 => els_at (I0 := True) (fun x y v u v' u' hd => ih x y A.in1 (by omega) (show A.units + 1 + dep x < cLine by omega)) px py rr rr' rv rv' (j := j) (by simpa using h1) (by simpa using h2)
          rw [List.size_toArray, show its.length = xs.length by omega, eqBs_range hl] at this
          exact this
        · have := SeqAt.RcAt.lists_lengths (A := A) il il' (by simp; omega) (by omega)
          rw [show eqB (.lst xs) (.lst ys) = false from eqBs_len hl]
          exact this
    | tup ys =>
      obtain ⟨b, its', us, rfl, il', rv', rr'⟩ := hy
      exact SeqAt.EqAt.list_tuple il il' (by omega)
    | non => cases hy; exact SeqAt.EqAt.list_none il (by omega)
    | bl b => cases hy; exact SeqAt.EqAt.list_bool b il (by omega)
    | int b => obtain ⟨t, rfl⟩ := hy; exact SeqAt.EqAt.list_int b t il (by omega)
    | str b => obtain ⟨t, rfl⟩ := hy; exact SeqAt.EqAt.list_str b t il (by omega)
    | _ => cases py
  | tup xs =>
    have hn : deps xs + 1 < n + 1 := hn
    have hu : A.units + (deps xs + 1) < cLine := hu
    obtain ⟨a, its, vs, rfl, il, rv, rr⟩ := (show AtH W s (.tup xs) v' from atH I hh hT px rx qx)
    have hy := atH I hh hT py ry qy
    cases y with
    | tup ys =>
      obtain ⟨b, its', us, rfl, il', rv', rr'⟩ := hy
      by_cases hab : a = b
      · subst hab
        have e : v = u := qx.inj qy
        subst e
        have e := at_inj I hh hT px py rx ry
        cases e
        rw [eqB_refl px]
        exact SeqAt.EqAt.same _
      · refine SeqAt.EqAt.of_refs hab ?_
        have l1 := rv.length
        have l2 := rv'.length
        have l3 := rr.length
        have l4 := rr'.length
        have := SeqAt.RcAt.tuples (A := A) (e := fun j => eqB (xs.getD j .non) (ys.getD j .non)) il il' (by omega) fun j h1 h2 => els_at (I0 := True) (fun x y v u v' u' hd => ih x y A.in1 (by omega) (show A.units + 1 + dep x < cLine by omega)) px py rr rr' rv rv' (j := j) (by simpa using h1) (by simpa using h2)
        by_cases hl : xs.length = ys.length
        · rw [List.size_toArray, List.size_toArray, show its.length = xs.length by omega, show its'.length = xs.length by omega, Nat.min_self, eqBs_range hl, beq_self_eq_true, Bool.and_true] at this
          exact this
        · rw [List.size_toArray, List.size_toArray, show its.length = xs.length by omega, show its'.length = ys.length by omega, show (xs.length == ys.length) = false by simpa using hl, Bool.and_false] at this
          rw [show eqB (.tup xs) (.tup ys) = false from eqBs_len hl]
          exact this
    | lst ys =>
      obtain ⟨b, its', us, rfl, il', rv', rr'⟩ := hy
      exact SeqAt.EqAt.tuple_list il il' (by omega)
    | non => cases hy; exact SeqAt.EqAt.tuple_none il (by omega)
    | bl b => cases hy; exact SeqAt.EqAt.tuple_bool b il (by omega)
    | int b => obtain ⟨t, rfl⟩ := hy; exact SeqAt.EqAt.tuple_int b t il (by omega)
    | str b => obtain ⟨t, rfl⟩ := hy; exact SeqAt.EqAt.tuple_str b t il (by omega)
    | _ => cases py
  | non =>
    cases rx
    cases qx
    have hu : A.units < cLine := hu
    have hy := atH I hh hT py ry qy
    cases y with
    | non => cases hy; exact SeqAt.EqAt.same _
    | bl b => cases hy; exact SeqAt.EqAt.none_bool b
    | int b => obtain ⟨t, rfl⟩ := hy; exact SeqAt.EqAt.none_int b t
    | str b => obtain ⟨t, rfl⟩ := hy; exact SeqAt.EqAt.none_str b t
    | lst ys => obtain ⟨b, its', us, rfl, il', _⟩ := hy; exact SeqAt.EqAt.none_list il' hu
    | tup ys => obtain ⟨b, its', us, rfl, il', _⟩ := hy; exact SeqAt.EqAt.none_tuple il' hu
    | _ => cases py
  | bl a =>
    cases rx
    cases qx
    have hu : A.units < cLine := hu
    have hy := atH I hh hT py ry qy
    cases y with
    | non => cases hy; exact SeqAt.EqAt.bool_none a
    | bl b => cases hy; exact SeqAt.EqAt.bool_bool a b
    | int b => obtain ⟨t, rfl⟩ := hy; exact SeqAt.EqAt.bool_int a b t
    | str b => obtain ⟨t, rfl⟩ := hy; exact SeqAt.EqAt.bool_str a b t
    | lst ys => obtain ⟨b, its', us, rfl, il', _⟩ := hy; exact SeqAt.EqAt.bool_list a il' hu
    | tup ys => obtain ⟨b, its', us, rfl, il', _⟩ := hy; exact SeqAt.EqAt.bool_tuple a il' hu
    | _ => cases py
  | int a =>
    cases rx
    obtain ⟨t, rfl⟩ := qx
    have hu : A.units < cLine := hu
    have hy := atH I hh hT py ry qy
    cases y with
    | non => cases hy; exact SeqAt.EqAt.int_none a t
    | bl b => cases hy; exact SeqAt.EqAt.int_bool a t b
    | int b => obtain ⟨t', rfl⟩ := hy; exact SeqAt.EqAt.int_int a t b t'
    | str b => obtain ⟨t', rfl⟩ := hy; exact SeqAt.EqAt.int_str a t b t'
    | lst ys => obtain ⟨b, its', us, rfl, il', _⟩ := hy; exact SeqAt.EqAt.int_list a t il' hu
    | tup ys => obtain ⟨b, its', us, rfl, il', _⟩ := hy; exact SeqAt.EqAt.int_tuple a t il' hu
    | _ => cases py
  | str a =>
    cases rx
    obtain ⟨t, rfl⟩ := qx
    have hu : A.units < cLine := hu
    have hy := atH I hh hT py ry qy
    cases y with
    | non => cases hy; exact SeqAt.EqAt.str_none a t
    | bl b => cases hy; exact SeqAt.EqAt.str_bool a t b
    | int b => obtain ⟨t', rfl⟩ := hy; exact SeqAt.EqAt.str_int a t b t'
    | str b => obtain ⟨t', rfl⟩ := hy; exact SeqAt.EqAt.str_str a t b t'
    | lst ys => obtain ⟨b, its', us, rfl, il', _⟩ := hy; exact SeqAt.EqAt.str_list a t il' hu
    | tup ys => obtain ⟨b, its', us, rfl, il', _⟩ := hy; exact SeqAt.EqAt.str_tuple a t il' hu
    | _ => cases py
  | _ => cases px
theorem rcAt_P (I : Inv X pins σ H s) (hh : Held W M H) (hT : W.T.K = X.K) {x y : PV} {v u : V} {v' u' : Value} {A : Around} (hu : A.units + dep x < cLine) (px : plain x = true) (py : plain y = true) (rx : Rep W x v) (ry : Rep W y u) (qx : RelV v v') (qy : RelV u u') :
    SeqAt.RcAt A s v' u' (eqB x y) ∧ SeqAt.RcNeAt A s v' u' (!eqB x y) := by
  have hx := atH I hh hT px rx qx
  have hy := atH I hh hT py ry qy
  have hu0 : A.units < cLine := by omega
  cases x with
  | non =>
    cases hx
    cases y with
    | non => cases hy; exact ⟨SeqAt.RcAt.none_none, SeqAt.RcNeAt.none_none⟩
    | bl b => cases hy; exact ⟨SeqAt.RcAt.none_bool b, SeqAt.RcNeAt.none_bool b⟩
    | int b => obtain ⟨t, rfl⟩ := hy; exact ⟨SeqAt.RcAt.none_int b t, SeqAt.RcNeAt.none_int b t⟩
    | str b => obtain ⟨t, rfl⟩ := hy; exact ⟨SeqAt.RcAt.none_str b t, SeqAt.RcNeAt.none_str b t⟩
    | lst ys => obtain ⟨b, its', us, rfl, il', _⟩ := hy; exact ⟨SeqAt.RcAt.none_list il' hu0, SeqAt.RcNeAt.none_list il' hu0⟩
    | tup ys => obtain ⟨b, its', us, rfl, il', _⟩ := hy; exact ⟨SeqAt.RcAt.none_tuple il' hu0, SeqAt.RcNeAt.none_tuple il' hu0⟩
    | _ => cases py
  | bl a =>
    cases hx
    cases y with
    | non => cases hy; exact ⟨SeqAt.RcAt.bool_none a, SeqAt.RcNeAt.bool_none a⟩
    | bl b => cases hy; exact ⟨SeqAt.RcAt.bool_bool a b, SeqAt.RcNeAt.bool_bool a b⟩
    | int b => obtain ⟨t, rfl⟩ := hy; exact ⟨SeqAt.RcAt.bool_int a b t, SeqAt.RcNeAt.bool_int a b t⟩
    | str b => obtain ⟨t, rfl⟩ := hy; exact ⟨SeqAt.RcAt.bool_str a b t, SeqAt.RcNeAt.bool_str a b t⟩
    | lst ys => obtain ⟨b, its', us, rfl, il', _⟩ := hy; exact ⟨SeqAt.RcAt.bool_list a il' hu0, SeqAt.RcNeAt.bool_list a il' hu0⟩
    | tup ys => obtain ⟨b, its', us, rfl, il', _⟩ := hy; exact ⟨SeqAt.RcAt.bool_tuple a il' hu0, SeqAt.RcNeAt.bool_tuple a il' hu0⟩
    | _ => cases py
  | int a =>
    obtain ⟨t, rfl⟩ := hx
    cases y with
    | non => cases hy; exact ⟨SeqAt.RcAt.int_none a t, SeqAt.RcNeAt.int_none a t⟩
    | bl b => cases hy; exact ⟨SeqAt.RcAt.int_bool a t b, SeqAt.RcNeAt.int_bool a t b⟩
    | int b => obtain ⟨t', rfl⟩ := hy; exact ⟨SeqAt.RcAt.int_int a t b t', SeqAt.RcNeAt.int_int a t b t'⟩
    | str b => obtain ⟨t', rfl⟩ := hy; exact ⟨SeqAt.RcAt.int_str a t b t', SeqAt.RcNeAt.int_str a t b t'⟩
    | lst ys => obtain ⟨b, its', us, rfl, il', _⟩ := hy; exact ⟨SeqAt.RcAt.int_list a t il' hu0, SeqAt.RcNeAt.int_list a t il' hu0⟩
    | tup ys => obtain ⟨b, its', us, rfl, il', _⟩ := hy; exact ⟨SeqAt.RcAt.int_tuple a t il' hu0, SeqAt.RcNeAt.int_tuple a t il' hu0⟩
    | _ => cases py
  | str a =>
    obtain ⟨t, rfl⟩ := hx
    cases y with
    | non => cases hy; exact ⟨SeqAt.RcAt.str_none a t, SeqAt.RcNeAt.str_none a t⟩
    | bl b => cases hy; exact ⟨SeqAt.RcAt.str_bool a t b, SeqAt.RcNeAt.str_bool a t b⟩
    | int b => obtain ⟨t', rfl⟩ := hy; exact ⟨SeqAt.RcAt.str_int a t b t', SeqAt.RcNeAt.str_int a t b t'⟩
    | str b => obtain ⟨t', rfl⟩ := hy; exact ⟨SeqAt.RcAt.str_str a t b t', SeqAt.RcNeAt.str_str a t b t'⟩
    | lst ys => obtain ⟨b, its', us, rfl, il', _⟩ := hy; exact ⟨SeqAt.RcAt.str_list a t il' hu0, SeqAt.RcNeAt.str_list a t il' hu0⟩
    | tup ys => obtain ⟨b, its', us, rfl, il', _⟩ := hy; exact ⟨SeqAt.RcAt.str_tuple a t il' hu0, SeqAt.RcNeAt.str_tuple a t il' hu0⟩
    | _ => cases py
  | lst xs =>
    obtain ⟨a, its, vs, rfl, il, rv, rr⟩ := hx
    have hu : A.units + (deps xs + 1) < cLine := hu
    cases y with
    | lst ys =>
      obtain ⟨b, its', us, rfl, il', rv', rr'⟩ := hy
      have l1 := rv.length
      have l2 := rv'.length
      have l3 := rr.length
      have l4 := rr'.length
      by_cases hl : xs.length = ys.length
      · have t1 := SeqAt.RcAt.lists (A := A) (e := fun j => eqB (xs.getD j .non) (ys.getD j .non)) il il' (by simp; omega) (by omega) fun j h1 h2 => els_at (I0 := True) (fun x y v u v' u' hd => eqAt_P I hh hT (dep x + 1) x y A.in1 (by omega) (show A.units + 1 + dep x < cLine by omega)) px py rr rr' rv rv' (j := j) (by simpa using h1) (by simpa using h2)
        have t2 := SeqAt.RcNeAt.lists (A := A) (e := fun j => eqB (xs.getD j .non) (ys.getD j .non)) il il' (by simp; omega) (by omega) fun j h1 h2 => els_at (I0 := True) (fun x y v u v' u' hd => eqAt_P I hh hT (dep x + 1) x y A.in1 (by omega) (show A.units + 1 + dep x < cLine by omega)) px py rr rr' rv rv' (j := j) (by simpa using h1) (by simpa using h2)
        rw [List.size_toArray, show its.length = xs.length by omega, eqBs_range hl] at t1 t2
        exact ⟨t1, t2⟩
      · rw [show eqB (.lst xs) (.lst ys) = false from eqBs_len hl]
        exact ⟨SeqAt.RcAt.lists_lengths (A := A) il il' (by simp; omega) (by omega), SeqAt.RcNeAt.lists_lengths (A := A) il il' (by simp; omega) (by omega)⟩
    | tup ys => obtain ⟨b, its', us, rfl, il', rv', rr'⟩ := hy; exact ⟨SeqAt.RcAt.list_tuple il il' (by omega), SeqAt.RcNeAt.list_tuple il il' (by omega)⟩
    | non => cases hy; exact ⟨SeqAt.RcAt.list_none il (by omega), SeqAt.RcNeAt.list_none il (by omega)⟩
    | bl b => cases hy; exact ⟨SeqAt.RcAt.list_bool b il (by omega), SeqAt.RcNeAt.list_bool b il (by omega)⟩
    | int b => obtain ⟨t, rfl⟩ := hy; exact ⟨SeqAt.RcAt.list_int b t il (by omega), SeqAt.RcNeAt.list_int b t il (by omega)⟩
    | str b => obtain ⟨t, rfl⟩ := hy; exact ⟨SeqAt.RcAt.list_str b t il (by omega), SeqAt.RcNeAt.list_str b t il (by omega)⟩
    | _ => cases py
  | tup xs =>
    obtain ⟨a, its, vs, rfl, il, rv, rr⟩ := hx
    have hu : A.units + (deps xs + 1) < cLine := hu
    cases y with
    | tup ys =>
      obtain ⟨b, its', us, rfl, il', rv', rr'⟩ := hy
      have l1 := rv.length
      have l2 := rv'.length
      have l3 := rr.length
      have l4 := rr'.length
      have t1 := SeqAt.RcAt.tuples (A := A) (e := fun j => eqB (xs.getD j .non) (ys.getD j .non)) il il' (by omega) fun j h1 h2 => els_at (I0 := True) (fun x y v u v' u' hd => eqAt_P I hh hT (dep x + 1) x y A.in1 (by omega) (show A.units + 1 + dep x < cLine by omega)) px py rr rr' rv rv' (j := j) (by simpa using h1) (by simpa using h2)
      have t2 := SeqAt.RcNeAt.tuples (A := A) (e := fun j => eqB (xs.getD j .non) (ys.getD j .non)) il il' (by omega) fun j h1 h2 => els_at (I0 := True) (fun x y v u v' u' hd => eqAt_P I hh hT (dep x + 1) x y A.in1 (by omega) (show A.units + 1 + dep x < cLine by omega)) px py rr rr' rv rv' (j := j) (by simpa using h1) (by simpa using h2)
      by_cases hl : xs.length = ys.length
      · rw [List.size_toArray, List.size_toArray, show its.length = xs.length by omega, show its'.length = xs.length by omega, Nat.min_self, eqBs_range hl, beq_self_eq_true, Bool.and_true] at t1 t2
        exact ⟨t1, t2⟩
      · rw [List.size_toArray, List.size_toArray, show its.length = xs.length by omega, show its'.length = ys.length by omega, show (xs.length == ys.length) = false by simpa using hl, Bool.and_false] at t1 t2
        rw [show eqB (.tup xs) (.tup ys) = false from eqBs_len hl]
        exact ⟨t1, t2⟩
    | lst ys => obtain ⟨b, its', us, rfl, il', rv', rr'⟩ := hy; exact ⟨SeqAt.RcAt.tuple_list il il' (by omega), SeqAt.RcNeAt.tuple_list il il' (by omega)⟩
    | non => cases hy; exact ⟨SeqAt.RcAt.tuple_none il (by omega), SeqAt.RcNeAt.tuple_none il (by omega)⟩
    | bl b => cases hy; exact ⟨SeqAt.RcAt.tuple_bool b il (by omega), SeqAt.RcNeAt.tuple_bool b il (by omega)⟩
    | int b => obtain ⟨t, rfl⟩ := hy; exact ⟨SeqAt.RcAt.tuple_int b t il (by omega), SeqAt.RcNeAt.tuple_int b t il (by omega)⟩
    | str b => obtain ⟨t, rfl⟩ := hy; exact ⟨SeqAt.RcAt.tuple_str b t il (by omega), SeqAt.RcNeAt.tuple_str b t il (by omega)⟩
    | _ => cases py
  | _ => cases px
end
end L3

namespace L3
open PySem L2
section
variable {X : Cx} {T : Tb} {f : Value → Value → Sem Value}
def gI (C : Int → Int → Bool) (z : Int → Int → PV) : G2 := fun _ x y => match x, y with
  | .int i, .int j => if C i j = true then some (z i j) else none
  | _, _ => none
theorem gI_some {C : Int → Int → Bool} {z : Int → Int → PV} {M : Sto} {x y w : PV} (e : gI C z M x y = some w) : ∃ i j, x = .int i ∧ y = .int j ∧ C i j = true ∧ w = z i j := by
  unfold gI at e
  split at e
  · split at e
    · rename_i h
      cases e
      exact ⟨_, _, rfl, rfl, h, rfl⟩
    · cases e
  · cases e
theorem opI_P {C : Int → Int → Bool} {z : Int → Int → PV} {D : Int → Int → Prop} {zv : Int → Int → V} (h : OpR X f (rI D zv)) (hD : ∀ i j, C i j = true → D i j) (hz : ∀ W i j, Rep W (z i j) (zv i j)) : OpP X T f (gI C z) :=
  opr_imp h fun v u H Q hQQ => by
    obtain ⟨W, M, x, y, w, k, hh, rx, ry, e, q⟩ := hQQ
    obtain ⟨i, j, rfl, rfl, hc, rfl⟩ := gI_some e
    exact ⟨i, j, rx, ry, hD i j hc, q W H _ (.refl W) hh (hz W i j)⟩
theorem opI_P0 {z : Int → Int → PV} {zv : Int → Int → V} (h : OpR X f (rI0 zv)) (hz : ∀ W i j, Rep W (z i j) (zv i j)) : OpP X T f (gI (fun _ _ => true) z) :=
  opr_imp h fun v u H Q hQQ => by
    obtain ⟨W, M, x, y, w, k, hh, rx, ry, e, q⟩ := hQQ
    obtain ⟨i, j, rfl, rfl, hc, rfl⟩ := gI_some e
    exact ⟨i, j, rx, ry, q W H _ (.refl W) hh (hz W i j)⟩
abbrev yes2 : Int → Int → Bool := fun _ _ => true
def gAddI : G2 := gI yes2 fun i j => .int (i + j)
def gSub : G2 := gI yes2 fun i j => .int (i - j)
def cMul (i j : Int) : Bool := (decide (-(2 ^ 64) < i) && decide (i < 2 ^ 64)) || (decide (-(2 ^ 64) < j) && decide (j < 2 ^ 64))
def gMulI : G2 := gI cMul fun i j => .int (i * j)
def gDiv : G2 := gI (fun _ j => decide (0 < j) && decide (j < 1073741824)) fun i j => .int (i / j)
def gMod : G2 := gI (fun _ j => decide (0 < j)) fun i j => .int (i % j)
def gPow : G2 := gI (fun i j => decide (0 ≤ j) && decide (j ≤ 1000000) && decide (i.natAbs < 2 ^ 64)) fun i j => .int (i ^ j.toNat)
def gLt : G2 := gI yes2 fun i j => .bl (decide (i < j))
def gLe : G2 := gI yes2 fun i j => .bl (decide (i ≤ j))
def gGt : G2 := gI yes2 fun i j => .bl (decide (j < i))
def gGe : G2 := gI yes2 fun i j => .bl (decide (j ≤ i))
theorem o_addI : OpP X T (binaryOp .Add) gAddI := opI_P0 op_add fun _ _ _ => rfl
theorem o_sub : OpP X T (binaryOp .Sub) gSub := opI_P0 op_sub fun _ _ _ => rfl
theorem o_mulI : OpP X T (binaryOp .Mult) gMulI := opI_P op_mul (fun i j h => by
  unfold cMul at h
  simp only [Bool.or_eq_true, Bool.and_eq_true, decide_eq_true_eq] at h
  exact h) fun _ _ _ => rfl
theorem o_div : OpP X T (binaryOp .FloorDiv) gDiv := opI_P op_fdiv (fun i j h => by
  simp only [Bool.and_eq_true, decide_eq_true_eq] at h
  exact h) fun _ _ _ => rfl
theorem o_mod : OpP X T (binaryOp .Mod) gMod := opI_P op_mod (fun i j h => of_decide_eq_true h) fun _ _ _ => rfl
theorem o_pow : OpP X T (binaryOp .Pow) gPow := opI_P op_pow (fun i j h => by
  simp only [Bool.and_eq_true, decide_eq_true_eq] at h
  exact ⟨h.1.1, h.1.2, h.2⟩) fun _ _ _ => rfl
theorem o_lt : OpP X T (compareOp .Lt) gLt := opI_P0 op_lt fun _ _ _ => rfl
theorem o_le : OpP X T (compareOp .LtE) gLe := opI_P0 op_le fun _ _ _ => rfl
theorem o_gt : OpP X T (compareOp .Gt) gGt := opI_P0 op_gt fun _ _ _ => rfl
theorem o_ge : OpP X T (compareOp .GtE) gGe := opI_P0 op_ge fun _ _ _ => rfl
def gCat : G2 := fun M x y => match seqP M x, seqP M y with
  | some xs, some ys => if xs.length + ys.length ≤ sizeLine then some (.lst (xs ++ ys)) else none
  | _, _ => none
theorem o_cat : OpP X T (binaryOp .Add) gCat := opr_imp op_cat fun v u H Q hQQ => by
  obtain ⟨W, M, x, y, w, k, hh, rx, ry, e, q⟩ := hQQ
  unfold gCat at e
  split at e
  · rename_i xs ys e1 e2
    split at e
    · rename_i hz
      cases e
      obtain ⟨a, vs, rfl, ha, rv⟩ := seq_at hh rx e1
      obtain ⟨b, us, rfl, hb, ru⟩ := seq_at hh ry e2
      refine ⟨a, b, vs, us, rfl, rfl, ha, hb, by rw [rv.length, ru.length]; exact hz, fun p hp => ?_⟩
      obtain ⟨W2, l2, h2, r2⟩ := new_lst hh (rv.append ru) hp
      exact q W2 _ _ l2 h2 r2
    · cases e
  · cases e
def gCatT : G2 := fun _ x y => match x, y with
  | .tup xs, .tup ys => if xs ≠ [] ∧ xs.length + ys.length ≤ sizeLine then some (.tup (xs ++ ys)) else none
  | _, _ => none
theorem Reps.nil_iff {W : Wd} {xs : List PV} {vs : List V} (r : Reps W xs vs) : vs = [] ↔ xs = [] := by
  have := r.length
  constructor
  · rintro rfl
    exact List.eq_nil_of_length_eq_zero (by simpa using this.symm)
  · rintro rfl
    exact List.eq_nil_of_length_eq_zero (by simpa using this)
theorem o_catT (hT : T.K = X.K) : OpP X T (binaryOp .Add) gCatT := opr_imp op_catT fun v u H Q hQQ => by
  obtain ⟨W, M, x, y, w, k, hh, rx, ry, e, q⟩ := hQQ
  unfold gCatT at e
  split at e
  · rename_i xs ys
    split at e
    · rename_i hz
      cases e
      obtain ⟨a, vs, rfl, ha, rv⟩ := tup_at hh rx
      obtain ⟨b, us, rfl, hb, ru⟩ := tup_at hh ry
      rw [k, hT] at ha hb
      refine ⟨a, b, vs, us, rfl, rfl, ha, hb, fun z => hz.1 (rv.nil_iff.mp z), by rw [rv.length, ru.length]; exact hz.2, fun z => ?_, fun z p hp => ?_⟩
      · have z := ru.nil_iff.mp z
        subst z
        rw [List.append_nil] at q
        exact q W H _ (.refl W) hh rx
      · obtain ⟨W2, l2, h2, r2⟩ := new_tup hh (rv.append ru) hp
        exact q W2 _ _ l2 h2 r2
    · cases e
  · cases e
def gAdd : G2 := orG gAddI (orG gCat gCatT)
theorem o_add (hT : T.K = X.K) : OpP X T (binaryOp .Add) gAdd := opp_or o_addI (opp_or o_cat (o_catT hT))
def gRep : G2 := fun M x y => match y with
  | .int k => (match seqP M x with
    | some xs => if -(2 ^ 63) ≤ k ∧ k < 2 ^ 63 ∧ xs.length * k.toNat ≤ sizeLine then some (.lst (List.replicate k.toNat xs).flatten) else none
    | none => none)
  | _ => none
theorem o_rep : OpP X T (binaryOp .Mult) gRep := opr_imp op_rep fun v u H Q hQQ => by
  obtain ⟨W, M, x, y, w, k, hh, rx, ry, e, q⟩ := hQQ
  unfold gRep at e
  split at e
  · rename_i i
    split at e
    · rename_i xs e1
      split at e
      · rename_i hz
        cases e
        obtain ⟨a, vs, rfl, ha, rv⟩ := seq_at hh rx e1
        refine ⟨a, i, vs, rfl, ry, ha, hz.1, hz.2.1, by rw [rv.length]; exact hz.2.2, fun p hp => ?_⟩
        obtain ⟨W2, l2, h2, r2⟩ := new_lst hh (rv.rep i.toNat) hp
        exact q W2 _ _ l2 h2 r2
      · cases e
    · cases e
  · cases e
def gMul : G2 := orG gMulI gRep
theorem o_mul : OpP X T (binaryOp .Mult) gMul := opp_or o_mulI o_rep
def isNon : PV → Bool
  | .non => true
  | _ => false
theorem isNon_rep {W : Wd} {x : PV} {v : V} (r : Rep W x v) : decide (v = .non) = isNon x := by
  cases x with
  | non => cases r; rfl
  | bl _ => cases r; rfl
  | int _ => cases r; rfl
  | str _ => cases r; rfl
  | ty _ => cases r; rfl
  | top _ => cases r; rfl
  | exn _ => obtain ⟨_, rfl, _⟩ := r; rfl
  | dct _ => obtain ⟨_, _, rfl, _⟩ := r; rfl
  | scr _ => obtain ⟨_, rfl, _⟩ := r; rfl
  | ref _ => obtain ⟨_, rfl, _⟩ := r; rfl
  | tup _ => obtain ⟨_, _, rfl, _⟩ := r; rfl
  | lst _ => obtain ⟨_, _, rfl, _⟩ := r; rfl
def gIsN : G2 := fun _ x y => match y with
  | .non => some (.bl (isNon x))
  | _ => none
def gNotN : G2 := fun _ x y => match y with
  | .non => some (.bl (!isNon x))
  | _ => none
theorem o_isN : OpP X T (compareOp .Is) gIsN := opr_imp op_isN fun v u H Q hQQ => by
  obtain ⟨W, M, x, y, w, k, hh, rx, ry, e, q⟩ := hQQ
  unfold gIsN at e
  split at e
  · cases e
    exact ⟨ry, q W H _ (.refl W) hh (by rw [isNon_rep rx]; rfl)⟩
  · cases e
theorem o_notN : OpP X T (compareOp .IsNot) gNotN := opr_imp op_notN fun v u H Q hQQ => by
  obtain ⟨W, M, x, y, w, k, hh, rx, ry, e, q⟩ := hQQ
  unfold gNotN at e
  split at e
  · cases e
    exact ⟨ry, q W H _ (.refl W) hh (by rw [isNon_rep rx]; rfl)⟩
  · cases e
def gIsB : G2 := fun _ x y => match x, y with
  | .bl a, .bl b => some (.bl (a == b))
  | _, _ => none
theorem o_isB : OpP X T (compareOp .Is) gIsB := opr_imp op_isB fun v u H Q hQQ => by
  obtain ⟨W, M, x, y, w, k, hh, rx, ry, e, q⟩ := hQQ
  unfold gIsB at e
  split at e
  · cases e
    exact ⟨_, _, rx, ry, q W H _ (.refl W) hh rfl⟩
  · cases e
def gIs : G2 := orG gIsN gIsB
theorem o_is : OpP X T (compareOp .Is) gIs := opp_or o_isN o_isB
def look (M : Sto) : PV → PV
  | .ref i => (match M.g i with
    | some (.lst xs) => .lst xs
    | _ => .ref i)
  | x => x
theorem look_none {M : Sto} {i : Nat} (h : ∀ xs, M.g i ≠ some (.lst xs)) : look M (.ref i) = .ref i := by
  show (match M.g i with
    | some (.lst xs) => PV.lst xs
    | _ => .ref i) = _
  split
  · rename_i xs e
    exact absurd e (h xs)
  · rfl
theorem look_lst {M : Sto} {i : Nat} {xs : List PV} (h : M.g i = some (.lst xs)) : look M (.ref i) = .lst xs := by
  show (match M.g i with
    | some (.lst xs) => PV.lst xs
    | _ => .ref i) = _
  rw [h]
def Wd.all (W : Wd) (H : Hp) : Wd := ⟨W.T, H, W.α, fun _ => none⟩
theorem Held.le_all {W : Wd} {M : Sto} {H : Hp} (hh : Held W M H) : W.le0 (W.all H) := ⟨rfl, hh.f, fun _ _ e => e⟩
theorem Held.all {W : Wd} {M : Sto} {H : Hp} (hh : Held W M H) : Held (W.all H) ⟨M.n, fun _ => none⟩ H := ⟨fun _ _ e => e, fun _ _ e => (by cases e), fun _ _ _ _ _ e => (by cases e), hh.top, fun _ _ e => (by cases e), fun _ _ e => (by cases e)⟩
theorem look_rep {W : Wd} {M : Sto} {H : Hp} {x : PV} {v : V} (hh : Held W M H) (r : Rep W x v) : Rep (W.all H) (look M x) v := by
  cases x with
  | ref i =>
    by_cases h : ∃ xs, M.g i = some (.lst xs)
    · obtain ⟨xs, e⟩ := h
      rw [look_lst e]
      obtain ⟨a, rfl, ea⟩ := r
      obtain ⟨b, o, h1, h2, h3, vs, rfl, rr⟩ := hh.m i _ e
      rw [ea] at h1
      cases h1
      exact ⟨a, vs, rfl, h3, rr.up0 hh.le_all⟩
    · rw [look_none fun xs e => h ⟨xs, e⟩]
      exact r.up0 hh.le_all
  | _ => exact r.up0 hh.le_all
def eqG (neg : Bool) : G2 := fun M x y => if plain (look M x) = true ∧ plain (look M y) = true ∧ dep (look M x) ≤ 60 then some (.bl (if neg then !eqB (look M x) (look M y) else eqB (look M x) (look M y))) else none
theorem o_eq (hT : T.K = X.K) (hu : X.A.units + 64 < cLine) : OpP X T (compareOp .Eq) (eqG false) := by
  intro pins s σ H v u v' u' Q I rv ru h
  obtain ⟨W, M, x, y, w, k, hh, rx, ry, e, q⟩ := h
  unfold eqG at e
  split at e
  · rename_i hp
    cases e
    have t := (rcAt_P I hh.all (show W.T.K = X.K by rw [k]; exact hT) (A := X.A) (by omega) hp.1 hp.2.1 (look_rep hh rx) (look_rep hh ry) rv ru).1
    exact t X.prog X.w X.xe _ ⟨.bl _, H, I, rfl, q W H _ (.refl W) hh rfl⟩
  · cases e
theorem o_ne (hT : T.K = X.K) (hu : X.A.units + 64 < cLine) : OpP X T (compareOp .NotEq) (eqG true) := by
  intro pins s σ H v u v' u' Q I rv ru h
  obtain ⟨W, M, x, y, w, k, hh, rx, ry, e, q⟩ := h
  unfold eqG at e
  split at e
  · rename_i hp
    cases e
    have t := (rcAt_P I hh.all (show W.T.K = X.K by rw [k]; exact hT) (A := X.A) (by omega) hp.1 hp.2.1 (look_rep hh rx) (look_rep hh ry) rv ru).2
    exact t X.prog X.w X.xe _ ⟨.bl _, H, I, rfl, q W H _ (.refl W) hh rfl⟩
  · cases e
theorem atI_rep {W : Wd} {xs : List PV} {vs : List V} {i : Int} {x : PV} (r : Reps W xs vs) (e : atI xs i = some x) : ∃ v, atI vs i = some v ∧ Rep W x v := by
  unfold atI at e ⊢
  rw [r.length]
  cases h : ixN xs.length i with
  | none => rw [h] at e; cases e
  | some j =>
    rw [h] at e
    exact r.get e
def gIx : G2 := fun M x y => match y with
  | .int i => (anyP M x).bind fun xs => atI xs i
  | _ => none
abbrev IxP (X : Cx) (T : Tb) (g : G2) : Prop := IxR X (rP T g)
theorem x_ix (hT : T.K = X.K) : IxP X T gIx := by
  intro value slice pins s σ H v u v' u' Q I rv ru h hs
  refine (ix_list.or ix_tup) value slice pins s σ H v u v' u' Q I rv ru ?_ hs
  obtain ⟨W, M, x, y, w, k, hh, rx, ry, e, q⟩ := h
  unfold gIx at e
  split at e
  · rename_i i
    cases e1 : anyP M x with
    | none => rw [e1] at e; cases e
    | some xs =>
      rw [e1] at e
      obtain ⟨a, vs, rfl, hq, rr⟩ := any_at hh rx e1
      obtain ⟨z, e2, rz⟩ := atI_rep rr e
      rw [k, hT] at hq
      rcases hq with hq | hq
      · exact .inl ⟨a, vs, i, z, rfl, ry, hq, e2, q W H z (.refl W) hh rz⟩
      · exact .inr ⟨a, vs, i, z, rfl, ry, hq, e2, q W H z (.refl W) hh rz⟩
  · cases e
variable {ES : St → XK} {a b : Expr} {pos : Pos} {da db : DE}
theorem qe_ix {g : G2} (hr : IxP X T g) (ha : QE X T ES a da) (hb : QE X T ES b db) (hs : PlainIx b) : QE X T ES (.Subscript a b pos) (dOp g da db) := ⟨pe_imp (pe_ix hr ha.h hb.h hs) fun _ _ _ => op_lift⟩
structure QO (X : Cx) (T : Tb) (ES : St → XK) (e : Option Expr) (d : En → Sto → Res (Option Int)) : Prop where
  h : PO X e (lft T (fun _ a b => b = a) ES d)
def dON : En → Sto → Res (Option Int) := fun _ M => .ok none M
def dOS (d : DE) : En → Sto → Res (Option Int) := fun ρ M => (d ρ M).bind fun x M1 => match x with
  | .int i => .ok (some i) M1
  | _ => .bad
def cutP (xs : List PV) (lo hi : Option Int) : List PV := (xs.drop (HT.sIx xs.length 0 lo)).take (HT.sIx xs.length xs.length hi - HT.sIx xs.length 0 lo)
def gSl (M : Sto) (x : PV) (lo hi : Option Int) : Option PV := match x with
  | .tup xs => if ¬ (HT.sIx xs.length 0 lo = 0 ∧ HT.sIx xs.length xs.length hi = xs.length) then some (.tup (cutP xs lo hi)) else some (.tup xs)
  | x => (seqP M x).map fun xs => .lst (cutP xs lo hi)
def dSl (d : DE) (dl dh : En → Sto → Res (Option Int)) : DE := fun ρ M => (d ρ M).bind fun x M1 => (dl ρ M1).bind fun lo M2 => (dh ρ M2).bind fun hi M3 => ofO (gSl M3 x lo hi) M3
def gNeg (_ : Sto) : PV → Option PV
  | .int i => some (.int (-i))
  | _ => none
def dUn (g : Sto → PV → Option PV) (d : DE) : DE := fun ρ M => (d ρ M).bind fun x M1 => ofO (g M1 x) M1
theorem qe_neg (ha : QE X T ES a da) : QE X T ES (.UnaryOp .USub a pos) (dUn gNeg da) := ⟨pe_imp (pe_un un_neg ha.h) fun σ H Q hQQ => lft_el hQQ fun W ρ M k hh hs p => ⟨W, ρ, M, k, hh, hs, Post.bind p fun W1 M1 x v H1 l1 h1 r1 p1 => by
  cases x with
  | int i => exact ⟨i, r1, p1 W1 H1 _ (.refl W1) h1 rfl⟩
  | _ => exact p1.elim⟩⟩
end
end L3

namespace L3
open PySem L2
open Classical in
noncomputable def eqW (W : Wd) (y : PV) (ys : List PV) (u : Value) : Bool := decide (∃ z ∈ ys, ∃ v, Rep W z v ∧ RelV v u ∧ eqB z y = true)
section
variable {X : Cx} {T : Tb} {pins : List (Addr × Obj)} {σ : St} {H : Hp} {s : Shared} {W : Wd} {M : Sto}
theorem plains_mem : ∀ {xs : List PV} {x : PV}, plains xs = true → x ∈ xs → plain x = true := fun {xs x} h hm => by
  obtain ⟨j, e⟩ := List.mem_iff_getElem?.mp hm
  exact plains_get h e
open Classical in
theorem eqW_at (I : Inv X pins σ H s) (hh : Held W M H) (hT : W.T.K = X.K) {y : PV} {ys : List PV} {z : PV} {v : V} {u : Value} (hz : z ∈ ys) (p : plains ys = true) (r : Rep W z v) (q : RelV v u) : eqW W y ys u = eqB z y := by
  unfold eqW
  cases e : eqB z y with
  | true => exact decide_eq_true ⟨z, hz, v, r, q, e⟩
  | false =>
    refine decide_eq_false fun hQQ => ?_
    obtain ⟨z', hz', v', r', q', e'⟩ := hQQ
    cases q'.inj q
    have := at_inj I hh hT (plains_mem p hz') (plains_mem p hz) r' r
    subst this
    rw [e] at e'
    cases e'
theorem any_eqW (I : Inv X pins σ H s) (hh : Held W M H) (hT : W.T.K = X.K) {y : PV} {ys : List PV} (p : plains ys = true) : ∀ {zs : List PV} {vs : List V} {us : List Value}, (∀ z ∈ zs, z ∈ ys) → Reps W zs vs → Vals vs us → us.any (eqW W y ys) = zs.any fun z => eqB z y
  | [], _, _, _, r, q => by cases r; cases q; rfl
  | z :: zs, _, _, hm, ⟨v, r, e, a, b⟩, q => by
    subst e
    cases q with
    | cons q1 q2 =>
      rw [List.any_cons, List.any_cons, eqW_at I hh hT (hm z List.mem_cons_self) p a q1, any_eqW I hh hT p (fun w hw => hm w (List.mem_cons_of_mem _ hw)) b q2]
theorem in_ok (hT : T.K = X.K) (hu : X.A.units + 100 < cLine) (I : Inv X pins σ H s) (hh : Held W M H) (k : W.T = T) {x y : PV} {v u : V} {v' u' : Value} {ys : List PV} (rx : Rep W x v) (ry : Rep W y u) (qx : RelV v v') (qy : RelV u u') (e : anyP M y = some ys) (px : plain (look M x) = true)
    (py : plains ys = true) (pd : ∀ z ∈ ys, dep z ≤ 60) {Q : Value → Shared → Prop} {E : Value → Shared → Prop} : (Q (.bool (ys.any fun z => eqB z (look M x))) s → wpAny (model X.prog X.w) X.A (compareOp .In v' u') Q E s) ∧
      (Q (.bool (!(ys.any fun z => eqB z (look M x)))) s → wpAny (model X.prog X.w) X.A (compareOp .NotIn v' u') Q E s) := by
  have kk : (W.all H).T.K = X.K := by
    show W.T.K = X.K
    rw [k]
    exact hT
  obtain ⟨a, vs, rfl, hq, rr⟩ := any_at hh ry e
  cases qy
  rw [k, hT] at hq
  have rr := rr.up0 hh.le_all
  have rx := look_rep hh rx
  have tests : ∀ {its : List Value}, Vals vs its → (∀ w, w ∈ its.toArray → SeqAt.EqAt X.A.in1 s w v' (eqW (W.all H) (look M x) ys w)) ∧ its.toArray.any (eqW (W.all H) (look M x) ys) = ys.any fun z => eqB z (look M x) := fun {its} rv => by
    refine ⟨fun w hw => ?_, ?_⟩
    · obtain ⟨j, ej⟩ := List.mem_iff_getElem?.mp (show w ∈ its by simpa using hw)
      obtain ⟨v2, e1, r1⟩ := vals_get rv ej
      obtain ⟨z, e2, r2⟩ := reps_get rr e1
      have hz := List.mem_of_getElem? e2
      rw [eqW_at I hh.all kk hz py r2 r1]
      have := pd z hz
      exact eqAt_P I hh.all kk (dep z + 1) z (look M x) X.A.in1 (Nat.lt_succ_self _) (show X.A.units + 1 + dep z < cLine by omega) (plains_mem py hz) px r2 rx r1 qx
    · rw [List.any_toArray]
      exact any_eqW I hh.all kk py (fun _ z => z) rr rv
  rcases hq with hq | hq
  · obtain ⟨its, rv, pl, hz⟩ := I.list hq
    obtain ⟨t1, t2⟩ := tests rv
    exact ⟨fun q => SeqAt.in_listAt _ pl.isList t1 (by rw [t2]; exact q), fun q => SeqAt.notIn_listAt _ pl.isList t1 (by rw [t2]; exact q)⟩
  · obtain ⟨its, rv, pl, hz⟩ := I.tuple hq
    obtain ⟨t1, t2⟩ := tests rv
    exact ⟨fun q => SeqAt.in_tupleAt _ pl t1 (by rw [t2]; exact q), fun q => SeqAt.notIn_tupleAt _ pl t1 (by rw [t2]; exact q)⟩
def deep60 : List PV → Bool
  | [] => true
  | z :: zs => decide (dep z ≤ 60) && deep60 zs
theorem deep60_mem : ∀ {zs : List PV} {z : PV}, deep60 zs = true → z ∈ zs → dep z ≤ 60
  | [], _, _, h => by cases h
  | w :: ws, z, e, h => by
    unfold deep60 at e
    have e := Bool.and_eq_true_iff.mp e
    rcases List.mem_cons.mp h with rfl | h
    · exact of_decide_eq_true e.1
    · exact deep60_mem e.2 h
def gIn (neg : Bool) : G2 := fun M x y => match anyP M y with
  | some ys => if plain (look M x) = true ∧ plains ys = true ∧ deep60 ys = true then some (.bl (if neg then !(ys.any fun z => eqB z (look M x)) else ys.any fun z => eqB z (look M x))) else none
  | none => none
theorem o_notIn (hT : T.K = X.K) (hu : X.A.units + 100 < cLine) : OpP X T (compareOp .NotIn) (gIn true) := by
  intro pins s σ H v u v' u' Q I rv ru h
  obtain ⟨W, M, x, y, w, k, hh, rx, ry, e, q⟩ := h
  unfold gIn at e
  split at e
  · rename_i ys e1
    split at e
    · rename_i hp
      cases e
      exact (in_ok hT hu I hh k rx ry rv ru e1 hp.1 hp.2.1 (fun z hz => deep60_mem hp.2.2 hz)).2 ⟨.bl _, H, I, rfl, q W H _ (.refl W) hh rfl⟩
    · cases e
  · cases e
end
abbrev G1 := Sto → List PV → Option (PV × Sto)
def rC (T : Tb) (g : G1) : List V → Hp → VK → Prop := fun vs H Q => ∃ W M xs z M', W.T = T ∧ Held W M H ∧ Reps W xs vs ∧ g M xs = some (z, M') ∧ ∀ W' H' v', W.le W' → Held W' M' H' → Rep W' z v' → Q v' H'
def dCB (g : G1) (ds : DA) : DE := fun ρ M => (ds ρ M).bind fun xs M1 => match g M1 xs with
  | some (z, M2) => .ok z M2
  | none => .bad
def orC (g g' : G1) : G1 := fun M xs => match g M xs with
  | some z => some z
  | none => g' M xs
section
variable {X : Cx} {T : Tb} {ES : St → XK} {e : Expr} {es : List Expr} {p pos : Pos} {ds : DA} {g g' : G1} {x : Str} {bid : String}
theorem callr_imp {f : Value} {r r' : List V → Hp → VK → Prop} (h : CallR X f r) (k : ∀ xs H Q, r' xs H Q → r xs H Q) : CallR X f r' := fun pins s σ H xs us Q I rs q => h pins s σ H xs us Q I rs (k _ _ _ q)
theorem callp_or {f : Value} (h : CallR X f (rC T g)) (h' : CallR X f (rC T g')) : CallR X f (rC T (orC g g')) := callr_imp (CallR.or h h') fun vs H Q hQQ => by
  obtain ⟨W, M, xs, z, M', k, hh, rx, e, q⟩ := hQQ
  unfold orC at e
  split at e
  · rename_i z' e'
    cases e
    exact .inl ⟨W, M, xs, z, M', k, hh, rx, e', q⟩
  · exact .inr ⟨W, M, xs, z, M', k, hh, rx, e, q⟩
theorem cb_lift {σ : St} {H : Hp} {Q : VK} (h : lft T Rep ES (dCB g ds) σ H Q) : tCB (rC T g) (lft T Reps ES ds) σ H Q := by
  obtain ⟨W, ρ, M, k, hh, hs, p⟩ := h
  refine ⟨W, ρ, M, k, hh, hs, Post.bind p fun W1 M1 xs vs H1 l1 h1 r1 p1 => ?_⟩
  split at p1
  · rename_i z M2 e
    exact ⟨W1, M1, xs, z, M2, l1.k.trans k, h1, r1, e, p1⟩
  · exact p1.elim
theorem qe_callB (hc : CallR X (.builtin bid) (rC T g)) (hg : Gl X x) (hm : X.mg x = none) (hv : bootBuiltins x = some (.builtin bid)) (ha : QA X T ES (e :: es) ds) (hn : x ≠ "__name__" := by decide) (hdb : (x == ("__debug__" : Str)) = false := by decide)
    (he : starEach (e :: es) X.env = (false, eval e X.env) :: starEach es X.env := by rfl) (hpl : (backTo pos (starEach es X.env)).any (·.1) = false := by rfl) : QE X T ES (.Call (.Name x p) (e :: es) [] pos) (dCB g ds) := ⟨pe_imp (pe_callB hc hg hm hv ha.h hn hdb he hpl) fun _ _ _ => cb_lift⟩
theorem qe_callTy (hc : CallR X (.type bid) (rC T g)) (hg : Gl X x) (hm : X.mg x = none) (hv : bootBuiltins x = some (.type bid)) (ha : QA X T ES (e :: es) ds) (hn : x ≠ "__name__" := by decide) (hdb : (x == ("__debug__" : Str)) = false := by decide)
    (he : starEach (e :: es) X.env = (false, eval e X.env) :: starEach es X.env := by rfl) (hpl : (backTo pos (starEach es X.env)).any (·.1) = false := by rfl) : QE X T ES (.Call (.Name x p) (e :: es) [] pos) (dCB g ds) := ⟨pe_imp (pe_callTy hc hg hm hv ha.h hn hdb he hpl) fun _ _ _ => cb_lift⟩
theorem one_rep {W : Wd} {x : PV} {vs : List V} (r : Reps W [x] vs) : ∃ v, vs = [v] ∧ Rep W x v := by
  obtain ⟨v, r, e, a, b⟩ := r
  cases b
  exact ⟨v, e, a⟩
theorem two_rep {W : Wd} {x y : PV} {vs : List V} (r : Reps W [x, y] vs) : ∃ v u, vs = [v, u] ∧ Rep W x v ∧ Rep W y u := by
  obtain ⟨v, r, e, a, b⟩ := r
  obtain ⟨u, rfl, q⟩ := one_rep b
  exact ⟨v, u, e, a, q⟩
def one (f : Sto → PV → Option PV) : G1 := fun M xs => match xs with
  | [x] => (match f M x with
    | some z => some (z, M)
    | none => none)
  | _ => none
theorem callp_one {f : Value} {fn : Sto → PV → Option PV} {r : List V → Hp → VK → Prop} (h : CallR X f r)
    (k : ∀ W M H x v z Q, W.T = T → Held W M H → Rep W x v → fn M x = some z → (∀ W' H' v', W.le W' → Held W' M H' → Rep W' z v' → Q v' H') → r [v] H Q) : CallR X f (rC T (one fn)) :=
  callr_imp h fun vs H Q hQQ => by
    obtain ⟨W, M, xs, z, M', kk, hh, rx, e, q⟩ := hQQ
    unfold one at e
    split at e
    · rename_i x
      split at e
      · rename_i z' e'
        cases e
        obtain ⟨v, rfl, rv⟩ := one_rep rx
        exact k W M H x v z Q kk hh rv e' q
      · cases e
    · cases e
def fLen (M : Sto) (x : PV) : Option PV := match anyP M x with
  | some xs => some (.int xs.length)
  | none => none
theorem b_len (hT : T.K = X.K) : CallR X (.builtin "len") (rC T (one fLen)) := callp_one call_len_seq fun W M H x v z Q k hh r e q => by
  unfold fLen at e
  split at e
  · rename_i xs e1
    cases e
    obtain ⟨a, vs, rfl, hq, rr⟩ := any_at hh r e1
    rw [k, hT] at hq
    exact ⟨a, vs, rfl, hq, q W H _ (.refl W) hh (by rw [rr.length]; rfl)⟩
  · cases e
def intsP : List PV → Option (List Int)
  | [] => some []
  | .int i :: xs => (intsP xs).map fun ns => i :: ns
  | _ :: _ => none
theorem intsP_eq : ∀ {xs : List PV} {ns : List Int}, intsP xs = some ns → xs = ns.map PV.int
  | [], ns, e => by cases e; rfl
  | .int i :: xs, ns, e => by
    have e : (intsP xs).map (fun ns => i :: ns) = some ns := e
    cases h : intsP xs with
    | none => rw [h] at e; cases e
    | some ms =>
      rw [h] at e
      cases e
      rw [intsP_eq h]
      rfl
  | .non :: _, _, e => by cases e
  | .bl _ :: _, _, e => by cases e
  | .str _ :: _, _, e => by cases e
  | .ty _ :: _, _, e => by cases e
  | .tup _ :: _, _, e => by cases e
  | .lst _ :: _, _, e => by cases e
  | .scr _ :: _, _, e => by cases e
  | .top _ :: _, _, e => by cases e
  | .exn _ :: _, _, e => by cases e
  | .dct _ :: _, _, e => by cases e
  | .ref _ :: _, _, e => by cases e
@[simp] theorem intsP_map : ∀ (ns : List Int), intsP (ns.map PV.int) = some ns
  | [] => rfl
  | n :: ns => by
    show (intsP (ns.map PV.int)).map (fun ms => n :: ms) = _
    rw [intsP_map ns]
    rfl
def boolsP : List PV → Option (List Bool)
  | [] => some []
  | .bl i :: xs => (boolsP xs).map fun ns => i :: ns
  | _ :: _ => none
theorem boolsP_eq : ∀ {xs : List PV} {ns : List Bool}, boolsP xs = some ns → xs = ns.map PV.bl
  | [], ns, e => by cases e; rfl
  | .bl i :: xs, ns, e => by
    have e : (boolsP xs).map (fun ns => i :: ns) = some ns := e
    cases h : boolsP xs with
    | none => rw [h] at e; cases e
    | some ms =>
      rw [h] at e
      cases e
      rw [boolsP_eq h]
      rfl
  | .non :: _, _, e => by cases e
  | .int _ :: _, _, e => by cases e
  | .str _ :: _, _, e => by cases e
  | .ty _ :: _, _, e => by cases e
  | .tup _ :: _, _, e => by cases e
  | .lst _ :: _, _, e => by cases e
  | .scr _ :: _, _, e => by cases e
  | .top _ :: _, _, e => by cases e
  | .exn _ :: _, _, e => by cases e
  | .dct _ :: _, _, e => by cases e
  | .ref _ :: _, _, e => by cases e
@[simp] theorem boolsP_map : ∀ (ns : List Bool), boolsP (ns.map PV.bl) = some ns
  | [] => rfl
  | n :: ns => by
    show (boolsP (ns.map PV.bl)).map (fun ms => n :: ms) = _
    rw [boolsP_map ns]
    rfl
def iseq (M : Sto) (x : PV) : Option (List Int) := (seqP M x).bind intsP
theorem iseq_at {W : Wd} {M : Sto} {H : Hp} {x : PV} {v : V} {ns : List Int} (hh : Held W M H) (r : Rep W x v) (e : iseq M x = some ns) : ∃ a, v = .ref a ∧ H a = some (.lst (ns.map V.int)) := by
  unfold iseq at e
  cases h : seqP M x with
  | none => rw [h] at e; cases e
  | some xs =>
    rw [h] at e
    obtain ⟨a, vs, rfl, ha, rr⟩ := seq_at hh r h
    rw [intsP_eq e] at rr
    rw [Reps.ints.mp rr] at ha
    exact ⟨a, rfl, ha⟩
def minI : List Int → Int
  | [] => 0
  | [n] => n
  | n :: ns => if n ≤ minI ns then n else minI ns
def maxI : List Int → Int
  | [] => 0
  | [n] => n
  | n :: ns => if maxI ns ≤ n then n else maxI ns
theorem minI_mem : ∀ {ns : List Int}, ns ≠ [] → minI ns ∈ ns ∧ ∀ a ∈ ns, minI ns ≤ a
  | [], h => absurd rfl h
  | [n], _ => ⟨List.mem_singleton.mpr rfl, fun a ha => by rw [List.mem_singleton.mp ha]; exact Int.le_refl _⟩
  | n :: m :: ns, _ => by
    obtain ⟨h1, h2⟩ := minI_mem (ns := m :: ns) (by simp)
    show (if n ≤ minI (m :: ns) then n else minI (m :: ns)) ∈ _ ∧ ∀ a ∈ _, (if n ≤ minI (m :: ns) then n else minI (m :: ns)) ≤ a
    split
    · rename_i h
      refine ⟨List.mem_cons_self, fun a ha => ?_⟩
      rcases List.mem_cons.mp ha with rfl | ha
      · exact Int.le_refl _
      · exact Int.le_trans h (h2 a ha)
    · refine ⟨List.mem_cons_of_mem _ h1, fun a ha => ?_⟩
      rcases List.mem_cons.mp ha with rfl | ha
      · omega
      · exact h2 a ha
theorem maxI_mem : ∀ {ns : List Int}, ns ≠ [] → maxI ns ∈ ns ∧ ∀ a ∈ ns, a ≤ maxI ns
  | [], h => absurd rfl h
  | [n], _ => ⟨List.mem_singleton.mpr rfl, fun a ha => by rw [List.mem_singleton.mp ha]; exact Int.le_refl _⟩
  | n :: m :: ns, _ => by
    obtain ⟨h1, h2⟩ := maxI_mem (ns := m :: ns) (by simp)
    show (if maxI (m :: ns) ≤ n then n else maxI (m :: ns)) ∈ _ ∧ ∀ a ∈ _, a ≤ (if maxI (m :: ns) ≤ n then n else maxI (m :: ns))
    split
    · rename_i h
      refine ⟨List.mem_cons_self, fun a ha => ?_⟩
      rcases List.mem_cons.mp ha with rfl | ha
      · exact Int.le_refl _
      · exact Int.le_trans (h2 a ha) h
    · refine ⟨List.mem_cons_of_mem _ h1, fun a ha => ?_⟩
      rcases List.mem_cons.mp ha with rfl | ha
      · omega
      · exact h2 a ha
def fMin (M : Sto) (x : PV) : Option PV := match iseq M x with
  | some (n :: ns) => some (.int (minI (n :: ns)))
  | _ => none
def fMax (M : Sto) (x : PV) : Option PV := match iseq M x with
  | some (n :: ns) => some (.int (maxI (n :: ns)))
  | _ => none
theorem b_min1 (hc : X.calm = true) : CallR X (.builtin "min") (rC T (one fMin)) := callp_one (call_minL hc) fun W M H x v z Q k hh r e q => by
  unfold fMin at e
  split at e
  · rename_i n ns e1
    cases e
    obtain ⟨a, rfl, ha⟩ := iseq_at hh r e1
    refine ⟨a, n :: ns, rfl, SqL.of ha, by simp, fun m h1 h2 => ?_⟩
    obtain ⟨g1, g2⟩ := minI_mem (ns := n :: ns) (by simp)
    have : m = minI (n :: ns) := Int.le_antisymm (h2 _ g1) (g2 _ h1)
    subst this
    exact q W H _ (.refl W) hh rfl
  · cases e
theorem b_max1 (hc : X.calm = true) : CallR X (.builtin "max") (rC T (one fMax)) := callp_one (call_maxL hc) fun W M H x v z Q k hh r e q => by
  unfold fMax at e
  split at e
  · rename_i n ns e1
    cases e
    obtain ⟨a, rfl, ha⟩ := iseq_at hh r e1
    refine ⟨a, n :: ns, rfl, SqL.of ha, by simp, fun m h1 h2 => ?_⟩
    obtain ⟨g1, g2⟩ := maxI_mem (ns := n :: ns) (by simp)
    have : m = maxI (n :: ns) := Int.le_antisymm (g2 _ h1) (h2 _ g1)
    subst this
    exact q W H _ (.refl W) hh rfl
  · cases e
def bseq (M : Sto) (x : PV) : Option (List Bool) := (seqP M x).bind boolsP
theorem bseq_at {W : Wd} {M : Sto} {H : Hp} {x : PV} {v : V} {ns : List Bool} (hh : Held W M H) (r : Rep W x v) (e : bseq M x = some ns) : ∃ a, v = .ref a ∧ H a = some (.lst (ns.map V.bl)) := by
  unfold bseq at e
  cases h : seqP M x with
  | none => rw [h] at e; cases e
  | some xs =>
    rw [h] at e
    obtain ⟨a, vs, rfl, ha, rr⟩ := seq_at hh r h
    rw [boolsP_eq e] at rr
    rw [Reps.bools.mp rr] at ha
    exact ⟨a, rfl, ha⟩
def fAll (M : Sto) (x : PV) : Option PV := match bseq M x with
  | some ns => some (.bl (ns.all id))
  | none => none
theorem b_all (hc : X.calm = true) : CallR X (.builtin "all") (rC T (one fAll)) := callp_one (call_allL hc) fun W M H x v z Q k hh r e q => by
  unfold fAll at e
  split at e
  · rename_i ns e1
    cases e
    obtain ⟨a, rfl, ha⟩ := bseq_at hh r e1
    exact ⟨a, ns, rfl, SqL.of ha, q W H _ (.refl W) hh rfl⟩
  · cases e
def two (f : Int → Int → PV) : G1 := fun M xs => match xs with
  | [.int i, .int j] => some (f i j, M)
  | _ => none
theorem callp_two {f : Value} {fn : Int → Int → PV} {zv : Int → Int → V} (h : CallR X f (fun xs H Q => ∃ i j, xs = [.int i, .int j] ∧ Q (zv i j) H)) (hz : ∀ W i j, Rep W (fn i j) (zv i j)) : CallR X f (rC T (two fn)) :=
  callr_imp h fun vs H Q hQQ => by
    obtain ⟨W, M, xs, z, M', kk, hh, rx, e, q⟩ := hQQ
    unfold two at e
    split at e
    · rename_i i j
      cases e
      obtain ⟨v, u, rfl, rv, ru⟩ := two_rep rx
      exact ⟨i, j, by rw [show v = .int i from rv, show u = .int j from ru], q W H _ (.refl W) hh (hz W i j)⟩
    · cases e
def gMin : G1 := orC (one fMin) (two fun i j => .int (if j < i then j else i))
def gMax : G1 := orC (one fMax) (two fun i j => .int (if j > i then j else i))
theorem b_min (hc : X.calm = true) : CallR X (.builtin "min") (rC T gMin) := callp_or (b_min1 hc) (callp_two (call_min2 hc) fun _ _ _ => rfl)
theorem b_max (hc : X.calm = true) : CallR X (.builtin "max") (rC T gMax) := callp_or (b_max1 hc) (callp_two (call_max2 hc) fun _ _ _ => rfl)
def kindP (M : Sto) : PV → Option String
  | .non => some "NoneType"
  | .bl _ => some "bool"
  | .int _ => some "int"
  | .str _ => some "str"
  | .tup _ => some "tuple"
  | .lst _ => some "list"
  | .dct _ => some "dict"
  | .ref i => (match M.g i with
    | some (.lst _) => some "list"
    | _ => none)
  | _ => none
theorem kindP_mem {M : Sto} {x : PV} {n : String} (e : kindP M x = some n) : n ∈ kinds := by
  cases x with
  | ref i =>
    have e : (match M.g i with
      | some (.lst _) => some "list"
      | _ => none) = some n := e
    split at e
    · cases e; decide
    · cases e
  | non => cases e; decide
  | bl _ => cases e; decide
  | int _ => cases e; decide
  | str _ => cases e; decide
  | tup _ => cases e; decide
  | lst _ => cases e; decide
  | dct _ => cases e; decide
  | _ => cases e
theorem kitx_at {pins : List (Addr × Obj)} {σ : St} {H : Hp} {s : Shared} {W : Wd} {M : Sto} (I : Inv X pins σ H s) (hh : Held W M H) (hT : W.T.K = X.K) {x : PV} {n : String} {v : V} {u : Value} (e : kindP M x = some n) (r : Rep W x v) (q : RelV v u) :
    ∃ P, PySem.W.KitX X.K u (.type n) P ∧ P s.heap ∧ u ≠ .builtin "__main__.__loader__#opaque" := by
  have lists : ∀ a vs, H a = some (.lst vs) → ∃ P, PySem.W.KitX X.K (.ref a) (.type "list") P ∧ P s.heap ∧ Value.ref a ≠ .builtin "__main__.__loader__#opaque" := fun a vs ea => by
    obtain ⟨_, _, _, _, h1⟩ := (show ObjOk X.prog X.w H s.heap a (.lst vs) from I.hok a _ ea)
    exact ⟨_, PySem.W.kitx_list, ⟨_, h1, rfl⟩, fun z => nomatch z⟩
  cases x with
  | ref i =>
    have e : (match M.g i with
      | some (.lst _) => some "list"
      | _ => none) = some n := e
    split at e
    · rename_i xs e1
      cases e
      obtain ⟨a, vs, rfl, ha, _⟩ := seq_at (xs := xs) hh r (by
        show (match M.g i with
          | some (.lst xs) => some xs
          | _ => none) = some xs
        rw [e1])
      cases q
      exact lists a vs ha
    · cases e
  | non => cases e; cases r; cases q; exact ⟨_, PySem.W.kitx_none, True.intro, fun z => nomatch z⟩
  | bl _ => cases e; cases r; cases q; exact ⟨_, PySem.W.kitx_bool, True.intro, fun z => nomatch z⟩
  | int _ => cases e; cases r; obtain ⟨t, rfl⟩ := q; exact ⟨_, PySem.W.kitx_int, True.intro, fun z => nomatch z⟩
  | str _ => cases e; cases r; obtain ⟨t, rfl⟩ := q; exact ⟨_, PySem.W.kitx_str, True.intro, fun z => nomatch z⟩
  | tup _ =>
    cases e
    obtain ⟨a, vs, rfl, ha, _⟩ := tup_at hh r
    cases q
    rw [hT] at ha
    obtain ⟨its, _, p, _⟩ := I.tuple ha
    obtain ⟨o, h1, h2, _⟩ := p
    exact ⟨_, PySem.W.kitx_tuple, ⟨o, h1, h2⟩, fun z => nomatch z⟩
  | lst _ =>
    cases e
    obtain ⟨a, vs, rfl, ha, _⟩ := r
    cases q
    exact lists a vs (hh.f _ _ ha)
  | dct _ =>
    cases e
    obtain ⟨a, o, rfl, ha⟩ := r
    cases q
    exact ⟨_, PySem.W.kitx_dict, (isD_at I (.inr ⟨_, .inr ⟨o, hh.f _ _ ha⟩⟩)).1, fun z => nomatch z⟩
  | _ => cases e
def tysP : List PV → Option (List String)
  | [] => some []
  | .ty n :: r => if n ∈ kinds then (tysP r).map fun ns => n :: ns else none
  | _ :: _ => none
theorem tysP_rep {W : Wd} : ∀ {xs : List PV} {ns : List String} {vs : List V} {us : List Value}, tysP xs = some ns → Reps W xs vs → Vals vs us → us = ns.map Value.type ∧ ∀ n ∈ ns, n ∈ kinds
  | [], _, _, _, e, r, q => by cases e; cases r; cases q; exact ⟨rfl, by simp⟩
  | .ty n :: xs, ns, _, _, e, ⟨v, r, e1, a, b⟩, q => by
    subst e1
    have e : (if n ∈ kinds then (tysP xs).map (fun ns => n :: ns) else none) = some ns := e
    split at e
    · rename_i hn
      cases h : tysP xs with
      | none => rw [h] at e; cases e
      | some ms =>
        rw [h] at e
        cases e
        cases q with
        | cons q1 q2 =>
          obtain ⟨h1, h2⟩ := tysP_rep h b q2
          have a : v = .ty n := a
          subst a
          cases q1
          rw [h1]
          refine ⟨rfl, fun m hm => ?_⟩
          rcases List.mem_cons.mp hm with rfl | hm
          · exact hn
          · exact h2 m hm
    · cases e
  | .non :: _, _, _, _, e, _, _ => by cases e
  | .bl _ :: _, _, _, _, e, _, _ => by cases e
  | .int _ :: _, _, _, _, e, _, _ => by cases e
  | .str _ :: _, _, _, _, e, _, _ => by cases e
  | .tup _ :: _, _, _, _, e, _, _ => by cases e
  | .lst _ :: _, _, _, _, e, _, _ => by cases e
  | .scr _ :: _, _, _, _, e, _, _ => by cases e
  | .top _ :: _, _, _, _, e, _, _ => by cases e
  | .exn _ :: _, _, _, _, e, _, _ => by cases e
  | .dct _ :: _, _, _, _, e, _, _ => by cases e
  | .ref _ :: _, _, _, _, e, _, _ => by cases e
theorem kitAny_tab (K : PySem.W.Frag) {n : String} (hn : n ∈ kinds) : ∀ {ns : List String}, (∀ m ∈ ns, m ∈ kinds) → PySem.W.kitAny K (.type n) (ns.map Value.type) = some (ns.any fun m => sub n m)
  | [], _ => rfl
  | m :: ms, h => by
    show (match PySem.W.kitOne K (.type n) (.type m) with
      | some true => some true
      | some false => PySem.W.kitAny K (.type n) (ms.map Value.type)
      | none => none) = _
    rw [kit_tab K hn (h m List.mem_cons_self), List.any_cons]
    cases sub n m with
    | true => rfl
    | false => exact kitAny_tab K hn fun m' hm => h m' (List.mem_cons_of_mem _ hm)
def gIsi : G1 := fun M xs => match xs with
  | [x, .ty m] => (match kindP M x with
    | some n => if m ∈ kinds then some (.bl (sub n m), M) else none
    | none => none)
  | [x, .tup ts] => (match kindP M x, tysP ts with
    | some n, some ns => some (.bl (ns.any fun m => sub n m), M)
    | _, _ => none)
  | _ => none
theorem b_isi (hT : T.K = X.K) : CallR X (.builtin "isinstance") (rC T gIsi) := by
  intro pins s σ H vs us Q I rv h
  obtain ⟨W, M, xs, z, M', k, hh, rx, e, q⟩ := h
  have kk : W.T.K = X.K := by rw [k]; exact hT
  unfold gIsi at e
  split at e
  · rename_i x m
    split at e
    · rename_i n e1
      split at e
      · rename_i hm
        cases e
        obtain ⟨v, u, rfl, r1, r2⟩ := two_rep rx
        obtain ⟨v', u', rfl, q1, q2⟩ := vals2 rv
        have r2 : u = .ty m := r2
        subst r2
        cases q2
        obtain ⟨P, Z, hP, hne⟩ := kitx_at I hh kk e1 r1 q1
        exact PySem.W.kia_one Z I.kIn hP (kit_tab X.K (kindP_mem e1) hm) hne fun tk => ⟨.bl _, H, I.tok _, rfl, q W H _ (.refl W) hh rfl⟩
      · cases e
    · cases e
  · rename_i x ts
    split at e
    · rename_i n ns e1 e2
      cases e
      obtain ⟨v, u, rfl, r1, r2⟩ := two_rep rx
      obtain ⟨v', u', rfl, q1, q2⟩ := vals2 rv
      obtain ⟨a, ws, rfl, ha, rr⟩ := tup_at hh r2
      cases q2
      rw [kk] at ha
      obtain ⟨its, rs, p, _⟩ := I.tuple ha
      obtain ⟨⟨cl, dd, dt, sl⟩, h1, h2, nn, h3⟩ := p
      simp only at h2 h3
      subst h2
      subst h3
      obtain ⟨e3, hk⟩ := tysP_rep e2 rr rs
      obtain ⟨P, Z, hP, hne⟩ := kitx_at I hh kk e1 r1 q1
      exact PySem.W.kia_tup Z I.kIn hP h1 (by rw [e3]; exact kitAny_tab X.K (kindP_mem e1) hk) hne fun tk => ⟨.bl _, H, I.tok _, rfl, q W H _ (.refl W) hh rfl⟩
    · cases e
  · cases e
end
end L3

namespace L3
open PySem L2
inductive ItP where
  | fix (xs : List PV) | live (i : Nat) | gen (f : Sto → Option (List PV))
def nxt (p : ItP) (M : Sto) (i : Nat) : Option (Option PV) := match p with
  | .fix xs => some (xs[i]?)
  | .live j => (seqP M (.ref j)).map fun xs => xs[i]?
  | .gen f => (f M).map fun xs => xs[i]?
theorem nxt_live {j i : Nat} {M : Sto} {xs : List PV} (e : seqP M (.ref j) = some xs) : nxt (.live j) M i = some (xs[i]?) := by
  unfold nxt
  simp only [e]
  rfl
theorem nxt_live_none {j i : Nat} {M : Sto} (e : seqP M (.ref j) = none) : nxt (.live j) M i = none := by
  unfold nxt
  simp only [e]
  rfl
def RI (W : Wd) (p : ItP) (J : It) : Prop := ∀ W' M' H', W.le0 W' → Held W' M' H' → ∀ i, (∀ x, nxt p M' i = some (some x) → J.go i H' ∧ ∀ v H'', J.yld i H' v H'' → ∃ W'', W'.le W'' ∧ Held W'' M' H'' ∧ Rep W'' x v) ∧ (nxt p M' i = some none → J.stop i H')
structure QI (X : Cx) (T : Tb) (ES : St → XK) (tg iter : Expr) (d : En → Sto → Res ItP) : Prop where
  h : PI X tg iter (lft T RI ES d)
section
variable {X : Cx} {T : Tb} {ES : St → XK} {a b e tg iter : Expr} {es : List Expr} {p pos : Pos} {d : DE} {ds : DA}
theorem pi_imp {t t' : TI} (h : PI X tg iter t) (f : ∀ σ H R, t' σ H R → t σ H R) : PI X tg iter t' := fun pins s σ H R I q => h pins s σ H R I (f σ H R q)
def itOf (M : Sto) : PV → Option ItP
  | .lst xs => some (.fix xs)
  | .ref i => (match M.g i with
    | some (.lst _) => some (.live i)
    | _ => none)
  | _ => none
def dIt (d : DE) : En → Sto → Res ItP := fun ρ M => (d ρ M).bind fun x M1 => ofO (itOf M1 x) M1
theorem ri_list {K : PySem.W.Frag} {W : Wd} {J : It} {x : ItP} {a : Addr} (hJ : J = Itl K a) (h : ∀ W' M' H', W.le0 W' → Held W' M' H' → ∀ ys, (∀ i, nxt x M' i = some (ys[i]?)) → ∃ vs, H' a = some (.lst vs) ∧ Reps W' ys vs) (hn : ∀ M, (∃ ys : List PV, ∀ i, nxt x M i = some (ys[i]?)) ∨ ∀ i, nxt x M i = none) : RI W x J := by
  subst hJ
  intro W' M' H' le hh i
  rcases hn M' with ⟨ys, hy⟩ | hy
  · obtain ⟨vs, ha, rr⟩ := h W' M' H' le hh ys hy
    refine ⟨fun z e => ?_, fun e => ?_⟩
    · rw [hy] at e
      cases e1 : ys[i]? with
      | none => rw [e1] at e; cases e
      | some z' =>
        rw [e1] at e
        cases e
        obtain ⟨v, e2, r2⟩ := rr.get e1
        refine ⟨⟨vs, v, SqL.of ha, e2⟩, fun u H'' hQQ => ?_⟩
        obtain ⟨eH, q⟩ := hQQ
        subst eH
        have := q vs (SqL.of ha)
        rw [e2] at this
        cases this
        exact ⟨W', .refl W', hh, r2⟩
    · rw [hy] at e
      have e : ys[i]? = none := Option.some.inj e
      exact ⟨vs, SqL.of ha, by rw [rr.length]; exact List.getElem?_eq_none_iff.mp e⟩
  · refine ⟨fun z e => ?_, fun e => ?_⟩
    · rw [hy] at e; cases e
    · rw [hy] at e; cases e
theorem qi_list (h : QE X T ES e d) : QI X T ES tg e (dIt d) := ⟨pi_imp (pi_list h.h) fun σ H R hQQ => lft_el hQQ fun W ρ M k hh hs q => ⟨W, ρ, M, k, hh, hs, Post.bind q fun W1 M1 x v H1 l1 h1 r1 p1 => by
  cases x with
  | lst xs =>
    obtain ⟨a, vs, rfl, ha, rr⟩ := r1
    refine ⟨a, rfl, ⟨vs, SqL.of (h1.f _ _ ha)⟩, p1 W1 H1 _ (.refl W1) h1 (ri_list rfl (fun W' M' H' le hh' ys hy => ?_) fun M => .inl ⟨xs, fun i => rfl⟩)⟩
    have : ys = xs := List.ext_getElem? (fun i => (Option.some.inj (hy i)).symm)
    subst this
    exact ⟨vs, hh'.f _ _ (le.f _ _ ha), rr.up0 le⟩
  | ref j =>
    have p1 : Post W1 RI (ofO (match M1.g j with
      | some (.lst _) => some (ItP.live j)
      | _ => none) M1) R (ES σ) := p1
    split at p1
    · rename_i xs e1
      obtain ⟨a, rfl, ea⟩ := r1
      obtain ⟨b, o, h2, h3, h4, vs, rfl, rr⟩ := h1.m j _ e1
      rw [ea] at h2
      cases h2
      refine ⟨a, rfl, ⟨vs, SqL.of h4⟩, p1 W1 H1 _ (.refl W1) h1 (ri_list rfl (fun W' M' H' le hh' ys hy => ?_) fun M => ?_)⟩
      · cases e2 : seqP M' (.ref j) with
        | none =>
          have := hy 0
          rw [nxt_live_none e2] at this
          cases this
        | some zs =>
          have : ys = zs := List.ext_getElem? (fun i => by
            have := hy i
            rw [nxt_live e2] at this
            exact (Option.some.inj this).symm)
          subst this
          obtain ⟨a', vs', e3, h5, r5⟩ := seq_at (v := .ref a) hh' (show Rep W' (.ref j) (.ref a) from ⟨a, rfl, le.a _ _ ea⟩) e2
          cases e3
          exact ⟨vs', h5, r5⟩
      · cases e2 : seqP M (.ref j) with
        | none => exact .inr fun i => nxt_live_none e2
        | some zs => exact .inl ⟨zs, fun i => nxt_live e2⟩
    · exact p1.elim
  | _ => exact p1.elim⟩⟩
def rngP (lo : Int) (n : Nat) : List PV := (List.range n).map fun (i : Nat) => PV.int (lo + i)
theorem rngP_get {lo : Int} {n i : Nat} : (rngP lo n)[i]? = if i < n then some (PV.int (lo + i)) else none := by
  unfold rngP
  rw [List.getElem?_map]
  by_cases h : i < n
  · rw [if_pos h, List.getElem?_range h]; rfl
  · rw [if_neg h, List.getElem?_eq_none_iff.mpr (by simpa using h)]; rfl
theorem ri_rng {W : Wd} {lo : Int} {n : Nat} : RI W (.fix (rngP lo n)) (Itr lo n) := by
  intro W' M' H' le hh i
  refine ⟨fun x e => ?_, fun e => ?_⟩
  · have e : (rngP lo n)[i]? = some x := Option.some.inj e
    rw [rngP_get] at e
    split at e
    · rename_i hi
      cases e
      refine ⟨hi, fun v H'' hQQ => ?_⟩
      obtain ⟨eH, ev⟩ := hQQ
      subst eH
      subst ev
      exact ⟨W', .refl W', hh, rfl⟩
    · cases e
  · have e : (rngP lo n)[i]? = none := Option.some.inj e
    rw [rngP_get] at e
    split at e
    · cases e
    · rename_i hi
      exact Nat.le_of_not_lt hi
def small (i : Int) : Bool := Nat.blt i.natAbs 4611686018427387904
theorem small_iff {i : Int} : small i = true ↔ -(2 ^ 62) < i ∧ i < 2 ^ 62 := by
  unfold small
  rw [Nat.blt_eq]
  omega
def dRng1 (ds : DA) : En → Sto → Res ItP := fun ρ M => (ds ρ M).bind fun xs M1 => match xs with
  | [.int j] => if small j = true then .ok (.fix (rngP 0 j.toNat)) M1 else .bad
  | _ => .bad
theorem qi_rng1 (hg : Gl X "range") (hm : X.mg "range" = none) (ha : QA X T ES [a] ds) (hs : starEach [a] X.env = [(false, eval a X.env)] := by rfl) : QI X T ES tg (.Call (.Name "range" p) [a] [] pos) (dRng1 ds) :=
  ⟨pi_imp (pi_range1 hg hm ha.h hs) fun σ H R hQQ => lft_el hQQ fun W ρ M k hh hs q => ⟨W, ρ, M, k, hh, hs, Post.bind q fun W1 M1 xs vs H1 l1 h1 r1 p1 => by
    split at p1
    · rename_i j
      split at p1
      · rename_i hj
        obtain ⟨v, rfl, r⟩ := one_rep r1
        have r : v = .int j := r
        subst r
        exact ⟨j, rfl, Int.le_of_lt (small_iff.mp hj).1, (small_iff.mp hj).2, p1 W1 H1 _ (.refl W1) h1 ri_rng⟩
      · exact p1.elim
    · exact p1.elim⟩⟩
def numP : Nat → List PV → List PV
  | _, [] => []
  | n, x :: xs => .tup [.int n, x] :: numP (n + 1) xs
theorem numP_get : ∀ {xs : List PV} {n i : Nat}, (numP n xs)[i]? = (xs[i]?).map fun x => PV.tup [.int ((n + i : Nat) : Int), x]
  | [], n, i => by simp [numP]
  | x :: xs, n, 0 => by simp [numP]
  | x :: xs, n, i + 1 => by
    show (numP (n + 1) xs)[i]? = _
    rw [numP_get]
    rw [show n + 1 + i = n + (i + 1) by omega]
    simp
def dEnum (ds : DA) : En → Sto → Res ItP := fun ρ M => (ds ρ M).bind fun xs M1 => match xs with
  | [.lst ys] => .ok (.fix (numP 0 ys)) M1
  | [.ref j] => (match M1.g j with
    | some (.lst _) => .ok (.gen fun M => (seqP M (.ref j)).map (numP 0)) M1
    | _ => .bad)
  | _ => .bad
theorem qi_enum {l : Expr} {elts : List Expr} {x1 : Nat} {tpos : Pos} (hg : Gl X "enumerate") (hm : X.mg "enumerate" = none) (ha : QA X T ES [l] ds) (hs : starEach [l] X.env = [(false, eval l X.env)] := by rfl) :
    QI X T ES (.Tuple elts x1 tpos) (.Call (.Name "enumerate" p) [l] [] pos) (dEnum ds) :=
  ⟨pi_imp (pi_enum hg hm ha.h hs) fun σ H R hQQ => lft_el hQQ fun W ρ M k hh hs q => ⟨W, ρ, M, k, hh, hs, Post.bind q fun W1 M1 xs vs H1 l1 h1 r1 p1 => by
    split at p1
    · rename_i ys
      obtain ⟨v, rfl, r⟩ := one_rep r1
      obtain ⟨a, vs, rfl, ha, rr⟩ := r
      refine ⟨a, rfl, ⟨vs, SqL.of (h1.f _ _ ha)⟩, p1 W1 H1 _ (.refl W1) h1 fun W' M' H' le hh' i => ?_⟩
      have hq : H' a = some (.lst vs) := hh'.f _ _ (le.f _ _ ha)
      refine ⟨fun z e => ?_, fun e => ?_⟩
      · have e : (numP 0 ys)[i]? = some z := Option.some.inj e
        rw [numP_get] at e
        cases e1 : ys[i]? with
        | none => rw [e1] at e; cases e
        | some y =>
          rw [e1] at e
          cases e
          obtain ⟨u, e2, r2⟩ := rr.get e1
          refine ⟨⟨vs, u, SqL.of hq, e2⟩, fun w H'' hQQ => ?_⟩
          obtain ⟨b, u', ew, hb, hu, eH⟩ := hQQ
          subst ew
          subst eH
          have := hu vs (SqL.of hq)
          rw [e2] at this
          cases this
          obtain ⟨W2, l2, h2, r3⟩ := new_tup (xs := [.int ((0 + i : Nat) : Int), y]) hh' (show Reps W' _ [.int (i : Int), u] from ⟨_, _, rfl, (by rw [Nat.zero_add]; rfl), _, _, rfl, r2.up0 le, rfl⟩) hb
          exact ⟨W2, l2, h2, r3⟩
      · have e : (numP 0 ys)[i]? = none := Option.some.inj e
        rw [numP_get] at e
        cases e1 : ys[i]? with
        | none => exact ⟨vs, SqL.of hq, by rw [rr.length]; exact List.getElem?_eq_none_iff.mp e1⟩
        | some y => rw [e1] at e; cases e
    · rename_i j
      obtain ⟨v, rfl, r⟩ := one_rep r1
      obtain ⟨a, rfl, ea⟩ := r
      split at p1
      · rename_i zs e1
        obtain ⟨b, o, h2, h3, h4, vs, rfl, rr⟩ := h1.m j _ e1
        rw [ea] at h2
        cases h2
        refine ⟨a, rfl, ⟨vs, SqL.of h4⟩, p1 W1 H1 _ (.refl W1) h1 fun W' M' H' le hh' i => ?_⟩
        have en : nxt (.gen fun M => (seqP M (.ref j)).map (numP 0)) M' i = ((seqP M' (.ref j)).map (numP 0)).map fun xs => xs[i]? := rfl
        rw [en]
        cases e2 : seqP M' (.ref j) with
        | none => exact ⟨fun z e => (by cases e), fun e => (by cases e)⟩
        | some ys =>
          obtain ⟨a', vs', e3, hq, rr'⟩ := seq_at (v := .ref a) hh' (show Rep W' (.ref j) (.ref a) from ⟨a, rfl, le.a _ _ ea⟩) e2
          cases e3
          refine ⟨fun z e => ?_, fun e => ?_⟩
          · have e : (numP 0 ys)[i]? = some z := Option.some.inj e
            rw [numP_get] at e
            cases e1 : ys[i]? with
            | none => rw [e1] at e; cases e
            | some y =>
              rw [e1] at e
              cases e
              obtain ⟨u, e2, r2⟩ := rr'.get e1
              refine ⟨⟨vs', u, SqL.of hq, e2⟩, fun w H'' hQQ => ?_⟩
              obtain ⟨b, u', ew, hb, hu, eH⟩ := hQQ
              subst ew
              subst eH
              have := hu vs' (SqL.of hq)
              rw [e2] at this
              cases this
              exact new_tup (xs := [.int ((0 + i : Nat) : Int), y]) hh' (show Reps W' _ [.int (i : Int), u] from ⟨_, _, rfl, (by rw [Nat.zero_add]; rfl), _, _, rfl, r2, rfl⟩) hb
          · have e : (numP 0 ys)[i]? = none := Option.some.inj e
            rw [numP_get] at e
            cases e1 : ys[i]? with
            | none => exact ⟨vs', SqL.of hq, by rw [rr'.length]; exact List.getElem?_eq_none_iff.mp e1⟩
            | some y => rw [e1] at e; cases e
      · exact p1.elim
    · exact p1.elim⟩⟩
end
def Res.noX {α : Type} : Res α → Res α
  | .exc _ _ => .bad
  | r => r
def bnd1 (x : PV) (r : En) : Option En := some (some x :: r)
def bnd2 (x : PV) (r : En) : Option En := match x with
  | .tup [a, b] => some (some a :: some b :: r)
  | _ => none
def compN (p : ItP) (bnd : PV → En → Option En) (r : En) (dt : DT) (de : DE) : Nat → Nat → Sto → Res (List PV)
  | 0, _, _ => .bad
  | n + 1, i, M => match nxt p M i with
    | none => .bad
    | some none => .ok [] M
    | some (some x) => match bnd x r with
      | none => .bad
      | some ρ => (dt ρ M).noX.bind fun b M1 => if b = true then (de ρ M1).noX.bind fun y M2 => (compN p bnd r dt de n (i + 1) M2).bind fun ys M3 => .ok (y :: ys) M3 else compN p bnd r dt de n (i + 1) M1
def compF (bnd : PV → En → Option En) (r : En) (dt : DT) (de : DE) : List PV → Sto → Res (List PV)
  | [], M => .ok [] M
  | x :: xs, M => match bnd x r with
    | none => .bad
    | some ρ => (dt ρ M).noX.bind fun b M1 => if b = true then (de ρ M1).noX.bind fun y M2 => (compF bnd r dt de xs M2).bind fun ys M3 => .ok (y :: ys) M3 else compF bnd r dt de xs M1
theorem compN_fix {all : List PV} {bnd : PV → En → Option En} {r : En} {dt : DT} {de : DE} : ∀ {xs : List PV} {n i : Nat} {M : Sto}, all.drop i = xs → xs.length < n → compN (.fix all) bnd r dt de n i M = compF bnd r dt de xs M
  | xs, 0, i, M, e, h => absurd h (Nat.not_lt_zero _)
  | [], n + 1, i, M, e, h => by
    have : all[i]? = none := List.getElem?_eq_none_iff.mpr (by
      have := congrArg List.length e
      simp at this
      omega)
    show (match some (all[i]?) with
      | none => Res.bad
      | some none => .ok [] M
      | some (some x) => _) = _
    rw [this]
    rfl
  | x :: xs, n + 1, i, M, e, h => by
    have e1 : all[i]? = some x := by
      have := congrArg (fun l => l[0]?) e
      simpa [List.getElem?_drop] using this
    have e2 : all.drop (i + 1) = xs := by
      have := congrArg (List.drop 1) e
      simpa [List.drop_drop] using this
    have ih : ∀ M, compN (.fix all) bnd r dt de n (i + 1) M = compF bnd r dt de xs M := fun M => compN_fix e2 (by simpa using h)
    show (match some (all[i]?) with
      | none => Res.bad
      | some none => .ok [] M
      | some (some x) => match bnd x r with
        | none => .bad
        | some ρ => (dt ρ M).noX.bind fun b M1 => if b = true then (de ρ M1).noX.bind fun y M2 => (compN (.fix all) bnd r dt de n (i + 1) M2).bind fun ys M3 => .ok (y :: ys) M3 else compN (.fix all) bnd r dt de n (i + 1) M1) = _
    rw [e1]
    simp only [ih]
    rfl
def fuelP (p : ItP) (M : Sto) : Nat := match p with
  | .fix xs => xs.length + 1
  | .live i => ((seqP M (.ref i)).getD []).length + 1
  | .gen f => ((f M).getD []).length + 1
def rest (js : List Nat) (ρ : En) : En := js.map fun j => (ρ[j]?).getD none
def dComp (di : En → Sto → Res ItP) (bnd : PV → En → Option En) (js : List Nat) (dt : DT) (de : DE) : DE := fun ρ M => (di ρ M).bind fun p M1 =>
  if fuelP p M1 ≤ sizeLine then (compN p bnd (rest js ρ) dt de (fuelP p M1) 0 M1).bind fun ys M2 => .ok (.lst ys) M2 else .bad
def dCompG (fv : List PV → Sto → PV) (fm : List PV → Sto → Sto) (di : En → Sto → Res ItP) (bnd : PV → En → Option En) (js : List Nat) (dt : DT) (de : DE) : DE := fun ρ M => (di ρ M).bind fun p M1 =>
  if fuelP p M1 ≤ sizeLine then (compN p bnd (rest js ρ) dt de (fuelP p M1) 0 M1).bind fun ys M2 => .ok (fv ys M2) (fm ys M2) else .bad
def dTrue : DT := fun _ M => .ok true M
structure QIf (X : Cx) (T : Tb) (ES : St → XK) (ifs : List Expr) (d : DT) : Prop where
  h : PIf X ifs (lft T RB ES d)
theorem qif_nil {X : Cx} {T : Tb} {ES : St → XK} : QIf X T ES [] dTrue := ⟨fun pins s σ H Q I hQQ => lft_el hQQ fun W ρ M k hh hs p => if_nil pins s σ H Q I (p W H true (.refl W) hh rfl)⟩
theorem qif_one {X : Cx} {T : Tb} {ES : St → XK} {c : Expr} {d : DT} (h : QT X T ES c d) : QIf X T ES [c] d := ⟨if_one h.h⟩
abbrev ES0 : St → XK := fun _ => E0
theorem rest_rep {W : Wd} {ρ : En} {σ : St} {js : List Nat} (h : RepS W ρ σ) : RepS W (rest js ρ) (js.map fun j => (σ[j]?).getD none) := by
  refine ⟨by simp [rest], fun i x e => ?_⟩
  unfold rest at e
  rw [List.getElem?_map] at e
  rw [List.getElem?_map]
  cases hj : js[i]? with
  | none => rw [hj] at e; cases e
  | some j =>
    rw [hj] at e
    have e : (ρ[j]?).getD none = some x := Option.some.inj e
    cases e1 : ρ[j]? with
    | none => rw [e1] at e; cases e
    | some o =>
      rw [e1] at e
      cases e
      obtain ⟨v, e2, r⟩ := h.2 j x e1
      refine ⟨v, ?_, r⟩
      show some ((σ[j]?).getD none) = _
      rw [e2]
      rfl
theorem reps_cons {W : Wd} {ρ : En} {σ : St} {x : PV} {v : V} (h : RepS W ρ σ) (r : Rep W x v) : RepS W (some x :: ρ) (some v :: σ) := by
  refine ⟨by simp [h.1], fun i y e => ?_⟩
  cases i with
  | zero =>
    cases e
    exact ⟨v, rfl, r⟩
  | succ i => exact h.2 i y e
structure Bnd (T : Tb) (own : Nat) (g : TG) (bnd : PV → En → Option En) : Prop where
  go : ∀ (W : Wd) (M : Sto) (H : Hp) (js : List Nat) (ρ : En) (σ : St) (x : PV) (v : V) (ρ' : En) (Q : St → Hp → Prop), W.T = T → Held W M H → RepS W ρ σ → Rep W x v → bnd x (rest js ρ) = some ρ' →
    (∀ σ', RepS W ρ' σ' → Keep (inner own js σ) σ' → Q σ' H) → g v (inner own js σ) H Q
theorem bnd_1 {T : Tb} : Bnd T 1 (gName 0) bnd1 := ⟨fun W M H js ρ σ x v ρ' Q k hh hs r e q => by
  cases e
  exact q _ (reps_cons (rest_rep hs) r) keep1⟩
theorem bnd_2 {T : Tb} : Bnd T 2 (gTup T.K 2 (gCons (gName 0) (gCons (gName 1) gNil))) bnd2 := ⟨fun W M H js ρ σ x v ρ' Q k hh hs r e q => by
  unfold bnd2 at e
  split at e
  · rename_i a b
    cases e
    obtain ⟨p, vs, rfl, ha, rr⟩ := tup_at hh r
    obtain ⟨va, vb, rfl, ra, rb⟩ := two_rep rr
    rw [k] at ha
    refine ⟨p, _, rfl, ha, rfl, va, [vb], rfl, vb, [], rfl, rfl, ?_⟩
    exact q _ (reps_cons (reps_cons (rest_rep hs) rb) ra) keep2
  · cases e⟩
theorem compN_noX {it : ItP} {bnd : PV → En → Option En} {r : En} {dt : DT} {de : DE} : ∀ (n i : Nat) (M : Sto) (c : Nat) (M' : Sto), compN it bnd r dt de n i M ≠ .exc c M' := by
  intro n
  induction n with
  | zero => intro i M c M' z; cases z
  | succ n ih =>
    intro i M c M' z
    unfold compN at z
    split at z
    · cases z
    · cases z
    · split at z
      · cases z
      · rename_i ρ' _
        cases e1 : dt ρ' M with
        | bad => rw [e1] at z; cases z
        | exc _ _ => rw [e1] at z; cases z
        | ok b M1 =>
          rw [e1] at z
          cases b with
          | false => exact ih _ _ _ _ z
          | true =>
            have z : (de ρ' M1).noX.bind (fun y M2 => (compN it bnd r dt de n (i + 1) M2).bind fun ys M3 => .ok (y :: ys) M3) = .exc c M' := z
            cases e2 : de ρ' M1 with
            | bad => rw [e2] at z; cases z
            | exc _ _ => rw [e2] at z; cases z
            | ok y M2 =>
              rw [e2] at z
              have z : (compN it bnd r dt de n (i + 1) M2).bind (fun ys M3 => Res.ok (y :: ys) M3) = .exc c M' := z
              cases e3 : compN it bnd r dt de n (i + 1) M2 with
              | bad => rw [e3] at z; cases z
              | exc _ _ => exact ih _ _ _ _ e3
              | ok _ _ => rw [e3] at z; cases z
section
variable {X : Cx} {T : Tb} {ES : St → XK} {osc sc : Scope} {own fr : List Str} {js : List Nat} {elt target iter : Expr} {ifs : List Expr} {pos : Pos} {di : En → Sto → Res ItP} {g : TG} {bnd : PV → En → Option En} {dt : DT} {de : DE}
def RIg (W : Wd) (p : ItP) (J : It) : Prop := ∀ W' M' H', W.le0 W' → (∀ b u, W.G b = some u → W'.G b = some u) → Held W' M' H' → ∀ i, (∀ x, nxt p M' i = some (some x) → J.go i H' ∧ ∀ v H'', J.yld i H' v H'' → ∃ W'', W'.le W'' ∧ Held W'' M' H'' ∧ Rep W'' x v) ∧ (nxt p M' i = some none → J.stop i H')
theorem comp_goG {on : Nat} {σ : St} {Q : VK} {E : XK} (B : Bnd T on g bnd) (fv : List PV → Sto → PV) (fm : List PV → Sto → Sto) (fin1 : ∀ {W : Wd} {M : Sto} {H G0 : Hp} {l : Addr} {ys : List PV} {vs : List V}, Held W M H → W.G l = some (.lst vs) → (∀ b u, G0 b = some u → W.G b = some u ∧ b ≠ l) → Reps W ys vs → ∃ W', W.le0 W' ∧ W'.G = G0 ∧ Held W' (fm ys M) H ∧ Rep W' (fv ys M) (.ref l))
    {W0 : Wd} {ρ : En} {M0 : Sto} {it : ItP} {J : It} {H0 : Hp} (k0 : W0.T = T) (hs0 : RepS W0 ρ σ) (h0 : Held W0 M0 H0) (ri : RIg W0 it J) (p0 : Post W0 Rep (if fuelP it M0 ≤ sizeLine then (compN it bnd (rest js ρ) dt de (fuelP it M0) 0 M0).bind fun ys M2 => .ok (fv ys M2) (fm ys M2) else .bad) Q E) (acc : Addr) (hacc : H0 acc = none) : CompW J acc on js g (lft T RB ES0 dt) (lft T Rep ES0 de) σ Q H0 := by
  by_cases hf : fuelP it M0 ≤ sizeLine
  rotate_left
  · rw [if_neg hf] at p0; exact p0.elim
  rw [if_pos hf] at p0
  have gacc : W0.G acc = none := by
    cases q : W0.G acc with
    | none => rfl
    | some o =>
      rw [(h0.gd acc o q).1] at hacc
      cases hacc
  -- what is wanted of the rest
  let Fin : Wd → List PV → Res (List PV) → Prop := fun W ys r => match r with
    | .ok zs M' => ∀ W' H' v, W0.le W' → Held W' (fm (ys ++ zs) M') H' → Rep W' (fv (ys ++ zs) M') v → Q v H'
    | _ => False
  have fin0 : Fin W0 [] (compN it bnd (rest js ρ) dt de (fuelP it M0) 0 M0) := by
    cases e : compN it bnd (rest js ρ) dt de (fuelP it M0) 0 M0 with
    | ok zs M' => rw [e] at p0; exact fun W' H' v le hh' r => p0 W' H' v le hh' r
    | exc c M' =>
      exfalso
      exact compN_noX _ _ _ _ _ e
    | bad => rw [e] at p0; exact p0.elim
  refine ⟨fun i m vs H2 => i + m = fuelP it M0 ∧ vs.length ≤ i ∧ ∃ W M ys, W0.le0 W ∧ W.G = L2.upd W0.G acc (.lst vs) ∧ Held W M H2 ∧ Reps W ys vs ∧ Fin W ys (compN it bnd (rest js ρ) dt de m i M),
    ⟨fuelP it M0, by simp, by simp, W0.gd acc (.lst []), M0, [], Wd.le0_gd, rfl, h0.guard hacc, rfl, fin0⟩, ?_⟩
  rintro i m vs H2 ⟨hi, hl, W1, M1, ys, le1, g1, h1, r1, f1⟩
  have k1 : W1.T = T := le1.k.trans k0
  have hs1 : RepS W1 ρ σ := ⟨hs0.1, fun i x e => by
    obtain ⟨v, e1, r⟩ := hs0.2 i x e
    exact ⟨v, e1, r.up0 le1⟩⟩
  have ga1 : W1.G acc = some (.lst vs) := by rw [g1, upd_same]
  cases m with
  | zero => exact f1.elim
  | succ m =>
    unfold compN at f1
    obtain ⟨goes, stops⟩ := ri W1 M1 H2 le1 (fun b u q => by
      have z : b ≠ acc := fun z => by rw [z, gacc] at q; cases q
      rw [g1, upd_ne z]
      exact q) h1 i
    split at f1
    · exact f1.elim
    · rename_i en
      refine .inl ⟨stops en, ?_⟩
      obtain ⟨W5, l5, g5, h5, r5⟩ := fin1 (G0 := W0.G) h1 ga1 (fun b u q => by
        have z : b ≠ acc := fun z => by rw [z, gacc] at q; cases q
        exact ⟨by rw [g1, upd_ne z]; exact q, z⟩) r1
      have f1 : ∀ W' H' v, W0.le W' → Held W' (fm (ys ++ []) M1) H' → Rep W' (fv (ys ++ []) M1) v → Q v H' := f1
      rw [List.append_nil] at f1
      exact f1 W5 H2 (.ref acc) ⟨le1.trans l5, g5⟩ h5 r5
    · rename_i x en
      split at f1
      · exact f1.elim
      · rename_i ρ' eb
        obtain ⟨go, yld⟩ := goes x en
        have hlen : vs.length < sizeLine := by omega
        refine .inr ⟨go, hlen, fun vs' H' => i + 1 + m = fuelP it M0 ∧ vs'.length ≤ i + 1 ∧ ∃ W M ys, W0.le0 W ∧ W.G = L2.upd W0.G acc (.lst vs') ∧ Held W M H' ∧ Reps W ys vs' ∧ Fin W ys (compN it bnd (rest js ρ) dt de m (i + 1) M),
          fun vs' H' q => ⟨m, Nat.lt_succ_self _, q⟩, fun v H3 hy => ?_⟩
        obtain ⟨W2, l2, h2, r2⟩ := yld v H3 hy
        have k2 : W2.T = T := l2.k.trans k1
        refine B.go W2 M1 H3 js ρ σ x v ρ' _ k2 h2 (hs1.up l2) r2 eb fun σ4 rs4 kp => ⟨kp, ?_⟩
        cases e1 : dt ρ' M1 with
        | bad => rw [e1] at f1; exact f1.elim
        | exc _ _ => rw [e1] at f1; exact f1.elim
        | ok b M2 =>
          rw [e1] at f1
          refine ⟨W2, ρ', M1, k2, h2, rs4, ?_⟩
          rw [e1]
          intro W3 H5 b' l3 h3 eb'
          subst eb'
          have g3 : W3.G = L2.upd W0.G acc (.lst vs) := by rw [l3.g, l2.g, g1]
          have le3 : W0.le0 W3 := (le1.trans l2.toLe0).trans l3.toLe0
          have r3 : Reps W3 ys vs := (r1.up l2).up l3
          cases b' with
          | false =>
            rw [if_neg (by simp)]
            exact ⟨by omega, by omega, W3, M2, ys, le3, g3, h3, r3, f1⟩
          | true =>
            rw [if_pos rfl]
            have f1 : Fin W1 ys ((de ρ' M2).noX.bind fun y M2 => (compN it bnd (rest js ρ) dt de m (i + 1) M2).bind fun zs M3 => .ok (y :: zs) M3) := f1
            refine ⟨W3, ρ', M2, l3.k.trans k2, h3, rs4.up l3, ?_⟩
            cases e2 : de ρ' M2 with
            | bad => rw [e2] at f1; exact f1.elim
            | exc _ _ => rw [e2] at f1; exact f1.elim
            | ok y M3 =>
              rw [e2] at f1
              intro W4 H6 w l4 h4 r4
              have g4 : W4.G = L2.upd W0.G acc (.lst vs) := by rw [l4.g, g3]
              have ga4 : W4.G acc = some (.lst vs) := by rw [g4, upd_same]
              refine ⟨(h4.gd _ _ ga4).1, by omega, by simp; omega, W4.gd acc (.lst (vs ++ [w])), M3, ys ++ [y], (le3.trans l4.toLe0).trans Wd.le0_gd, ?_, h4.reguard ga4, ?_, ?_⟩
              · show L2.upd W4.G acc (.lst (vs ++ [w])) = _
                rw [g4, upd_upd]
              · exact Reps.up0 Wd.le0_gd ((r3.up l4).append (show Reps W4 [y] [w] from ⟨w, [], rfl, r4, rfl⟩))
              · have f1 : Fin W1 ys ((compN it bnd (rest js ρ) dt de m (i + 1) M3).bind fun zs M3 => .ok (y :: zs) M3) := f1
                cases e3 : compN it bnd (rest js ρ) dt de m (i + 1) M3 with
                | bad => rw [e3] at f1; exact f1.elim
                | exc _ _ => rw [e3] at f1; exact f1.elim
                | ok zs M4 =>
                  rw [e3] at f1
                  have f1 : ∀ W' H' v, W0.le W' → Held W' (fm (ys ++ (y :: zs)) M4) H' → Rep W' (fv (ys ++ (y :: zs)) M4) v → Q v H' := f1
                  show ∀ W' H' v, W0.le W' → Held W' (fm ((ys ++ [y]) ++ zs) M4) H' → Rep W' (fv ((ys ++ [y]) ++ zs) M4) v → Q v H'
                  rw [List.append_assoc]
                  exact f1
theorem comp_liftG {on : Nat} {σ : St} {H : Hp} {Q : VK} (B : Bnd T on g bnd) (fv : List PV → Sto → PV) (fm : List PV → Sto → Sto) (fin1 : ∀ {W : Wd} {M : Sto} {H G0 : Hp} {l : Addr} {ys : List PV} {vs : List V}, Held W M H → W.G l = some (.lst vs) → (∀ b u, G0 b = some u → W.G b = some u ∧ b ≠ l) → Reps W ys vs → ∃ W', W.le0 W' ∧ W'.G = G0 ∧ Held W' (fm ys M) H ∧ Rep W' (fv ys M) (.ref l)) (h : lft T Rep ES (dCompG fv fm di bnd js dt de) σ H Q) : tComp (lft T RI ES di) on js g (lft T RB ES0 dt) (lft T Rep ES0 de) σ H Q := by
  obtain ⟨W, ρ, M, k, hh, hs, p⟩ := h
  exact ⟨W, ρ, M, k, hh, hs, Post.bind p fun W0 M0 it J H0 l0 h0 ri p0 => fun acc hacc => comp_goG B fv fm fin1 (l0.k.trans k) (hs.up l0) h0 (fun W' M' H' le _ hh' i => ri W' M' H' le hh' i) p0 acc hacc⟩
theorem comp_lift {on : Nat} {σ : St} {H : Hp} {Q : VK} (B : Bnd T on g bnd) (h : lft T Rep ES (dComp di bnd js dt de) σ H Q) : tComp (lft T RI ES di) on js g (lft T RB ES0 dt) (lft T Rep ES0 de) σ H Q :=
  comp_liftG B (fun ys _ => .lst ys) (fun _ M => M) (fun {W M H G0 l ys vs} h e hg r => by
    obtain ⟨l2, h2⟩ := h.unguard e hg
    exact ⟨W.out G0 l (.lst vs), l2, rfl, h2, l, vs, rfl, upd_same, r.up0 l2⟩) h
theorem qe_comp (B : Bnd T own.length g bnd) (hc : X.calm = true) (ho : X.env.scope = osc) (S : CompScope osc sc own fr) (hj : js.map (fun j => X.N[j]?) = fr.map some) (hi : QI X T ES target iter di)
    (hg : ∀ s₃ H₃ fp, PG (cxComp X (own ++ fr) sc s₃ H₃ fp) target g) (ht : ∀ s₃ H₃ fp, QIf (cxComp X (own ++ fr) sc s₃ H₃ fp) T ES0 ifs dt) (he : ∀ s₃ H₃ fp, QE (cxComp X (own ++ fr) sc s₃ H₃ fp) T ES0 elt de)
    (hs : ∀ x, foldedSetIterable iter X.env x = pure x := by intro _; rfl) : QE X T ES (.ListComp elt [⟨target, iter, ifs, 0⟩] sc pos) (dComp di bnd js dt de) :=
  ⟨pe_imp (pe_comp hc ho S hj hi.h hg (fun a b c => (ht a b c).h) (fun a b c => (he a b c).h) hs) fun _ _ _ => comp_lift B⟩
end
end L3

namespace L3
open PySem L2
inductive RS where
  | nx (ρ : En) (M : Sto) | rt (v : PV) (M : Sto) | bk (ρ : En) (M : Sto) | ct (ρ : En) (M : Sto) | exc (k : Nat) (ρ : En) (M : Sto) | bad
abbrev DS := En → Sto → RS
def RS.then (r : RS) (k : En → Sto → RS) : RS := match r with
  | .nx ρ M => k ρ M
  | r => r
@[simp] theorem RS.then_nx {ρ : En} {M : Sto} {k : En → Sto → RS} : (RS.nx ρ M).then k = k ρ M := rfl
@[simp] theorem RS.then_rt {v : PV} {M : Sto} {k : En → Sto → RS} : (RS.rt v M).then k = .rt v M := rfl
@[simp] theorem RS.then_exc {c : Nat} {ρ : En} {M : Sto} {k : En → Sto → RS} : (RS.exc c ρ M).then k = .exc c ρ M := rfl
def Res.st {α : Type} (r : Res α) (ρ : En) (k : α → Sto → RS) : RS := match r with
  | .ok a M => k a M
  | .exc c M => .exc c ρ M
  | .bad => .bad
@[simp] theorem Res.st_ok {α : Type} {a : α} {M : Sto} {ρ : En} {k : α → Sto → RS} : (Res.ok a M).st ρ k = k a M := rfl
@[simp] theorem Res.st_exc {α : Type} {c : Nat} {M : Sto} {ρ : En} {k : α → Sto → RS} : (Res.exc c M).st ρ k = .exc c ρ M := rfl
@[simp] theorem Res.st_bad {α : Type} {ρ : En} {k : α → Sto → RS} : (Res.bad).st ρ k = .bad := rfl
def PostS (W : Wd) (r : RS) (D : Ends) (ES : St → XK) : Prop := match r with
  | .nx ρ M => ∀ W' σ' H', W.le W' → Held W' M H' → RepS W' ρ σ' → D.nx σ' H'
  | .rt v M => ∀ W' H' u, W.le W' → Held W' M H' → Rep W' v u → D.rt u H'
  | .bk ρ M => ∀ W' σ' H', W.le W' → Held W' M H' → RepS W' ρ σ' → D.bk σ' H'
  | .ct ρ M => ∀ W' σ' H', W.le W' → Held W' M H' → RepS W' ρ σ' → D.ct σ' H'
  | .exc k ρ M => ∀ W' σ' H', W.le W' → Held W' M H' → RepS W' ρ σ' → ES σ' (.ref (W.T.C k)) none H'
  | .bad => False
theorem PostS.up {W W' : Wd} {r : RS} {D : Ends} {ES : St → XK} (h : PostS W r D ES) (le : W.le W') : PostS W' r D ES := by
  cases r with
  | nx ρ M => exact fun W2 σ2 H2 l2 h2 r2 => h W2 σ2 H2 (le.trans l2) h2 r2
  | rt v M => exact fun W2 H2 u l2 h2 r2 => h W2 H2 u (le.trans l2) h2 r2
  | bk ρ M => exact fun W2 σ2 H2 l2 h2 r2 => h W2 σ2 H2 (le.trans l2) h2 r2
  | ct ρ M => exact fun W2 σ2 H2 l2 h2 r2 => h W2 σ2 H2 (le.trans l2) h2 r2
  | exc k ρ M =>
    intro W2 σ2 H2 l2 h2 r2
    have := h W2 σ2 H2 (le.trans l2) h2 r2
    rw [le.k]
    exact this
  | bad => exact h.elim
def lftS (T : Tb) (ES : St → XK) (d : DS) : TS := fun D σ H => ∃ W ρ M, W.T = T ∧ Held W M H ∧ RepS W ρ σ ∧ PostS W (d ρ M) D ES
theorem lftS_el {T : Tb} {ES : St → XK} {d : DS} {D : Ends} {σ : St} {H : Hp} {P : Prop} (h : lftS T ES d D σ H) (k : ∀ W ρ M, W.T = T → Held W M H → RepS W ρ σ → PostS W (d ρ M) D ES → P) : P := by
  obtain ⟨W, ρ, M, a, b, c, e⟩ := h
  exact k W ρ M a b c e
structure QS (X : Cx) (T : Tb) (ES : St → XK) (st : Stmt) (d : DS) : Prop where
  h : PS X st (lftS T ES d)
structure QSs (X : Cx) (T : Tb) (ES : St → XK) (st : List Stmt) (d : DS) : Prop where
  h : PSs X st (lftS T ES d)
theorem PostS.bind {α β : Type} {W : Wd} {R1 : Wd → α → β → Prop} {r : Res α} {ρ : En} {σ : St} {k : α → Sto → RS} {D : Ends} {ES : St → XK} {Q1 : β → Hp → Prop} (hs : RepS W ρ σ) (h : PostS W (r.st ρ k) D ES)
    (f : ∀ W' M a b H1, W.le W' → Held W' M H1 → R1 W' a b → PostS W' (k a M) D ES → Q1 b H1) : Post W R1 r Q1 (ES σ) := by
  cases r with
  | ok a M => exact fun W2 H2 b l2 h2 r2 => f W2 M a b H2 l2 h2 r2 (PostS.up (r := k a M) h l2)
  | exc k M => exact fun W2 H2 l2 h2 => h W2 σ H2 l2 h2 (hs.up l2)
  | bad => exact h.elim
section
variable {X : Cx} {T : Tb} {ES : St → XK} {e a b c o : Expr} {es : List Expr} {pos p : Pos} {st : Stmt} {sts rest : List Stmt} {d de da db do_ di : DE} {d1 d2 : DS} {ta : DT} {ds : DA}
theorem ps_imp {t t' : TS} (h : PS X st t) (f : ∀ D σ H, t' D σ H → t D σ H) : PS X st t' := fun pins s σ H D I q => h pins s σ H D I (f D σ H q)
theorem pss_imp {t t' : TS} (h : PSs X sts t) (f : ∀ D σ H, t' D σ H → t D σ H) : PSs X sts t' := fun pins s σ H D I q => h pins s σ H D I (f D σ H q)
def sNext : DS := fun ρ M => .nx ρ M
def sSeq (d1 d2 : DS) : DS := fun ρ M => (d1 ρ M).then d2
theorem qss_nil : QSs X T ES [] sNext := ⟨pss_imp pss_nil fun D σ H hQQ => lftS_el hQQ fun W ρ M k hh hs q => q W σ H (.refl W) hh hs⟩
theorem qss_one (h : QS X T ES st d1) : QSs X T ES [st] d1 := ⟨pss_one h.h⟩
theorem qss_cons (h1 : QS X T ES st d1) (h2 : QSs X T ES rest d2) : QSs X T ES (st :: rest) (sSeq d1 d2) := ⟨pss_imp (pss_cons h1.h h2.h) fun D σ H hQQ => lftS_el hQQ fun W ρ M k hh hs q => ⟨W, ρ, M, k, hh, hs, by
  unfold sSeq at q
  cases e : d1 ρ M with
  | nx ρ1 M1 =>
    rw [e] at q
    exact fun W1 σ1 H1 l1 h1 r1 => ⟨W1, ρ1, M1, l1.k.trans k, h1, r1, PostS.up (r := d2 ρ1 M1) q l1⟩
  | rt v M1 => rw [e] at q; exact q
  | bk ρ1 M1 => rw [e] at q; exact q
  | ct ρ1 M1 => rw [e] at q; exact q
  | exc c ρ1 M1 => rw [e] at q; exact q
  | bad => rw [e] at q; exact q⟩⟩
def sBad : DS := fun _ _ => .bad
theorem qs_never : QS X T ES st sBad := ⟨ps_imp ps_never fun D σ H hQQ => lftS_el hQQ fun _ _ _ _ _ _ q => q⟩
def sExpr (d : DE) : DS := fun ρ M => (d ρ M).st ρ fun _ M1 => .nx ρ M1
theorem qs_expr (he : QE X T ES e d) (hs : swapsWith e none pos.line X.env = pure false := by rfl) : QS X T ES (.Expr e pos) (sExpr d) := ⟨ps_imp (ps_expr he.h hs) fun D σ H hQQ => lftS_el hQQ fun W ρ M k hh hs q => ⟨W, ρ, M, k, hh, hs, PostS.bind hs q fun W1 M1 x v H1 l1 h1 r1 q1 => q1 W1 σ H1 (.refl W1) h1 (hs.up l1)⟩⟩
def sRet (d : DE) : DS := fun ρ M => (d ρ M).st ρ fun v M1 => .rt v M1
theorem qs_ret (he : QE X T ES e d) : QS X T ES (.Return (some e) pos) (sRet d) := ⟨ps_imp (ps_ret he.h) fun D σ H hQQ => lftS_el hQQ fun W ρ M k hh hs q => ⟨W, ρ, M, k, hh, hs, PostS.bind hs q fun W1 M1 x v H1 l1 h1 r1 q1 => q1 W1 H1 v (.refl W1) h1 r1⟩⟩
def sIf (t : DT) (d1 d2 : DS) : DS := fun ρ M => (t ρ M).st ρ fun c M1 => if c = true then d1 ρ M1 else d2 ρ M1
theorem qs_if {sa sb : List Stmt} (hc : QT X T ES c ta) (ha : QSs X T ES sa d1) (hb : QSs X T ES sb d2) : QS X T ES (.If c sa sb pos) (sIf ta d1 d2) := ⟨ps_imp (ps_if hc.h ha.h hb.h) fun D σ H hQQ => lftS_el hQQ fun W ρ M k hh hs q =>
  ⟨W, ρ, M, k, hh, hs, PostS.bind hs q fun W1 M1 x v H1 l1 h1 r1 q1 => by
    subst r1
    cases v with
    | true => rw [if_pos rfl] at q1 ⊢; exact ⟨W1, ρ, M1, l1.k.trans k, h1, hs.up l1, q1⟩
    | false => rw [if_neg (by simp)] at q1 ⊢; exact ⟨W1, ρ, M1, l1.k.trans k, h1, hs.up l1, q1⟩⟩⟩
def sSet (i : Nat) (d : DE) : DS := fun ρ M => (d ρ M).st ρ fun v M1 => .nx (ρ.set i (some v)) M1
theorem set_lift {i : Nat} {D : Ends} {σ : St} {H : Hp} (h : lftS T ES (sSet i d) D σ H) : tAsg (lft T Rep ES d) (gName i) D σ H := by
  obtain ⟨W, ρ, M, k, hh, hs, q⟩ := h
  exact ⟨W, ρ, M, k, hh, hs, PostS.bind hs q fun W1 M1 x v H1 l1 h1 r1 q1 => q1 W1 _ H1 (.refl W1) h1 ((hs.up l1).set r1)⟩
theorem qs_set {i : Nat} {x : Str} {pos' : Pos} (hN : X.N.Nodup) (hi : X.N[i]? = some x) (hx : Loc X.env.scope x) (he : QE X T ES e d) (hs : swapsWith e (some (.Name x pos')) pos.line X.env = pure false := by rfl) (hf : X.fn x = true ∨ X.env.scope.names.lookup x = some .local := by first | exact .inl rfl | exact .inr rfl | assumption) :
    QS X T ES (.Assign [.Name x pos'] e pos) (sSet i d) := ⟨ps_imp (ps_set hN hi hx he.h hs hf) fun _ _ _ => set_lift⟩
theorem qs_comp {osc sc : Scope} {own fr : List Str} {js : List Nat} {elt target iter : Expr} {ifs : List Expr} {dit : En → Sto → Res ItP} {g : TG} {bnd : PV → En → Option En} {dt : DT} {i : Nat} {x : Str} {px spos : Pos} (B : Bnd T own.length g bnd) (hc : X.calm = true) (ho : X.env.scope = osc) (S : CompScope osc sc own fr) (hj : js.map (fun j => X.N[j]?) = fr.map some)
    (hN : X.N.Nodup) (hi' : X.N[i]? = some x) (hx : X.env.scope.names.lookup x = some .local) (hi : QI X T ES target iter dit)
    (hg : ∀ s₃ H₃ fp, PG (cxComp X (own ++ fr) sc s₃ H₃ fp) target g) (ht : ∀ s₃ H₃ fp, QIf (cxComp X (own ++ fr) sc s₃ H₃ fp) T ES0 ifs dt) (he : ∀ s₃ H₃ fp, QE (cxComp X (own ++ fr) sc s₃ H₃ fp) T ES0 elt de)
    (hsw : swapsWith (.ListComp elt [⟨target, iter, ifs, 0⟩] sc pos) (some (.Name x px)) spos.line X.env = pure true) (hs : ∀ x, foldedSetIterable iter X.env x = pure x := by intro _; rfl) :
    QS X T ES (.Assign [.Name x px] (.ListComp elt [⟨target, iter, ifs, 0⟩] sc pos) spos) (sSet i (dComp dit bnd js dt de)) :=
  ⟨ps_imp (ps_comp hc ho S hj hN hi' hx hi.h hg (fun a b c => (ht a b c).h) (fun a b c => (he a b c).h) hsw hs) fun D σ H h => by
    have := set_lift h
    show tComp _ _ _ _ _ _ σ H _
    exact comp_lift B this⟩
abbrev DG := PV → En → Option En
abbrev DGs := List PV → En → Option En
def lftG (T : Tb) (g : DG) : TG := fun v σ H Q => ∃ W ρ M x ρ', W.T = T ∧ Held W M H ∧ RepS W ρ σ ∧ Rep W x v ∧ g x ρ = some ρ' ∧ ∀ σ', RepS W ρ' σ' → Q σ' H
def lftGs (T : Tb) (g : DGs) : TGs := fun vs σ H Q => ∃ W ρ M xs ρ', W.T = T ∧ Held W M H ∧ RepS W ρ σ ∧ Reps W xs vs ∧ g xs ρ = some ρ' ∧ ∀ σ', RepS W ρ' σ' → Q σ' H
structure QG (X : Cx) (T : Tb) (tg : Expr) (g : DG) : Prop where
  h : PG X tg (lftG T g)
structure QGs (X : Cx) (T : Tb) (tgs : List Expr) (g : DGs) : Prop where
  h : PGs X tgs (lftGs T g)
variable {tg : Expr} {tgs : List Expr}
theorem pg_imp {t t' : TG} (h : PG X tg t) (f : ∀ v σ H Q, t' v σ H Q → t v σ H Q) : PG X tg t' := fun pins s σ H v u Q I r q => h pins s σ H v u Q I r (f v σ H Q q)
theorem pgs_imp {t t' : TGs} (h : PGs X tgs t) (f : ∀ v σ H Q, t' v σ H Q → t v σ H Q) : PGs X tgs t' := fun pins s σ H v u Q I r q => h pins s σ H v u Q I r (f v σ H Q q)
def gN (i : Nat) : DG := fun x ρ => some (ρ.set i (some x))
theorem qg_name {i : Nat} {x : Str} (hN : X.N.Nodup) (hi : X.N[i]? = some x) (hx : Loc X.env.scope x) (hf : X.fn x = true ∨ X.env.scope.names.lookup x = some .local := by first | exact .inl rfl | exact .inr rfl | assumption) : QG X T (.Name x pos) (gN i) :=
  ⟨pg_imp (pg_name hN hi hx hf) fun v σ H Q hQQ => by
    obtain ⟨W, ρ, M, x, ρ', k, hh, hs, r, e, q⟩ := hQQ
    cases e
    exact q _ (hs.set r)⟩
def gsNil : DGs := fun xs ρ => match xs with
  | [] => some ρ
  | _ => none
def gsCons (g : DG) (gs : DGs) : DGs := fun xs ρ => match xs with
  | x :: r => (g x ρ).bind fun ρ1 => gs r ρ1
  | _ => none
theorem qgs_nil : QGs X T [] gsNil := ⟨pgs_imp pgs_nil fun v σ H Q hQQ => by
  obtain ⟨W, ρ, M, xs, ρ', k, hh, hs, r, e, q⟩ := hQQ
  cases xs with
  | nil => cases e; cases r; exact ⟨rfl, q σ hs⟩
  | cons _ _ => cases e⟩
theorem qgs_cons {g : DG} {gs : DGs} (h1 : QG X T tg g) (h2 : QGs X T tgs gs) (hs : (assignEach (tg :: tgs) X.env).map (·.2) = assign tg X.env :: (assignEach tgs X.env).map (·.2) := by rfl) : QGs X T (tg :: tgs) (gsCons g gs) :=
  ⟨pgs_imp (pgs_cons h1.h h2.h hs) fun v σ H Q hQQ => by
    obtain ⟨W, ρ, M, xs, ρ', k, hh, hs, r, e, q⟩ := hQQ
    cases xs with
    | nil => cases e
    | cons x xr =>
      obtain ⟨u, ur, rfl, ra, rb⟩ := r
      have e : (g x ρ).bind (fun ρ1 => gs xr ρ1) = some ρ' := e
      cases e1 : g x ρ with
      | none => rw [e1] at e; cases e
      | some ρ1 =>
        rw [e1] at e
        exact ⟨u, ur, rfl, W, ρ, M, x, ρ1, k, hh, hs, ra, e1, fun σ1 r1 => ⟨W, ρ1, M, xr, ρ', k, hh, r1, rb, e, q⟩⟩⟩
def gT (n : Nat) (gs : DGs) : DG := fun x ρ => match x with
  | .tup xs => if xs.length = n then gs xs ρ else none
  | _ => none
theorem qg_tup {k : Nat} {gs : DGs} {n : Nat} (hT : T.K = X.K) (hc : X.calm = true) (h : QGs X T tgs gs) (hn : (assignEach tgs X.env).length = n := by rfl) (hst : (assignEach tgs X.env).findIdx? (·.1) = none := by rfl) : QG X T (.Tuple tgs k pos) (gT n gs) :=
  ⟨pg_imp (pg_tup hc h.h hn hst) fun v σ H Q hQQ => by
    obtain ⟨W, ρ, M, x, ρ', k, hh, hs, r, e, q⟩ := hQQ
    unfold gT at e
    split at e
    · rename_i xs
      split at e
      · rename_i hl
        obtain ⟨a, vs, rfl, ha, rr⟩ := tup_at hh r
        rw [k, hT] at ha
        exact ⟨a, vs, rfl, ha, by rw [rr.length]; exact hl, W, ρ, M, xs, ρ', k, hh, hs, rr, e, q⟩
      · cases e
    · cases e⟩
def sAsg (d : DE) (g : DG) : DS := fun ρ M => (d ρ M).st ρ fun v M1 => match g v ρ with
  | some ρ' => .nx ρ' M1
  | none => .bad
theorem qs_asg {g : DG} (he : QE X T ES e d) (hg : QG X T tg g) (hs : swapsWithSole [tg] e pos.line X.env = pure false := by rfl) (hw : swappedStores [tg] e X.env = pure none := by rfl)
    (h1 : (assignEach [tg] X.env).map (·.2) = [assign tg X.env] := by rfl) : QS X T ES (.Assign [tg] e pos) (sAsg d g) := ⟨ps_imp (ps_asg he.h hg.h hs hw h1) fun D σ H hQQ => lftS_el hQQ fun W ρ M k hh hs q => ⟨W, ρ, M, k, hh, hs, PostS.bind hs q fun W1 M1 x v H1 l1 h1 r1 q1 => by
  split at q1
  · rename_i ρ' e1
    exact ⟨W1, ρ, M1, x, ρ', l1.k.trans k, h1, hs.up l1, r1, e1, fun σ' r' => q1 W1 σ' H1 (.refl W1) h1 r'⟩
  · exact q1.elim⟩⟩
def putI (M : Sto) (o i x : PV) : Option Sto := match o, i with
  | .ref j, .int k => (match M.g j with
    | some (.lst xs) => (ixN xs.length k).map fun n => M.set j (.lst (xs.set n x))
    | _ => none)
  | _, _ => none
def sSetI (d do_ di : DE) : DS := fun ρ M => (d ρ M).st ρ fun x M1 => (do_ ρ M1).st ρ fun o M2 => (di ρ M2).st ρ fun i M3 => match putI M3 o i x with
  | some M4 => .nx ρ M4
  | none => .bad
theorem qs_setI {ip : Expr} {p2 : Pos} (he : QE X T ES e d) (ho : QE X T ES o do_) (hi : QE X T ES ip di)
    (ha : ∀ v, assign (.Subscript o ip p2) X.env v = (do
      let ov ← holding [v] (eval o X.env)
      let iv ← holding [v, ov] (eval ip X.env)
      standAt p2
      holding [v, ov, iv] (setItem ov iv v)
      release [v, ov, iv] []) := by intro _; rfl)
    (hs : swapsWithSole [.Subscript o ip p2] e pos.line X.env = pure false := by rfl) (hw : swappedStores [.Subscript o ip p2] e X.env = pure none := by rfl)
    (h1 : (assignEach [.Subscript o ip p2] X.env).map (·.2) = [assign (.Subscript o ip p2) X.env] := by rfl) : QS X T ES (.Assign [.Subscript o ip p2] e pos) (sSetI d do_ di) :=
  ⟨ps_imp (ps_asg he.h (pg_sub ho.h hi.h set_list ha) hs hw h1) fun D σ H hQQ => lftS_el hQQ fun W ρ M k hh hs q => ⟨W, ρ, M, k, hh, hs, PostS.bind hs q fun W1 M1 x v H1 l1 h1 r1 q1 => by
    have hs1 := hs.up l1
    refine ⟨W1, ρ, M1, l1.k.trans k, h1, hs1, PostS.bind hs1 q1 fun W2 M2 o' ov H2 l2 h2 r2 q2 => ?_⟩
    have hs2 := hs1.up l2
    refine ⟨W2, ρ, M2, l2.k.trans (l1.k.trans k), h2, hs2, PostS.bind hs2 q2 fun W3 M3 i' iv H3 l3 h3 r3 q3 => ?_⟩
    split at q3
    · rename_i M4 e4
      unfold putI at e4
      split at e4
      · rename_i j kk
        split at e4
        · rename_i xs e5
          cases e6 : ixN xs.length kk with
          | none => rw [e6] at e4; cases e4
          | some n =>
            rw [e6] at e4
            cases e4
            obtain ⟨a, rfl, ea⟩ := r2.up l3
            obtain ⟨b', ob, g1, g2, g3, vs, rfl, rr⟩ := h3.m j _ e5
            rw [ea] at g1
            cases g1
            have rx := (r1.up l2).up l3
            exact ⟨a, vs, kk, n, rfl, r3, g3, by rw [rr.length]; exact e6, q3 W3 σ _ (.refl W3) (h3.upd e5 ea ⟨_, rfl, rr.set rx n⟩) (hs2.up l3)⟩
        · cases e4
      · cases e4
    · exact q3.elim⟩⟩
def loopN (p : ItP) (g : DG) (db : DS) : Nat → Nat → En → Sto → RS
  | 0, _, _, _ => .bad
  | n + 1, i, ρ, M => match nxt p M i with
    | none => .bad
    | some none => .nx ρ M
    | some (some x) => match g x ρ with
      | none => .bad
      | some ρ1 => match db ρ1 M with
        | .nx ρ2 M2 => loopN p g db n (i + 1) ρ2 M2
        | .ct ρ2 M2 => loopN p g db n (i + 1) ρ2 M2
        | .bk ρ2 M2 => .nx ρ2 M2
        | r => r
def loopF (g : DG) (db : DS) : List PV → En → Sto → RS
  | [], ρ, M => .nx ρ M
  | x :: xs, ρ, M => match g x ρ with
    | none => .bad
    | some ρ1 => match db ρ1 M with
      | .nx ρ2 M2 => loopF g db xs ρ2 M2
      | .ct ρ2 M2 => loopF g db xs ρ2 M2
      | .bk ρ2 M2 => .nx ρ2 M2
      | r => r
theorem loopN_fix {all : List PV} {g : DG} {db : DS} : ∀ {xs : List PV} {n i : Nat} {ρ : En} {M : Sto}, all.drop i = xs → xs.length < n → loopN (.fix all) g db n i ρ M = loopF g db xs ρ M
  | xs, 0, i, ρ, M, e, h => absurd h (Nat.not_lt_zero _)
  | [], n + 1, i, ρ, M, e, h => by
    have : all[i]? = none := List.getElem?_eq_none_iff.mpr (by
      have := congrArg List.length e
      simp at this
      omega)
    unfold loopN
    rw [show nxt (.fix all) M i = some (all[i]?) from rfl, this]
    rfl
  | x :: xs, n + 1, i, ρ, M, e, h => by
    have e1 : all[i]? = some x := by
      have := congrArg (fun l => l[0]?) e
      simpa [List.getElem?_drop] using this
    have e2 : all.drop (i + 1) = xs := by
      have := congrArg (List.drop 1) e
      simpa [List.drop_drop] using this
    have ih : ∀ ρ M, loopN (.fix all) g db n (i + 1) ρ M = loopF g db xs ρ M := fun ρ M => loopN_fix e2 (by simpa using h)
    unfold loopN
    rw [show nxt (.fix all) M i = some (all[i]?) from rfl, e1]
    simp only [ih]
    rfl
def sFor (F : Nat) (dit : En → Sto → Res ItP) (g : DG) (db : DS) : DS := fun ρ M => (dit ρ M).st ρ fun p M1 => loopN p g db (match p with
  | .fix xs => xs.length + 1
  | _ => F) 0 ρ M1
theorem sFor_fix {F : Nat} {dit : En → Sto → Res ItP} {g : DG} {db : DS} {ρ : En} {M M1 : Sto} {xs : List PV} (h : dit ρ M = .ok (.fix xs) M1) : sFor F dit g db ρ M = loopF g db xs ρ M1 := by
  unfold sFor
  rw [h]
  exact loopN_fix rfl (Nat.lt_succ_self _)
theorem qs_for {iter : Expr} {body : List Stmt} {dit : En → Sto → Res ItP} {g : DG} {db : DS} (F : Nat) (hp : PassesOwn (model X.prog X.w) X.A X.env X.xe) (hc : X.calm = true) (hi : QI X T ES tg iter dit) (hg : QG X T tg g) (hb : QSs X T ES body db) (hs : ∀ x, foldedSetIterable iter X.env x = pure x := by intro _; rfl) :
    QS X T ES (.For tg iter body [] pos) (sFor F dit g db) := ⟨ps_imp (ps_for hp hc hi.h hg.h hb.h hs) fun D σ H hQQ => lftS_el hQQ fun W ρ M k hh hs q => ⟨W, ρ, M, k, hh, hs, PostS.bind hs q fun W0 M0 it J H0 l0 h0 ri q0 => by
  refine ⟨fun i m σ H => ∃ W ρ M, W0.le W ∧ Held W M H ∧ RepS W ρ σ ∧ PostS W (loopN it g db m i ρ M) D ES, ⟨_, W0, ρ, M0, .refl W0, h0, hs.up l0, q0⟩, ?_⟩
  rintro i m σ1 H1 ⟨W1, ρ1, M1, l1, h1, r1, q1⟩
  have k1 : W1.T = T := l1.k.trans (l0.k.trans k)
  cases m with
  | zero => exact q1.elim
  | succ m =>
    unfold loopN at q1
    obtain ⟨goes, stops⟩ := ri W1 M1 H1 l1.toLe0 h1 i
    split at q1
    · exact q1.elim
    · rename_i en
      exact .inl ⟨stops en, q1 W1 σ1 H1 (.refl W1) h1 r1⟩
    · rename_i x en
      obtain ⟨go, yld⟩ := goes x en
      split at q1
      · exact q1.elim
      · rename_i ρ2 eg
        refine .inr ⟨go, fun σ' H' => ∃ W ρ M, W0.le W ∧ Held W M H' ∧ RepS W ρ σ' ∧ PostS W (loopN it g db m (i + 1) ρ M) D ES, fun σ' H' n => ⟨m, Nat.lt_succ_self _, n⟩, fun v H2 hy => ?_⟩
        obtain ⟨W2, l2, h2, rx⟩ := yld v H2 hy
        refine ⟨W2, ρ1, M1, x, ρ2, l2.k.trans k1, h2, r1.up l2, rx, eg, fun σ2 r2 => ⟨W2, ρ2, M1, l2.k.trans k1, h2, r2, ?_⟩⟩
        have l12 := l1.trans l2
        cases e : db ρ2 M1 with
        | nx ρ3 M3 => rw [e] at q1; exact fun W3 σ3 H3 l3 h3 r3 => ⟨W3, ρ3, M3, l12.trans l3, h3, r3, PostS.up (r := loopN it g db m (i + 1) ρ3 M3) q1 (l2.trans l3)⟩
        | ct ρ3 M3 => rw [e] at q1; exact fun W3 σ3 H3 l3 h3 r3 => ⟨W3, ρ3, M3, l12.trans l3, h3, r3, PostS.up (r := loopN it g db m (i + 1) ρ3 M3) q1 (l2.trans l3)⟩
        | bk ρ3 M3 => rw [e] at q1; exact fun W3 σ3 H3 l3 h3 r3 => q1 W3 σ3 H3 (l2.trans l3) h3 r3
        | rt v3 M3 => rw [e] at q1; exact fun W3 H3 u l3 h3 r3 => q1 W3 H3 u (l2.trans l3) h3 r3
        | exc c ρ3 M3 =>
          rw [e] at q1
          intro W3 σ3 H3 l3 h3 r3
          have := q1 W3 σ3 H3 (l2.trans l3) h3 r3
          rw [l2.k]
          exact this
        | bad => rw [e] at q1; exact q1.elim⟩⟩
end
end L3

namespace L3
open PySem L2
open PyProof.Rows (envOfC int_text_len_1921)
def spD (T : Tb) (D : List PV → Sto → Res PV) : Sp := fun vs H Q E => ∃ W pvs M, W.T = T ∧ Held W M H ∧ Reps W pvs vs ∧ Post W Rep (D pvs M) Q E
def spOk (T : Tb) (D : List PV → Sto → Res PV) : Sp := fun vs H Q _ => ∃ W pvs M v M', W.T = T ∧ Held W M H ∧ Reps W pvs vs ∧ D pvs M = .ok v M' ∧ ∀ W' H' u, W.le W' → Held W' M' H' → Rep W' v u → Q u H'
def fin : RS → Res PV
  | .rt v M => .ok v M
  | .nx _ M => .ok .non M
  | .exc k _ M => .exc k M
  | _ => .bad
def denF (n N : Nat) (d : DS) : List PV → Sto → Res PV := fun pvs M => if pvs.length = n then fin (d (pvs.map some ++ List.replicate (N - n) none) M) else .bad
def onlyOk (D : List PV → Sto → Res PV) : List PV → Sto → Res PV := fun pvs M => (D pvs M).noX
def both (D0 D1 : List PV → Sto → Res PV) : List PV → Sto → Res PV := fun pvs M => match D0 pvs M with
  | .ok v M' => .ok v M'
  | _ => match D1 pvs M with
    | .exc k M' => .exc k M'
    | _ => .bad
theorem start_rep {W : Wd} {N : List Str} {n : Nat} {pvs : List PV} {vs : List V} (r : Reps W pvs vs) (hn : pvs.length = n) : RepS W (pvs.map some ++ List.replicate (N.length - n) none) (L2.start N vs) := by
  unfold L2.start
  have hl := r.length
  refine ⟨by simp; omega, fun i x e => ?_⟩
  by_cases hi : i < pvs.length
  · rw [List.getElem?_append_left (by simpa using hi), List.getElem?_map] at e
    cases e1 : pvs[i]? with
    | none => rw [e1] at e; cases e
    | some y =>
      rw [e1] at e
      cases e
      obtain ⟨v, e2, r2⟩ := r.get e1
      exact ⟨v, by rw [List.getElem?_append_left (by simp; omega), List.getElem?_map, e2]; rfl, r2⟩
  · rw [List.getElem?_append_right (by simp; omega)] at e
    have := List.mem_of_getElem? e
    have := List.eq_of_mem_replicate this
    cases this
section
variable {P : Program} {w : World} {K : PySem.W.Frag} {mg : Str → Option Value} {base : Heap} {x qual : Str} {st : Stmt} {f : Addr} {fd : FuncData} {N ps : List Str} {k : Nat} {T : Tb} {d : DS} {D D0 D1 : List PV → Sto → Res PV}
theorem denF_len {n : Nat} {pvs : List PV} {M : Sto} (h : denF n k d pvs M ≠ .bad) : pvs.length = n := by
  unfold denF at h
  split at h
  · assumption
  · exact absurd rfl h
theorem fin_post {W : Wd} {r : RS} {Q : VK} {E : XK} (h : Post W Rep (fin r) Q E) : PostS W r { nx := fun _ H' => Q .non H', rt := Q } fun _ => E := by
  cases r with
  | nx ρ M => exact fun W' σ' H' le hh _ => h W' H' .non le hh rfl
  | rt v M => exact h
  | bk ρ M => exact h.elim
  | ct ρ M => exact h.elim
  | exc c ρ M => exact fun W' σ' H' le hh _ => h W' H' le hh
  | bad => exact h.elim
theorem den_lift {n : Nat} {vs : List V} {H : Hp} {Q : VK} {E : XK} (h : spD T (denF n N.length d) vs H Q E) : lftS T (fun _ => E) d { nx := fun _ H' => Q .non H', rt := Q } (L2.start N vs) H := by
  obtain ⟨W, pvs, M, kT, hh, r, p⟩ := h
  have hn : pvs.length = n := denF_len (M := M) (d := d) (k := N.length) fun z => by rw [z] at p; exact p
  have p : Post W Rep (if pvs.length = n then fin (d (pvs.map some ++ List.replicate (N.length - n) none) M) else .bad) Q E := p
  rw [if_pos hn] at p
  exact ⟨W, _, M, kT, hh, start_rep r hn, fin_post p⟩
theorem spD_len {n : Nat} {vs : List V} {H : Hp} {Q : VK} {E : XK} (h : spD T (denF n N.length d) vs H Q E) : vs.length = n := by
  obtain ⟨W, pvs, M, kT, hh, r, p⟩ := h
  have hn : pvs.length = n := denF_len (M := M) (d := d) (k := N.length) fun z => by rw [z] at p; exact p
  rw [r.length, hn]
theorem spOk_D {D : List PV → Sto → Res PV} {vs : List V} {H : Hp} {Q : VK} {E : XK} (h : spOk T D vs H Q E) : spD T D vs H Q E := by
  obtain ⟨W, pvs, M, v, M', kT, hh, r, e, q⟩ := h
  exact ⟨W, pvs, M, kT, hh, r, by rw [e]; exact q⟩
theorem den_X (F : Fun K x qual st f fd) (S : FnScope N ps (defScope st)) (hb : ∀ (cdv : Value) (A : Around) (outer : List Env) (s : Shared) (H : Hp) (E : XK), Room k (A.deeper (envOfC qual (defScope st) s.heap.objs.size f cdv)) →
    QSs (cxOf (CX1 P w) P w K mg base N qual (defScope st) f cdv A outer s H E) T (fun _ => E) (defBody st) d) : FnOk P w K mg base (CX1 P w) (k + 1) f fd ps (spD T (denF ps.length N.length d)) :=
  F.okX S (fun _ _ _ _ h => spD_len h) fun cdv A outer s H vs Q E hr h => ⟨_, (hb cdv A outer s H E hr).h, den_lift h⟩
theorem den_0 (F : Fun K x qual st f fd) (S : FnScope N ps (defScope st)) (hb : ∀ (cdv : Value) (A : Around) (outer : List Env) (s : Shared) (H : Hp) (E : XK), Room k (A.deeper (envOfC qual (defScope st) s.heap.objs.size f cdv)) →
    QSs (cxOf CX0 P w K mg base N qual (defScope st) f cdv A outer s H E).nox T ES0 (defBody st) d) : FnOk P w K mg base CX0 (k + 1) f fd ps (spOk T (denF ps.length N.length d)) :=
  F.ok S (fun _ _ _ _ h => spD_len (spOk_D h)) fun cdv A outer s H vs Q E hr h => ⟨_, (hb cdv A outer s H E hr).h, by
    obtain ⟨W, pvs, M, v, M', kT, hh, r, e, q⟩ := h
    exact den_lift (E := E0) ⟨W, pvs, M, kT, hh, r, by rw [e]; exact q⟩⟩
theorem den_only (F : FnOk P w K mg base CX0 k f fd ps (spOk T D)) : FnOk P w K mg base (CX1 P w) k f fd ps (spD T (onlyOk D)) := F.up.imp fun vs H Q E hQQ => by
  obtain ⟨W, pvs, M, kT, hh, r, p⟩ := hQQ
  unfold onlyOk at p
  cases e : D pvs M with
  | ok v M' => rw [e] at p; exact ⟨W, pvs, M, v, M', kT, hh, r, e, p⟩
  | exc _ _ => rw [e] at p; exact p.elim
  | bad => rw [e] at p; exact p.elim
theorem den_both (F : FnOk P w K mg base CX0 k f fd ps (spOk T D0)) (G : FnOk P w K mg base (CX1 P w) k f fd ps (spD T D1)) : FnOk P w K mg base (CX1 P w) k f fd ps (spD T (both D0 D1)) := (F.up.or G).imp fun vs H Q E hQQ => by
  obtain ⟨W, pvs, M, kT, hh, r, p⟩ := hQQ
  unfold both at p
  cases e : D0 pvs M with
  | ok v M' => rw [e] at p; exact .inl ⟨W, pvs, M, v, M', kT, hh, r, e, p⟩
  | exc c M' =>
    rw [e] at p
    cases e1 : D1 pvs M with
    | exc c' M1 => rw [e1] at p; exact .inr ⟨W, pvs, M, kT, hh, r, by rw [e1]; exact p⟩
    | ok _ _ => rw [e1] at p; exact p.elim
    | bad => rw [e1] at p; exact p.elim
  | bad =>
    rw [e] at p
    cases e1 : D1 pvs M with
    | exc c' M1 => rw [e1] at p; exact .inr ⟨W, pvs, M, kT, hh, r, by rw [e1]; exact p⟩
    | ok _ _ => rw [e1] at p; exact p.elim
    | bad => rw [e1] at p; exact p.elim
end
inductive Sl where
  | p (i : Nat) | k (j : Nat) | d (n : Nat)
def gen {α : Type} (sp : List Sl) (ds us ws : List α) : List α := sp.filterMap fun
  | .p i => us[i]?
  | .k j => ws[j]?
  | .d n => ds[n]?
def genC {α : Type} (a b : Nat) (sp : List Sl) (ds us ws : List α) : List α := if us.length = a ∧ ws.length = b then gen sp ds us ws else []
theorem gen_vals {dV : List V} {ds : List Value} {vs : List V} {us : List Value} {zs : List V} {ws : List Value} (hd : Vals dV ds) (hu : Vals vs us) (hw : Vals zs ws) : ∀ (sp : List Sl), Vals (gen sp dV vs zs) (gen sp ds us ws)
  | [] => .nil
  | c :: r => by
    have ih := gen_vals hd hu hw r
    have get : ∀ {xs : List V} {ys : List Value} (i : Nat), Vals xs ys → (∃ x y, xs[i]? = some x ∧ ys[i]? = some y ∧ RelV x y) ∨ (xs[i]? = none ∧ ys[i]? = none) := fun {xs ys} i h => by
      cases e : xs[i]? with
      | none => exact .inr ⟨rfl, h.none_of e⟩
      | some x =>
        obtain ⟨y, e2, r2⟩ := h.get e
        exact .inl ⟨x, y, rfl, e2, r2⟩
    unfold gen
    rw [List.filterMap_cons, List.filterMap_cons]
    cases c with
    | p i =>
      rcases get i hu with ⟨x, y, e1, e2, r2⟩ | ⟨e1, e2⟩
      · simp only [e1, e2]; exact .cons r2 ih
      · simp only [e1, e2]; exact ih
    | k i =>
      rcases get i hw with ⟨x, y, e1, e2, r2⟩ | ⟨e1, e2⟩
      · simp only [e1, e2]; exact .cons r2 ih
      · simp only [e1, e2]; exact ih
    | d i =>
      rcases get i hd with ⟨x, y, e1, e2, r2⟩ | ⟨e1, e2⟩
      · simp only [e1, e2]; exact .cons r2 ih
      · simp only [e1, e2]; exact ih
theorem gen_reps {W : Wd} {dP : List PV} {dV : List V} {pus : List PV} {vs : List V} {pws : List PV} {zs : List V} (hd : Reps W dP dV) (hu : Reps W pus vs) (hw : Reps W pws zs) : ∀ (sp : List Sl), Reps W (gen sp dP pus pws) (gen sp dV vs zs)
  | [] => rfl
  | c :: r => by
    have ih := gen_reps hd hu hw r
    have get : ∀ {xs : List PV} {ys : List V} (i : Nat), Reps W xs ys → (∃ x y, xs[i]? = some x ∧ ys[i]? = some y ∧ Rep W x y) ∨ (xs[i]? = none ∧ ys[i]? = none) := fun {xs ys} i h => by
      cases e : xs[i]? with
      | none =>
        refine .inr ⟨rfl, List.getElem?_eq_none_iff.mpr ?_⟩
        rw [h.length]
        exact List.getElem?_eq_none_iff.mp e
      | some x =>
        obtain ⟨y, e2, r2⟩ := h.get e
        exact .inl ⟨x, y, rfl, e2, r2⟩
    unfold gen
    rw [List.filterMap_cons, List.filterMap_cons]
    cases c with
    | p i =>
      rcases get i hu with ⟨x, y, e1, e2, r2⟩ | ⟨e1, e2⟩
      · simp only [e1, e2]; exact ⟨y, _, rfl, r2, ih⟩
      · simp only [e1, e2]; exact ih
    | k i =>
      rcases get i hw with ⟨x, y, e1, e2, r2⟩ | ⟨e1, e2⟩
      · simp only [e1, e2]; exact ⟨y, _, rfl, r2, ih⟩
      · simp only [e1, e2]; exact ih
    | d i =>
      rcases get i hd with ⟨x, y, e1, e2, r2⟩ | ⟨e1, e2⟩
      · simp only [e1, e2]; exact ⟨y, _, rfl, r2, ih⟩
      · simp only [e1, e2]; exact ih
theorem kb_mk {K : PySem.W.Frag} {fd : FuncData} {p0 : Str} {pr ks : List Str} {a b : Nat} {sp : List Sl} {dV : List V} {ds : List Value} (hd : Vals dV ds)
    (h : ∀ (s : Shared) (us ws : List Value), K.In s.heap → us.length = a → ws.length = b → BindsTo s fd ⟨us, ks.zip ws⟩ ((p0 :: pr).zip (gen sp ds us ws))) : KBinds K fd (p0 :: pr) ks (genC a b sp ds) (genC a b sp dV) where
  to := fun s us ws KX hl => by
    unfold genC at hl ⊢
    by_cases hc : us.length = a ∧ ws.length = b
    · rw [if_pos hc] at hl ⊢
      exact h s us ws KX hc.1 hc.2
    · rw [if_neg hc] at hl
      cases hl
  rel := fun {vs us zs ws} hu hw => by
    unfold genC
    rw [hu.length, hw.length]
    split
    · exact gen_vals hd hu hw sp
    · exact .nil
structure CalD (P : Program) (w : World) (K : PySem.W.Frag) (mg : Str → Option Value) (base : Heap) (T : Tb) (x : Str) (j : Nat) (ps ks : List Str) (a b : Nat) (sl : List Sl) (dP : List PV) (D : List PV → Sto → Res PV) : Prop where
  ex : ∃ f fd dV ds, FnOk P w K mg base (CX1 P w) j f fd ps (spD T D) ∧ mg x = some (.ref f) ∧ PySem.W.keepIn K (.ref f) = true ∧ KBinds K fd ps ks (genC a b sl ds) (genC a b sl dV) ∧ ∀ W : Wd, W.T = T → Reps W dP dV
def dCall (D : List PV → Sto → Res PV) (a b : Nat) (sl : List Sl) (dP : List PV) (da dk : DA) : DE := fun ρ M => (da ρ M).bind fun xs M1 => (dk ρ M1).bind fun zs M2 => D (genC a b sl dP xs zs) M2
section
variable {X : Cx} {T : Tb} {ES : St → XK} {x : Str} {j : Nat} {ps ks : List Str} {a b : Nat} {sl : List Sl} {dP : List PV} {D : List PV → Sto → Res PV} {p pos : Pos} {e : Expr} {es : List Expr} {kws : List Keyword} {da dk : DA}
theorem genC_reps {W : Wd} {dV : List V} {pus : List PV} {vs : List V} {pws : List PV} {zs : List V} (hd : Reps W dP dV) (hu : Reps W pus vs) (hw : Reps W pws zs) : Reps W (genC a b sl dP pus pws) (genC a b sl dV vs zs) := by
  unfold genC
  rw [hu.length, hw.length]
  split
  · exact gen_reps hd hu hw sl
  · rfl
theorem passS0 : PassesS (CX1 X.prog X.w) X ES0 := fun pins σ H s e s' I h => by
  obtain ⟨_, _, _, _, _, _, _, _, _, _, _, _, _, _, q⟩ := h
  exact q.elim
theorem passS {P : Program} {w : World} {K : PySem.W.Frag} {mg : Str → Option Value} {base : Heap} {N : List Str} {qual : Str} {scope : Scope} {f : Addr} {cd : Value} {A : Around} {outer : List Env} {s₀ : Shared} {H₀ : Hp} {E : XK} :
    PassesS (CX1 P w) (cxOf (CX1 P w) P w K mg base N qual scope f cd A outer s₀ H₀ E) fun _ => E := fun pins σ H s e s' I h => cx_pass pins σ H s e s' I h
theorem run_g {f : Addr} {fd : FuncData} {dV : List V} {ds : List Value} {pins : List (Addr × Obj)} {σ : St} {H : Hp} {s : Shared} {Q : VK} {us ws : List Value} {vs zs : List V} {sp : Sp} (F : FnOk X.prog X.w X.K X.mg X.base (CX1 X.prog X.w) j f fd ps sp) (hr : Room j X.A) (hb : KBinds X.K fd ps ks (genC a b sl ds) (genC a b sl dV)) (hx : PassesS (CX1 X.prog X.w) X ES)
    (I : Inv X pins σ H s) (r : Vals vs us) (rz : Vals zs ws) (h : sp (genC a b sl dV vs zs) H Q (ES σ)) : wpAny (model X.prog X.w) X.A (call (.ref f) us (ks.zip ws)) (EP X pins σ Q) X.xe s := by
  have r2 := hb.rel r rz
  have hl : (genC a b sl ds us ws).length = ps.length := by rw [← r2.length]; exact F.len _ _ _ _ h
  refine wpAny_call (codeAny_mono (F.run X.A X.stack s H ⟨us, ks.zip ws⟩ (genC a b sl ds us ws) (genC a b sl dV vs zs) Q (ES σ) hr I.env0 (hb.to s us ws I.kIn hl) r2 h) fun r s' hq => ?_)
  match r, hq with
  | .error e, hq => exact hx pins σ H s e s' I hq
  | .ok (.ret u), hq => exact I.after hq
theorem qe_call (C : CalD X.prog X.w X.K X.mg X.base T x j ps ks a b sl dP D) (hr : Room j X.A) (hg : Gl X x) (hx : PassesS (CX1 X.prog X.w) X ES) (ha : QA X T ES (e :: es) da) (hkw : QK X T ES kws dk)
    (hall : (backToKw pos (keywordEach kws X.env)).all (·.1.isSome) = true := by rfl) (hks : (backToKw pos (keywordEach kws X.env)).filterMap (·.1) = ks := by rfl)
    (hdb : (x == ("__debug__" : Str)) = false := by decide) (he : starEach (e :: es) X.env = (false, eval e X.env) :: starEach es X.env := by rfl)
    (hpl : ((backTo pos (starEach (e :: es) X.env)).any (·.1) || (backToKw pos (keywordEach kws X.env)).any (·.1.isNone)) = false := by rfl) : QE X T ES (.Call (.Name x p) (e :: es) kws pos) (dCall D a b sl dP da dk) := ⟨by
  obtain ⟨f, fd, dV, ds, F, hm, hk, hb, hdV⟩ := C.ex
  rintro pins s σ H Q I ⟨W, ρ, M, k, hh, hs, q⟩
  refine wpAny_Call_Name_kw (ld_glob I hg hm ?_ hdb)
  refine PySem.W.callWith_KW (h₀ := X.base) I.ok.mod.kin hk hall (thn (ha.h pos pins s σ H _ I ⟨W, ρ, M, k, hh, hs, Post.bind (Q1 := fun vs H1 => ∃ W1 M1 xs, W1.T = T ∧ Held W1 M1 H1 ∧ RepS W1 ρ σ ∧ Reps W1 xs vs ∧ Post W1 Rep ((dk ρ M1).bind fun zs M2 => D (genC a b sl dP xs zs) M2) Q (ES σ)) q
      fun W1 M1 xs vs H1 l1 h1 r1 q1 => ⟨W1, M1, xs, l1.k.trans k, h1, hs.up l1, r1, q1⟩⟩) fun us s1 hQQ => ?_) hpl he
  obtain ⟨vs, H1, I1, r, W1, M1, xs, k1, h1, hs1, r1, q1⟩ := hQQ
  refine thn (hkw.h pos pins s1 σ H1 (fun zs H2 => spD T D (genC a b sl dV vs zs) H2 Q (ES σ)) I1 ⟨W1, ρ, M1, k1, h1, hs1, Post.bind q1 fun W2 M2 zs' zs H2 l2 h2 r2 q2 => ⟨W2, _, M2, l2.k.trans k1, h2, genC_reps (hdV W2 (l2.k.trans k1)) (r1.up l2) r2, q2⟩⟩) fun ws s2 hQQ => ?_
  obtain ⟨zs, H2, I2, rz, q2⟩ := hQQ
  refine ⟨I2.kIn, ?_⟩
  rw [hks]
  exact run_g F hr hb hx I2 r rz q2⟩
def sRaise (c : Nat) (ds : DA) : DS := fun ρ M => (ds ρ M).st ρ fun vs M1 => if vs.length ≤ sizeLine then .exc c ρ M1 else .bad
theorem qs_raise {P : Program} {w : World} {K : PySem.W.Frag} {mg : Str → Option Value} {base : Heap} {N : List Str} {qual : Str} {scope : Scope} {f : Addr} {cd : Value} {A : Around} {outer : List Env} {s₀ : Shared} {H₀ : Hp} {E : XK}
    {x : Str} {c : Nat} {np cpos pos : Pos} {e : Expr} {es : List Expr} {ds : DA} (hC : Exc K mg x (T.C c)) (hg : Gl (cxOf (CX1 P w) P w K mg base N qual scope f cd A outer s₀ H₀ E) x) (ha : QA (cxOf (CX1 P w) P w K mg base N qual scope f cd A outer s₀ H₀ E) T (fun _ => E) (e :: es) ds)
    (hdb : (x == ("__debug__" : Str)) = false := by decide)
    (he : starEach (e :: es) (envOfC qual scope s₀.heap.objs.size f cd) = (false, eval e (envOfC qual scope s₀.heap.objs.size f cd)) :: starEach es (envOfC qual scope s₀.heap.objs.size f cd) := by rfl)
    (hpl : (backTo cpos (starEach es (envOfC qual scope s₀.heap.objs.size f cd))).any (·.1) = false := by rfl) :
    QS (cxOf (CX1 P w) P w K mg base N qual scope f cd A outer s₀ H₀ E) T (fun _ => E) (.Raise (some (.Call (.Name x np) (e :: es) [] cpos)) none pos) (sRaise c ds) :=
  ⟨ps_imp (ps_raise hC hg ha.h hdb he hpl) fun D σ H hQQ => lftS_el hQQ fun W ρ M k hh hs q => ⟨W, ρ, M, k, hh, hs, PostS.bind hs q fun W1 M1 xs vs H1 l1 h1 r1 q1 => by
    split at q1
    · rename_i hz
      have := q1 W1 σ H1 (.refl W1) h1 (hs.up l1)
      rw [l1.k, k] at this
      exact ⟨by rw [r1.length]; exact hz, this⟩
    · exact q1.elim⟩⟩
structure QJ (X : Cx) (T : Tb) (ES : St → XK) (n : Nat) (es : List Expr) (d : En → Sto → Str → Res Str) : Prop where
  h : ∀ (out : Str), out.length ≤ n → PJ X es fun σ H o Q => o = out ∧ lft T (fun _ a b => b = a) ES (fun ρ M => d ρ M out) σ H Q
theorem pj_imp {t t' : TJ} (h : PJ X es t) (f : ∀ σ H o Q, t' σ H o Q → t σ H o Q) : PJ X es t' := fun pins s σ H o Q I q => h pins s σ H o Q I (f σ H o Q q)
def jNil : En → Sto → Str → Res Str := fun _ M out => .ok out M
def jTxt (x : Str) (d : En → Sto → Str → Res Str) : En → Sto → Str → Res Str := fun ρ M out => d ρ M (out ++ x)
def jInt (de : DE) (d : En → Sto → Str → Res Str) : En → Sto → Str → Res Str := fun ρ M out => (de ρ M).bind fun v M1 => match v with
  | .int i => if small i = true then d ρ M1 (out ++ Str.ofString (toString i)) else .bad
  | _ => .bad
theorem qj_nil {n : Nat} (hn : n ≤ sizeLine) : QJ X T ES n [] jNil := ⟨fun out ho => pj_imp pj_nil fun σ H o Q hQQ => by
  obtain ⟨e, W, ρ, M, k, hh, hs, q⟩ := hQQ
  subst e
  exact ⟨Nat.le_trans ho hn, q W H _ (.refl W) hh rfl⟩⟩
theorem str_len (a b : Str) : (a ++ b).length = a.length + b.length := by
  show (a.cps ++ b.cps).size = a.cps.size + b.cps.size
  exact Array.size_append
theorem qj_txt {n : Nat} {x : Str} {c : Nat} {cp : Pos} {d : En → Sto → Str → Res Str} (hx : x.length ≤ 2000) (hn : n + 2000 ≤ sizeLine) (hr : QJ X T ES (n + 2000) es d) (hs : evalEach (.Constant (.str x) c cp :: es) X.env = eval (.Constant (.str x) c cp) X.env :: evalEach es X.env := by rfl) : QJ X T ES n (.Constant (.str x) c cp :: es) (jTxt x d) :=
  ⟨fun out ho => by
    have hl : (out ++ x).length ≤ n + 2000 := by rw [str_len]; omega
    exact pj_imp (pj_cons (pe_str (X := X)) (hr.h (out ++ x) hl) hs) fun σ H o Q hQQ => by
      obtain ⟨e, W, ρ, M, k, hh, hs, q⟩ := hQQ
      subst e
      exact ⟨x, rfl, Nat.le_trans hl hn, rfl, W, ρ, M, k, hh, hs, q⟩⟩
theorem small_log {i : Int} (h : small i = true) : i.natAbs.log2 < 1920 := by
  obtain ⟨h1, h2⟩ := small_iff.mp h
  by_cases h0 : i.natAbs = 0
  · rw [h0]; decide
  · have : i.natAbs < 2 ^ 1920 := Nat.lt_of_le_of_lt (show i.natAbs ≤ 2 ^ 62 by omega) (Nat.pow_lt_pow_right (by decide) (by decide))
    exact (Nat.log2_lt h0).mpr this
theorem qj_int {n : Nat} {de : DE} {cp : Pos} {d : En → Sto → Str → Res Str} (he : QE X T ES e de) (hn : n + 2000 ≤ sizeLine) (hr : QJ X T ES (n + 2000) es d) (hs : evalEach (.FormattedValue e (-1) none cp :: es) X.env = eval (.FormattedValue e (-1) none cp) X.env :: evalEach es X.env := by rfl) : QJ X T ES n (.FormattedValue e (-1) none cp :: es) (jInt de d) :=
  ⟨fun out ho => fun pins s σ H o Q I hQQ => by
    obtain ⟨eo, W, ρ, M, k, hh, hsρ, q⟩ := hQQ
    subst eo
    refine pj_cons (t := fun σ H o' Q => ∃ (i : Int), small i = true ∧ o' = o ++ Str.ofString (toString i) ∧ lft T (fun _ a b => b = a) ES (fun ρ M => d ρ M (o ++ Str.ofString (toString i))) σ H Q) (pe_fmtI he.h) (fun pins s σ H o' Q I ⟨i, hi, eo, hq⟩ => ?_) hs pins s σ H o Q I ?_
    · have hl : (o ++ Str.ofString (toString i)).length ≤ n + 2000 := by
        rw [str_len]
        have := int_text_len_1921 (small_log hi)
        omega
      exact (hr.h _ hl) pins s σ H o' Q I ⟨eo, hq⟩
    · refine ⟨W, ρ, M, k, hh, hsρ, Post.bind q fun W1 M1 v u H1 l1 h1 r1 q1 => ?_⟩
      split at q1
      · rename_i i
        split at q1
        · rename_i hi
          refine ⟨i, r1, small_log hi, _, rfl, ?_, i, hi, rfl, W1, ρ, M1, l1.k.trans k, h1, hsρ.up l1, q1⟩
          rw [str_len]
          have := int_text_len_1921 (small_log hi)
          show o.length + (Str.ofString (toString i)).length ≤ sizeLine
          omega
        · exact q1.elim
      · exact q1.elim⟩
def dFstr (d : En → Sto → Str → Res Str) : DE := fun ρ M => (d ρ M Str.empty).bind fun z M1 => .ok (.str z) M1
theorem qe_fstr {e2 : Expr} {d : En → Sto → Str → Res Str} (h : QJ X T ES 0 (e :: e2 :: es) d) (hs : evalEach (e :: e2 :: es) X.env = eval e X.env :: eval e2 X.env :: evalEach es X.env := by rfl) : QE X T ES (.JoinedStr (e :: e2 :: es) pos) (dFstr d) :=
  ⟨pe_imp (pe_fstr (h.h Str.empty (by decide)) hs) fun σ H Q hQQ => lft_el hQQ fun W ρ M k hh hs q => ⟨rfl, W, ρ, M, k, hh, hs, Post.bind q fun W1 M1 z u H1 l1 h1 r1 q1 => by
    subst r1
    exact q1 W1 H1 _ (.refl W1) h1 rfl⟩⟩
end
end L3

namespace L3
open PySem L2
abbrev GM := Sto → PV → List PV → Option (PV × Sto)
def rM (T : Tb) (g : GM) : V → List V → Hp → VK → Prop := fun v vs H Q => ∃ W M x xs z M', W.T = T ∧ Held W M H ∧ Rep W x v ∧ Reps W xs vs ∧ g M x xs = some (z, M') ∧ ∀ W' H' v', W.le W' → Held W' M' H' → Rep W' z v' → Q v' H'
def dMt (g : GM) (do_ : DE) (da : DA) : DE := fun ρ M => (do_ ρ M).bind fun x M1 => match seqP M1 x with
  | none => .bad
  | some _ => (da ρ M1).bind fun xs M2 => match g M2 x xs with
    | some (z, M3) => .ok z M3
    | none => .bad
section
variable {X : Cx} {T : Tb} {ES : St → XK} {o e : Expr} {es : List Expr} {name : Str} {apos cpos : Pos} {mid : String} {g : GM} {do_ : DE} {da : DA}
theorem mtr_imp {r r' : V → List V → Hp → VK → Prop} (h : MtR X mid r) (k : ∀ x xs H Q, r' x xs H Q → r x xs H Q) : MtR X mid r' := fun pins s σ H x xs v us Q I rx rs q => h pins s σ H x xs v us Q I rx rs (k _ _ _ _ q)
theorem qe_mt (slot : Slot "list" name mid) (hty : typeOf (.builtin mid) = pure (.type "method_descriptor")) (hm : MtR X mid (rM T g)) (ho : QE X T ES o do_) (ha : QA X T ES (e :: es) da)
    (hbase : attributeBase o name X.env (eval o X.env) = eval o X.env := by rfl)
    (hfew : ((backTo cpos (starEach (e :: es) X.env)).all (fun x => !x.1) && (backToKw cpos (keywordEach [] X.env)).all (fun x => x.1.isSome)
      && decide ((e :: es).length + ([] : List Keyword).length + (if ([] : List Keyword).isEmpty then 0 else 1) < 30)) = true := by rfl)
    (hline : (apos.endLine == cpos.line) = true := by rfl) (hs : starEach (e :: es) X.env = (false, eval e X.env) :: starEach es X.env := by rfl) (hplain : (backTo cpos (starEach es X.env)).any (·.1) = false := by rfl) :
    QE X T ES (.Call (.Attribute o name apos) (e :: es) [] cpos) (dMt g do_ da) :=
  ⟨pe_imp (pe_bm PySem.F.plainAttrs_list slot hty hm ho.h ha.h hbase hfew hline hs hplain) fun σ H Q hQQ => lft_el hQQ fun W ρ M k hh hs q => ⟨W, ρ, M, k, hh, hs, Post.bind q fun W1 M1 x v H1 l1 h1 r1 q1 => by
    split at q1
    · exact q1.elim
    · rename_i ys e1
      obtain ⟨a, vs, rfl, ha, _⟩ := seq_at h1 r1 e1
      refine ⟨.inl ⟨rfl, vs, SqL.of ha⟩, W1, ρ, M1, l1.k.trans k, h1, hs.up l1, Post.bind q1 fun W2 M2 xs us H2 l2 h2 r2 q2 => ?_⟩
      split at q2
      · rename_i z M3 e2
        exact ⟨W2, M2, x, xs, z, M3, l2.k.trans (l1.k.trans k), h2, r1.up l2, r2, e2, q2⟩
      · exact q2.elim⟩⟩
def cellL (M : Sto) : PV → Option (Nat × List PV)
  | .ref i => (match M.g i with
    | some (.lst xs) => some (i, xs)
    | _ => none)
  | _ => none
theorem cell_at {W : Wd} {M : Sto} {H : Hp} {x : PV} {v : V} {i : Nat} {xs : List PV} (hh : Held W M H) (r : Rep W x v) (e : cellL M x = some (i, xs)) : ∃ a vs, v = .ref a ∧ W.α i = some a ∧ M.g i = some (.lst xs) ∧ H a = some (.lst vs) ∧ Reps W xs vs := by
  cases x with
  | ref j =>
    have e : (match M.g j with
      | some (.lst xs) => some (j, xs)
      | _ => none) = some (i, xs) := e
    split at e
    · rename_i ys e1
      cases e
      obtain ⟨a, rfl, ea⟩ := r
      obtain ⟨b, ob, h1, h2, h3, vs, rfl, rr⟩ := hh.m _ _ e1
      rw [ea] at h1
      cases h1
      exact ⟨a, vs, rfl, ea, e1, h3, rr⟩
    · cases e
  | _ => cases e
def gAppend : GM := fun M x ys => match cellL M x, ys with
  | some (i, xs), [y] => if xs.length < sizeLine then some (.non, M.set i (.lst (xs ++ [y]))) else none
  | _, _ => none
theorem m_append : MtR X "list.append" (rM T gAppend) := mtr_imp mt_append fun v vs H Q hQQ => by
  obtain ⟨W, M, x, ys, z, M', k, hh, rx, ry, e, q⟩ := hQQ
  unfold gAppend at e
  split at e
  · rename_i i xs y e1
    split at e
    · rename_i hz
      cases e
      obtain ⟨a, ws, rfl, ea, eg, ha, rr⟩ := cell_at hh rx e1
      obtain ⟨u, rfl, ru⟩ := one_rep ry
      refine ⟨a, ws, u, rfl, rfl, ha, by rw [rr.length]; exact hz, q W _ _ (.refl W) (hh.upd eg ea ⟨_, rfl, rr.append ⟨u, [], rfl, ru, rfl⟩⟩) rfl⟩
    · cases e
  · cases e
def gScr : G2 := fun _ x y => match x, y with
  | .scr ns, .lst [] => some (.bl (!ns.isEmpty))
  | _, _ => none
theorem o_scr (hT : T.K = X.K) (hu : X.A.units < cLine) : OpP X T (compareOp .NotEq) gScr := opr_imp (op_neL hu) fun v u H Q hQQ => by
  obtain ⟨W, M, x, y, w, k, hh, rx, ry, e, q⟩ := hQQ
  unfold gScr at e
  split at e
  · rename_i ns
    cases e
    obtain ⟨a, rfl, hq, _⟩ := rx
    obtain ⟨b, us, rfl, hb, rr⟩ := ry
    cases rr
    have hq : SqL X.K H a (ns.map V.int) := by
      have := (show Same W.F H from hh.f).seq hq
      rw [k, hT] at this
      exact this
    refine ⟨a, b, ns.map V.int, [], rfl, rfl, hq, SqL.of (hh.f _ _ hb), ?_, rfl, q W H _ (.refl W) hh ?_⟩
    · rw [List.all_map]
      exact List.all_eq_true.mpr fun _ _ => rfl
    · cases ns with
      | nil => rfl
      | cons _ _ => rfl
  · cases e
def gListS : G1 := fun M xs => match xs with
  | [.scr ns] => some (.ref M.n, M.new (.lst (ns.map PV.int)))
  | _ => none
theorem b_listS (hT : T.K = X.K) : CallR X (.type "list") (rC T gListS) := callr_imp call_list_of fun vs H Q hQQ => by
  obtain ⟨W, M, xs, z, M', k, hh, rx, e, q⟩ := hQQ
  unfold gListS at e
  split at e
  · rename_i ns
    cases e
    obtain ⟨v, rfl, a, rfl, hq, _⟩ := one_rep rx
    have hq : SqL X.K H a (ns.map V.int) := by
      have := (show Same W.F H from hh.f).seq hq
      rw [k, hT] at this
      exact this
    refine ⟨a, _, rfl, .inl hq, fun l hl => ?_⟩
    obtain ⟨W2, l2, h2, r2⟩ := new_cell (xs := ns.map PV.int) hh (Reps.ints.mpr rfl) hl
    exact q W2 _ _ l2 h2 r2
  · cases e
structure XRow (T : Tb) (ks : List Nat) (LE k : Nat) : Prop where
  x : ExcK T.K (T.C k)
  kk : ∀ j ∈ ks, PySem.W.kitOne T.K (.ref (T.C k)) (.ref (T.C j)) = some (k == j)
  l : PySem.W.kitOne T.K (.ref (T.C k)) (.ref (T.C LE)) = some true
  v : PySem.W.kitOne T.K (.ref (T.C k)) (.type "ValueError") = some true
  m : PySem.W.exmOne T.K (.ref (T.C k)) (.ref (T.C LE)) = some true
theorem hu100 {A : Around} {k : Nat} (hr : Room k A) : A.units + 100 < cLine := by have := hr.un; omega
end
end L3

namespace L3
open PySem L2
@[simp] theorem noX_ok {α : Type} {a : α} {M : Sto} : (Res.ok a M).noX = .ok a M := rfl
@[simp] theorem noX_bad {α : Type} : (Res.bad : Res α).noX = .bad := rfl
@[simp] theorem dC_eq {x : PV} {ρ : En} {M : Sto} : dC x ρ M = .ok x M := rfl
@[simp] theorem dVar_0 {x : PV} {r : En} {M : Sto} : dVar 0 (some x :: r) M = .ok x M := rfl
@[simp] theorem dVar_s {i : Nat} {o : Option PV} {r : En} {M : Sto} : dVar (i + 1) (o :: r) M = dVar i r M := rfl
@[simp] theorem dNil_eq {ρ : En} {M : Sto} : dNil ρ M = .ok [] M := rfl
@[simp] theorem dCons_eq {d : DE} {ds : DA} {ρ : En} {M : Sto} : dCons d ds ρ M = (d ρ M).bind fun x M1 => (ds ρ M1).bind fun xs M2 => .ok (x :: xs) M2 := rfl
@[simp] theorem dOp_eq {g : G2} {da db : DE} {ρ : En} {M : Sto} : dOp g da db ρ M = (da ρ M).bind fun x M1 => (db ρ M1).bind fun y M2 => ofO (g M2 x y) M2 := rfl
@[simp] theorem dTest_eq {d : DE} {ρ : En} {M : Sto} : dTest d ρ M = (d ρ M).bind fun x M1 => ofO (asB x) M1 := rfl
@[simp] theorem asB_bl {b : Bool} : asB (.bl b) = some b := rfl
@[simp] theorem dCB_eq {g : G1} {ds : DA} {ρ : En} {M : Sto} : dCB g ds ρ M = (ds ρ M).bind fun xs M1 => match g M1 xs with
  | some (z, M2) => .ok z M2
  | none => .bad := rfl
@[simp] theorem dIf_eq {t : DT} {da db : DE} {ρ : En} {M : Sto} : dIf t da db ρ M = (t ρ M).bind fun c M1 => if c = true then da ρ M1 else db ρ M1 := rfl
@[simp] theorem dAnd_eq {da db : DT} {ρ : En} {M : Sto} : dAnd da db ρ M = (da ρ M).bind fun c M1 => if c = true then db ρ M1 else .ok false M1 := rfl
@[simp] theorem dOr_eq {da db : DT} {ρ : En} {M : Sto} : dOr da db ρ M = (da ρ M).bind fun c M1 => if c = true then .ok true M1 else db ρ M1 := rfl
@[simp] theorem dNot_eq {da : DT} {ρ : En} {M : Sto} : dNot da ρ M = (da ρ M).bind fun c M1 => .ok (!c) M1 := rfl
@[simp] theorem dTru_eq {d : DE} {ρ : En} {M : Sto} : dTru d ρ M = (d ρ M).bind fun x M1 => ofO (truP M1 x) M1 := rfl
@[simp] theorem truP_bl {b : Bool} {M : Sto} : truP M (.bl b) = some b := rfl
@[simp] theorem dUn_eq {g : Sto → PV → Option PV} {d : DE} {ρ : En} {M : Sto} : dUn g d ρ M = (d ρ M).bind fun x M1 => ofO (g M1 x) M1 := rfl
@[simp] theorem gNeg_int {M : Sto} {i : Int} : gNeg M (.int i) = some (.int (-i)) := rfl
@[simp] theorem dCall_eq {D : List PV → Sto → Res PV} {a b : Nat} {sl : List Sl} {dP : List PV} {da dk : DA} {ρ : En} {M : Sto} : dCall D a b sl dP da dk ρ M = (da ρ M).bind fun xs M1 => (dk ρ M1).bind fun zs M2 => D (genC a b sl dP xs zs) M2 := rfl
@[simp] theorem dTup_eq {ds : DA} {ρ : En} {M : Sto} : dTup ds ρ M = (ds ρ M).bind fun xs M1 => if xs.length ≤ sizeLine then .ok (.tup xs) M1 else .bad := rfl
@[simp] theorem dLst_eq {ds : DA} {ρ : En} {M : Sto} : dLst ds ρ M = (ds ρ M).bind fun xs M1 => if xs.length ≤ sizeLine then .ok (.lst xs) M1 else .bad := rfl
@[simp] theorem dLstN_eq {ds : DA} {ρ : En} {M : Sto} : dLstN ds ρ M = (ds ρ M).bind fun xs M1 => if xs.length ≤ sizeLine then .ok (.ref M1.n) (M1.new (.lst xs)) else .bad := rfl
@[simp] theorem sNext_eq {ρ : En} {M : Sto} : sNext ρ M = .nx ρ M := rfl
@[simp] theorem sSeq_eq {d1 d2 : DS} {ρ : En} {M : Sto} : sSeq d1 d2 ρ M = (d1 ρ M).then d2 := rfl
@[simp] theorem sSet_eq {i : Nat} {d : DE} {ρ : En} {M : Sto} : sSet i d ρ M = (d ρ M).st ρ fun v M1 => .nx (ρ.set i (some v)) M1 := rfl
@[simp] theorem sRet_eq {d : DE} {ρ : En} {M : Sto} : sRet d ρ M = (d ρ M).st ρ fun v M1 => .rt v M1 := rfl
@[simp] theorem sExpr_eq {d : DE} {ρ : En} {M : Sto} : sExpr d ρ M = (d ρ M).st ρ fun _ M1 => .nx ρ M1 := rfl
@[simp] theorem sIf_eq {t : DT} {d1 d2 : DS} {ρ : En} {M : Sto} : sIf t d1 d2 ρ M = (t ρ M).st ρ fun c M1 => if c = true then d1 ρ M1 else d2 ρ M1 := rfl
@[simp] theorem sRaise_eq {c : Nat} {ds : DA} {ρ : En} {M : Sto} : sRaise c ds ρ M = (ds ρ M).st ρ fun vs M1 => if vs.length ≤ sizeLine then .exc c ρ M1 else .bad := rfl
@[simp] theorem fin_rt {v : PV} {M : Sto} : fin (.rt v M) = .ok v M := rfl
@[simp] theorem fin_nx {ρ : En} {M : Sto} : fin (.nx ρ M) = .ok .non M := rfl
@[simp] theorem fin_exc {c : Nat} {ρ : En} {M : Sto} : fin (.exc c ρ M) = .exc c M := rfl
@[simp] theorem gAddI_int {M : Sto} {i j : Int} : gAdd M (.int i) (.int j) = some (.int (i + j)) := rfl
@[simp] theorem gSub_int {M : Sto} {i j : Int} : gSub M (.int i) (.int j) = some (.int (i - j)) := rfl
@[simp] theorem gLt_int {M : Sto} {i j : Int} : gLt M (.int i) (.int j) = some (.bl (decide (i < j))) := rfl
@[simp] theorem gLe_int {M : Sto} {i j : Int} : gLe M (.int i) (.int j) = some (.bl (decide (i ≤ j))) := rfl
@[simp] theorem gGt_int {M : Sto} {i j : Int} : gGt M (.int i) (.int j) = some (.bl (decide (j < i))) := rfl
@[simp] theorem gGe_int {M : Sto} {i j : Int} : gGe M (.int i) (.int j) = some (.bl (decide (j ≤ i))) := rfl
theorem gMul_int {M : Sto} {i j : Int} (h : (-(2 ^ 64) < i ∧ i < 2 ^ 64) ∨ (-(2 ^ 64) < j ∧ j < 2 ^ 64)) : gMul M (.int i) (.int j) = some (.int (i * j)) := by
  show orG gMulI gRep M (.int i) (.int j) = _
  unfold orG
  have : gMulI M (.int i) (.int j) = some (.int (i * j)) := by
    show (if cMul i j = true then _ else _) = _
    rw [if_pos]
    unfold cMul
    simp only [Bool.or_eq_true, Bool.and_eq_true, decide_eq_true_eq]
    exact h
  rw [this]
theorem gDiv_int {M : Sto} {i j : Int} (h : 0 < j) (h2 : j < 1073741824) : gDiv M (.int i) (.int j) = some (.int (i / j)) := by
  show (if (decide (0 < j) && decide (j < 1073741824)) = true then _ else _) = _
  rw [if_pos (by simp only [Bool.and_eq_true, decide_eq_true_eq]; exact ⟨h, h2⟩)]
theorem gMod_int {M : Sto} {i j : Int} (h : 0 < j) : gMod M (.int i) (.int j) = some (.int (i % j)) := by
  show (if decide (0 < j) = true then _ else _) = _
  rw [if_pos (decide_eq_true h)]
theorem gPow_int {M : Sto} {i j : Int} (h : 0 ≤ j) (h2 : j ≤ 1000000) (h3 : i.natAbs < 2 ^ 64) : gPow M (.int i) (.int j) = some (.int (i ^ j.toNat)) := by
  show (if (decide (0 ≤ j) && decide (j ≤ 1000000) && decide (i.natAbs < 2 ^ 64)) = true then _ else _) = _
  rw [if_pos (by simp only [Bool.and_eq_true, decide_eq_true_eq]; exact ⟨⟨h, h2⟩, h3⟩)]
structure Town (M : Sto) (ns : List Int) (c : Int) : Prop where
  row : M.g 0 = some (.lst (ns.map PV.int))
  tw : M.g 1 = some (.lst [.ref 0, .int c])
  ne : ns ≠ []
  n : 2 ≤ M.n
structure Off (M M' : Sto) : Prop where
  n : M.n ≤ M'.n
  g : ∀ i, 2 ≤ i → i < M.n → M'.g i = M.g i
theorem Off.refl (M : Sto) : Off M M := ⟨Nat.le_refl _, fun _ _ _ => rfl⟩
theorem Off.trans {A B C : Sto} (h : Off A B) (k : Off B C) : Off A C := ⟨Nat.le_trans h.n k.n, fun i hi hn => (k.g i hi (Nat.lt_of_lt_of_le hn h.n)).trans (h.g i hi hn)⟩
theorem seqP_ref {M : Sto} {i : Nat} {xs : List PV} (h : M.g i = some (.lst xs)) : seqP M (.ref i) = some xs := by
  show (match M.g i with
    | some (.lst xs) => some xs
    | _ => none) = some xs
  rw [h]
theorem anyP_ref {M : Sto} {i : Nat} {xs : List PV} (h : M.g i = some (.lst xs)) : anyP M (.ref i) = some xs := seqP_ref h
@[simp] theorem anyP_lst {M : Sto} {xs : List PV} : anyP M (.lst xs) = some xs := rfl
@[simp] theorem anyP_tup {M : Sto} {xs : List PV} : anyP M (.tup xs) = some xs := rfl
@[simp] theorem seqP_lst {M : Sto} {xs : List PV} : seqP M (.lst xs) = some xs := rfl
theorem gIx_of {M : Sto} {x : PV} {xs : List PV} {i : Int} (h : anyP M x = some xs) : gIx M x (.int i) = atI xs i := by
  show (anyP M x).bind _ = _
  rw [h]
  rfl
theorem atI_nn {α : Type} {xs : List α} {i : Int} (h : 0 ≤ i) (h2 : i < xs.length) : atI xs i = xs[i.toNat]? := by
  unfold atI ixN
  rw [if_pos h, if_pos h2]
  rfl
theorem fLen_of {M : Sto} {x : PV} {xs : List PV} (h : anyP M x = some xs) : fLen M x = some (.int xs.length) := by
  unfold fLen
  rw [h]
@[simp] theorem one_eq {f : Sto → PV → Option PV} {M : Sto} {x : PV} : one f M [x] = match f M x with
    | some z => some (z, M)
    | none => none := rfl
theorem compF_emb {α : Type} (f0 : α → PV) (p : α → Bool) (f : α → PV) {bnd : PV → En → Option En} {r : En} {dt : DT} {de : DE} {M : Sto} : ∀ (as : List α), (∀ a ∈ as, ∃ ρ, bnd (f0 a) r = some ρ ∧ dt ρ M = .ok (p a) M ∧ (p a = true → de ρ M = .ok (f a) M)) →
    compF bnd r dt de (as.map f0) M = .ok ((as.filter p).map f) M
  | [], _ => rfl
  | a :: as, h => by
    have ih := compF_emb f0 p f as fun b hb => h b (List.mem_cons_of_mem _ hb)
    obtain ⟨ρ, e1, e2, e3⟩ := h a List.mem_cons_self
    show compF bnd r dt de (f0 a :: as.map f0) M = _
    unfold compF
    simp only [e1, e2, noX_ok, Res.bind_ok]
    cases hp : p a with
    | false => simp [hp, ih]
    | true => simp [hp, ih, e3 hp]
theorem compF_map {α : Type} (f0 : α → PV) (f : α → PV) {bnd : PV → En → Option En} {r : En} {dt : DT} {de : DE} {M : Sto} (as : List α) (h : ∀ a ∈ as, ∃ ρ, bnd (f0 a) r = some ρ ∧ dt ρ M = .ok true M ∧ de ρ M = .ok (f a) M) :
    compF bnd r dt de (as.map f0) M = .ok (as.map f) M := by
  have := compF_emb (bnd := bnd) (r := r) (dt := dt) (de := de) (M := M) f0 (fun _ => true) f as fun a ha => by
    obtain ⟨ρ, h1, h2, h3⟩ := h a ha
    exact ⟨ρ, h1, h2, fun _ => h3⟩
  rw [this, List.filter_eq_self.mpr (fun _ _ => rfl)]
theorem dComp_of {di : En → Sto → Res ItP} {bnd : PV → En → Option En} {js : List Nat} {dt : DT} {de : DE} {ρ : En} {M M1 M2 : Sto} {xs ys : List PV} (h : di ρ M = .ok (.fix xs) M1) (hl : xs.length < sizeLine) (e : compF bnd (rest js ρ) dt de xs M1 = .ok ys M2) : dComp di bnd js dt de ρ M = .ok (.lst ys) M2 := by
  unfold dComp
  rw [h]
  show (if fuelP (.fix xs) M1 ≤ sizeLine then _ else _) = _
  rw [if_pos (show fuelP (.fix xs) M1 ≤ sizeLine from hl)]
  rw [compN_fix (all := xs) (xs := xs) (i := 0) (n := fuelP (.fix xs) M1) rfl (Nat.lt_succ_self _), e]
  rfl
@[simp] theorem dIt_lst {d : DE} {ρ : En} {M M1 : Sto} {xs : List PV} (h : d ρ M = .ok (.lst xs) M1) : dIt d ρ M = .ok (.fix xs) M1 := by
  unfold dIt
  rw [h]
  rfl
theorem rngP_len {lo : Int} {n : Nat} : (rngP lo n).length = n := by simp [rngP]
theorem loopF_ix {g : DG} {db : DS} (I : Nat → En → Sto → Prop) : ∀ (xs : List PV) (k : Nat) (ρ : En) (M : Sto), I k ρ M → (∀ i x, xs[i]? = some x → ∀ ρ M, I (k + i) ρ M → ∃ ρ1 ρ' M', g x ρ = some ρ1 ∧ db ρ1 M = .nx ρ' M' ∧ I (k + i + 1) ρ' M') → ∃ ρ' M', loopF g db xs ρ M = .nx ρ' M' ∧ I (k + xs.length) ρ' M'
  | [], k, ρ, M, h, _ => ⟨ρ, M, rfl, h⟩
  | x :: xs, k, ρ, M, h, hs => by
    obtain ⟨ρ1, ρ2, M2, e1, e2, h2⟩ := hs 0 x rfl ρ M h
    obtain ⟨ρ', M', e, q⟩ := loopF_ix I xs (k + 1) ρ2 M2 h2 fun i z hz ρ M hI => by
      have := hs (i + 1) z (by simpa using hz) ρ M (by rw [show k + (i + 1) = k + 1 + i by omega]; exact hI)
      rw [show k + (i + 1) + 1 = k + 1 + i + 1 by omega] at this
      exact this
    refine ⟨ρ', M', ?_, by rw [List.length_cons, show k + (xs.length + 1) = k + 1 + xs.length by omega]; exact q⟩
    unfold loopF
    simp only [e1, e2]
    exact e
theorem compF_ix {bnd : PV → En → Option En} {r : En} {dt : DT} {de : DE} (I : Nat → List PV → Sto → Prop) : ∀ (xs : List PV) (k : Nat) (acc : List PV) (M : Sto), I k acc M →
    (∀ i x, xs[i]? = some x → ∀ acc M, I (k + i) acc M → ∃ ρ b M1, bnd x r = some ρ ∧ dt ρ M = .ok b M1 ∧ (b = false → I (k + i + 1) acc M1) ∧ (b = true → ∃ y M2, de ρ M1 = .ok y M2 ∧ I (k + i + 1) (acc ++ [y]) M2)) →
    ∃ ys M', compF bnd r dt de xs M = .ok ys M' ∧ I (k + xs.length) (acc ++ ys) M'
  | [], k, acc, M, h, _ => ⟨[], M, rfl, by rw [List.append_nil]; exact h⟩
  | x :: xs, k, acc, M, h, hs => by
    obtain ⟨ρ, b, M1, e1, e2, hf, ht⟩ := hs 0 x rfl acc M h
    have hs' : ∀ i z, xs[i]? = some z → ∀ acc M, I (k + 1 + i) acc M → ∃ ρ b M1, bnd z r = some ρ ∧ dt ρ M = .ok b M1 ∧ (b = false → I (k + 1 + i + 1) acc M1) ∧ (b = true → ∃ y M2, de ρ M1 = .ok y M2 ∧ I (k + 1 + i + 1) (acc ++ [y]) M2) := fun i z hz acc M hI => by
      have := hs (i + 1) z (by simpa using hz) acc M (by rw [show k + (i + 1) = k + 1 + i by omega]; exact hI)
      rw [show k + (i + 1) + 1 = k + 1 + i + 1 by omega] at this
      exact this
    unfold compF
    simp only [e1, e2, noX_ok, Res.bind_ok]
    rw [List.length_cons, show k + (xs.length + 1) = k + 1 + xs.length by omega]
    cases b with
    | false =>
      obtain ⟨ys, M', e, q⟩ := compF_ix I xs (k + 1) acc M1 (hf rfl) hs'
      exact ⟨ys, M', by simpa using e, q⟩
    | true =>
      obtain ⟨y, M2, e3, h3⟩ := ht rfl
      obtain ⟨ys, M', e, q⟩ := compF_ix I xs (k + 1) (acc ++ [y]) M2 h3 hs'
      refine ⟨y :: ys, M', ?_, by simpa using q⟩
      simp [e3, e]
theorem plains_ints : ∀ (ns : List Int), plains (ns.map PV.int) = true
  | [] => rfl
  | n :: ns => by
    show (plain (.int n) && plains (ns.map PV.int)) = true
    rw [plains_ints ns]
    rfl
theorem deep_ints : ∀ (ns : List Int), deep60 (ns.map PV.int) = true
  | [] => rfl
  | n :: ns => by
    show (decide (dep (.int n) ≤ 60) && deep60 (ns.map PV.int)) = true
    rw [deep_ints ns]
    rfl
theorem any_ints (ns : List Int) (k : Int) : ((ns.map PV.int).any fun z => eqB z (.int k)) = decide (k ∈ ns) := by
  rw [List.any_map, Bool.eq_iff_iff, List.any_eq_true, decide_eq_true_eq]
  constructor
  · rintro ⟨x, hx, e⟩
    have e : (x == k) = true := e
    rw [← beq_iff_eq.mp e]
    exact hx
  · intro h
    exact ⟨k, h, beq_self_eq_true k⟩
theorem gIn_ints {neg : Bool} {M : Sto} {x : PV} {k : Int} {ns : List Int} (h : anyP M x = some (ns.map PV.int)) : gIn neg M (.int k) x = some (.bl (if neg then !decide (k ∈ ns) else decide (k ∈ ns))) := by
  unfold gIn
  rw [h]
  show (if _ then some (PV.bl (if neg = true then !((ns.map PV.int).any fun z => eqB z (.int k)) else (ns.map PV.int).any fun z => eqB z (.int k))) else none) = _
  rw [if_pos ⟨rfl, plains_ints ns, deep_ints ns⟩, any_ints]
theorem gAdd_seq {M : Sto} {x y : PV} {xs ys : List PV} (hx : seqP M x = some xs) (hy : seqP M y = some ys) (h : xs.length + ys.length ≤ sizeLine) : gAdd M x y = some (.lst (xs ++ ys)) := by
  have e : gCat M x y = some (.lst (xs ++ ys)) := by
    unfold gCat
    rw [hx, hy]
    exact if_pos h
  have e1 : gAddI M x y = none := by
    cases x with
    | int _ => cases hx
    | _ => rfl
  show orG gAddI (orG gCat gCatT) M x y = _
  unfold orG
  rw [e1]
  show orG gCat gCatT M x y = _
  unfold orG
  rw [e]
def Tru (r : RS) : Prop := ∃ M', fin r = .ok (.bl true) M'
section
variable {i : Nat} {d : DE} {c d1 : DS} {t : DT} {ρ ρ' : En} {M M1 : Sto} {v : PV} {g : DG} {F : Nat} {dit : En → Sto → Res ItP} {xs : List PV}
theorem go_set (h : d ρ M = .ok v M1) (k : Tru (c (ρ.set i (some v)) M1)) : Tru (sSeq (sSet i d) c ρ M) := by
  unfold sSeq sSet
  rw [h]
  exact k
theorem go_asg (h : d ρ M = .ok v M1) (hg : g v ρ = some ρ') (k : Tru (c ρ' M1)) : Tru (sSeq (sAsg d g) c ρ M) := by
  unfold sSeq sAsg
  rw [h]
  show Tru ((match g v ρ with
    | some ρ' => RS.nx ρ' M1
    | none => .bad).then c)
  rw [hg]
  exact k
theorem go_for (h : dit ρ M = .ok (.fix xs) M1) {M2 : Sto} (hl : loopF g d1 xs ρ M1 = .nx ρ' M2) (k : Tru (c ρ' M2)) : Tru (sSeq (sFor F dit g d1) c ρ M) := by
  unfold sSeq
  rw [sFor_fix h, hl]
  exact k
theorem go_ret (h : d ρ M = .ok (.bl true) M1) : Tru (sRet d ρ M) := by
  unfold sRet
  rw [h]
  exact ⟨_, rfl⟩
theorem nx_set {r : RS} (h : d ρ M = .ok v M1) (k : c (ρ.set i (some v)) M1 = r) : sSeq (sSet i d) c ρ M = r := by
  unfold sSeq sSet
  rw [h]
  exact k
theorem nx_no {r : RS} (h : t ρ M = .ok false M1) (k : c ρ M1 = r) : sSeq (sIf t d1 sNext) c ρ M = r := by
  unfold sSeq sIf
  rw [h]
  exact k
theorem nx_last (h : t ρ M = .ok false M1) : sIf t d1 sNext ρ M = .nx ρ M1 := by
  unfold sIf
  rw [h]
  rfl
theorem nx_for {r : RS} (h : dit ρ M = .ok (.fix xs) M1) {M2 : Sto} (hl : loopF g d1 xs ρ M1 = .nx ρ' M2) (k : c ρ' M2 = r) : sSeq (sFor F dit g d1) c ρ M = r := by
  unfold sSeq
  rw [sFor_fix h, hl]
  exact k
theorem nx_ret (h : d ρ M = .ok v M1) : sRet d ρ M = .rt v M1 := by
  unfold sRet
  rw [h]
  rfl
theorem nx_leave {d2 : DS} {v : PV} {M2 : Sto} (h : t ρ M = .ok true M1) (k : d1 ρ M1 = .rt v M2) : sSeq (sIf t d1 d2) c ρ M = .rt v M2 := by
  unfold sSeq sIf
  rw [h]
  show (if true = true then d1 ρ M1 else d2 ρ M1).then c = _
  rw [if_pos rfl, k]
  rfl
theorem nx_asg {r : RS} (h : d ρ M = .ok v M1) (hg : g v ρ = some ρ') (k : c ρ' M1 = r) : sSeq (sAsg d g) c ρ M = r := by
  unfold sSeq sAsg
  rw [h]
  show (match g v ρ with
    | some ρ' => RS.nx ρ' M1
    | none => .bad).then c = _
  rw [hg]
  exact k
theorem den_rt {n N : Nat} {pvs : List PV} {ρ : En} {dd : DS} (hn : pvs.length = n) (hρ : pvs.map some ++ List.replicate (N - n) none = ρ) (h : dd ρ M = .rt v M1) : denF n N dd pvs M = .ok v M1 := by
  unfold denF
  rw [if_pos hn, hρ, h]
  rfl
theorem den_exc {n N : Nat} {pvs : List PV} {ρ : En} {dd : DS} {k : Nat} (hn : pvs.length = n) (hρ : pvs.map some ++ List.replicate (N - n) none = ρ) (h : dd ρ M = .exc k ρ' M1) : denF n N dd pvs M = .exc k M1 := by
  unfold denF
  rw [if_pos hn, hρ, h]
  rfl
theorem nx_expr {r : RS} (h : d ρ M = .ok v M1) (k : c ρ M1 = r) : sSeq (sExpr d) c ρ M = r := by
  unfold sSeq sExpr
  rw [h]
  exact k
end
@[simp] theorem dSl_eq {d : DE} {dl dh : En → Sto → Res (Option Int)} {ρ : En} {M : Sto} : dSl d dl dh ρ M = (d ρ M).bind fun x M1 => (dl ρ M1).bind fun lo M2 => (dh ρ M2).bind fun hi M3 => ofO (gSl M3 x lo hi) M3 := rfl
@[simp] theorem dON_eq {ρ : En} {M : Sto} : dON ρ M = .ok none M := rfl
@[simp] theorem dOS_eq {d : DE} {ρ : En} {M : Sto} : dOS d ρ M = (d ρ M).bind fun x M1 => match x with
  | .int i => .ok (some i) M1
  | _ => .bad := rfl
end L3

namespace Srt
open PySem PySem.W PyProof.Rows
def run {α : Type} (lt : Nat → Nat → Bool) : KasT α → α
  | .ret a => a
  | .ask i j k => run lt (k (lt i j))
section
variable {r : Nat → Int}
abbrev lo (r : Nat → Int) : Nat → Nat → Bool := fun i j => decide (r i < r j)
end
end Srt

namespace Srt
open PySem PySem.W PyProof.Rows
def AskP {α : Type} (n : Nat) (R : α → Prop) : KasT α → Prop
  | .ret a => R a
  | .ask i j k => i < n ∧ j < n ∧ ∀ b, AskP n R (k b)
theorem AskP.bind {α β : Type} {n : Nat} {R : α → Prop} {S : β → Prop} {f : α → KasT β} (hf : ∀ a, R a → AskP n S (f a)) : ∀ {t : KasT α}, AskP n R t → AskP n S (t.bind f)
  | .ret a, h => hf a h
  | .ask _ _ k, h => ⟨h.1, h.2.1, fun b => AskP.bind hf (h.2.2 b)⟩
section
variable {n : Nat} (h0 : 0 < n)
include h0
end
end Srt

namespace Srt
open PySem PySem.W PyProof.Rows
def T2 (h : Heap) (v : Value) (k : Int × Int) : Prop := ∃ a o t u n, v = .ref a ∧ h.get? a = some o ∧ o.cls = .type "tuple" ∧ o.data = .seq #[.int k.1 t, .int k.2 u] n
theorem T2.mono {h h' : Heap} {v : Value} {k : Int × Int} (q : T2 h v k) (e : ∀ b o, v = .ref b → h.get? b = some o → h'.get? b = some o) : T2 h' v k := by
  obtain ⟨a, o, t, u, n, rfl, h1, h2, h3⟩ := q
  exact ⟨a, o, t, u, n, rfl, e a o rfl h1, h2, h3⟩
def All2 (h : Heap) : List Value → List (Int × Int) → Prop
  | [], [] => True
  | v :: vs, k :: ks => T2 h v k ∧ All2 h vs ks
  | _, _ => False
theorem All2.mono {h h' : Heap} : ∀ {vs : List Value} {ks : List (Int × Int)}, All2 h vs ks → (∀ b o, .ref b ∈ vs → h.get? b = some o → h'.get? b = some o) → All2 h' vs ks
  | [], [], _, _ => trivial
  | v :: vs, k :: ks, q, e => ⟨q.1.mono fun b o z => e b o (by rw [z]; exact List.mem_cons_self), q.2.mono fun b o z => e b o (List.mem_cons_of_mem _ z)⟩
  | [], _ :: _, q, _ => q.elim
  | _ :: _, [], q, _ => q.elim
theorem All2.length {h : Heap} : ∀ {vs : List Value} {ks : List (Int × Int)}, All2 h vs ks → vs.length = ks.length
  | [], [], _ => rfl
  | _ :: _, _ :: _, q => by simp [q.2.length]
  | [], _ :: _, q => q.elim
  | _ :: _, [], q => q.elim
theorem All2.at {h : Heap} : ∀ {vs : List Value} {ks : List (Int × Int)} {i : Nat}, All2 h vs ks → i < vs.length → T2 h (vs.getD i .none) (ks.getD i (0, 0))
  | _ :: _, _ :: _, 0, q, _ => q.1
  | _ :: _, _ :: _, i + 1, q, hi => q.2.at (i := i) (by simpa using hi)
  | [], [], i, _, hi => absurd hi (Nat.not_lt_zero _)
  | [], _ :: _, _, q, _ => q.elim
  | _ :: _, [], _, q, _ => q.elim
section
variable {prog : Program} {w : World} {A : Around} {E : Value → Shared → Prop} {s : Shared}
end
end Srt

namespace L2
open PySem PySem.Spec PyProof.Rows
section
variable {X : Cx}
variable {e st : Expr} {te : TE} {ts : TO} {pos p2 : Pos}
end
end L2

namespace L3
open PySem L2
section
variable {X : Cx} {T : Tb} {ES : St → XK} {a st : Expr} {pos p2 : Pos} {da ds : DE}
end
end L3

namespace L3
open PySem L2
open PyProof.Rows (envOfC)
theorem putP_rep {W : Wd} {f : Str} {x : PV} {v : V} (r : Rep W x v) : ∀ {fs : List (Str × PV)} {vs : List (Str × V)}, RepF W fs vs → RepF W (putP f x fs) (putF f v vs)
  | [], _, e => by cases e; exact ⟨v, [], rfl, r, rfl⟩
  | p :: fs, _, ⟨u, t, e, a, b⟩ => by
    subst e
    unfold putP putF
    by_cases h : p.1 = f
    · rw [if_pos (by rw [h]; exact beq_self_eq_true f), if_pos h]
      exact ⟨v, t, rfl, r, b⟩
    · rw [if_neg (by simpa using fun z : f = p.1 => h z.symm), if_neg h]
      exact ⟨u, _, rfl, a, putP_rep r b⟩
def insAt (M : Sto) (k : Nat) : PV → Option (Nat × List (Str × PV))
  | .ref i => (match M.g i with
    | some (.ins c fs) => if c = k then some (i, fs) else none
    | _ => none)
  | _ => none
theorem ins_at {W : Wd} {M : Sto} {H : Hp} {k i : Nat} {x : PV} {v : V} {fs : List (Str × PV)} (hh : Held W M H) (r : Rep W x v) (e : insAt M k x = some (i, fs)) : ∃ a dx vs, v = .ref a ∧ W.α i = some a ∧ M.g i = some (.ins k fs) ∧ H a = some (.ins (W.T.C k) dx vs) ∧ RepF W fs vs := by
  cases x with
  | ref j =>
    have e : (match M.g j with
      | some (.ins c fs) => if c = k then some (j, fs) else none
      | _ => none) = some (i, fs) := e
    split at e
    · rename_i c gs hg
      split at e
      · rename_i hc
        cases e
        subst hc
        obtain ⟨a, rfl, ha⟩ := r
        obtain ⟨b, o, h1, h2, h3, dx, vs, rfl, rf⟩ := hh.m _ _ hg
        rw [ha] at h1
        cases h1
        exact ⟨a, dx, vs, rfl, ha, hg, h3, rf⟩
      · cases e
    · cases e
  | _ => cases e
def dFld (k : Nat) (f : Str) (d : DE) : DE := fun ρ M => (d ρ M).bind fun x M1 => match insAt M1 k x with
  | some (_, fs) => ofO (fs.lookup f) M1
  | none => .bad
def sFldS (k : Nat) (f : Str) (d do_ : DE) : DS := fun ρ M => (d ρ M).st ρ fun y M1 => (do_ ρ M1).st ρ fun x M2 => match insAt M2 k x with
  | some (i, fs) => if fs.length < 1000 then .nx ρ (M2.set i (.ins k (putP f y fs))) else .bad
  | none => .bad
section
variable {X : Cx} {T : Tb} {ES : St → XK} {o e : Expr} {es : List Expr} {f m x : Str} {k j : Nat} {pos pos' apos p : Pos} {d do_ : DE} {da dk : DA} {ps ks : List Str} {a b : Nat} {sl : List Sl} {dP : List PV} {D : List PV → Sto → Res PV} {kws : List Keyword}
theorem qe_fld (hT : T.K = X.K) (c : Cls X.K (T.C k)) (n : NoAttr X.K (T.C k) f) (he : QE X T ES o d) (hb : attributeBase o f X.env (eval o X.env) = eval o X.env := by rfl) : QE X T ES (.Attribute o f pos) (dFld k f d) :=
  ⟨pe_imp (pe_fld he.h hb) fun σ H Q hQQ => lft_el hQQ fun W ρ M kT hh hs p => ⟨W, ρ, M, kT, hh, hs, Post.bind p fun W1 M1 x v H1 l1 h1 r1 p1 => by
    split at p1
    · rename_i i fs e1
      obtain ⟨ad, dx, vs, rfl, _, _, h3, rf⟩ := ins_at h1 r1 e1
      rw [l1.k, kT] at h3
      cases e2 : fs.lookup f with
      | none => rw [e2] at p1; exact p1.elim
      | some y =>
        rw [e2] at p1
        obtain ⟨u, e3, r3⟩ := rf.get e2
        exact ⟨ad, T.C k, dx, vs, u, rfl, h3, c, n, e3, p1 W1 H1 u (.refl W1) h1 r3⟩
    · exact p1.elim⟩⟩
theorem qs_fld (hT : T.K = X.K) (c : Cls X.K (T.C k)) (n : NoAttr X.K (T.C k) f) (ho : QE X T ES o do_) (he : QE X T ES e d) (hsw : swapsWith e (some (.Attribute o f pos')) pos.line X.env = pure false := by rfl) : QS X T ES (.Assign [.Attribute o f pos'] e pos) (sFldS k f d do_) :=
  ⟨ps_imp (ps_fld ho.h he.h hsw) fun D σ H hQQ => lftS_el hQQ fun W ρ M kT hh hs q => ⟨W, ρ, M, kT, hh, hs, PostS.bind hs q fun W1 M1 y v H1 l1 h1 r1 q1 => ⟨W1, ρ, M1, l1.k.trans kT, h1, hs.up l1, PostS.bind (hs.up l1) q1 fun W2 M2 x u H2 l2 h2 r2 q2 => by
    split at q2
    · rename_i i fs e1
      split at q2
      · rename_i hz
        obtain ⟨ad, dx, vs, rfl, ha, hg, h3, rf⟩ := ins_at h2 r2 e1
        have kk := l2.k.trans (l1.k.trans kT)
        have h3' := h3
        rw [kk] at h3'
        refine ⟨ad, T.C k, dx, vs, rfl, h3', c, n, by rw [rf.length]; exact hz, ?_⟩
        have hu := h2.upd (c' := .ins k (putP f y fs)) (o := .ins (T.C k) dx (putF f v vs)) hg ha ⟨dx, _, by rw [kk], putP_rep (r1.up l2) rf⟩
        exact q2 W2 σ _ (.refl W2) hu ((hs.up l1).up l2)
      · exact q2.elim
    · exact q2.elim⟩⟩⟩
structure MetD (P : Program) (w : World) (K : PySem.W.Frag) (mg : Str → Option Value) (base : Heap) (T : Tb) (k : Nat) (m : Str) (j : Nat) (ps ks : List Str) (a b : Nat) (sl : List Sl) (dP : List PV) (D : List PV → Sto → Res PV) : Prop where
  ex : ∃ f fd dV ds, FnOk P w K mg base (CX1 P w) j f fd ps (spD T D) ∧ Meth K (T.C k) m f ∧ Cls K (T.C k) ∧ KBinds K fd ps ks (genC a b sl ds) (genC a b sl dV) ∧ ∀ W : Wd, W.T = T → Reps W dP dV
def dMth (k : Nat) (m : Str) (D : List PV → Sto → Res PV) (a b : Nat) (sl : List Sl) (dP : List PV) (do_ : DE) (da dk : DA) : DE := fun ρ M => (do_ ρ M).bind fun x M0 => match insAt M0 k x with
  | some (_, fs) => if fs.lookup m = none then (da ρ M0).bind fun xs M1 => (dk ρ M1).bind fun zs M2 => D (genC a b sl dP (x :: xs) zs) M2 else .bad
  | none => .bad
theorem qe_mth {pl : Sem Bool} (N : MetD X.prog X.w X.K X.mg X.base T k m j ps ks a b sl dP D) (hr : Room j X.A) (hx : PassesS (CX1 X.prog X.w) X ES) (ho : QE X T ES o do_) (ha : QA X T ES (e :: es) da) (hkw : QK X T ES kws dk)
    (hall : (backToKw pos (keywordEach kws X.env)).all (·.1.isSome) = true := by rfl) (hks : (backToKw pos (keywordEach kws X.env)).filterMap (·.1) = ks := by rfl)
    (he : starEach (e :: es) X.env = (false, eval e X.env) :: starEach es X.env := by rfl)
    (hpl : ((backTo pos (starEach (e :: es) X.env)).any (·.1) || (backToKw pos (keywordEach kws X.env)).any (·.1.isNone)) = false := by rfl)
    (ht : eval (.Call (.Attribute o m apos) (e :: es) kws pos) X.env = (do
      let ov ← eval o X.env
      standAt apos.atName
      let (f, first) ← holding [ov] (getMethod ov m pl)
      callWith pos f first (backTo pos (starEach (e :: es) X.env)) (backToKw pos (keywordEach kws X.env))) := by rfl) : QE X T ES (.Call (.Attribute o m apos) (e :: es) kws pos) (dMth k m D a b sl dP do_ da dk) := ⟨by
  obtain ⟨f, fd, dV, ds, F, hm, c, hb, hdV⟩ := N.ex
  rintro pins s σ H Q I ⟨W, ρ, M, kT, hh, hs, q⟩
  refine PySem.W.methodCall_KW (pl := pl) (thn (ho.h pins s σ H (fun v H1 => ∃ W1 M1 x i fs, W1.T = T ∧ Held W1 M1 H1 ∧ RepS W1 ρ σ ∧ Rep W1 x v ∧ insAt M1 k x = some (i, fs) ∧ fs.lookup m = none ∧ Post W1 Rep ((da ρ M1).bind fun xs M1 => (dk ρ M1).bind fun zs M2 => D (genC a b sl dP (x :: xs) zs) M2) Q (ES σ)) I ⟨W, ρ, M, kT, hh, hs, Post.bind q
      fun W1 M1 x v H1 l1 h1 r1 q1 => by
        split at q1
        · rename_i i fs e1
          split at q1
          · rename_i e2
            exact ⟨W1, M1, x, i, fs, l1.k.trans kT, h1, hs.up l1, r1, e1, e2, q1⟩
          · exact q1.elim
        · exact q1.elim⟩) fun u s1 hQQ => ?_) ht
  obtain ⟨v, H1, I1, rx, W1, M1, x, i, fs, k1, h1, hs1, r1, e1, e2, q1⟩ := hQQ
  obtain ⟨ad, dx, vf, rfl, ha1, hg, h3, rf⟩ := ins_at h1 r1 e1
  obtain rfl : u = Value.ref ad := rx
  rw [k1] at h3
  refine getmeth_ok I1 h3 c hm (rf.none e2) ?_
  refine PySem.W.callWith_KW (first := [.ref ad]) (h₀ := X.base) I.ok.mod.kin hm.kp hall (thn (ha.h pos pins s1 σ H1 (fun vs H2 => ∃ W2 M2 xs, W2.T = T ∧ Held W2 M2 H2 ∧ RepS W2 ρ σ ∧ Rep W2 x (.ref ad) ∧ Reps W2 xs vs ∧ Post W2 Rep ((dk ρ M2).bind fun zs M3 => D (genC a b sl dP (x :: xs) zs) M3) Q (ES σ)) I1 ⟨W1, ρ, M1, k1, h1, hs1, Post.bind q1
      fun W2 M2 xs vs H2 l2 h2 r2 q2 => ⟨W2, M2, xs, l2.k.trans k1, h2, hs1.up l2, r1.up l2, r2, q2⟩⟩) fun us s2 hQQ => ?_) hpl he
  obtain ⟨vs, H2, I2, r, W2, M2, xs, k2, h2, hs2, rx2, r2, q2⟩ := hQQ
  refine thn (hkw.h pos pins s2 σ H2 (fun zs H3 => spD T D (genC a b sl dV (.ref ad :: vs) zs) H3 Q (ES σ)) I2 ⟨W2, ρ, M2, k2, h2, hs2, Post.bind q2 fun W3 M3 zs' zs H3 l3 h3 r3 q3 => ⟨W3, _, M3, l3.k.trans k2, h3, genC_reps (hdV W3 (l3.k.trans k2)) (show Reps W3 (x :: xs) (.ref ad :: vs) from ⟨_, _, rfl, rx2.up l3, r2.up l3⟩) r3, q3⟩⟩) fun ws s3 hQQ => ?_
  obtain ⟨zs, H3, I3, rz, q3⟩ := hQQ
  refine ⟨I3.kIn, ?_⟩
  rw [hks]
  exact run_g (us := .ref ad :: us) (vs := .ref ad :: vs) F hr hb hx I3 (.cons rfl r) rz q3⟩
theorem qe_mth0 {pl : Sem Bool} (N : MetD X.prog X.w X.K X.mg X.base T k m j ps ks a b sl dP D) (hr : Room j X.A) (hx : PassesS (CX1 X.prog X.w) X ES) (ho : QE X T ES o do_) (hkw : QK X T ES kws dk)
    (hall : (backToKw pos (keywordEach kws X.env)).all (·.1.isSome) = true := by rfl) (hks : (backToKw pos (keywordEach kws X.env)).filterMap (·.1) = ks := by rfl)
    (hpl : ((backTo pos (starEach [] X.env)).any (·.1) || (backToKw pos (keywordEach kws X.env)).any (·.1.isNone)) = false := by rfl)
    (ht : eval (.Call (.Attribute o m apos) [] kws pos) X.env = (do
      let ov ← eval o X.env
      standAt apos.atName
      let (f, first) ← holding [ov] (getMethod ov m pl)
      callWith pos f first (backTo pos (starEach [] X.env)) (backToKw pos (keywordEach kws X.env))) := by rfl) : QE X T ES (.Call (.Attribute o m apos) [] kws pos) (dMth k m D a b sl dP do_ dNil dk) := ⟨by
  obtain ⟨f, fd, dV, ds, F, hm, c, hb, hdV⟩ := N.ex
  rintro pins s σ H Q I ⟨W, ρ, M, kT, hh, hs, q⟩
  refine PySem.W.methodCall_KW (pl := pl) (thn (ho.h pins s σ H (fun v H1 => ∃ W1 M1 x i fs, W1.T = T ∧ Held W1 M1 H1 ∧ RepS W1 ρ σ ∧ Rep W1 x v ∧ insAt M1 k x = some (i, fs) ∧ fs.lookup m = none ∧ Post W1 Rep ((dk ρ M1).bind fun zs M2 => D (genC a b sl dP [x] zs) M2) Q (ES σ)) I ⟨W, ρ, M, kT, hh, hs, Post.bind q
      fun W1 M1 x v H1 l1 h1 r1 q1 => by
        split at q1
        · rename_i i fs e1
          split at q1
          · rename_i e2
            exact ⟨W1, M1, x, i, fs, l1.k.trans kT, h1, hs.up l1, r1, e1, e2, q1⟩
          · exact q1.elim
        · exact q1.elim⟩) fun u s1 hQQ => ?_) ht
  obtain ⟨v, H1, I1, rx, W1, M1, x, i, fs, k1, h1, hs1, r1, e1, e2, q1⟩ := hQQ
  obtain ⟨ad, dx, vf, rfl, ha1, hg, h3, rf⟩ := ins_at h1 r1 e1
  obtain rfl : u = Value.ref ad := rx
  rw [k1] at h3
  refine getmeth_ok I1 h3 c hm (rf.none e2) ?_
  refine PySem.W.callWith_KW0 (first := [.ref ad]) (h₀ := X.base) I.ok.mod.kin hm.kp hall (thn (hkw.h pos pins s1 σ H1 (fun zs H3 => spD T D (genC a b sl dV [.ref ad] zs) H3 Q (ES σ)) I1 ⟨W1, ρ, M1, k1, h1, hs1, Post.bind q1 fun W3 M3 zs' zs H3 l3 h3 r3 q3 => ⟨W3, _, M3, l3.k.trans k1, h3, genC_reps (hdV W3 (l3.k.trans k1)) (show Reps W3 [x] [.ref ad] from ⟨_, _, rfl, r1.up l3, rfl⟩) r3, q3⟩⟩) fun ws s3 hQQ => ?_) hpl
  obtain ⟨zs, H3, I3, rz, q3⟩ := hQQ
  refine ⟨I3.kIn, ?_⟩
  rw [hks]
  exact run_g (us := [.ref ad]) (vs := [.ref ad]) F hr hb hx I3 (.cons rfl .nil) rz q3⟩
structure NewD (P : Program) (w : World) (K : PySem.W.Frag) (mg : Str → Option Value) (base : Heap) (T : Tb) (k : Nat) (x : Str) (j : Nat) (ps ks : List Str) (a b : Nat) (sl : List Sl) (dP : List PV) (D : List PV → Sto → Res PV) : Prop where
  ex : ∃ f fd dV ds, FnOk P w K mg base (CX1 P w) j f fd ps (spD T D) ∧ Mk K (T.C k) f ∧ mg x = some (.ref (T.C k)) ∧ KBinds K fd ps ks (genC a b sl ds) (genC a b sl dV) ∧ ∀ W : Wd, W.T = T → Reps W dP dV
def made (k : Nat) (D : List PV → Sto → Res PV) (vs : PV → List PV) (M : Sto) : Res PV := match D (vs (.ref M.n)) (M.new (.ins k [])) with
  | .ok .non M3 => .ok (.ref M.n) M3
  | .ok _ _ => .bad
  | .exc c M3 => .exc c M3
  | .bad => .bad
def dNew (k : Nat) (D : List PV → Sto → Res PV) (a b : Nat) (sl : List Sl) (dP : List PV) (da dk : DA) : DE := fun ρ M => (da ρ M).bind fun xs M1 => (dk ρ M1).bind fun zs M2 => made k D (fun x => genC a b sl dP (x :: xs) zs) M2
theorem run_make_g {f C : Addr} {fd : FuncData} {dV : List V} {ds : List Value} {pins : List (Addr × Obj)} {σ : St} {H : Hp} {s : Shared} {Q : VK} {us ws : List Value} {vs zs : List V} {sp : Sp} (M : Mk X.K C f) (F : FnOk X.prog X.w X.K X.mg X.base (CX1 X.prog X.w) j f fd ps sp) (hr : Room (j + 1) X.A) (hb : KBinds X.K fd ps ks (genC a b sl ds) (genC a b sl dV)) (hx : PassesS (CX1 X.prog X.w) X ES)
    (I : Inv X pins σ H s) (r : Vals vs us) (rz : Vals zs ws) (h : ∀ x dx, H x = none → H dx = none → dx ≠ x → sp (genC a b sl dV (.ref x :: vs) zs) (L2.upd (L2.upd H dx (.own x)) x (.ins C dx [])) (fun v H2 => v = .non ∧ Q (.ref x) H2) (ES σ)) :
    wpAny (model X.prog X.w) X.A (call (.ref C) us (ks.zip ws)) (EP X pins σ Q) X.xe s := by
  have hq := h (s.heap.objs.size + 1) s.heap.objs.size (I.hok.fresh (Nat.le_succ _)) (I.hok.fresh (Nat.le_refl _)) (Nat.ne_of_lt (Nat.lt_succ_self _))
  have I2 := Inv.made (C := C) I
  have r2 := hb.rel (vs := V.ref (s.heap.objs.size + 1) :: vs) (us := Value.ref (s.heap.objs.size + 1) :: us) (.cons rfl r) rz
  have hl : (genC a b sl ds (Value.ref (s.heap.objs.size + 1) :: us) ws).length = ps.length := by
    rw [← r2.length]
    exact F.len _ _ _ _ hq
  refine wpAny_call (make_map (f := f) I.kIn M.makes M.init (beq_iff_eq.mp M.fn) (codeAny_mono (F.run _ X.stack _ _ ⟨Value.ref (s.heap.objs.size + 1) :: us, ks.zip ws⟩ _ _ _ (ES σ) (hr.make C us (ks.zip ws)) (I2.env0.make C us (ks.zip ws)) (hb.to _ (Value.ref (s.heap.objs.size + 1) :: us) ws I2.kIn hl) r2 hq) fun r s' hq' => ?_))
  match r, hq' with
  | .error e, hq' => exact hx pins σ _ _ e s' I2 hq'
  | .ok (.ret u), hq' =>
    obtain ⟨v, H', I3, rv, ev, q3⟩ := I2.after hq'
    subst ev
    exact ⟨rv, ⟨V.ref (s.heap.objs.size + 1), H', I3, rfl, q3⟩⟩
theorem made_post {W : Wd} {M : Sto} {H : Hp} {Q : VK} {E : XK} {xs zs : List PV} {vs us : List V} {dV : List V} (kT : W.T = T) (hh : Held W M H) (hd : ∀ W : Wd, W.T = T → Reps W dP dV) (rx : Reps W xs vs) (rz : Reps W zs us) (q : Post W Rep (made k D (fun x => genC a b sl dP (x :: xs) zs) M) Q E) :
    ∀ x dx, H x = none → H dx = none → dx ≠ x → spD T D (genC a b sl dV (.ref x :: vs) us) (L2.upd (L2.upd H dx (.own x)) x (.ins (T.C k) dx [])) (fun v H2 => v = .non ∧ Q (.ref x) H2) E := by
  intro x dx hx hdx hne
  obtain ⟨l1, h1, f1⟩ := hh.frz (l := dx) (o := .own x) hdx
  have e2 : L2.upd H dx (.own x) x = none := by rw [upd_ne (fun z => hne z.symm)]; exact hx
  obtain ⟨l2, h2, a2⟩ := h1.put (l := x) (o := .ins (T.C k) dx []) (c := .ins k []) e2 ⟨dx, [], by rw [l1.k, kT], rfl⟩
  have l12 := l1.trans l2
  refine ⟨_, genC a b sl dP (.ref M.n :: xs) zs, M.new (.ins k []), l12.k.trans kT, h2, genC_reps (hd _ (l12.k.trans kT)) ⟨_, _, rfl, ⟨x, rfl, a2⟩, rx.up l12⟩ (rz.up l12), ?_⟩
  unfold made at q
  cases e : D (genC a b sl dP (.ref M.n :: xs) zs) (M.new (.ins k [])) with
  | ok v M3 =>
    simp only [e] at q
    cases v with
    | non => exact fun W3 H3 u l3 h3 r3 => ⟨r3, q W3 H3 (.ref x) (l12.trans l3) h3 ⟨x, rfl, l3.a _ _ a2⟩⟩
    | _ => exact q.elim
  | exc c M3 =>
    simp only [e] at q
    intro W3 H3 l3 h3
    have := q W3 H3 (l12.trans l3) h3
    rw [← l12.k] at this
    exact this
  | bad =>
    simp only [e] at q
    exact q.elim
theorem qe_new0 (N : NewD X.prog X.w X.K X.mg X.base T k x j ps ks a b sl dP D) (hr : Room (j + 1) X.A) (hg : Gl X x) (hx : PassesS (CX1 X.prog X.w) X ES) (hkw : QK X T ES kws dk)
    (hall : (backToKw pos (keywordEach kws X.env)).all (·.1.isSome) = true := by rfl) (hks : (backToKw pos (keywordEach kws X.env)).filterMap (·.1) = ks := by rfl)
    (hdb : (x == ("__debug__" : Str)) = false := by decide)
    (hpl : ((backTo pos (starEach [] X.env)).any (·.1) || (backToKw pos (keywordEach kws X.env)).any (·.1.isNone)) = false := by rfl) : QE X T ES (.Call (.Name x p) [] kws pos) (dNew k D a b sl dP dNil dk) := ⟨by
  obtain ⟨f, fd, dV, ds, F, mk, hm, hb, hdV⟩ := N.ex
  rintro pins s σ H Q I ⟨W, ρ, M, kT, hh, hs, q⟩
  refine wpAny_Call_Name_kw (ld_glob I hg hm ?_ hdb)
  refine PySem.W.callWith_KW0 (h₀ := X.base) I.ok.mod.kin mk.kp hall (thn (hkw.h pos pins s σ H (fun zs H2 => ∀ x dx, H2 x = none → H2 dx = none → dx ≠ x → spD T D (genC a b sl dV [.ref x] zs) (L2.upd (L2.upd H2 dx (.own x)) x (.ins (T.C k) dx [])) (fun v H2 => v = .non ∧ Q (.ref x) H2) (ES σ)) I ⟨W, ρ, M, kT, hh, hs, Post.bind (show Post W Rep ((dk ρ M).bind fun zs M2 => made k D (fun x => genC a b sl dP [x] zs) M2) Q (ES σ) from q) fun W2 M2 zs' zs H2 l2 h2 r2 q2 => made_post (vs := []) (xs := []) (l2.k.trans kT) h2 hdV rfl r2 q2⟩) fun ws s2 hQQ => ?_) hpl
  obtain ⟨zs, H2, I2, rz, q2⟩ := hQQ
  refine ⟨I2.kIn, ?_⟩
  rw [hks]
  exact run_make_g (vs := []) (us := []) mk F hr hb hx I2 .nil rz q2⟩
end
end L3

namespace L3
open PySem L2
end L3

namespace L3
open PySem L2
open PyProof.Rows (tail_any)
def tabOk : List DictEntry → List (Int × Int) → Bool
  | [], [] => true
  | e :: es, p :: kvs => Value.isInt p.1 e.key && (e.hash == hashInt p.1) && Value.isInt p.2 e.val && tabOk es kvs
  | _, _ => false
structure TabI (K : PySem.W.Frag) (mg : Str → Option Value) (x : Str) (kvs : List (Int × Int)) : Prop where
  ex : ∃ a es ep, mg x = some (.ref a) ∧ K.lookup a = some ⟨.type "dict", none, .dict es ep, #[]⟩ ∧ tabOk es.toList kvs = true
section
variable {X : Cx} {T : Tb} {ES : St → XK} {e : Expr} {x : Str} {k : Nat} {pos p : Pos} {d : DE} {kvs : List (Int × Int)}
end
end L3

namespace L3
open PySem L2
structure NoKit (K : PySem.W.Frag) (C : Addr) : Prop where
  h : ∀ n ∈ kinds, PySem.W.kitOne K (.type n) (.ref C) = some false
section
variable {X : Cx} {T : Tb}
end
end L3

namespace L3
open PySem L2
section
variable {X : Cx} {T : Tb} {ES : St → XK} {p pos : Pos} {ds : DA}
end
structure ClsD (P : Program) (w : World) (K : PySem.W.Frag) (mg : Str → Option Value) (base : Heap) (T : Tb) (k : Nat) (x m : Str) (j : Nat) (ps ks : List Str) (a b : Nat) (sl : List Sl) (dP : List PV) (D : List PV → Sto → Res PV) : Prop where
  ex : ∃ f fd dV ds, FnOk P w K mg base (CX1 P w) j f fd ps (spD T D) ∧ mg x = some (.ref (T.C k)) ∧ PySem.W.readsIn K (T.C k) (.type "type") = true ∧ PySem.W.findCls K (.ref (T.C k)) (.type "type") m = some (.val (.ref f)) ∧
    PySem.W.specialIn K (.ref (T.C k)) "__getattribute__" = some (some (.builtin "type.__getattribute__")) ∧ PySem.W.keepIn K (.ref f) = true ∧ KBinds K fd ps ks (genC a b sl ds) (genC a b sl dV) ∧ ∀ W : Wd, W.T = T → Reps W dP dV
section
variable {X : Cx} {T : Tb} {ES : St → XK} {x m : Str} {k j : Nat} {ps ks : List Str} {a b : Nat} {sl : List Sl} {dP : List PV} {D : List PV → Sto → Res PV} {p apos pos : Pos} {e : Expr} {es : List Expr} {kws : List Keyword} {da dk : DA}
end
def tabS (w : World) : List DictEntry → List (Str × Int) → Prop
  | [], [] => True
  | e :: es, p :: kvs => Value.isStrOf p.1 e.key = true ∧ e.hash = hashStr w p.1 ∧ Value.isInt p.2 e.val = true ∧ tabS w es kvs
  | _, _ => False
structure TabS (w : World) (K : PySem.W.Frag) (mg : Str → Option Value) (x : Str) (kvs : List (Str × Int)) : Prop where
  ex : ∃ a es ep, mg x = some (.ref a) ∧ K.lookup a = some ⟨.type "dict", none, .dict es ep, #[]⟩ ∧ (a == sysModules) = false ∧ tabS w es.toList kvs
section
variable {X : Cx} {T : Tb} {ES : St → XK} {e : Expr} {x : Str} {p apos cpos : Pos} {d : DE} {kvs : List (Str × Int)} {te : TE}
end
end L3

namespace L3
open PySem L2
def putL (l : List (List Int × Int)) (k : List Int) (v : Int) : List (List Int × Int) :=
  if (l.any fun p => decide (p.1 = k)) = true then l.map (fun p => if p.1 = k then (p.1, v) else p) else l ++ [(k, v)]
section
variable {X : Cx} {T : Tb} {ES : St → XK} {e o : Expr} {es : List Expr} {pos p2 kp : Pos} {x1 : Nat} {d do_ dz : DE} {dk : DA}
theorem hu1 {A : Around} {k : Nat} (hr : Room k A) : A.units + 1 < cLine := by have := hu100 hr; omega
end
end L3

namespace L2
open PySem PySem.Spec PyProof.Rows
section
variable {X : Cx} {tg : Expr} {pins : List (Addr × Obj)} {σ : St} {H : Hp} {s : Shared}
end
end L2

namespace L3
open PySem L2
section
variable {X : Cx} {T : Tb} {ES : St → XK} {a b e tg iter : Expr} {es : List Expr} {p pos : Pos} {d : DE} {ds : DA}
end
end L3

namespace L3
open PySem L2
theorem Held.release {W : Wd} {M : Sto} {H G0 : Hp} {l : Addr} {ys : List PV} {vs : List V} (h : Held W M H) (e : W.G l = some (.lst vs)) (hg : ∀ b u, G0 b = some u → W.G b = some u ∧ b ≠ l) (r : Reps W ys vs) : W.le0 (W.outN G0 M.n l) ∧ Held (W.outN G0 M.n l) (M.new (.lst ys)) H ∧ (W.outN G0 M.n l).α M.n = some l := by
  obtain ⟨g1, g2, g3⟩ := h.gd l _ e
  have at_ : ∀ i, i ≠ M.n → (W.outN G0 M.n l).α i = W.α i := fun i z => if_neg z
  have here : (W.outN G0 M.n l).α M.n = some l := if_pos rfl
  have le : W.le0 (W.outN G0 M.n l) := ⟨rfl, fun _ _ e => e, fun i a q => by
    have z : i ≠ M.n := fun z => by
      have := h.top i (by omega)
      rw [this] at q
      cases q
    rw [at_ i z]
    exact q⟩
  refine ⟨le, ⟨h.f, fun i c q => ?_, fun i j a c c' q1 q2 e1 e2 => ?_, fun i hi => ?_, fun b u q => ?_, fun b u q => h.gl b u (hg b u q).1⟩, here⟩
  · by_cases z : i = M.n
    · subst z
      rw [Sto.new_same] at q
      cases q
      exact ⟨l, .lst vs, here, g2, g1, vs, rfl, r.up0 le⟩
    · rw [Sto.new_ne z] at q
      obtain ⟨a, o, h1, h2, h3, h4⟩ := h.m i c q
      exact ⟨a, o, by rw [at_ i z]; exact h1, h2, h3, h4.up0 le⟩
  · by_cases z : i = M.n
    · by_cases y : j = M.n
      · rw [z, y]
      · subst z
        rw [here] at e1
        cases e1
        rw [Sto.new_ne y] at q2
        rw [at_ j y] at e2
        exact absurd e2 (g3 j c' q2)
    · by_cases y : j = M.n
      · subst y
        rw [here] at e2
        cases e2
        rw [Sto.new_ne z] at q1
        rw [at_ i z] at e1
        exact absurd e1 (g3 i c q1)
      · rw [Sto.new_ne z] at q1
        rw [Sto.new_ne y] at q2
        rw [at_ i z] at e1
        rw [at_ j y] at e2
        exact h.inj i j a c c' q1 q2 e1 e2
  · have hi : M.n + 1 ≤ i := hi
    rw [at_ i (by omega)]
    exact h.top i (by omega)
  · obtain ⟨q1, z⟩ := hg b u q
    obtain ⟨h1, h2, h3⟩ := h.gd b u q1
    refine ⟨h1, h2, fun i c qc w => ?_⟩
    by_cases y : i = M.n
    · subst y
      rw [here] at w
      cases w
      exact z rfl
    · rw [Sto.new_ne y] at qc
      rw [at_ i y] at w
      exact h3 i c qc w
section
variable {X : Cx} {T : Tb} {ES : St → XK} {osc sc : Scope} {own fr : List Str} {js : List Nat} {elt target iter a b : Expr} {ifs : List Expr} {pos : Pos} {di : En → Sto → Res ItP} {g : TG} {bnd : PV → En → Option En} {dt : DT} {de da db : DE}
end
end L3

namespace L2
open PySem PySem.Spec PyProof.Rows
section
variable {prog : Program} {w : World} {A : Around} {E : Value → Shared → Prop} {s : Shared} {xs : List (List Key × Addr × Value)}
end
section
variable {X : Cx}
end
end L2

namespace L3
open PySem L2
section
variable {X : Cx} {T : Tb}
end
end L3

namespace L2
open PySem PySem.Spec PyProof.Rows
section
variable {prog : Program} {w : World} {A : Around} {R : Result → Shared → Prop} {s : Shared}
end
def BodyOk (X : Cx) (elt : Expr) (gens : List Comprehension) (scope : Scope) (pos : Pos) (d : Nat) (acc : Addr) (s : Shared) (Po : Shared → Prop) : Prop := match gens[d + 1]? with
  | none => wpAny (model X.prog X.w) X.A (eval elt X.env) (fun x s₄ => wpAny (model X.prog X.w) X.A (call (.builtin "list.append") [.ref acc, x]) (fun _ s₅ => Po s₅) (fun _ _ => False) s₄) (fun _ _ => False) s
  | some g => wpAny (model X.prog X.w) X.A (eval g.iter X.env) (fun x s₃ => wpAny (model X.prog X.w) X.A (pyIter x) (fun it' s₄ =>
      codeAny (model X.prog X.w) X.A (.compStart (.ListComp elt gens scope pos) (d + 1) it' (.ref acc) X.env) (fun r s₅ => match r with
        | .ok _ => Po s₅
        | .error _ => False) s₄) (fun _ _ => False) s₃) (fun _ _ => False) s
theorem BodyOk.mono {X : Cx} {elt : Expr} {gens : List Comprehension} {scope : Scope} {pos : Pos} {d : Nat} {acc : Addr} {s : Shared} {Po Po' : Shared → Prop} (h : BodyOk X elt gens scope pos d acc s Po) (k : ∀ s, Po s → Po' s) : BodyOk X elt gens scope pos d acc s Po' := by
  unfold BodyOk at h ⊢
  split
  · rename_i e
    rw [e] at h
    exact wpAny_mono h (fun x s₄ h₄ => wpAny_mono h₄ (fun _ s₅ h₅ => k s₅ h₅) fun _ _ z => z) fun _ _ z => z
  · rename_i g e
    rw [e] at h
    refine wpAny_mono h (fun x s₄ h₄ => wpAny_mono h₄ (fun _ s₅ h₅ => codeAny_mono h₅ fun r s h => ?_) fun _ _ z => z) fun _ _ z => z
    cases r with
    | ok f => exact k s h
    | error e => exact h
structure Plainly (env : Env) (gens : List Comprehension) (d : Nat) : Prop where
  h : ∀ g, gens[d + 1]? = some g → g.ifs = [] ∧ g.is_async = 0 ∧ ∀ x, foldedSetIterable g.iter env x = pure x
abbrev TB := Addr → St → Hp → (St → Hp → Prop) → Prop
def PMb (X : Cx) (elt : Expr) (gens : List Comprehension) (scope : Scope) (pos : Pos) (d : Nat) (tb : TB) : Prop :=
  ∀ (acc : Addr) (pins : List (Addr × Obj)) (s : Shared) (σ : St) (H : Hp) (N : St → Hp → Prop), Inv X pins σ H s → tb acc σ H N → BodyOk X elt gens scope pos d acc s fun s' => ∃ σ' H', Inv X pins σ' H' s' ∧ N σ' H'
section
variable {X : Cx} {pins : List (Addr × Obj)} {σ : St} {H : Hp} {s : Shared} {osc sc : Scope} {own fr : List Str} {js : List Nat} {fp : List Addr}
end
section
variable {X : Cx} {osc sc : Scope} {own fr : List Str} {js : List Nat} {elt target iter : Expr} {rest : List Comprehension} {pos : Pos} {wi : TI} {g : TG} {tb : TB}
end
end L2

namespace L3
open PySem L2
abbrev EM := En → Sto → Res (List PV)
def emN (p : ItP) (i : Nat) (em : EM) (ρ : En) : Nat → Nat → Sto → Res (List PV)
  | 0, _, _ => .bad
  | n + 1, k, M => match nxt p M k with
    | none => .bad
    | some none => .ok [] M
    | some (some x) => (em (ρ.set i (some x)) M).noX.bind fun ys M2 => (emN p i em ρ n (k + 1) M2).noX.bind fun zs M3 => .ok (ys ++ zs) M3
def FinM (W : Wd) (acc : Addr) (ρ : En) (vs : List V) (N : St → Hp → Prop) (r : Res (List PV)) : Prop := match r with
  | .ok zs M' => vs.length + zs.length ≤ sizeLine ∧ ∀ W' σ' H' ws, W.le0 W' → W'.G = L2.upd W.G acc (.lst (vs ++ ws)) → Held W' M' H' → Reps W' zs ws → RepS W' ρ σ' → N σ' H'
  | _ => False
def lfM (T : Tb) (own d : Nat) (em : EM) : TB := fun acc σ H N => ∃ W ρ M vs, W.T = T ∧ Held W M H ∧ RepS W ρ σ ∧ W.G acc = some (.lst vs) ∧ (∀ j, d < j → j < own → ρ[j]? = some none) ∧ FinM W acc ρ vs N (em ρ M)
structure QM (X : Cx) (T : Tb) (own : Nat) (elt : Expr) (gens : List Comprehension) (sc : Scope) (pos : Pos) (d : Nat) (em : EM) : Prop where
  h : PMb X elt gens sc pos d (lfM T own d em)
theorem RepS.up0 {W W' : Wd} {ρ : En} {σ : St} (l : W.le0 W') (h : RepS W ρ σ) : RepS W' ρ σ := ⟨h.1, fun i x e => by
  obtain ⟨v, e1, r⟩ := h.2 i x e
  exact ⟨v, e1, r.up0 l⟩⟩
section
variable {X : Cx} {T : Tb} {ES : St → XK} {own d : Nat} {elt target iter : Expr} {gens : List Comprehension} {sc : Scope} {pos : Pos} {di : En → Sto → Res ItP} {em : EM} {de : DE}
theorem repS_unset {W : Wd} {ρ : En} {σ : St} {i : Nat} {x : PV} (hn : ρ[i]? = some none) (h : RepS W (ρ.set i (some x)) σ) : RepS W ρ σ := by
  refine ⟨by rw [h.1, List.length_set], fun j y e => h.2 j y ?_⟩
  have hj : j ≠ i := fun z => by rw [z, hn] at e; cases e
  rw [List.getElem?_set_ne (fun z => hj z.symm)]
  exact e
theorem upd_at {G : Hp} {a : Addr} {o : HO} (h : G a = some o) : L2.upd G a o = G := by
  funext b
  by_cases e : b = a
  · subst e; rw [upd_same, h]
  · rw [upd_ne e]
theorem turns {W0 : Wd} {it : ItP} {J : It} {acc : Addr} {ρ : En} {vs : List V} {N : St → Hp → Prop} {i0 : Nat} {M0 : Sto} {σ : St} {H0 : Hp} {tb : TB} (k0 : W0.T = T) (ri : RI W0 it J) (g0 : W0.G acc = some (.lst vs)) (hn : ρ[i0]? = some none) (h0 : Held W0 M0 H0) (hs : RepS W0 ρ σ)
    (f : FinM W0 acc ρ vs N (emN it i0 em ρ (fuelP it M0) 0 M0))
    (body : ∀ (W : Wd) (M : Sto) (x : PV) (us : List V) (N' : St → Hp → Prop) (σ4 : St) (H4 : Hp), W.T = T → Held W M H4 → RepS W (ρ.set i0 (some x)) σ4 → W.G acc = some (.lst us) → FinM W acc (ρ.set i0 (some x)) us N' (em (ρ.set i0 (some x)) M) → tb acc σ4 H4 N') :
    ∃ Wk : Nat → Nat → St → Hp → Prop, (∃ m, Wk 0 m σ H0) ∧ ∀ i m σ2 H2, Wk i m σ2 H2 → (J.stop i H2 ∧ N σ2 H2) ∨
      (J.go i H2 ∧ ∃ N' : St → Hp → Prop, (∀ σ' H', N' σ' H' → ∃ m', m' < m ∧ Wk (i + 1) m' σ' H') ∧ ∀ v H3, J.yld i H2 v H3 → gName i0 v σ2 H3 fun σ4 H4 => tb acc σ4 H4 N') := by
  let Inn : Nat → Nat → St → Hp → Prop := fun i m σ2 H2 => ∃ W1 M1 us ys, W0.le0 W1 ∧ W1.G = L2.upd W0.G acc (.lst (vs ++ us)) ∧ Held W1 M1 H2 ∧ Reps W1 ys us ∧ RepS W1 ρ σ2 ∧ (match emN it i0 em ρ m i M1 with
    | .ok zs M' => vs.length + (ys.length + zs.length) ≤ sizeLine ∧ ∀ W' σ' H' ws, W0.le0 W' → W'.G = L2.upd W0.G acc (.lst (vs ++ ws)) → Held W' M' H' → Reps W' (ys ++ zs) ws → RepS W' ρ σ' → N σ' H'
    | _ => False)
  refine ⟨Inn, ⟨fuelP it M0, W0, M0, [], [], (Wd.le.refl W0).toLe0, by rw [List.append_nil, upd_at g0], h0, rfl, hs, ?_⟩, ?_⟩
  · cases e : emN it i0 em ρ (fuelP it M0) 0 M0 with
    | bad => rw [e] at f; exact f.elim
    | exc _ _ => rw [e] at f; exact f.elim
    | ok zs M' =>
      rw [e] at f
      refine ⟨by simpa using f.1, fun W' σ' H' ws le g h r s => f.2 W' σ' H' ws le g h (by simpa using r) s⟩
  rintro i m σ2 H2 ⟨W1, M1, us, ys, le1, g1, h1, r1, s1, f1⟩
  have k1 : W1.T = T := le1.k.trans k0
  have rl := r1.length
  cases m with
  | zero => exact f1.elim
  | succ m =>
    unfold emN at f1
    obtain ⟨goes, stops⟩ := ri W1 M1 H2 le1 h1 i
    split at f1
    rotate_left
    · exact f1.elim
    rename_i zs M' ef
    split at ef
    · cases ef
    · rename_i en
      cases ef
      exact .inl ⟨stops en, f1.2 W1 σ2 H2 us le1 g1 h1 (by simpa using r1) s1⟩
    · rename_i x en
      obtain ⟨go, yld⟩ := goes x en
      refine .inr ⟨go, Inn (i + 1) m, fun σ' H' q => ⟨m, Nat.lt_succ_self _, q⟩, fun v H3 hy => ?_⟩
      obtain ⟨W2, l2, h2, r2⟩ := yld v H3 hy
      have ga : W2.G acc = some (.lst (vs ++ us)) := by rw [l2.g, g1, upd_same]
      show tb acc (σ2.set i0 (some v)) H3 _
      refine body W2 M1 x (vs ++ us) _ _ _ (l2.k.trans k1) h2 ((s1.up l2).set r2) ga ?_
      cases e1 : em (ρ.set i0 (some x)) M1 with
      | bad => rw [e1] at ef; cases ef
      | exc _ _ => rw [e1] at ef; cases ef
      | ok ys1 M2 =>
        rw [e1] at ef
        have ef : ((emN it i0 em ρ m (i + 1) M2).noX.bind fun zs M3 => Res.ok (ys1 ++ zs) M3) = .ok zs M' := ef
        cases e2 : emN it i0 em ρ m (i + 1) M2 with
        | bad => rw [e2] at ef; cases ef
        | exc _ _ => rw [e2] at ef; cases ef
        | ok zs1 M3 =>
          rw [e2] at ef
          cases ef
          obtain ⟨hz, f1⟩ := f1
          simp only [List.length_append] at hz
          refine ⟨by simp only [List.length_append]; omega, fun W' σ' H' ws le g h r s => ?_⟩
          refine ⟨W', M2, us ++ ws, ys ++ ys1, (le1.trans l2.toLe0).trans le, ?_, h, ((r1.up l2).up0 le).append r, repS_unset hn s, ?_⟩
          · rw [g, l2.g, g1, upd_upd, List.append_assoc]
          · rw [e2]
            refine ⟨by simp only [List.length_append]; omega, fun W' σ' H' ws' le g h r s => f1 W' σ' H' ws' le g h (by simpa [List.append_assoc] using r) s⟩
end
section
variable {X : Cx} {T : Tb} {ES : St → XK} {osc sc : Scope} {own fr : List Str} {js : List Nat} {elt target iter : Expr} {rest : List Comprehension} {pos : Pos} {di : En → Sto → Res ItP} {em : EM}
end
structure CalZ (P : Program) (w : World) (K : PySem.W.Frag) (mg : Str → Option Value) (base : Heap) (T : Tb) (x : Str) (j : Nat) (D : List PV → Sto → Res PV) : Prop where
  ex : ∃ f fd, FnOk P w K mg base (CX1 P w) j f fd [] (spD T D) ∧ mg x = some (.ref f) ∧ PySem.W.keepIn K (.ref f) = true ∧ ∀ s : Shared, K.In s.heap → BindsTo s fd ⟨[], []⟩ []
end L3

namespace L2
open PySem PySem.Spec PyProof.Rows
section
variable {prog : Program} {w : World} {A : Around} {R : Result → Shared → Prop} {s : Shared}
end
def BodyOkD (X : Cx) (kx vx : Expr) (gens : List Comprehension) (scope : Scope) (pos : Pos) (d : Nat) (acc : Addr) (s : Shared) (Po : Shared → Prop) : Prop := match gens[d + 1]? with
  | none => wpAny (model X.prog X.w) X.A (eval kx X.env) (fun kv s₃ => wpAny (model X.prog X.w) X.A (eval vx X.env) (fun vv s₄ => wpAny (model X.prog X.w) X.A (dictSet acc kv vv) (fun _ s₅ => Po s₅) (fun _ _ => False) s₄) (fun _ _ => False) s₃) (fun _ _ => False) s
  | some g => wpAny (model X.prog X.w) X.A (eval g.iter X.env) (fun x s₃ => wpAny (model X.prog X.w) X.A (pyIter x) (fun it' s₄ =>
      codeAny (model X.prog X.w) X.A (.compStart (.DictComp kx vx gens scope pos) (d + 1) it' (.ref acc) X.env) (fun r s₅ => match r with
        | .ok _ => Po s₅
        | .error _ => False) s₄) (fun _ _ => False) s₃) (fun _ _ => False) s
theorem BodyOkD.mono {X : Cx} {kx vx : Expr} {gens : List Comprehension} {scope : Scope} {pos : Pos} {d : Nat} {acc : Addr} {s : Shared} {Po Po' : Shared → Prop} (h : BodyOkD X kx vx gens scope pos d acc s Po) (k : ∀ s, Po s → Po' s) : BodyOkD X kx vx gens scope pos d acc s Po' := by
  unfold BodyOkD at h ⊢;split
  · rename_i e
    rw [e] at h;exact wpAny_mono h (fun x s₃ h₃ => wpAny_mono h₃ (fun x s₄ h₄ => wpAny_mono h₄ (fun _ s₅ h₅ => k s₅ h₅) fun _ _ z => z) fun _ _ z => z) fun _ _ z => z
  · rename_i g e
    rw [e] at h;refine wpAny_mono h (fun x s₄ h₄ => wpAny_mono h₄ (fun _ s₅ h₅ => codeAny_mono h₅ fun r s h => ?_) fun _ _ z => z) fun _ _ z => z
    cases r with
    | ok f => exact k s h
    | error e => exact h
def PMbD (X : Cx) (kx vx : Expr) (gens : List Comprehension) (scope : Scope) (pos : Pos) (d : Nat) (tb : TB) : Prop :=
  ∀ (acc : Addr) (pins : List (Addr × Obj)) (s : Shared) (σ : St) (H : Hp) (N : St → Hp → Prop), Inv X pins σ H s → tb acc σ H N → BodyOkD X kx vx gens scope pos d acc s fun s' => ∃ σ' H', Inv X pins σ' H' s' ∧ N σ' H'
section
variable {X : Cx} {pins : List (Addr × Obj)} {σ : St} {H : Hp} {s : Shared} {osc sc : Scope} {own fr : List Str} {js : List Nat} {fp : List Addr}
end
section
variable {X : Cx} {osc sc : Scope} {own fr : List Str} {js : List Nat} {kx vx target iter : Expr} {rest : List Comprehension} {pos : Pos} {wi : TI} {g : TG} {tb : TB}
end
section
variable {prog : Program} {w : World} {A : Around} {E : Value → Shared → Prop} {s : Shared} {xs : List (List Key × Addr × Value)}
end
end L2

namespace L3
open PySem L2
abbrev Pr := List Int × Int
abbrev EMD := En → Sto → Res (List Pr)
def putAll (l zs : List Pr) : List Pr := zs.foldl (fun l p => putL l p.1 p.2) l
def FinD (W : Wd) (acc : Addr) (ρ : En) (l : List Pr) (m : Nat) (N : St → Hp → Prop) (r : Res (List Pr)) : Prop := match r with
  | .ok zs M' => m + zs.length ≤ sizeLine ∧ ∀ W' σ' H', W.le0 W' → W'.G = L2.upd W.G acc (.dT (dctV (putAll l zs))) → Held W' M' H' → RepS W' ρ σ' → N σ' H'
  | _ => False
def lfD (T : Tb) (own d : Nat) (em : EMD) : TB := fun acc σ H N => ∃ W ρ M l m, W.T = T ∧ Held W M H ∧ RepS W ρ σ ∧ W.G acc = some (.dT (dctV l)) ∧ l.length ≤ m ∧ (∀ j, d < j → j < own → ρ[j]? = some none) ∧ FinD W acc ρ l m N (em ρ M)
structure QMD (X : Cx) (T : Tb) (own : Nat) (kx vx : Expr) (gens : List Comprehension) (sc : Scope) (pos : Pos) (d : Nat) (em : EMD) : Prop where
  h : PMbD X kx vx gens sc pos d (lfD T own d em)
section
variable {X : Cx} {T : Tb} {ES : St → XK} {own d : Nat} {kx vx target iter : Expr} {gens : List Comprehension} {sc : Scope} {pos : Pos} {di : En → Sto → Res ItP} {em : EMD} {dk : DA} {dv : DE}
end
section
variable {X : Cx} {T : Tb} {ES : St → XK} {osc sc : Scope} {own fr : List Str} {js : List Nat} {kx vx target iter : Expr} {rest : List Comprehension} {pos : Pos} {di : En → Sto → Res ItP} {em : EMD}
end
end L3

namespace L3
open PySem L2
section
variable {X : Cx} {T : Tb} {ES : St → XK} {a : Expr} {es : List Expr} {p pos : Pos} {ds : DA}
end
end L3

namespace L2
open PySem PySem.Spec PyProof.Rows
section
variable {prog : Program} {w : World} {A : Around} {E : Value → Shared → Prop} {s : Shared} {xs : List (List Key × Addr × Value)}
end
section
variable {X : Cx} {pins : List (Addr × Obj)} {σ : St} {H : Hp} {s : Shared} {a b : Addr} {d : V} {r : Value} {A : Around} {E : Value → Shared → Prop} {kvs : List (List Key × V)} {k : List Key}
end
section
variable {X : Cx} {o e f : Expr} {apos cpos : Pos} {td ty tx : TE}
end
end L2

namespace L2
open PySem PySem.Spec PyProof.Rows PySem.W
section
variable {prog : Program} {w : World} {A : Around} {E : Value → Shared → Prop} {s : Shared}
end
section
variable {X : Cx}
end
end L2

namespace L3
open PySem L2
section
variable {α κ : Type} [DecidableEq α] [DecidableEq κ]
def getA (l : List (α × PV)) (k : α) : Option PV := (l.find? fun p => decide (p.1 = k)).map (·.2)
def putA (l : List (α × PV)) (k : α) (x : PV) : List (α × PV) :=
  if (l.any fun p => decide (p.1 = k)) = true then l.map (fun p => if p.1 = k then (p.1, x) else p) else l ++ [(k, x)]
variable {W : Wd} {f : α → κ}
theorem RepA.length : ∀ {l : List (α × PV)} {vs : List (κ × V)}, RepA W f l vs → vs.length = l.length
  | [], _, e => by cases e; rfl
  | _ :: _, _, ⟨_, _, e, _, t⟩ => by subst e; rw [List.length_cons, List.length_cons, RepA.length t]
theorem RepA.any (hf : ∀ a b, f a = f b → a = b) (k : α) : ∀ {l : List (α × PV)} {vs : List (κ × V)}, RepA W f l vs → (vs.any fun p => decide (p.1 = f k)) = l.any fun p => decide (p.1 = k)
  | [], _, e => by cases e; rfl
  | p :: _, _, ⟨_, _, e, _, t⟩ => by
    subst e
    rw [List.any_cons, List.any_cons, RepA.any hf k t]
    congr 1
    exact decide_eq_decide.mpr ⟨hf _ _, fun z => by rw [z]⟩
theorem RepA.get (hf : ∀ a b, f a = f b → a = b) (k : α) : ∀ {l : List (α × PV)} {vs : List (κ × V)}, RepA W f l vs → (getA l k = none ∧ valV vs (f k) = none) ∨ ∃ x v, getA l k = some x ∧ valV vs (f k) = some v ∧ Rep W x v
  | [], _, e => by cases e; exact .inl ⟨rfl, rfl⟩
  | p :: r, _, ⟨v, rs, e, rv, t⟩ => by
    subst e
    unfold getA
    rw [List.find?_cons]
    by_cases h : p.1 = k
    · rw [decide_eq_true h]
      exact .inr ⟨p.2, v, rfl, valV_pos (by rw [h]), rv⟩
    · rw [decide_eq_false h]
      have hv : valV ((f p.1, v) :: rs) (f k) = valV rs (f k) := valV_neg (fun z => h (hf _ _ z))
      rw [hv]
      exact RepA.get hf k t
theorem RepA.snoc {k : α} {x : PV} {v : V} (rv : Rep W x v) : ∀ {l : List (α × PV)} {vs : List (κ × V)}, RepA W f l vs → RepA W f (l ++ [(k, x)]) (vs ++ [(f k, v)])
  | [], _, e => by cases e; exact ⟨v, [], rfl, rv, rfl⟩
  | _ :: _, _, ⟨u, rs, e, r, t⟩ => by subst e; exact ⟨u, _, rfl, r, RepA.snoc rv t⟩
theorem RepA.repl (hf : ∀ a b, f a = f b → a = b) {k : α} {x : PV} {v : V} (rv : Rep W x v) : ∀ {l : List (α × PV)} {vs : List (κ × V)}, RepA W f l vs → RepA W f (l.map fun p => if p.1 = k then (p.1, x) else p) (vs.map fun p => if p.1 = f k then (p.1, v) else p)
  | [], _, e => by cases e; exact rfl
  | p :: _, _, ⟨u, rs, e, r, t⟩ => by
    subst e
    rw [List.map_cons, List.map_cons]
    by_cases h : p.1 = k
    · rw [if_pos h, if_pos (by rw [h])]
      exact ⟨v, _, rfl, rv, RepA.repl hf rv t⟩
    · rw [if_neg h, if_neg (fun z => h (hf _ _ z))]
      exact ⟨u, _, rfl, r, RepA.repl hf rv t⟩
theorem RepA.put (hf : ∀ a b, f a = f b → a = b) {k : α} {x : PV} {v : V} {l : List (α × PV)} {vs : List (κ × V)} (r : RepA W f l vs) (rv : Rep W x v) : RepA W f (putA l k x) (putK vs (f k) v) := by
  unfold putA putK
  rw [r.any hf k]
  split
  · exact r.repl hf rv
  · exact r.snoc rv
end
theorem keyI_inj (a b : Int) (h : keyI a = keyI b) : a = b := Sum.inl.inj h
def dDkN : DE := fun _ M => .ok (.ref M.n) (M.new (.dkv []))
def putKv (M : Sto) (o k x : PV) : Option Sto := match o, k with
  | .ref i, .int n => (match M.g i with
    | some (.dkv l) => if l.length < sizeLine then some (M.set i (.dkv (putA l n x))) else none
    | _ => none)
  | _, _ => none
def sPutKv (d do_ dk : DE) : DS := fun ρ M => (d ρ M).st ρ fun x M1 => (do_ ρ M1).st ρ fun o M2 => (dk ρ M2).st ρ fun k M3 => match putKv M3 o k x with
  | some M4 => .nx ρ M4
  | none => .bad
section
variable {X : Cx} {T : Tb} {ES : St → XK} {e o f : Expr} {es : List Expr} {pos p2 kp : Pos} {x1 : Nat} {d do_ dz dk1 : DE} {dk : DA}
theorem qe_dkN : QE X T ES (.Dict [] [] pos) dDkN := ⟨pe_imp pe_dnewK fun σ H Q hQQ => lft_el hQQ fun W ρ M k hh hs q => fun p hp => by
  obtain ⟨le, h1, h2⟩ := hh.put (l := p) (o := .dK []) (c := .dkv []) hp ⟨[], rfl, rfl⟩
  exact q _ _ _ le h1 ⟨p, rfl, h2⟩⟩
theorem qs_putKv (hu : X.A.units + 1 < cLine) (he : QE X T ES e d) (ho : QE X T ES o do_) (hk : QE X T ES f dk1) (hw : swapsWith e (some (.Subscript o f p2)) pos.line X.env = pure false := by rfl) :
    QS X T ES (.Assign [.Subscript o f p2] e pos) (sPutKv d do_ dk1) :=
  ⟨ps_imp (ps_dput hu ho.h hk.h he.h hw) fun D σ H hQQ => lftS_el hQQ fun W ρ M k hh hs q => ⟨W, ρ, M, k, hh, hs, PostS.bind hs q fun W1 M1 x v H1 l1 h1 r1 q1 => by
    have hs1 := hs.up l1
    refine ⟨W1, ρ, M1, l1.k.trans k, h1, hs1, PostS.bind hs1 q1 fun W2 M2 o' ov H2 l2 h2 r2 q2 => ?_⟩
    have hs2 := hs1.up l2
    refine ⟨W2, ρ, M2, l2.k.trans (l1.k.trans k), h2, hs2, PostS.bind hs2 q2 fun W3 M3 kk kv H3 l3 h3 r3 q3 => ?_⟩
    split at q3
    rotate_left
    · exact q3.elim
    rename_i M4 e4
    unfold putKv at e4
    split at e4
    rotate_left
    · cases e4
    rename_i i n
    split at e4
    rotate_left
    · cases e4
    rename_i l e5
    split at e4
    rotate_left
    · cases e4
    rename_i hc
    cases e4
    cases (show kv = .int n from r3)
    obtain ⟨a, rfl, ea⟩ := r2.up l3
    obtain ⟨b, ob, g1, g2, g3, vs, rfl, ra⟩ := h3.m i _ e5
    rw [ea] at g1
    cases g1
    refine ⟨a, _, rfl, DPut.k (k := keyI n) (kvs := vs) g3 (by rw [ra.length]; exact hc), ?_⟩
    exact q3 _ σ _ (.refl W3) (h3.upd e5 ea (c' := .dkv (putA l n x)) (o := .dK (putK vs (keyI n) v)) ⟨_, rfl, ra.put keyI_inj ((r1.up l2).up l3)⟩) (hs2.up l3)⟩⟩
end
end L3

namespace L2
open PySem PySem.Spec PyProof.Rows PySem.W
section
variable {X : Cx} {pins : List (Addr × Obj)} {σ : St} {H : Hp} {s : Shared} {a : Addr} {o : Obj} {kvs : List (List Key × V)}
end
section
variable {X : Cx} {tg l e : Expr} {te : TE}
end
end L2

namespace L3
open PySem L2
theorem Held.back {W : Wd} {M : Sto} {H G0 : Hp} {j : Nat} {a : Addr} {c : Cell} {o' u : HO} (h : Held W M H) (e : W.G a = some o') (ea : W.α j = some a) (r : RepC W c u) (hg : ∀ b u, G0 b = some u → W.G b = some u ∧ b ≠ a) : Held ⟨W.T, W.F, W.α, G0⟩ (M.set j c) (L2.upd H a u) := by
  obtain ⟨g1, g2, g3⟩ := h.gd a o' e
  have le : W.le0 ⟨W.T, W.F, W.α, G0⟩ := ⟨rfl, fun _ _ e => e, fun _ _ e => e⟩
  refine ⟨fun b w q => ?_, fun i c' q => ?_, fun i k b c1 c2 q1 q2 e1 e2 => ?_, h.top, fun b w q => ?_, fun b w q => h.gl b w (hg b w q).1⟩
  · rw [upd_ne (fun z : b = a => by
      have q : W.F b = some w := q
      rw [z, g2] at q
      cases q)]
    exact h.f b w q
  · by_cases z : i = j
    · subst z
      rw [Sto.set_same] at q
      cases q
      exact ⟨a, u, ea, g2, upd_same, r.up0 le⟩
    · rw [Sto.set_ne z] at q
      obtain ⟨a', u', h1, h2, h3, h4⟩ := h.m i c' q
      exact ⟨a', u', h1, h2, by rw [upd_ne (fun zz : a' = a => g3 i c' q (zz ▸ h1))]; exact h3, h4.up0 le⟩
  · have e1 : W.α i = some b := e1
    have e2 : W.α k = some b := e2
    by_cases z1 : i = j
    · by_cases z2 : k = j
      · rw [z1, z2]
      · rw [Sto.set_ne z2] at q2
        rw [z1, ea] at e1
        cases e1
        exact absurd e2 (g3 k c2 q2)
    · rw [Sto.set_ne z1] at q1
      by_cases z2 : k = j
      · rw [z2, ea] at e2
        cases e2
        exact absurd e1 (g3 i c1 q1)
      · rw [Sto.set_ne z2] at q2
        exact h.inj i k b c1 c2 q1 q2 e1 e2
  · obtain ⟨q1, z⟩ := hg b w q
    obtain ⟨h1, h2, h3⟩ := h.gd b w q1
    refine ⟨by rw [upd_ne z]; exact h1, h2, fun i c' qi w' => ?_⟩
    have w' : W.α i = some b := w'
    by_cases zi : i = j
    · rw [zi, ea] at w'
      cases w'
      exact z rfl
    · rw [Sto.set_ne zi] at qi
      exact h3 i c' qi w'
section
variable {X : Cx} {T : Tb} {ES : St → XK} {osc sc : Scope} {own fr : List Str} {js : List Nat} {elt target iter : Expr} {ifs : List Expr} {pos : Pos} {d : DE} {g : TG} {bnd : PV → En → Option En} {dt : DT} {de : DE}
end
end L3

namespace L2
open PySem PySem.Spec PyProof.Rows PySem.W
section
variable {X : Cx}
end
end L2

namespace L3
open PySem L2
section
variable {X : Cx} {T : Tb} {ES : St → XK} {e : Expr} {p p2 pos pos2 : Pos} {d : DE}
end
end L3

namespace L3
open PySem L2
section
variable {X : Cx} {T : Tb} {ES : St → XK} {e o : Expr} {es : List Expr} {pos p2 kp : Pos} {x1 : Nat} {d do_ dz dk1 : DE} {dk : DA}
end
end L3

namespace L2
open PySem PySem.Spec PyProof.Rows
section
variable {X : Cx} {pins : List (Addr × Obj)} {σ : St} {H : Hp} {s : Shared} {a : Addr} {d : V} {u r : Value} {A : Around} {E : Value → Shared → Prop} {kvs : List (Key × V)} {k : Key}
end
section
variable {X : Cx} {o e f : Expr} {apos cpos : Pos} {td ty tx : TE}
end
end L2

namespace L3
open PySem L2
theorem RepN.length {W : Wd} : ∀ {l : List (NK × PV)} {xs : List (NK × Addr × Value)}, RepN W l xs → xs.length = l.length
  | [], _, e => by cases e; rfl
  | _ :: _, _, ⟨_, _, _, _, e, _, _, _, t⟩ => by subst e; rw [List.length_cons, List.length_cons, RepN.length t]
theorem RepN.keys {W : Wd} : ∀ {l : List (NK × PV)} {xs : List (NK × Addr × Value)}, RepN W l xs → ∀ x ∈ xs, NKey W.T.K W.F x.1 x.2.1
  | [], _, e, x, hx => by cases e; cases hx
  | _ :: _, _, ⟨b, u, rs, v, e, k, _, _, t⟩, x, hx => by
    subst e
    rcases List.mem_cons.mp hx with rfl | hx
    · exact k
    · exact RepN.keys t x hx
theorem RepN.get {W : Wd} (k : NK) : ∀ {l : List (NK × PV)} {xs : List (NK × Addr × Value)}, RepN W l xs → (getA l k = none ∧ atKey xs k = none) ∨ ∃ x b u v, getA l k = some x ∧ atKey xs k = some (b, u) ∧ Rep W x v ∧ RelV v u
  | [], _, e => by cases e; exact .inl ⟨rfl, rfl⟩
  | p :: r, _, ⟨b, u, rs, v, e, _, rv, ru, t⟩ => by
    subst e
    unfold getA atKey
    rw [List.find?_cons, List.find?_cons]
    by_cases h : p.1 = k
    · rw [decide_eq_true h]
      exact .inr ⟨p.2, b, u, v, rfl, rfl, rv, ru⟩
    · rw [decide_eq_false h]
      exact RepN.get k t
theorem RepN.snoc {W : Wd} {k : NK} {x : PV} {b : Addr} {u : Value} {v : V} (hk : NKey W.T.K W.F k b) (rv : Rep W x v) (ru : RelV v u) : ∀ {l : List (NK × PV)} {xs : List (NK × Addr × Value)}, RepN W l xs → RepN W (l ++ [(k, x)]) (xs ++ [(k, b, u)])
  | [], _, e => by cases e; exact ⟨b, u, [], v, rfl, hk, rv, ru, rfl⟩
  | _ :: _, _, ⟨b', u', rs, v', e, k', r, ru', t⟩ => by subst e; exact ⟨b', u', _, v', rfl, k', r, ru', RepN.snoc hk rv ru t⟩
section
variable {X : Cx} {T : Tb} {ES : St → XK} {e o f : Expr} {es : List Expr} {pos p2 kp : Pos} {x1 : Nat} {d do_ dz dk1 : DE} {dk : DA}
end
def txtsOk : List Value → List Str → Bool
  | [], [] => true
  | u :: us, x :: xs => Value.isStrOf x u && txtsOk us xs
  | _, _ => false
structure TupS (K : PySem.W.Frag) (mg : Str → Option Value) (x : Str) (xs : List Str) : Prop where
  ex : ∃ a q its n ts, mg x = some (.ref a) ∧ K.lookup a = some ⟨.type "tuple", q, .seq its n, ts⟩ ∧ its.size ≤ sizeLine ∧ txtsOk its.toList xs = true
end L3

namespace L2
open PySem PySem.Spec PyProof.Rows PySem.W
section
variable {X : Cx} {pins : List (Addr × Obj)} {σ : St} {H : Hp} {s : Shared} {a : Addr} {o : Obj} {kvs : List (Key × V)}
end
section
variable {X : Cx} {tg l e : Expr} {te : TE}
end
end L2

namespace L3
open PySem L2
section
variable {X : Cx} {T : Tb} {ES : St → XK} {o e : Expr} {do_ dk1 : DE} {pos : Pos}
variable {osc sc : Scope} {xd xh : Str} {i : Nat} {p1 p2 p3 p4 p5 : Pos}
end
end L3

namespace Srt
open PySem PySem.W PyProof.Rows
section
variable {prog : Program} {w : World} {A : Around} {E : Value → Shared → Prop} {s : Shared}
theorem collect_src {T : String} {r d : Addr} {n : Nat} {P : Nat → Value → Prop} {OK : Heap → Prop} {Q : List Value → Shared → Prop} (K : KdlSrc prog w T r d n P OK) (hh : A.handled = none) (hok : OK s.heap) (hn : n ≤ sizeLine)
    (hQ : ∀ h' tk (vs : List Value), (∀ b o, s.heap.get? b = some o → h'.get? b = some o) → s.heap.objs.size ≤ h'.objs.size → vs.length = n → (∀ j v, vs[j]? = some v → P j v) → Q vs { s with heap := h', toks := tk }) : wpAny (model prog w) A (collect (.ref r)) Q E s := by
  have hlt := K.there _ hok
  unfold collect
  refine wpAny_bind (wpAny_runValue (codeAny_builtin PySem.F.entry_proto_collect ?_))
  rw [Around.under_plainId PySem.F.plain_proto_collect _]
  show wpAny _ A.in1 (newList [] >>= fun l => again (.builtin "list.__iadd__" ⟨[l, .ref r], []⟩)) _ _ s
  refine wpAny_bind (wpAny_newObj_type (wpAny_pure ⟨plainId_quiet PySem.F.plain_list_iadd _, codeAny_builtin PySem.F.entry_list_iadd ?_⟩))
  rw [Around.under_plainId PySem.F.plain_list_iadd _]
  have hS : (s.heap.push { cls := .type "list", data := .seq ([] : List Value).toArray }).get? s.heap.objs.size = some { cls := .type "list", data := .seq #[] } := Heap.get?_push_size _ rfl
  show wpAny _ A.in1 (Builtin.List.listExtendWith (.ref s.heap.objs.size) (.ref r) (.ref s.heap.objs.size)) _ _ _
  refine kdl_extend (A := A) (R := fun r s' => match r with
    | .ok (.ret v) => wpAny (model prog w) A (match v with
      | .ref a => (do
        let o ← load a
        match o.data with
        | .seq xs _ => pure xs.toList
        | _ => unsupported "internal:collect")
      | _ => unsupported "internal:collect") Q E s'
    | .ok _ => False
    | .error e => E e s') (s := { s with heap := s.heap.push { cls := .type "list", data := .seq ([] : List Value).toArray } }) K hh (K.keep _ _ hok fun b _ o e => Heap.get?_push_of_some _ e) s.heap.objs.size (Nat.ne_of_gt hlt.1) (Nat.ne_of_gt hlt.2) _ _ hS (fun h' tk acc' c' hk hS' hacc => ?_) hn
  show wpAny _ A (load s.heap.objs.size >>= _) _ _ _
  refine wpAny_bind (wpAny_load hS' (wpAny_pure (hQ h' tk acc'.toList (fun b o e => hk b o (Nat.ne_of_lt (Heap.lt_size e)) (Heap.get?_push_of_some _ e)) (Nat.le_of_lt (Heap.lt_size hS')) (by rw [Array.length_toList]; exact hacc.1) fun j v e => hacc.2 j v (by rw [← Array.getElem?_toList]; exact e))))
theorem sorted_src {T : String} {r d : Addr} {n : Nat} {P : Nat → Value → Prop} {OK : Heap → Prop} {ns : List Int} {Q : Value → Shared → Prop} (K : KdlSrc prog w T r d n P OK) (hh : A.handled = none) (hok : OK s.heap) (h64 : n < 64) (hi : ∀ vs : List Value, vs.length = n → (∀ j v, vs[j]? = some v → P j v) → IntsAre vs ns)
    (h : ∀ h' tk a e (out : Array Value) (ns' : List Int), (∀ b o, s.heap.get? b = some o → h'.get? b = some o) → s.heap.objs.size ≤ a → h'.get? a = some (seqObj "list" out e) → IntsAre out.toList ns' → ns'.Perm ns → ns'.Pairwise (· ≤ ·) → Q (.ref a) { s with heap := h', toks := tk }) : wpAny (model prog w) A (call (.builtin "sorted") [.ref r]) Q E s := by
  refine Calls.call_function_entry kind_sorted plain_sorted entry_sorted (args_sorted1 _) ?_
  unfold Builtin.«sorted»
  refine wpAny_bind (m := checkCount "sorted" 1 1 _) (wpAny_pure (wpAny_bind (collect_src K hh hok (by rw [sizeLine_eq]; omega) fun h1 tk vs k1 z1 hl hp => ?_)))
  have hI := hi vs hl hp
  refine wpAny_bind (wpAny_newList ?_ (by show vs.length ≤ _; rw [sizeLine_eq]; omega))
  show wpAny _ _ _ _ _ { s with heap := h1.push (seqObj "list" vs.toArray 0), toks := tk }
  have g2 : (h1.push (seqObj "list" vs.toArray 0)).get? h1.objs.size = some (seqObj "list" vs.toArray 0) := Heap.get?_push_size _ rfl
  refine wpAny_bind (wpAny_holding (wpAny_call_entry slot_list_sort ⟨_, g2, rfl⟩ entry_list_sort (list_sort_tree (s := { s with heap := h1.push (seqObj "list" vs.toArray 0), toks := tk }) g2 hI (by omega) fun out ns' a1 a2 a3 => ⟨_, rfl, ?_⟩) (args_list_sort _)))
  refine wpAny_pure ⟨_, rfl, ?_⟩
  unfold sortedHeap
  obtain ⟨e1, g3⟩ : ∃ e, ((h1.push (seqObj "list" vs.toArray 0)).update h1.objs.size (Obj.mapSeq fun _ => #[])).get? h1.objs.size = some (seqObj "list" #[] e) := ⟨_, get?_update_seq g2 fun _ => #[]⟩
  have g4 : ((((h1.push (seqObj "list" vs.toArray 0)).update h1.objs.size (Obj.mapSeq fun _ => #[])).push (seqObj "tuple" vs.toArray 0)).push (seqObj "list" #[] 0)).get? h1.objs.size = some (seqObj "list" #[] e1) := Heap.get?_push_of_some _ (Heap.get?_push_of_some _ g3)
  refine h _ tk h1.objs.size _ out ns' (fun b o q => ?_) z1 (get?_update_seq g4 fun _ => out) a1 a2 a3
  have hb : b < h1.objs.size := Heap.lt_size (k1 b o q)
  rw [Heap.get?_update_ne _ _ _ _ (Nat.ne_of_lt hb)]
  refine Heap.get?_push_of_some _ (Heap.get?_push_of_some _ ?_)
  rw [Heap.get?_update_ne _ _ _ _ (Nat.ne_of_lt hb)]
  exact Heap.get?_push_of_some _ (k1 b o q)
end
end Srt
namespace L2
open PySem PySem.Spec PyProof.Rows PySem.W
section
variable {X : Cx}
theorem call_sortedD (hc : X.calm = true) : CallR X (.builtin "sorted") (fun xs H Q => ∃ (p : Addr) (kvs : List (Int × V)), xs = [.ref p] ∧ H p = some (.dK (kvs.map fun k => (Sum.inl k.1, k.2))) ∧ kvs.length < 64 ∧ ∀ (l : Addr) (ms : List Int), H l = none → ms.Perm (kvs.map Prod.fst) → ms.Pairwise (· ≤ ·) → Q (.ref l) (upd H l (.lst (ms.map V.int)))) := by
  intro pins s σ H xs us Q I r h
  obtain ⟨p, kvs, rfl, hq, h64, q⟩ := h
  obtain ⟨u, rfl, rx⟩ := vals1 r
  cases rx
  obtain ⟨_, hsys, ws, hkv, hd⟩ := (show ObjOk X.prog X.w H s.heap p (.dK (kvs.map fun k => (Sum.inl k.1, k.2))) from I.hok p _ hq)
  obtain ⟨o, es, ep, d1, d2, d3, d4, d5, d6⟩ := hd
  have hd' : s.heap.DictAt (mixKind X.prog X.w) p ws ep := ⟨o, es, d1, d2, d3, d4, d5, d6⟩
  have hl : ws.length = kvs.length := by
    have := Paired.length hkv
    rw [List.length_map] at this
    exact this.symm
  have keys : ∀ (kvs : List (Int × V)) (ws : List (Key × Value)), KV (kvs.map fun k => (Sum.inl k.1, k.2)) ws → ∀ (j : Nat) (k : Key) (x : Value), ws[j]? = some (k, x) → ∃ n, (kvs.map Prod.fst)[j]? = some n ∧ k = Sum.inl n := by
    intro kvs
    induction kvs with
    | nil => intro ws h j k x e; cases h; cases e
    | cons z kvs ih =>
      intro ws h j k x e
      cases h with
      | cons a b =>
        cases j with
        | zero =>
          simp at e
          have := a.1
          rw [e] at this
          exact ⟨z.1, rfl, this.symm⟩
        | succ j => exact ih _ b j k x (by simpa using e)
  have intsI : ∀ (ms : List Int) (vs : List Value), vs.length = ms.length → (∀ (j : Nat) (v : Value), vs[j]? = some v → ∃ n t, ms[j]? = some n ∧ v = Value.int n t) → IntsAre vs ms := by
    intro ms
    induction ms with
    | nil => intro vs h _; cases vs with | nil => exact .nil | cons _ _ => cases h
    | cons m ms ih =>
      intro vs h hp
      cases vs with
      | nil => cases h
      | cons v vs =>
        obtain ⟨n, t, e1, e2⟩ := hp 0 v rfl
        cases e1
        subst e2
        exact .cons _ _ (ih vs (by simpa using h) fun j v e => hp (j + 1) v (by simpa using e))
  refine Srt.sorted_src (ns := kvs.map Prod.fst) (kdl_dict (knd := mixKind X.prog X.w) (kvs := ws) (ep := ep) hsys) (I.ok.hd hc) hd' (by omega) (fun vs hv hp => intsI _ _ (by rw [List.length_map]; omega) fun j v e => ?_) fun h' tk a e out ns' k1 z1 g a1 a2 a3 => ?_
  · obtain ⟨k, x, e1, e2⟩ := hp j v e
    obtain ⟨n, e3, rfl⟩ := keys kvs ws hkv j k x e1
    obtain ⟨t, e4⟩ := Value.isInt_shape (k := n) (v := v) e2
    exact ⟨n, t, e3, e4⟩
  · have hl' : ns'.length = kvs.length := by rw [a2.length_eq, List.length_map]
    refine ⟨.ref a, _, I.laid (a := a) (o := .lst (ns'.map V.int)) (h' := h') (t' := tk) k1 z1 ?_, rfl, q a ns' (I.hok.fresh z1) a2 a3⟩
    refine ⟨by rw [List.length_map, sizeLine_eq]; omega, out.toList, e, vals_of_ints a1, ?_⟩
    rw [g]
end
end L2

namespace Sml
open PySem
def subs : Nat → List (List Nat)
  | 0 => [[]]
  | n + 1 => subs n ++ (subs n).map (· ++ [n])
def tb (mask : Nat) (p : List Nat) : SetTable := ⟨mask, p.toArray, #[], 0, true, 0, true⟩
def chk7 : Bool := (subs 8).all fun p => decide (4 < p.length) || (List.range 16).all fun n => match (tb 7 p).freeSlot (n : Int) with
  | some (j, false) => decide (j < 8) && !p.contains j
  | _ => false
theorem chk7_t : chk7 = true := by decide +kernel
theorem subs_mem : ∀ (n : Nat) (l : List Nat), l.Pairwise (· < ·) → (∀ x ∈ l, x < n) → l ∈ subs n
  | 0, l, _, h => by
    cases l with
    | nil => exact List.mem_singleton.mpr rfl
    | cons a l => exact absurd (h a List.mem_cons_self) (Nat.not_lt_zero _)
  | n + 1, l, pw, h => by
    by_cases hn : n ∈ l
    · -- it stands last
      have key : ∀ l : List Nat, l.Pairwise (· < ·) → (∀ x ∈ l, x < n + 1) → n ∈ l → ∃ l', l = l' ++ [n] ∧ l'.Pairwise (· < ·) ∧ ∀ x ∈ l', x < n := by
        intro l
        induction l with
        | nil => intro _ _ h; cases h
        | cons a l ih =>
          intro pw h hm
          obtain ⟨p1, p2⟩ := List.pairwise_cons.mp pw
          rcases List.mem_cons.mp hm with e | hm
          · subst e
            cases l with
            | nil => exact ⟨[], rfl, .nil, fun x hx => (by cases hx)⟩
            | cons b l =>
              have h1 := p1 b List.mem_cons_self
              have h2 := h b (List.mem_cons_of_mem _ List.mem_cons_self)
              omega
          · obtain ⟨l', e, q1, q2⟩ := ih p2 (fun x hx => h x (List.mem_cons_of_mem _ hx)) hm
            subst e
            have ha : a < n := p1 n (List.mem_append_right _ (List.mem_singleton.mpr rfl))
            refine ⟨a :: l', rfl, List.pairwise_cons.mpr ⟨fun x hx => p1 x (List.mem_append_left _ hx), q1⟩, fun x hx => ?_⟩
            rcases List.mem_cons.mp hx with rfl | hx
            · exact ha
            · exact q2 x hx
      obtain ⟨l', e, q1, q2⟩ := key l pw h hn
      subst e
      exact List.mem_append_right _ (List.mem_map.mpr ⟨l', subs_mem n l' q1 q2, rfl⟩)
    · exact List.mem_append_left _ (subs_mem n l pw fun x hx => by
        have := h x hx
        have : x ≠ n := fun z => hn (z ▸ hx)
        omega)
theorem free7 {p : List Nat} (pw : p.Pairwise (· < ·)) (h : ∀ x ∈ p, x < 8) (hl : p.length ≤ 4) {n : Nat} (hn : n < 16) : ∃ j, (tb 7 p).freeSlot (n : Int) = some (j, false) ∧ j < 8 ∧ j ∉ p := by
  have h1 := List.all_eq_true.mp chk7_t p (subs_mem 8 p pw h)
  rw [decide_eq_false (by omega), Bool.false_or] at h1
  have h2 := List.all_eq_true.mp h1 n (List.mem_range.mpr hn)
  split at h2
  · rename_i j e
    rw [Bool.and_eq_true, decide_eq_true_eq, Bool.not_eq_true', ← Bool.not_eq_true, List.contains_iff_mem] at h2
    exact ⟨j, e, h2.1, h2.2⟩
  · cases h2
theorem go_spec (xs : Array Nat) (j : Nat) (pw : xs.toList.Pairwise (· < ·)) : ∀ (fuel lo hi : Nat), hi - lo ≤ fuel → hi ≤ xs.size → lo ≤ hi → (∀ i, i < lo → xs.getD i j < j) → (∀ i, hi ≤ i → i < xs.size → j ≤ xs.getD i j) →
    (∀ i, i < SetTable.below.go xs j fuel lo hi → xs.getD i j < j) ∧ (∀ i, SetTable.below.go xs j fuel lo hi ≤ i → i < xs.size → j ≤ xs.getD i j) ∧ SetTable.below.go xs j fuel lo hi ≤ xs.size
  | 0, lo, hi, hf, hs, hl, h1, h2 => by
    have : lo = hi := by omega
    subst this
    unfold SetTable.below.go
    exact ⟨h1, h2, hs⟩
  | fuel + 1, lo, hi, hf, hs, hl, h1, h2 => by
    have rise : ∀ a b, a < b → b < xs.size → xs.getD a j < xs.getD b j := fun a b hab hb => by
      have := List.pairwise_iff_getElem.mp pw a b (by rw [Array.length_toList]; omega) (by rw [Array.length_toList]; exact hb) hab
      rw [Array.getElem_toList, Array.getElem_toList] at this
      rw [Array.getD_eq_getD_getElem?, Array.getD_eq_getD_getElem?, Array.getElem?_eq_getElem (by omega), Array.getElem?_eq_getElem hb]
      exact this
    unfold SetTable.below.go
    by_cases hlt : lo < hi
    · rw [if_pos hlt]
      dsimp only
      by_cases hm : xs.getD ((lo + hi) / 2) j < j
      · rw [if_pos hm]
        refine go_spec xs j pw fuel _ hi (by omega) hs (by omega) (fun i hi' => ?_) h2
        by_cases he : i = (lo + hi) / 2
        · rw [he]; exact hm
        · exact Nat.lt_trans (rise i ((lo + hi) / 2) (by omega) (by omega)) hm
      · rw [if_neg hm]
        refine go_spec xs j pw fuel lo _ (by omega) (by omega) (by omega) h1 fun i hi' hs' => ?_
        by_cases he : i = (lo + hi) / 2
        · rw [he]; omega
        · exact Nat.le_of_lt (Nat.lt_of_le_of_lt (by omega) (rise ((lo + hi) / 2) i (by omega) hs'))
    · rw [if_neg hlt]
      have : lo = hi := by omega
      subst this
      exact ⟨h1, h2, hs⟩
theorem below_spec {p : List Nat} (pw : p.Pairwise (· < ·)) (j : Nat) : SetTable.below p.toArray j ≤ p.length ∧ (∀ x ∈ p.take (SetTable.below p.toArray j), x < j) ∧ (∀ x ∈ p.drop (SetTable.below p.toArray j), j ≤ x) := by
  obtain ⟨h1, h2, h3⟩ := go_spec p.toArray j pw p.toArray.size 0 p.toArray.size (by omega) (Nat.le_refl _) (Nat.zero_le _) (fun i hi => absurd hi (Nat.not_lt_zero _)) (fun i a b => by omega)
  have hs : p.toArray.size = p.length := List.size_toArray
  unfold SetTable.below
  generalize SetTable.below.go p.toArray j p.toArray.size 0 p.toArray.size = b at h1 h2 h3 ⊢
  refine ⟨by omega, fun x hx => ?_, fun x hx => ?_⟩
  · obtain ⟨i, hi, e⟩ := List.getElem_of_mem hx
    rw [List.length_take] at hi
    rw [List.getElem_take] at e
    have := h1 i (by omega)
    rw [Array.getD_eq_getD_getElem?, List.getElem?_toArray, List.getElem?_eq_getElem (by omega)] at this
    rw [← e]
    exact this
  · obtain ⟨i, hi, e⟩ := List.getElem_of_mem hx
    rw [List.length_drop] at hi
    rw [List.getElem_drop] at e
    have := h2 (b + i) (by omega) (by omega)
    rw [Array.getD_eq_getD_getElem?, List.getElem?_toArray, List.getElem?_eq_getElem (by omega)] at this
    rw [← e]
    exact this
theorem ins_rise {p : List Nat} (pw : p.Pairwise (· < ·)) {j : Nat} (hj : j ∉ p) : (p.take (SetTable.below p.toArray j) ++ j :: p.drop (SetTable.below p.toArray j)).Pairwise (· < ·) := by
  obtain ⟨_, h1, h2⟩ := below_spec pw j
  generalize SetTable.below p.toArray j = b at h1 h2
  have e : p.take b ++ p.drop b = p := List.take_append_drop b p
  have pw' := pw
  rw [← e] at pw'
  obtain ⟨q1, q2, q3⟩ := List.pairwise_append.mp pw'
  refine List.pairwise_append.mpr ⟨q1, List.pairwise_cons.mpr ⟨fun x hx => ?_, q2⟩, fun a ha x hx => ?_⟩
  · have := h2 x hx
    have : x ≠ j := fun z => hj (z ▸ List.mem_of_mem_drop hx)
    omega
  · rcases List.mem_cons.mp hx with rfl | hx
    · exact h1 a ha
    · exact q3 a ha x hx
end Sml

namespace Sml
open PySem
theorem go_same {t u : SetTable} (hs : ∀ j, t.slot j = u.slot j) (ha : ∀ p, t.advance p = u.advance p) (f : Nat → Int) (h : Int) : ∀ (fuel : Nat) (p : SetTable.Probe), SetTable.probe.go t f h fuel p = SetTable.probe.go u f h fuel p
  | 0, p => rfl
  | fuel + 1, p => by
    unfold SetTable.probe.go
    rw [hs, ha, go_same hs ha f h fuel, ha p, go_same hs ha f h fuel]
theorem free_same {t : SetTable} {p : List Nat} (hp : t.place = p.toArray) (hd : t.dummies = #[]) (h : Int) : t.freeSlot h = (tb t.mask p).freeSlot h := by
  obtain ⟨mask, place, dummies, finger, led, moves, plain⟩ := t
  have hp : place = p.toArray := hp
  have hd : dummies = #[] := hd
  subst hp hd
  unfold SetTable.freeSlot SetTable.probe
  rw [go_same (t := ⟨mask, p.toArray, #[], finger, led, moves, plain⟩) (u := tb mask p) (fun _ => rfl) (fun _ => rfl)]
  rfl
theorem bits_s {n : Nat} (h : n < 16) : SetTable.bits (n : Int) = n := by
  have : ((List.range 16).all fun n => decide (SetTable.bits (n : Int) = n)) = true := by decide +kernel
  exact of_decide_eq_true (List.all_eq_true.mp this n (List.mem_range.mpr h))
theorem free31 {p : List Nat} {n : Nat} (hn : n < 16) (hm : n ∉ p) : (tb 31 p).freeSlot (n : Int) = some (n, false) := by
  have hs : (tb 31 p).slot n = .empty := by
    unfold SetTable.slot
    have : (tb 31 p).place[SetTable.below (tb 31 p).place n]? ≠ some n := fun z => by
      have : p.toArray[SetTable.below p.toArray n]? = some n := z
      rw [List.getElem?_toArray] at this
      exact hm (List.mem_of_getElem? this)
    dsimp only
    rw [if_neg (by rw [beq_iff_eq]; exact this)]
    rfl
  unfold SetTable.freeSlot SetTable.probe
  have hj : ((tb 31 p).probeStart (n : Int)).j = n := by
    show SetTable.bits (n : Int) % 32 = n
    rw [bits_s hn]
    omega
  have hd : ((tb 31 p).probeStart (n : Int)).dummy = none := rfl
  show (match SetTable.probe.go (tb 31 p) _ _ (459 + 1) ((tb 31 p).probeStart (n : Int)) with
    | some (.empty j dummy) => some (dummy.getD j, dummy.isSome)
    | _ => none) = _
  unfold SetTable.probe.go
  rw [hj, hs, hd]
  rfl
theorem rise_len : ∀ (l : List Nat) (lo n : Nat), l.Pairwise (· < ·) → (∀ x ∈ l, lo ≤ x ∧ x < n) → l.length ≤ n - lo
  | [], _, _, _, _ => Nat.zero_le _
  | a :: l, lo, n, pw, h => by
    obtain ⟨p1, p2⟩ := List.pairwise_cons.mp pw
    have := rise_len l (a + 1) n p2 fun x hx => ⟨p1 x hx, (h x (List.mem_cons_of_mem _ hx)).2⟩
    have := h a List.mem_cons_self
    rw [List.length_cons]
    omega
structure Sm (es : Array (Int × Value)) (t : SetTable) (p : List Nat) : Prop where
  pl : t.place = p.toArray
  du : t.dummies = #[]
  pn : t.plain = true
  pw : p.Pairwise (· < ·)
  sz : p.length = es.size
  el : ∀ e ∈ es.toList, ∃ (n : Nat) (k : Tok), n < 16 ∧ e = ((n : Int), Value.int n k)
  nd : (es.toList.map (·.1)).Nodup
  mx : (t.mask = 7 ∧ p.length ≤ 4 ∧ ∀ x ∈ p, x < 8) ∨ (t.mask = 31 ∧ es.toList.map (·.1) = p.map fun x : Nat => (x : Int))
theorem put_eq {t : SetTable} {p : List Nat} (hp : t.place = p.toArray) (hd : t.dummies = #[]) (j : Nat) : t.put j = ({ t with place := (p.take (SetTable.below p.toArray j) ++ j :: p.drop (SetTable.below p.toArray j)).toArray, dummies := #[] }, SetTable.below p.toArray j) := by
  unfold SetTable.put
  have hh : SetTable.has t.dummies j = false := by rw [hd]; rfl
  rw [hh, hp]
  dsimp only
  have : SetTable.insertAt p.toArray (SetTable.below p.toArray j) j = (p.take (SetTable.below p.toArray j) ++ j :: p.drop (SetTable.below p.toArray j)).toArray := by
    apply Array.toList_inj.mp
    rw [SetTable.toList_insertAt]
  rw [this, hd]
  rfl
theorem fits_of {t : SetTable} {p : List Nat} (hp : t.place = p.toArray) (hd : t.dummies = #[]) {n : Nat} (h1 : p.length = n) (h2 : p.length ≤ t.mask) : t.fits n = true := by
  unfold SetTable.fits SetTable.fill
  rw [hp, hd]
  simp [h1]
  omega
theorem lay_sm {es : Array (Int × Value)} {t : SetTable} {p : List Nat} (S : Sm es t p) {n : Nat} {k : Tok} (hn : n < 16) (hm : (n : Int) ∉ es.toList.map (·.1)) :
    ∃ (es' : Array (Int × Value)) (t' : SetTable) (p' : List Nat), layNew t es (n : Int) (.int n k) = (es', t', false, false) ∧ t'.led = t.led ∧ t'.moves = t.moves ∧ t'.plain = true ∧ t'.place = p'.toArray ∧ t'.dummies = #[] ∧ p'.Pairwise (· < ·) ∧ p'.length = es'.size ∧ es'.size = es.size + 1 ∧
      ((t'.mask = 7 ∧ p'.length ≤ 5 ∧ (∀ x ∈ p', x < 8)) ∨ (t'.mask = 31 ∧ es'.toList.map (·.1) = p'.map (fun x : Nat => (x : Int)) ∧ p'.length ≤ 16)) := by
  obtain ⟨j, hj, hjp, hjm⟩ : ∃ j, t.freeSlot (n : Int) = some (j, false) ∧ j ∉ p ∧ ((t.mask = 7 ∧ p.length ≤ 4 ∧ (∀ x ∈ p, x < 8) ∧ j < 8) ∨ (t.mask = 31 ∧ es.toList.map (·.1) = p.map (fun x : Nat => (x : Int)) ∧ j = n)) := by
    rw [free_same S.pl S.du]
    rcases S.mx with ⟨h1, h2, h3⟩ | ⟨h1, h2⟩
    · rw [h1]
      obtain ⟨j, a, b, c⟩ := free7 S.pw h3 h2 hn
      exact ⟨j, a, c, .inl ⟨rfl, h2, h3, b⟩⟩
    · rw [h1]
      have hnp : n ∉ p := fun z => hm (by rw [h2]; exact List.mem_map.mpr ⟨n, z, rfl⟩)
      exact ⟨n, free31 hn hnp, hnp, .inr ⟨rfl, h2, rfl⟩⟩
  obtain ⟨b, hb⟩ : ∃ b, b = SetTable.below p.toArray j := ⟨_, rfl⟩
  obtain ⟨p', hp'⟩ : ∃ p', p' = p.take b ++ j :: p.drop b := ⟨_, rfl⟩
  have pw' : p'.Pairwise (· < ·) := by rw [hp', hb]; exact ins_rise S.pw hjp
  have hlen : p'.length = p.length + 1 := by
    rw [hp', List.length_append, List.length_cons]
    have := congrArg List.length (List.take_append_drop b p)
    rw [List.length_append] at this
    omega
  have hes : (SetTable.insertAt es b ((n : Int), Value.int n k)).size = es.size + 1 := by
    rw [← Array.length_toList, (SetTable.insertAt_perm es b _).length_eq, Array.toList_push, List.length_append, Array.length_toList]
    rfl
  have hput := put_eq S.pl S.du j
  rw [← hb, ← hp'] at hput
  obtain ⟨t', ht'⟩ : ∃ t' : SetTable, t' = { t with place := p'.toArray, dummies := #[] } := ⟨_, rfl⟩
  rw [← ht'] at hput
  have e1 : t'.place = p'.toArray := by rw [ht']
  have e2 : t'.dummies = #[] := by rw [ht']
  have e3 : t'.mask = t.mask := by rw [ht']
  have mem' : ∀ x, x ∈ p' → x ∈ p ∨ x = j := fun x hx => by
    rw [hp'] at hx
    rcases List.mem_append.mp hx with hx | hx
    · exact .inl (List.mem_of_mem_take hx)
    · rcases List.mem_cons.mp hx with hx | hx
      · exact .inr hx
      · exact .inl (List.mem_of_mem_drop hx)
  have main : ((t'.mask = 7 ∧ p'.length ≤ 5 ∧ (∀ x ∈ p', x < 8)) ∨ (t'.mask = 31 ∧ (SetTable.insertAt es b ((n : Int), Value.int n k)).toList.map (·.1) = p'.map (fun x : Nat => (x : Int)) ∧ p'.length ≤ 16)) := by
    rcases hjm with ⟨h1, h2, h3, h4⟩ | ⟨h1, h2, h3⟩
    · refine .inl ⟨by rw [e3, h1], by omega, fun x hx => ?_⟩
      rcases mem' x hx with hx | rfl
      · exact h3 x hx
      · exact h4
    · refine .inr ⟨by rw [e3, h1], ?_, ?_⟩
      · rw [SetTable.toList_insertAt, hp', List.map_append, List.map_append, List.map_cons, List.map_cons, List.map_take, List.map_drop, h2, List.map_take, List.map_drop, h3]
      · have := rise_len p' 0 16 pw' fun x hx => ⟨Nat.zero_le _, ?_⟩
        · omega
        rcases mem' x hx with hx | rfl
        · have : ((x : Nat) : Int) ∈ es.toList.map (·.1) := by rw [h2]; exact List.mem_map.mpr ⟨x, hx, rfl⟩
          obtain ⟨e, he, ee⟩ := List.mem_map.mp this
          obtain ⟨m, _, hm', rfl⟩ := S.el e he
          have ee : (m : Int) = (x : Int) := ee
          omega
        · omega
  have fit : t'.fits (es.size + 1) = true := fits_of e1 e2 (by rw [hlen, S.sz]) (by
    rcases main with ⟨h1, h2, _⟩ | ⟨h1, _, h2⟩
    · rw [h1]; omega
    · rw [h1]; omega)
  refine ⟨SetTable.insertAt es b ((n : Int), .int n k), t', p', ?_, by rw [ht'], by rw [ht'], by rw [ht']; exact S.pn, e1, e2, pw', by rw [hes, hlen, S.sz], hes, main⟩
  unfold layNew
  rw [hj]
  dsimp only
  rw [hput]
  dsimp only
  rw [hes, fit]
  unfold SetTable.orStandIn
  rw [if_pos fit]
  rfl
end Sml

namespace Sml
open PySem
def idx (hs : List Int) (j : Nat) : Option Nat := hs.findIdx? fun h => decide (h = (j : Int))
theorem idx_snoc (hs : List Int) (n j : Nat) : idx (hs ++ [(n : Int)]) j = (match idx hs j with
    | some k => some k
    | none => if j = n then some hs.length else none) := by
  unfold idx
  rw [List.findIdx?_append]
  cases hs.findIdx? fun h => decide (h = (j : Int)) with
  | some k => rfl
  | none =>
    rw [List.findIdx?_cons]
    by_cases h : j = n
    · subst h
      simp
    · have h' : ¬ ((n : Int) = (j : Int)) := fun z => h (by omega)
      simp [h, h']
theorem idx_none {hs : List Int} {n : Nat} (h : (n : Int) ∉ hs) : idx hs n = none := by
  unfold idx
  rw [List.findIdx?_eq_none_iff]
  intro x hx
  rw [decide_eq_false]
  exact fun z => h (z ▸ hx)
theorem idx_some {hs : List Int} {j k : Nat} (h : idx hs j = some k) : hs[k]? = some (j : Int) := by
  unfold idx at h
  obtain ⟨hk, h1, _⟩ := List.findIdx?_eq_some_iff_getElem.mp h
  rw [List.getElem?_eq_getElem hk, of_decide_eq_true h1]
theorem idx_at {hs : List Int} (nd : hs.Nodup) {j k : Nat} (h : hs[k]? = some (j : Int)) : idx hs j = some k := by
  obtain ⟨hk, e⟩ := List.getElem?_eq_some_iff.mp h
  unfold idx
  refine List.findIdx?_eq_some_iff_getElem.mpr ⟨hk, decide_eq_true e, fun i hi => ?_⟩
  have := List.pairwise_iff_getElem.mp nd i k (by omega) hk hi
  rw [e] at this
  simpa using this
def stepL (acc : Option (Array (Option Nat) × Nat)) (h : Int) : Option (Array (Option Nat) × Nat) := do
  let (owner, k) ← acc
  let j ← SetTable.layClean.free 31 owner (SetTable.turns 31) (SetTable.bits h % (31 + 1)) (SetTable.bits h)
  pure (owner.setIfInBounds j (some k), k + 1)
theorem lay_list : ∀ (hs pre : List Int) (owner : Array (Option Nat)), owner.size = 32 → (∀ j, j < 32 → owner[j]? = some (idx pre j)) → (∀ h ∈ hs, ∃ n : Nat, n < 16 ∧ h = n) → (pre ++ hs).Nodup →
    ∃ owner', hs.foldl stepL (some (owner, pre.length)) = some (owner', (pre ++ hs).length) ∧ owner'.size = 32 ∧ ∀ j, j < 32 → owner'[j]? = some (idx (pre ++ hs) j)
  | [], pre, owner, h1, h2, _, _ => ⟨owner, by rw [List.append_nil]; rfl, h1, by rw [List.append_nil]; exact h2⟩
  | h :: hs, pre, owner, h1, h2, h3, nd => by
    obtain ⟨n, hn, rfl⟩ := h3 h List.mem_cons_self
    have hnp : (n : Int) ∉ pre := fun z => by
      have := (List.nodup_append.mp nd).2.2 _ z _ List.mem_cons_self
      exact this rfl
    have hfree : SetTable.layClean.free 31 owner (SetTable.turns 31) (SetTable.bits (n : Int) % (31 + 1)) (SetTable.bits (n : Int)) = some n := by
      rw [bits_s hn, show n % (31 + 1) = n by omega]
      show SetTable.layClean.free 31 owner (45 + 1) n n = _
      unfold SetTable.layClean.free
      have hr : SetTable.runEnd 31 n + 1 - n = 9 + 1 := by
        unfold SetTable.runEnd
        rw [if_pos (by omega)]
        omega
      rw [hr, List.range_succ_eq_map, List.find?_cons]
      have : (owner.getD (n + 0) (some 0)).isNone = true := by
        rw [Array.getD_eq_getD_getElem?, h2 (n + 0) (by omega), show n + 0 = n from rfl, idx_none hnp]
        rfl
      rw [this]
      rfl
    have hstep : stepL (some (owner, pre.length)) (n : Int) = some (owner.setIfInBounds n (some pre.length), pre.length + 1) := by
      unfold stepL
      show (SetTable.layClean.free 31 owner (SetTable.turns 31) (SetTable.bits (n : Int) % (31 + 1)) (SetTable.bits (n : Int))).bind _ = _
      rw [hfree]
      rfl
    have e : pre ++ (n : Int) :: hs = (pre ++ [(n : Int)]) ++ hs := by simp
    obtain ⟨owner', g1, g2, g3⟩ := lay_list hs (pre ++ [(n : Int)]) (owner.setIfInBounds n (some pre.length)) (by rw [Array.size_setIfInBounds]; exact h1) (fun j hj => by
      rw [idx_snoc]
      by_cases hjn : j = n
      · subst hjn
        rw [idx_none hnp, if_pos rfl, Array.getElem?_setIfInBounds_self_of_lt (by omega)]
      · rw [Array.getElem?_setIfInBounds_ne (Ne.symm hjn), h2 j hj]
        cases idx pre j with
        | some k => rfl
        | none => rw [if_neg hjn]) (fun x hx => h3 x (List.mem_cons_of_mem _ hx)) (by rw [← e]; exact nd)
    refine ⟨owner', ?_, g2, by rw [e]; exact g3⟩
    rw [List.foldl_cons, hstep, e]
    rw [List.length_append] at g1
    exact g1
theorem clean_eq {hs : Array Int} (h3 : ∀ h ∈ hs.toList, ∃ n : Nat, n < 16 ∧ h = n) (nd : hs.toList.Nodup) : ∃ owner, SetTable.layClean 31 hs = some owner ∧ ∀ j, j < 32 → owner[j]? = some (idx hs.toList j) := by
  obtain ⟨owner, g1, g2, g3⟩ := lay_list hs.toList [] (Array.replicate 32 none) (by simp) (fun j hj => by
    rw [Array.getElem?_replicate, if_pos hj]
    rfl) h3 (by simpa using nd)
  refine ⟨owner, ?_, by simpa using g3⟩
  unfold SetTable.layClean
  rw [← Array.foldl_toList]
  show (hs.toList.foldl stepL (some (Array.replicate 32 none, 0))).map (·.1) = _
  rw [show (some (Array.replicate 32 (none : Option Nat), 0)) = some (Array.replicate 32 none, ([] : List Int).length) from rfl, g1]
  rfl
theorem fm_congr {α β : Type} {f g : α → Option β} : ∀ {l : List α}, (∀ x ∈ l, f x = g x) → l.filterMap f = l.filterMap g
  | [], _ => rfl
  | a :: l, h => by
    rw [List.filterMap_cons, List.filterMap_cons, h a List.mem_cons_self, fm_congr fun x hx => h x (List.mem_cons_of_mem _ hx)]
def liveL (hs : List Int) : List (Nat × Nat) := (List.range 32).filterMap fun j => (idx hs j).map (j, ·)
theorem live_mem {hs : List Int} {x : Nat × Nat} : x ∈ liveL hs ↔ x.1 < 32 ∧ idx hs x.1 = some x.2 := by
  unfold liveL
  rw [List.mem_filterMap]
  constructor
  · rintro ⟨j, hj, e⟩
    obtain ⟨k, hk, rfl⟩ := Option.map_eq_some_iff.mp e
    exact ⟨List.mem_range.mp hj, hk⟩
  · rintro ⟨h1, h2⟩
    exact ⟨x.1, List.mem_range.mpr h1, by rw [h2]; rfl⟩
theorem live_rise (hs : List Int) : (liveL hs).Pairwise (fun a b => a.1 < b.1) := by
  unfold liveL
  refine List.Pairwise.filterMap _ (fun a a' h b hb b' hb' => ?_) List.pairwise_lt_range
  obtain ⟨_, _, rfl⟩ := Option.map_eq_some_iff.mp hb
  obtain ⟨_, _, rfl⟩ := Option.map_eq_some_iff.mp hb'
  exact h
theorem relay_sm {es : Array (Int × Value)} {t : SetTable} (el : ∀ e ∈ es.toList, ∃ (n : Nat) (k : Tok), n < 16 ∧ e = ((n : Int), Value.int n k)) (nd : (es.toList.map (·.1)).Nodup) (pn : t.plain = true) :
    ∃ (es' : Array (Int × Value)) (t' : SetTable) (p' : List Nat), relayAll t es 20 = (es', t', false) ∧ t'.led = t.led ∧ Sm es' t' p' := by
  obtain ⟨hs, hhs⟩ : ∃ hs, hs = es.toList.map (·.1) := ⟨_, rfl⟩
  have hmap : (es.map (·.1)).toList = hs := by rw [Array.toList_map, hhs]
  have small : ∀ h ∈ hs, ∃ n : Nat, n < 16 ∧ h = n := fun h hh => by
    rw [hhs] at hh
    obtain ⟨e, he, rfl⟩ := List.mem_map.mp hh
    obtain ⟨n, _, hn, rfl⟩ := el e he
    exact ⟨n, hn, rfl⟩
  rw [← hhs] at nd
  obtain ⟨owner, c1, c2⟩ := clean_eq (hs := es.map (·.1)) (by rw [hmap]; exact small) (by rw [hmap]; exact nd)
  rw [hmap] at c2
  have hlive : ((List.range (31 + 1)).filterMap fun j => (owner.getD j none).map (j, ·)) = liveL hs := by
    unfold liveL
    refine fm_congr fun j hj => ?_
    rw [Array.getD_eq_getD_getElem?, c2 j (List.mem_range.mp hj)]
    rfl
  obtain ⟨p', hp'⟩ : ∃ p', p' = (liveL hs).map (·.1) := ⟨_, rfl⟩
  obtain ⟨order, hord⟩ : ∃ o, o = (liveL hs).map (·.2) := ⟨_, rfl⟩
  obtain ⟨t', ht'⟩ : ∃ t' : SetTable, t' = ⟨31, p'.toArray, #[], t.finger, t.led, t.movedTo 31, t.plain⟩ := ⟨_, rfl⟩
  have hrel : t.relaid (es.map (·.1)) 20 = some (t', order.toArray) := by
    unfold SetTable.relaid
    rw [show SetTable.sizeAbove 20 - 1 = 31 by decide]
    unfold SetTable.laid
    rw [c1]
    show some ((⟨31, (((List.range (31 + 1)).filterMap fun j => (owner.getD j none).map (j, ·)).map (·.1)).toArray, #[], t.finger, t.led, t.movedTo 31, t.plain⟩ : SetTable), (((List.range (31 + 1)).filterMap fun j => (owner.getD j none).map (j, ·)).map (·.2)).toArray) = _
    rw [hlive, ht', hp', hord]
  have hlen : hs.length = es.size := by rw [hhs, List.length_map, Array.length_toList]
  have nd2 : order.Nodup := by
    rw [hord]
    refine List.pairwise_map.mpr (List.Pairwise.imp_of_mem (fun {a b} ha hb h z => ?_) (live_rise hs))
    have h1 := idx_some (live_mem.mp ha).2
    have h2 := idx_some (live_mem.mp hb).2
    rw [z, h2] at h1
    have := Option.some.inj h1
    omega
  have perm : order.Perm (List.range es.size) := by
    refine (List.perm_ext_iff_of_nodup nd2 List.nodup_range).mpr fun k => ?_
    rw [hord, List.mem_map, List.mem_range]
    constructor
    · rintro ⟨x, hx, rfl⟩
      have := (List.getElem?_eq_some_iff.mp (idx_some (live_mem.mp hx).2)).1
      omega
    · intro hk
      have hk : k < hs.length := by omega
      obtain ⟨n, hn, e⟩ := small hs[k] (List.getElem_mem hk)
      exact ⟨(n, k), live_mem.mpr ⟨by show n < 32; omega, idx_at nd (by rw [List.getElem?_eq_getElem hk, e])⟩, rfl⟩
  obtain ⟨es', hes'⟩ : ∃ es' : Array (Int × Value), es' = order.toArray.filterMap (es[·]?) := ⟨_, rfl⟩
  have hperm : es'.toList.Perm es.toList := by
    rw [hes', Array.toList_filterMap]
    exact (perm.filterMap _).trans (by rw [filterMap_getElem?_range])
  have hsz : es'.size = es.size := by rw [← Array.length_toList, hperm.length_eq, Array.length_toList]
  have hp5 : p'.length = es.size := by
    have := perm.length_eq
    rw [hord, List.length_map, List.length_range] at this
    rw [hp', List.length_map, this]
  have pw : p'.Pairwise (· < ·) := by
    rw [hp']
    exact List.pairwise_map.mpr (live_rise hs)
  have ple : p'.length ≤ 16 := by
    have := rise_len p' 0 16 pw fun x hx => ⟨Nat.zero_le _, by
      rw [hp'] at hx
      obtain ⟨y, hy, rfl⟩ := List.mem_map.mp hx
      have h1 := List.mem_of_getElem? (idx_some (live_mem.mp hy).2)
      obtain ⟨n, hn, e⟩ := small _ h1
      omega⟩
    omega
  have fit : t'.fits es'.size = true := fits_of (p := p') (by rw [ht']) (by rw [ht']) (by rw [hsz, hp5]) (by rw [ht']; show p'.length ≤ 31; omega)
  have hkeys : es'.toList.map (·.1) = p'.map fun x : Nat => (x : Int) := by
    rw [hes', Array.toList_filterMap, hord, hp']
    have key : ∀ l : List (Nat × Nat), (∀ x ∈ l, x ∈ liveL hs) → ((l.map (·.2)).filterMap (es[·]?)).map (·.1) = (l.map (·.1)).map fun x : Nat => (x : Int) := by
      intro l
      induction l with
      | nil => intro _; rfl
      | cons x l ih =>
        intro h
        have h1 := idx_some (live_mem.mp (h x List.mem_cons_self)).2
        rw [hhs, List.getElem?_map] at h1
        obtain ⟨e, he, h2⟩ := Option.map_eq_some_iff.mp h1
        rw [Array.getElem?_toList] at he
        rw [List.map_cons, List.map_cons, List.map_cons, List.filterMap_cons_some (b := e) he, List.map_cons, ih fun y hy => h y (List.mem_cons_of_mem _ hy), h2]
    exact key (liveL hs) fun x hx => hx
  refine ⟨es', t', p', ?_, by rw [ht'], ⟨by rw [ht'], by rw [ht'], by rw [ht']; exact pn, pw, by rw [hp5, hsz], fun e he => el e (hperm.mem_iff.mp he), ?_, .inr ⟨by rw [ht'], hkeys⟩⟩⟩
  · unfold relayAll
    rw [hrel]
    dsimp only
    rw [← hes', fit]
    have : coversAll order.toArray es.size = true := by
      unfold coversAll
      exact List.isPerm_iff.mpr perm
    rw [this]
    rfl
  · rw [hkeys]
    exact List.pairwise_map.mpr (pw.imp fun h z => by omega)
end Sml

namespace Sml
open PySem PySem.Spec PyProof.Rows
section
variable {prog : Program} {w : World} {A : Around} {E : Value → Shared → Prop} {s : Shared}
theorem sublen {α : Type} [DecidableEq α] : ∀ (l m : List α), l.Nodup → (∀ x ∈ l, x ∈ m) → l.length ≤ m.length
  | [], _, _, _ => Nat.zero_le _
  | a :: l, m, hn, h => by
    obtain ⟨h1, h2⟩ := List.nodup_cons.mp hn
    have ha := h a List.mem_cons_self
    have := sublen l (m.erase a) h2 fun x hx => (List.mem_erase_of_ne (fun z : x = a => h1 (by rw [← z]; exact hx))).mpr (h x (List.mem_cons_of_mem _ hx))
    rw [List.length_erase_of_mem ha] at this
    have : m.length ≠ 0 := fun z => by rw [List.eq_nil_of_length_eq_zero z] at ha; cases ha
    rw [List.length_cons]
    omega
def SetS (h : Heap) (a : Addr) (es : Array (Int × Value)) (L : Bool) : Prop := ∃ o ep t p, h.get? a = some o ∧ o.ExactSet ∧ o.data = .set es ep t ∧ Sm es t p ∧ t.led = L
theorem Sm.small {es : Array (Int × Value)} {t : SetTable} {p : List Nat} (S : Sm es t p) : es.size ≤ 16 := by
  have key : ∀ hs : List Int, hs.Nodup → (∀ h ∈ hs, ∃ n : Nat, n < 16 ∧ h = n) → hs.length ≤ 16 := fun hs nd h => by
    obtain ⟨owner, _, c2⟩ := clean_eq (hs := hs.toArray) (by simpa using h) (by simpa using nd)
    have h1 : ∀ x ∈ (liveL hs).map (·.1), x < 16 := fun x hx => by
      obtain ⟨y, hy, rfl⟩ := List.mem_map.mp hx
      obtain ⟨n, hn, e⟩ := h _ (List.mem_of_getElem? (idx_some (live_mem.mp hy).2))
      omega
    have h2 := rise_len ((liveL hs).map (·.1)) 0 16 (List.pairwise_map.mpr (live_rise hs)) fun x hx => ⟨Nat.zero_le _, h1 x hx⟩
    have h4 := sublen (List.range hs.length) ((liveL hs).map (·.2)) List.nodup_range fun k hk => by
      have hk := List.mem_range.mp hk
      obtain ⟨n, hn, e⟩ := h hs[k] (List.getElem_mem hk)
      exact List.mem_map.mpr ⟨(n, k), live_mem.mpr ⟨by show n < 32; omega, idx_at nd (by rw [List.getElem?_eq_getElem hk, e])⟩, rfl⟩
    rw [List.length_range, List.length_map] at h4
    rw [List.length_map] at h2
    omega
  have := key (es.toList.map (·.1)) S.nd fun h hh => by
    obtain ⟨e, he, rfl⟩ := List.mem_map.mp hh
    obtain ⟨n, _, hn, rfl⟩ := S.el e he
    exact ⟨n, hn, rfl⟩
  rw [List.length_map, Array.length_toList] at this
  exact this
theorem Sm.fit {es : Array (Int × Value)} {t : SetTable} {p : List Nat} (S : Sm es t p) : t.fits es.size = true := fits_of S.pl S.du S.sz (by
  have := S.small
  have := S.sz
  rcases S.mx with ⟨h1, h2, _⟩ | ⟨h1, _⟩
  · rw [h1]; omega
  · rw [h1]; omega)
theorem hash_s {n : Nat} (h : n < 16) : (intKind prog w).hash (n : Int) = (n : Int) := by
  have : ((List.range 16).all fun n => decide (hashInt (n : Int) = (n : Int))) = true := by decide +kernel
  exact of_decide_eq_true (List.all_eq_true.mp this n (List.mem_range.mpr h))
theorem Sm.elems {es : Array (Int × Value)} {t : SetTable} {p : List Nat} (S : Sm es t p) : ElemsOf (intKind prog w) es.toList := fun e he => by
  obtain ⟨n, k, hn, rfl⟩ := S.el e he
  exact ⟨⟨(n : Int), intKind_is _ _ _ _, (hash_s hn).symm⟩, rfl⟩
theorem add_small {a : Addr} {es : Array (Int × Value)} {L : Bool} {n : Nat} {k : Tok} {Q : Bool → Shared → Prop} (S : SetS s.heap a es L) (hn : n < 16) (hQ1 : (n : Int) ∈ es.toList.map (·.1) → Q false s)
    (hQ2 : (n : Int) ∉ es.toList.map (·.1) → ∀ h' es', Heap.SameBut a s.heap h' → SetS h' a es' L → (es'.toList.map (·.1)).Perm (es.toList.map (·.1) ++ [(n : Int)]) → Q true { s with heap := h' }) :
    wpAny (model prog w) A (setAddHashed a (.int n k) ((intKind prog w).hash (n : Int))) Q E s := by
  obtain ⟨o, ep, t, p, ho, hex, hd, S, hL⟩ := S
  have hel := S.elems (prog := prog) (w := w)
  have hf := S.fit
  have hb : es.size < scanBound := by have := S.small; unfold scanBound; omega
  have hkey : (intKind prog w).is (n : Int) (.int n k) = true := intKind_is _ _ _ _
  unfold setAddHashed setAddHashedIn
  refine wpAny_holding (wpAny_bind (wpAny_setState_of ho hd hf ?_))
  dsimp only
  rw [byScan_of (knd := intKind prog w) rfl hb hel]
  simp only [↓reduceIte]
  unfold setAddByScan
  refine wpAny_bind (wpAny_bind (wpAny_rule (wpAny_bind (wpAny_setScan_of hkey ho hd hf hel ?_))))
  cases hr : List.findIdx? (fun e => (intKind prog w).is (n : Int) e.2) es.toList with
  | some j =>
    dsimp only
    obtain ⟨hj, hpj, _⟩ := List.findIdx?_eq_some_iff_getElem.mp hr
    refine wpAny_pure (wpAny_pure (hQ1 ?_))
    obtain ⟨m, k', hm, e⟩ := S.el es.toList[j] (List.getElem_mem hj)
    rw [e] at hpj
    have : (n : Int) = (m : Int) := (intKind prog w).inj (.int m k') _ _ hpj (intKind_is _ _ _ _)
    exact List.mem_map.mpr ⟨es.toList[j], List.getElem_mem hj, by rw [e, this]⟩
  | none =>
    dsimp only
    have hm : (n : Int) ∉ es.toList.map (·.1) := fun z => by
      obtain ⟨e, he, ee⟩ := List.mem_map.mp z
      have := List.findIdx?_eq_none_iff.mp hr e he
      obtain ⟨m, k', hm, rfl⟩ := S.el e he
      have ee : (m : Int) = (n : Int) := ee
      rw [ee, intKind_is] at this
      cases this
    rw [hash_s hn]
    obtain ⟨es1, t1, p1, hlay, l1, _, pn1, pl1, du1, pw1, sz1, es1s, mx1⟩ := lay_sm S (k := k) hn hm
    have perm1 := layNew_perm t es (n : Int) (.int n k)
    rw [hlay] at perm1 ⊢
    dsimp only at perm1 ⊢
    rw [Array.toList_push] at perm1
    have el1 : ∀ e ∈ es1.toList, ∃ (n : Nat) (k : Tok), n < 16 ∧ e = ((n : Int), Value.int n k) := fun e he => by
      rcases List.mem_append.mp (perm1.mem_iff.mp he) with he | he
      · exact S.el e he
      · rw [List.mem_singleton.mp he]
        exact ⟨n, k, hn, rfl⟩
    have keys1 : (es1.toList.map (·.1)).Perm (es.toList.map (·.1) ++ [(n : Int)]) := by
      have := perm1.map (·.1)
      rw [List.map_append] at this
      exact this
    have nd1 : (es1.toList.map (·.1)).Nodup := keys1.nodup_iff.mpr (List.nodup_append.mpr ⟨S.nd, List.nodup_cons.mpr ⟨fun z => (by cases z), .nil⟩, fun x hx y hy e => hm (by rw [List.mem_singleton.mp hy] at e; exact e ▸ hx)⟩)
    refine wpAny_bind (wpAny_pure ?_)
    rw [pn1]
    simp only [↓reduceIte]
    refine wpAny_bind ?_
    rw [hashByValue_scannable 8 (x := .int n k) rfl]
    refine wpAny_pure ?_
    simp only [plainKind, ↓reduceIte]
    have z16 : es.size ≤ 16 := S.small
    refine wpAny_bind (wpAny_storeSet_of ho hd ?_ (by rw [es1s, sizeLine_eq]; omega))
    have g1 : (s.heap.update a (Obj.putSet es1 t1)).get? a = some { o with data := .set es1 (ep + 1) t1 } := by
      have := Heap.get?_update_self (Obj.putSet es1 t1) ho (by rw [putSet_of es1 t1 hd]; rfl)
      rw [putSet_of es1 t1 hd] at this
      exact this
    have hsb1 := Heap.SameBut.update s.heap a (Obj.putSet es1 t1)
    by_cases hfull : t1.tooFull = true
    · have h5 : t1.mask = 7 ∧ es1.size = 5 := by
        unfold SetTable.tooFull SetTable.fill at hfull
        rw [pl1, du1] at hfull
        simp only [List.size_toArray, List.length_nil, Array.size_empty, Nat.add_zero, decide_eq_true_eq] at hfull
        rcases mx1 with ⟨h1, h2, _⟩ | ⟨h1, _, h2⟩
        · rw [h1] at hfull
          exact ⟨h1, by omega⟩
        · rw [h1] at hfull
          omega
      obtain ⟨es2, t2, p2, hrel, l2, S2⟩ := relay_sm (t := t1) el1 nd1 pn1
      have perm2 := relayAll_perm t1 es1 20
      rw [hrel] at perm2
      rw [if_pos (by rw [hfull]; rfl), h5.2, show SetTable.grown 5 = 20 by decide, hrel]
      dsimp only
      refine wpAny_bind (wpAny_pure ?_)
      have z2 := S2.small
      refine wpAny_bind (wpAny_storeSet_of g1 rfl ?_ (by rw [sizeLine_eq]; omega))
      have g2 : ((s.heap.update a (Obj.putSet es1 t1)).update a (Obj.putSet es2 t2)).get? a = some { o with data := .set es2 (ep + 1 + 1) t2 } := by
        have := Heap.get?_update_self (Obj.putSet es2 t2) g1 (by rw [putSet_of es2 t2 rfl]; rfl)
        rw [putSet_of es2 t2 rfl] at this
        exact this
      exact wpAny_pure (wpAny_pure (hQ2 hm _ es2 (hsb1.trans (Heap.SameBut.update _ a _)) ⟨_, _, t2, p2, g2, hex, rfl, S2, by rw [l2, l1, hL]⟩ ((perm2.map (·.1)).trans keys1)))
    · rw [if_neg (by simpa using hfull)]
      refine wpAny_pure (wpAny_pure (hQ2 hm _ es1 hsb1 ⟨_, _, t1, p1, g1, hex, rfl, ⟨pl1, du1, pn1, pw1, sz1, el1, nd1, ?_⟩, by rw [l1, hL]⟩ keys1))
      unfold SetTable.tooFull SetTable.fill at hfull
      rw [pl1, du1] at hfull
      simp only [List.size_toArray, List.length_nil, Array.size_empty, Nat.add_zero, decide_eq_true_eq] at hfull
      rcases mx1 with ⟨h1, h2, h3⟩ | ⟨h1, h2, _⟩
      · rw [h1] at hfull
        exact .inl ⟨h1, by omega, h3⟩
      · exact .inr ⟨h1, h2⟩
end
end Sml

namespace Sml
open PySem PySem.Spec PyProof.Rows
section
variable {prog : Program} {w : World} {A : Around} {E : Value → Shared → Prop} {s : Shared}
def Got (h : Heap) (a : Addr) (val : Nat → Nat) (i : Nat) (L : Bool) : Prop := ∃ es, SetS h a es L ∧ ∀ x : Int, x ∈ es.toList.map (·.1) ↔ ∃ j, j < i ∧ x = val j
theorem Got.keep {h h' : Heap} {a : Addr} {val : Nat → Nat} {i : Nat} {L : Bool} (g : Got h a val i L) (k : ∀ o, h.get? a = some o → h'.get? a = some o) : Got h' a val i L := by
  obtain ⟨es, ⟨o, ep, t, p, ho, r⟩, m⟩ := g
  exact ⟨es, ⟨o, ep, t, p, k o ho, r⟩, m⟩
theorem add_got {a : Addr} {val : Nat → Nat} {i : Nat} {L : Bool} {k : Tok} {Q : Bool → Shared → Prop} (g : Got s.heap a val i L) (hv : val i < 16) (h : ∀ b h', Heap.SameBut a s.heap h' → Got h' a val (i + 1) L → Q b { s with heap := h' }) :
    wpAny (model prog w) A (setAddHashed a (.int (val i) k) ((intKind prog w).hash (val i : Int))) Q E s := by
  obtain ⟨es, S, m⟩ := g
  refine add_small S hv (fun hm => ?_) fun hm h' es' same S' perm => h true h' same ⟨es', S', fun x => ?_⟩
  · have := h false s.heap (Heap.SameBut.refl a s.heap) ⟨es, S, fun x => ?_⟩
    · exact this
    rw [m]
    constructor
    · rintro ⟨j, hj, e⟩
      exact ⟨j, by omega, e⟩
    · rintro ⟨j, hj, e⟩
      by_cases hji : j = i
      · subst hji
        rw [e]
        exact (m _).mp hm
      · exact ⟨j, by omega, e⟩
  · rw [perm.mem_iff, List.mem_append, List.mem_singleton, m]
    constructor
    · rintro (⟨j, hj, e⟩ | e)
      · exact ⟨j, by omega, e⟩
      · exact ⟨i, by omega, e⟩
    · rintro ⟨j, hj, e⟩
      by_cases hji : j = i
      · subst hji
        exact .inr e
      · exact .inl ⟨j, by omega, e⟩
theorem put_all {R : Result → Shared → Prop} {I : Addr} {fp wr : List Addr} {G : Array GenState → Array GenState → Prop} {n : Nat} {P : Nat → Value → Prop} {St : Nat → Shared → Prop} (W : WalksS prog w A.in1 I fp wr G n P St) {a : Addr} (ha : a ∉ fp)
    {val : Nat → Nat} (hv : ∀ i v, P i v → ∃ t, v = Value.int (val i) t) (hs : ∀ i, i < n → val i < 16) {L : Bool} :
    ∀ (k i : Nat) (s : Shared), i + k = n → St i s → Got s.heap a val i L → (∀ s', Moved (a :: wr) G s s' → Got s'.heap a val n L → R (.ok (.ret .none)) s') → codeAny (model prog w) A (.builtin "set.update.loop" ⟨[.ref a, .ref I], []⟩) R s := by
  have haw : a ∉ wr := fun z => ha (W.sub _ z)
  have more : ∀ b ∈ wr, b ∈ a :: wr := fun b hb => List.mem_cons_of_mem _ hb
  intro k
  induction k with
  | zero =>
    intro i s hk st g hR
    have hk : i = n := hk
    subst hk
    refine codeAny_builtin F.entry_set_update_loop ?_
    rw [Around.under_plainId F.plain_set_update_loop _]
    exact wpAny_bind (W.done s _ _ st fun s' mv => wpAny_pure (hR s' (mv.mono more) (g.keep fun o e => mv.heap a _ haw e)))
  | succ k ih =>
    intro i s hk st g hR
    have lt : i < n := by omega
    refine codeAny_builtin F.entry_set_update_loop ?_
    rw [Around.under_plainId F.plain_set_update_loop _]
    refine wpAny_bind (W.item i s _ _ lt st fun v s1 hp st1 mv => ?_)
    obtain ⟨t, rfl⟩ := hv i v hp
    have g1 : Got s1.heap a val i L := g.keep fun o e => mv.heap a _ haw e
    refine wpAny_bind (m := holding [Value.int (val i) t] (setAdd a (.int (val i) t))) (wpAny_holding ?_)
    unfold setAdd
    refine wpAny_holding (wpAny_bind ((intKind prog w).pyHash (k := (val i : Int)) (intKind_is _ _ _ _) ?_))
    refine add_got (s := { s1 with toks := s1.toks + 1 }) g1 (hs i lt) fun b h2 same g2 => ?_
    refine wpAny_pure ⟨plainId_quiet F.plain_set_update_loop _, ih (i + 1) _ (by omega) (W.frame _ s1 _ _ st1 (Nat.le_succ _) fun b hb o e => ?_) g2 fun s3 mv3 g3 => hR s3 (Moved.trans W.gtrans ((mv.mono more).then_heap (Nat.le_succ _) fun b o hb e => ?_) mv3) g3⟩
    · rw [same.2 b fun z => ha (z ▸ hb)]
      exact e
    · rw [same.2 b fun z => hb (z ▸ List.mem_cons_self)]
      exact e
end
end Sml

namespace Sml
open PySem PySem.Spec PyProof.Rows
section
variable {prog : Program} {w : World} {A : Around} {E : Value → Shared → Prop} {s : Shared}
abbrev byT (w : World) : Bool := w.params.followText "set-order"
abbrev set0 (w : World) : Obj := { cls := .type "set", dict := none, data := .set #[] 0 (.fresh 0 0 (!byT w)) }
theorem sm0 (b : Bool) : Sm #[] (.fresh 0 0 b) [] := ⟨rfl, rfl, rfl, .nil, rfl, fun e he => by simp at he, by simp, .inl ⟨rfl, by decide, fun x hx => (by cases hx)⟩⟩
theorem got0 {h : Heap} {a : Addr} (e : h.get? a = some (set0 w)) (val : Nat → Nat) : Got h a val 0 (!byT w) :=
  ⟨#[], ⟨_, _, _, [], e, ⟨rfl, rfl, rfl⟩, rfl, sm0 _, rfl⟩, fun x => ⟨fun z => by simp at z, fun ⟨_, h, _⟩ => absurd h (Nat.not_lt_zero _)⟩⟩
theorem code_new (x : Value) {Q : Value → Shared → Prop} (h : Q (.ref s.heap.objs.size) { s with heap := s.heap.push (set0 w) }) : codeAny (model prog w) A (.call (.builtin "set.__new__") ⟨[.type "set", x], []⟩) (wants Q E) s := by
  refine codeAny_of_tree (show wpAny _ A.in1 (checkBuiltinCall "set.__new__" ⟨[.type "set", x], []⟩ >>= fun _ => again (.builtin "set.__new__" ⟨[.type "set", x], []⟩)) _ _ s from ?_)
  refine wpAny_bind (wpAny_of_eq (F.newCall_set_1 x) (wpAny_pure ⟨plainId_quiet F.plain_set_new _, codeAny_builtin F.entry_set_new ?_⟩))
  rw [Around.under_plainId F.plain_set_new _]
  have hsub := sub_set_self
  unfold Builtin.«set.__new__» Builtin.Frozenset.newClass
  obtain ⟨h0, g0, d0, k0, o0⟩ := s
  dsimp only
  wp_walk
  refine wpAny_askSetting (wpAny_pure ?_)
  dsimp only
  simp only [newObj]
  exact wpAny_bind (wpAny_alloc (wpAny_pure (wpAny_pure h)))
set_option maxHeartbeats 3200000 in
theorem set_call {l : Addr} {items : Array Value} {val : Nat → Nat} {Q : Value → Shared → Prop} (hh : A.handled = none) (hl : s.heap.IsList l items) (hv : ∀ i v, items[i]? = some v → ∃ t, v = Value.int (val i) t) (hs : ∀ i, i < items.size → val i < 16)
    (h : ∀ (h' : Heap) (tk : Nat), Got h' s.heap.objs.size val items.size (!byT w) → (∀ b o, b < s.heap.objs.size → s.heap.get? b = some o → h'.get? b = some o) → Q (.ref s.heap.objs.size) { s with heap := h', toks := tk }) :
    wpAny (model prog w) A (call (.type "set") [.ref l]) Q E s := by
  obtain ⟨N, hN⟩ : ∃ N, N = s.heap.push (set0 w) := ⟨_, rfl⟩
  have nsz : N.objs.size = s.heap.objs.size + 1 := by rw [hN, Heap.size_push]
  have atN : N.get? s.heap.objs.size = some (set0 w) := by rw [hN]; exact Heap.get?_push_size _ rfl
  have keepN : ∀ b o, s.heap.get? b = some o → N.get? b = some o := fun b o e => by rw [hN]; exact Heap.get?_push_of_some _ e
  have lsz : l < s.heap.objs.size := by obtain ⟨_, z, _⟩ := hl; exact Heap.lt_size z
  obtain ⟨c, tl, hmro⟩ := F.called_set.mro
  have hmade := F.called_set.made
  have hsub := F.called_set.sub
  have n1 := F.called_set.notType
  have n2 := F.called_set.canCreate
  have n3 := F.typeCall_set_1 (.ref l)
  refine wpAny_call (codeAny_of_tree (show wpAny _ _ (callAny (.type "set") _) _ _ _ from wpAny_pure ⟨Code.quiet_builtin _ (by decide +kernel), codeAny_builtin F.entry_type_call ?_⟩))
  rw [Around.under_plain (weight_type_call_type "set" [.ref l] []) rfl]
  repeat (any_goals (first | assumption | wp_step))
  refine codeAny_mono (code_new (.ref l) (E := E) (Q := fun v s1 => v = .ref s.heap.objs.size ∧ s1 = { s with heap := N }) ⟨rfl, by rw [hN]⟩) fun r s1 hr => ?_
  cases r with
  | error e => exact hr
  | ok fl =>
    cases fl with
    | ret v =>
      obtain ⟨rfl, rfl⟩ := hr
      have ty : Shared.TypeIs { s with heap := N } (.ref s.heap.objs.size) "set" := ⟨_, atN, rfl⟩
      have i1 := F.called_set.init.lookup
      have i2 := F.called_set.init.bind (.ref s.heap.objs.size)
      repeat (any_goals (first | assumption | wp_step))
      refine codeAny_mono (codeAny_call_builtin (R := wants (fun r s2 => r = .none ∧ ∃ h' tk, s2 = { s with heap := h', toks := tk } ∧ Got h' s.heap.objs.size val items.size (!byT w) ∧ ∀ b o, b < s.heap.objs.size → s.heap.get? b = some o → h'.get? b = some o) E) F.called_set.init.plain F.entry_set_init (check_set_init_1 ty ?_)) fun r2 s2 hr2 => ?_
      · obtain ⟨ol, hol, hcl, nl, hdl⟩ := hl
        obtain ⟨ocls, odict, odata, oslots⟩ := ol
        simp only at hcl hdl
        subst hcl; subst hdl
        have hol' := keepN l _ hol
        have z1 := F.sub_list_set
        have z2 := F.sub_list_frozenset
        have z3 : (Value.type "list" == Value.type "dict") = false := by decide
        have isl : N.IsList l items := ⟨_, hol', rfl, nl, rfl⟩
        unfold Builtin.«set.__init__» noKeywords Builtin.Frozenset.updateFrom
        generalize hPI : pyIter = PI
        wp_walk
        subst hPI
        refine wpAny_pyIter_list isl (wpAny_bind (wpAny_runValue ?_))
        have hne : l ≠ N.objs.size := by rw [nsz]; exact Nat.ne_of_lt (Nat.lt_succ_of_lt lsz)
        have hh3 : A.in1.in1.in1.handled = none := by simp [hh]
        refine put_all ((Walks.list hh3 _ l hne items).toS) (a := s.heap.objs.size) ?_ hv hs items.size 0 _ (Nat.zero_add _) ⟨⟨_, Heap.get?_push_size _ rfl, rfl, rfl⟩, isl.push _⟩ (got0 (Heap.get?_push_of_some _ atN) val) fun s' mv g => ?_
        · simp only [List.mem_cons, List.mem_singleton, List.not_mem_nil, or_false, not_or]
          exact ⟨by rw [nsz]; exact Nat.ne_of_lt (Nat.lt_succ_self _), Nat.ne_of_gt lsz⟩
        · obtain ⟨h', g', d', tk', os'⟩ := s'
          have eg : g' = s.gens := mv.gens
          have ed : d' = s.drawn := mv.drawn
          have eo : os' = s.os := mv.os
          subst eg; subst ed; subst eo
          refine wpAny_pure (wpAny_pure ⟨rfl, h', tk', rfl, g, fun b o hb e => mv.heap b o ?_ (Heap.get?_push_of_some _ (keepN b o e))⟩)
          simp only [List.mem_cons, List.mem_singleton, List.not_mem_nil, or_false, not_or]
          exact ⟨Nat.ne_of_lt hb, by rw [nsz]; exact Nat.ne_of_lt (Nat.lt_succ_of_lt hb)⟩
      · cases r2 with
        | error e => exact hr2
        | ok fl2 =>
          cases fl2 with
          | ret r =>
            obtain ⟨rfl, h', tk, rfl, g, hk⟩ := hr2
            repeat (any_goals (first | assumption | wp_step))
            exact h _ _ g hk
          | next => exact hr2.elim
          | brk => exact hr2.elim
          | cont => exact hr2.elim
    | next => exact hr.elim
    | brk => exact hr.elim
    | cont => exact hr.elim
end
end Sml

namespace Sml
open PySem PySem.Spec PyProof.Rows
theorem slot_sn : Slot "set_iterator" "__next__" "set_iterator.__next__" :=
  .of (owner := "set_iterator") (n := "__next__") (by rw [typeLookup_type, builtinLookup_eq_fast]; kernel_rfl) (by decide +kernel) (by decide +kernel) (by decide +kernel) (by first | exact .inl (by decide +kernel) | exact .inr (by decide +kernel)) (by rw [isSubtype_type]; kernel_rfl)
theorem entry_sn : entryFor table "set_iterator.__next__" = some Builtin.«set_iterator.__next__» := entryFor_of_tree (by kernel_rfl)
theorem entry_si : entryFor table "set.__iter__" = some Builtin.«frozenset.__iter__» := entryFor_alias (id' := "frozenset.__iter__") (by kernel_rfl) (by first | rfl | decide +kernel) (by decide +kernel) (by kernel_rfl)
theorem owner_si : Manifest.owners.lookup (String.ofList ['r', 'o', 't', 'a', 'r', 'e', 't', 'i', '_', 't', 'e', 's'].reverse) = some Manifest.sig_set_iterator := by kernel_rfl
theorem args_sn (a : Value) : argsOk "set_iterator.__next__" ⟨[a], []⟩ := by
  unfold argsOk
  rw [signature?_of (id := "set_iterator.__next__") (n := ['_', '_', 't', 'x', 'e', 'n', '_', '_']) (o := ['r', 'o', 't', 'a', 'r', 'e', 't', 'i', '_', 't', 'e', 's']) (by kernel_rfl) owner_si]
  kernel_rfl
theorem below_0 {p : List Nat} (pw : p.Pairwise (· < ·)) : SetTable.below p.toArray 0 = 0 := by
  obtain ⟨h1, h2, _⟩ := below_spec pw 0
  generalize SetTable.below p.toArray 0 = b at h1 h2
  cases b with
  | zero => rfl
  | succ b =>
    cases p with
    | nil => exact absurd h1 (by simp)
    | cons x p => exact absurd (h2 x (by simp)) (Nat.not_lt_zero _)
theorem below_next {p : List Nat} (pw : p.Pairwise (· < ·)) {i j : Nat} (e : p[i]? = some j) : SetTable.below p.toArray (j + 1) = i + 1 := by
  obtain ⟨h1, h2, h3⟩ := below_spec pw (j + 1)
  generalize SetTable.below p.toArray (j + 1) = b at h1 h2 h3
  obtain ⟨hi, e⟩ := List.getElem?_eq_some_iff.mp e
  have a : i < b := by
    refine Nat.lt_of_not_le fun hb => ?_
    have := h3 j (by rw [← e]; exact List.mem_iff_getElem.mpr ⟨i - b, by rw [List.length_drop]; omega, by rw [List.getElem_drop]; congr 1; omega⟩)
    omega
  have c : b ≤ i + 1 := by
    refine Nat.le_of_not_lt fun hb => ?_
    have hlt : i + 1 < p.length := by omega
    have h4 := h2 p[i + 1] (List.mem_iff_getElem.mpr ⟨i + 1, by rw [List.length_take]; omega, by rw [List.getElem_take]⟩)
    have h5 := List.pairwise_iff_getElem.mp pw i (i + 1) hi hlt (Nat.lt_succ_self _)
    omega
  omega
section
variable {prog : Program} {w : World} {A : Around} {E : Value → Shared → Prop} {s : Shared}
def IsSI (h : Heap) (it a : Addr) (slot i n ep : Nat) : Prop := ∃ o, h.get? it = some o ∧ o.cls = .type "set_iterator" ∧ o.data = .fields #[rawInt slot, rawInt i, .ref a, rawInt n, rawInt ep]
theorem iterS {a : Addr} {o : Obj} {es : Array (Int × Value)} {ep : Nat} {t : SetTable} {p : List Nat} {Q : Value → Shared → Prop} (ho : s.heap.get? a = some o) (hx : o.ExactSet) (hd : o.data = .set es ep t) (S : Sm es t p)
    (hQ : Q (.ref s.heap.objs.size) { s with heap := s.heap.push { cls := .type "set_iterator", data := .fields #[rawInt 0, rawInt 0, .ref a, rawInt es.size, rawInt ep] } }) : wpAny (model prog w) A (pyIter (.ref a)) Q E s := by
  have hT : s.TypeIs (.ref a) "set" := ⟨o, ho, hx.1⟩
  have hf := S.fit
  refine wpAny_pyIter_slot hT F.slot_set_iter (wpAny_call_entry F.slot_set_iter hT entry_si ?_ (F.args_set_iter_1 _))
  unfold Builtin.«frozenset.__iter__» Builtin.Frozenset.slot0 slotArgs
  simp only [List.isEmpty_nil, Bool.not_true, Bool.false_eq_true, ↓reduceIte, bind_assoc, List.length_nil, bne_self_eq_false]
  unfold Builtin.Frozenset.addrOf Builtin.Frozenset.sizeOf
  refine wpAny_bind (wpAny_pure ?_)
  try dsimp only
  refine wpAny_bind (wpAny_pure ?_)
  refine wpAny_bind (wpAny_bind (wpAny_setEntries_of ho hd hf (wpAny_pure ?_)))
  have hdr : wpAny (model prog w) A.in1 (setDrawn a) (fun b s' => b = false ∧ s' = s) E s := by
    unfold setDrawn setsByText
    refine wpAny_bind (wpAny_setState_of ho hd hf (wpAny_bind (wpAny_bind (wpAny_askSetting (wpAny_pure (wpAny_pure ⟨?_, rfl⟩))))))
    show (_ && (!t.plain && _)) = false
    rw [S.pn]
    simp
  refine wpAny_bind (wpAny_mono hdr (fun b s' hb => ?_) fun _ _ h => h)
  obtain ⟨rfl, rfl⟩ := hb
  simp only [Bool.false_eq_true, ↓reduceIte]
  refine wpAny_bind (wpAny_pure (wpAny_bind (wpAny_setEpoch_of ho hd hf ?_)))
  unfold newFields
  exact wpAny_bind (wpAny_newObj_type (wpAny_pure ⟨_, rfl, "set_iterator", _, ⟨_, Heap.get?_push_size _ rfl, rfl⟩, slot_sn.lookup, hQ⟩))
theorem IsSI.ty {it a : Addr} {slot i n ep : Nat} (h : IsSI s.heap it a slot i n ep) : s.TypeIs (.ref it) "set_iterator" := by
  obtain ⟨o, ho, hc, _⟩ := h
  exact ⟨o, ho, hc⟩
theorem IsSI.at {h h' : Heap} {it a : Addr} {slot i n ep : Nat} (x : IsSI h it a slot i n ep) (k : ∀ o, h.get? it = some o → h'.get? it = some o) : IsSI h' it a slot i n ep := by
  obtain ⟨o, ho, r⟩ := x
  exact ⟨o, k o ho, r⟩
def ord (w : World) (a : Addr) (ep : Nat) (es : Array (Int × Value)) : Array (Int × Value) := if byT w = true then pickOrder (w.params.setOrder a ep) es else es
def Ahead (w : World) (t : SetTable) (slot i : Nat) : Prop := byT w = true ∨ SetTable.below t.place slot = i
theorem next_of {a : Addr} {o : Obj} {es : Array (Int × Value)} {ep : Nat} {t : SetTable} {p : List Nat} {slot i : Nat} {Q : Option (Value × Nat) → Shared → Prop} (ho : s.heap.get? a = some o) (hd : o.data = .set es ep t) (S : Sm es t p) (hL : t.led = !byT w) (hA : Ahead w t slot i)
    (h1 : ∀ e nx, (ord w a ep es)[i]? = some e → Ahead w t nx (i + 1) → Q (some (e.2, nx)) s) (h2 : (ord w a ep es)[i]? = none → Q none s) : wpAny (model prog w) A (setNext a slot i ep) Q E s := by
  have hf := S.fit
  unfold setNext
  refine wpAny_bind (wpAny_setState_of ho hd hf ?_)
  dsimp only
  unfold setsByText
  refine wpAny_bind (wpAny_bind (wpAny_askSetting (wpAny_pure ?_)))
  dsimp only
  by_cases hb : byT w = true
  · rw [if_pos (show (model prog w).w.params.followText "set-order" = true from hb), if_neg (by simp)]
    have ho2 : ord w a ep es = pickOrder (w.params.setOrder a ep) es := if_pos hb
    rw [ho2] at h1 h2
    unfold setWalk setsByText
    refine wpAny_bind (wpAny_bind (wpAny_setState_of ho hd hf ?_))
    dsimp only
    refine wpAny_bind (wpAny_bind (wpAny_askSetting (wpAny_pure ?_)))
    dsimp only
    rw [if_pos (show (model prog w).w.params.followText "set-order" = true from hb)]
    refine wpAny_bind (wpAny_askSetting (wpAny_pure (wpAny_pure ?_)))
    show Q (Option.map (fun e => (e.2, slot)) (pickOrder (w.params.setOrder a ep) es)[i]?) s
    cases e : (pickOrder (w.params.setOrder a ep) es)[i]? with
    | none => exact h2 e
    | some x => exact h1 x slot e (.inl hb)
  · rw [if_neg (show ¬ (model prog w).w.params.followText "set-order" = true from hb)]
    have ho2 : ord w a ep es = es := if_neg hb
    rw [ho2] at h1 h2
    split
    · rename_i h
      exact absurd h (by
        show ¬ ((!t.plain && _) = true)
        rw [S.pn]
        simp)
    · refine wpAny_bind (show wpAny _ _ (if (!t.led && !es.isEmpty) = true then unsupported "set:maker-not-led" else pure ()) _ _ _ from ?_)
      have : byT w = false := by simpa using hb
      rw [hL, this, if_neg (by simp)]
      refine wpAny_pure (wpAny_pure ?_)
      have hbl : SetTable.below t.place slot = i := hA.resolve_left hb
      rw [hbl, S.pl]
      by_cases hi : i < es.size
      · have hp : i < p.length := by rw [S.sz]; exact hi
        have e1 : es[i]? = some es[i] := Array.getElem?_eq_getElem hi
        have e2 : p.toArray[i]? = some p[i] := by rw [List.getElem?_toArray]; exact List.getElem?_eq_getElem hp
        rw [e1, e2]
        exact h1 es[i] (p[i] + 1) (Array.getElem?_eq_getElem hi) (.inr (by rw [S.pl]; exact below_next S.pw (List.getElem?_eq_getElem hp)))
      · have e1 : es[i]? = none := Array.getElem?_eq_none (by omega)
        rw [e1]
        exact h2 e1
theorem nextS {it a : Addr} {o : Obj} {es : Array (Int × Value)} {ep : Nat} {t : SetTable} {p : List Nat} {slot i : Nat} {Q : Option Value → Shared → Prop} (hh : A.handled = none) (hit : IsSI s.heap it a slot i es.size ep) (ho : s.heap.get? a = some o) (hd : o.data = .set es ep t) (S : Sm es t p) (hL : t.led = !byT w) (hA : Ahead w t slot i)
    (h1 : ∀ e nx h', (ord w a ep es)[i]? = some e → Ahead w t nx (i + 1) → IsSI h' it a nx (i + 1) es.size ep → Heap.SameBut it s.heap h' → Q (some e.2) { s with heap := h' }) (h2 : (ord w a ep es)[i]? = none → ∀ h', Heap.ExtBut it s.heap h' → Q none { s with heap := h' }) :
    wpAny (model prog w) A (pyNext (.ref it)) Q E s := by
  have hf := S.fit
  obtain ⟨oi, hoi, hc, hdi⟩ := id hit
  unfold pyNext
  refine wpAny_bind (wpAny_attempt (wpAny_callSpecial?_slot (name := Str.ofString "__next__") hit.ty slot_sn (wpAny_call_entry slot_sn hit.ty entry_sn ?_ (args_sn _))))
  unfold Builtin.«set_iterator.__next__» slotArgs
  simp only [List.isEmpty_nil, Bool.not_true, Bool.false_eq_true, ↓reduceIte, bind_assoc, List.length_nil, bne_self_eq_false]
  refine wpAny_bind (wpAny_pure ?_)
  dsimp only
  refine wpAny_bind (wpAny_fieldsOf hoi hdi ?_)
  simp only [rawInt] at hdi ⊢
  refine wpAny_bind (wpAny_setEntries_of ho hd hf ?_)
  rw [if_neg (by simp)]
  simp only [Int.toNat_natCast]
  refine wpAny_bind (next_of ho hd S hL hA (fun e nx he ha => ?_) fun he => ?_)
  · dsimp only
    have d1 := Obj.data_mapFields hdi (·.setIfInBounds 0 (Value.int nx 0))
    have g1 := Heap.get?_update_self (Obj.mapFields (·.setIfInBounds 0 (Value.int nx 0))) hoi (Obj.isFreed_of_fields d1)
    refine wpAny_bind (wpAny_setField hoi hdi (by simp) ?_)
    have d2 := Obj.data_mapFields d1 (·.setIfInBounds 1 (Value.int ((i : Int) + 1) 0))
    have g2 := Heap.get?_update_self (Obj.mapFields (·.setIfInBounds 1 (Value.int ((i : Int) + 1) 0))) g1 (Obj.isFreed_of_fields d2)
    refine wpAny_bind (wpAny_setField g1 d1 (by simp) ?_)
    refine wpAny_pure ⟨_, rfl, wpAny_pure (h1 e nx _ he ha ⟨_, g2, ?_, ?_⟩ ((Heap.SameBut.update ..).trans (Heap.SameBut.update ..)))⟩
    · rw [Obj.cls_mapFields, Obj.cls_mapFields]
      exact hc
    · rw [d2]
      simp [rawInt]
  · dsimp only
    refine wpAny_bind (wpAny_setField hoi hdi (by simp) ?_)
    simp only [newExc, newTuple]
    refine wpAny_bind (wpAny_bind (wpAny_newObj_type ?_ (by size_fits)))
    refine wpAny_bind (m := firstArgMember _ _) (wpAny_of_eq (a := Value.none) (by first | rfl | (simp only [firstArgMember]; rfl)) ?_)
    refine wpAny_newObj_type ?_ (by size_fits)
    simp only [raiseNew]
    refine wpAny_bind (wpAny_handled ?_)
    rw [show A.in1.handled = none from hh]
    refine wpAny_bind (wpAny_pure (wpAny_throw ?_))
    refine wpAny_bind (wpAny_isInstance (T := "StopIteration") (b := true) ⟨_, Heap.get?_push_size _ rfl, rfl⟩ isSubtype_stop ?_)
    exact wpAny_pure (h2 he _ (((Heap.SameBut.update ..).extBut.push _).push _))
end
end Sml

namespace Sml
open PySem PySem.Spec PyProof.Rows PySem.W
theorem slot_sii : Slot "set_iterator" "__iter__" "set_iterator.__iter__" :=
  .of (owner := "set_iterator") (n := "__iter__") (by rw [typeLookup_type, builtinLookup_eq_fast]; kernel_rfl) (by decide +kernel) (by decide +kernel) (by decide +kernel) (by first | exact .inl (by decide +kernel) | exact .inr (by decide +kernel)) (by rw [isSubtype_type]; kernel_rfl)
theorem entry_sii : entryFor table "set_iterator.__iter__" = some Builtin.«dict_keyiterator.__iter__» := entryFor_alias (id' := "dict_keyiterator.__iter__") (by kernel_rfl) (by first | rfl | decide +kernel) (by decide +kernel) (by kernel_rfl)
theorem args_sii (a : Value) : argsOk "set_iterator.__iter__" ⟨[a], []⟩ := by
  unfold argsOk
  rw [signature?_of (id := "set_iterator.__iter__") (n := ['_', '_', 'r', 'e', 't', 'i', '_', '_']) (o := ['r', 'o', 't', 'a', 'r', 'e', 't', 'i', '_', 't', 'e', 's']) (by kernel_rfl) owner_si]
  kernel_rfl
theorem pick_go {α : Type} (next : Nat → Nat) : ∀ (n k : Nat) (left : List α) (out : Array α), left.length = n → (pickOrder.go next n k left out).toList.Perm (out.toList ++ left)
  | 0, k, left, out, h => by
    rw [List.eq_nil_of_length_eq_zero h, List.append_nil]
    unfold pickOrder.go
    exact .rfl
  | n + 1, k, left, out, h => by
    have hl : next k % left.length < left.length := Nat.mod_lt _ (by omega)
    unfold pickOrder.go
    rw [List.getElem?_eq_getElem hl]
    dsimp only
    refine (pick_go next n (k + 1) _ _ (by rw [List.length_eraseIdx_of_lt hl]; omega)).trans ?_
    rw [Array.toList_push, List.append_assoc]
    refine List.Perm.append_left _ ?_
    rw [List.eraseIdx_eq_take_drop_succ]
    conv => rhs; rw [← List.take_append_drop (next k % left.length) left, List.drop_eq_getElem_cons hl]
    exact (List.perm_middle (a := left[next k % left.length]) (l₁ := left.take (next k % left.length)) (l₂ := left.drop (next k % left.length + 1))).symm
theorem pick_perm {α : Type} (next : Nat → Nat) (xs : Array α) : (pickOrder next xs).toList.Perm xs.toList := by
  have := pick_go next xs.size 0 xs.toList #[] (by rw [Array.length_toList])
  unfold pickOrder
  simpa using this
theorem ord_perm (w : World) (a : Addr) (ep : Nat) (es : Array (Int × Value)) : (ord w a ep es).toList.Perm es.toList := by
  unfold ord
  split
  · exact pick_perm _ _
  · exact .rfl
section
variable {prog : Program} {w : World} {A : Around} {E : Value → Shared → Prop} {s : Shared}
theorem hintS {r : Addr} {Q : Bool → Shared → Prop} (hT : s.TypeIs (.ref r) "set") (h : Q false s) : wpAny (model prog w) A (Builtin.List.listLengthHint (.ref r)) Q E s := by
  unfold Builtin.List.listLengthHint
  refine wpAny_bind (wpAny_specialOf hT F.slot_set_len.lookup ?_)
  generalize hid : ("set.__len__" : String) = id0
  wp_delta
  rw [show splitId id0 = some ("set", "__len__") from by subst hid; decide +kernel]
  subst hid
  refine wpAny_bind (wpAny_isInstance (T := "set") (b := true) hT (by rw [isSubtype_type]; kernel_rfl) ?_)
  refine wpAny_ite_split (fun hab => absurd hab (by decide)) (fun _ => ?_)
  refine wpAny_ite_split (fun _ => ?_) (fun hab => absurd (by decide +kernel) hab)
  exact wpAny_bind (wpAny_typeOf hT (wpAny_pure h))
theorem ord_size {a : Addr} {ep : Nat} {es : Array (Int × Value)} : (ord w a ep es).size = es.size := by
  rw [← Array.length_toList, (ord_perm w a ep es).length_eq, Array.length_toList]
theorem walksS (hh : A.handled = none) {I a : Addr} (hne : a ≠ I) {o : Obj} {es : Array (Int × Value)} {ep : Nat} {t : SetTable} {p : List Nat} (hd : o.data = .set es ep t) (S : Sm es t p) (hL : t.led = !byT w) :
    Walks prog w A I [I, a] [I] es.size (fun i v => ∃ e, (ord w a ep es)[i]? = some e ∧ v = e.2) (fun i h => ∃ slot, IsSI h I a slot i es.size ep ∧ h.get? a = some o ∧ Ahead w t slot i) where
  sub := fun b hb => by simp at hb; simp [hb]
  frame := fun _ _ _ st hk => by
    obtain ⟨slot, h1, h2, h3⟩ := st
    exact ⟨slot, h1.at fun o e => hk I (by simp) o e, hk a (by simp) _ h2, h3⟩
  item := fun i s Q E hi st hQ => by
    obtain ⟨slot, h1, h2, h3⟩ := st
    refine nextS hh h1 h2 hd S hL h3 (fun e nx h' he ha hit same => ?_) fun he => ?_
    · exact hQ _ h' s.toks ⟨e, he, rfl⟩ ⟨nx, hit, (same.2 a hne).trans h2, ha⟩ fun b o hb e => same.extBut b o (fun h => hb (by simp [h])) e
    · have := Array.getElem?_eq_none_iff.mp he
      rw [ord_size] at this
      omega
  done := fun s Q E st hQ => by
    obtain ⟨slot, h1, h2, h3⟩ := st
    refine nextS hh h1 h2 hd S hL h3 (fun e nx h' he ha hit same => ?_) fun he h' ext => hQ h' s.toks fun b o hb e => ext b o (fun h => hb (by simp [h])) e
    have := (Array.getElem?_eq_some_iff.mp he).1
    rw [ord_size] at this
    omega
  self := fun _ _ _ _ st hQ => by
    obtain ⟨slot, h1, h2, h3⟩ := st
    exact wpAny_pyIter_slot h1.ty slot_sii (wpAny_call_entry slot_sii h1.ty entry_sii (wpAny_pure ⟨_, rfl, "set_iterator", _, h1.ty, slot_sn.lookup, hQ⟩) (args_sii _))
theorem srcS {a : Addr} {o : Obj} {es : Array (Int × Value)} {ep : Nat} {t : SetTable} {p : List Nat} (hx : o.ExactSet) (hd : o.data = .set es ep t) (S : Sm es t p) (hL : t.led = !byT w) : KdlSrc prog w "set" a a es.size (fun i v => ∃ e, (ord w a ep es)[i]? = some e ∧ v = e.2) (fun h => h.get? a = some o) where
  type := fun _ ho => ⟨o, ho, hx.1⟩
  there := fun _ ho => ⟨Heap.lt_size ho, Heap.lt_size ho⟩
  keep := fun _ _ ho hk => hk a (.inl rfl) _ ho
  notList := by decide
  notTuple := by decide
  hint := fun _ _ _ _ ho hq => hintS ⟨o, ho, hx.1⟩ hq
  iter := fun _ _ hh ho => ⟨_, _, (fun _ _ hq => iterS ho hx hd S hq), walksS hh (Nat.ne_of_lt (Heap.lt_size ho)) hd S hL, ⟨0, ⟨_, Heap.get?_push_size _ rfl, rfl, rfl⟩, Heap.get?_push_of_some _ ho, .inr (by rw [S.pl]; exact below_0 S.pw)⟩⟩
end
end Sml

namespace L2
open PySem PySem.Spec PyProof.Rows PySem.W
def valN (ns : List Int) (i : Nat) : Nat := (ns.getD i 0).toNat
def setO (w : World) (a : Addr) (ns : List Int) : HO := .ext fun h => Sml.Got h a (valN ns) ns.length (!Sml.byT w)
def sortD (ns : List Int) : List Int := ((List.range 16).map fun k : Nat => (k : Int)).filter fun x => decide (x ∈ ns)
theorem rise_eq : ∀ (l m : List Int), l.Pairwise (· < ·) → m.Pairwise (· < ·) → (∀ x, x ∈ l ↔ x ∈ m) → l = m
  | [], [], _, _, _ => rfl
  | [], b :: m, _, _, h => by cases (h b).mpr List.mem_cons_self
  | a :: l, [], _, _, h => by cases (h a).mp List.mem_cons_self
  | a :: l, b :: m, pl, pm, h => by
    obtain ⟨l1, l2⟩ := List.pairwise_cons.mp pl
    obtain ⟨m1, m2⟩ := List.pairwise_cons.mp pm
    have e : a = b := by
      rcases List.mem_cons.mp ((h a).mp List.mem_cons_self) with e | e
      · exact e
      · rcases List.mem_cons.mp ((h b).mpr List.mem_cons_self) with e' | e'
        · exact e'.symm
        · have h1 := m1 a e
          have h2 := l1 b e'
          omega
    subst e
    rw [rise_eq l m l2 m2 fun x => ?_]
    constructor
    · intro hx
      have := l1 x hx
      rcases List.mem_cons.mp ((h x).mp (List.mem_cons_of_mem _ hx)) with e | e
      · omega
      · exact e
    · intro hx
      have := m1 x hx
      rcases List.mem_cons.mp ((h x).mpr (List.mem_cons_of_mem _ hx)) with e | e
      · omega
      · exact e
theorem sortD_rise (ns : List Int) : (sortD ns).Pairwise (· < ·) := List.Pairwise.filter _ (List.pairwise_map.mpr (List.pairwise_lt_range.imp fun h => by omega))
theorem sortD_mem {ns : List Int} (h : ∀ n ∈ ns, 0 ≤ n ∧ n < 16) (x : Int) : x ∈ sortD ns ↔ x ∈ ns := by
  unfold sortD
  rw [List.mem_filter, decide_eq_true_eq]
  refine ⟨fun z => z.2, fun z => ⟨List.mem_map.mpr ⟨x.toNat, List.mem_range.mpr ?_, ?_⟩, z⟩⟩
  · have := h x z; omega
  · have := h x z; omega
theorem val_mem {ns : List Int} (h : ∀ n ∈ ns, 0 ≤ n ∧ n < 16) (x : Int) : (∃ j, j < ns.length ∧ x = (valN ns j : Int)) ↔ x ∈ ns := by
  have g : ∀ j (hj : j < ns.length), (valN ns j : Int) = ns[j] := fun j hj => by
    unfold valN
    rw [List.getD_eq_getElem?_getD, List.getElem?_eq_getElem hj]
    have := h ns[j] (List.getElem_mem hj)
    show ((ns[j].toNat : Nat) : Int) = _
    omega
  constructor
  · rintro ⟨j, hj, e⟩
    rw [e, g j hj]
    exact List.getElem_mem hj
  · intro hx
    obtain ⟨j, hj, e⟩ := List.getElem_of_mem hx
    exact ⟨j, hj, by rw [g j hj, e]⟩
section
variable {X : Cx}
theorem setO_ok {P : Program} {w : World} {H : Hp} {h : Heap} {a : Addr} {ns : List Int} (g : Sml.Got h a (valN ns) ns.length (!Sml.byT w)) : ObjOk P w H h a (setO w a ns) := by
  refine ⟨g, ?_, fun h1 h2 g1 k => g1.keep k⟩
  obtain ⟨es, ⟨o, ep, t, p, ho, _⟩, _⟩ := g
  exact ⟨o, ho⟩
theorem call_setS (hc : X.calm = true) : CallR X (.type "set") (fun xs H Q => ∃ (p : Addr) (ns : List Int), xs = [.ref p] ∧ SqL X.K H p (ns.map V.int) ∧ (∀ n ∈ ns, 0 ≤ n ∧ n < 16) ∧ ∀ l : Addr, H l = none → Q (.ref l) (upd H l (setO X.w l ns))) := by
  intro pins s σ H xs us Q I r h
  obtain ⟨p, ns, rfl, hq, hb, q⟩ := h
  obtain ⟨u, rfl, rx⟩ := vals1 r
  cases rx
  obtain ⟨its, r', pl, hz⟩ := I.list hq
  have hI := ints_of_vals r'
  have hlen := r'.length
  rw [List.length_map] at hlen
  have e1 : its.toArray.size = ns.length := by rw [List.size_toArray]; omega
  have hv : ∀ i v, its.toArray[i]? = some v → ∃ t, v = Value.int (valN ns i) t := fun i v e => by
    have hi : i < ns.length := by
      have := (Array.getElem?_eq_some_iff.mp e).1
      omega
    obtain ⟨t, e2⟩ := IntsAre.int_at hI i v (by rw [← Array.getElem?_toList] at e; exact e)
    refine ⟨t, ?_⟩
    rw [e2]
    unfold valN
    rw [List.getD_eq_getElem?_getD, List.getElem?_eq_getElem hi]
    have := hb ns[i] (List.getElem_mem hi)
    show Value.int ns[i] t = Value.int ((ns[i].toNat : Nat) : Int) t
    rw [show ((ns[i].toNat : Nat) : Int) = ns[i] by omega]
  refine Sml.set_call (val := valN ns) (I.ok.hd hc) pl.isList hv (fun i hi => ?_) fun h' tk g hk => ?_
  · rw [e1] at hi
    unfold valN
    rw [List.getD_eq_getElem?_getD, List.getElem?_eq_getElem hi]
    have := hb ns[i] (List.getElem_mem hi)
    show ns[i].toNat < 16
    omega
  · rw [e1] at g
    exact ⟨.ref s.heap.objs.size, _, I.laid (a := s.heap.objs.size) (o := setO X.w _ ns) (t' := tk) (fun b o z => hk b o (Heap.lt_size z) z) (Nat.le_refl _) (setO_ok g), rfl, q _ (I.hok.fresh (Nat.le_refl _))⟩
theorem call_sortedS (hc : X.calm = true) : CallR X (.builtin "sorted") (fun xs H Q => ∃ (p : Addr) (ns : List Int), xs = [.ref p] ∧ H p = some (setO X.w p ns) ∧ (∀ n ∈ ns, 0 ≤ n ∧ n < 16) ∧ ∀ l : Addr, H l = none → Q (.ref l) (upd H l (.lst ((sortD ns).map V.int)))) := by
  intro pins s σ H xs us Q I r h
  obtain ⟨p, ns, rfl, hq, hb, q⟩ := h
  obtain ⟨u, rfl, rx⟩ := vals1 r
  cases rx
  obtain ⟨⟨es, ⟨o, ep, t, pl, ho, hx, hd, S, hL⟩, hm⟩, _⟩ := (show ObjOk X.prog X.w H s.heap p (setO X.w p ns) from I.hok p _ hq)
  obtain ⟨ks, hks⟩ : ∃ ks, ks = (Sml.ord X.w p ep es).toList.map (·.1) := ⟨_, rfl⟩
  have hperm : ks.Perm (es.toList.map (·.1)) := by rw [hks]; exact (Sml.ord_perm X.w p ep es).map _
  have hsz := S.small
  have hlen : ks.length = es.size := by rw [hperm.length_eq, List.length_map, Array.length_toList]
  have intsI : ∀ (ms : List Int) (vs : List Value), vs.length = ms.length → (∀ (j : Nat) (v : Value), vs[j]? = some v → ∃ n t, ms[j]? = some n ∧ v = Value.int n t) → IntsAre vs ms := by
    intro ms
    induction ms with
    | nil => intro vs h _; cases vs with | nil => exact .nil | cons _ _ => cases h
    | cons m ms ih =>
      intro vs h hp
      cases vs with
      | nil => cases h
      | cons v vs =>
        obtain ⟨n, t, e1, e2⟩ := hp 0 v rfl
        cases e1
        subst e2
        exact .cons _ _ (ih vs (by simpa using h) fun j v e => hp (j + 1) v (by simpa using e))
  refine Srt.sorted_src (ns := ks) (Sml.srcS hx hd S hL) (I.ok.hd hc) ho (by omega) (fun vs hv hp => intsI _ _ (by omega) fun j v e => ?_) fun h' tk a e out ns' k1 z1 g a1 a2 a3 => ?_
  · obtain ⟨x, e1, e2⟩ := hp j v e
    have hx : x ∈ es.toList := (Sml.ord_perm X.w p ep es).mem_iff.mp (List.mem_of_getElem? (by rw [Array.getElem?_toList]; exact e1))
    obtain ⟨n, k, _, rfl⟩ := S.el x hx
    exact ⟨(n : Int), k, by rw [hks, List.getElem?_map, Array.getElem?_toList, e1]; rfl, e2⟩
  · have nd : ns'.Nodup := (a2.trans hperm).nodup_iff.mpr S.nd
    have rise : ns'.Pairwise (· < ·) := by
      have := List.pairwise_iff_getElem.mp a3
      refine List.pairwise_iff_getElem.mpr fun i j hi hj hij => ?_
      have h1 := this i j hi hj hij
      have h2 := List.pairwise_iff_getElem.mp nd i j hi hj hij
      omega
    have es' : ns' = sortD ns := rise_eq _ _ rise (sortD_rise ns) fun x => by rw [(a2.trans hperm).mem_iff, hm, val_mem hb, sortD_mem hb]
    subst es'
    have hl' : (sortD ns).length = es.size := by rw [a2.length_eq, hlen]
    refine ⟨.ref a, _, I.laid (a := a) (o := .lst ((sortD ns).map V.int)) (h' := h') (t' := tk) k1 z1 ?_, rfl, q a (I.hok.fresh z1)⟩
    refine ⟨by rw [List.length_map, sizeLine_eq]; omega, out.toList, e, vals_of_ints a1, ?_⟩
    rw [g]
end
end L2

namespace L3
open PySem L2
def smallI (ns : List Int) : Bool := ns.all fun n => decide (0 ≤ n) && decide (n < 16)
theorem smallI_of {ns : List Int} (h : smallI ns = true) : ∀ n ∈ ns, 0 ≤ n ∧ n < 16 := fun n hn => by
  have := List.all_eq_true.mp h n hn
  rw [Bool.and_eq_true, decide_eq_true_eq, decide_eq_true_eq] at this
  exact this
def dSortS (d : DE) : DE := fun ρ M => (d ρ M).bind fun x M1 => match iseq M1 x with
  | some ns => if smallI ns = true then .ok (.lst ((sortD ns).map PV.int)) M1 else .bad
  | none => .bad
def sortK (M : Sto) (x : PV) : Option (List Int) := match x with
  | .ref j => (match M.g j with
    | some (.dkv l) => if smallI (l.map (·.1)) = true ∧ (l.map (·.1)).Nodup ∧ l.length < 64 then some (sortD (l.map (·.1))) else none
    | _ => none)
  | _ => none
def fSortK (M : Sto) (x : PV) : Option PV := (sortK M x).map fun ns => .lst (ns.map PV.int)
def gSortKN : G1 := fun M xs => match xs with
  | [x] => (sortK M x).map fun ns => (.ref M.n, M.new (.lst (ns.map PV.int)))
  | _ => none
section
variable {X : Cx} {T : Tb} {ES : St → XK} {e : Expr} {d : DE} {p p2 pos pos2 : Pos}
theorem qe_sortS (hT : T.K = X.K) (hc : X.calm = true) (hg : Gl X "sorted") (hm : X.mg "sorted" = none) (hv : bootBuiltins "sorted" = some (.builtin "sorted")) (hg2 : Gl X "set") (hm2 : X.mg "set" = none) (hv2 : bootBuiltins "set" = some (.type "set")) (he : QE X T ES e d)
    (hs1 : starEach [e] X.env = [(false, eval e X.env)] := by rfl) (hs2 : starEach [.Call (.Name "set" p2) [e] [] pos2] X.env = [(false, eval (.Call (.Name "set" p2) [e] [] pos2) X.env)] := by rfl) :
    QE X T ES (.Call (.Name "sorted" p) [.Call (.Name "set" p2) [e] [] pos2] [] pos) (dSortS d) :=
  ⟨pe_imp (pe_callB (call_sortedS hc) hg hm hv (pa_cons (pe_callTy (call_setS hc) hg2 hm2 hv2 (pa_cons he.h pa_nil (by rw [hs1]; rfl)) (by decide) (by decide) (by rw [hs1]; rfl) (by rfl)) pa_nil (by rw [hs2]; rfl)) (by decide) (by decide) (by rw [hs2]; rfl) (by rfl)) fun σ H Q hQQ => lft_el hQQ fun W ρ M k hh hs q => ⟨W, ρ, M, k, hh, hs, Post.bind q fun W1 M1 x v H1 l1 h1 r1 q1 => by
    split at q1
    rotate_left
    · exact q1.elim
    rename_i ns e1
    split at q1
    rotate_left
    · exact q1.elim
    rename_i hz
    obtain ⟨a, rfl, ha⟩ := iseq_at h1 r1 e1
    refine ⟨a, ns, rfl, SqL.of ha, smallI_of hz, fun l hl => ⟨l, ns, rfl, upd_same, smallI_of hz, fun l2 hl2 => ?_⟩⟩
    obtain ⟨l4, h4, f4⟩ := h1.frz (o := setO X.w l ns) hl
    obtain ⟨l5, h5, f5⟩ := h4.frz (o := .lst ((sortD ns).map V.int)) hl2
    exact q1 _ _ _ (l4.trans l5) h5 ⟨l2, _, rfl, f5, Reps.ints.mpr rfl⟩⟩⟩
theorem repK_ints {W : Wd} : ∀ {l : List (Int × PV)} {vs : List (Key × V)}, RepA W keyI l vs → ∃ kvs : List (Int × V), vs = kvs.map (fun k => (Sum.inl k.1, k.2)) ∧ kvs.map Prod.fst = l.map (·.1)
  | [], _, e => by
    have e : _ = [] := e
    subst e
    exact ⟨[], rfl, rfl⟩
  | p :: l, _, ⟨v, rs, e, _, t⟩ => by
    subst e
    obtain ⟨kvs, h1, h2⟩ := repK_ints t
    exact ⟨(p.1, v) :: kvs, by rw [List.map_cons, ← h1]; rfl, by rw [List.map_cons, List.map_cons, h2]⟩
theorem sortK_at {W : Wd} {M : Sto} {H : Hp} {x : PV} {v : V} {ns : List Int} (hh : Held W M H) (r : Rep W x v) (e : sortK M x = some ns) : ∃ (a : Addr) (kvs : List (Int × V)), v = .ref a ∧ H a = some (.dK (kvs.map fun k => (Sum.inl k.1, k.2))) ∧ kvs.length < 64 ∧ ∀ ms : List Int, ms.Perm (kvs.map Prod.fst) → ms.Pairwise (· ≤ ·) → ms = ns := by
  unfold sortK at e
  split at e
  rotate_left
  · cases e
  rename_i j
  split at e
  rotate_left
  · cases e
  rename_i l e5
  split at e
  rotate_left
  · cases e
  rename_i hz
  cases e
  obtain ⟨a, rfl, ea⟩ := r
  obtain ⟨b, ob, g1, g2, g3, vs, rfl, ra⟩ := hh.m j _ e5
  rw [ea] at g1
  cases g1
  obtain ⟨kvs, h1, h2⟩ := repK_ints ra
  subst h1
  refine ⟨a, kvs, rfl, g3, ?_, fun ms hp hs => ?_⟩
  · have := congrArg List.length h2
    rw [List.length_map, List.length_map] at this
    omega
  · rw [h2] at hp
    have nd : ms.Nodup := hp.nodup_iff.mpr hz.2.1
    refine rise_eq _ _ (List.pairwise_iff_getElem.mpr fun i j hi hj hij => ?_) (sortD_rise _) fun x => by rw [hp.mem_iff, sortD_mem (smallI_of hz.1)]
    have z1 := List.pairwise_iff_getElem.mp hs i j hi hj hij
    have z2 := List.pairwise_iff_getElem.mp nd i j hi hj hij
    omega
theorem b_sortedK (hc : X.calm = true) : CallR X (.builtin "sorted") (rC T (one fSortK)) := callp_one (call_sortedD hc) fun W M H x v z Q k hh r e q => by
  unfold fSortK at e
  obtain ⟨ns, e1, rfl⟩ := Option.map_eq_some_iff.mp e
  obtain ⟨a, kvs, rfl, ha, hl, hu⟩ := sortK_at hh r e1
  refine ⟨a, kvs, rfl, ha, hl, fun l ms hl hp hs => ?_⟩
  rw [hu ms hp hs]
  obtain ⟨W2, l2, h2, r2⟩ := new_lst (xs := ns.map PV.int) hh (Reps.ints.mpr rfl) hl
  exact q W2 _ _ l2 h2 r2
theorem b_sortedKN (hc : X.calm = true) : CallR X (.builtin "sorted") (rC T gSortKN) := callr_imp (call_sortedD hc) fun vs H Q hQQ => by
  obtain ⟨W, M, xs, z, M', k, hh, rx, e, q⟩ := hQQ
  unfold gSortKN at e
  split at e
  rotate_left
  · cases e
  rename_i x
  obtain ⟨ns, e1, e2⟩ := Option.map_eq_some_iff.mp e
  cases e2
  obtain ⟨v, rfl, r⟩ := one_rep rx
  obtain ⟨a, kvs, rfl, ha, hl, hu⟩ := sortK_at hh r e1
  refine ⟨a, kvs, rfl, ha, hl, fun l ms hl hp hs => ?_⟩
  rw [hu ms hp hs]
  obtain ⟨le, h2, h3⟩ := hh.put (l := l) (o := .lst (ns.map V.int)) (c := .lst (ns.map PV.int)) hl ⟨_, rfl, Reps.ints.mpr rfl⟩
  exact q _ _ _ le h2 ⟨l, rfl, h3⟩
end
end L3

set_option maxHeartbeats 4000000

namespace My
open PySem L2 L3
def top (i : Nat) : Stmt := PySem.Challenge.pw_liarclocks_k39_whole_tracks.main.body.getD i (.Pass ⟨0, 0, 0, 0⟩)
abbrev tb (w : World) (K : PySem.W.Frag) (C : Nat → Addr) : Tb := ⟨K, C, w⟩
abbrev s__law_town : Stmt := top 30
abbrev s__law_draw : Stmt := top 31
abbrev s__law_pick : Stmt := top 32
abbrev s__law_liars : Stmt := top 34
abbrev s_is_whole : Stmt := top 10
abbrev s_is_within : Stmt := top 11
abbrev s_check_within : Stmt := top 16
abbrev s_check_few : Stmt := top 17
abbrev s_Track___init__ : Stmt := inClass (top 28) 0
abbrev s_Track_wider : Stmt := inClass (top 28) 1
abbrev s_Track_guess : Stmt := inClass (top 28) 4
abbrev s__law_number : Stmt := top 33
abbrev s__law_span : Stmt := top 35
abbrev s_is_fit_list : Stmt := top 15
abbrev s_is_pair : Stmt := top 13
abbrev s_is_number : Stmt := top 12
abbrev s_is_number_pair : Stmt := top 14
abbrev s_is_span : Stmt := top 19
abbrev s_check_spans : Stmt := top 20
abbrev s_many_with : Stmt := top 21
abbrev s_fused : Stmt := top 24
abbrev s_have_common : Stmt := top 22
abbrev s_sensors_off : Stmt := top 23
abbrev s_shown_false : Stmt := top 25
abbrev s_Track_narrowed : Stmt := inClass (top 28) 2
abbrev s_Track_see : Stmt := inClass (top 28) 3
abbrev s_Track_liars_found : Stmt := inClass (top 28) 5
abbrev s_Track_liars_found__v : Stmt := inClass (top 28) 5
abbrev s_law : Stmt := top 36
theorem sc__law_town : FnScope ["_law_script"] ["_law_script"] (defScope s__law_town) := ⟨rfl, rfl, rfl, by decide +kernel, rfl, by decide +kernel, by decide +kernel⟩
theorem sc__law_draw : FnScope ["_law_town_here", "_law_many", "_law_row", "_law_at", "_law_cell", "_law_mixed"] ["_law_town_here", "_law_many"] (defScope s__law_draw) := ⟨rfl, rfl, rfl, by decide +kernel, rfl, by decide +kernel, by decide +kernel⟩
theorem sc__law_pick : FnScope ["_law_town_here", "_law_some"] ["_law_town_here", "_law_some"] (defScope s__law_pick) := ⟨rfl, rfl, rfl, by decide +kernel, rfl, by decide +kernel, by decide +kernel⟩
theorem sc__law_liars : FnScope ["_law_town_here", "_law_crew", "_law_most", "_law_found", "_law_house"] ["_law_town_here", "_law_crew", "_law_most"] (defScope s__law_liars) := ⟨rfl, rfl, rfl, by decide +kernel, rfl, by decide +kernel, by decide +kernel⟩
theorem sc_is_whole : FnScope ["thing"] ["thing"] (defScope s_is_whole) := ⟨rfl, rfl, rfl, by decide +kernel, rfl, by decide +kernel, by decide +kernel⟩
theorem sc_is_within : FnScope ["thing", "least", "most"] ["thing", "least", "most"] (defScope s_is_within) := ⟨rfl, rfl, rfl, by decide +kernel, rfl, by decide +kernel, by decide +kernel⟩
theorem sc_check_within : FnScope ["thing", "least", "most"] ["thing", "least", "most"] (defScope s_check_within) := ⟨rfl, rfl, rfl, by decide +kernel, rfl, by decide +kernel, by decide +kernel⟩
theorem sc_check_few : FnScope ["few"] ["few"] (defScope s_check_few) := ⟨rfl, rfl, rfl, by decide +kernel, rfl, by decide +kernel, by decide +kernel⟩
theorem sc_Track___init__ : FnScope ["self", "few", "speed"] ["self", "few", "speed"] (defScope s_Track___init__) := ⟨rfl, rfl, rfl, by decide +kernel, rfl, by decide +kernel, by decide +kernel⟩
theorem sc_Track_wider : FnScope ["self", "beat", "way", "low", "high"] ["self", "beat"] (defScope s_Track_wider) := ⟨rfl, rfl, rfl, by decide +kernel, rfl, by decide +kernel, by decide +kernel⟩
theorem sc_Track_guess : FnScope ["self", "beat"] ["self", "beat"] (defScope s_Track_guess) := ⟨rfl, rfl, rfl, by decide +kernel, rfl, by decide +kernel, by decide +kernel⟩
theorem sc__law_number : FnScope ["_law_town_here", "_law_most", "_law_found"] ["_law_town_here"] (defScope s__law_number) := ⟨rfl, rfl, rfl, by decide +kernel, rfl, by decide +kernel, by decide +kernel⟩
theorem sc__law_span : FnScope ["_law_town_here", "_law_truth", "_law_honest", "_law_low"] ["_law_town_here", "_law_truth", "_law_honest"] (defScope s__law_span) := ⟨rfl, rfl, rfl, by decide +kernel, rfl, by decide +kernel, by decide +kernel⟩
theorem sc_is_fit_list : FnScope ["things"] ["things"] (defScope s_is_fit_list) := ⟨rfl, rfl, rfl, by decide +kernel, rfl, by decide +kernel, by decide +kernel⟩
theorem sc_is_pair : FnScope ["thing"] ["thing"] (defScope s_is_pair) := ⟨rfl, rfl, rfl, by decide +kernel, rfl, by decide +kernel, by decide +kernel⟩
theorem sc_is_number : FnScope ["thing"] ["thing"] (defScope s_is_number) := ⟨rfl, rfl, rfl, by decide +kernel, rfl, by decide +kernel, by decide +kernel⟩
theorem sc_is_number_pair : FnScope ["thing"] ["thing"] (defScope s_is_number_pair) := ⟨rfl, rfl, rfl, by decide +kernel, rfl, by decide +kernel, by decide +kernel⟩
theorem sc_is_span : FnScope ["thing"] ["thing"] (defScope s_is_span) := ⟨rfl, rfl, rfl, by decide +kernel, rfl, by decide +kernel, by decide +kernel⟩
theorem sc_check_spans : FnScope ["spans", "least"] ["spans", "least"] (defScope s_check_spans) := ⟨rfl, rfl, rfl, by decide +kernel, rfl, by decide +kernel, by decide +kernel⟩
theorem sc_many_with : FnScope ["spans", "point"] ["spans", "point"] (defScope s_many_with) := ⟨rfl, rfl, rfl, by decide +kernel, rfl, by decide +kernel, by decide +kernel⟩
theorem sc_fused : FnScope ["spans", "few", "enough", "lows", "highs"] ["spans", "few"] (defScope s_fused) := ⟨rfl, rfl, rfl, by decide +kernel, rfl, by decide +kernel, by decide +kernel⟩
theorem sc_have_common : FnScope ["span", "other"] ["span", "other"] (defScope s_have_common) := ⟨rfl, rfl, rfl, by decide +kernel, rfl, by decide +kernel, by decide +kernel⟩
theorem sc_sensors_off : FnScope ["spans", "place"] ["spans", "place"] (defScope s_sensors_off) := ⟨rfl, rfl, rfl, by decide +kernel, rfl, by decide +kernel, by decide +kernel⟩
theorem sc_shown_false : FnScope ["spans", "few", "place"] ["spans", "few"] (defScope s_shown_false) := ⟨rfl, rfl, rfl, by decide +kernel, rfl, by decide +kernel, by decide +kernel⟩
theorem sc_Track_narrowed : FnScope ["self", "beat", "place", "reach"] ["self", "beat", "place"] (defScope s_Track_narrowed) := ⟨rfl, rfl, rfl, by decide +kernel, rfl, by decide +kernel, by decide +kernel⟩
theorem sc_Track_see : FnScope ["self", "beat", "spans", "together", "place", "sensor"] ["self", "beat", "spans"] (defScope s_Track_see) := ⟨rfl, rfl, rfl, by decide +kernel, rfl, by decide +kernel, by decide +kernel⟩
theorem sc_Track_liars_found : FnScope ["self"] ["self"] (defScope s_Track_liars_found) := ⟨rfl, rfl, rfl, by decide +kernel, rfl, by decide +kernel, by decide +kernel⟩
theorem sc_Track_liars_found__v : FnScope ["self"] ["self"] (defScope s_Track_liars_found__v) := ⟨rfl, rfl, rfl, by decide +kernel, rfl, by decide +kernel, by decide +kernel⟩
theorem sc_law : FnScope ["_law_script", "_law_town_here", "_law_some", "_law_size", "_law_swift", "_law_foes", "_law_track", "_law_truth", "_law_beat", "_law_own", "_law_caught", "_law_turn", "_law_step", "_law_spans", "_law_place", "_law_wrong", "_law_told", "_law_late", "_law_more"] ["_law_script"] (defScope s_law) := ⟨rfl, rfl, rfl, by decide +kernel, rfl, by decide +kernel, by decide +kernel⟩
def d__law_town : DS := (sRet (dLstN (dCons (dIf (dTest (dOp gScr (dVar 0) (dLst dNil))) (dCB (gListS) (dCons (dVar 0) dNil)) (dLstN (dCons (dC (.int 0)) dNil))) (dCons (dC (.int 0)) dNil))))
def D__law_town : List PV → Sto → Res PV := denF 1 1 d__law_town
def d__law_draw : DS := (sSeq (sSet 2 (dOp gIx (dVar 0) (dC (.int 0))))
  (sSeq (sSetI (dOp gAdd (dOp gIx (dVar 0) (dC (.int 1))) (dC (.int 1))) (dVar 0) (dC (.int 1)))
  (sSeq (sSet 3 (dOp gMod (dOp gIx (dVar 0) (dC (.int 1))) (dCB (one fLen) (dCons (dVar 2) dNil))))
  (sSeq (sSet 4 (dOp gIx (dVar 2) (dVar 3)))
  (sSeq (sIf (dTest (dOp gGe (dVar 4) (dC (.int 1000000000000000000)))) (sSeq (sSetI (dOp gDiv (dVar 4) (dVar 1)) (dVar 2) (dVar 3))
  (sRet (dOp gMod (dVar 4) (dVar 1)))) sNext)
  (sSeq (sSet 5 (dOp gMod (dOp gAdd (dVar 4) (dOp gMul (dC (.int 104729)) (dOp gIx (dVar 0) (dC (.int 1))))) (dC (.int 4294967291))))
  (sSeq (sSet 5 (dOp gMod (dOp gPow (dVar 5) (dC (.int 5))) (dC (.int 4294967279))))
  (sRet (dOp gMod (dOp gDiv (dOp gMod (dOp gAdd (dOp gMul (dOp gDiv (dVar 5) (dC (.int 64))) (dC (.int 69621))) (dVar 5)) (dC (.int 4294967231))) (dC (.int 8))) (dVar 1))))))))))
def D__law_draw : List PV → Sto → Res PV := denF 2 6 d__law_draw
def d__law_pick : DS := (sRet (dOp gIx (dVar 1) (dCall D__law_draw 2 0 [.p 0, .p 1] [] (dCons (dVar 0) (dCons (dCB (one fLen) (dCons (dVar 1) dNil)) dNil)) dNil)))
def D__law_pick : List PV → Sto → Res PV := denF 2 2 d__law_pick
def d__law_liars_L1 : DS := (sIf (dAnd (dTest (dOp gLt (dCB (one fLen) (dCons (dVar 3) dNil)) (dVar 2))) (dTest (dOp (eqG false) (dCall D__law_draw 2 0 [.p 0, .p 1] [] (dCons (dVar 0) (dCons (dC (.int 3)) dNil)) dNil) (dC (.int 0))))) (sExpr (dMt gAppend (dVar 3) (dCons (dVar 4) dNil))) sNext)
def d__law_liars : DS := (sSeq (sSet 3 (dLstN dNil))
  (sSeq (sFor 200 (dRng1 (dCons (dVar 1) dNil)) (gN 4) d__law_liars_L1)
  (sRet (dFrz (dVar 3)))))
def D__law_liars : List PV → Sto → Res PV := onlyOk (denF 3 5 d__law_liars)
def d_is_whole : DS := (sRet (dAndV (dCB (gIsi) (dCons (dVar 0) (dCons (dC (.ty "int")) dNil))) (dNotV (dCB (gIsi) (dCons (dVar 0) (dCons (dC (.ty "bool")) dNil))))))
def D_is_whole : List PV → Sto → Res PV := denF 1 1 d_is_whole
def d_is_within : DS := (sRet (dAndV (dCall D_is_whole 1 0 [.p 0] [] (dCons (dVar 0) dNil) dNil) (dChain gLe gLe (dVar 1) (dVar 0) (dVar 2))))
def D_is_within : List PV → Sto → Res PV := denF 3 3 d_is_within
def d_check_within : DS := (sIf (dNot (dTru (dCall D_is_within 3 0 [.p 0, .p 1, .p 2] [] (dCons (dVar 0) (dCons (dVar 1) (dCons (dVar 2) dNil))) dNil))) (sRaise 0 (dCons (dFstr (jTxt "not a whole number from " (jInt (dVar 1) (jTxt " to " (jInt (dVar 2) jNil))))) dNil)) sNext)
def D_check_within : List PV → Sto → Res PV := denF 3 3 d_check_within
def d_check_few : DS := (sExpr (dCall D_check_within 3 0 [.p 0, .p 1, .p 2] [] (dCons (dVar 0) (dCons (dC (.int 0)) (dCons (dC (.int 5)) dNil))) dNil))
def D_check_few : List PV → Sto → Res PV := denF 1 1 d_check_few
def d_Track___init__ : DS := (sSeq (sExpr (dCall D_check_few 1 0 [.p 0] [] (dCons (dVar 1) dNil) dNil))
  (sSeq (sExpr (dCall D_check_within 3 0 [.p 0, .p 1, .p 2] [] (dCons (dVar 2) (dCons (dC (.int 0)) (dCons (dC (.int 1000)) dNil))) dNil))
  (sSeq (sFldS 10 "few" (dVar 1) (dVar 0))
  (sSeq (sFldS 10 "speed" (dVar 2) (dVar 0))
  (sSeq (sFldS 10 "last_beat" (dC (.int 0)) (dVar 0))
  (sSeq (sFldS 10 "last_place" (dC .non) (dVar 0))
  (sFldS 10 "caught" dDkN (dVar 0))))))))
def D_Track___init__ : List PV → Sto → Res PV := denF 3 3 d_Track___init__
def d_Track_wider : DS := (sSeq (sSet 2 (dOp gMul (dFld 10 "speed" (dVar 0)) (dOp gSub (dVar 1) (dFld 10 "last_beat" (dVar 0)))))
  (sSeq (sAsg (dFld 10 "last_place" (dVar 0)) (gT 2 (gsCons (gN 3) (gsCons (gN 4) gsNil))))
  (sRet (dTup (dCons (dOp gSub (dVar 3) (dVar 2)) (dCons (dOp gAdd (dVar 4) (dVar 2)) dNil))))))
def D_Track_wider : List PV → Sto → Res PV := denF 2 5 d_Track_wider
def d_Track_guess : DS := (sSeq (sIf (dTest (dOp gIs (dFld 10 "last_place" (dVar 0)) (dC .non))) (sRaise 6 (dCons (dC (.str "nothing was seen")) dNil)) sNext)
  (sSeq (sExpr (dCall D_check_within 3 0 [.p 0, .p 1, .p 2] [] (dCons (dVar 1) (dCons (dFld 10 "last_beat" (dVar 0)) (dCons (dC (.int 100000)) dNil))) dNil))
  (sRet (dMth 10 "wider" D_Track_wider 2 0 [.p 0, .p 1] [] (dVar 0) (dCons (dVar 1) dNil) dNil))))
def D_Track_guess : List PV → Sto → Res PV := denF 2 2 d_Track_guess
def d__law_number : DS := (sSeq (sSet 1 (dCall D__law_pick 2 0 [.p 0, .p 1] [] (dCons (dVar 0) (dCons (dLst (dCons (dC (.int 3)) (dCons (dC (.int 30)) (dCons (dC (.int 1000)) (dCons (dC (.int 1000001)) dNil))))) dNil)) dNil))
  (sSeq (sSet 2 (dCall D__law_draw 2 0 [.p 0, .p 1] [] (dCons (dVar 0) (dCons (dVar 1) dNil)) dNil))
  (sRet (dIf (dTest (dOp (eqG false) (dCall D__law_draw 2 0 [.p 0, .p 1] [] (dCons (dVar 0) (dCons (dC (.int 2)) dNil)) dNil) (dC (.int 0)))) (dVar 2) (dOp gSub (dC (.int 0)) (dVar 2))))))
def D__law_number : List PV → Sto → Res PV := denF 1 3 d__law_number
def d__law_span : DS := (sSeq (sIf (dTru (dVar 2)) (sRet (dTup (dCons (dOp gSub (dVar 1) (dCall D__law_draw 2 0 [.p 0, .p 1] [] (dCons (dVar 0) (dCons (dC (.int 9)) dNil)) dNil)) (dCons (dOp gAdd (dVar 1) (dCall D__law_draw 2 0 [.p 0, .p 1] [] (dCons (dVar 0) (dCons (dC (.int 9)) dNil)) dNil)) dNil)))) sNext)
  (sSeq (sSet 3 (dCB (gMax) (dCons (dOp gSub (dC (.int 0)) (dC (.int 1000000))) (dCons (dCB (gMin) (dCons (dC (.int 999000)) (dCons (dOp gAdd (dVar 1) (dCall D__law_pick 2 0 [.p 0, .p 1] [] (dCons (dVar 0) (dCons (dLst (dCons (dOp gSub (dCall D__law_draw 2 0 [.p 0, .p 1] [] (dCons (dVar 0) (dCons (dC (.int 40)) dNil)) dNil) (dC (.int 20))) (dCons (dCall D__law_number 1 0 [.p 0] [] (dCons (dVar 0) dNil) dNil) dNil))) dNil)) dNil)) dNil))) dNil))))
  (sRet (dTup (dCons (dVar 3) (dCons (dOp gAdd (dVar 3) (dCall D__law_draw 2 0 [.p 0, .p 1] [] (dCons (dVar 0) (dCons (dC (.int 15)) dNil)) dNil)) dNil))))))
def D__law_span : List PV → Sto → Res PV := denF 3 4 d__law_span
def d_is_fit_list : DS := (sRet (dAndV (dCB (gIsi) (dCons (dVar 0) (dCons (dC (.ty "list")) dNil))) (dChain gLe gLe (dC (.int 1)) (dCB (one fLen) (dCons (dVar 0) dNil)) (dC (.int 40)))))
def D_is_fit_list : List PV → Sto → Res PV := denF 1 1 d_is_fit_list
def d_is_pair : DS := (sRet (dAndV (dCB (gIsi) (dCons (dVar 0) (dCons (dC (.ty "tuple")) dNil))) (dOp (eqG false) (dCB (one fLen) (dCons (dVar 0) dNil)) (dC (.int 2)))))
def D_is_pair : List PV → Sto → Res PV := denF 1 1 d_is_pair
def d_is_number : DS := (sRet (dCall D_is_within 3 0 [.p 0, .p 1, .p 2] [] (dCons (dVar 0) (dCons (dUn gNeg (dC (.int 1000000))) (dCons (dC (.int 1000000)) dNil))) dNil))
def D_is_number : List PV → Sto → Res PV := denF 1 1 d_is_number
def d_is_number_pair : DS := (sRet (dAndV (dCall D_is_pair 1 0 [.p 0] [] (dCons (dVar 0) dNil) dNil) (dAndV (dCall D_is_number 1 0 [.p 0] [] (dCons (dOp gIx (dVar 0) (dC (.int 0))) dNil) dNil) (dCall D_is_number 1 0 [.p 0] [] (dCons (dOp gIx (dVar 0) (dC (.int 1))) dNil) dNil))))
def D_is_number_pair : List PV → Sto → Res PV := denF 1 1 d_is_number_pair
def d_is_span : DS := (sRet (dAndV (dCall D_is_number_pair 1 0 [.p 0] [] (dCons (dVar 0) dNil) dNil) (dOp gLe (dOp gIx (dVar 0) (dC (.int 0))) (dOp gIx (dVar 0) (dC (.int 1))))))
def D_is_span : List PV → Sto → Res PV := denF 1 1 d_is_span
def c_check_spans_1 : DE := (dCall D_is_span 1 0 [.p 0] [] (dCons (dVar 0) dNil) dNil)
def d_check_spans : DS := (sIf (dOr (dNot (dTru (dCall D_is_fit_list 1 0 [.p 0] [] (dCons (dVar 0) dNil) dNil))) (dOr (dTest (dOp gLt (dCB (one fLen) (dCons (dVar 0) dNil)) (dVar 1))) (dNot (dTru (dCB (one fAll) (dCons (dComp (dIt (dVar 0)) bnd1 [] dTrue c_check_spans_1) dNil)))))) (sRaise 1 (dCons (dFstr (jTxt "not a list of " (jInt (dVar 1) (jTxt " to 40 spans" jNil)))) dNil)) sNext)
def D_check_spans : List PV → Sto → Res PV := denF 2 2 d_check_spans
def d_many_with : DS := (sRet (dCB (one fLen) (dCons (dComp (dIt (dVar 0)) bnd2 [1] (dTest (dChain gLe gLe (dVar 0) (dVar 2) (dVar 1))) (dVar 0)) dNil)))
def D_many_with : List PV → Sto → Res PV := denF 2 2 d_many_with
def t_fused_1 : DT := (dTest (dOp gGe (dCall D_many_with 2 0 [.p 0, .p 1] [] (dCons (dVar 3) (dCons (dVar 1) dNil)) dNil) (dVar 2)))
def t_fused_2 : DT := (dTest (dOp gGe (dCall D_many_with 2 0 [.p 0, .p 1] [] (dCons (dVar 3) (dCons (dVar 0) dNil)) dNil) (dVar 2)))
def d_fused : DS := (sSeq (sExpr (dCall D_check_few 1 0 [.p 0] [] (dCons (dVar 1) dNil) dNil))
  (sSeq (sExpr (dCall D_check_spans 2 0 [.p 0, .p 1] [] (dCons (dVar 0) (dCons (dOp gAdd (dVar 1) (dC (.int 1))) dNil)) dNil))
  (sSeq (sSet 2 (dOp gSub (dCB (one fLen) (dCons (dVar 0) dNil)) (dVar 1)))
  (sSeq (sSet 3 (dComp (dIt (dVar 0)) bnd2 [2, 0] t_fused_2 (dVar 0)))
  (sSeq (sSet 4 (dComp (dIt (dVar 0)) bnd2 [2, 0] t_fused_1 (dVar 1)))
  (sSeq (sIf (dNot (dTru (dVar 3))) (sRet (dC .non)) sNext)
  (sRet (dTup (dCons (dCB (gMin) (dCons (dVar 3) dNil)) (dCons (dCB (gMax) (dCons (dVar 4) dNil)) dNil))))))))))
def D_fused : List PV → Sto → Res PV := denF 2 5 d_fused
def d_have_common : DS := (sRet (dAndV (dOp gLe (dOp gIx (dVar 0) (dC (.int 0))) (dOp gIx (dVar 1) (dC (.int 1)))) (dOp gLe (dOp gIx (dVar 1) (dC (.int 0))) (dOp gIx (dVar 0) (dC (.int 1))))))
def D_have_common : List PV → Sto → Res PV := denF 2 2 d_have_common
def t_sensors_off_1 : DT := (dNot (dTru (dCall D_have_common 2 0 [.p 0, .p 1] [] (dCons (dVar 1) (dCons (dVar 2) dNil)) dNil)))
def d_sensors_off : DS := (sRet (dComp (dEnum (dCons (dVar 0) dNil)) bnd2 [1] t_sensors_off_1 (dVar 0)))
def D_sensors_off : List PV → Sto → Res PV := denF 2 2 d_sensors_off
def d_shown_false : DS := (sSeq (sSet 2 (dCall D_fused 1 1 [.p 0, .k 0] [] (dCons (dVar 0) dNil) (dCons (dVar 1) dNil)))
  (sSeq (sIf (dTest (dOp gIs (dVar 2) (dC .non))) (sRet (dLst dNil)) sNext)
  (sRet (dCall D_sensors_off 2 0 [.p 0, .p 1] [] (dCons (dVar 0) (dCons (dVar 2) dNil)) dNil))))
def D_shown_false : List PV → Sto → Res PV := denF 2 3 d_shown_false
def d_Track_narrowed : DS := (sSeq (sIf (dTest (dOp gIs (dFld 10 "last_place" (dVar 0)) (dC .non))) (sRet (dVar 2)) sNext)
  (sSeq (sSet 3 (dMth 10 "wider" D_Track_wider 2 0 [.p 0, .p 1] [] (dVar 0) (dCons (dVar 1) dNil) dNil))
  (sSeq (sIf (dNot (dTru (dCall D_have_common 2 0 [.p 0, .p 1] [] (dCons (dVar 2) (dCons (dVar 3) dNil)) dNil))) (sRaise 1 (dCons (dC (.str "the truth can not have moved so far")) dNil)) sNext)
  (sRet (dTup (dCons (dCB (gMax) (dCons (dOp gIx (dVar 2) (dC (.int 0))) (dCons (dOp gIx (dVar 3) (dC (.int 0))) dNil))) (dCons (dCB (gMin) (dCons (dOp gIx (dVar 2) (dC (.int 1))) (dCons (dOp gIx (dVar 3) (dC (.int 1))) dNil))) dNil)))))))
def D_Track_narrowed : List PV → Sto → Res PV := denF 3 4 d_Track_narrowed
def d_Track_see_L1 : DS := (sPutKv (dC (.bl true)) (dFld 10 "caught" (dVar 0)) (dVar 5))
def d_Track_see : DS := (sSeq (sExpr (dCall D_check_within 3 0 [.p 0, .p 1, .p 2] [] (dCons (dVar 1) (dCons (dFld 10 "last_beat" (dVar 0)) (dCons (dC (.int 100000)) dNil))) dNil))
  (sSeq (sSet 3 (dCall D_fused 1 1 [.p 0, .k 0] [] (dCons (dVar 2) dNil) (dCons (dFld 10 "few" (dVar 0)) dNil)))
  (sSeq (sIf (dTest (dOp gIs (dVar 3) (dC .non))) sBad sNext)
  (sSeq (sSet 4 (dMth 10 "narrowed" D_Track_narrowed 3 0 [.p 0, .p 1, .p 2] [] (dVar 0) (dCons (dVar 1) (dCons (dVar 3) dNil)) dNil))
  (sSeq (sFor 200 (dIt (dCall D_sensors_off 2 0 [.p 0, .p 1] [] (dCons (dVar 2) (dCons (dVar 4) dNil)) dNil)) (gN 5) d_Track_see_L1)
  (sSeq (sFldS 10 "last_beat" (dVar 1) (dVar 0))
  (sSeq (sFldS 10 "last_place" (dVar 4) (dVar 0))
  (sRet (dVar 4)))))))))
def dx_Track_see : DS := (sSeq (sExpr (dCall D_check_within 3 0 [.p 0, .p 1, .p 2] [] (dCons (dVar 1) (dCons (dFld 10 "last_beat" (dVar 0)) (dCons (dC (.int 100000)) dNil))) dNil))
  (sSeq (sSet 3 (dCall D_fused 1 1 [.p 0, .k 0] [] (dCons (dVar 2) dNil) (dCons (dFld 10 "few" (dVar 0)) dNil)))
  (sSeq (sIf (dTest (dOp gIs (dVar 3) (dC .non))) (sRaise 1 (dCons (dC (.str "more than few sensors lie")) dNil)) sNext)
  (sSeq (sSet 4 (dMth 10 "narrowed" D_Track_narrowed 3 0 [.p 0, .p 1, .p 2] [] (dVar 0) (dCons (dVar 1) (dCons (dVar 3) dNil)) dNil))
  (sSeq sBad
  (sSeq (sFldS 10 "last_beat" (dVar 1) (dVar 0))
  (sSeq (sFldS 10 "last_place" (dVar 4) (dVar 0))
  (sRet (dVar 4)))))))))
def D_Track_see : List PV → Sto → Res PV := both (denF 3 6 d_Track_see) (denF 3 6 dx_Track_see)
def d_Track_liars_found : DS := (sRet (dCB (one fSortK) (dCons (dFld 10 "caught" (dVar 0)) dNil)))
def D_Track_liars_found : List PV → Sto → Res PV := denF 1 1 d_Track_liars_found
def d_Track_liars_found__v : DS := (sRet (dCB gSortKN (dCons (dFld 10 "caught" (dVar 0)) dNil)))
def D_Track_liars_found__v : List PV → Sto → Res PV := denF 1 1 d_Track_liars_found__v
def t_law_2 : DT := (dOr (dTest (dOp gLt (dOp gIx (dOp gIx (dVar 2) (dVar 0)) (dC (.int 1))) (dOp gIx (dVar 1) (dC (.int 0))))) (dTest (dOp gGt (dOp gIx (dOp gIx (dVar 2) (dVar 0)) (dC (.int 0))) (dOp gIx (dVar 1) (dC (.int 1))))))
def c_law_3 : DE := (dCall D__law_span 3 0 [.p 0, .p 1, .p 2] [] (dCons (dVar 1) (dCons (dVar 2) (dCons (dOp (gIn true) (dVar 0) (dVar 3)) dNil))) dNil)
def d_law_L1 : DS := (sSeq (sSet 12 (dCall D__law_draw 2 0 [.p 0, .p 1] [] (dCons (dVar 1) (dCons (dC (.int 12)) dNil)) dNil))
  (sSeq (sSet 7 (dCB (gMax) (dCons (dOp gSub (dC (.int 0)) (dC (.int 900000))) (dCons (dCB (gMin) (dCons (dC (.int 900000)) (dCons (dOp gSub (dOp gAdd (dVar 7) (dCall D__law_draw 2 0 [.p 0, .p 1] [] (dCons (dVar 1) (dCons (dOp gAdd (dOp gMul (dOp gMul (dC (.int 2)) (dVar 12)) (dVar 4)) (dC (.int 1))) dNil)) dNil)) (dOp gMul (dVar 12) (dVar 4))) dNil))) dNil))))
  (sSeq (sSet 8 (dOp gAdd (dVar 8) (dVar 12)))
  (sSeq (sIf (dTest (dOp gNotN (dVar 9) (dC .non))) (sSeq (sSet 9 (dTup (dCons (dOp gSub (dOp gIx (dVar 9) (dC (.int 0))) (dOp gMul (dVar 12) (dVar 4))) (dCons (dOp gAdd (dOp gIx (dVar 9) (dC (.int 1))) (dOp gMul (dVar 12) (dVar 4))) dNil))))
  (sIf (dTest (dOp (eqG true) (dMth 10 "guess" D_Track_guess 2 0 [.p 0, .p 1] [] (dVar 6) (dCons (dVar 8) dNil) dNil) (dVar 9))) (sRet (dC (.bl false))) sNext)) sNext)
  (sSeq (sSet 13 (dComp (dRng1 (dCons (dVar 3) dNil)) bnd1 [1, 7, 5] dTrue c_law_3))
  (sSeq (sSet 14 (dCall D_fused 1 1 [.p 0, .k 0] [] (dCons (dVar 13) dNil) (dCons (dVar 2) dNil)))
  (sSeq (sSet 15 (dCall D_shown_false 1 1 [.p 0, .k 0] [] (dCons (dVar 13) dNil) (dCons (dVar 2) dNil)))
  (sSeq (sSet 9 (dIf (dTest (dOp gIs (dVar 9) (dC .non))) (dVar 14) (dTup (dCons (dCB (gMax) (dCons (dOp gIx (dVar 14) (dC (.int 0))) (dCons (dOp gIx (dVar 9) (dC (.int 0))) dNil))) (dCons (dCB (gMin) (dCons (dOp gIx (dVar 14) (dC (.int 1))) (dCons (dOp gIx (dVar 9) (dC (.int 1))) dNil))) dNil)))))
  (sSeq (sSet 15 (dOp gAdd (dVar 15) (dComp (dRng1 (dCons (dVar 3) dNil)) bnd1 [9, 13] t_law_2 (dVar 0))))
  (sSeq (sSet 10 (dSortS (dOp gAdd (dVar 10) (dVar 15))))
  (sSeq (sSet 16 (dMth 10 "see" D_Track_see 3 0 [.p 0, .p 1, .p 2] [] (dVar 6) (dCons (dVar 8) (dCons (dVar 13) dNil)) dNil))
  (sSeq (sIf (dOr (dTest (dOp (eqG true) (dVar 16) (dVar 9))) (dOr (dNot (dTru (dCB (gIsi) (dCons (dVar 16) (dCons (dC (.ty "tuple")) dNil))))) (dNot (dTest (dChain gLe gLe (dOp gIx (dVar 16) (dC (.int 0))) (dVar 7) (dOp gIx (dVar 16) (dC (.int 1)))))))) (sRet (dC (.bl false))) sNext)
  (sSeq (sIf (dOr (dTest (dOp (eqG true) (dMth 10 "liars_found" D_Track_liars_found 1 0 [.p 0] [] (dVar 6) dNil dNil) (dVar 10))) (dTest (dOp (eqG true) (dComp (dIt (dVar 10)) bnd1 [5] (dTest (dOp (gIn true) (dVar 0) (dVar 1))) (dVar 0)) (dLst dNil)))) (sRet (dC (.bl false))) sNext)
  (sSeq (sSet 17 (dOp gAdd (dVar 8) (dCall D__law_draw 2 0 [.p 0, .p 1] [] (dCons (dVar 1) (dCons (dC (.int 30)) dNil)) dNil)))
  (sSeq (sSet 18 (dOp gMul (dOp gSub (dVar 17) (dVar 8)) (dVar 4)))
  (sSeq (sIf (dTest (dOp (eqG true) (dMth 10 "guess" D_Track_guess 2 0 [.p 0, .p 1] [] (dVar 6) (dCons (dVar 17) dNil) dNil) (dTup (dCons (dOp gSub (dOp gIx (dVar 9) (dC (.int 0))) (dVar 18)) (dCons (dOp gAdd (dOp gIx (dVar 9) (dC (.int 1))) (dVar 18)) dNil))))) (sRet (dC (.bl false))) sNext)
  (sExpr (dMt gAppend (dMth 10 "liars_found" D_Track_liars_found__v 1 0 [.p 0] [] (dVar 6) dNil dNil) (dCons (dC (.int 99)) dNil)))))))))))))))))))
def d_law : DS := (sSeq (sSet 1 (dCall D__law_town 1 0 [.p 0] [] (dCons (dVar 0) dNil) dNil))
  (sSeq (sSet 2 (dCall D__law_draw 2 0 [.p 0, .p 1] [] (dCons (dVar 1) (dCons (dC (.int 4)) dNil)) dNil))
  (sSeq (sSet 3 (dOp gAdd (dOp gAdd (dVar 2) (dC (.int 1))) (dCall D__law_draw 2 0 [.p 0, .p 1] [] (dCons (dVar 1) (dCons (dC (.int 7)) dNil)) dNil)))
  (sSeq (sSet 4 (dCall D__law_pick 2 0 [.p 0, .p 1] [] (dCons (dVar 1) (dCons (dLst (dCons (dC (.int 0)) (dCons (dC (.int 1)) (dCons (dC (.int 20)) (dCons (dC (.int 1000)) dNil))))) dNil)) dNil))
  (sSeq (sSet 5 (dCall D__law_liars 3 0 [.p 0, .p 1, .p 2] [] (dCons (dVar 1) (dCons (dVar 3) (dCons (dVar 2) dNil))) dNil))
  (sSeq (sSet 6 (dNew 10 D_Track___init__ 1 2 [.p 0, .k 0, .k 1] [] dNil (dCons (dVar 2) (dCons (dVar 4) dNil))))
  (sSeq (sAsg (dTup (dCons (dOp gSub (dCall D__law_draw 2 0 [.p 0, .p 1] [] (dCons (dVar 1) (dCons (dC (.int 201)) dNil)) dNil) (dC (.int 100))) (dCons (dC (.int 0)) (dCons (dC .non) (dCons (dLst dNil) dNil))))) (gT 4 (gsCons (gN 7) (gsCons (gN 8) (gsCons (gN 9) (gsCons (gN 10) gsNil))))))
  (sSeq (sFor 200 (dRng1 (dCons (dC (.int 8)) dNil)) (gN 11) d_law_L1)
  (sRet (dOp (eqG false) (dMth 10 "guess" D_Track_guess 2 0 [.p 0, .p 1] [] (dVar 6) (dCons (dVar 8) dNil) dNil) (dVar 9)))))))))))
def D_law : List PV → Sto → Res PV := onlyOk (denF 1 19 d_law)
def Tw (M : Sto) : Prop := ∃ ns c, Town M ns c
theorem town_ok (ns : List Int) : ∃ M, D__law_town [.scr ns] ⟨0, fun _ => none⟩ = .ok (.ref 1) M ∧ Tw M ∧ M.n = 2 := by
  cases ns with
  | nil => exact ⟨_, rfl, ⟨[0], 0, rfl, rfl, by simp, Nat.le_refl _⟩, rfl⟩
  | cons n r => exact ⟨_, rfl, ⟨n :: r, 0, rfl, rfl, by simp, Nat.le_refl _⟩, rfl⟩
theorem draw_ok {M : Sto} (T : Tw M) {k : Int} (h1 : 1 ≤ k) (h2 : k < 1073741824) : ∃ d M', D__law_draw [.ref 1, .int k] M = .ok (.int d) M' ∧ 0 ≤ d ∧ d < k ∧ Tw M' ∧ Off M M' := by
  obtain ⟨ns, c, T⟩ := T
  have hl : (0 : Int) < (ns.length : Int) := by
    have : ns.length ≠ 0 := fun z => T.ne (List.eq_nil_of_length_eq_zero z)
    omega
  have e0 : D__law_draw [.ref 1, .int k] M = fin (d__law_draw [some (.ref 1), some (.int k), none, none, none, none] M) := rfl
  rw [e0]
  have a1 := anyP_ref T.tw
  have a0 := anyP_ref T.row
  obtain ⟨M1, eM1⟩ : ∃ M1, M1 = M.set 1 (.lst [.ref 0, .int (c + 1)]) := ⟨_, rfl⟩
  have g0 : M1.g 0 = some (.lst (ns.map PV.int)) := by rw [eM1, Sto.set_ne (by decide)]; exact T.row
  have g1 : M1.g 1 = some (.lst [.ref 0, .int (c + 1)]) := by rw [eM1, Sto.set_same]
  have gi : ∀ i, 2 ≤ i → i < M.n → M1.g i = M.g i := fun i hi _ => by rw [eM1, Sto.set_ne (by omega)]
  have n1 : M1.n = M.n := by rw [eM1]; rfl
  have p1 : putI M (.ref 1) (.int 1) (.int (c + 1)) = some M1 := by
    show (match M.g 1 with
      | some (.lst xs) => (ixN xs.length 1).map fun n => M.set 1 (.lst (xs.set n (.int (c + 1))))
      | _ => none) = _
    rw [T.tw, eM1]
    rfl
  have at0 : 0 ≤ (c + 1) % (ns.length : Int) := Int.emod_nonneg _ (by omega)
  have at1 : (c + 1) % (ns.length : Int) < ns.length := Int.emod_lt_of_pos _ hl
  obtain ⟨at_, eat⟩ : ∃ a, a = (c + 1) % (ns.length : Int) := ⟨_, rfl⟩
  rw [← eat] at at0 at1
  obtain ⟨cell, ecell⟩ : ∃ z, ns[at_.toNat]? = some z := ⟨_, List.getElem?_eq_getElem (by omega)⟩
  have b1 := anyP_ref g1
  have b0 := anyP_ref g0
  unfold d__law_draw
  have s1 : dOp gIx (dVar 0) (dC (.int 0)) [some (.ref 1), some (.int k), none, none, none, none] M = .ok (.ref 0) M := by
    simp [gIx_of a1]; rfl
  have ix0 : atI (ns.map PV.int) at_ = some (.int cell) := by
    rw [atI_nn at0 (by simpa using at1), List.getElem?_map, ecell]
    rfl
  simp [s1, gIx_of a1, gIx_of b1, gIx_of b0, fLen_of b0, sSetI, p1, atI_nn, gMod_int hl, ← eat, ix0, dMt]
  by_cases hc : 1000000000000000000 ≤ cell
  · rw [if_pos hc, gDiv_int (by omega) h2]
    obtain ⟨M2, eM2⟩ : ∃ M2, M2 = M1.set 0 (.lst ((ns.set at_.toNat (cell / k)).map PV.int)) := ⟨_, rfl⟩
    have p2 : putI M1 (.ref 0) (.int at_) (.int (cell / k)) = some M2 := by
      show (match M1.g 0 with
        | some (.lst xs) => (ixN xs.length at_).map fun n => M1.set 0 (.lst (xs.set n (.int (cell / k))))
        | _ => none) = _
      rw [g0, eM2]
      have : ixN (ns.map PV.int).length at_ = some at_.toNat := by
        unfold ixN
        rw [if_pos at0, if_pos (by simpa using at1)]
      simp only [this]
      rw [List.map_set]
      rfl
    simp [p2, gMod_int (show 0 < k by omega)]
    refine ⟨_, _, ⟨rfl, rfl⟩, Int.emod_nonneg _ (by omega), Int.emod_lt_of_pos _ (by omega), ⟨ns.set at_.toNat (cell / k), c + 1, ?_, ?_, ?_, ?_⟩, ?_, fun i hi hn => ?_⟩
    · rw [eM2, Sto.set_same]
    · rw [eM2, Sto.set_ne (by decide)]; exact g1
    · intro z
      have := congrArg List.length z
      rw [List.length_set] at this
      exact T.ne (List.eq_nil_of_length_eq_zero this)
    · rw [eM2]; show 2 ≤ M1.n; rw [n1]; exact T.n
    · rw [eM2]; exact Nat.le_of_eq n1.symm
    · rw [eM2, Sto.set_ne (by omega)]; exact gi i hi hn
  · rw [if_neg hc]
    obtain ⟨x, ex⟩ : ∃ x, x = (cell + 104729 * (c + 1)) % 4294967291 := ⟨_, rfl⟩
    have x0 : 0 ≤ x := by rw [ex]; exact Int.emod_nonneg _ (by decide)
    have x1 : x < 4294967291 := by rw [ex]; exact Int.emod_lt_of_pos _ (by decide)
    obtain ⟨y, ey⟩ : ∃ y, y = x ^ 5 % 4294967279 := ⟨_, rfl⟩
    have y0 : 0 ≤ y := by rw [ey]; exact Int.emod_nonneg _ (by decide)
    have y1 : y < 4294967279 := by rw [ey]; exact Int.emod_lt_of_pos _ (by decide)
    have ix1 : atI [PV.ref 0, PV.int (c + 1)] 1 = some (.int (c + 1)) := rfl
    simp [gIx_of b1, ix1, gMul_int (i := 104729) (j := c + 1) (.inl (by decide)), gMod_int (show (0 : Int) < 4294967291 by decide), ← ex, gPow_int (i := x) (j := 5) (by decide) (by decide) (by omega), gMod_int (show (0 : Int) < 4294967279 by decide), ← ey,
      gDiv_int (show (0 : Int) < 64 by decide) (by decide), gMul_int (i := y / 64) (j := 69621) (.inr (by decide)), gMod_int (show (0 : Int) < 4294967231 by decide), gDiv_int (show (0 : Int) < 8 by decide) (by decide), gMod_int (show 0 < k by omega)]
    exact ⟨_, _, ⟨rfl, rfl⟩, Int.emod_nonneg _ (by omega), Int.emod_lt_of_pos _ (by omega), ⟨ns, c + 1, g0, g1, T.ne, by rw [n1]; exact T.n⟩, Nat.le_of_eq n1.symm, gi⟩
theorem pick_ok {M : Sto} (T : Tw M) {xs : List PV} (hne : xs ≠ []) (hl : xs.length < 1073741824) : ∃ x M', D__law_pick [.ref 1, .lst xs] M = .ok x M' ∧ x ∈ xs ∧ Tw M' ∧ Off M M' := by
  have h0 : xs.length ≠ 0 := fun z => hne (List.eq_nil_of_length_eq_zero z)
  obtain ⟨d, M', e, d0, d1, T', o⟩ := draw_ok T (k := (xs.length : Int)) (by omega) (by omega)
  have hd : d.toNat < xs.length := by omega
  refine ⟨xs[d.toNat], M', ?_, List.getElem_mem hd, T', o⟩
  have e0 : D__law_pick [.ref 1, .lst xs] M = fin (d__law_pick [some (.ref 1), some (.lst xs)] M) := rfl
  rw [e0]
  unfold d__law_pick
  simp [genC, gen, fLen_of (M := M) (x := .lst xs) rfl, e, gIx_of (M := M') (x := .lst xs) rfl, atI_nn d0 d1, List.getElem?_eq_getElem hd]
theorem number_ok {M : Sto} (T : Tw M) : ∃ n M', D__law_number [.ref 1] M = .ok (.int n) M' ∧ -1000000 ≤ n ∧ n ≤ 1000000 ∧ Tw M' ∧ Off M M' := by
  obtain ⟨m, M1, e1, hm, T1, o1⟩ := pick_ok T (xs := [.int 3, .int 30, .int 1000, .int 1000001]) (by simp) (by decide)
  obtain ⟨k, rfl, k1, k2⟩ : ∃ k : Int, m = .int k ∧ 1 ≤ k ∧ k ≤ 1000001 := by
    simp only [List.mem_cons, List.mem_nil_iff, or_false] at hm
    rcases hm with rfl | rfl | rfl | rfl
    · exact ⟨_, rfl, by decide, by decide⟩
    · exact ⟨_, rfl, by decide, by decide⟩
    · exact ⟨_, rfl, by decide, by decide⟩
    · exact ⟨_, rfl, by decide, by decide⟩
  obtain ⟨d, M2, e2, d0, d1, T2, o2⟩ := draw_ok T1 (k := k) k1 (by omega)
  obtain ⟨b, M3, e3, b0, b1, T3, o3⟩ := draw_ok T2 (k := 2) (by decide) (by decide)
  have e0 : D__law_number [.ref 1] M = fin (d__law_number [some (.ref 1), none, none] M) := rfl
  have sz : (4 : Nat) ≤ sizeLine := by decide
  rw [e0]
  unfold d__law_number
  by_cases hb : b = 0
  · subst hb
    have eq : eqG false M3 (.int 0) (.int 0) = some (.bl true) := rfl
    simp [genC, gen, sz, e1, e2, e3, eq]
    exact ⟨_, _, ⟨rfl, rfl⟩, by omega, by omega, T3, (o1.trans o2).trans o3⟩
  · have eq : eqG false M3 (.int b) (.int 0) = some (.bl false) := by
      show some (PV.bl (b == 0)) = _
      rw [show (b == 0) = false by simpa using hb]
    simp [genC, gen, sz, e1, e2, e3, eq]
    exact ⟨_, _, ⟨rfl, rfl⟩, by omega, by omega, T3, (o1.trans o2).trans o3⟩
theorem liars_ok {M : Sto} (T : Tw M) {crew most : Int} (h0 : 0 ≤ crew) (h1 : crew ≤ 1000) (hm : 0 ≤ most) : ∃ (fs : List Int) (M' : Sto), D__law_liars [.ref 1, .int crew, .int most] M = .ok (.lst (fs.map PV.int)) M' ∧ (fs.length : Int) ≤ most ∧ (∀ f ∈ fs, 0 ≤ f ∧ f < crew) ∧ fs.Pairwise (· < ·) ∧ Tw M' ∧ Off M M' := by
  have hn2 : 2 ≤ M.n := by obtain ⟨ns, c, t⟩ := T; exact t.n
  have e0 : D__law_liars [.ref 1, .int crew, .int most] M = (fin (d__law_liars [some (.ref 1), some (.int crew), some (.int most), none, none] M)).noX := rfl
  have sz : (0 : Nat) ≤ sizeLine := Nat.zero_le _
  have T0 : Tw (M.new (.lst [])) := by
    obtain ⟨ns, c, t⟩ := T
    exact ⟨ns, c, by rw [Sto.new_ne (by omega)]; exact t.row, by rw [Sto.new_ne (by omega)]; exact t.tw, t.ne, Nat.le_succ_of_le t.n⟩
  have dr : dRng1 (dCons (dVar 1) dNil) [some (.ref 1), some (.int crew), some (.int most), some (.ref M.n), none] (M.new (.lst [])) = .ok (.fix (rngP 0 crew.toNat)) (M.new (.lst [])) := by
    have : small crew = true := small_iff.mpr (by omega)
    simp [dRng1, this]
  have lp := loopF_ix (g := gN 4) (db := d__law_liars_L1)
    (fun i ρ M' => ∃ (h : Option PV) (fs : List Int), ρ = [some (.ref 1), some (.int crew), some (.int most), some (.ref M.n), h] ∧ M'.g M.n = some (.lst (fs.map PV.int)) ∧ Tw M' ∧ M.n < M'.n ∧ (∀ j, 2 ≤ j → j < M.n → M'.g j = M.g j) ∧ (fs.length : Int) ≤ most ∧ (∀ f ∈ fs, 0 ≤ f ∧ f < i) ∧ fs.Pairwise (· < ·) ∧ fs.length ≤ i)
    (rngP 0 crew.toNat) 0 [some (.ref 1), some (.int crew), some (.int most), some (.ref M.n), none] (M.new (.lst []))
    ⟨none, [], rfl, Sto.new_same, T0, Nat.lt_succ_self _, fun j _ hj => Sto.new_ne (by omega), by simpa using hm, by simp, .nil, Nat.le_refl _⟩ (by
      rintro i x hx ρ M1 ⟨hh, fs, rfl, g1, T1, n1, of1, len1, mem1, pw1, li1⟩
      rw [rngP_get] at hx
      split at hx
      · rename_i hi
        cases hx
        generalize hzi : (0 + (i : Int)) = z
        obtain ⟨d, M2, ed, d0, d1, T2, o2⟩ := draw_ok T1 (k := 3) (by decide) (by decide)
        have g2 : M2.g M.n = some (.lst (fs.map PV.int)) := by rw [o2.g M.n hn2 n1]; exact g1
        have of2 : ∀ j, 2 ≤ j → j < M.n → M2.g j = M.g j := fun j hj hn => by rw [o2.g j hj (by omega)]; exact of1 j hj hn
        have n2 : M.n < M2.n := Nat.lt_of_lt_of_le n1 o2.n
        have mem2 : ∀ f ∈ fs, 0 ≤ f ∧ f < ((0 + i + 1 : Nat) : Int) := fun f hf => by have := mem1 f hf; omega
        have stay1 : ∃ (h : Option PV) (fs : List Int), [some (.ref 1), some (.int crew), some (.int most), some (.ref M.n), some (PV.int z)] = [some (.ref 1), some (.int crew), some (.int most), some (.ref M.n), h] ∧ M1.g M.n = some (.lst (fs.map PV.int)) ∧ Tw M1 ∧ M.n < M1.n ∧ (∀ j, 2 ≤ j → j < M.n → M1.g j = M.g j) ∧ (fs.length : Int) ≤ most ∧ (∀ f ∈ fs, 0 ≤ f ∧ f < ((0 + i + 1 : Nat) : Int)) ∧ fs.Pairwise (· < ·) ∧ fs.length ≤ 0 + i + 1 := ⟨_, fs, rfl, g1, T1, n1, of1, len1, mem2, pw1, by omega⟩
        have lenE : fLen M1 (.ref M.n) = some (.int fs.length) := by
          rw [fLen_of (anyP_ref g1), List.length_map]
        by_cases hl : (fs.length : Int) < most
        · by_cases hd : d = 0
          · subst hd
            have eq : eqG false M2 (.int 0) (.int 0) = some (.bl true) := rfl
            have hz : fs.length < sizeLine := by
              exact Nat.lt_of_le_of_lt (show fs.length ≤ 1000 by omega) (by decide)
            have ap : gAppend M2 (.ref M.n) [.int z] = some (.non, M2.set M.n (.lst ((fs ++ [z]).map PV.int))) := by
              unfold gAppend
              have : cellL M2 (.ref M.n) = some (M.n, fs.map PV.int) := by
                show (match M2.g M.n with
                  | some (.lst xs) => some (M.n, xs)
                  | _ => none) = _
                rw [g2]
              rw [this]
              simp [hz]
            refine ⟨_, [some (.ref 1), some (.int crew), some (.int most), some (.ref M.n), some (PV.int z)], M2.set M.n (.lst ((fs ++ [z]).map PV.int)), rfl, ?_, _, fs ++ [z], rfl, Sto.set_same, ?_, n2, fun j hj hn => ?_, by simp; omega, fun f hf => ?_, ?_, by simp; omega⟩
            · have sq : seqP M2 (.ref M.n) = some (fs.map PV.int) := seqP_ref g2
              simp [d__law_liars_L1, genC, gen, gN, lenE, hl, ed, eq, dMt, sq, ap]
            · obtain ⟨ns, c, t⟩ := T2
              exact ⟨ns, c, by rw [Sto.set_ne (by omega)]; exact t.row, by rw [Sto.set_ne (by omega)]; exact t.tw, t.ne, t.n⟩
            · rw [Sto.set_ne (by omega)]
              exact of2 j hj hn
            · rcases List.mem_append.mp hf with hf | hf
              · exact mem2 f hf
              · rw [List.mem_singleton.mp hf]
                omega
            · refine List.pairwise_append.mpr ⟨pw1, List.pairwise_singleton _ _, fun a ha b hb => ?_⟩
              rw [List.mem_singleton.mp hb]
              have := mem1 a ha
              omega
          · have eq : eqG false M2 (.int d) (.int 0) = some (.bl false) := by
              show some (PV.bl (d == 0)) = _
              rw [show (d == 0) = false by simpa using hd]
            refine ⟨_, [some (.ref 1), some (.int crew), some (.int most), some (.ref M.n), some (PV.int z)], M2, rfl, ?_, _, fs, rfl, g2, T2, n2, of2, len1, mem2, pw1, by omega⟩
            simp [d__law_liars_L1, genC, gen, gN, lenE, hl, ed, eq]
        · refine ⟨_, [some (.ref 1), some (.int crew), some (.int most), some (.ref M.n), some (PV.int z)], M1, rfl, ?_, stay1⟩
          simp [d__law_liars_L1, gN, lenE, hl]
      · cases hx)
  obtain ⟨ρ', M', e, hh, fs, rfl, g', T', n', of', len', mem', pw', _⟩ := lp
  rw [rngP_len] at mem'
  refine ⟨fs, M'.drop M.n, ?_, len', fun f hf => by have := mem' f hf; omega, pw', ?_, Nat.le_of_lt n', fun i hi hn => ?_⟩
  · rw [e0]
    unfold d__law_liars
    have e1 : (dLstN dNil [some (.ref 1), some (.int crew), some (.int most), none, none] M) = .ok (.ref M.n) (M.new (.lst [])) := by simp [sz]
    simp only [sSeq_eq, sSet_eq, e1, Res.st_ok, RS.then_nx, List.set_cons_succ, List.set_cons_zero]
    rw [sFor_fix dr, e]
    simp [dFrz, g']
  · obtain ⟨ns, c, t⟩ := T'
    exact ⟨ns, c, by show (if 0 = M.n then none else M'.g 0) = _; rw [if_neg (by omega)]; exact t.row, by show (if 1 = M.n then none else M'.g 1) = _; rw [if_neg (by omega)]; exact t.tw, t.ne, t.n⟩
  · show (if i = M.n then none else M'.g i) = _
    rw [if_neg (by omega)]
    exact of' i hi hn

/-! ### checks -/
def wholeP : PV → Bool
  | .int _ => true
  | _ => false
def inWP (x : PV) (a b : Int) : Bool := match x with
  | .int i => decide (a ≤ i) && decide (i ≤ b)
  | _ => false
def Kd (M : Sto) (x : PV) : Prop := ∃ n, kindP M x = some n
theorem isi_kd {M : Sto} {x : PV} {n m : String} (h : kindP M x = some n) (hm : m ∈ kinds) : gIsi M [x, .ty m] = some (.bl (sub n m), M) := by
  show (match kindP M x with
    | some n => if m ∈ kinds then some (PV.bl (sub n m), M) else none
    | none => none) = _
  rw [h]
  exact if_pos hm
theorem wholeP_kd {M : Sto} {x : PV} {n : String} (h : kindP M x = some n) : (sub n "int" && !sub n "bool") = wholeP x := by
  cases x with
  | ref i =>
    have h : (match M.g i with
      | some (.lst _) => some "list"
      | _ => none) = some n := h
    split at h
    · cases h; rfl
    · cases h
  | non => cases h; rfl
  | bl _ => cases h; rfl
  | int _ => cases h; rfl
  | str _ => cases h; rfl
  | tup _ => cases h; rfl
  | lst _ => cases h; rfl
  | dct _ => cases h; rfl
  | _ => cases h
theorem is_whole_eq {M : Sto} {x : PV} (h : Kd M x) : D_is_whole [x] M = .ok (.bl (wholeP x)) M := by
  obtain ⟨n, h⟩ := h
  have e0 : D_is_whole [x] M = fin (d_is_whole [some x] M) := rfl
  rw [e0, ← wholeP_kd h]
  unfold d_is_whole
  simp [dAndV, dNotV, isi_kd h (show "int" ∈ kinds by decide), isi_kd h (show "bool" ∈ kinds by decide)]
  cases sub n "int" <;> simp
theorem is_within_eq {M : Sto} {x : PV} {a b : Int} (h : Kd M x) : D_is_within [x, .int a, .int b] M = .ok (.bl (inWP x a b)) M := by
  have e0 : D_is_within [x, .int a, .int b] M = fin (d_is_within [some x, some (.int a), some (.int b)] M) := rfl
  rw [e0]
  unfold d_is_within
  simp [genC, gen, is_whole_eq h, dAndV, dChain]
  cases x with
  | int i =>
    simp [wholeP, inWP]
    by_cases h : a ≤ i <;> simp [h]
  | _ => rfl
theorem is_number_eq {M : Sto} {x : PV} (h : Kd M x) : D_is_number [x] M = .ok (.bl (inWP x (-1000000) 1000000)) M := by
  have e0 : D_is_number [x] M = fin (d_is_number [some x] M) := rfl
  rw [e0]
  unfold d_is_number
  simp [genC, gen, is_within_eq h]
theorem Kd.int {M : Sto} (i : Int) : Kd M (.int i) := ⟨_, rfl⟩
theorem check_within_eq {M : Sto} {x : PV} {a b : Int} (h : Kd M x) (ha : small a = true) (hb : small b = true) : D_check_within [x, .int a, .int b] M = if inWP x a b = true then .ok .non M else .exc 0 M := by
  have e0 : D_check_within [x, .int a, .int b] M = fin (d_check_within [some x, some (.int a), some (.int b)] M) := rfl
  rw [e0]
  unfold d_check_within
  simp [genC, gen, is_within_eq h]
  cases inWP x a b with
  | true => simp
  | false =>
    have sz : (1 : Nat) ≤ sizeLine := by decide
    simp [dFstr, jTxt, jInt, jNil, ha, hb, sz]
theorem check_few_eq {M : Sto} {x : PV} (h : Kd M x) : D_check_few [x] M = if inWP x 0 5 = true then .ok .non M else .exc 0 M := by
  have e0 : D_check_few [x] M = fin (d_check_few [some x] M) := rfl
  rw [e0]
  unfold d_check_few
  simp [genC, gen, check_within_eq h (a := 0) (b := 5) (by decide) (by decide)]
  cases inWP x 0 5 <;> simp
def fitP (M : Sto) (x : PV) : Bool := match seqP M x with
  | some xs => decide ((1 : Int) ≤ xs.length) && decide ((xs.length : Int) ≤ 40)
  | none => false
theorem kd_list {M : Sto} {x : PV} {n : String} (h : kindP M x = some n) : (sub n "list" = true ∧ ∃ xs, seqP M x = some xs) ∨ (sub n "list" = false ∧ seqP M x = none) := by
  cases x with
  | ref i =>
    have h : (match M.g i with
      | some (.lst _) => some "list"
      | _ => none) = some n := h
    split at h
    · rename_i xs e
      cases h
      exact .inl ⟨rfl, xs, seqP_ref e⟩
    · cases h
  | non => cases h; exact .inr ⟨rfl, rfl⟩
  | bl _ => cases h; exact .inr ⟨rfl, rfl⟩
  | int _ => cases h; exact .inr ⟨rfl, rfl⟩
  | str _ => cases h; exact .inr ⟨rfl, rfl⟩
  | tup _ => cases h; exact .inr ⟨rfl, rfl⟩
  | lst xs => cases h; exact .inl ⟨rfl, xs, rfl⟩
  | dct _ => cases h; exact .inr ⟨rfl, rfl⟩
  | _ => cases h
theorem seqP_any {M : Sto} {x : PV} {xs : List PV} (h : seqP M x = some xs) : anyP M x = some xs := by
  cases x with
  | tup _ => cases h
  | _ => exact h
theorem is_fit_list_eq {M : Sto} {x : PV} (h : Kd M x) : D_is_fit_list [x] M = .ok (.bl (fitP M x)) M := by
  obtain ⟨n, h⟩ := h
  have e0 : D_is_fit_list [x] M = fin (d_is_fit_list [some x] M) := rfl
  rw [e0]
  unfold d_is_fit_list
  simp [dAndV, dChain, isi_kd h (show "list" ∈ kinds by decide)]
  rcases kd_list h with ⟨h1, xs, h2⟩ | ⟨h1, h2⟩
  · unfold fitP
    simp [h1, h2, fLen_of (seqP_any h2)]
    by_cases hh : (1 : Int) ≤ xs.length <;> simp [hh]
  · unfold fitP
    simp [h1, h2]
/-! ### pairs and spans -/
def pairP : PV → Bool
  | .tup [_, _] => true
  | _ => false
theorem eq_len {M : Sto} {n m : Int} : eqG false M (.int n) (.int m) = some (.bl (n == m)) := rfl
theorem ne_len {M : Sto} {n m : Int} : eqG true M (.int n) (.int m) = some (.bl (!(n == m))) := rfl
theorem kd_tup {M : Sto} {x : PV} {n : String} (h : kindP M x = some n) : (∃ xs, x = .tup xs ∧ n = "tuple") ∨ (sub n "tuple" = false ∧ pairP x = false) := by
  cases x with
  | ref i =>
    have h : (match M.g i with
      | some (.lst _) => some "list"
      | _ => none) = some n := h
    split at h
    · cases h; exact .inr ⟨rfl, rfl⟩
    · cases h
  | non => cases h; exact .inr ⟨rfl, rfl⟩
  | bl _ => cases h; exact .inr ⟨rfl, rfl⟩
  | int _ => cases h; exact .inr ⟨rfl, rfl⟩
  | str _ => cases h; exact .inr ⟨rfl, rfl⟩
  | tup xs => cases h; exact .inl ⟨xs, rfl, rfl⟩
  | lst xs => cases h; exact .inr ⟨rfl, rfl⟩
  | dct _ => cases h; exact .inr ⟨rfl, rfl⟩
  | _ => cases h
theorem is_pair_eq {M : Sto} {x : PV} (h : Kd M x) : D_is_pair [x] M = .ok (.bl (pairP x)) M := by
  obtain ⟨n, h⟩ := h
  have e0 : D_is_pair [x] M = fin (d_is_pair [some x] M) := rfl
  rw [e0]
  unfold d_is_pair
  simp [dAndV, isi_kd h (show "tuple" ∈ kinds by decide)]
  rcases kd_tup h with ⟨xs, rfl, rfl⟩ | ⟨h1, h2⟩
  · have : sub "tuple" "tuple" = true := rfl
    simp [this, fLen_of (M := M) (x := .tup xs) rfl, eq_len]
    match xs with
    | [] => rfl
    | [_] => rfl
    | [_, _] => rfl
    | _ :: _ :: _ :: r =>
      show ((((r.length + 1 + 1 + 1 : Nat) : Int)) == 2) = false
      simp
      omega
  · simp [h1, h2]
/-- what it bears, if it is a tuple, is of a known kind -/
def KdT (M : Sto) (x : PV) : Prop := Kd M x ∧ ∀ xs, x = .tup xs → ∀ y ∈ xs, Kd M y
def numPair : PV → Bool
  | .tup [a, b] => inWP a (-1000000) 1000000 && inWP b (-1000000) 1000000
  | _ => false
theorem numPair_no {x : PV} (h : pairP x = false) : numPair x = false := by
  cases x with
  | tup xs =>
    match xs with
    | [] => rfl
    | [_] => rfl
    | [_, _] => cases h
    | _ :: _ :: _ :: _ => rfl
  | _ => rfl
theorem is_number_pair_eq {M : Sto} {x : PV} (h : KdT M x) : D_is_number_pair [x] M = .ok (.bl (numPair x)) M := by
  have e0 : D_is_number_pair [x] M = fin (d_is_number_pair [some x] M) := rfl
  rw [e0]
  unfold d_is_number_pair
  simp [genC, gen, is_pair_eq h.1, dAndV]
  cases hp : pairP x with
  | false => simp [numPair_no hp]
  | true =>
    obtain ⟨a, b, rfl⟩ : ∃ a b, x = .tup [a, b] := by
      cases x with
      | tup xs =>
        match xs, hp with
        | [a, b], _ => exact ⟨a, b, rfl⟩
      | _ => cases hp
    have ka := h.2 _ rfl a (by simp)
    have kb := h.2 _ rfl b (by simp)
    have i0 : gIx M (.tup [a, b]) (.int 0) = some a := rfl
    have i1 : gIx M (.tup [a, b]) (.int 1) = some b := rfl
    simp [i0, i1, is_number_eq ka, is_number_eq kb]
    show _ = Res.ok (PV.bl (inWP a (-1000000) 1000000 && inWP b (-1000000) 1000000)) M
    cases inWP a (-1000000) 1000000 <;> simp
def leP : PV → PV → Bool
  | .int a, .int b => decide (a ≤ b)
  | _, _ => false
def lePair : PV → Bool
  | .tup [a, b] => leP a b
  | _ => false
def spanB (x : PV) : Bool := numPair x && lePair x
theorem inWP_int {x : PV} {a b : Int} (h : inWP x a b = true) : ∃ i, x = .int i ∧ a ≤ i ∧ i ≤ b := by
  cases x with
  | int i =>
    have h : (decide (a ≤ i) && decide (i ≤ b)) = true := h
    simp only [Bool.and_eq_true, decide_eq_true_eq] at h
    exact ⟨i, rfl, h⟩
  | _ => cases h
theorem numPair_ints {x : PV} (h : numPair x = true) : ∃ a b : Int, x = .tup [.int a, .int b] ∧ (-1000000 ≤ a ∧ a ≤ 1000000) ∧ -1000000 ≤ b ∧ b ≤ 1000000 := by
  have hp : pairP x = true := by
    cases e : pairP x with
    | true => rfl
    | false => rw [numPair_no e] at h; cases h
  cases x with
  | tup xs =>
    match xs, hp with
    | [a, b], _ =>
      have h : (inWP a (-1000000) 1000000 && inWP b (-1000000) 1000000) = true := h
      rw [Bool.and_eq_true] at h
      obtain ⟨i, rfl, hi⟩ := inWP_int h.1
      obtain ⟨k, rfl, hk⟩ := inWP_int h.2
      exact ⟨i, k, rfl, hi, hk⟩
  | _ => cases hp
theorem is_span_eq {M : Sto} {x : PV} (h : KdT M x) : D_is_span [x] M = .ok (.bl (spanB x)) M := by
  have e0 : D_is_span [x] M = fin (d_is_span [some x] M) := rfl
  rw [e0]
  unfold d_is_span spanB
  simp [genC, gen, is_number_pair_eq h, dAndV]
  cases hp : numPair x with
  | false => simp
  | true =>
    obtain ⟨a, b, rfl, _⟩ := numPair_ints hp
    have i0 : gIx M (.tup [.int a, .int b]) (.int 0) = some (.int a) := rfl
    have i1 : gIx M (.tup [.int a, .int b]) (.int 1) = some (.int b) := rfl
    simp [i0, i1]
    rfl
/-- things whose parts are known, as far as a look at spans goes -/
def KdS (M : Sto) (x : PV) : Prop := Kd M x ∧ ∀ xs, seqP M x = some xs → ∀ y ∈ xs, KdT M y
def okSp (M : Sto) (x : PV) (least : Int) : Bool := fitP M x && (match seqP M x with
  | some xs => decide (least ≤ xs.length) && xs.all spanB
  | none => false)
theorem kd_it {M : Sto} {x : PV} {xs : List PV} {d : DE} {ρ : En} (hx : x = .lst xs) (h : d ρ M = .ok x M) : dIt d ρ M = .ok (.fix xs) M := by
  subst hx
  exact dIt_lst h
theorem fit_len {M : Sto} {x : PV} {xs : List PV} (h : seqP M x = some xs) (hf : fitP M x = true) : 1 ≤ xs.length ∧ xs.length ≤ 40 := by
  unfold fitP at hf
  rw [h] at hf
  simp only [Bool.and_eq_true, decide_eq_true_eq] at hf
  omega
theorem sz40 {n : Nat} (h : n ≤ 1000) : n < sizeLine := Nat.lt_of_le_of_lt h (by decide)
theorem all_map_bl {xs : List PV} {p : PV → Bool} {M : Sto} : fAll M (.lst (xs.map fun x => PV.bl (p x))) = some (.bl (xs.all p)) := by
  have : xs.map (fun x => PV.bl (p x)) = (xs.map p).map PV.bl := by rw [List.map_map]; rfl
  unfold fAll bseq
  rw [this]
  simp only [seqP_lst, Option.bind_some, boolsP_map]
  rw [List.all_map]
  rfl
theorem check_spans_eq {M : Sto} {x : PV} {least : Int} (h : KdS M x) (hr : ∀ i, x ≠ .ref i) (hl : small least = true) : D_check_spans [x, .int least] M = if okSp M x least = true then .ok .non M else .exc 1 M := by
  have e0 : D_check_spans [x, .int least] M = fin (d_check_spans [some x, some (.int least)] M) := rfl
  have sz : (1 : Nat) ≤ sizeLine := by decide
  rw [e0]
  unfold d_check_spans
  simp [genC, gen, is_fit_list_eq h.1]
  unfold okSp
  cases hf : fitP M x with
  | false => simp [dFstr, jTxt, jInt, jNil, hl, sz]
  | true =>
    obtain ⟨xs, hx⟩ : ∃ xs, seqP M x = some xs := by
      unfold fitP at hf
      cases e : seqP M x with
      | none => rw [e] at hf; cases hf
      | some xs => exact ⟨xs, rfl⟩
    have ex : x = .lst xs := by
      cases x with
      | lst _ => cases hx; rfl
      | ref i => exact absurd rfl (hr i)
      | _ => cases hx
    have hlen := fit_len hx hf
    subst ex
    simp [fLen_of (M := M) (x := .lst xs) rfl]
    by_cases hle : (xs.length : Int) < least
    · have : ¬ least ≤ (xs.length : Int) := by omega
      simp [hle, this, dFstr, jTxt, jInt, jNil, hl, sz]
    · have : least ≤ (xs.length : Int) := by omega
      simp [hle, this]
      have hc : compF bnd1 (L3.rest [] [some (.lst xs), some (.int least)]) dTrue c_check_spans_1 xs M = .ok (xs.map fun y => PV.bl (spanB y)) M := by
        have := compF_map (bnd := bnd1) (r := L3.rest [] [some (.lst xs), some (.int least)]) (dt := dTrue) (de := c_check_spans_1) (M := M) id (fun y => PV.bl (spanB y)) xs fun y hy => ⟨_, rfl, rfl, by
          simp [c_check_spans_1, genC, gen, is_span_eq (h.2 xs rfl y hy)]⟩
        simpa using this
      rw [dComp_of (dIt_lst rfl) (sz40 (by omega)) hc]
      have fa := all_map_bl (xs := xs) (p := spanB) (M := M)
      obtain ⟨b, hb⟩ : ∃ b, xs.all spanB = b := ⟨_, rfl⟩
      rw [hb] at fa
      have hb2 : (if ∀ (x : PV), x ∈ xs → spanB x = true then Res.ok PV.non M else Res.exc 1 M) = if b = true then Res.ok PV.non M else Res.exc 1 M := by
        rw [← hb]
        simp only [List.all_eq_true]
      rw [hb2]
      simp [fa]
      cases b with
      | true => simp
      | false => simp [dFstr, jTxt, jInt, jNil, hl, sz]
/-! ### spans that are drawn -/
def spP (p : Int × Int) : PV := .tup [.int p.1, .int p.2]
theorem max2_eq {M : Sto} {i j : Int} : gMax M [.int i, .int j] = some (.int (if j > i then j else i), M) := rfl
theorem min2_eq {M : Sto} {i j : Int} : gMin M [.int i, .int j] = some (.int (if j < i then j else i), M) := rfl
theorem span_ok {M : Sto} (T : Tw M) {t : Int} (t0 : -1000 ≤ t) (t1 : t ≤ 1000) (h : Bool) : ∃ (p : Int × Int) (M' : Sto), D__law_span [.ref 1, .int t, .bl h] M = .ok (spP p) M' ∧ ((-1000000 ≤ p.1 ∧ p.1 ≤ 1000000) ∧ (-1000000 ≤ p.2 ∧ p.2 ≤ 1000000) ∧ p.1 ≤ p.2) ∧ (h = true → p.1 ≤ t ∧ t ≤ p.2) ∧ Tw M' ∧ Off M M' := by
  have e0 : D__law_span [.ref 1, .int t, .bl h] M = fin (d__law_span [some (.ref 1), some (.int t), some (.bl h), none] M) := rfl
  have sz : (2 : Nat) ≤ sizeLine := by decide
  rw [e0]
  unfold d__law_span
  cases h with
  | true =>
    obtain ⟨a, M1, e1, a0, a1, T1, o1⟩ := draw_ok T (k := 9) (by decide) (by decide)
    obtain ⟨b, M2, e2, b0, b1, T2, o2⟩ := draw_ok T1 (k := 9) (by decide) (by decide)
    refine ⟨(t - a, t + b), M2, ?_, ⟨⟨?_, ?_⟩, ⟨?_, ?_⟩, ?_⟩, fun _ => ⟨?_, ?_⟩, T2, o1.trans o2⟩
    · simp [genC, gen, e1, e2, sz, spP]
    all_goals (dsimp only; omega)
  | false =>
    obtain ⟨a, M1, e1, a0, a1, T1, o1⟩ := draw_ok T (k := 40) (by decide) (by decide)
    obtain ⟨n, M2, e2, n0, n1, T2, o2⟩ := number_ok T1
    obtain ⟨x, M3, e3, hx, T3, o3⟩ := pick_ok T2 (xs := [.int (a - 20), .int n]) (by simp) (by simp)
    obtain ⟨v, rfl⟩ : ∃ v : Int, x = .int v := by
      simp only [List.mem_cons, List.mem_nil_iff, or_false] at hx
      rcases hx with rfl | rfl
      · exact ⟨_, rfl⟩
      · exact ⟨_, rfl⟩
    obtain ⟨b, M4, e4, b0, b1, T4, o4⟩ := draw_ok T3 (k := 15) (by decide) (by decide)
    obtain ⟨lo, elo⟩ : ∃ lo : Int, lo = (if (if t + v < 999000 then t + v else 999000) > -1000000 then (if t + v < 999000 then t + v else 999000) else -1000000) := ⟨_, rfl⟩
    have l0 : -1000000 ≤ lo ∧ lo ≤ 999000 := by
      rw [elo]
      split <;> split <;> omega
    refine ⟨(lo, lo + b), M4, ?_, ⟨⟨?_, ?_⟩, ⟨?_, ?_⟩, ?_⟩, (fun z => by cases z), T4, ((o1.trans o2).trans o3).trans o4⟩
    · simp [genC, gen, e1, e2, e3, e4, sz, spP, max2_eq, min2_eq, ← elo]
    all_goals (dsimp only; omega)
structure GoodSp (ps : List (Int × Int)) : Prop where
  bd : ∀ p ∈ ps, (-1000000 ≤ p.1 ∧ p.1 ≤ 1000000) ∧ (-1000000 ≤ p.2 ∧ p.2 ≤ 1000000) ∧ p.1 ≤ p.2
/-! ### stores -/
theorem set_set {M : Sto} {c : Nat} {x y : Cell} : (M.set c x).set c y = M.set c y := by
  unfold Sto.set
  congr 1
  funext j
  by_cases h : j = c <;> simp [h]
theorem set_self {M : Sto} {c : Nat} {x : Cell} (h : M.g c = some x) : M.set c x = M := by
  cases M with
  | mk n g =>
    show Sto.mk n _ = _
    congr 1
    funext j
    by_cases hj : j = c
    · subst hj; simp; exact h.symm
    · simp [hj]
/-- the store is as it was, and maybe some things more were made and put away -/
structure Ex (M M' : Sto) : Prop where
  n : M.n ≤ M'.n
  g : ∀ i, i < M.n → M'.g i = M.g i
theorem Ex.refl (M : Sto) : Ex M M := ⟨Nat.le_refl _, fun _ _ => rfl⟩
theorem Ex.trans {A B C : Sto} (h : Ex A B) (k : Ex B C) : Ex A C := ⟨Nat.le_trans h.n k.n, fun i hi => (k.g i (Nat.lt_of_lt_of_le hi h.n)).trans (h.g i hi)⟩
theorem Ex.tw {M M' : Sto} (h : Ex M M') (T : Tw M) : Tw M' := by
  obtain ⟨ns, c, t⟩ := T
  have := t.n
  exact ⟨ns, c, by rw [h.g 0 (by omega)]; exact t.row, by rw [h.g 1 (by omega)]; exact t.tw, t.ne, Nat.le_trans t.n h.n⟩
theorem ex_new {M : Sto} {c : Cell} : Ex M (M.new c) := ⟨Nat.le_succ _, fun i hi => Sto.new_ne (by omega)⟩

/-! ### what spans refuse -/
theorem fused_few {M : Sto} {x b : PV} (h : Kd M b) (hb : inWP b 0 5 = false) : D_fused [x, b] M = .exc 0 M := by
  have e0 : D_fused [x, b] M = fin (d_fused [some x, some b, none, none, none] M) := rfl
  rw [e0]
  unfold d_fused
  simp [genC, gen, check_few_eq h, hb]
theorem small_few {k : Int} (h0 : 0 ≤ k) (h1 : k ≤ 100) : small k = true := small_iff.mpr (by omega)
theorem fused_bad {M : Sto} {x : PV} {k : Int} (h : KdS M x) (hr : ∀ i, x ≠ .ref i) (k0 : 0 ≤ k) (k5 : k ≤ 5) (hb : okSp M x (k + 1) = false) : D_fused [x, .int k] M = .exc 1 M := by
  have e0 : D_fused [x, .int k] M = fin (d_fused [some x, some (.int k), none, none, none] M) := rfl
  have hk : inWP (.int k) 0 5 = true := by
    show (decide (0 ≤ k) && decide (k ≤ 5)) = true
    simp [k0, k5]
  rw [e0]
  unfold d_fused
  simp [genC, gen, check_few_eq (Kd.int k), hk, check_spans_eq h hr (small_few (k := k + 1) (by omega) (by omega)), hb]
theorem shown_exc {M : Sto} {x b : PV} {c : Nat} (h : D_fused [x, b] M = .exc c M) : D_shown_false [x, b] M = .exc c M := by
  have e0 : D_shown_false [x, b] M = fin (d_shown_false [some x, some b, none] M) := rfl
  rw [e0]
  unfold d_shown_false
  simp [genC, gen, h]
theorem spP_kdt {M : Sto} (p : Int × Int) : KdT M (spP p) := ⟨⟨_, rfl⟩, fun xs e y hy => by
  cases e
  simp only [List.mem_cons, List.mem_nil_iff, or_false] at hy
  rcases hy with rfl | rfl <;> exact ⟨_, rfl⟩⟩
theorem spP_span {p : Int × Int} (h : (-1000000 ≤ p.1 ∧ p.1 ≤ 1000000) ∧ (-1000000 ≤ p.2 ∧ p.2 ≤ 1000000) ∧ p.1 ≤ p.2) : spanB (spP p) = true := by
  show (((decide (-1000000 ≤ p.1) && decide (p.1 ≤ 1000000)) && (decide (-1000000 ≤ p.2) && decide (p.2 ≤ 1000000))) && decide (p.1 ≤ p.2)) = true
  simp [h.1.1, h.1.2, h.2.1.1, h.2.1.2, h.2.2]
theorem good_kds {M : Sto} (ps : List (Int × Int)) : KdS M (.lst (ps.map spP)) := ⟨⟨_, rfl⟩, fun xs e y hy => by
  cases e
  obtain ⟨p, _, rfl⟩ := List.mem_map.mp hy
  exact spP_kdt p⟩
theorem good_all {ps : List (Int × Int)} (g : GoodSp ps) : (ps.map spP).all spanB = true := by
  rw [List.all_map, List.all_eq_true]
  exact fun p hp => spP_span (g.bd p hp)
theorem good_ok {M : Sto} {ps : List (Int × Int)} {least : Int} (g : GoodSp ps) (l1 : 1 ≤ ps.length) (l2 : ps.length ≤ 40) (hl : least ≤ ps.length) : okSp M (.lst (ps.map spP)) least = true := by
  show ((decide ((1 : Int) ≤ (ps.map spP).length) && decide (((ps.map spP).length : Int) ≤ 40)) && (decide (least ≤ (ps.map spP).length) && (ps.map spP).all spanB)) = true
  rw [good_all g, List.length_map]
  simp
  omega
theorem few_ok {M : Sto} {ps : List (Int × Int)} {least : Int} (hl : (ps.length : Int) < least) : okSp M (.lst (ps.map spP)) least = false := by
  show ((decide ((1 : Int) ≤ (ps.map spP).length) && decide (((ps.map spP).length : Int) ≤ 40)) && (decide (least ≤ (ps.map spP).length) && (ps.map spP).all spanB)) = false
  rw [List.length_map, decide_eq_false (show ¬ least ≤ (ps.length : Int) by omega)]
  simp
theorem lst_noref {xs : List PV} : ∀ i, PV.lst xs ≠ .ref i := fun i z => by cases z

/-! ### spans: counting -/
def inS (x : Int) (p : Int × Int) : Bool := decide (p.1 ≤ x) && decide (x ≤ p.2)
def cnt (ps : List (Int × Int)) (x : Int) : Nat := (ps.filter (inS x)).length
def cmn (p q : Int × Int) : Bool := decide (p.1 ≤ q.2) && decide (q.1 ≤ p.2)
theorem cnt_mono {ps : List (Int × Int)} {x y : Int} (h : ∀ p ∈ ps, inS x p = true → inS y p = true) : cnt ps x ≤ cnt ps y := by
  unfold cnt
  induction ps with
  | nil => exact Nat.le_refl _
  | cons p ps ih =>
    have ih := ih fun q hq => h q (List.mem_cons_of_mem _ hq)
    rw [List.filter_cons, List.filter_cons]
    cases hx : inS x p with
    | false =>
      rw [if_neg (by simp)]
      split
      · rw [List.length_cons]
        omega
      · exact ih
    | true =>
      rw [h p List.mem_cons_self hx, if_pos rfl, if_pos rfl, List.length_cons, List.length_cons]
      omega
theorem least_snd : ∀ {ps : List (Int × Int)}, ps ≠ [] → ∃ q ∈ ps, ∀ p ∈ ps, q.2 ≤ p.2
  | [p], _ => ⟨p, List.mem_cons_self, fun r hr => by rw [List.mem_singleton] at hr; rw [hr]; exact Int.le_refl _⟩
  | p :: r :: ps, _ => by
    obtain ⟨q, hq, hl⟩ := least_snd (ps := r :: ps) (by simp)
    by_cases h : p.2 ≤ q.2
    · refine ⟨p, List.mem_cons_self, fun z hz => ?_⟩
      rcases List.mem_cons.mp hz with e | e
      · rw [e]; exact Int.le_refl _
      · exact Int.le_trans h (hl z e)
    · refine ⟨q, List.mem_cons_of_mem _ hq, fun z hz => ?_⟩
      rcases List.mem_cons.mp hz with e | e
      · rw [e]; omega
      · exact hl z e
/-- where enough begin, enough end -/
theorem some_high {ps : List (Int × Int)} {p0 : Int × Int} {n : Int} (h1 : 1 ≤ n) (h : n ≤ (cnt ps p0.1 : Int)) : ∃ q ∈ ps, n ≤ (cnt ps q.2 : Int) := by
  have hne : ps.filter (inS p0.1) ≠ [] := by
    intro e
    unfold cnt at h
    rw [e] at h
    simp at h
    omega
  obtain ⟨q, hq, hl⟩ := least_snd hne
  have hq2 := List.mem_filter.mp hq
  refine ⟨q, hq2.1, ?_⟩
  have hqs : p0.1 ≤ q.2 := by
    have := hq2.2
    unfold inS at this
    rw [Bool.and_eq_true, decide_eq_true_eq, decide_eq_true_eq] at this
    exact this.2
  have m : cnt ps p0.1 ≤ cnt ps q.2 := cnt_mono fun p hp hi => by
    have h2 := hl p (List.mem_filter.mpr ⟨hp, hi⟩)
    unfold inS at hi ⊢
    rw [Bool.and_eq_true, decide_eq_true_eq, decide_eq_true_eq] at hi ⊢
    exact ⟨Int.le_trans hi.1 hqs, h2⟩
  omega
def selF (ps : List (Int × Int)) (sel : Int × Int → Int) (n : Int) (qs : List (Int × Int)) : List Int := (qs.filter fun p => decide (n ≤ (cnt ps (sel p) : Int))).map sel
theorem selF_len {ps : List (Int × Int)} {sel : Int × Int → Int} {n : Int} {qs : List (Int × Int)} : (selF ps sel n qs).length ≤ qs.length := by
  unfold selF
  rw [List.length_map]
  exact List.length_filter_le _ _
theorem high_of_low {ps : List (Int × Int)} {n : Int} (h1 : 1 ≤ n) (h : selF ps Prod.fst n ps ≠ []) : 0 < (selF ps Prod.snd n ps).length := by
  obtain ⟨l, hl⟩ := List.exists_mem_of_ne_nil _ h
  unfold selF at hl
  obtain ⟨p, hp, _⟩ := List.mem_map.mp hl
  have hp2 := (List.mem_filter.mp hp).2
  obtain ⟨q, hq, hn⟩ := some_high h1 (of_decide_eq_true hp2)
  have : q.2 ∈ selF ps Prod.snd n ps := List.mem_map.mpr ⟨q, List.mem_filter.mpr ⟨hq, decide_eq_true hn⟩, rfl⟩
  exact List.length_pos_of_mem this
/-! ### spans: what the defs tell -/
theorem ge40 {n : Nat} (h : n ≤ 40) : n < sizeLine := sz40 (by omega)
theorem bnd2_sp {p : Int × Int} {r : En} : bnd2 (spP p) r = some (some (.int p.1) :: some (.int p.2) :: r) := rfl
theorem many_eq {M : Sto} {ps : List (Int × Int)} {x : Int} (h : ps.length ≤ 40) : D_many_with [.lst (ps.map spP), .int x] M = .ok (.int (cnt ps x)) M := by
  have e0 : D_many_with [.lst (ps.map spP), .int x] M = fin (d_many_with [some (.lst (ps.map spP)), some (.int x)] M) := rfl
  rw [e0]
  unfold d_many_with
  simp only [sRet_eq, dCB_eq, dCons_eq]
  rw [dComp_of (xs := ps.map spP) (M1 := M) (ys := (ps.filter (inS x)).map fun p => PV.int p.1) (M2 := M) (dIt_lst rfl) (by rw [List.length_map]; exact ge40 h) (compF_emb spP (inS x) (fun p => PV.int p.1) ps fun p _ => ⟨_, bnd2_sp, ?_, fun _ => rfl⟩)]
  · simp [fLen_of (M := M) (x := .lst ((ps.filter (inS x)).map fun p => PV.int p.1)) rfl, cnt]
  · simp [dChain, L3.rest]
    unfold inS
    by_cases h : p.1 ≤ x <;> simp [h]
def lowsOf (ps : List (Int × Int)) (n : Int) : List Int := selF ps Prod.fst n ps
def highsOf (ps : List (Int × Int)) (n : Int) : List Int := selF ps Prod.snd n ps
def fusP (ps : List (Int × Int)) (k : Int) : PV := match lowsOf ps ((ps.length : Int) - k) with
  | [] => .non
  | l :: r => .tup [.int (minI (l :: r)), .int (maxI (highsOf ps ((ps.length : Int) - k)))]
theorem sel_map (ps : List (Int × Int)) (sel : Int × Int → Int) (n : Int) : (ps.filter fun p => decide (n ≤ (cnt ps (sel p) : Int))).map (fun p => PV.int (sel p)) = (selF ps sel n ps).map PV.int := by
  unfold selF
  rw [List.map_map]
  rfl
theorem fMin_ints {M : Sto} {n : Int} {ns : List Int} : fMin M (.lst ((n :: ns).map PV.int)) = some (.int (minI (n :: ns))) := by
  unfold fMin iseq
  simp only [seqP_lst, Option.bind_some, intsP_map]
theorem fMax_ints {M : Sto} {n : Int} {ns : List Int} : fMax M (.lst ((n :: ns).map PV.int)) = some (.int (maxI (n :: ns))) := by
  unfold fMax iseq
  simp only [seqP_lst, Option.bind_some, intsP_map]
theorem gMin_ints {M : Sto} {n : Int} {ns : List Int} : gMin M [.lst ((n :: ns).map PV.int)] = some (.int (minI (n :: ns)), M) := by
  unfold gMin orC
  rw [one_eq, fMin_ints]
theorem gMax_ints {M : Sto} {n : Int} {ns : List Int} : gMax M [.lst ((n :: ns).map PV.int)] = some (.int (maxI (n :: ns)), M) := by
  unfold gMax orC
  rw [one_eq, fMax_ints]
theorem call_few {M : Sto} {k : Int} {ρ : En} {d : DE} (h : d ρ M = .ok (.int k) M) (k0 : 0 ≤ k) (k5 : k ≤ 5) : dCall D_check_few 1 0 [.p 0] [] (dCons d dNil) dNil ρ M = .ok .non M := by
  have hw : inWP (.int k) 0 5 = true := by
    show (decide (0 ≤ k) && decide (k ≤ 5)) = true
    simp [k0, k5]
  simp [genC, gen, h, check_few_eq (Kd.int k), hw]
theorem call_spans {M : Sto} {ps : List (Int × Int)} {least : Int} {ρ : En} {d d2 : DE} (g : GoodSp ps) (h : d ρ M = .ok (.lst (ps.map spP)) M) (h2 : d2 ρ M = .ok (.int least) M) (l1 : 1 ≤ ps.length) (l2 : ps.length ≤ 40) (s0 : 0 ≤ least) (hl : least ≤ ps.length) :
    dCall D_check_spans 2 0 [.p 0, .p 1] [] (dCons d (dCons d2 dNil)) dNil ρ M = .ok .non M := by
  simp [genC, gen, h, h2, check_spans_eq (good_kds ps) lst_noref (small_few (k := least) (by omega) (by omega)), good_ok g l1 l2 hl]
theorem fused_eq {M : Sto} {ps : List (Int × Int)} {k : Int} (g : GoodSp ps) (k0 : 0 ≤ k) (k5 : k ≤ 5) (hk : k < ps.length) (h40 : ps.length ≤ 40) : D_fused [.lst (ps.map spP), .int k] M = .ok (fusP ps k) M := by
  refine den_rt rfl rfl ?_
  have s2 : (2 : Nat) ≤ sizeLine := by decide
  unfold d_fused
  refine nx_expr (call_few rfl k0 k5) ?_
  refine nx_expr (call_spans (least := k + 1) g rfl (by simp) (by omega) h40 (by omega) (by omega)) ?_
  generalize hn : (ps.length : Int) - k = n
  refine nx_set (v := .int n) (M1 := M) (by simp [fLen_of (M := M) (x := .lst (ps.map spP)) rfl, hn]) ?_
  refine nx_set (dComp_of (xs := ps.map spP) (M1 := M) (ys := (lowsOf ps n).map PV.int) (M2 := M) (dIt_lst rfl) (by rw [List.length_map]; exact ge40 h40) (by
    rw [lowsOf, ← sel_map]
    exact compF_emb spP (fun p => decide (n ≤ (cnt ps p.1 : Int))) (fun p => PV.int p.1) ps fun p _ => ⟨_, bnd2_sp, by simp [t_fused_2, L3.rest, genC, gen, many_eq h40], fun _ => rfl⟩)) ?_
  refine nx_set (dComp_of (xs := ps.map spP) (M1 := M) (ys := (highsOf ps n).map PV.int) (M2 := M) (dIt_lst rfl) (by rw [List.length_map]; exact ge40 h40) (by
    rw [highsOf, ← sel_map]
    exact compF_emb spP (fun p => decide (n ≤ (cnt ps p.2 : Int))) (fun p => PV.int p.2) ps fun p _ => ⟨_, bnd2_sp, by simp [t_fused_1, L3.rest, genC, gen, many_eq h40], fun _ => rfl⟩)) ?_
  simp only [List.map_cons, List.map_nil, List.cons_append, List.nil_append, List.set_cons_succ, List.set_cons_zero, Nat.reduceSub, List.replicate]
  unfold fusP
  rw [hn]
  cases hl : lowsOf ps n with
  | nil => exact nx_leave (M1 := M) rfl rfl
  | cons l r =>
    have hh : 0 < (highsOf ps n).length := high_of_low (by omega) (show selF ps Prod.fst n ps ≠ [] by
      intro z
      rw [show lowsOf ps n = selF ps Prod.fst n ps from rfl, z] at hl
      cases hl)
    cases hh2 : highsOf ps n with
    | nil => rw [hh2] at hh; exact absurd hh (Nat.lt_irrefl _)
    | cons a b =>
      refine nx_no (M1 := M) rfl (nx_ret ?_)
      simp only [dTup_eq, dCons_eq, dCB_eq, dNil_eq, dVar_0, dVar_s, Res.bind_ok, gMin_ints, gMax_ints, List.length_cons, List.length_nil, Nat.zero_add, Nat.reduceAdd, s2, if_true]
theorem common_eq {M : Sto} {p q : Int × Int} : D_have_common [spP p, spP q] M = .ok (.bl (cmn p q)) M := by
  refine den_rt rfl rfl ?_
  unfold d_have_common
  refine nx_ret ?_
  have i0 : ∀ r : Int × Int, gIx M (spP r) (.int 0) = some (.int r.1) := fun _ => rfl
  have i1 : ∀ r : Int × Int, gIx M (spP r) (.int 1) = some (.int r.2) := fun _ => rfl
  simp [dAndV, i0, i1, cmn]
  by_cases h : p.1 ≤ q.2 <;> simp [h]
def offFrom (q : Int × Int) : Nat → List (Int × Int) → List Int
  | _, [] => []
  | i, p :: ps => if cmn p q = true then offFrom q (i + 1) ps else (i : Int) :: offFrom q (i + 1) ps
theorem off_comp {M : Sto} {q : Int × Int} {r : En} : ∀ (ps : List (Int × Int)) (i : Nat), compF bnd2 (some (spP q) :: r) t_sensors_off_1 (dVar 0) (numP i (ps.map spP)) M = .ok ((offFrom q i ps).map PV.int) M
  | [], _ => rfl
  | p :: ps, i => by
    have ih := off_comp (M := M) (q := q) (r := r) ps (i + 1)
    show compF bnd2 (some (spP q) :: r) t_sensors_off_1 (dVar 0) (.tup [.int (i : Int), spP p] :: numP (i + 1) (ps.map spP)) M = _
    unfold compF
    have hb : bnd2 (.tup [.int (i : Int), spP p]) (some (spP q) :: r) = some (some (.int i) :: some (spP p) :: some (spP q) :: r) := rfl
    have ht : t_sensors_off_1 (some (.int i) :: some (spP p) :: some (spP q) :: r) M = .ok (!cmn p q) M := by
      simp [t_sensors_off_1, genC, gen, common_eq]
    simp only [hb, ht, noX_ok, Res.bind_ok]
    unfold offFrom
    cases hc : cmn p q with
    | true => simp [ih]
    | false => simp [ih]
theorem off_eq {M : Sto} {ps : List (Int × Int)} {q : Int × Int} (h : ps.length ≤ 40) : D_sensors_off [.lst (ps.map spP), spP q] M = .ok (.lst ((offFrom q 0 ps).map PV.int)) M := by
  refine den_rt rfl rfl ?_
  unfold d_sensors_off
  refine nx_ret (dComp_of (xs := numP 0 (ps.map spP)) (M1 := M) rfl ?_ (off_comp ps 0))
  have : ∀ (l : List PV) (n : Nat), (numP n l).length = l.length := by
    intro l
    induction l with
    | nil => intro n; rfl
    | cons a l ih => intro n; show (numP (n + 1) l).length + 1 = _; rw [ih]; rfl
  rw [this, List.length_map]
  exact ge40 h
def shownP (ps : List (Int × Int)) (k : Int) : List Int := match lowsOf ps ((ps.length : Int) - k) with
  | [] => []
  | l :: r => offFrom (minI (l :: r), maxI (highsOf ps ((ps.length : Int) - k))) 0 ps
theorem shown_eq {M : Sto} {ps : List (Int × Int)} {k : Int} (g : GoodSp ps) (k0 : 0 ≤ k) (k5 : k ≤ 5) (hk : k < ps.length) (h40 : ps.length ≤ 40) : D_shown_false [.lst (ps.map spP), .int k] M = .ok (.lst ((shownP ps k).map PV.int)) M := by
  refine den_rt rfl rfl ?_
  unfold d_shown_false
  refine nx_set (v := fusP ps k) (M1 := M) (by simp [genC, gen, fused_eq g k0 k5 hk h40]) ?_
  simp only [List.map_cons, List.map_nil, List.cons_append, List.nil_append, List.set_cons_succ, List.set_cons_zero, Nat.reduceSub, List.replicate]
  unfold shownP fusP
  cases hl : lowsOf ps ((ps.length : Int) - k) with
  | nil => exact nx_leave (M1 := M) rfl rfl
  | cons l r =>
    refine nx_no (M1 := M) rfl (nx_ret ?_)
    have := off_eq (M := M) (ps := ps) (q := (minI (l :: r), maxI (highsOf ps ((ps.length : Int) - k)))) h40
    simp only [dCall_eq, dCons_eq, dVar_0, dVar_s, dNil_eq, Res.bind_ok]
    exact this
def dpsOf (ps : List (Int × Int)) : List (Int × Int) := ps.map fun p => ((cnt ps p.1 : Int), p.1)
def mostOf (ps : List (Int × Int)) : Int := maxI ((dpsOf ps).map Prod.fst)
def atOf (ps : List (Int × Int)) : Int := minI (((dpsOf ps).filter fun d => decide (d.1 = mostOf ps)).map Prod.snd)
/-! ### truth among spans: counting -/
theorem bad_le {α : Type} {P : α → Bool} {fs : List Int} : ∀ {ps : List α} (i : Nat), (∀ (k : Nat) (p : α), ps[k]? = some p → ((i + k : Nat) : Int) ∉ fs → P p = true) → (ps.filter fun p => !P p).length ≤ (fs.filter fun f => decide ((i : Int) ≤ f)).length
  | [], i, _ => Nat.zero_le _
  | p :: ps, i, h => by
    have ih := bad_le (P := P) (fs := fs) (ps := ps) (i + 1) fun k q hk hn => h (k + 1) q (by simpa using hk) (by rw [show i + (k + 1) = i + 1 + k by omega]; exact hn)
    have mono : ∀ l : List Int, (l.filter fun f => decide (((i + 1 : Nat) : Int) ≤ f)).length ≤ (l.filter fun f => decide ((i : Int) ≤ f)).length := fun l => by
      induction l with
      | nil => exact Nat.le_refl _
      | cons a l ih =>
        rw [List.filter_cons, List.filter_cons]
        by_cases h1 : ((i + 1 : Nat) : Int) ≤ a
        · rw [decide_eq_true h1, decide_eq_true (show (i : Int) ≤ a by omega)]
          simpa using ih
        · rw [decide_eq_false h1, if_neg (by simp)]
          split
          · exact Nat.le_succ_of_le ih
          · exact ih
    have more : ∀ l : List Int, (i : Int) ∈ l → (l.filter fun f => decide (((i + 1 : Nat) : Int) ≤ f)).length + 1 ≤ (l.filter fun f => decide ((i : Int) ≤ f)).length := fun l hm => by
      induction l with
      | nil => cases hm
      | cons a l ih =>
        rw [List.filter_cons, List.filter_cons]
        by_cases ha : a = (i : Int)
        · rw [decide_eq_false (show ¬ ((i + 1 : Nat) : Int) ≤ a by omega), decide_eq_true (show (i : Int) ≤ a by omega)]
          have := mono l
          simpa using this
        · have hm : (i : Int) ∈ l := by
            rcases List.mem_cons.mp hm with z | z
            · exact absurd z.symm ha
            · exact z
          have ih := ih hm
          by_cases h1 : ((i + 1 : Nat) : Int) ≤ a
          · rw [decide_eq_true h1, decide_eq_true (show (i : Int) ≤ a by omega)]
            simpa using ih
          · rw [decide_eq_false h1, decide_eq_false (show ¬ (i : Int) ≤ a by omega)]
            simpa using ih
    rw [List.filter_cons]
    cases hp : P p with
    | true => exact Nat.le_trans (by simpa using ih) (mono fs)
    | false =>
      have hm : (i : Int) ∈ fs := by
        by_cases hm : (i : Int) ∈ fs
        · exact hm
        · have := h 0 p rfl hm
          rw [hp] at this
          cases this
      have := more fs hm
      simp
      omega
theorem bad_all {α : Type} {P : α → Bool} {fs : List Int} {ps : List α} (h : ∀ (k : Nat) (p : α), ps[k]? = some p → (k : Int) ∉ fs → P p = true) : (ps.filter fun p => !P p).length ≤ fs.length := by
  have := bad_le (P := P) (fs := fs) (ps := ps) 0 fun k p hk hn => h k p hk (by simpa using hn)
  exact Nat.le_trans this (List.length_filter_le _ _)
theorem split_len {α : Type} (P : α → Bool) : ∀ ps : List α, (ps.filter P).length + (ps.filter fun p => !P p).length = ps.length
  | [] => rfl
  | p :: ps => by
    have ih := split_len P ps
    rw [List.filter_cons, List.filter_cons]
    cases hp : P p <;> simp <;> omega
theorem both_len {α : Type} (P Q : α → Bool) : ∀ ps : List α, (ps.filter P).length + (ps.filter Q).length ≤ ps.length + (ps.filter fun p => P p && Q p).length
  | [] => Nat.le_refl _
  | p :: ps => by
    have ih := both_len P Q ps
    rw [List.filter_cons, List.filter_cons, List.filter_cons]
    cases hp : P p <;> cases hq : Q p <;> simp <;> omega
theorem most_fst : ∀ {ps : List (Int × Int)}, ps ≠ [] → ∃ q ∈ ps, ∀ p ∈ ps, p.1 ≤ q.1
  | [p], _ => ⟨p, List.mem_cons_self, fun r hr => by rw [List.mem_singleton] at hr; rw [hr]; exact Int.le_refl _⟩
  | p :: r :: ps, _ => by
    obtain ⟨q, hq, hl⟩ := most_fst (ps := r :: ps) (by simp)
    by_cases h : q.1 ≤ p.1
    · refine ⟨p, List.mem_cons_self, fun z hz => ?_⟩
      rcases List.mem_cons.mp hz with e | e
      · rw [e]; exact Int.le_refl _
      · exact Int.le_trans (hl z e) h
    · refine ⟨q, List.mem_cons_of_mem _ hq, fun z hz => ?_⟩
      rcases List.mem_cons.mp hz with e | e
      · rw [e]; omega
      · exact hl z e
theorem inS_iff {x : Int} {p : Int × Int} : inS x p = true ↔ p.1 ≤ x ∧ x ≤ p.2 := by
  unfold inS
  rw [Bool.and_eq_true, decide_eq_true_eq, decide_eq_true_eq]
/-- where a point lies in enough spans, some span begins with as many ahead of it, and some ends behind it -/
theorem low_at {ps : List (Int × Int)} {t : Int} (h : 0 < cnt ps t) : ∃ p ∈ ps, p.1 ≤ t ∧ cnt ps t ≤ cnt ps p.1 := by
  have hne : ps.filter (inS t) ≠ [] := fun z => by
    unfold cnt at h
    rw [z] at h
    exact absurd h (Nat.lt_irrefl _)
  obtain ⟨q, hq, hl⟩ := most_fst hne
  have hq2 := List.mem_filter.mp hq
  have hqt := inS_iff.mp hq2.2
  refine ⟨q, hq2.1, hqt.1, cnt_mono fun p hp hi => ?_⟩
  have h2 := hl p (List.mem_filter.mpr ⟨hp, hi⟩)
  have := inS_iff.mp hi
  exact inS_iff.mpr ⟨h2, by omega⟩
theorem high_at {ps : List (Int × Int)} {t : Int} (h : 0 < cnt ps t) : ∃ p ∈ ps, t ≤ p.2 ∧ cnt ps t ≤ cnt ps p.2 := by
  have hne : ps.filter (inS t) ≠ [] := fun z => by
    unfold cnt at h
    rw [z] at h
    exact absurd h (Nat.lt_irrefl _)
  obtain ⟨q, hq, hl⟩ := least_snd hne
  have hq2 := List.mem_filter.mp hq
  have hqt := inS_iff.mp hq2.2
  refine ⟨q, hq2.1, hqt.2, cnt_mono fun p hp hi => ?_⟩
  have h2 := hl p (List.mem_filter.mpr ⟨hp, hi⟩)
  have := inS_iff.mp hi
  exact inS_iff.mpr ⟨by omega, h2⟩
theorem sel_mem {ps : List (Int × Int)} {sel : Int × Int → Int} {n x : Int} : x ∈ selF ps sel n ps ↔ ∃ p ∈ ps, sel p = x ∧ n ≤ (cnt ps x : Int) := by
  unfold selF
  constructor
  · intro h
    obtain ⟨p, hp, rfl⟩ := List.mem_map.mp h
    have := List.mem_filter.mp hp
    exact ⟨p, this.1, rfl, of_decide_eq_true this.2⟩
  · rintro ⟨p, hp, rfl, h⟩
    exact List.mem_map.mpr ⟨p, List.mem_filter.mpr ⟨hp, decide_eq_true h⟩, rfl⟩
/-- the fused span, where enough spans have t -/
theorem fus_at {ps : List (Int × Int)} {k t : Int} (hk : k < ps.length) (ht : (ps.length : Int) - k ≤ (cnt ps t : Int)) : ∃ lo hi, fusP ps k = spP (lo, hi) ∧ shownP ps k = offFrom (lo, hi) 0 ps ∧ lo ≤ t ∧ t ≤ hi ∧ (ps.length : Int) - k ≤ (cnt ps lo : Int) ∧ (ps.length : Int) - k ≤ (cnt ps hi : Int) := by
  have hpos : 0 < cnt ps t := by omega
  obtain ⟨p, hp, p1, p2⟩ := low_at hpos
  obtain ⟨q, hq, q1, q2⟩ := high_at hpos
  have ml : p.1 ∈ lowsOf ps ((ps.length : Int) - k) := sel_mem.mpr ⟨p, hp, rfl, by omega⟩
  have mh : q.2 ∈ highsOf ps ((ps.length : Int) - k) := sel_mem.mpr ⟨q, hq, rfl, by omega⟩
  unfold fusP shownP
  cases hl : lowsOf ps ((ps.length : Int) - k) with
  | nil => rw [hl] at ml; cases ml
  | cons a r =>
    have hh : highsOf ps ((ps.length : Int) - k) ≠ [] := fun z => by rw [z] at mh; cases mh
    have m1 := minI_mem (ns := a :: r) (by simp)
    have m2 := maxI_mem hh
    rw [hl] at ml
    refine ⟨_, _, rfl, rfl, ?_, ?_, ?_, ?_⟩
    · have := m1.2 _ ml
      omega
    · have := m2.2 _ mh
      omega
    · have := m1.1
      rw [← hl] at this
      obtain ⟨_, _, _, h⟩ := sel_mem.mp this
      rw [hl] at h
      exact h
    · obtain ⟨_, _, _, h⟩ := sel_mem.mp m2.1
      exact h
theorem off_sub {q : Int × Int} {t : Int} {fs : List Int} (h1 : q.1 ≤ t) (h2 : t ≤ q.2) : ∀ {ps : List (Int × Int)} (i : Nat), (∀ (k : Nat) (p : Int × Int), ps[k]? = some p → ((i + k : Nat) : Int) ∉ fs → p.1 ≤ t ∧ t ≤ p.2) → ∀ x ∈ offFrom q i ps, x ∈ fs
  | [], _, _, x, hx => by cases hx
  | p :: ps, i, h, x, hx => by
    have ih := off_sub (fs := fs) h1 h2 (ps := ps) (i + 1) fun k r hk hn => h (k + 1) r (by simpa using hk) (by rw [show i + (k + 1) = i + 1 + k by omega]; exact hn)
    unfold offFrom at hx
    cases hc : cmn p q with
    | true => rw [hc, if_pos rfl] at hx; exact ih x hx
    | false =>
      rw [hc, if_neg (by simp)] at hx
      rcases List.mem_cons.mp hx with rfl | hx
      · by_cases hm : (i : Int) ∈ fs
        · exact hm
        · obtain ⟨a, b⟩ := h 0 p rfl hm
          have : cmn p q = true := by
            unfold cmn
            rw [Bool.and_eq_true, decide_eq_true_eq, decide_eq_true_eq]
            omega
          rw [this] at hc
          cases hc
      · exact ih x hx
theorem most_ge {ps : List (Int × Int)} {t : Int} (h : 0 < cnt ps t) : (cnt ps t : Int) ≤ mostOf ps := by
  obtain ⟨p, hp, _, p2⟩ := low_at h
  have hm : (cnt ps p.1 : Int) ∈ (dpsOf ps).map Prod.fst := List.mem_map.mpr ⟨((cnt ps p.1 : Int), p.1), List.mem_map.mpr ⟨p, hp, rfl⟩, rfl⟩
  have := (maxI_mem (ns := (dpsOf ps).map Prod.fst) (fun z => by rw [z] at hm; cases hm)).2 _ hm
  unfold mostOf
  omega
def wid (p : Int × Int) : Int := p.2 - p.1
/-- spans that have both ends -/
theorem both_ends {ps : List (Int × Int)} {lo hi n : Int} (h1 : n ≤ (cnt ps lo : Int)) (h2 : n ≤ (cnt ps hi : Int)) : 2 * n - ps.length ≤ ((ps.filter fun p => inS lo p && inS hi p).length : Int) := by
  have := both_len (inS lo) (inS hi) ps
  unfold cnt at h1 h2
  omega

/-! ### tracks -/
def trk (few sp lb : Int) (lp ca : PV) : List (Str × PV) := [("few", .int few), ("speed", .int sp), ("last_beat", .int lb), ("last_place", lp), ("caught", ca)]
theorem ins_here {M : Sto} {i k : Nat} {fs : List (Str × PV)} (h : M.g i = some (.ins k fs)) : insAt M k (.ref i) = some (i, fs) := by
  show (match M.g i with
    | some (.ins c fs) => if c = k then some (i, fs) else none
    | _ => none) = _
  rw [h]
  exact if_pos rfl
theorem lk_few {few sp lb : Int} {lp ca : PV} : (trk few sp lb lp ca).lookup ("few" : Str) = some (.int few) := rfl
theorem lk_sp {few sp lb : Int} {lp ca : PV} : (trk few sp lb lp ca).lookup ("speed" : Str) = some (.int sp) := rfl
theorem lk_lb {few sp lb : Int} {lp ca : PV} : (trk few sp lb lp ca).lookup ("last_beat" : Str) = some (.int lb) := rfl
theorem lk_lp {few sp lb : Int} {lp ca : PV} : (trk few sp lb lp ca).lookup ("last_place" : Str) = some lp := rfl
theorem lk_ca {few sp lb : Int} {lp ca : PV} : (trk few sp lb lp ca).lookup ("caught" : Str) = some ca := rfl
theorem lk_m {few sp lb : Int} {lp ca : PV} : (trk few sp lb lp ca).lookup ("wider" : Str) = none ∧ (trk few sp lb lp ca).lookup ("narrowed" : Str) = none ∧ (trk few sp lb lp ca).lookup ("see" : Str) = none ∧ (trk few sp lb lp ca).lookup ("guess" : Str) = none ∧ (trk few sp lb lp ca).lookup ("liars_found" : Str) = none := ⟨rfl, rfl, rfl, rfl, rfl⟩
section
variable {M : Sto} {i : Nat} {few sp lb lo hi : Int} {lp ca : PV}
theorem fld_few {ρ : En} {d : DE} (h : M.g i = some (.ins 10 (trk few sp lb lp ca))) (e : d ρ M = .ok (.ref i) M) : dFld 10 "few" d ρ M = .ok (.int few) M := by
  unfold dFld; rw [e]; simp only [Res.bind_ok, ins_here h, lk_few, ofO_some]
theorem fld_sp {ρ : En} {d : DE} (h : M.g i = some (.ins 10 (trk few sp lb lp ca))) (e : d ρ M = .ok (.ref i) M) : dFld 10 "speed" d ρ M = .ok (.int sp) M := by
  unfold dFld; rw [e]; simp only [Res.bind_ok, ins_here h, lk_sp, ofO_some]
theorem fld_lb {ρ : En} {d : DE} (h : M.g i = some (.ins 10 (trk few sp lb lp ca))) (e : d ρ M = .ok (.ref i) M) : dFld 10 "last_beat" d ρ M = .ok (.int lb) M := by
  unfold dFld; rw [e]; simp only [Res.bind_ok, ins_here h, lk_lb, ofO_some]
theorem fld_lp {ρ : En} {d : DE} (h : M.g i = some (.ins 10 (trk few sp lb lp ca))) (e : d ρ M = .ok (.ref i) M) : dFld 10 "last_place" d ρ M = .ok lp M := by
  unfold dFld; rw [e]; simp only [Res.bind_ok, ins_here h, lk_lp, ofO_some]
theorem fld_ca {ρ : En} {d : DE} (h : M.g i = some (.ins 10 (trk few sp lb lp ca))) (e : d ρ M = .ok (.ref i) M) : dFld 10 "caught" d ρ M = .ok ca M := by
  unfold dFld; rw [e]; simp only [Res.bind_ok, ins_here h, lk_ca, ofO_some]
theorem wider_eq {b : Int} (h : M.g i = some (.ins 10 (trk few sp lb (spP (lo, hi)) ca))) (s0 : 0 ≤ sp) (s1 : sp ≤ 1000) : D_Track_wider [.ref i, .int b] M = .ok (spP (lo - sp * (b - lb), hi + sp * (b - lb))) M := by
  have s2 : (2 : Nat) ≤ sizeLine := by decide
  have gm := gMul_int (M := M) (i := sp) (j := b - lb) (.inl (by omega))
  refine den_rt (ρ := [some (.ref i), some (.int b), none, none, none]) rfl rfl ?_
  unfold d_Track_wider
  refine nx_set (v := .int (sp * (b - lb))) (M1 := M) (by simp only [dOp_eq, fld_sp h (d := dVar 0) (ρ := [some (.ref i), some (.int b), none, none, none]) rfl, fld_lb h (d := dVar 0) (ρ := [some (.ref i), some (.int b), none, none, none]) rfl, dVar_0, dVar_s, Res.bind_ok, gSub_int, ofO_some, gm]) ?_
  simp only [List.set_cons_succ, List.set_cons_zero]
  refine nx_asg (v := spP (lo, hi)) (M1 := M) (fld_lp h (d := dVar 0) rfl) rfl ?_
  exact nx_ret (by simp [s2, spP])
theorem guess_now {x : PV} (h : M.g i = some (.ins 10 (trk few sp lb .non ca))) : D_Track_guess [.ref i, x] M = .exc 6 M := by
  have s1 : (1 : Nat) ≤ sizeLine := by decide
  refine den_exc (ρ := [some (.ref i), some x]) (ρ' := [some (.ref i), some x]) rfl rfl ?_
  unfold d_Track_guess
  have q : gIs M .non .non = some (.bl true) := rfl
  simp [fld_lp h (d := dVar 0) (ρ := [some (.ref i), some x]) rfl, q, s1]
theorem guess_bad {x : PV} (h : M.g i = some (.ins 10 (trk few sp lb (spP (lo, hi)) ca))) (kx : Kd M x) (hx : inWP x lb 100000 = false) (hl : small lb = true) : D_Track_guess [.ref i, x] M = .exc 0 M := by
  refine den_exc (ρ := [some (.ref i), some x]) (ρ' := [some (.ref i), some x]) rfl rfl ?_
  unfold d_Track_guess
  have q : gIs M (spP (lo, hi)) .non = some (.bl false) := rfl
  simp [genC, gen, fld_lp h (d := dVar 0) (ρ := [some (.ref i), some x]) rfl, q, fld_lb h (d := dVar 0) (ρ := [some (.ref i), some x]) rfl, check_within_eq kx (a := lb) (b := 100000) hl (by decide), hx]
theorem in_wp {b x y : Int} (h0 : x ≤ b) (h1 : b ≤ y) : inWP (.int b) x y = true := by
  show (decide (x ≤ b) && decide (b ≤ y)) = true
  simp [h0, h1]
theorem guess_eq {b : Int} (h : M.g i = some (.ins 10 (trk few sp lb (spP (lo, hi)) ca))) (s0 : 0 ≤ sp) (s1 : sp ≤ 1000) (b0 : lb ≤ b) (b1 : b ≤ 100000) (hl : small lb = true) : D_Track_guess [.ref i, .int b] M = .ok (spP (lo - sp * (b - lb), hi + sp * (b - lb))) M := by
  refine den_rt (ρ := [some (.ref i), some (.int b)]) rfl rfl ?_
  unfold d_Track_guess
  have q : gIs M (spP (lo, hi)) .non = some (.bl false) := rfl
  refine nx_no (M1 := M) (by simp [fld_lp h (d := dVar 0) (ρ := [some (.ref i), some (.int b)]) rfl, q]) ?_
  refine nx_expr (v := .non) (M1 := M) (by simp [genC, gen, fld_lb h (d := dVar 0) (ρ := [some (.ref i), some (.int b)]) rfl, check_within_eq (M := M) (Kd.int b) (a := lb) (b := 100000) hl (by decide), in_wp b0 b1]) ?_
  refine nx_ret ?_
  unfold dMth
  simp only [dVar_0, dVar_s, Res.bind_ok, ins_here h, lk_m.1, if_true, dCons_eq, dNil_eq]
  exact wider_eq h s0 s1
theorem narrowed_non {b p : PV} (h : M.g i = some (.ins 10 (trk few sp lb .non ca))) : D_Track_narrowed [.ref i, b, p] M = .ok p M := by
  have e0 : D_Track_narrowed [.ref i, b, p] M = fin (d_Track_narrowed [some (.ref i), some b, some p, none] M) := rfl
  rw [e0]
  unfold d_Track_narrowed
  have q : gIs M .non .non = some (.bl true) := rfl
  simp [fld_lp h (d := dVar 0) (ρ := [some (.ref i), some b, some p, none]) rfl, q]
theorem narrowed_far {b : Int} {p : Int × Int} (h : M.g i = some (.ins 10 (trk few sp lb (spP (lo, hi)) ca))) (s0 : 0 ≤ sp) (s1 : sp ≤ 1000) (hc : cmn p (lo - sp * (b - lb), hi + sp * (b - lb)) = false) : D_Track_narrowed [.ref i, .int b, spP p] M = .exc 1 M := by
  have z1 : (1 : Nat) ≤ sizeLine := by decide
  refine den_exc (ρ := [some (.ref i), some (.int b), some (spP p), none]) (ρ' := [some (.ref i), some (.int b), some (spP p), some (spP (lo - sp * (b - lb), hi + sp * (b - lb)))]) rfl rfl ?_
  unfold d_Track_narrowed
  have q : gIs M (spP (lo, hi)) .non = some (.bl false) := rfl
  refine nx_no (M1 := M) (by simp [fld_lp h (d := dVar 0) (ρ := [some (.ref i), some (.int b), some (spP p), none]) rfl, q]) ?_
  refine nx_set (v := spP (lo - sp * (b - lb), hi + sp * (b - lb))) (M1 := M) ?_ ?_
  · unfold dMth
    simp only [dVar_0, dVar_s, Res.bind_ok, ins_here h, lk_m.1, if_true, dCons_eq, dNil_eq]
    exact wider_eq h s0 s1
  simp only [List.set_cons_succ, List.set_cons_zero]
  simp [genC, gen, common_eq, hc, z1]
theorem narrowed_eq {b : Int} {p : Int × Int} (h : M.g i = some (.ins 10 (trk few sp lb (spP (lo, hi)) ca))) (s0 : 0 ≤ sp) (s1 : sp ≤ 1000) (hc : cmn p (lo - sp * (b - lb), hi + sp * (b - lb)) = true) : D_Track_narrowed [.ref i, .int b, spP p] M = .ok (spP (if lo - sp * (b - lb) > p.1 then lo - sp * (b - lb) else p.1, if hi + sp * (b - lb) < p.2 then hi + sp * (b - lb) else p.2)) M := by
  have z2 : (2 : Nat) ≤ sizeLine := by decide
  refine den_rt (ρ := [some (.ref i), some (.int b), some (spP p), none]) rfl rfl ?_
  unfold d_Track_narrowed
  have q : gIs M (spP (lo, hi)) .non = some (.bl false) := rfl
  refine nx_no (M1 := M) (by simp [fld_lp h (d := dVar 0) (ρ := [some (.ref i), some (.int b), some (spP p), none]) rfl, q]) ?_
  refine nx_set (v := spP (lo - sp * (b - lb), hi + sp * (b - lb))) (M1 := M) ?_ ?_
  · unfold dMth
    simp only [dVar_0, dVar_s, Res.bind_ok, ins_here h, lk_m.1, if_true, dCons_eq, dNil_eq]
    exact wider_eq h s0 s1
  simp only [List.set_cons_succ, List.set_cons_zero]
  generalize lo - sp * (b - lb) = l1 at *
  generalize hi + sp * (b - lb) = h1 at *
  refine nx_no (M1 := M) (by simp [genC, gen, common_eq, hc]) ?_
  refine nx_ret ?_
  have i0 : ∀ p : Int × Int, gIx M (spP p) (.int 0) = some (.int p.1) := fun _ => rfl
  have i1 : ∀ p : Int × Int, gIx M (spP p) (.int 1) = some (.int p.2) := fun _ => rfl
  simp only [dTup_eq, dCons_eq, dCB_eq, dOp_eq, dVar_0, dVar_s, dC_eq, dNil_eq, Res.bind_ok, i0, i1, ofO_some, max2_eq, min2_eq, List.length_cons, List.length_nil, Nat.zero_add, Nat.reduceAdd, z2, if_true]
  rfl
/-! see -/
def kb (x : Int) : Int × PV := (x, .bl true)
def addK (l : List Int) (x : Int) : List Int := if x ∈ l then l else l ++ [x]
theorem put_kb (l : List Int) (x : Int) : putA (l.map kb) x (.bl true) = (addK l x).map kb := by
  unfold putA addK
  by_cases hm : x ∈ l
  · have h1 : ((l.map kb).any fun p => decide (p.1 = x)) = true := List.any_eq_true.mpr ⟨kb x, List.mem_map.mpr ⟨x, hm, rfl⟩, decide_eq_true rfl⟩
    rw [if_pos h1, if_pos hm]
    have : ∀ y ∈ l.map kb, (if y.1 = x then (y.1, PV.bl true) else y) = y := fun y hy => by
      obtain ⟨p, _, rfl⟩ := List.mem_map.mp hy
      split <;> rfl
    rw [List.map_congr_left this, List.map_id']
  · have h1 : ((l.map kb).any fun p => decide (p.1 = x)) = false := by
      rw [List.any_eq_false]
      intro y hy e
      obtain ⟨p, hp, rfl⟩ := List.mem_map.mp hy
      exact hm (of_decide_eq_true e ▸ hp)
    rw [h1, if_neg hm, List.map_append]
    rfl
theorem addK_mem {l : List Int} {x y : Int} : y ∈ addK l x ↔ y ∈ l ∨ y = x := by
  unfold addK
  split
  · rename_i h
    exact ⟨.inl, fun z => z.elim id fun e => e ▸ h⟩
  · rw [List.mem_append, List.mem_singleton]
theorem addK_nd {l : List Int} (h : l.Nodup) (x : Int) : (addK l x).Nodup := by
  unfold addK
  split
  · exact h
  · rename_i hx
    exact List.nodup_append.mpr ⟨h, List.nodup_cons.mpr ⟨fun z => (by cases z), .nil⟩, fun a ha b hb e => hx (by
      rw [List.mem_singleton.mp hb] at e
      exact e ▸ ha)⟩
def addAll (l offs : List Int) : List Int := offs.foldl addK l
theorem addAll_mem : ∀ (offs l : List Int) (y : Int), y ∈ addAll l offs ↔ y ∈ l ∨ y ∈ offs
  | [], l, y => ⟨.inl, fun z => z.elim id fun h => by cases h⟩
  | x :: offs, l, y => by
    show y ∈ addAll (addK l x) offs ↔ _
    rw [addAll_mem offs, addK_mem, List.mem_cons, or_assoc]
theorem addAll_nd : ∀ (offs l : List Int), l.Nodup → (addAll l offs).Nodup
  | [], _, h => h
  | x :: offs, l, h => addAll_nd offs (addK l x) (addK_nd h x)
theorem addAll_len : ∀ (offs l : List Int), (addAll l offs).length ≤ l.length + offs.length
  | [], _ => Nat.le_refl _
  | x :: offs, l => by
    have := addAll_len offs (addK l x)
    have h2 : (addK l x).length ≤ l.length + 1 := by
      unfold addK
      split
      · exact Nat.le_succ _
      · rw [List.length_append]
        exact Nat.le_refl _
    show (addAll (addK l x) offs).length ≤ l.length + (offs.length + 1)
    omega
theorem put_loop {c : Nat} {ρ4 : Option PV} {x1 x2 x3 : Option PV} : ∀ (offs : List Int) (M : Sto) (l : List Int) (x5 : Option PV), M.g i = some (.ins 10 (trk few sp lb lp (.ref c))) → M.g c = some (.dkv (l.map kb)) → c ≠ i → l.length + offs.length ≤ 1000 →
    ∃ y5, loopF (gN 5) d_Track_see_L1 (offs.map PV.int) [some (.ref i), x1, x2, x3, ρ4, x5] M = .nx [some (.ref i), x1, x2, x3, ρ4, y5] (M.set c (.dkv ((addAll l offs).map kb)))
  | [], M, l, x5, h, hc, hne, hl => ⟨x5, by
    have : M.set c (.dkv (l.map kb)) = M := by
      unfold Sto.set
      congr 1
      funext j
      by_cases z : j = c
      · rw [if_pos z, z, hc]
      · rw [if_neg z]
    show RS.nx _ M = .nx _ (M.set c (.dkv (l.map kb)))
    rw [this]⟩
  | x :: offs, M, l, x5, h, hc, hne, hl => by
    rw [List.length_cons] at hl
    have h2 : (addK l x).length ≤ l.length + 1 := by
      unfold addK
      split
      · exact Nat.le_succ _
      · rw [List.length_append]
        exact Nat.le_refl _
    obtain ⟨y5, e⟩ := put_loop offs (M.set c (.dkv ((addK l x).map kb))) (addK l x) (some (.int x)) (by rw [Sto.set_ne (Ne.symm hne)]; exact h) Sto.set_same hne (by omega)
    refine ⟨y5, ?_⟩
    have eb : d_Track_see_L1 [some (.ref i), x1, x2, x3, ρ4, some (.int x)] M = .nx [some (.ref i), x1, x2, x3, ρ4, some (.int x)] (M.set c (.dkv ((addK l x).map kb))) := by
      unfold d_Track_see_L1 sPutKv
      simp only [dC_eq, Res.st_ok]
      rw [fld_ca h (d := dVar 0) rfl]
      simp only [Res.st_ok, dVar_0, dVar_s]
      have : putKv M (.ref c) (.int x) (.bl true) = some (M.set c (.dkv ((addK l x).map kb))) := by
        unfold putKv
        simp only [hc]
        rw [if_pos (by rw [List.length_map]; exact Nat.lt_of_le_of_lt (show l.length ≤ 1000 by omega) (by decide)), put_kb]
      rw [this]
    rw [List.map_cons]
    unfold loopF
    show (match d_Track_see_L1 [some (.ref i), x1, x2, x3, ρ4, some (.int x)] M with
      | .nx ρ2 M2 => loopF (gN 5) d_Track_see_L1 (offs.map PV.int) ρ2 M2
      | .ct ρ2 M2 => loopF (gN 5) d_Track_see_L1 (offs.map PV.int) ρ2 M2
      | .bk ρ2 M2 => .nx ρ2 M2
      | r => r) = _
    rw [eb]
    show loopF (gN 5) d_Track_see_L1 (offs.map PV.int) _ _ = _
    rw [e, set_set]
    rfl
theorem see_eq {b : Int} {y : PV} {p r : Int × Int} {c : Nat} {l offs : List Int} (h : M.g i = some (.ins 10 (trk few sp lb lp (.ref c)))) (hc : M.g c = some (.dkv (l.map kb))) (hne : c ≠ i) (hll : l.length + offs.length ≤ 1000) (b0 : lb ≤ b) (b1 : b ≤ 100000) (hl : small lb = true) (hf : D_fused [y, .int few] M = .ok (spP p) M) (hn : D_Track_narrowed [.ref i, .int b, spP p] M = .ok (spP r) M) (ho : D_sensors_off [y, spP r] M = .ok (.lst (offs.map PV.int)) M) :
    D_Track_see [.ref i, .int b, y] M = .ok (spP r) ((M.set c (.dkv ((addAll l offs).map kb))).set i (.ins 10 (trk few sp b (spP r) (.ref c)))) := by
  have f := fld_lb h (d := dVar 0) (ρ := [some (.ref i), some (.int b), some y, none, none, none]) rfl
  have f2 := fld_few h (d := dVar 0) (ρ := [some (.ref i), some (.int b), some y, none, none, none]) rfl
  have cw := check_within_eq (M := M) (Kd.int b) (a := lb) (b := 100000) hl (by decide)
  have q : gIs M (spP p) .non = some (.bl false) := rfl
  obtain ⟨y5, e5⟩ := put_loop (x1 := some (.int b)) (x2 := some y) (x3 := some (spP p)) (ρ4 := some (spP r)) offs M l none h hc hne hll
  obtain ⟨M2, hM2⟩ : ∃ M2, M2 = M.set c (.dkv ((addAll l offs).map kb)) := ⟨_, rfl⟩
  rw [← hM2] at e5 ⊢
  have h2 : M2.g i = some (.ins 10 (trk few sp lb lp (.ref c))) := by rw [hM2, Sto.set_ne (Ne.symm hne)]; exact h
  have e1 : denF 3 6 d_Track_see [.ref i, .int b, y] M = .ok (spP r) (M2.set i (.ins 10 (trk few sp b (spP r) (.ref c)))) := by
    refine den_rt (ρ := [some (.ref i), some (.int b), some y, none, none, none]) rfl rfl ?_
    unfold d_Track_see
    refine nx_expr (v := .non) (M1 := M) (by simp [genC, gen, f, cw, in_wp b0 b1]) ?_
    refine nx_set (v := spP p) (M1 := M) (by simp [genC, gen, f2, hf]) ?_
    simp only [List.set_cons_succ, List.set_cons_zero]
    refine nx_no (M1 := M) (by simp [q]) ?_
    refine nx_set (v := spP r) (M1 := M) ?_ ?_
    · unfold dMth
      simp only [dVar_0, dVar_s, Res.bind_ok, ins_here h, lk_m.2.1, if_true, dCons_eq, dNil_eq]
      exact hn
    simp only [List.set_cons_succ, List.set_cons_zero]
    refine nx_for (xs := offs.map PV.int) (M1 := M) (M2 := M2) (ρ' := [some (.ref i), some (.int b), some y, some (spP p), some (spP r), y5]) (dIt_lst (by simp [genC, gen, ho])) e5 ?_
    have a1 : sFldS 10 "last_beat" (dVar 1) (dVar 0) [some (.ref i), some (.int b), some y, some (spP p), some (spP r), y5] M2 = .nx [some (.ref i), some (.int b), some y, some (spP p), some (spP r), y5] (M2.set i (.ins 10 (trk few sp b lp (.ref c)))) := by
      unfold sFldS
      simp only [dVar_0, dVar_s, Res.st_ok, ins_here h2]
      rfl
    have a2 : sFldS 10 "last_place" (dVar 4) (dVar 0) [some (.ref i), some (.int b), some y, some (spP p), some (spP r), y5] (M2.set i (.ins 10 (trk few sp b lp (.ref c)))) = .nx [some (.ref i), some (.int b), some y, some (spP p), some (spP r), y5] (M2.set i (.ins 10 (trk few sp b (spP r) (.ref c)))) := by
      unfold sFldS
      simp only [dVar_0, dVar_s, Res.st_ok, ins_here (M := M2.set i (.ins 10 (trk few sp b lp (.ref c)))) (i := i) (k := 10) Sto.set_same]
      rw [if_pos (show (trk few sp b lp (.ref c)).length < 1000 from Nat.le_of_ble_eq_true rfl), set_set]
      rfl
    simp only [sSeq_eq, a1, a2, RS.then_nx]
    rfl
  unfold D_Track_see both
  rw [e1]
theorem sortK_eq {c : Nat} {l : List Int} (hc : M.g c = some (.dkv (l.map kb))) (sm : smallI l = true) (nd : l.Nodup) (hl : l.length < 64) : sortK M (.ref c) = some (sortD l) := by
  have e : (l.map kb).map (·.1) = l := by
    rw [List.map_map]
    exact List.map_id' l
  unfold sortK
  simp only [hc]
  rw [e, if_pos ⟨sm, nd, by rw [List.length_map]; exact hl⟩]
theorem found_eq {c : Nat} {l : List Int} (h : M.g i = some (.ins 10 (trk few sp lb lp (.ref c)))) (hc : M.g c = some (.dkv (l.map kb))) (sm : smallI l = true) (nd : l.Nodup) (hl : l.length < 64) : D_Track_liars_found [.ref i] M = .ok (.lst ((sortD l).map PV.int)) M := by
  refine den_rt (ρ := [some (.ref i)]) rfl rfl ?_
  unfold d_Track_liars_found
  refine nx_ret ?_
  have q : fSortK M (.ref c) = some (.lst ((sortD l).map PV.int)) := by
    unfold fSortK
    rw [sortK_eq hc sm nd hl]
    rfl
  simp [fld_ca h (d := dVar 0) (ρ := [some (.ref i)]) rfl, q]
end

theorem test_bl {d : DE} {ρ : En} {M M1 : Sto} {b : Bool} (h : d ρ M = .ok (.bl b) M1) : dTest d ρ M = .ok b M1 := by
  rw [dTest_eq, h]
  rfl
theorem dOp_of {g : G2} {da db : DE} {ρ : En} {M M1 M2 : Sto} {x y z : PV} (h1 : da ρ M = .ok x M1) (h2 : db ρ M1 = .ok y M2) (h3 : g M2 x y = some z) : dOp g da db ρ M = .ok z M2 := by
  rw [dOp_eq, h1]
  simp only [Res.bind_ok]
  rw [h2]
  simp only [Res.bind_ok]
  rw [h3]
  rfl
theorem nx_br {t : DT} {A B c : DS} {ρ ρ' : En} {M M1 M2 : Sto} {bb : Bool} {r : RS} (h : t ρ M = .ok bb M1) (hb : (if bb = true then A else B) ρ M1 = .nx ρ' M2) (k : c ρ' M2 = r) : sSeq (sIf t A B) c ρ M = r := by
  unfold sSeq sIf
  rw [h]
  have e : (Res.ok bb M1).st ρ (fun b M1 => if b = true then A ρ M1 else B ρ M1) = .nx ρ' M2 := by
    rw [← hb]
    cases bb <;> rfl
  rw [e]
  exact k
theorem sIf_t {t : DT} {A B : DS} {ρ : En} {M M1 : Sto} {r : RS} (h : t ρ M = .ok true M1) (k : A ρ M1 = r) : sIf t A B ρ M = r := by
  unfold sIf
  rw [h]
  exact k
theorem sIf_f {t : DT} {A B : DS} {ρ : En} {M M1 : Sto} {r : RS} (h : t ρ M = .ok false M1) (k : B ρ M1 = r) : sIf t A B ρ M = r := by
  unfold sIf
  rw [h]
  exact k
theorem cons1_of {d : DE} {ρ : En} {M M1 : Sto} {x : PV} (h : d ρ M = .ok x M1) : dCons d dNil ρ M = .ok [x] M1 := by
  rw [dCons_eq, h]
  rfl
theorem dMt_of {g : GM} {do_ : DE} {da : DA} {ρ : En} {M M1 M2 M3 : Sto} {x z : PV} {ys xs : List PV} (h1 : do_ ρ M = .ok x M1) (h2 : seqP M1 x = some ys) (h3 : da ρ M1 = .ok xs M2) (h4 : g M2 x xs = some (z, M3)) : dMt g do_ da ρ M = .ok z M3 := by
  unfold dMt
  rw [h1]
  simp only [Res.bind_ok]
  rw [h2]
  simp only []
  rw [h3]
  simp only [Res.bind_ok]
  rw [h4]
theorem app_of {M : Sto} {j : Nat} {xs : List PV} {y : PV} (h : M.g j = some (.lst xs)) (hl : xs.length < sizeLine) : gAppend M (.ref j) [y] = some (.non, M.set j (.lst (xs ++ [y]))) := by
  unfold gAppend
  have : cellL M (.ref j) = some (j, xs) := by
    show (match M.g j with
      | some (.lst xs) => some (j, xs)
      | _ => none) = _
    rw [h]
  rw [this]
  exact if_pos hl
theorem one_of {f : Sto → PV → Option PV} {d : DE} {ρ : En} {M M1 : Sto} {x z : PV} (h1 : d ρ M = .ok x M1) (h2 : f M1 x = some z) : dCB (one f) (dCons d dNil) ρ M = .ok z M1 := by
  rw [dCB_eq, dCons_eq, h1]
  simp only [Res.bind_ok, dNil_eq, one_eq, h2]
theorem expr_nx {d : DE} {ρ : En} {M M1 : Sto} {v : PV} (h : d ρ M = .ok v M1) : sExpr d ρ M = .nx ρ M1 := by
  unfold sExpr
  rw [h]
  rfl
theorem or2_no {t1 t2 : DT} {ρ : En} {M : Sto} (h1 : t1 ρ M = .ok false M) (h2 : t2 ρ M = .ok false M) : dOr t1 t2 ρ M = .ok false M := by
  unfold dOr
  rw [h1]
  exact h2
theorem seq_of {d1 d2 : DS} {ρ ρ' : En} {M M1 : Sto} {r : RS} (h : d1 ρ M = .nx ρ' M1) (k : d2 ρ' M1 = r) : sSeq d1 d2 ρ M = r := by
  unfold sSeq
  rw [h]
  exact k
theorem eqT_look {neg : Bool} {M : Sto} {x y z : PV} (hx : look M x = z) (hy : look M y = z) (p : plain z = true) (d : dep z ≤ 60) : eqG neg M x y = some (.bl (!neg)) := by
  unfold eqG
  rw [hx, hy, if_pos ⟨p, p, d⟩, eqB_refl p]
  cases neg <;> rfl
theorem plain_lints (ns : List Int) : plain (.lst (ns.map PV.int)) = true := plains_ints ns
theorem deps_ints : ∀ ns : List Int, deps (ns.map PV.int) = 0
  | [] => rfl
  | _ :: ns => by
    show max 0 (deps (ns.map PV.int)) = 0
    rw [deps_ints ns]
    rfl
/-- == of two things that are alike when looked at -/
theorem dep_lints (ns : List Int) : dep (.lst (ns.map PV.int)) ≤ 60 := by
  show deps (ns.map PV.int) + 1 ≤ 60
  rw [deps_ints]
  decide
theorem mth_gen {M M1 M2 : Sto} {i c a b : Nat} {fl : List (Str × PV)} {nm : Str} {D : List PV → Sto → Res PV} {sl : List Sl} {dP xs zs : List PV} {do_ : DE} {da dk : DA} {ρ : En} (ho : do_ ρ M = .ok (.ref i) M) (hi : M.g i = some (.ins c fl)) (hn : fl.lookup nm = none) (ha : da ρ M = .ok xs M1) (hk : dk ρ M1 = .ok zs M2) :
    dMth c nm D a b sl dP do_ da dk ρ M = D (genC a b sl dP (.ref i :: xs) zs) M2 := by
  unfold dMth
  rw [ho]
  simp only [Res.bind_ok, ins_here hi, hn, if_true]
  rw [ha]
  simp only [Res.bind_ok]
  rw [hk]
  simp only [Res.bind_ok]

theorem span39 {M : Sto} (T : Tw M) {t : Int} (t0 : -900000 ≤ t) (t1 : t ≤ 900000) (h : Bool) : ∃ (p : Int × Int) (M' : Sto), D__law_span [.ref 1, .int t, .bl h] M = .ok (spP p) M' ∧ ((-1000000 ≤ p.1 ∧ p.1 ≤ 1000000) ∧ (-1000000 ≤ p.2 ∧ p.2 ≤ 1000000) ∧ p.1 ≤ p.2) ∧ (h = true → p.1 ≤ t ∧ t ≤ p.2) ∧ Tw M' ∧ Off M M' := by
  have e0 : D__law_span [.ref 1, .int t, .bl h] M = fin (d__law_span [some (.ref 1), some (.int t), some (.bl h), none] M) := rfl
  have sz : (2 : Nat) ≤ sizeLine := by decide
  rw [e0]
  unfold d__law_span
  cases h with
  | true =>
    obtain ⟨a, M1, e1, a0, a1, T1, o1⟩ := draw_ok T (k := 9) (by decide) (by decide)
    obtain ⟨b, M2, e2, b0, b1, T2, o2⟩ := draw_ok T1 (k := 9) (by decide) (by decide)
    refine ⟨(t - a, t + b), M2, ?_, ⟨⟨?_, ?_⟩, ⟨?_, ?_⟩, ?_⟩, fun _ => ⟨?_, ?_⟩, T2, o1.trans o2⟩
    · simp [genC, gen, e1, e2, sz, spP]
    all_goals (dsimp only; omega)
  | false =>
    obtain ⟨a, M1, e1, a0, a1, T1, o1⟩ := draw_ok T (k := 40) (by decide) (by decide)
    obtain ⟨n, M2, e2, n0, n1, T2, o2⟩ := number_ok T1
    obtain ⟨x, M3, e3, hx, T3, o3⟩ := pick_ok T2 (xs := [.int (a - 20), .int n]) (by simp) (by simp)
    obtain ⟨v, rfl⟩ : ∃ v : Int, x = .int v := by
      simp only [List.mem_cons, List.mem_nil_iff, or_false] at hx
      rcases hx with rfl | rfl
      · exact ⟨_, rfl⟩
      · exact ⟨_, rfl⟩
    obtain ⟨b, M4, e4, b0, b1, T4, o4⟩ := draw_ok T3 (k := 15) (by decide) (by decide)
    obtain ⟨lo, elo⟩ : ∃ lo : Int, lo = (if (if t + v < 999000 then t + v else 999000) > -1000000 then (if t + v < 999000 then t + v else 999000) else -1000000) := ⟨_, rfl⟩
    have l0 : -1000000 ≤ lo ∧ lo ≤ 999000 := by
      rw [elo]
      split <;> split <;> omega
    refine ⟨(lo, lo + b), M4, ?_, ⟨⟨?_, ?_⟩, ⟨?_, ?_⟩, ?_⟩, (fun z => by cases z), T4, ((o1.trans o2).trans o3).trans o4⟩
    · simp [genC, gen, e1, e2, e3, e4, sz, spP, max2_eq, min2_eq, ← elo]
    all_goals (dsimp only; omega)
theorem spans39 {M : Sto} (T : Tw M) {t size : Int} {fs : List Int} (t0 : -900000 ≤ t) (t1 : t ≤ 900000) (s0 : 0 ≤ size) : ∃ (ps : List (Int × Int)) (M' : Sto), compF bnd1 [some (.ref 1), some (.int t), some (.lst (fs.map PV.int))] dTrue c_law_3 (rngP 0 size.toNat) M = .ok (ps.map spP) M' ∧ (ps.length : Int) = size ∧ GoodSp ps ∧ (∀ (k : Nat) (p : Int × Int), ps[k]? = some p → (k : Int) ∉ fs → p.1 ≤ t ∧ t ≤ p.2) ∧ Tw M' ∧ Off M M' := by
  have lp := compF_ix (bnd := bnd1) (r := [some (.ref 1), some (.int t), some (.lst (fs.map PV.int))]) (dt := dTrue) (de := c_law_3)
    (fun i acc M' => ∃ ps : List (Int × Int), acc = ps.map spP ∧ ps.length = i ∧ GoodSp ps ∧ (∀ (k : Nat) (p : Int × Int), ps[k]? = some p → (k : Int) ∉ fs → p.1 ≤ t ∧ t ≤ p.2) ∧ Tw M' ∧ Off M M') (rngP 0 size.toNat) 0 [] M ⟨[], rfl, rfl, ⟨by simp⟩, by simp, T, .refl M⟩ (by
      rintro i x hx acc M2 ⟨ps, rfl, hl, gd, hon, T2, o2⟩
      rw [rngP_get] at hx
      split at hx
      · rename_i hi
        cases hx
        generalize hz : (0 + (i : Int)) = z
        obtain ⟨p, M3, e3, b3, h3, T3, o3⟩ := span39 T2 t0 t1 (!decide (z ∈ fs))
        refine ⟨_, true, M2, rfl, rfl, (fun z => by cases z), fun _ => ⟨spP p, M3, ?_, ps ++ [p], by simp, by simp; omega, ⟨fun q hq => ?_⟩, fun k q hk hn => ?_, T3, o2.trans o3⟩⟩
        · have gi := gIn_ints (neg := true) (M := M2) (x := .lst (fs.map PV.int)) (k := z) (ns := fs) rfl
          have gi : gIn true M2 (.int z) (.lst (fs.map PV.int)) = some (.bl (!decide (z ∈ fs))) := gi
          simp only [c_law_3, dCall_eq, dCons_eq, dVar_0, dVar_s, dOp_eq, dNil_eq, Res.bind_ok, gi, ofO_some]
          exact e3
        · rcases List.mem_append.mp hq with hq | hq
          · exact gd.bd q hq
          · rw [List.mem_singleton.mp hq]
            exact b3
        · by_cases hk' : k < ps.length
          · rw [List.getElem?_append_left hk'] at hk
            exact hon k q hk hn
          · rw [List.getElem?_append_right (by omega)] at hk
            have hk0 : k = ps.length := by
              have := (List.getElem?_eq_some_iff.mp hk).1
              simp at this
              omega
            rw [hk0] at hk hn
            simp at hk
            subst hk
            refine h3 ?_
            rw [show z = (ps.length : Int) by omega]
            simpa using hn
      · cases hx)
  obtain ⟨ys, M', e2, ps, hy, hl, gd, hon, T', o'⟩ := lp
  rw [List.nil_append] at hy
  subst hy
  rw [rngP_len] at hl
  exact ⟨ps, M', e2, by omega, gd, hon, T', o'⟩
theorem off_mem {q : Int × Int} : ∀ {ps : List (Int × Int)} (i : Nat) (x : Int), x ∈ offFrom q i ps ↔ ∃ (k : Nat) (p : Int × Int), ps[k]? = some p ∧ x = ((i + k : Nat) : Int) ∧ cmn p q = false
  | [], i, x => ⟨fun h => (by cases h), fun ⟨k, p, h, _⟩ => by simp at h⟩
  | p :: ps, i, x => by
    have ih := off_mem (q := q) (ps := ps) (i + 1) x
    unfold offFrom
    have key : (∃ (k : Nat) (p' : Int × Int), (p :: ps)[k]? = some p' ∧ x = ((i + k : Nat) : Int) ∧ cmn p' q = false) ↔ (x = (i : Int) ∧ cmn p q = false) ∨ ∃ (k : Nat) (p' : Int × Int), ps[k]? = some p' ∧ x = ((i + 1 + k : Nat) : Int) ∧ cmn p' q = false := by
      constructor
      · rintro ⟨k, p', h1, h2, h3⟩
        cases k with
        | zero =>
          cases h1
          exact .inl ⟨by simpa using h2, h3⟩
        | succ k => exact .inr ⟨k, p', h1, by rw [h2]; congr 1; omega, h3⟩
      · rintro (⟨h1, h2⟩ | ⟨k, p', h1, h2, h3⟩)
        · exact ⟨0, p, rfl, by simpa using h1, h2⟩
        · exact ⟨k + 1, p', h1, by rw [h2]; congr 1; omega, h3⟩
    rw [key, ← ih]
    cases hc : cmn p q with
    | true =>
      rw [if_pos rfl]
      exact ⟨.inr, fun z => z.elim (fun h => by cases h.2) id⟩
    | false =>
      rw [if_neg (by simp), List.mem_cons]
      exact ⟨fun z => z.imp (fun h => ⟨h, rfl⟩) id, fun z => z.imp (fun h => h.1) id⟩
theorem cmn_sub {p q r : Int × Int} (h1 : q.1 ≤ r.1) (h2 : r.2 ≤ q.2) (h : cmn p q = false) : cmn p r = false := by
  unfold cmn at h ⊢
  rw [Bool.and_eq_false_iff, decide_eq_false_iff_not, decide_eq_false_iff_not] at h ⊢
  omega
/-- a narrower place shows more of them off -/
theorem off_more {q r : Int × Int} {ps : List (Int × Int)} (h1 : q.1 ≤ r.1) (h2 : r.2 ≤ q.2) {x : Int} (h : x ∈ offFrom q 0 ps) : x ∈ offFrom r 0 ps := by
  obtain ⟨k, p, a, b, c⟩ := (off_mem 0 x).mp h
  exact (off_mem 0 x).mpr ⟨k, p, a, b, cmn_sub h1 h2 c⟩
theorem off_small {q : Int × Int} {ps : List (Int × Int)} (hl : ps.length ≤ 10) : ∀ x ∈ offFrom q 0 ps, 0 ≤ x ∧ x < 16 := fun x hx => by
  obtain ⟨k, p, a, b, _⟩ := (off_mem 0 x).mp hx
  have := (List.getElem?_eq_some_iff.mp a).1
  omega
theorem off_len {q : Int × Int} : ∀ (l : List (Int × Int)) (i : Nat), (offFrom q i l).length ≤ l.length
  | [], _ => Nat.le_refl _
  | p :: l, i => by
    have := off_len (q := q) l (i + 1)
    unfold offFrom
    rw [List.length_cons]
    split
    · omega
    · rw [List.length_cons]
      omega
/-- the law's own look at who is off -/
theorem off_law {M : Sto} {q : Int × Int} {ps : List (Int × Int)} : compF bnd1 [some (spP q), some (.lst (ps.map spP))] t_law_2 (dVar 0) (rngP 0 ps.length) M = .ok ((((List.range ps.length).map fun k : Nat => (0 + (k : Int))).filter fun x => !cmn (ps.getD x.toNat (0, 0)) q).map PV.int) M := by
  have er : rngP 0 ps.length = ((List.range ps.length).map fun k : Nat => (0 + (k : Int))).map PV.int := by
    unfold rngP
    rw [List.map_map]
    rfl
  rw [er]
  refine compF_emb PV.int (fun x => !cmn (ps.getD x.toNat (0, 0)) q) PV.int _ fun x hx => ⟨[some (.int x), some (spP q), some (.lst (ps.map spP))], rfl, ?_, fun _ => rfl⟩
  obtain ⟨k, hk, rfl⟩ := List.mem_map.mp hx
  have hk := List.mem_range.mp hk
  have e1 : ps.getD (0 + (k : Int)).toNat (0, 0) = ps[k] := by
    rw [show (0 + (k : Int)).toNat = k by omega, List.getD_eq_getElem?_getD, List.getElem?_eq_getElem hk]
    rfl
  rw [e1]
  have e2 : dOp gIx (dVar 2) (dVar 0) [some (.int (0 + (k : Int))), some (spP q), some (.lst (ps.map spP))] M = .ok (spP ps[k]) M := by
    refine dOp_of (x := .lst (ps.map spP)) (y := .int (0 + (k : Int))) rfl rfl ?_
    rw [gIx_of (xs := ps.map spP) rfl, atI_nn (by omega) (by rw [List.length_map]; omega), show (0 + (k : Int)).toNat = k by omega, List.getElem?_map, List.getElem?_eq_getElem hk]
    rfl
  have t1 : dTest (dOp gLt (dOp gIx (dOp gIx (dVar 2) (dVar 0)) (dC (.int 1))) (dOp gIx (dVar 1) (dC (.int 0)))) [some (.int (0 + (k : Int))), some (spP q), some (.lst (ps.map spP))] M = .ok (decide (ps[k].2 < q.1)) M := test_bl (dOp_of (dOp_of e2 (y := .int 1) rfl rfl) (dOp_of (x := spP q) (y := .int 0) rfl rfl rfl) rfl)
  have t2 : dTest (dOp gGt (dOp gIx (dOp gIx (dVar 2) (dVar 0)) (dC (.int 0))) (dOp gIx (dVar 1) (dC (.int 1)))) [some (.int (0 + (k : Int))), some (spP q), some (.lst (ps.map spP))] M = .ok (decide (q.2 < ps[k].1)) M := test_bl (dOp_of (dOp_of e2 (y := .int 0) rfl rfl) (dOp_of (x := spP q) (y := .int 1) rfl rfl rfl) rfl)
  unfold t_law_2 dOr
  rw [t1]
  unfold cmn
  by_cases h1 : ps[k].2 < q.1
  · rw [decide_eq_true h1, decide_eq_false (show ¬ q.1 ≤ ps[k].2 by omega), Bool.and_false]
    rfl
  · rw [decide_eq_false h1, decide_eq_true (show q.1 ≤ ps[k].2 by omega), Bool.and_true]
    simp only [Res.bind_ok, Bool.false_eq_true, if_false]
    rw [t2]
    congr 1
    by_cases h2 : q.2 < ps[k].1
    · rw [decide_eq_true h2, decide_eq_false (by omega)]
      rfl
    · rw [decide_eq_false h2, decide_eq_true (by omega)]
      rfl
theorem off_law_mem {q : Int × Int} {ps : List (Int × Int)} (x : Int) : x ∈ ((List.range ps.length).map fun k : Nat => (0 + (k : Int))).filter (fun x => !cmn (ps.getD x.toNat (0, 0)) q) ↔ x ∈ offFrom q 0 ps := by
  rw [List.mem_filter, off_mem]
  constructor
  · rintro ⟨h1, h2⟩
    obtain ⟨k, hk, rfl⟩ := List.mem_map.mp h1
    have hk := List.mem_range.mp hk
    refine ⟨k, ps[k], List.getElem?_eq_getElem hk, by omega, ?_⟩
    rw [show (0 + (k : Int)).toNat = k by omega, List.getD_eq_getElem?_getD, List.getElem?_eq_getElem hk] at h2
    simpa using h2
  · rintro ⟨k, p, h1, rfl, h3⟩
    obtain ⟨hk, e⟩ := List.getElem?_eq_some_iff.mp h1
    refine ⟨List.mem_map.mpr ⟨k, List.mem_range.mpr hk, by omega⟩, ?_⟩
    rw [show ((0 + k : Nat) : Int).toNat = k by omega, List.getD_eq_getElem?_getD, h1]
    simpa using h3

structure K39 (M : Sto) (i : Nat) (k sp bt : Int) (own : PV) (l : List Int) : Prop where
  tw : Tw M
  tr : M.g i = some (.ins 10 (trk k sp bt own (.ref (i + 1))))
  ca : M.g (i + 1) = some (.dkv (l.map kb))
  i2 : 2 ≤ i
  ln : i + 2 ≤ M.n
  sm : ∀ x ∈ l, 0 ≤ x ∧ x < 16
  nd : l.Nodup
section
variable {M M' : Sto} {i : Nat} {k sp bt : Int} {own : PV} {l : List Int}
theorem K39.off (K : K39 M i k sp bt own l) (o : Off M M') (t : Tw M') : K39 M' i k sp bt own l := by
  have := K.i2
  have := K.ln
  exact ⟨t, by rw [o.g _ (by omega) (by omega)]; exact K.tr, by rw [o.g _ (by omega) (by omega)]; exact K.ca, K.i2, Nat.le_trans K.ln o.n, K.sm, K.nd⟩
theorem K39.new (K : K39 M i k sp bt own l) (c : Cell) : K39 (M.new c) i k sp bt own l := by
  have := K.ln
  have := K.i2
  refine ⟨?_, by rw [Sto.new_ne (by omega)]; exact K.tr, by rw [Sto.new_ne (by omega)]; exact K.ca, K.i2, Nat.le_succ_of_le K.ln, K.sm, K.nd⟩
  obtain ⟨ns, c', t⟩ := K.tw
  exact ⟨ns, c', by rw [Sto.new_ne (by omega)]; exact t.row, by rw [Sto.new_ne (by omega)]; exact t.tw, t.ne, Nat.le_succ_of_le t.n⟩
theorem K39.len (K : K39 M i k sp bt own l) : l.length ≤ 16 := by
  have := Sml.sublen l ((List.range 16).map fun k : Nat => (k : Int)) K.nd fun x hx => List.mem_map.mpr ⟨x.toNat, List.mem_range.mpr (by have := K.sm x hx; omega), by have := K.sm x hx; omega⟩
  rw [List.length_map, List.length_range] at this
  exact this
theorem K39.small (K : K39 M i k sp bt own l) : smallI l = true := List.all_eq_true.mpr fun x hx => by
  have := K.sm x hx
  rw [Bool.and_eq_true, decide_eq_true_eq, decide_eq_true_eq]
  exact this
theorem sortD_eq {a b : List Int} (ha : ∀ x ∈ a, 0 ≤ x ∧ x < 16) (hb : ∀ x ∈ b, 0 ≤ x ∧ x < 16) (h : ∀ x, x ∈ a ↔ x ∈ b) : sortD a = sortD b := rise_eq _ _ (sortD_rise a) (sortD_rise b) fun x => by rw [sortD_mem ha, sortD_mem hb, h]
/-- see, and what was caught -/
theorem see39 (K : K39 M i k sp bt own l) {b : Int} {ps : List (Int × Int)} {p r : Int × Int} (hps : ps.length ≤ 10) (b0 : bt ≤ b) (b1 : b ≤ 100000) (hb : small bt = true) (hf : D_fused [.lst (ps.map spP), .int k] M = .ok (spP p) M) (hn : D_Track_narrowed [.ref i, .int b, spP p] M = .ok (spP r) M) :
    ∃ M', D_Track_see [.ref i, .int b, .lst (ps.map spP)] M = .ok (spP r) M' ∧ K39 M' i k sp b (spP r) (addAll l (offFrom r 0 ps)) := by
  have hl := K.len
  have ho := off_len (q := r) ps 0
  have := K.i2
  refine ⟨_, see_eq K.tr K.ca (by omega) (by omega) b0 b1 hb hf hn (off_eq (by omega)), ?_, Sto.set_same, by rw [Sto.set_ne (by omega)]; exact Sto.set_same, K.i2, K.ln, fun x hx => ?_, addAll_nd _ _ K.nd⟩
  · obtain ⟨ns, c', t⟩ := K.tw
    exact ⟨ns, c', by rw [Sto.set_ne (by omega), Sto.set_ne (by omega)]; exact t.row, by rw [Sto.set_ne (by omega), Sto.set_ne (by omega)]; exact t.tw, t.ne, t.n⟩
  · rcases (addAll_mem _ _ x).mp hx with hx | hx
    · exact K.sm x hx
    · exact off_small hps x hx
theorem found39 (K : K39 M i k sp bt own l) : D_Track_liars_found [.ref i] M = .ok (.lst ((sortD l).map PV.int)) M := found_eq K.tr K.ca K.small K.nd (by have := K.len; omega)
theorem foundv39 (K : K39 M i k sp bt own l) : D_Track_liars_found__v [.ref i] M = .ok (.ref M.n) (M.new (.lst ((sortD l).map PV.int))) := by
  refine den_rt (ρ := [some (.ref i)]) rfl rfl ?_
  unfold d_Track_liars_found__v
  refine nx_ret ?_
  rw [dCB_eq, cons1_of (fld_ca K.tr (d := dVar 0) (ρ := [some (.ref i)]) rfl)]
  simp only [Res.bind_ok]
  have q : gSortKN M [.ref (i + 1)] = some (.ref M.n, M.new (.lst ((sortD l).map PV.int))) := by
    unfold gSortKN
    simp only [sortK_eq K.ca K.small K.nd (by have := K.len; omega)]
    rfl
  rw [q]
end

theorem eq_sp {M : Sto} {p : Int × Int} : eqG true M (spP p) (spP p) = some (.bl false) := eqT_look (neg := true) (z := spP p) rfl rfl rfl (show (1 : Nat) ≤ 60 by decide)
section
variable {M : Sto} {i : Nat} {k sp bt : Int} {own : PV} {l fs : List Int}
theorem turn39 (K : K39 M i k sp bt own l) (k0 : 0 ≤ k) (k3 : k ≤ 3) {size : Int} (hk : k < size) (hz : size ≤ 10) (s0 : 0 ≤ sp) (s1 : sp ≤ 1000) {t : Int} (t0 : -900000 ≤ t) (t1 : t ≤ 900000) (b0 : 0 ≤ bt) (b1 : bt ≤ 1000) (fl : (fs.length : Int) ≤ k) (hfs : ∀ x ∈ l, x ∈ fs)
    (ho : own = .non ∨ ∃ lo hi, own = spP (lo, hi) ∧ lo ≤ t ∧ t ≤ hi) (x0 x11 x12 x13 x14 x15 x16 x17 x18 : Option PV) :
    ∃ t' b' lo hi l' y12 y13 y14 y15 y16 y17 y18 M', d_law_L1 [x0, some (.ref 1), some (.int k), some (.int size), some (.int sp), some (.lst (fs.map PV.int)), some (.ref i), some (.int t), some (.int bt), some own, some (.lst ((sortD l).map PV.int)), x11, x12, x13, x14, x15, x16, x17, x18] M = .nx [x0, some (.ref 1), some (.int k), some (.int size), some (.int sp), some (.lst (fs.map PV.int)), some (.ref i), some (.int t'), some (.int b'), some (spP (lo, hi)), some (.lst ((sortD l').map PV.int)), x11, y12, y13, y14, y15, y16, y17, y18] M' ∧ K39 M' i k sp b' (spP (lo, hi)) l' ∧ -900000 ≤ t' ∧ t' ≤ 900000 ∧ bt ≤ b' ∧ b' ≤ bt + 11 ∧ lo ≤ t' ∧ t' ≤ hi ∧ ∀ x ∈ l', x ∈ fs := by
  obtain ⟨F, hF⟩ : ∃ F, F = PV.lst (fs.map PV.int) := ⟨_, rfl⟩
  obtain ⟨C, hC⟩ : ∃ C, C = PV.lst ((sortD l).map PV.int) := ⟨_, rfl⟩
  obtain ⟨d, M1, e1, d0, d1, T1, o1⟩ := draw_ok K.tw (k := 12) (by decide) (by decide)
  have K1 := K.off o1 T1
  obtain ⟨w, hw⟩ : ∃ w, w = d * sp := ⟨_, rfl⟩
  have w0 : 0 ≤ w := by rw [hw]; exact Int.mul_nonneg d0 s0
  have w1 : w ≤ 11000 := by
    rw [hw]
    have := Int.mul_le_mul (show d ≤ 11 by omega) s1 s0 (by decide)
    omega
  obtain ⟨e, M2, e2, f0, f1, T2, o2⟩ := draw_ok T1 (k := 2 * w + 1) (by omega) (by omega)
  have K2 := K1.off o2 T2
  obtain ⟨t', ht'⟩ : ∃ t' : Int, t' = (if (if t + e - w < 900000 then t + e - w else 900000) > -900000 then (if t + e - w < 900000 then t + e - w else 900000) else -900000) := ⟨_, rfl⟩
  have tb : -900000 ≤ t' ∧ t' ≤ 900000 ∧ t - w ≤ t' ∧ t' ≤ t + w := by
    rw [ht']
    split <;> split <;> omega
  have m1 : ∀ M, gMul M (.int 2) (.int d) = some (.int (2 * d)) := fun M => gMul_int (.inl (by decide))
  have m2 : ∀ M, gMul M (.int (2 * d)) (.int sp) = some (.int (2 * w)) := fun M => by rw [gMul_int (.inl ⟨by omega, by omega⟩), Int.mul_assoc, ← hw]
  have m3 : ∀ M, gMul M (.int d) (.int sp) = some (.int w) := fun M => by rw [gMul_int (.inl ⟨by omega, by omega⟩), ← hw]
  have hlb : small bt = true := small_iff.mpr ⟨by omega, by omega⟩
  have mw : ∀ b, b = bt + d → sp * (b - bt) = w := fun b hb => by rw [hb, show bt + d - bt = d by omega, hw, Int.mul_comm]
  -- the spans
  obtain ⟨ps, M3, e3, l3, g3, hon, T3, o3⟩ := spans39 T2 (t := t') (size := size) (fs := fs) tb.1 tb.2.1 (by omega)
  have K3 := K2.off o3 T3
  have nbad := bad_all (P := inS t') (fs := fs) (ps := ps) fun j p hj hn => inS_iff.mpr (hon j p hj hn)
  have nspl := split_len (inS t') ps
  have ct : (ps.length : Int) - k ≤ (cnt ps t' : Int) := by unfold cnt; omega
  obtain ⟨pl, ph, ef, es, lot, thi, _, _⟩ := fus_at (k := k) (by omega) ct
  have fe := fused_eq (M := M3) g3 (k := k) k0 (by omega) (by omega) (by omega)
  rw [ef] at fe
  have se := shown_eq (M := M3) g3 (k := k) k0 (by omega) (by omega) (by omega)
  rw [es] at se
  -- where it is
  obtain ⟨own2, r, hw2, hn, hr1, hr2, hr3, hr4, hg⟩ : ∃ (own2 : PV) (r : Int × Int), (own2 = .non ∧ own = .non ∧ r = (pl, ph) ∨ ∃ lo hi, own = spP (lo, hi) ∧ own2 = spP (lo - w, hi + w) ∧ r = (if lo - w > pl then lo - w else pl, if hi + w < ph then hi + w else ph)) ∧ D_Track_narrowed [.ref i, .int (bt + d), spP (pl, ph)] M3 = .ok (spP r) M3 ∧ r.1 ≤ t' ∧ t' ≤ r.2 ∧ pl ≤ r.1 ∧ r.2 ≤ ph ∧ ∀ lo hi, own = spP (lo, hi) → D_Track_guess [.ref i, .int (bt + d)] M2 = .ok (spP (lo - w, hi + w)) M2 := by
    rcases ho with rfl | ⟨lo, hi, rfl, h1, h2⟩
    · exact ⟨.non, (pl, ph), .inl ⟨rfl, rfl, rfl⟩, narrowed_non K3.tr, lot, thi, Int.le_refl _, Int.le_refl _, fun lo hi h => by cases h⟩
    · have nr := narrowed_eq (b := bt + d) (p := (pl, ph)) K3.tr s0 s1 (by
        rw [mw _ rfl]
        unfold cmn
        rw [decide_eq_true (show pl ≤ hi + w by omega), decide_eq_true (show lo - w ≤ ph by omega)]
        rfl)
      rw [mw _ rfl] at nr
      have ge := guess_eq (b := bt + d) K2.tr s0 s1 (by omega) (by omega) hlb
      rw [mw _ rfl] at ge
      refine ⟨spP (lo - w, hi + w), _, .inr ⟨lo, hi, rfl, rfl, rfl⟩, nr, ?_, ?_, ?_, ?_, fun a b h => ?_⟩
      · show (if lo - w > pl then lo - w else pl) ≤ t'
        split <;> omega
      · show t' ≤ (if hi + w < ph then hi + w else ph)
        split <;> omega
      · show pl ≤ (if lo - w > pl then lo - w else pl)
        split <;> omega
      · show (if hi + w < ph then hi + w else ph) ≤ ph
        split <;> omega
      · injection h with h
        injection h with h3 h
        injection h with h4 _
        injection h3 with h3
        injection h4 with h4
        have h3 : lo = a := h3
        have h4 : hi = b := h4
        rw [← h3, ← h4]
        exact ge
  obtain ⟨M4, e4, K4⟩ := see39 K3 (b := bt + d) (ps := ps) (p := (pl, ph)) (r := r) (by omega) (by omega) (by omega) hlb fe hn
  obtain ⟨l', hl'⟩ : ∃ l', l' = addAll l (offFrom r 0 ps) := ⟨_, rfl⟩
  rw [← hl'] at K4
  have hfs' : ∀ x ∈ l', x ∈ fs := fun x hx => by
    rw [hl'] at hx
    rcases (addAll_mem _ _ x).mp hx with hx | hx
    · exact hfs x hx
    · exact off_sub (q := r) (t := t') (fs := fs) hr1 hr2 (ps := ps) 0 (fun j p hj hn => hon j p hj (by simpa using hn)) x hx
  obtain ⟨f, M5, e5, g0, g1, T5, o5⟩ := draw_ok K4.tw (k := 30) (by decide) (by decide)
  have K5 := K4.off o5 T5
  obtain ⟨v, hv⟩ : ∃ v, v = f * sp := ⟨_, rfl⟩
  have m4 : ∀ M, gMul M (.int f) (.int sp) = some (.int v) := fun M => by rw [gMul_int (.inl ⟨by omega, by omega⟩), ← hv]
  have ge := guess_eq (lo := r.1) (hi := r.2) (b := bt + d + f) K5.tr s0 s1 (by omega) (by omega) (small_iff.mpr ⟨by omega, by omega⟩)
  rw [show sp * (bt + d + f - (bt + d)) = v by rw [show bt + d + f - (bt + d) = f by omega, hv, Int.mul_comm]] at ge
  obtain ⟨offL, hoff⟩ : ∃ o, o = ((List.range ps.length).map fun k : Nat => (0 + (k : Int))).filter (fun x => !cmn (ps.getD x.toNat (0, 0)) r) := ⟨_, rfl⟩
  have hoffm : ∀ x, x ∈ offL ↔ x ∈ offFrom r 0 ps := fun x => by rw [hoff]; exact off_law_mem x
  obtain ⟨wr, hwr⟩ : ∃ wr, wr = offFrom (pl, ph) 0 ps ++ offL := ⟨_, rfl⟩
  have hl16 := K.len
  have smA : ∀ x ∈ sortD l ++ wr, 0 ≤ x ∧ x < 16 := fun x hx => by
    rcases List.mem_append.mp hx with hx | hx
    · exact K.sm x ((sortD_mem K.sm x).mp hx)
    · rw [hwr] at hx
      rcases List.mem_append.mp hx with hx | hx
      · exact off_small (by omega) x hx
      · exact off_small (by omega) x ((hoffm x).mp hx)
  have hsort : sortD (sortD l ++ wr) = sortD l' := sortD_eq smA K4.sm fun x => by
    rw [hl', addAll_mem, List.mem_append, sortD_mem K.sm, hwr, List.mem_append, hoffm]
    exact ⟨fun z => z.imp id fun z => z.elim (fun z => off_more hr3 hr4 z) id, fun z => z.imp id .inr⟩
  have loff : offL.length ≤ 10 := by
    rw [hoff]
    refine Nat.le_trans (List.length_filter_le _ _) ?_
    rw [List.length_map, List.length_range]
    omega
  have lof := off_len (q := (pl, ph)) ps 0
  have lsd : ∀ a : List Int, (sortD a).length ≤ 16 := fun a => by
    unfold sortD
    refine Nat.le_trans (List.length_filter_le _ _) ?_
    rw [List.length_map, List.length_range]
    exact Nat.le_refl _
  obtain ⟨W, hW⟩ : ∃ W, W = PV.lst (wr.map PV.int) := ⟨_, rfl⟩
  obtain ⟨P, hP⟩ : ∃ P, P = PV.lst (ps.map spP) := ⟨_, rfl⟩
  obtain ⟨C', hC'⟩ : ∃ C', C' = PV.lst ((sortD l').map PV.int) := ⟨_, rfl⟩
  refine ⟨t', bt + d, r.1, r.2, l', some (.int d), some P, some (spP (pl, ph)), some W, some (spP r), some (.int (bt + d + f)), some (.int v), (M5.new (.lst ((sortD l').map PV.int))).set M5.n (.lst ((sortD l').map PV.int ++ [.int 99])), ?_, ?_, tb.1, tb.2.1, by omega, by omega, hr1, hr2, hfs'⟩
  rotate_left
  · have := K5.ln
    have := K5.i2
    have K6 := K5.new (.lst ((sortD l').map PV.int))
    refine ⟨?_, by rw [Sto.set_ne (by omega)]; exact K6.tr, by rw [Sto.set_ne (by omega)]; exact K6.ca, K5.i2, K6.ln, K6.sm, K6.nd⟩
    obtain ⟨ns, c', q⟩ := K6.tw
    exact ⟨ns, c', by rw [Sto.set_ne (by omega)]; exact q.row, by rw [Sto.set_ne (by omega)]; exact q.tw, q.ne, q.n⟩
  rw [← hF, ← hC, ← hC']
  unfold d_law_L1
  refine nx_set (v := .int d) (M1 := M1) (by simp [genC, gen, e1]) ?_
  simp only [List.set_cons_succ, List.set_cons_zero]
  refine nx_set (v := .int t') (M1 := M2) (by simp [genC, gen, m1, m2, m3, e2, max2_eq, min2_eq, ← ht']) ?_
  simp only [List.set_cons_succ, List.set_cons_zero]
  refine nx_set (v := .int (bt + d)) (M1 := M2) rfl ?_
  simp only [List.set_cons_succ, List.set_cons_zero]
  have i0 : ∀ (M : Sto) (q : Int × Int), gIx M (spP q) (.int 0) = some (.int q.1) := fun _ _ => rfl
  have i1 : ∀ (M : Sto) (q : Int × Int), gIx M (spP q) (.int 1) = some (.int q.2) := fun _ _ => rfl
  have sz2 : (2 : Nat) ≤ sizeLine := by decide
  have brA : ∀ {A : DS} {kk : DS} {rr : RS}, kk [x0, some (.ref 1), some (.int k), some (.int size), some (.int sp), some F, some (.ref i), some (.int t'), some (.int (bt + d)), some own2, some C, x11, some (.int d), x13, x14, x15, x16, x17, x18] M2 = rr → A = (sSeq (sSet 9 (dTup (dCons (dOp gSub (dOp gIx (dVar 9) (dC (.int 0))) (dOp gMul (dVar 12) (dVar 4))) (dCons (dOp gAdd (dOp gIx (dVar 9) (dC (.int 1))) (dOp gMul (dVar 12) (dVar 4))) dNil))))
  (sIf (dTest (dOp (eqG true) (dMth 10 "guess" D_Track_guess 2 0 [.p 0, .p 1] [] (dVar 6) (dCons (dVar 8) dNil) dNil) (dVar 9))) (sRet (dC (.bl false))) sNext)) → sSeq (sIf (dTest (dOp gNotN (dVar 9) (dC .non))) A sNext) kk [x0, some (.ref 1), some (.int k), some (.int size), some (.int sp), some F, some (.ref i), some (.int t'), some (.int (bt + d)), some own, some C, x11, some (.int d), x13, x14, x15, x16, x17, x18] M2 = rr := fun {A kk rr} hkk hA => by
    subst hA
    rcases hw2 with ⟨rfl, rfl, _⟩ | ⟨lo, hi, rfl, rfl, _⟩
    · exact nx_br (bb := false) (M1 := M2) (test_bl (dOp_of (x := .non) (y := .non) rfl rfl rfl)) rfl hkk
    · refine nx_br (bb := true) (M1 := M2) (M2 := M2) (ρ' := [x0, some (.ref 1), some (.int k), some (.int size), some (.int sp), some F, some (.ref i), some (.int t'), some (.int (bt + d)), some (spP (lo - w, hi + w)), some C, x11, some (.int d), x13, x14, x15, x16, x17, x18]) (test_bl (dOp_of (x := spP (lo, hi)) (y := .non) rfl rfl rfl)) ?_ hkk
      show sSeq _ _ _ M2 = _
      refine nx_set (v := spP (lo - w, hi + w)) (M1 := M2) (by simp [i0, i1, m3, sz2]; rfl) ?_
      simp only [List.set_cons_succ, List.set_cons_zero]
      refine nx_last (test_bl (dOp_of (x := spP (lo - w, hi + w)) (M1 := M2) ?_ (y := spP (lo - w, hi + w)) rfl eq_sp))
      rw [mth_gen (xs := [.int (bt + d)]) (zs := []) (M1 := M2) (M2 := M2) rfl K2.tr rfl rfl rfl]
      exact hg lo hi rfl
  refine brA ?_ rfl
  refine nx_set (v := P) (M1 := M3) ?_ ?_
  · rw [hP]
    refine dComp_of (xs := rngP 0 size.toNat) (M1 := M2) ?_ (by rw [rngP_len]; exact sz40 (by omega)) ?_
    · have hs : small size = true := small_iff.mpr ⟨by omega, by omega⟩
      unfold dRng1
      simp only [dCons_eq, dVar_0, dVar_s, dNil_eq, Res.bind_ok, hs, if_true]
    · rw [hF]
      exact e3
  simp only [List.set_cons_succ, List.set_cons_zero]
  refine nx_set (v := spP (pl, ph)) (M1 := M3) (by rw [hP]; simp [genC, gen, fe]) ?_
  simp only [List.set_cons_succ, List.set_cons_zero]
  refine nx_set (v := .lst ((offFrom (pl, ph) 0 ps).map PV.int)) (M1 := M3) (by rw [hP]; simp [genC, gen, se]) ?_
  simp only [List.set_cons_succ, List.set_cons_zero]
  refine nx_set (v := spP r) (M1 := M3) ?_ ?_
  · rcases hw2 with ⟨rfl, rfl, rfl⟩ | ⟨lo, hi, rfl, rfl, rfl⟩
    · rw [dIf_eq, test_bl (b := true) (dOp_of (x := .non) (y := .non) rfl rfl rfl)]
      rfl
    · rw [dIf_eq, test_bl (b := false) (dOp_of (x := spP (lo - w, hi + w)) (y := .non) rfl rfl rfl)]
      simp only [Res.bind_ok, Bool.false_eq_true, if_false]
      simp [i0, i1, max2_eq, min2_eq, sz2]
      rfl
  simp only [List.set_cons_succ, List.set_cons_zero]
  have hlen : ps.length = size.toNat := by omega
  refine nx_set (v := W) (M1 := M3) ?_ ?_
  · refine dOp_of (x := .lst ((offFrom (pl, ph) 0 ps).map PV.int)) (y := .lst (offL.map PV.int)) (M1 := M3) (M2 := M3) rfl ?_ ?_
    · refine dComp_of (xs := rngP 0 size.toNat) (M1 := M3) ?_ (by rw [rngP_len]; exact sz40 (by omega)) ?_
      · have hs : small size = true := small_iff.mpr ⟨by omega, by omega⟩
        unfold dRng1
        simp only [dCons_eq, dVar_0, dVar_s, dNil_eq, Res.bind_ok, hs, if_true]
      · rw [← hlen, hP, hoff]
        exact off_law
    · rw [gAdd_seq (xs := (offFrom (pl, ph) 0 ps).map PV.int) (ys := offL.map PV.int) rfl rfl (by rw [List.length_map, List.length_map]; exact Nat.le_of_lt (sz40 (by omega))), ← List.map_append, ← hwr, hW]
  simp only [List.set_cons_succ, List.set_cons_zero]
  refine nx_set (v := C') (M1 := M3) ?_ ?_
  · have lw : wr.length ≤ 20 := by
      rw [hwr, List.length_append]
      omega
    have l1 := lsd l
    have ea : dOp gAdd (dVar 10) (dVar 15) [x0, some (.ref 1), some (.int k), some (.int size), some (.int sp), some F, some (.ref i), some (.int t'), some (.int (bt + d)), some (spP r), some C, x11, some (.int d), some P, some (spP (pl, ph)), some W, x16, x17, x18] M3 = .ok (.lst ((sortD l ++ wr).map PV.int)) M3 := by
      refine dOp_of (x := C) (y := W) rfl rfl ?_
      rw [hC, hW, gAdd_seq (xs := (sortD l).map PV.int) (ys := wr.map PV.int) rfl rfl (by rw [List.length_map, List.length_map]; exact Nat.le_of_lt (sz40 (by omega))), ← List.map_append]
    unfold dSortS
    rw [ea]
    simp only [Res.bind_ok]
    have : iseq M3 (.lst ((sortD l ++ wr).map PV.int)) = some (sortD l ++ wr) := by
      unfold iseq
      rw [seqP_lst]
      exact intsP_map _
    rw [this]
    simp only []
    rw [if_pos (show smallI (sortD l ++ wr) = true from List.all_eq_true.mpr fun x hx => by
      have := smA x hx
      rw [Bool.and_eq_true, decide_eq_true_eq, decide_eq_true_eq]
      exact this), hsort, hC']
  simp only [List.set_cons_succ, List.set_cons_zero]
  refine nx_set (v := spP r) (M1 := M4) ?_ ?_
  · rw [mth_gen (xs := [.int (bt + d), P]) (zs := []) (M1 := M3) (M2 := M3) rfl K3.tr rfl rfl rfl, hP]
    exact e4
  simp only [List.set_cons_succ, List.set_cons_zero]
  refine nx_no (M1 := M4) ?_ ?_
  · refine or2_no (test_bl (dOp_of (x := spP r) (y := spP r) rfl rfl eq_sp)) (or2_no ?_ ?_)
    · rfl
    · rw [dNot_eq]
      have : dTest (dChain gLe gLe (dOp gIx (dVar 16) (dC (.int 0))) (dVar 7) (dOp gIx (dVar 16) (dC (.int 1)))) [x0, some (.ref 1), some (.int k), some (.int size), some (.int sp), some F, some (.ref i), some (.int t'), some (.int (bt + d)), some (spP r), some C', x11, some (.int d), some P, some (spP (pl, ph)), some W, some (spP r), x17, x18] M4 = .ok true M4 := by
        simp [dChain, i0, i1, hr1, hr2]
      rw [this]
      rfl
  refine nx_no (M1 := M4) ?_ ?_
  · refine or2_no ?_ ?_
    · refine test_bl (dOp_of (x := C') (M1 := M4) ?_ (y := C') rfl (eqT_look (neg := true) (z := C') (by rw [hC']; rfl) (by rw [hC']; rfl) (by rw [hC']; exact plain_lints _) (by rw [hC']; exact dep_lints _)))
      rw [mth_gen (xs := []) (zs := []) (M1 := M4) (M2 := M4) rfl K4.tr rfl rfl rfl, hC']
      exact found39 K4
    · refine test_bl (dOp_of (x := .lst []) (M1 := M4) ?_ (y := .lst []) (M2 := M4) ?_ rfl)
      · refine dComp_of (xs := (sortD l').map PV.int) (M1 := M4) (by rw [hC']; rfl) (by rw [List.length_map]; have := lsd l'; exact sz40 (by omega)) ?_
        have := compF_emb (bnd := bnd1) (r := L3.rest [5] [x0, some (.ref 1), some (.int k), some (.int size), some (.int sp), some F, some (.ref i), some (.int t'), some (.int (bt + d)), some (spP r), some C', x11, some (.int d), some P, some (spP (pl, ph)), some W, some (spP r), x17, x18]) (dt := dTest (dOp (gIn true) (dVar 0) (dVar 1))) (de := dVar 0) (M := M4) PV.int (fun _ => false) PV.int (sortD l') fun x hx => ⟨[some (.int x), some F], rfl, by
          refine test_bl (dOp_of (x := .int x) (y := F) rfl rfl ?_)
          rw [gIn_ints (neg := true) (k := x) (ns := fs) (by rw [hF]; rfl)]
          show some (PV.bl (!decide (x ∈ fs))) = _
          rw [decide_eq_true (hfs' x ((sortD_mem K4.sm x).mp hx))]
          rfl, fun z => by cases z⟩
        rw [this, List.filter_eq_nil_iff.mpr (fun _ _ z => by cases z)]
        rfl
      · rw [dLst_eq, dNil_eq]
        simp only [Res.bind_ok]
        exact if_pos (Nat.zero_le _)
  refine nx_set (v := .int (bt + d + f)) (M1 := M5) (by simp [genC, gen, e5]) ?_
  simp only [List.set_cons_succ, List.set_cons_zero]
  refine nx_set (v := .int v) (M1 := M5) ?_ ?_
  · refine dOp_of (x := .int f) (y := .int sp) (M1 := M5) (dOp_of (x := .int (bt + d + f)) (y := .int (bt + d)) rfl rfl ?_) rfl (m4 M5)
    show some (PV.int (bt + d + f - (bt + d))) = _
    rw [show bt + d + f - (bt + d) = f by omega]
  simp only [List.set_cons_succ, List.set_cons_zero]
  refine nx_no (M1 := M5) ?_ ?_
  · refine test_bl (dOp_of (x := spP (r.1 - v, r.2 + v)) (M1 := M5) ?_ (y := spP (r.1 - v, r.2 + v)) (M2 := M5) ?_ eq_sp)
    · rw [mth_gen (xs := [.int (bt + d + f)]) (zs := []) (M1 := M5) (M2 := M5) rfl K5.tr rfl rfl rfl]
      exact ge
    · simp [i0, i1, sz2]
      rfl
  refine expr_nx (v := .non) ?_
  have K6 := K5.new (.lst ((sortD l').map PV.int))
  refine dMt_of (x := .ref M5.n) (M1 := M5.new (.lst ((sortD l').map PV.int))) (M2 := M5.new (.lst ((sortD l').map PV.int))) (xs := [.int 99]) (ys := (sortD l').map PV.int) ?_ ?_ rfl ?_
  · rw [mth_gen (xs := []) (zs := []) (M1 := M5) (M2 := M5) rfl K5.tr rfl rfl rfl]
    exact foundv39 K5
  · exact seqP_ref Sto.new_same
  · exact app_of Sto.new_same (by rw [List.length_map]; have := lsd l'; exact sz40 (by omega))
end

theorem new_set {M : Sto} {x y : Cell} : (M.new x).set M.n y = M.new y := by
  unfold Sto.new Sto.set
  congr 1
  funext j
  by_cases h : j = M.n <;> simp [h]
theorem init39 {M : Sto} {few sp : Int} (f0 : 0 ≤ few) (f1 : few ≤ 5) (s0 : 0 ≤ sp) (s1 : sp ≤ 1000) : ∃ M', made 10 D_Track___init__ (fun x => [x, .int few, .int sp]) M = .ok (.ref M.n) M' ∧ M'.n = M.n + 2 ∧ M'.g M.n = some (.ins 10 (trk few sp 0 .non (.ref (M.n + 1)))) ∧ M'.g (M.n + 1) = some (.dkv []) ∧ ∀ j, j < M.n → M'.g j = M.g j := by
  have hf : inWP (.int few) 0 5 = true := in_wp f0 f1
  have hs : inWP (.int sp) 0 1000 = true := in_wp s0 s1
  obtain ⟨fs4, h4⟩ : ∃ fs4 : List (Str × PV), fs4 = (trk few sp 0 .non .non).take 4 := ⟨_, rfl⟩
  obtain ⟨M5, h5⟩ : ∃ M5, M5 = (M.new (.ins 10 fs4)).new (.dkv []) := ⟨_, rfl⟩
  obtain ⟨M6, h6⟩ : ∃ M6, M6 = M5.set M.n (.ins 10 (trk few sp 0 .non (.ref (M.n + 1)))) := ⟨_, rfl⟩
  refine ⟨M6, ?_, by rw [h6, h5]; rfl, by rw [h6]; exact Sto.set_same, ?_, fun j hj => ?_⟩
  · have e : D_Track___init__ [.ref M.n, .int few, .int sp] (M.new (.ins 10 [])) = .ok .non M6 := by
      have st : ∀ (f : Str) (d : DE) (v : PV) (fs : List (Str × PV)), d [some (.ref M.n), some (.int few), some (.int sp)] (M.new (.ins 10 fs)) = .ok v (M.new (.ins 10 fs)) → fs.length < 1000 → sFldS 10 f d (dVar 0) [some (.ref M.n), some (.int few), some (.int sp)] (M.new (.ins 10 fs)) = .nx [some (.ref M.n), some (.int few), some (.int sp)] (M.new (.ins 10 (putP f v fs))) := fun f d v fs hd hz => by
        unfold sFldS
        rw [hd]
        simp only [Res.st_ok, dVar_0, ins_here (M := M.new (.ins 10 fs)) (i := M.n) (k := 10) Sto.new_same, hz, if_true, new_set]
      have e0 : D_Track___init__ [.ref M.n, .int few, .int sp] (M.new (.ins 10 [])) = fin (d_Track___init__ [some (.ref M.n), some (.int few), some (.int sp)] (M.new (.ins 10 []))) := rfl
      rw [e0]
      unfold d_Track___init__
      simp only [sSeq_eq, sExpr_eq, dCall_eq, dCons_eq, dVar_0, dVar_s, dC_eq, dNil_eq, Res.bind_ok]
      rw [show D_check_few (genC 1 0 [.p 0] [] [.int few] []) (M.new (.ins 10 [])) = .ok .non (M.new (.ins 10 [])) by
        show D_check_few [.int few] _ = _
        rw [check_few_eq (Kd.int few), hf]; rfl]
      simp only [Res.st_ok, RS.then_nx, sSeq_eq, sExpr_eq, dCall_eq, dCons_eq, dVar_0, dVar_s, dC_eq, dNil_eq, Res.bind_ok]
      rw [show D_check_within (genC 3 0 [.p 0, .p 1, .p 2] [] [.int sp, .int 0, .int 1000] []) (M.new (.ins 10 [])) = .ok .non (M.new (.ins 10 [])) by
        show D_check_within [.int sp, .int 0, .int 1000] _ = _
        rw [check_within_eq (Kd.int sp) (by decide) (by decide), hs]; rfl]
      simp only [Res.st_ok, RS.then_nx, sSeq_eq]
      rw [st "few" (dVar 1) (.int few) [] rfl (by decide)]
      simp only [RS.then_nx, sSeq_eq]
      rw [st "speed" (dVar 2) (.int sp) _ rfl (Nat.le_of_ble_eq_true rfl)]
      simp only [RS.then_nx, sSeq_eq]
      rw [st "last_beat" (dC (.int 0)) (.int 0) _ rfl (Nat.le_of_ble_eq_true rfl)]
      simp only [RS.then_nx, sSeq_eq]
      rw [st "last_place" (dC .non) .non _ rfl (Nat.le_of_ble_eq_true rfl)]
      simp only [RS.then_nx, sSeq_eq]
      have e9 : putP "last_place" PV.non (putP "last_beat" (.int 0) (putP "speed" (.int sp) (putP "few" (.int few) []))) = fs4 := by rw [h4]; rfl
      rw [e9]
      have : sFldS 10 "caught" dDkN (dVar 0) [some (.ref M.n), some (.int few), some (.int sp)] (M.new (.ins 10 fs4)) = .nx [some (.ref M.n), some (.int few), some (.int sp)] M6 := by
        unfold sFldS
        show ((Res.ok (PV.ref (M.n + 1)) ((M.new (.ins 10 fs4)).new (.dkv []))).st _ _) = _
        rw [← h5]
        have g5 : M5.g M.n = some (.ins 10 fs4) := by rw [h5, Sto.new_ne (show M.n ≠ M.n + 1 by omega)]; exact Sto.new_same
        simp only [Res.st_ok, dVar_0, ins_here g5]
        rw [if_pos (by rw [h4]; exact Nat.lt_of_le_of_lt (List.length_take_le _ _) (by decide)), h6, h4]
        rfl
      rw [this]
      rfl
    unfold made
    simp only [e]
  · rw [h6, Sto.set_ne (by omega), h5]
    exact Sto.new_same
  · rw [h6, Sto.set_ne (by omega), h5, Sto.new_ne (show j ≠ M.n + 1 by omega), Sto.new_ne (by omega)]
theorem law_true (ns : List Int) (hl : ns.length ≤ 63) : ∃ M', denF 1 19 d_law [.scr ns] ⟨0, fun _ => none⟩ = .ok (.bl true) M' := by
  show Tru (d_law [some (.scr ns), none, none, none, none, none, none, none, none, none, none, none, none, none, none, none, none, none, none] ⟨0, fun _ => none⟩)
  obtain ⟨M1, e1, T1, n1⟩ := town_ok ns
  obtain ⟨k, M2, e2, k0, k1, T2, o2⟩ := draw_ok T1 (k := 4) (by decide) (by decide)
  obtain ⟨d, M3, e3, d0, d1, T3, o3⟩ := draw_ok T2 (k := 7) (by decide) (by decide)
  obtain ⟨size, hsz⟩ : ∃ z, z = k + 1 + d := ⟨_, rfl⟩
  obtain ⟨y, M4, e4, hy, T4, o4⟩ := pick_ok T3 (xs := [.int 0, .int 1, .int 20, .int 1000]) (by simp) (show 4 < 1073741824 by decide)
  obtain ⟨sp, rfl, s0, s1⟩ : ∃ w, y = .int w ∧ 0 ≤ w ∧ w ≤ 1000 := by
    simp only [List.mem_cons, List.mem_nil_iff, or_false] at hy
    rcases hy with rfl | rfl | rfl | rfl
    · exact ⟨_, rfl, by omega, by omega⟩
    · exact ⟨_, rfl, by omega, by omega⟩
    · exact ⟨_, rfl, by omega, by omega⟩
    · exact ⟨_, rfl, by omega, by omega⟩
  obtain ⟨fs, M5, e5, fl, fb, pw, T5, o5⟩ := liars_ok T4 (crew := size) (most := k) (by omega) (by omega) k0
  obtain ⟨M6, e6, n6, g6, c6, u6⟩ := init39 (M := M5) (few := k) (sp := sp) k0 (by omega) s0 s1
  obtain ⟨i, hi⟩ : ∃ i, i = M5.n := ⟨_, rfl⟩
  rw [← hi] at e6 n6 g6 c6 u6
  have i2 : 2 ≤ i := by rw [hi]; obtain ⟨_, _, t⟩ := T5; exact t.n
  have T6 : Tw M6 := by
    obtain ⟨a, b, t⟩ := T5
    exact ⟨a, b, by rw [u6 0 (by omega)]; exact t.row, by rw [u6 1 (by omega)]; exact t.tw, t.ne, by rw [n6, hi]; exact Nat.le_succ_of_le (Nat.le_succ_of_le t.n)⟩
  have K6 : K39 M6 i k sp 0 .non [] := ⟨T6, g6, c6, i2, by omega, fun x hx => (by cases hx), .nil⟩
  obtain ⟨b, M7, e7, b0, b1, T7, o7⟩ := draw_ok T6 (k := 201) (by decide) (by decide)
  have K7 := K6.off o7 T7
  unfold d_law
  refine go_set (v := .ref 1) (M1 := M1) (by simpa [genC, gen] using e1) ?_
  simp only [List.set_cons_succ, List.set_cons_zero]
  refine go_set (v := .int k) (M1 := M2) (by simp [genC, gen, e2]) ?_
  simp only [List.set_cons_succ, List.set_cons_zero]
  refine go_set (v := .int size) (M1 := M3) (by simp [genC, gen, e3, hsz]) ?_
  simp only [List.set_cons_succ, List.set_cons_zero]
  refine go_set (v := .int sp) (M1 := M4) ?_ ?_
  · have l1 : dLst (dCons (dC (.int 0)) (dCons (dC (.int 1)) (dCons (dC (.int 20)) (dCons (dC (.int 1000)) dNil)))) [some (.scr ns), some (.ref 1), some (.int k), some (.int size), none, none, none, none, none, none, none, none, none, none, none, none, none, none, none] M3 = .ok (.lst [.int 0, .int 1, .int 20, .int 1000]) M3 := by
      rw [dLst_eq]
      simp only [dCons_eq, dC_eq, dNil_eq, Res.bind_ok]
      exact if_pos (show (4 : Nat) ≤ sizeLine by decide)
    rw [dCall_eq]
    simp only [dCons_eq, dVar_0, dVar_s, dNil_eq, Res.bind_ok, l1]
    exact e4
  simp only [List.set_cons_succ, List.set_cons_zero]
  refine go_set (v := .lst (fs.map PV.int)) (M1 := M5) (by simpa [genC, gen] using e5) ?_
  simp only [List.set_cons_succ, List.set_cons_zero]
  refine go_set (v := .ref i) (M1 := M6) ?_ ?_
  · unfold dNew
    simp only [dCons_eq, dVar_0, dVar_s, dNil_eq, Res.bind_ok]
    exact e6
  simp only [List.set_cons_succ, List.set_cons_zero]
  refine go_asg (v := .tup [.int (b - 100), .int 0, .non, .lst []]) (M1 := M7) (ρ' := [some (.scr ns), some (.ref 1), some (.int k), some (.int size), some (.int sp), some (.lst (fs.map PV.int)), some (.ref i), some (.int (b - 100)), some (.int 0), some .non, some (.lst []), none, none, none, none, none, none, none, none]) ?_ rfl ?_
  · have z0 : (0 : Nat) ≤ sizeLine := Nat.zero_le _
    have z4 : (4 : Nat) ≤ sizeLine := by decide
    simp [genC, gen, e7, z0, z4]
  obtain ⟨ρ8, M8, e8, t, bt, own, l, y11, y12, y13, y14, y15, y16, y17, y18, hρ8, K8, t0, t1, bt0, bt1, hfs, ho⟩ := loopF_ix (g := gN 11) (db := d_law_L1)
    (fun j ρ M => ∃ t bt own l y11 y12 y13 y14 y15 y16 y17 y18, ρ = [some (.scr ns), some (.ref 1), some (.int k), some (.int size), some (.int sp), some (.lst (fs.map PV.int)), some (.ref i), some (.int t), some (.int bt), some own, some (.lst ((sortD l).map PV.int)), y11, y12, y13, y14, y15, y16, y17, y18] ∧ K39 M i k sp bt own l ∧ -900000 ≤ t ∧ t ≤ 900000 ∧ 0 ≤ bt ∧ bt ≤ 11 * (j : Int) ∧ (∀ x ∈ l, x ∈ fs) ∧ ((j = 0 ∧ own = .non) ∨ ∃ lo hi, own = spP (lo, hi) ∧ lo ≤ t ∧ t ≤ hi))
    (rngP 0 8) 0 [some (.scr ns), some (.ref 1), some (.int k), some (.int size), some (.int sp), some (.lst (fs.map PV.int)), some (.ref i), some (.int (b - 100)), some (.int 0), some .non, some (.lst []), none, none, none, none, none, none, none, none] M7
    ⟨b - 100, 0, .non, [], none, none, none, none, none, none, none, none, rfl, K7, by omega, by omega, by omega, by omega, fun x hx => (by cases hx), .inl ⟨rfl, rfl⟩⟩ (by
      rintro j z hz ρ M ⟨t, bt, own, l, y11, y12, y13, y14, y15, y16, y17, y18, rfl, K, t0, t1, bt0, bt1, hfs, ho⟩
      have hq : j < 8 := by
        have := (List.getElem?_eq_some_iff.mp hz).1
        rw [rngP_len] at this
        exact this
      rw [Nat.zero_add] at bt1 ho ⊢
      obtain ⟨t', b', lo, hi', l', z12, z13, z14, z15, z16, z17, z18, M', e', K', r1, r2, r3, r4, r5, r6, r7⟩ := turn39 K k0 (by omega) (size := size) (by omega) (by omega) s0 s1 t0 t1 bt0 (by omega) fl hfs (ho.imp (fun h => h.2) id) (some (.scr ns)) (some z) y12 y13 y14 y15 y16 y17 y18
      exact ⟨_, _, M', rfl, e', t', b', _, l', some z, z12, z13, z14, z15, z16, z17, z18, rfl, K', r1, r2, by omega, by omega, r7, .inr ⟨lo, hi', rfl, r5, r6⟩⟩)
  refine go_for (M1 := M7) (xs := rngP 0 8) rfl e8 ?_
  subst hρ8
  rw [rngP_len] at bt1 ho
  rcases ho with ⟨h, _⟩ | ⟨lo, hi', rfl, h1, h2⟩
  · cases h
  have ge := guess_eq (b := bt) K8.tr s0 s1 (Int.le_refl _) (by omega) (small_iff.mpr ⟨by omega, by omega⟩)
  rw [show sp * (bt - bt) = 0 by rw [Int.sub_self, Int.mul_zero], show lo - 0 = lo by omega, show hi' + 0 = hi' by omega] at ge
  refine go_ret (M1 := M8) (dOp_of (x := spP (lo, hi')) (M1 := M8) ?_ (y := spP (lo, hi')) rfl (eqT_look (neg := false) (z := spP (lo, hi')) rfl rfl rfl (show (1 : Nat) ≤ 60 by decide)))
  rw [mth_gen (xs := [.int bt]) (zs := []) (M1 := M8) (M2 := M8) rfl K8.tr rfl rfl rfl]
  exact ge

theorem ok__law_town {P : Program} {w : World} {K : PySem.W.Frag} {mg : Str → Option Value} {base : Heap} {C : Nat → Addr} {f : Addr} {fd : FuncData} (F : Fun K "_law_town" "_law_town" s__law_town f fd) (N_list : mg "list" = none) : FnOk P w K mg base (CX1 P w) 1 f fd ["_law_script"] (spD (tb w K C) D__law_town) :=
  have hT : (tb w K C).K = K := rfl
  den_X F sc__law_town fun cdv A outer s H E hr => (qss_one (qs_ret (qe_lstN (qa_cons (qe_if (qt_cmp (o_scr hT (hu0 hr)) (qv 0) (qe_lst qa_nil) (nomark _)) (qe_callTy (b_listS hT) rfl N_list bt_list (qa_cons (qv 0) qa_nil)) (qe_lstN (qa_cons q_int qa_nil))) (qa_cons q_int qa_nil)))))
theorem ok__law_draw {P : Program} {w : World} {K : PySem.W.Frag} {mg : Str → Option Value} {base : Heap} {C : Nat → Addr} {f : Addr} {fd : FuncData} (F : Fun K "_law_draw" "_law_draw" s__law_draw f fd) (N_len : mg "len" = none) : FnOk P w K mg base (CX1 P w) 1 f fd ["_law_town_here", "_law_many"] (spD (tb w K C) D__law_draw) :=
  have hT : (tb w K C).K = K := rfl
  den_X F sc__law_draw fun cdv A outer s H E hr => (qss_cons (qs_set (i := 2) sc__law_draw.nd rfl (Or.inl rfl) (qe_ix (x_ix hT) (qv 0) q_int (fun _ _ => rfl)))
      (qss_cons (qs_setI (qe_op (o_add hT) (qe_ix (x_ix hT) (qv 0) q_int (fun _ _ => rfl)) q_int) (qv 0) q_int)
      (qss_cons (qs_set (i := 3) sc__law_draw.nd rfl (Or.inl rfl) (qe_op (o_mod) (qe_ix (x_ix hT) (qv 0) q_int (fun _ _ => rfl)) (qe_callB (b_len hT) rfl N_len bt_len (qa_cons (qv 2) qa_nil))))
      (qss_cons (qs_set (i := 4) sc__law_draw.nd rfl (Or.inl rfl) (qe_ix (x_ix hT) (qv 2) (qv 3) (fun _ _ => rfl)))
      (qss_cons (qs_if (qt_cmp (o_ge) (qv 4) q_int (nomark _)) (qss_cons (qs_setI (qe_op (o_div) (qv 4) (qv 1)) (qv 2) (qv 3))
      (qss_one (qs_ret (qe_op (o_mod) (qv 4) (qv 1))))) qss_nil)
      (qss_cons (qs_set (i := 5) sc__law_draw.nd rfl (Or.inl rfl) (qe_op (o_mod) (qe_op (o_add hT) (qv 4) (qe_op (o_mul) q_int (qe_ix (x_ix hT) (qv 0) q_int (fun _ _ => rfl)))) q_int))
      (qss_cons (qs_set (i := 5) sc__law_draw.nd rfl (Or.inl rfl) (qe_op (o_mod) (qe_op (o_pow) (qv 5) q_int) q_int))
      (qss_one (qs_ret (qe_op (o_mod) (qe_op (o_div) (qe_op (o_mod) (qe_op (o_add hT) (qe_op (o_mul) (qe_op (o_div) (qv 5) q_int) q_int) (qv 5)) q_int) q_int) (qv 1)))))))))))
theorem ok__law_pick {P : Program} {w : World} {K : PySem.W.Frag} {mg : Str → Option Value} {base : Heap} {C : Nat → Addr} {f : Addr} {fd : FuncData} (F : Fun K "_law_pick" "_law_pick" s__law_pick f fd) (Q__law_draw : CalD P w K mg base (tb w K C) "_law_draw" 1 ["_law_town_here", "_law_many"] [] 2 0 [.p 0, .p 1] [] D__law_draw) (N_len : mg "len" = none) : FnOk P w K mg base (CX1 P w) 2 f fd ["_law_town_here", "_law_some"] (spD (tb w K C) D__law_pick) :=
  have hT : (tb w K C).K = K := rfl
  den_X F sc__law_pick fun cdv A outer s H E hr => (qss_one (qs_ret (qe_ix (x_ix hT) (qv 1) (qe_call Q__law_draw (hr.mono (by decide)) rfl passS (qa_cons (qv 0) (qa_cons (qe_callB (b_len hT) rfl N_len bt_len (qa_cons (qv 1) qa_nil)) qa_nil)) qk_nil) (fun _ _ => rfl))))
theorem ok__law_liars {P : Program} {w : World} {K : PySem.W.Frag} {mg : Str → Option Value} {base : Heap} {C : Nat → Addr} {f : Addr} {fd : FuncData} (F : Fun K "_law_liars" "_law_liars" s__law_liars f fd) (Q__law_draw : CalD P w K mg base (tb w K C) "_law_draw" 1 ["_law_town_here", "_law_many"] [] 2 0 [.p 0, .p 1] [] D__law_draw) (N_len : mg "len" = none) (N_range : mg "range" = none) : FnOk P w K mg base (CX1 P w) 2 f fd ["_law_town_here", "_law_crew", "_law_most"] (spD (tb w K C) D__law_liars) :=
  have hT : (tb w K C).K = K := rfl
  den_only (den_0 F sc__law_liars fun cdv A outer s H E hr => (qss_cons (qs_set (i := 3) sc__law_liars.nd rfl (Or.inl rfl) (qe_lstN qa_nil))
      (qss_cons (qs_for 200 PassesOwn.never rfl (qi_rng1 rfl N_range (qa_cons (qv 1) qa_nil)) (qg_name (i := 4) sc__law_liars.nd rfl (Or.inl rfl)) (qss_one (qs_if (QW.qt (qw_and (qt_cmp (o_lt) (qe_callB (b_len hT) rfl N_len bt_len (qa_cons (qv 3) qa_nil)) (qv 2) (nomark _)) (qw_and1 (qt_cmp (o_eq hT hr.units) (qe_call Q__law_draw (hr.mono (by decide)) rfl passS0 (qa_cons (qv 0) (qa_cons q_int qa_nil)) qk_nil) q_int (nomark _))))) (qss_one (qs_expr (qe_mt PySem.F.slot_list_append PySem.F.type_list_append m_append (qv 3) (qa_cons (qv 4) qa_nil)))) qss_nil)))
      (qss_one (qs_ret (qe_frz (qv 3)))))))
theorem ok_is_whole {P : Program} {w : World} {K : PySem.W.Frag} {mg : Str → Option Value} {base : Heap} {C : Nat → Addr} {f : Addr} {fd : FuncData} (F : Fun K "is_whole" "is_whole" s_is_whole f fd) (N_bool : mg "bool" = none) (N_int : mg "int" = none) (N_isinstance : mg "isinstance" = none) : FnOk P w K mg base (CX1 P w) 1 f fd ["thing"] (spD (tb w K C) D_is_whole) :=
  have hT : (tb w K C).K = K := rfl
  den_X F sc_is_whole fun cdv A outer s H E hr => (qss_one (qs_ret (qe_and (qe_callB (b_isi hT) rfl N_isinstance bt_isinstance (qa_cons (qv 0) (qa_cons (q_ty rfl N_int bt_int) qa_nil))) (qe_one (qe_not (qe_callB (b_isi hT) rfl N_isinstance bt_isinstance (qa_cons (qv 0) (qa_cons (q_ty rfl N_bool bt_bool) qa_nil))))))))
theorem ok_is_within {P : Program} {w : World} {K : PySem.W.Frag} {mg : Str → Option Value} {base : Heap} {C : Nat → Addr} {f : Addr} {fd : FuncData} (F : Fun K "is_within" "is_within" s_is_within f fd) (Q_is_whole : CalD P w K mg base (tb w K C) "is_whole" 1 ["thing"] [] 1 0 [.p 0] [] D_is_whole) : FnOk P w K mg base (CX1 P w) 2 f fd ["thing", "least", "most"] (spD (tb w K C) D_is_within) :=
  have hT : (tb w K C).K = K := rfl
  den_X F sc_is_within fun cdv A outer s H E hr => (qss_one (qs_ret (qe_and (qe_call Q_is_whole (hr.mono (by decide)) rfl passS (qa_cons (qv 0) qa_nil) qk_nil) (qe_one (qe_chain (o_le) (o_le) (qv 1) (qv 0) (qv 2))))))
theorem ok_check_within {P : Program} {w : World} {K : PySem.W.Frag} {mg : Str → Option Value} {base : Heap} {C : Nat → Addr} {f : Addr} {fd : FuncData} (F : Fun K "check_within" "check_within" s_check_within f fd) (X_BadNumber : Exc K mg "BadNumber" (C 0)) (Q_is_within : CalD P w K mg base (tb w K C) "is_within" 2 ["thing", "least", "most"] [] 3 0 [.p 0, .p 1, .p 2] [] D_is_within) : FnOk P w K mg base (CX1 P w) 3 f fd ["thing", "least", "most"] (spD (tb w K C) D_check_within) :=
  have hT : (tb w K C).K = K := rfl
  den_X F sc_check_within fun cdv A outer s H E hr => (qss_one (qs_if (qt_not (qt_val hT (qe_call Q_is_within (hr.mono (by decide)) rfl passS (qa_cons (qv 0) (qa_cons (qv 1) (qa_cons (qv 2) qa_nil))) qk_nil))) (qss_one (qs_raise X_BadNumber rfl (qa_cons (qe_fstr (qj_txt (by decide +kernel) (by decide) (qj_int (qv 1) (by decide) (qj_txt (by decide +kernel) (by decide) (qj_int (qv 2) (by decide) (qj_nil (by decide))))))) qa_nil))) qss_nil))
theorem ok_check_few {P : Program} {w : World} {K : PySem.W.Frag} {mg : Str → Option Value} {base : Heap} {C : Nat → Addr} {f : Addr} {fd : FuncData} (F : Fun K "check_few" "check_few" s_check_few f fd) {t_MOST_FEW : Tok} (C_MOST_FEW : mg "MOST_FEW" = some (.int 5 t_MOST_FEW)) (Q_check_within : CalD P w K mg base (tb w K C) "check_within" 3 ["thing", "least", "most"] [] 3 0 [.p 0, .p 1, .p 2] [] D_check_within) : FnOk P w K mg base (CX1 P w) 4 f fd ["few"] (spD (tb w K C) D_check_few) :=
  have hT : (tb w K C).K = K := rfl
  den_X F sc_check_few fun cdv A outer s H E hr => (qss_one (qs_expr (qe_call Q_check_within (hr.mono (by decide)) rfl passS (qa_cons (qv 0) (qa_cons q_int (qa_cons (q_gint rfl C_MOST_FEW) qa_nil))) qk_nil)))
theorem ok_Track___init__ {P : Program} {w : World} {K : PySem.W.Frag} {mg : Str → Option Value} {base : Heap} {C : Nat → Addr} {f : Addr} {fd : FuncData} (F : Fun K "__init__" "Track.__init__" s_Track___init__ f fd) {t_MOST_SPEED : Tok} (C_MOST_SPEED : mg "MOST_SPEED" = some (.int 1000 t_MOST_SPEED)) (nf_Track_caught : NoAttr K (C 10) "caught") (nf_Track_few : NoAttr K (C 10) "few") (nf_Track_last_beat : NoAttr K (C 10) "last_beat") (nf_Track_last_place : NoAttr K (C 10) "last_place") (nf_Track_speed : NoAttr K (C 10) "speed") (Q_check_few : CalD P w K mg base (tb w K C) "check_few" 4 ["few"] [] 1 0 [.p 0] [] D_check_few) (Q_check_within : CalD P w K mg base (tb w K C) "check_within" 3 ["thing", "least", "most"] [] 3 0 [.p 0, .p 1, .p 2] [] D_check_within) (cl_Track : Cls K (C 10)) : FnOk P w K mg base (CX1 P w) 5 f fd ["self", "few", "speed"] (spD (tb w K C) D_Track___init__) :=
  have hT : (tb w K C).K = K := rfl
  den_X F sc_Track___init__ fun cdv A outer s H E hr => (qss_cons (qs_expr (qe_call Q_check_few (hr.mono (by decide)) rfl passS (qa_cons (qv 1) qa_nil) qk_nil))
      (qss_cons (qs_expr (qe_call Q_check_within (hr.mono (by decide)) rfl passS (qa_cons (qv 2) (qa_cons q_int (qa_cons (q_gint rfl C_MOST_SPEED) qa_nil))) qk_nil))
      (qss_cons (qs_fld hT cl_Track nf_Track_few (qv 0) (qv 1))
      (qss_cons (qs_fld hT cl_Track nf_Track_speed (qv 0) (qv 2))
      (qss_cons (qs_fld hT cl_Track nf_Track_last_beat (qv 0) q_int)
      (qss_cons (qs_fld hT cl_Track nf_Track_last_place (qv 0) q_non)
      (qss_one (qs_fld hT cl_Track nf_Track_caught (qv 0) qe_dkN))))))))
theorem ok_Track_wider {P : Program} {w : World} {K : PySem.W.Frag} {mg : Str → Option Value} {base : Heap} {C : Nat → Addr} {f : Addr} {fd : FuncData} (F : Fun K "wider" "Track.wider" s_Track_wider f fd) (nf_Track_last_beat : NoAttr K (C 10) "last_beat") (nf_Track_last_place : NoAttr K (C 10) "last_place") (nf_Track_speed : NoAttr K (C 10) "speed") (cl_Track : Cls K (C 10)) : FnOk P w K mg base (CX1 P w) 1 f fd ["self", "beat"] (spD (tb w K C) D_Track_wider) :=
  have hT : (tb w K C).K = K := rfl
  den_X F sc_Track_wider fun cdv A outer s H E hr => (qss_cons (qs_set (i := 2) sc_Track_wider.nd rfl (Or.inl rfl) (qe_op (o_mul) (qe_fld hT cl_Track nf_Track_speed (qv 0)) (qe_op (o_sub) (qv 1) (qe_fld hT cl_Track nf_Track_last_beat (qv 0)))))
      (qss_cons (qs_asg (qe_fld hT cl_Track nf_Track_last_place (qv 0)) (qg_tup hT rfl (qgs_cons (qg_name (i := 3) sc_Track_wider.nd rfl (Or.inl rfl)) (qgs_cons (qg_name (i := 4) sc_Track_wider.nd rfl (Or.inl rfl)) qgs_nil))))
      (qss_one (qs_ret (qe_tup (qa_cons (qe_op (o_sub) (qv 3) (qv 2)) (qa_cons (qe_op (o_add hT) (qv 4) (qv 2)) qa_nil)))))))
theorem ok_Track_guess {P : Program} {w : World} {K : PySem.W.Frag} {mg : Str → Option Value} {base : Heap} {C : Nat → Addr} {f : Addr} {fd : FuncData} (F : Fun K "guess" "Track.guess" s_Track_guess f fd) {t_LAST_BEAT : Tok} (C_LAST_BEAT : mg "LAST_BEAT" = some (.int 100000 t_LAST_BEAT)) (X_NotNow : Exc K mg "NotNow" (C 6)) (nf_Track_last_beat : NoAttr K (C 10) "last_beat") (nf_Track_last_place : NoAttr K (C 10) "last_place") (Q_check_within : CalD P w K mg base (tb w K C) "check_within" 3 ["thing", "least", "most"] [] 3 0 [.p 0, .p 1, .p 2] [] D_check_within) (Q_Track_wider : MetD P w K mg base (tb w K C) 10 "wider" 1 ["self", "beat"] [] 2 0 [.p 0, .p 1] [] D_Track_wider) (cl_Track : Cls K (C 10)) : FnOk P w K mg base (CX1 P w) 4 f fd ["self", "beat"] (spD (tb w K C) D_Track_guess) :=
  have hT : (tb w K C).K = K := rfl
  den_X F sc_Track_guess fun cdv A outer s H E hr => (qss_cons (qs_if (qt_cmp (o_is) (qe_fld hT cl_Track nf_Track_last_place (qv 0)) q_non (nomark _)) (qss_one (qs_raise X_NotNow rfl (qa_cons q_str qa_nil))) qss_nil)
      (qss_cons (qs_expr (qe_call Q_check_within (hr.mono (by decide)) rfl passS (qa_cons (qv 1) (qa_cons (qe_fld hT cl_Track nf_Track_last_beat (qv 0)) (qa_cons (q_gint rfl C_LAST_BEAT) qa_nil))) qk_nil))
      (qss_one (qs_ret (qe_mth Q_Track_wider (hr.mono (by decide)) passS (qv 0) (qa_cons (qv 1) qa_nil) qk_nil)))))
theorem ok__law_number {P : Program} {w : World} {K : PySem.W.Frag} {mg : Str → Option Value} {base : Heap} {C : Nat → Addr} {f : Addr} {fd : FuncData} (F : Fun K "_law_number" "_law_number" s__law_number f fd) (Q__law_draw : CalD P w K mg base (tb w K C) "_law_draw" 1 ["_law_town_here", "_law_many"] [] 2 0 [.p 0, .p 1] [] D__law_draw) (Q__law_pick : CalD P w K mg base (tb w K C) "_law_pick" 2 ["_law_town_here", "_law_some"] [] 2 0 [.p 0, .p 1] [] D__law_pick) : FnOk P w K mg base (CX1 P w) 3 f fd ["_law_town_here"] (spD (tb w K C) D__law_number) :=
  have hT : (tb w K C).K = K := rfl
  den_X F sc__law_number fun cdv A outer s H E hr => (qss_cons (qs_set (i := 1) sc__law_number.nd rfl (Or.inl rfl) (qe_call Q__law_pick (hr.mono (by decide)) rfl passS (qa_cons (qv 0) (qa_cons (qe_lst (qa_cons q_int (qa_cons q_int (qa_cons q_int (qa_cons q_int qa_nil))))) qa_nil)) qk_nil))
      (qss_cons (qs_set (i := 2) sc__law_number.nd rfl (Or.inl rfl) (qe_call Q__law_draw (hr.mono (by decide)) rfl passS (qa_cons (qv 0) (qa_cons (qv 1) qa_nil)) qk_nil))
      (qss_one (qs_ret (qe_if (qt_cmp (o_eq hT hr.units) (qe_call Q__law_draw (hr.mono (by decide)) rfl passS (qa_cons (qv 0) (qa_cons q_int qa_nil)) qk_nil) q_int (nomark _)) (qv 2) (qe_op (o_sub) q_int (qv 2)))))))
theorem ok__law_span {P : Program} {w : World} {K : PySem.W.Frag} {mg : Str → Option Value} {base : Heap} {C : Nat → Addr} {f : Addr} {fd : FuncData} (F : Fun K "_law_span" "_law_span" s__law_span f fd) (Q__law_draw : CalD P w K mg base (tb w K C) "_law_draw" 1 ["_law_town_here", "_law_many"] [] 2 0 [.p 0, .p 1] [] D__law_draw) (Q__law_number : CalD P w K mg base (tb w K C) "_law_number" 3 ["_law_town_here"] [] 1 0 [.p 0] [] D__law_number) (Q__law_pick : CalD P w K mg base (tb w K C) "_law_pick" 2 ["_law_town_here", "_law_some"] [] 2 0 [.p 0, .p 1] [] D__law_pick) (N_max : mg "max" = none) (N_min : mg "min" = none) : FnOk P w K mg base (CX1 P w) 4 f fd ["_law_town_here", "_law_truth", "_law_honest"] (spD (tb w K C) D__law_span) :=
  have hT : (tb w K C).K = K := rfl
  den_X F sc__law_span fun cdv A outer s H E hr => (qss_cons (qs_if (qt_val hT (qv 2)) (qss_one (qs_ret (qe_tup (qa_cons (qe_op (o_sub) (qv 1) (qe_call Q__law_draw (hr.mono (by decide)) rfl passS (qa_cons (qv 0) (qa_cons q_int qa_nil)) qk_nil)) (qa_cons (qe_op (o_add hT) (qv 1) (qe_call Q__law_draw (hr.mono (by decide)) rfl passS (qa_cons (qv 0) (qa_cons q_int qa_nil)) qk_nil)) qa_nil))))) qss_nil)
      (qss_cons (qs_set (i := 3) sc__law_span.nd rfl (Or.inl rfl) (qe_callB (b_max rfl) rfl N_max bt_max (qa_cons (qe_op (o_sub) q_int q_int) (qa_cons (qe_callB (b_min rfl) rfl N_min bt_min (qa_cons q_int (qa_cons (qe_op (o_add hT) (qv 1) (qe_call Q__law_pick (hr.mono (by decide)) rfl passS (qa_cons (qv 0) (qa_cons (qe_lst (qa_cons (qe_op (o_sub) (qe_call Q__law_draw (hr.mono (by decide)) rfl passS (qa_cons (qv 0) (qa_cons q_int qa_nil)) qk_nil) q_int) (qa_cons (qe_call Q__law_number (hr.mono (by decide)) rfl passS (qa_cons (qv 0) qa_nil) qk_nil) qa_nil))) qa_nil)) qk_nil)) qa_nil))) qa_nil))))
      (qss_one (qs_ret (qe_tup (qa_cons (qv 3) (qa_cons (qe_op (o_add hT) (qv 3) (qe_call Q__law_draw (hr.mono (by decide)) rfl passS (qa_cons (qv 0) (qa_cons q_int qa_nil)) qk_nil)) qa_nil)))))))
theorem ok_is_fit_list {P : Program} {w : World} {K : PySem.W.Frag} {mg : Str → Option Value} {base : Heap} {C : Nat → Addr} {f : Addr} {fd : FuncData} (F : Fun K "is_fit_list" "is_fit_list" s_is_fit_list f fd) {t_MOST_WORTHS : Tok} (C_MOST_WORTHS : mg "MOST_WORTHS" = some (.int 40 t_MOST_WORTHS)) (N_isinstance : mg "isinstance" = none) (N_len : mg "len" = none) (N_list : mg "list" = none) : FnOk P w K mg base (CX1 P w) 1 f fd ["things"] (spD (tb w K C) D_is_fit_list) :=
  have hT : (tb w K C).K = K := rfl
  den_X F sc_is_fit_list fun cdv A outer s H E hr => (qss_one (qs_ret (qe_and (qe_callB (b_isi hT) rfl N_isinstance bt_isinstance (qa_cons (qv 0) (qa_cons (q_ty rfl N_list bt_list) qa_nil))) (qe_one (qe_chain (o_le) (o_le) q_int (qe_callB (b_len hT) rfl N_len bt_len (qa_cons (qv 0) qa_nil)) (q_gint rfl C_MOST_WORTHS))))))
theorem ok_is_pair {P : Program} {w : World} {K : PySem.W.Frag} {mg : Str → Option Value} {base : Heap} {C : Nat → Addr} {f : Addr} {fd : FuncData} (F : Fun K "is_pair" "is_pair" s_is_pair f fd) (N_isinstance : mg "isinstance" = none) (N_len : mg "len" = none) (N_tuple : mg "tuple" = none) : FnOk P w K mg base (CX1 P w) 1 f fd ["thing"] (spD (tb w K C) D_is_pair) :=
  have hT : (tb w K C).K = K := rfl
  den_X F sc_is_pair fun cdv A outer s H E hr => (qss_one (qs_ret (qe_and (qe_callB (b_isi hT) rfl N_isinstance bt_isinstance (qa_cons (qv 0) (qa_cons (q_ty rfl N_tuple bt_tuple) qa_nil))) (qe_one (qe_cmp (o_eq hT hr.units) (qe_callB (b_len hT) rfl N_len bt_len (qa_cons (qv 0) qa_nil)) q_int (nomark _))))))
theorem ok_is_number {P : Program} {w : World} {K : PySem.W.Frag} {mg : Str → Option Value} {base : Heap} {C : Nat → Addr} {f : Addr} {fd : FuncData} (F : Fun K "is_number" "is_number" s_is_number f fd) {t_FARTHEST : Tok} (C_FARTHEST : mg "FARTHEST" = some (.int 1000000 t_FARTHEST)) (Q_is_within : CalD P w K mg base (tb w K C) "is_within" 2 ["thing", "least", "most"] [] 3 0 [.p 0, .p 1, .p 2] [] D_is_within) : FnOk P w K mg base (CX1 P w) 3 f fd ["thing"] (spD (tb w K C) D_is_number) :=
  have hT : (tb w K C).K = K := rfl
  den_X F sc_is_number fun cdv A outer s H E hr => (qss_one (qs_ret (qe_call Q_is_within (hr.mono (by decide)) rfl passS (qa_cons (qv 0) (qa_cons (qe_neg (q_gint rfl C_FARTHEST)) (qa_cons (q_gint rfl C_FARTHEST) qa_nil))) qk_nil)))
theorem ok_is_number_pair {P : Program} {w : World} {K : PySem.W.Frag} {mg : Str → Option Value} {base : Heap} {C : Nat → Addr} {f : Addr} {fd : FuncData} (F : Fun K "is_number_pair" "is_number_pair" s_is_number_pair f fd) (Q_is_number : CalD P w K mg base (tb w K C) "is_number" 3 ["thing"] [] 1 0 [.p 0] [] D_is_number) (Q_is_pair : CalD P w K mg base (tb w K C) "is_pair" 1 ["thing"] [] 1 0 [.p 0] [] D_is_pair) : FnOk P w K mg base (CX1 P w) 4 f fd ["thing"] (spD (tb w K C) D_is_number_pair) :=
  have hT : (tb w K C).K = K := rfl
  den_X F sc_is_number_pair fun cdv A outer s H E hr => (qss_one (qs_ret (qe_and (qe_call Q_is_pair (hr.mono (by decide)) rfl passS (qa_cons (qv 0) qa_nil) qk_nil) (qe_and (qe_call Q_is_number (hr.mono (by decide)) rfl passS (qa_cons (qe_ix (x_ix hT) (qv 0) q_int (fun _ _ => rfl)) qa_nil) qk_nil) (qe_one (qe_call Q_is_number (hr.mono (by decide)) rfl passS (qa_cons (qe_ix (x_ix hT) (qv 0) q_int (fun _ _ => rfl)) qa_nil) qk_nil))))))
theorem ok_is_span {P : Program} {w : World} {K : PySem.W.Frag} {mg : Str → Option Value} {base : Heap} {C : Nat → Addr} {f : Addr} {fd : FuncData} (F : Fun K "is_span" "is_span" s_is_span f fd) (Q_is_number_pair : CalD P w K mg base (tb w K C) "is_number_pair" 4 ["thing"] [] 1 0 [.p 0] [] D_is_number_pair) : FnOk P w K mg base (CX1 P w) 5 f fd ["thing"] (spD (tb w K C) D_is_span) :=
  have hT : (tb w K C).K = K := rfl
  den_X F sc_is_span fun cdv A outer s H E hr => (qss_one (qs_ret (qe_and (qe_call Q_is_number_pair (hr.mono (by decide)) rfl passS (qa_cons (qv 0) qa_nil) qk_nil) (qe_one (qe_cmp (o_le) (qe_ix (x_ix hT) (qv 0) q_int (fun _ _ => rfl)) (qe_ix (x_ix hT) (qv 0) q_int (fun _ _ => rfl)) (nomark _))))))
theorem ok_check_spans {P : Program} {w : World} {K : PySem.W.Frag} {mg : Str → Option Value} {base : Heap} {C : Nat → Addr} {f : Addr} {fd : FuncData} (F : Fun K "check_spans" "check_spans" s_check_spans f fd) (X_BadWorths : Exc K mg "BadWorths" (C 1)) (Q_is_fit_list : CalD P w K mg base (tb w K C) "is_fit_list" 1 ["things"] [] 1 0 [.p 0] [] D_is_fit_list) (Q_is_span : CalD P w K mg base (tb w K C) "is_span" 5 ["thing"] [] 1 0 [.p 0] [] D_is_span) (N_all : mg "all" = none) (N_len : mg "len" = none) : FnOk P w K mg base (CX1 P w) 6 f fd ["spans", "least"] (spD (tb w K C) D_check_spans) :=
  have hT : (tb w K C).K = K := rfl
  den_X F sc_check_spans fun cdv A outer s H E hr => (qss_one (qs_if (QW.qt (qw_or (qt_not (qt_val hT (qe_call Q_is_fit_list (hr.mono (by decide)) rfl passS (qa_cons (qv 0) qa_nil) qk_nil))) (qw_or (qt_cmp (o_lt) (qe_callB (b_len hT) rfl N_len bt_len (qa_cons (qv 0) qa_nil)) (qv 1) (nomark _)) (qw_or1 (qt_not (qt_val hT (qe_callB (b_all rfl) rfl N_all bt_all (qa_cons (qe_comp (osc := (defScope s_check_spans)) (own := ["span"]) (fr := []) (js := []) bnd_1 rfl rfl (by exact ⟨rfl, by decide +kernel, by decide +kernel, by decide +kernel, by decide +kernel, by decide +kernel⟩) rfl (qi_list (qv 0)) (fun _ _ _ => (pg_name (i := 0) (show List.Nodup (["span"] : List Str) from by decide +kernel) rfl (Or.inl rfl))) (fun _ _ _ => qif_nil) (fun _ _ _ => (qe_call Q_is_span (hr.mono (by decide)) rfl passS0 (qa_cons (qv 0) qa_nil) qk_nil))) qa_nil)))))))) (qss_one (qs_raise X_BadWorths rfl (qa_cons (qe_fstr (qj_txt (by decide +kernel) (by decide) (qj_int (qv 1) (by decide) (qj_txt (by decide +kernel) (by decide) (qj_nil (by decide)))))) qa_nil))) qss_nil))
theorem ok_many_with {P : Program} {w : World} {K : PySem.W.Frag} {mg : Str → Option Value} {base : Heap} {C : Nat → Addr} {f : Addr} {fd : FuncData} (F : Fun K "many_with" "many_with" s_many_with f fd) (N_len : mg "len" = none) : FnOk P w K mg base (CX1 P w) 1 f fd ["spans", "point"] (spD (tb w K C) D_many_with) :=
  have hT : (tb w K C).K = K := rfl
  den_X F sc_many_with fun cdv A outer s H E hr => (qss_one (qs_ret (qe_callB (b_len hT) rfl N_len bt_len (qa_cons (qe_comp (osc := (defScope s_many_with)) (own := ["low", "high"]) (fr := ["point"]) (js := [1]) (bnd_2 (T := tb w K C)) rfl rfl (by exact ⟨rfl, by decide +kernel, by decide +kernel, by decide +kernel, by decide +kernel, by decide +kernel⟩) rfl (qi_list (qv 0)) (fun _ _ _ => (show PG _ _ (gTup K 2 (gCons (gName 0) (gCons (gName 1) gNil))) from (pg_tup rfl (pgs_cons (pg_name (i := 0) (show List.Nodup (["low", "high", "point"] : List Str) from by decide +kernel) rfl (Or.inl rfl)) (pgs_cons (pg_name (i := 1) (show List.Nodup (["low", "high", "point"] : List Str) from by decide +kernel) rfl (Or.inl rfl)) pgs_nil))))) (fun _ _ _ => (qif_one (qt_chain (o_le) (o_le) (qv 0) (qv 2) (qv 1)))) (fun _ _ _ => (qv 0))) qa_nil))))
theorem ok_fused {P : Program} {w : World} {K : PySem.W.Frag} {mg : Str → Option Value} {base : Heap} {C : Nat → Addr} {f : Addr} {fd : FuncData} (F : Fun K "fused" "fused" s_fused f fd) (Q_check_few : CalD P w K mg base (tb w K C) "check_few" 4 ["few"] [] 1 0 [.p 0] [] D_check_few) (Q_check_spans : CalD P w K mg base (tb w K C) "check_spans" 6 ["spans", "least"] [] 2 0 [.p 0, .p 1] [] D_check_spans) (Q_many_with : CalD P w K mg base (tb w K C) "many_with" 1 ["spans", "point"] [] 2 0 [.p 0, .p 1] [] D_many_with) (N_len : mg "len" = none) (N_max : mg "max" = none) (N_min : mg "min" = none) : FnOk P w K mg base (CX1 P w) 7 f fd ["spans", "few"] (spD (tb w K C) D_fused) :=
  have hT : (tb w K C).K = K := rfl
  den_X F sc_fused fun cdv A outer s H E hr => (qss_cons (qs_expr (qe_call Q_check_few (hr.mono (by decide)) rfl passS (qa_cons (qv 1) qa_nil) qk_nil))
      (qss_cons (qs_expr (qe_call Q_check_spans (hr.mono (by decide)) rfl passS (qa_cons (qv 0) (qa_cons (qe_op (o_add hT) (qv 1) q_int) qa_nil)) qk_nil))
      (qss_cons (qs_set (i := 2) sc_fused.nd rfl (Or.inr rfl) (qe_op (o_sub) (qe_callB (b_len hT) rfl N_len bt_len (qa_cons (qv 0) qa_nil)) (qv 1)))
      (qss_cons (qs_comp (i := 3) (osc := (defScope s_fused)) (own := ["low", "high"]) (fr := ["enough", "spans"]) (js := [2, 0]) (bnd_2 (T := tb w K C)) rfl rfl (by exact ⟨rfl, by decide +kernel, by decide +kernel, by decide +kernel, by decide +kernel, by decide +kernel⟩) rfl sc_fused.nd rfl rfl (qi_list (qv 0)) (fun _ _ _ => (show PG _ _ (gTup K 2 (gCons (gName 0) (gCons (gName 1) gNil))) from (pg_tup rfl (pgs_cons (pg_name (i := 0) (show List.Nodup (["low", "high", "enough", "spans"] : List Str) from by decide +kernel) rfl (Or.inl rfl)) (pgs_cons (pg_name (i := 1) (show List.Nodup (["low", "high", "enough", "spans"] : List Str) from by decide +kernel) rfl (Or.inl rfl)) pgs_nil))))) (fun _ _ _ => (qif_one (qt_cmp (o_ge) (qe_call Q_many_with (hr.mono (by decide)) rfl passS0 (qa_cons (qv 3) (qa_cons (qv 0) qa_nil)) qk_nil) (qv 2) (nomark _)))) (fun _ _ _ => (qv 0)) rfl)
      (qss_cons (qs_comp (i := 4) (osc := (defScope s_fused)) (own := ["low", "high"]) (fr := ["enough", "spans"]) (js := [2, 0]) (bnd_2 (T := tb w K C)) rfl rfl (by exact ⟨rfl, by decide +kernel, by decide +kernel, by decide +kernel, by decide +kernel, by decide +kernel⟩) rfl sc_fused.nd rfl rfl (qi_list (qv 0)) (fun _ _ _ => (show PG _ _ (gTup K 2 (gCons (gName 0) (gCons (gName 1) gNil))) from (pg_tup rfl (pgs_cons (pg_name (i := 0) (show List.Nodup (["low", "high", "enough", "spans"] : List Str) from by decide +kernel) rfl (Or.inl rfl)) (pgs_cons (pg_name (i := 1) (show List.Nodup (["low", "high", "enough", "spans"] : List Str) from by decide +kernel) rfl (Or.inl rfl)) pgs_nil))))) (fun _ _ _ => (qif_one (qt_cmp (o_ge) (qe_call Q_many_with (hr.mono (by decide)) rfl passS0 (qa_cons (qv 3) (qa_cons (qv 1) qa_nil)) qk_nil) (qv 2) (nomark _)))) (fun _ _ _ => (qv 1)) rfl)
      (qss_cons (qs_if (qt_not (qt_val hT (qv 3))) (qss_one (qs_ret q_non)) qss_nil)
      (qss_one (qs_ret (qe_tup (qa_cons (qe_callB (b_min rfl) rfl N_min bt_min (qa_cons (qv 3) qa_nil)) (qa_cons (qe_callB (b_max rfl) rfl N_max bt_max (qa_cons (qv 4) qa_nil)) qa_nil)))))))))))
theorem ok_have_common {P : Program} {w : World} {K : PySem.W.Frag} {mg : Str → Option Value} {base : Heap} {C : Nat → Addr} {f : Addr} {fd : FuncData} (F : Fun K "have_common" "have_common" s_have_common f fd)  : FnOk P w K mg base (CX1 P w) 1 f fd ["span", "other"] (spD (tb w K C) D_have_common) :=
  have hT : (tb w K C).K = K := rfl
  den_X F sc_have_common fun cdv A outer s H E hr => (qss_one (qs_ret (qe_and (qe_cmp (o_le) (qe_ix (x_ix hT) (qv 0) q_int (fun _ _ => rfl)) (qe_ix (x_ix hT) (qv 1) q_int (fun _ _ => rfl)) (nomark _)) (qe_one (qe_cmp (o_le) (qe_ix (x_ix hT) (qv 1) q_int (fun _ _ => rfl)) (qe_ix (x_ix hT) (qv 0) q_int (fun _ _ => rfl)) (nomark _))))))
theorem ok_sensors_off {P : Program} {w : World} {K : PySem.W.Frag} {mg : Str → Option Value} {base : Heap} {C : Nat → Addr} {f : Addr} {fd : FuncData} (F : Fun K "sensors_off" "sensors_off" s_sensors_off f fd) (Q_have_common : CalD P w K mg base (tb w K C) "have_common" 1 ["span", "other"] [] 2 0 [.p 0, .p 1] [] D_have_common) (N_enumerate : mg "enumerate" = none) : FnOk P w K mg base (CX1 P w) 2 f fd ["spans", "place"] (spD (tb w K C) D_sensors_off) :=
  have hT : (tb w K C).K = K := rfl
  den_X F sc_sensors_off fun cdv A outer s H E hr => (qss_one (qs_ret (qe_comp (osc := (defScope s_sensors_off)) (own := ["sensor", "span"]) (fr := ["place"]) (js := [1]) (bnd_2 (T := tb w K C)) rfl rfl (by exact ⟨rfl, by decide +kernel, by decide +kernel, by decide +kernel, by decide +kernel, by decide +kernel⟩) rfl (qi_enum rfl N_enumerate (qa_cons (qv 0) qa_nil)) (fun _ _ _ => (show PG _ _ (gTup K 2 (gCons (gName 0) (gCons (gName 1) gNil))) from (pg_tup rfl (pgs_cons (pg_name (i := 0) (show List.Nodup (["sensor", "span", "place"] : List Str) from by decide +kernel) rfl (Or.inl rfl)) (pgs_cons (pg_name (i := 1) (show List.Nodup (["sensor", "span", "place"] : List Str) from by decide +kernel) rfl (Or.inl rfl)) pgs_nil))))) (fun _ _ _ => (qif_one (qt_not (qt_val hT (qe_call Q_have_common (hr.mono (by decide)) rfl passS0 (qa_cons (qv 1) (qa_cons (qv 2) qa_nil)) qk_nil))))) (fun _ _ _ => (qv 0)))))
theorem ok_shown_false {P : Program} {w : World} {K : PySem.W.Frag} {mg : Str → Option Value} {base : Heap} {C : Nat → Addr} {f : Addr} {fd : FuncData} (F : Fun K "shown_false" "shown_false" s_shown_false f fd) (Q_fused_1_few : CalD P w K mg base (tb w K C) "fused" 7 ["spans", "few"] ["few"] 1 1 [.p 0, .k 0] [] D_fused) (Q_sensors_off : CalD P w K mg base (tb w K C) "sensors_off" 2 ["spans", "place"] [] 2 0 [.p 0, .p 1] [] D_sensors_off) : FnOk P w K mg base (CX1 P w) 8 f fd ["spans", "few"] (spD (tb w K C) D_shown_false) :=
  have hT : (tb w K C).K = K := rfl
  den_X F sc_shown_false fun cdv A outer s H E hr => (qss_cons (qs_set (i := 2) sc_shown_false.nd rfl (Or.inl rfl) (qe_call Q_fused_1_few (hr.mono (by decide)) rfl passS (qa_cons (qv 0) qa_nil) (qk_cons (qv 1) qk_nil)))
      (qss_cons (qs_if (qt_cmp (o_is) (qv 2) q_non (nomark _)) (qss_one (qs_ret (qe_lst qa_nil))) qss_nil)
      (qss_one (qs_ret (qe_call Q_sensors_off (hr.mono (by decide)) rfl passS (qa_cons (qv 0) (qa_cons (qv 2) qa_nil)) qk_nil)))))
theorem ok_Track_narrowed {P : Program} {w : World} {K : PySem.W.Frag} {mg : Str → Option Value} {base : Heap} {C : Nat → Addr} {f : Addr} {fd : FuncData} (F : Fun K "narrowed" "Track.narrowed" s_Track_narrowed f fd) (X_BadWorths : Exc K mg "BadWorths" (C 1)) (nf_Track_last_place : NoAttr K (C 10) "last_place") (Q_have_common : CalD P w K mg base (tb w K C) "have_common" 1 ["span", "other"] [] 2 0 [.p 0, .p 1] [] D_have_common) (Q_Track_wider : MetD P w K mg base (tb w K C) 10 "wider" 1 ["self", "beat"] [] 2 0 [.p 0, .p 1] [] D_Track_wider) (N_max : mg "max" = none) (N_min : mg "min" = none) (cl_Track : Cls K (C 10)) : FnOk P w K mg base (CX1 P w) 2 f fd ["self", "beat", "place"] (spD (tb w K C) D_Track_narrowed) :=
  have hT : (tb w K C).K = K := rfl
  den_X F sc_Track_narrowed fun cdv A outer s H E hr => (qss_cons (qs_if (qt_cmp (o_is) (qe_fld hT cl_Track nf_Track_last_place (qv 0)) q_non (nomark _)) (qss_one (qs_ret (qv 2))) qss_nil)
      (qss_cons (qs_set (i := 3) sc_Track_narrowed.nd rfl (Or.inl rfl) (qe_mth Q_Track_wider (hr.mono (by decide)) passS (qv 0) (qa_cons (qv 1) qa_nil) qk_nil))
      (qss_cons (qs_if (qt_not (qt_val hT (qe_call Q_have_common (hr.mono (by decide)) rfl passS (qa_cons (qv 2) (qa_cons (qv 3) qa_nil)) qk_nil))) (qss_one (qs_raise X_BadWorths rfl (qa_cons q_str qa_nil))) qss_nil)
      (qss_one (qs_ret (qe_tup (qa_cons (qe_callB (b_max rfl) rfl N_max bt_max (qa_cons (qe_ix (x_ix hT) (qv 2) q_int (fun _ _ => rfl)) (qa_cons (qe_ix (x_ix hT) (qv 3) q_int (fun _ _ => rfl)) qa_nil))) (qa_cons (qe_callB (b_min rfl) rfl N_min bt_min (qa_cons (qe_ix (x_ix hT) (qv 2) q_int (fun _ _ => rfl)) (qa_cons (qe_ix (x_ix hT) (qv 3) q_int (fun _ _ => rfl)) qa_nil))) qa_nil))))))))
theorem ok_Track_see {P : Program} {w : World} {K : PySem.W.Frag} {mg : Str → Option Value} {base : Heap} {C : Nat → Addr} {f : Addr} {fd : FuncData} (F : Fun K "see" "Track.see" s_Track_see f fd) {t_LAST_BEAT : Tok} (C_LAST_BEAT : mg "LAST_BEAT" = some (.int 100000 t_LAST_BEAT)) (X_BadWorths : Exc K mg "BadWorths" (C 1)) (nf_Track_caught : NoAttr K (C 10) "caught") (nf_Track_few : NoAttr K (C 10) "few") (nf_Track_last_beat : NoAttr K (C 10) "last_beat") (nf_Track_last_place : NoAttr K (C 10) "last_place") (Q_check_within : CalD P w K mg base (tb w K C) "check_within" 3 ["thing", "least", "most"] [] 3 0 [.p 0, .p 1, .p 2] [] D_check_within) (Q_fused_1_few : CalD P w K mg base (tb w K C) "fused" 7 ["spans", "few"] ["few"] 1 1 [.p 0, .k 0] [] D_fused) (Q_sensors_off : CalD P w K mg base (tb w K C) "sensors_off" 2 ["spans", "place"] [] 2 0 [.p 0, .p 1] [] D_sensors_off) (Q_Track_narrowed : MetD P w K mg base (tb w K C) 10 "narrowed" 2 ["self", "beat", "place"] [] 3 0 [.p 0, .p 1, .p 2] [] D_Track_narrowed) (cl_Track : Cls K (C 10)) : FnOk P w K mg base (CX1 P w) 8 f fd ["self", "beat", "spans"] (spD (tb w K C) D_Track_see) :=
  have hT : (tb w K C).K = K := rfl
  den_both (den_0 F sc_Track_see fun cdv A outer s H E hr => (qss_cons (qs_expr (qe_call Q_check_within (hr.mono (by decide)) rfl passS0 (qa_cons (qv 1) (qa_cons (qe_fld hT cl_Track nf_Track_last_beat (qv 0)) (qa_cons (q_gint rfl C_LAST_BEAT) qa_nil))) qk_nil))
      (qss_cons (qs_set (i := 3) sc_Track_see.nd rfl (Or.inl rfl) (qe_call Q_fused_1_few (hr.mono (by decide)) rfl passS0 (qa_cons (qv 2) qa_nil) (qk_cons (qe_fld hT cl_Track nf_Track_few (qv 0)) qk_nil)))
      (qss_cons (qs_if (qt_cmp (o_is) (qv 3) q_non (nomark _)) (qss_one qs_never) qss_nil)
      (qss_cons (qs_set (i := 4) sc_Track_see.nd rfl (Or.inl rfl) (qe_mth Q_Track_narrowed (hr.mono (by decide)) passS0 (qv 0) (qa_cons (qv 1) (qa_cons (qv 3) qa_nil)) qk_nil))
      (qss_cons (qs_for 200 PassesOwn.never rfl (qi_list (qe_call Q_sensors_off (hr.mono (by decide)) rfl passS0 (qa_cons (qv 2) (qa_cons (qv 4) qa_nil)) qk_nil)) (qg_name (i := 5) sc_Track_see.nd rfl (Or.inl rfl)) (qss_one (qs_putKv (hu1 hr) q_bl (qe_fld hT cl_Track nf_Track_caught (qv 0)) (qv 5))))
      (qss_cons (qs_fld hT cl_Track nf_Track_last_beat (qv 0) (qv 1))
      (qss_cons (qs_fld hT cl_Track nf_Track_last_place (qv 0) (qv 4))
      (qss_one (qs_ret (qv 4))))))))))) (den_X F sc_Track_see fun cdv A outer s H E hr => (qss_cons (qs_expr (qe_call Q_check_within (hr.mono (by decide)) rfl passS (qa_cons (qv 1) (qa_cons (qe_fld hT cl_Track nf_Track_last_beat (qv 0)) (qa_cons (q_gint rfl C_LAST_BEAT) qa_nil))) qk_nil))
      (qss_cons (qs_set (i := 3) sc_Track_see.nd rfl (Or.inl rfl) (qe_call Q_fused_1_few (hr.mono (by decide)) rfl passS (qa_cons (qv 2) qa_nil) (qk_cons (qe_fld hT cl_Track nf_Track_few (qv 0)) qk_nil)))
      (qss_cons (qs_if (qt_cmp (o_is) (qv 3) q_non (nomark _)) (qss_one (qs_raise X_BadWorths rfl (qa_cons q_str qa_nil))) qss_nil)
      (qss_cons (qs_set (i := 4) sc_Track_see.nd rfl (Or.inl rfl) (qe_mth Q_Track_narrowed (hr.mono (by decide)) passS (qv 0) (qa_cons (qv 1) (qa_cons (qv 3) qa_nil)) qk_nil))
      (qss_cons qs_never
      (qss_cons (qs_fld hT cl_Track nf_Track_last_beat (qv 0) (qv 1))
      (qss_cons (qs_fld hT cl_Track nf_Track_last_place (qv 0) (qv 4))
      (qss_one (qs_ret (qv 4)))))))))))
theorem ok_Track_liars_found {P : Program} {w : World} {K : PySem.W.Frag} {mg : Str → Option Value} {base : Heap} {C : Nat → Addr} {f : Addr} {fd : FuncData} (F : Fun K "liars_found" "Track.liars_found" s_Track_liars_found f fd) (nf_Track_caught : NoAttr K (C 10) "caught") (N_sorted : mg "sorted" = none) (cl_Track : Cls K (C 10)) : FnOk P w K mg base (CX1 P w) 1 f fd ["self"] (spD (tb w K C) D_Track_liars_found) :=
  have hT : (tb w K C).K = K := rfl
  den_X F sc_Track_liars_found fun cdv A outer s H E hr => (qss_one (qs_ret (qe_callB (b_sortedK rfl) rfl N_sorted bt_sorted (qa_cons (qe_fld hT cl_Track nf_Track_caught (qv 0)) qa_nil))))
theorem ok_Track_liars_found__v {P : Program} {w : World} {K : PySem.W.Frag} {mg : Str → Option Value} {base : Heap} {C : Nat → Addr} {f : Addr} {fd : FuncData} (F : Fun K "liars_found" "Track.liars_found" s_Track_liars_found__v f fd) (nf_Track_caught : NoAttr K (C 10) "caught") (N_sorted : mg "sorted" = none) (cl_Track : Cls K (C 10)) : FnOk P w K mg base (CX1 P w) 1 f fd ["self"] (spD (tb w K C) D_Track_liars_found__v) :=
  have hT : (tb w K C).K = K := rfl
  den_X F sc_Track_liars_found__v fun cdv A outer s H E hr => (qss_one (qs_ret (qe_callB (b_sortedKN rfl) rfl N_sorted bt_sorted (qa_cons (qe_fld hT cl_Track nf_Track_caught (qv 0)) qa_nil))))
theorem ok_law {P : Program} {w : World} {K : PySem.W.Frag} {mg : Str → Option Value} {base : Heap} {C : Nat → Addr} {f : Addr} {fd : FuncData} (F : Fun K "law" "law" s_law f fd) (Q__law_draw : CalD P w K mg base (tb w K C) "_law_draw" 1 ["_law_town_here", "_law_many"] [] 2 0 [.p 0, .p 1] [] D__law_draw) (Q__law_liars : CalD P w K mg base (tb w K C) "_law_liars" 2 ["_law_town_here", "_law_crew", "_law_most"] [] 3 0 [.p 0, .p 1, .p 2] [] D__law_liars) (Q__law_pick : CalD P w K mg base (tb w K C) "_law_pick" 2 ["_law_town_here", "_law_some"] [] 2 0 [.p 0, .p 1] [] D__law_pick) (Q__law_span : CalD P w K mg base (tb w K C) "_law_span" 4 ["_law_town_here", "_law_truth", "_law_honest"] [] 3 0 [.p 0, .p 1, .p 2] [] D__law_span) (Q__law_town : CalD P w K mg base (tb w K C) "_law_town" 1 ["_law_script"] [] 1 0 [.p 0] [] D__law_town) (Q_fused_1_few : CalD P w K mg base (tb w K C) "fused" 7 ["spans", "few"] ["few"] 1 1 [.p 0, .k 0] [] D_fused) (Q_shown_false_1_few : CalD P w K mg base (tb w K C) "shown_false" 8 ["spans", "few"] ["few"] 1 1 [.p 0, .k 0] [] D_shown_false) (Q_Track_guess : MetD P w K mg base (tb w K C) 10 "guess" 4 ["self", "beat"] [] 2 0 [.p 0, .p 1] [] D_Track_guess) (Q_Track_liars_found : MetD P w K mg base (tb w K C) 10 "liars_found" 1 ["self"] [] 1 0 [.p 0] [] D_Track_liars_found) (Q_Track_liars_found__v : MetD P w K mg base (tb w K C) 10 "liars_found" 1 ["self"] [] 1 0 [.p 0] [] D_Track_liars_found__v) (Q_Track_see : MetD P w K mg base (tb w K C) 10 "see" 8 ["self", "beat", "spans"] [] 3 0 [.p 0, .p 1, .p 2] [] D_Track_see) (Q_Track___init___1_few_speed : NewD P w K mg base (tb w K C) 10 "Track" 5 ["self", "few", "speed"] ["few", "speed"] 1 2 [.p 0, .k 0, .k 1] [] D_Track___init__) (N_isinstance : mg "isinstance" = none) (N_max : mg "max" = none) (N_min : mg "min" = none) (N_range : mg "range" = none) (N_set : mg "set" = none) (N_sorted : mg "sorted" = none) (N_tuple : mg "tuple" = none) : FnOk P w K mg base CX0 9 f fd ["_law_script"] (spOk (tb w K C) (denF 1 19 d_law)) :=
  have hT : (tb w K C).K = K := rfl
  den_0 F sc_law fun cdv A outer s H E hr => (qss_cons (qs_set (i := 1) sc_law.nd rfl (Or.inr rfl) (qe_call Q__law_town (hr.mono (by decide)) rfl passS0 (qa_cons (qv 0) qa_nil) qk_nil))
      (qss_cons (qs_set (i := 2) sc_law.nd rfl (Or.inl rfl) (qe_call Q__law_draw (hr.mono (by decide)) rfl passS0 (qa_cons (qv 1) (qa_cons q_int qa_nil)) qk_nil))
      (qss_cons (qs_set (i := 3) sc_law.nd rfl (Or.inl rfl) (qe_op (o_add hT) (qe_op (o_add hT) (qv 2) q_int) (qe_call Q__law_draw (hr.mono (by decide)) rfl passS0 (qa_cons (qv 1) (qa_cons q_int qa_nil)) qk_nil)))
      (qss_cons (qs_set (i := 4) sc_law.nd rfl (Or.inl rfl) (qe_call Q__law_pick (hr.mono (by decide)) rfl passS0 (qa_cons (qv 1) (qa_cons (qe_lst (qa_cons q_int (qa_cons q_int (qa_cons q_int (qa_cons q_int qa_nil))))) qa_nil)) qk_nil))
      (qss_cons (qs_set (i := 5) sc_law.nd rfl (Or.inr rfl) (qe_call Q__law_liars (hr.mono (by decide)) rfl passS0 (qa_cons (qv 1) (qa_cons (qv 3) (qa_cons (qv 2) qa_nil))) qk_nil))
      (qss_cons (qs_set (i := 6) sc_law.nd rfl (Or.inl rfl) (qe_new0 Q_Track___init___1_few_speed (hr.mono (by decide)) rfl passS0 (qk_cons (qv 2) (qk_cons (qv 4) qk_nil))))
      (qss_cons (qs_asg (qe_tup (qa_cons (qe_op (o_sub) (qe_call Q__law_draw (hr.mono (by decide)) rfl passS0 (qa_cons (qv 1) (qa_cons q_int qa_nil)) qk_nil) q_int) (qa_cons q_int (qa_cons q_non (qa_cons (qe_lst qa_nil) qa_nil))))) (qg_tup hT rfl (qgs_cons (qg_name (i := 7) sc_law.nd rfl (Or.inr rfl)) (qgs_cons (qg_name (i := 8) sc_law.nd rfl (Or.inl rfl)) (qgs_cons (qg_name (i := 9) sc_law.nd rfl (Or.inr rfl)) (qgs_cons (qg_name (i := 10) sc_law.nd rfl (Or.inl rfl)) qgs_nil))))))
      (qss_cons (qs_for 200 PassesOwn.never rfl (qi_rng1 rfl N_range (qa_cons q_int qa_nil)) (qg_name (i := 11) sc_law.nd rfl (Or.inl rfl)) (qss_cons (qs_set (i := 12) sc_law.nd rfl (Or.inl rfl) (qe_call Q__law_draw (hr.mono (by decide)) rfl passS0 (qa_cons (qv 1) (qa_cons q_int qa_nil)) qk_nil))
      (qss_cons (qs_set (i := 7) sc_law.nd rfl (Or.inr rfl) (qe_callB (b_max rfl) rfl N_max bt_max (qa_cons (qe_op (o_sub) q_int q_int) (qa_cons (qe_callB (b_min rfl) rfl N_min bt_min (qa_cons q_int (qa_cons (qe_op (o_sub) (qe_op (o_add hT) (qv 7) (qe_call Q__law_draw (hr.mono (by decide)) rfl passS0 (qa_cons (qv 1) (qa_cons (qe_op (o_add hT) (qe_op (o_mul) (qe_op (o_mul) q_int (qv 12)) (qv 4)) q_int) qa_nil)) qk_nil)) (qe_op (o_mul) (qv 12) (qv 4))) qa_nil))) qa_nil))))
      (qss_cons (qs_set (i := 8) sc_law.nd rfl (Or.inl rfl) (qe_op (o_add hT) (qv 8) (qv 12)))
      (qss_cons (qs_if (qt_cmp (o_notN) (qv 9) q_non (nomark _)) (qss_cons (qs_set (i := 9) sc_law.nd rfl (Or.inr rfl) (qe_tup (qa_cons (qe_op (o_sub) (qe_ix (x_ix hT) (qv 9) q_int (fun _ _ => rfl)) (qe_op (o_mul) (qv 12) (qv 4))) (qa_cons (qe_op (o_add hT) (qe_ix (x_ix hT) (qv 9) q_int (fun _ _ => rfl)) (qe_op (o_mul) (qv 12) (qv 4))) qa_nil))))
      (qss_one (qs_if (qt_cmp (o_ne hT hr.units) (qe_mth Q_Track_guess (hr.mono (by decide)) passS0 (qv 6) (qa_cons (qv 8) qa_nil) qk_nil) (qv 9) (nomark _)) (qss_one (qs_ret q_bl)) qss_nil))) qss_nil)
      (qss_cons (qs_set (i := 13) sc_law.nd rfl (Or.inr rfl) (qe_comp (osc := (defScope s_law)) (own := ["_law_k"]) (fr := ["_law_town_here", "_law_truth", "_law_foes"]) (js := [1, 7, 5]) bnd_1 rfl rfl (by exact ⟨rfl, by decide +kernel, by decide +kernel, by decide +kernel, by decide +kernel, by decide +kernel⟩) rfl (qi_rng1 rfl N_range (qa_cons (qv 3) qa_nil)) (fun _ _ _ => (pg_name (i := 0) (show List.Nodup (["_law_k", "_law_town_here", "_law_truth", "_law_foes"] : List Str) from by decide +kernel) rfl (Or.inl rfl))) (fun _ _ _ => qif_nil) (fun _ _ _ => (qe_call Q__law_span (hr.mono (by decide)) rfl passS0 (qa_cons (qv 1) (qa_cons (qv 2) (qa_cons (qe_cmp (o_notIn hT (hu100 hr)) (qv 0) (qv 3) (by with_unfolding_all rfl)) qa_nil))) qk_nil))))
      (qss_cons (qs_set (i := 14) sc_law.nd rfl (Or.inl rfl) (qe_call Q_fused_1_few (hr.mono (by decide)) rfl passS0 (qa_cons (qv 13) qa_nil) (qk_cons (qv 2) qk_nil)))
      (qss_cons (qs_set (i := 15) sc_law.nd rfl (Or.inl rfl) (qe_call Q_shown_false_1_few (hr.mono (by decide)) rfl passS0 (qa_cons (qv 13) qa_nil) (qk_cons (qv 2) qk_nil)))
      (qss_cons (qs_set (i := 9) sc_law.nd rfl (Or.inr rfl) (qe_if (qt_cmp (o_is) (qv 9) q_non (nomark _)) (qv 14) (qe_tup (qa_cons (qe_callB (b_max rfl) rfl N_max bt_max (qa_cons (qe_ix (x_ix hT) (qv 14) q_int (fun _ _ => rfl)) (qa_cons (qe_ix (x_ix hT) (qv 9) q_int (fun _ _ => rfl)) qa_nil))) (qa_cons (qe_callB (b_min rfl) rfl N_min bt_min (qa_cons (qe_ix (x_ix hT) (qv 14) q_int (fun _ _ => rfl)) (qa_cons (qe_ix (x_ix hT) (qv 9) q_int (fun _ _ => rfl)) qa_nil))) qa_nil)))))
      (qss_cons (qs_set (i := 15) sc_law.nd rfl (Or.inl rfl) (qe_op (o_add hT) (qv 15) (qe_comp (osc := (defScope s_law)) (own := ["_law_k"]) (fr := ["_law_own", "_law_spans"]) (js := [9, 13]) bnd_1 rfl rfl (by exact ⟨rfl, by decide +kernel, by decide +kernel, by decide +kernel, by decide +kernel, by decide +kernel⟩) rfl (qi_rng1 rfl N_range (qa_cons (qv 3) qa_nil)) (fun _ _ _ => (pg_name (i := 0) (show List.Nodup (["_law_k", "_law_own", "_law_spans"] : List Str) from by decide +kernel) rfl (Or.inl rfl))) (fun _ _ _ => (qif_one (QW.qt (qw_or (qt_cmp (o_lt) (qe_ix (x_ix hT) (qe_ix (x_ix hT) (qv 2) (qv 0) (fun _ _ => rfl)) q_int (fun _ _ => rfl)) (qe_ix (x_ix hT) (qv 1) q_int (fun _ _ => rfl)) (nomark _)) (qw_or1 (qt_cmp (o_gt) (qe_ix (x_ix hT) (qe_ix (x_ix hT) (qv 2) (qv 0) (fun _ _ => rfl)) q_int (fun _ _ => rfl)) (qe_ix (x_ix hT) (qv 1) q_int (fun _ _ => rfl)) (nomark _))))))) (fun _ _ _ => (qv 0)))))
      (qss_cons (qs_set (i := 10) sc_law.nd rfl (Or.inl rfl) (qe_sortS hT rfl rfl N_sorted bt_sorted rfl N_set rfl (qe_op (o_add hT) (qv 10) (qv 15))))
      (qss_cons (qs_set (i := 16) sc_law.nd rfl (Or.inl rfl) (qe_mth Q_Track_see (hr.mono (by decide)) passS0 (qv 6) (qa_cons (qv 8) (qa_cons (qv 13) qa_nil)) qk_nil))
      (qss_cons (qs_if (QW.qt (qw_or (qt_cmp (o_ne hT hr.units) (qv 16) (qv 9) (nomark _)) (qw_or (qt_not (qt_val hT (qe_callB (b_isi hT) rfl N_isinstance bt_isinstance (qa_cons (qv 16) (qa_cons (q_ty rfl N_tuple bt_tuple) qa_nil))))) (qw_or1 (qt_not (qt_chain (o_le) (o_le) (qe_ix (x_ix hT) (qv 16) q_int (fun _ _ => rfl)) (qv 7) (qe_ix (x_ix hT) (qv 16) q_int (fun _ _ => rfl)))))))) (qss_one (qs_ret q_bl)) qss_nil)
      (qss_cons (qs_if (QW.qt (qw_or (qt_cmp (o_ne hT hr.units) (qe_mth0 Q_Track_liars_found (hr.mono (by decide)) passS0 (qv 6) qk_nil) (qv 10) (nomark _)) (qw_or1 (qt_cmp (o_ne hT hr.units) (qe_comp (osc := (defScope s_law)) (own := ["_law_one"]) (fr := ["_law_foes"]) (js := [5]) bnd_1 rfl rfl (by exact ⟨rfl, by decide +kernel, by decide +kernel, by decide +kernel, by decide +kernel, by decide +kernel⟩) rfl (qi_list (qv 10)) (fun _ _ _ => (pg_name (i := 0) (show List.Nodup (["_law_one", "_law_foes"] : List Str) from by decide +kernel) rfl (Or.inl rfl))) (fun _ _ _ => (qif_one (qt_cmp (o_notIn hT (hu100 hr)) (qv 0) (qv 1) (by with_unfolding_all rfl)))) (fun _ _ _ => (qv 0))) (qe_lst qa_nil) (nomark _))))) (qss_one (qs_ret q_bl)) qss_nil)
      (qss_cons (qs_set (i := 17) sc_law.nd rfl (Or.inl rfl) (qe_op (o_add hT) (qv 8) (qe_call Q__law_draw (hr.mono (by decide)) rfl passS0 (qa_cons (qv 1) (qa_cons q_int qa_nil)) qk_nil)))
      (qss_cons (qs_set (i := 18) sc_law.nd rfl (Or.inl rfl) (qe_op (o_mul) (qe_op (o_sub) (qv 17) (qv 8)) (qv 4)))
      (qss_cons (qs_if (qt_cmp (o_ne hT hr.units) (qe_mth Q_Track_guess (hr.mono (by decide)) passS0 (qv 6) (qa_cons (qv 17) qa_nil) qk_nil) (qe_tup (qa_cons (qe_op (o_sub) (qe_ix (x_ix hT) (qv 9) q_int (fun _ _ => rfl)) (qv 18)) (qa_cons (qe_op (o_add hT) (qe_ix (x_ix hT) (qv 9) q_int (fun _ _ => rfl)) (qv 18)) qa_nil))) (nomark _)) (qss_one (qs_ret q_bl)) qss_nil)
      (qss_one (qs_expr (qe_mt PySem.F.slot_list_append PySem.F.type_list_append m_append (qe_mth0 Q_Track_liars_found__v (hr.mono (by decide)) passS0 (qv 6) qk_nil) (qa_cons q_int qa_nil)))))))))))))))))))))
      (qss_one (qs_ret (qe_cmp (o_eq hT hr.units) (qe_mth Q_Track_guess (hr.mono (by decide)) passS0 (qv 6) (qa_cons (qv 8) qa_nil) qk_nil) (qv 9) (nomark _))))))))))))
theorem ln0 {α : Type} : ∀ {us : List α}, us.length = 0 → us = []
  | [], _ => rfl
theorem ln1 {α : Type} {us : List α} (h : us.length = 1) : ∃ u0, us = [u0] := by
  cases us with
  | nil => cases h
  | cons x0 us => exact ⟨x0, by rw [ln0 (Nat.succ.inj h)]⟩
theorem ln2 {α : Type} {us : List α} (h : us.length = 2) : ∃ u0 u1, us = [u0, u1] := by
  cases us with
  | nil => cases h
  | cons x0 us => obtain ⟨v0, e⟩ := ln1 (Nat.succ.inj h); exact ⟨x0, v0, by rw [e]⟩
theorem ln3 {α : Type} {us : List α} (h : us.length = 3) : ∃ u0 u1 u2, us = [u0, u1, u2] := by
  cases us with
  | nil => cases h
  | cons x0 us => obtain ⟨v0, v1, e⟩ := ln2 (Nat.succ.inj h); exact ⟨x0, v0, v1, by rw [e]⟩
theorem ln4 {α : Type} {us : List α} (h : us.length = 4) : ∃ u0 u1 u2 u3, us = [u0, u1, u2, u3] := by
  cases us with
  | nil => cases h
  | cons x0 us => obtain ⟨v0, v1, v2, e⟩ := ln3 (Nat.succ.inj h); exact ⟨x0, v0, v1, v2, by rw [e]⟩
theorem ln5 {α : Type} {us : List α} (h : us.length = 5) : ∃ u0 u1 u2 u3 u4, us = [u0, u1, u2, u3, u4] := by
  cases us with
  | nil => cases h
  | cons x0 us => obtain ⟨v0, v1, v2, v3, e⟩ := ln4 (Nat.succ.inj h); exact ⟨x0, v0, v1, v2, v3, by rw [e]⟩
theorem ln6 {α : Type} {us : List α} (h : us.length = 6) : ∃ u0 u1 u2 u3 u4 u5, us = [u0, u1, u2, u3, u4, u5] := by
  cases us with
  | nil => cases h
  | cons x0 us => obtain ⟨v0, v1, v2, v3, v4, e⟩ := ln5 (Nat.succ.inj h); exact ⟨x0, v0, v1, v2, v3, v4, by rw [e]⟩
theorem ln7 {α : Type} {us : List α} (h : us.length = 7) : ∃ u0 u1 u2 u3 u4 u5 u6, us = [u0, u1, u2, u3, u4, u5, u6] := by
  cases us with
  | nil => cases h
  | cons x0 us => obtain ⟨v0, v1, v2, v3, v4, v5, e⟩ := ln6 (Nat.succ.inj h); exact ⟨x0, v0, v1, v2, v3, v4, v5, by rw [e]⟩
def S0 : Sto := ⟨0, fun _ => none⟩
def sp_law (K : PySem.W.Frag) : Sp := fun vs H Q _ => ∃ (a : Addr) (ns : List Int), vs = [.ref a] ∧ SqL K H a (ns.map V.int) ∧ ns.length ≤ 63 ∧ ∀ H', Q (.bl true) H'
theorem law_sp {P : Program} {w : World} {K : PySem.W.Frag} {mg : Str → Option Value} {base : Heap} {C : Nat → Addr} {f : Addr} {fd : FuncData} (h : FnOk P w K mg base CX0 9 f fd ["_law_script"] (spOk (tb w K C) (denF 1 19 d_law))) : FnOk P w K mg base CX0 9 f fd ["_law_script"] (sp_law K) := h.imp fun vs H Q E ⟨a, ns, e, hq, hl, q⟩ => by
  subst e
  obtain ⟨M', e⟩ := law_true ns hl
  exact ⟨⟨tb w K C, H, fun _ => none, fun _ => none⟩, [.scr ns], S0, .bl true, M', rfl, ⟨fun _ _ e => e, (fun _ _ e => nomatch e), (fun _ _ _ _ _ e => nomatch e), fun _ _ => rfl, (fun _ _ e => nomatch e), (fun _ _ e => nomatch e)⟩, ⟨.ref a, [], rfl, ⟨a, rfl, hq, hl⟩, rfl⟩, e, fun W' H' u _ _ r => by cases r; exact q H'⟩
theorem all_mk {l : PySem.W.OpenLaw} {w : World} {K : PySem.W.Frag} {h : Heap} {mg : Str → Option Value} {fa : Addr} (X : K.In h) (G : h.Ns mainGlobals mg) (hfa : mg "law" = some (.ref fa))
    {c_Track : Addr}
    {f__law_town : Addr} {od__law_town an__law_town : Option Addr} {sl__law_town : Array (Option Value)} {oc__law_town kV__law_town dc__law_town pm__law_town cd__law_town ct__law_town : Value}
    {f__law_draw : Addr} {od__law_draw an__law_draw : Option Addr} {sl__law_draw : Array (Option Value)} {oc__law_draw kV__law_draw dc__law_draw pm__law_draw cd__law_draw ct__law_draw : Value}
    {f__law_pick : Addr} {od__law_pick an__law_pick : Option Addr} {sl__law_pick : Array (Option Value)} {oc__law_pick kV__law_pick dc__law_pick pm__law_pick cd__law_pick ct__law_pick : Value}
    {f__law_liars : Addr} {od__law_liars an__law_liars : Option Addr} {sl__law_liars : Array (Option Value)} {oc__law_liars kV__law_liars dc__law_liars pm__law_liars cd__law_liars ct__law_liars : Value}
    {f_is_whole : Addr} {od_is_whole an_is_whole : Option Addr} {sl_is_whole : Array (Option Value)} {oc_is_whole kV_is_whole dc_is_whole pm_is_whole cd_is_whole ct_is_whole : Value}
    {f_is_within : Addr} {od_is_within an_is_within : Option Addr} {sl_is_within : Array (Option Value)} {oc_is_within kV_is_within dc_is_within pm_is_within cd_is_within ct_is_within : Value}
    {f_check_within : Addr} {od_check_within an_check_within : Option Addr} {sl_check_within : Array (Option Value)} {oc_check_within kV_check_within dc_check_within pm_check_within cd_check_within ct_check_within : Value}
    {f_check_few : Addr} {od_check_few an_check_few : Option Addr} {sl_check_few : Array (Option Value)} {oc_check_few kV_check_few dc_check_few pm_check_few cd_check_few ct_check_few : Value}
    {f_Track___init__ : Addr} {od_Track___init__ an_Track___init__ : Option Addr} {sl_Track___init__ : Array (Option Value)} {oc_Track___init__ kV_Track___init__ dc_Track___init__ pm_Track___init__ cd_Track___init__ ct_Track___init__ : Value}
    {f_Track_wider : Addr} {od_Track_wider an_Track_wider : Option Addr} {sl_Track_wider : Array (Option Value)} {oc_Track_wider kV_Track_wider dc_Track_wider pm_Track_wider cd_Track_wider ct_Track_wider : Value}
    {f_Track_guess : Addr} {od_Track_guess an_Track_guess : Option Addr} {sl_Track_guess : Array (Option Value)} {oc_Track_guess kV_Track_guess dc_Track_guess pm_Track_guess cd_Track_guess ct_Track_guess : Value}
    {f__law_number : Addr} {od__law_number an__law_number : Option Addr} {sl__law_number : Array (Option Value)} {oc__law_number kV__law_number dc__law_number pm__law_number cd__law_number ct__law_number : Value}
    {f__law_span : Addr} {od__law_span an__law_span : Option Addr} {sl__law_span : Array (Option Value)} {oc__law_span kV__law_span dc__law_span pm__law_span cd__law_span ct__law_span : Value}
    {f_is_fit_list : Addr} {od_is_fit_list an_is_fit_list : Option Addr} {sl_is_fit_list : Array (Option Value)} {oc_is_fit_list kV_is_fit_list dc_is_fit_list pm_is_fit_list cd_is_fit_list ct_is_fit_list : Value}
    {f_is_pair : Addr} {od_is_pair an_is_pair : Option Addr} {sl_is_pair : Array (Option Value)} {oc_is_pair kV_is_pair dc_is_pair pm_is_pair cd_is_pair ct_is_pair : Value}
    {f_is_number : Addr} {od_is_number an_is_number : Option Addr} {sl_is_number : Array (Option Value)} {oc_is_number kV_is_number dc_is_number pm_is_number cd_is_number ct_is_number : Value}
    {f_is_number_pair : Addr} {od_is_number_pair an_is_number_pair : Option Addr} {sl_is_number_pair : Array (Option Value)} {oc_is_number_pair kV_is_number_pair dc_is_number_pair pm_is_number_pair cd_is_number_pair ct_is_number_pair : Value}
    {f_is_span : Addr} {od_is_span an_is_span : Option Addr} {sl_is_span : Array (Option Value)} {oc_is_span kV_is_span dc_is_span pm_is_span cd_is_span ct_is_span : Value}
    {f_check_spans : Addr} {od_check_spans an_check_spans : Option Addr} {sl_check_spans : Array (Option Value)} {oc_check_spans kV_check_spans dc_check_spans pm_check_spans cd_check_spans ct_check_spans : Value}
    {f_many_with : Addr} {od_many_with an_many_with : Option Addr} {sl_many_with : Array (Option Value)} {oc_many_with kV_many_with dc_many_with pm_many_with cd_many_with ct_many_with : Value}
    {f_fused : Addr} {od_fused an_fused : Option Addr} {sl_fused : Array (Option Value)} {oc_fused kV_fused dc_fused pm_fused cd_fused ct_fused : Value}
    {f_have_common : Addr} {od_have_common an_have_common : Option Addr} {sl_have_common : Array (Option Value)} {oc_have_common kV_have_common dc_have_common pm_have_common cd_have_common ct_have_common : Value}
    {f_sensors_off : Addr} {od_sensors_off an_sensors_off : Option Addr} {sl_sensors_off : Array (Option Value)} {oc_sensors_off kV_sensors_off dc_sensors_off pm_sensors_off cd_sensors_off ct_sensors_off : Value}
    {f_shown_false : Addr} {od_shown_false an_shown_false : Option Addr} {sl_shown_false : Array (Option Value)} {oc_shown_false kV_shown_false dc_shown_false pm_shown_false cd_shown_false ct_shown_false : Value}
    {f_Track_narrowed : Addr} {od_Track_narrowed an_Track_narrowed : Option Addr} {sl_Track_narrowed : Array (Option Value)} {oc_Track_narrowed kV_Track_narrowed dc_Track_narrowed pm_Track_narrowed cd_Track_narrowed ct_Track_narrowed : Value}
    {f_Track_see : Addr} {od_Track_see an_Track_see : Option Addr} {sl_Track_see : Array (Option Value)} {oc_Track_see kV_Track_see dc_Track_see pm_Track_see cd_Track_see ct_Track_see : Value}
    {f_Track_liars_found : Addr} {od_Track_liars_found an_Track_liars_found : Option Addr} {sl_Track_liars_found : Array (Option Value)} {oc_Track_liars_found kV_Track_liars_found dc_Track_liars_found pm_Track_liars_found cd_Track_liars_found ct_Track_liars_found : Value}
    {f_Track_liars_found__v : Addr} {od_Track_liars_found__v an_Track_liars_found__v : Option Addr} {sl_Track_liars_found__v : Array (Option Value)} {oc_Track_liars_found__v kV_Track_liars_found__v dc_Track_liars_found__v pm_Track_liars_found__v cd_Track_liars_found__v ct_Track_liars_found__v : Value}
    {f_law : Addr} {od_law an_law : Option Addr} {sl_law : Array (Option Value)} {oc_law kV_law dc_law pm_law cd_law ct_law : Value}
    {t_FARTHEST : Tok}
    {t_LAST_BEAT : Tok}
    {t_MOST_FEW : Tok}
    {t_MOST_SPEED : Tok}
    {t_MOST_WORTHS : Tok}
    {c_BadNumber : Addr}
    {c_BadWorths : Addr}
    {c_NotNow : Addr}
    {c_LiarError : Addr}
    (a_Track : PySem.W.nsIn K mainGlobals "Track" = some (some (.ref c_Track)))
    (o_Track_pg : PySem.W.plainGet K c_Track Str.empty = true)
    (o_Track_hd : PySem.W.hasDictIn K c_Track = true)
    (o_Track_po : PySem.W.plainOver K c_Track = true)
    (o_Track_sa : PySem.W.findIn K (.ref c_Track) "__setattr__" = some (some (.builtin "object.__setattr__")))
    (o_Track_mk : PySem.W.makesIn K c_Track = true)
    (o_Track_kp : PySem.W.keepIn K (.ref c_Track) = true)
    (o_Track_n_caught : PySem.W.findIn K (.ref c_Track) "caught" = some none)
    (o_Track_n_few : PySem.W.findIn K (.ref c_Track) "few" = some none)
    (o_Track_n_last_beat : PySem.W.findIn K (.ref c_Track) "last_beat" = some none)
    (o_Track_n_last_place : PySem.W.findIn K (.ref c_Track) "last_place" = some none)
    (o_Track_n_speed : PySem.W.findIn K (.ref c_Track) "speed" = some none)
    (a__law_town : PySem.W.nsIn K mainGlobals "_law_town" = some (some (.ref f__law_town)))
    (l__law_town : K.lookup f__law_town = some ⟨oc__law_town, od__law_town, .func (PySem.W.fnOf "_law_town" "_law_town" (defArgs s__law_town) (defBody s__law_town) (defScope s__law_town) .none kV__law_town dc__law_town pm__law_town an__law_town cd__law_town ct__law_town), sl__law_town⟩)
    (c__law_town : PySem.W.codeIn K cd__law_town "_law_town" = true)
    (k__law_town : PySem.W.keepIn K (.ref f__law_town) = true)
    (a__law_draw : PySem.W.nsIn K mainGlobals "_law_draw" = some (some (.ref f__law_draw)))
    (l__law_draw : K.lookup f__law_draw = some ⟨oc__law_draw, od__law_draw, .func (PySem.W.fnOf "_law_draw" "_law_draw" (defArgs s__law_draw) (defBody s__law_draw) (defScope s__law_draw) .none kV__law_draw dc__law_draw pm__law_draw an__law_draw cd__law_draw ct__law_draw), sl__law_draw⟩)
    (c__law_draw : PySem.W.codeIn K cd__law_draw "_law_draw" = true)
    (k__law_draw : PySem.W.keepIn K (.ref f__law_draw) = true)
    (a__law_pick : PySem.W.nsIn K mainGlobals "_law_pick" = some (some (.ref f__law_pick)))
    (l__law_pick : K.lookup f__law_pick = some ⟨oc__law_pick, od__law_pick, .func (PySem.W.fnOf "_law_pick" "_law_pick" (defArgs s__law_pick) (defBody s__law_pick) (defScope s__law_pick) .none kV__law_pick dc__law_pick pm__law_pick an__law_pick cd__law_pick ct__law_pick), sl__law_pick⟩)
    (c__law_pick : PySem.W.codeIn K cd__law_pick "_law_pick" = true)
    (k__law_pick : PySem.W.keepIn K (.ref f__law_pick) = true)
    (a__law_liars : PySem.W.nsIn K mainGlobals "_law_liars" = some (some (.ref f__law_liars)))
    (l__law_liars : K.lookup f__law_liars = some ⟨oc__law_liars, od__law_liars, .func (PySem.W.fnOf "_law_liars" "_law_liars" (defArgs s__law_liars) (defBody s__law_liars) (defScope s__law_liars) .none kV__law_liars dc__law_liars pm__law_liars an__law_liars cd__law_liars ct__law_liars), sl__law_liars⟩)
    (c__law_liars : PySem.W.codeIn K cd__law_liars "_law_liars" = true)
    (k__law_liars : PySem.W.keepIn K (.ref f__law_liars) = true)
    (a_is_whole : PySem.W.nsIn K mainGlobals "is_whole" = some (some (.ref f_is_whole)))
    (l_is_whole : K.lookup f_is_whole = some ⟨oc_is_whole, od_is_whole, .func (PySem.W.fnOf "is_whole" "is_whole" (defArgs s_is_whole) (defBody s_is_whole) (defScope s_is_whole) .none kV_is_whole dc_is_whole pm_is_whole an_is_whole cd_is_whole ct_is_whole), sl_is_whole⟩)
    (c_is_whole : PySem.W.codeIn K cd_is_whole "is_whole" = true)
    (k_is_whole : PySem.W.keepIn K (.ref f_is_whole) = true)
    (a_is_within : PySem.W.nsIn K mainGlobals "is_within" = some (some (.ref f_is_within)))
    (l_is_within : K.lookup f_is_within = some ⟨oc_is_within, od_is_within, .func (PySem.W.fnOf "is_within" "is_within" (defArgs s_is_within) (defBody s_is_within) (defScope s_is_within) .none kV_is_within dc_is_within pm_is_within an_is_within cd_is_within ct_is_within), sl_is_within⟩)
    (c_is_within : PySem.W.codeIn K cd_is_within "is_within" = true)
    (k_is_within : PySem.W.keepIn K (.ref f_is_within) = true)
    (a_check_within : PySem.W.nsIn K mainGlobals "check_within" = some (some (.ref f_check_within)))
    (l_check_within : K.lookup f_check_within = some ⟨oc_check_within, od_check_within, .func (PySem.W.fnOf "check_within" "check_within" (defArgs s_check_within) (defBody s_check_within) (defScope s_check_within) .none kV_check_within dc_check_within pm_check_within an_check_within cd_check_within ct_check_within), sl_check_within⟩)
    (c_check_within : PySem.W.codeIn K cd_check_within "check_within" = true)
    (k_check_within : PySem.W.keepIn K (.ref f_check_within) = true)
    (a_check_few : PySem.W.nsIn K mainGlobals "check_few" = some (some (.ref f_check_few)))
    (l_check_few : K.lookup f_check_few = some ⟨oc_check_few, od_check_few, .func (PySem.W.fnOf "check_few" "check_few" (defArgs s_check_few) (defBody s_check_few) (defScope s_check_few) .none kV_check_few dc_check_few pm_check_few an_check_few cd_check_few ct_check_few), sl_check_few⟩)
    (c_check_few : PySem.W.codeIn K cd_check_few "check_few" = true)
    (k_check_few : PySem.W.keepIn K (.ref f_check_few) = true)
    (a_Track___init__ : PySem.W.findIn K (.ref c_Track) "__init__" = some (some (.ref f_Track___init__)))
    (i_Track___init__ : PySem.W.isFn K (.ref f_Track___init__) = true)
    (l_Track___init__ : K.lookup f_Track___init__ = some ⟨oc_Track___init__, od_Track___init__, .func (PySem.W.fnOf "__init__" "Track.__init__" (defArgs s_Track___init__) (defBody s_Track___init__) (defScope s_Track___init__) .none kV_Track___init__ dc_Track___init__ pm_Track___init__ an_Track___init__ cd_Track___init__ ct_Track___init__), sl_Track___init__⟩)
    (c_Track___init__ : PySem.W.codeIn K cd_Track___init__ "Track.__init__" = true)
    (k_Track___init__ : PySem.W.keepIn K (.ref f_Track___init__) = true)
    (a_Track_wider : PySem.W.findIn K (.ref c_Track) "wider" = some (some (.ref f_Track_wider)))
    (i_Track_wider : PySem.W.isFn K (.ref f_Track_wider) = true)
    (l_Track_wider : K.lookup f_Track_wider = some ⟨oc_Track_wider, od_Track_wider, .func (PySem.W.fnOf "wider" "Track.wider" (defArgs s_Track_wider) (defBody s_Track_wider) (defScope s_Track_wider) .none kV_Track_wider dc_Track_wider pm_Track_wider an_Track_wider cd_Track_wider ct_Track_wider), sl_Track_wider⟩)
    (c_Track_wider : PySem.W.codeIn K cd_Track_wider "Track.wider" = true)
    (k_Track_wider : PySem.W.keepIn K (.ref f_Track_wider) = true)
    (a_Track_guess : PySem.W.findIn K (.ref c_Track) "guess" = some (some (.ref f_Track_guess)))
    (i_Track_guess : PySem.W.isFn K (.ref f_Track_guess) = true)
    (l_Track_guess : K.lookup f_Track_guess = some ⟨oc_Track_guess, od_Track_guess, .func (PySem.W.fnOf "guess" "Track.guess" (defArgs s_Track_guess) (defBody s_Track_guess) (defScope s_Track_guess) .none kV_Track_guess dc_Track_guess pm_Track_guess an_Track_guess cd_Track_guess ct_Track_guess), sl_Track_guess⟩)
    (c_Track_guess : PySem.W.codeIn K cd_Track_guess "Track.guess" = true)
    (k_Track_guess : PySem.W.keepIn K (.ref f_Track_guess) = true)
    (a__law_number : PySem.W.nsIn K mainGlobals "_law_number" = some (some (.ref f__law_number)))
    (l__law_number : K.lookup f__law_number = some ⟨oc__law_number, od__law_number, .func (PySem.W.fnOf "_law_number" "_law_number" (defArgs s__law_number) (defBody s__law_number) (defScope s__law_number) .none kV__law_number dc__law_number pm__law_number an__law_number cd__law_number ct__law_number), sl__law_number⟩)
    (c__law_number : PySem.W.codeIn K cd__law_number "_law_number" = true)
    (k__law_number : PySem.W.keepIn K (.ref f__law_number) = true)
    (a__law_span : PySem.W.nsIn K mainGlobals "_law_span" = some (some (.ref f__law_span)))
    (l__law_span : K.lookup f__law_span = some ⟨oc__law_span, od__law_span, .func (PySem.W.fnOf "_law_span" "_law_span" (defArgs s__law_span) (defBody s__law_span) (defScope s__law_span) .none kV__law_span dc__law_span pm__law_span an__law_span cd__law_span ct__law_span), sl__law_span⟩)
    (c__law_span : PySem.W.codeIn K cd__law_span "_law_span" = true)
    (k__law_span : PySem.W.keepIn K (.ref f__law_span) = true)
    (a_is_fit_list : PySem.W.nsIn K mainGlobals "is_fit_list" = some (some (.ref f_is_fit_list)))
    (l_is_fit_list : K.lookup f_is_fit_list = some ⟨oc_is_fit_list, od_is_fit_list, .func (PySem.W.fnOf "is_fit_list" "is_fit_list" (defArgs s_is_fit_list) (defBody s_is_fit_list) (defScope s_is_fit_list) .none kV_is_fit_list dc_is_fit_list pm_is_fit_list an_is_fit_list cd_is_fit_list ct_is_fit_list), sl_is_fit_list⟩)
    (c_is_fit_list : PySem.W.codeIn K cd_is_fit_list "is_fit_list" = true)
    (k_is_fit_list : PySem.W.keepIn K (.ref f_is_fit_list) = true)
    (a_is_pair : PySem.W.nsIn K mainGlobals "is_pair" = some (some (.ref f_is_pair)))
    (l_is_pair : K.lookup f_is_pair = some ⟨oc_is_pair, od_is_pair, .func (PySem.W.fnOf "is_pair" "is_pair" (defArgs s_is_pair) (defBody s_is_pair) (defScope s_is_pair) .none kV_is_pair dc_is_pair pm_is_pair an_is_pair cd_is_pair ct_is_pair), sl_is_pair⟩)
    (c_is_pair : PySem.W.codeIn K cd_is_pair "is_pair" = true)
    (k_is_pair : PySem.W.keepIn K (.ref f_is_pair) = true)
    (a_is_number : PySem.W.nsIn K mainGlobals "is_number" = some (some (.ref f_is_number)))
    (l_is_number : K.lookup f_is_number = some ⟨oc_is_number, od_is_number, .func (PySem.W.fnOf "is_number" "is_number" (defArgs s_is_number) (defBody s_is_number) (defScope s_is_number) .none kV_is_number dc_is_number pm_is_number an_is_number cd_is_number ct_is_number), sl_is_number⟩)
    (c_is_number : PySem.W.codeIn K cd_is_number "is_number" = true)
    (k_is_number : PySem.W.keepIn K (.ref f_is_number) = true)
    (a_is_number_pair : PySem.W.nsIn K mainGlobals "is_number_pair" = some (some (.ref f_is_number_pair)))
    (l_is_number_pair : K.lookup f_is_number_pair = some ⟨oc_is_number_pair, od_is_number_pair, .func (PySem.W.fnOf "is_number_pair" "is_number_pair" (defArgs s_is_number_pair) (defBody s_is_number_pair) (defScope s_is_number_pair) .none kV_is_number_pair dc_is_number_pair pm_is_number_pair an_is_number_pair cd_is_number_pair ct_is_number_pair), sl_is_number_pair⟩)
    (c_is_number_pair : PySem.W.codeIn K cd_is_number_pair "is_number_pair" = true)
    (k_is_number_pair : PySem.W.keepIn K (.ref f_is_number_pair) = true)
    (a_is_span : PySem.W.nsIn K mainGlobals "is_span" = some (some (.ref f_is_span)))
    (l_is_span : K.lookup f_is_span = some ⟨oc_is_span, od_is_span, .func (PySem.W.fnOf "is_span" "is_span" (defArgs s_is_span) (defBody s_is_span) (defScope s_is_span) .none kV_is_span dc_is_span pm_is_span an_is_span cd_is_span ct_is_span), sl_is_span⟩)
    (c_is_span : PySem.W.codeIn K cd_is_span "is_span" = true)
    (k_is_span : PySem.W.keepIn K (.ref f_is_span) = true)
    (a_check_spans : PySem.W.nsIn K mainGlobals "check_spans" = some (some (.ref f_check_spans)))
    (l_check_spans : K.lookup f_check_spans = some ⟨oc_check_spans, od_check_spans, .func (PySem.W.fnOf "check_spans" "check_spans" (defArgs s_check_spans) (defBody s_check_spans) (defScope s_check_spans) .none kV_check_spans dc_check_spans pm_check_spans an_check_spans cd_check_spans ct_check_spans), sl_check_spans⟩)
    (c_check_spans : PySem.W.codeIn K cd_check_spans "check_spans" = true)
    (k_check_spans : PySem.W.keepIn K (.ref f_check_spans) = true)
    (a_many_with : PySem.W.nsIn K mainGlobals "many_with" = some (some (.ref f_many_with)))
    (l_many_with : K.lookup f_many_with = some ⟨oc_many_with, od_many_with, .func (PySem.W.fnOf "many_with" "many_with" (defArgs s_many_with) (defBody s_many_with) (defScope s_many_with) .none kV_many_with dc_many_with pm_many_with an_many_with cd_many_with ct_many_with), sl_many_with⟩)
    (c_many_with : PySem.W.codeIn K cd_many_with "many_with" = true)
    (k_many_with : PySem.W.keepIn K (.ref f_many_with) = true)
    (a_fused : PySem.W.nsIn K mainGlobals "fused" = some (some (.ref f_fused)))
    (l_fused : K.lookup f_fused = some ⟨oc_fused, od_fused, .func (PySem.W.fnOf "fused" "fused" (defArgs s_fused) (defBody s_fused) (defScope s_fused) .none kV_fused dc_fused pm_fused an_fused cd_fused ct_fused), sl_fused⟩)
    (c_fused : PySem.W.codeIn K cd_fused "fused" = true)
    (k_fused : PySem.W.keepIn K (.ref f_fused) = true)
    (a_have_common : PySem.W.nsIn K mainGlobals "have_common" = some (some (.ref f_have_common)))
    (l_have_common : K.lookup f_have_common = some ⟨oc_have_common, od_have_common, .func (PySem.W.fnOf "have_common" "have_common" (defArgs s_have_common) (defBody s_have_common) (defScope s_have_common) .none kV_have_common dc_have_common pm_have_common an_have_common cd_have_common ct_have_common), sl_have_common⟩)
    (c_have_common : PySem.W.codeIn K cd_have_common "have_common" = true)
    (k_have_common : PySem.W.keepIn K (.ref f_have_common) = true)
    (a_sensors_off : PySem.W.nsIn K mainGlobals "sensors_off" = some (some (.ref f_sensors_off)))
    (l_sensors_off : K.lookup f_sensors_off = some ⟨oc_sensors_off, od_sensors_off, .func (PySem.W.fnOf "sensors_off" "sensors_off" (defArgs s_sensors_off) (defBody s_sensors_off) (defScope s_sensors_off) .none kV_sensors_off dc_sensors_off pm_sensors_off an_sensors_off cd_sensors_off ct_sensors_off), sl_sensors_off⟩)
    (c_sensors_off : PySem.W.codeIn K cd_sensors_off "sensors_off" = true)
    (k_sensors_off : PySem.W.keepIn K (.ref f_sensors_off) = true)
    (a_shown_false : PySem.W.nsIn K mainGlobals "shown_false" = some (some (.ref f_shown_false)))
    (l_shown_false : K.lookup f_shown_false = some ⟨oc_shown_false, od_shown_false, .func (PySem.W.fnOf "shown_false" "shown_false" (defArgs s_shown_false) (defBody s_shown_false) (defScope s_shown_false) .none kV_shown_false dc_shown_false pm_shown_false an_shown_false cd_shown_false ct_shown_false), sl_shown_false⟩)
    (c_shown_false : PySem.W.codeIn K cd_shown_false "shown_false" = true)
    (k_shown_false : PySem.W.keepIn K (.ref f_shown_false) = true)
    (a_Track_narrowed : PySem.W.findIn K (.ref c_Track) "narrowed" = some (some (.ref f_Track_narrowed)))
    (i_Track_narrowed : PySem.W.isFn K (.ref f_Track_narrowed) = true)
    (l_Track_narrowed : K.lookup f_Track_narrowed = some ⟨oc_Track_narrowed, od_Track_narrowed, .func (PySem.W.fnOf "narrowed" "Track.narrowed" (defArgs s_Track_narrowed) (defBody s_Track_narrowed) (defScope s_Track_narrowed) .none kV_Track_narrowed dc_Track_narrowed pm_Track_narrowed an_Track_narrowed cd_Track_narrowed ct_Track_narrowed), sl_Track_narrowed⟩)
    (c_Track_narrowed : PySem.W.codeIn K cd_Track_narrowed "Track.narrowed" = true)
    (k_Track_narrowed : PySem.W.keepIn K (.ref f_Track_narrowed) = true)
    (a_Track_see : PySem.W.findIn K (.ref c_Track) "see" = some (some (.ref f_Track_see)))
    (i_Track_see : PySem.W.isFn K (.ref f_Track_see) = true)
    (l_Track_see : K.lookup f_Track_see = some ⟨oc_Track_see, od_Track_see, .func (PySem.W.fnOf "see" "Track.see" (defArgs s_Track_see) (defBody s_Track_see) (defScope s_Track_see) .none kV_Track_see dc_Track_see pm_Track_see an_Track_see cd_Track_see ct_Track_see), sl_Track_see⟩)
    (c_Track_see : PySem.W.codeIn K cd_Track_see "Track.see" = true)
    (k_Track_see : PySem.W.keepIn K (.ref f_Track_see) = true)
    (a_Track_liars_found : PySem.W.findIn K (.ref c_Track) "liars_found" = some (some (.ref f_Track_liars_found)))
    (i_Track_liars_found : PySem.W.isFn K (.ref f_Track_liars_found) = true)
    (l_Track_liars_found : K.lookup f_Track_liars_found = some ⟨oc_Track_liars_found, od_Track_liars_found, .func (PySem.W.fnOf "liars_found" "Track.liars_found" (defArgs s_Track_liars_found) (defBody s_Track_liars_found) (defScope s_Track_liars_found) .none kV_Track_liars_found dc_Track_liars_found pm_Track_liars_found an_Track_liars_found cd_Track_liars_found ct_Track_liars_found), sl_Track_liars_found⟩)
    (c_Track_liars_found : PySem.W.codeIn K cd_Track_liars_found "Track.liars_found" = true)
    (k_Track_liars_found : PySem.W.keepIn K (.ref f_Track_liars_found) = true)
    (a_Track_liars_found__v : PySem.W.findIn K (.ref c_Track) "liars_found" = some (some (.ref f_Track_liars_found__v)))
    (i_Track_liars_found__v : PySem.W.isFn K (.ref f_Track_liars_found__v) = true)
    (l_Track_liars_found__v : K.lookup f_Track_liars_found__v = some ⟨oc_Track_liars_found__v, od_Track_liars_found__v, .func (PySem.W.fnOf "liars_found" "Track.liars_found" (defArgs s_Track_liars_found__v) (defBody s_Track_liars_found__v) (defScope s_Track_liars_found__v) .none kV_Track_liars_found__v dc_Track_liars_found__v pm_Track_liars_found__v an_Track_liars_found__v cd_Track_liars_found__v ct_Track_liars_found__v), sl_Track_liars_found__v⟩)
    (c_Track_liars_found__v : PySem.W.codeIn K cd_Track_liars_found__v "Track.liars_found" = true)
    (k_Track_liars_found__v : PySem.W.keepIn K (.ref f_Track_liars_found__v) = true)
    (a_law : PySem.W.nsIn K mainGlobals "law" = some (some (.ref f_law)))
    (l_law : K.lookup f_law = some ⟨oc_law, od_law, .func (PySem.W.fnOf "law" "law" (defArgs s_law) (defBody s_law) (defScope s_law) .none kV_law dc_law pm_law an_law cd_law ct_law), sl_law⟩)
    (c_law : PySem.W.codeIn K cd_law "law" = true)
    (k_law : PySem.W.keepIn K (.ref f_law) = true)
    (n_FARTHEST : PySem.W.nsIn K mainGlobals "FARTHEST" = some (some (.int 1000000 t_FARTHEST)))
    (n_LAST_BEAT : PySem.W.nsIn K mainGlobals "LAST_BEAT" = some (some (.int 100000 t_LAST_BEAT)))
    (n_MOST_FEW : PySem.W.nsIn K mainGlobals "MOST_FEW" = some (some (.int 5 t_MOST_FEW)))
    (n_MOST_SPEED : PySem.W.nsIn K mainGlobals "MOST_SPEED" = some (some (.int 1000 t_MOST_SPEED)))
    (n_MOST_WORTHS : PySem.W.nsIn K mainGlobals "MOST_WORTHS" = some (some (.int 40 t_MOST_WORTHS)))
    (a_BadNumber : PySem.W.nsIn K mainGlobals "BadNumber" = some (some (.ref c_BadNumber)))
    (a_BadWorths : PySem.W.nsIn K mainGlobals "BadWorths" = some (some (.ref c_BadWorths)))
    (a_NotNow : PySem.W.nsIn K mainGlobals "NotNow" = some (some (.ref c_NotNow)))
    (a_LiarError : PySem.W.nsIn K mainGlobals "LiarError" = some (some (.ref c_LiarError)))
    (e_BadNumber : PySem.W.excIn K c_BadNumber bmVE "ValueError.__new__" = true)
    (e_BadWorths : PySem.W.excIn K c_BadWorths bmVE "ValueError.__new__" = true)
    (e_NotNow : PySem.W.excIn K c_NotNow bmVE "ValueError.__new__" = true)
    (z_all : PySem.W.nsIn K mainGlobals "all" = some none)
    (z_bool : PySem.W.nsIn K mainGlobals "bool" = some none)
    (z_enumerate : PySem.W.nsIn K mainGlobals "enumerate" = some none)
    (z_int : PySem.W.nsIn K mainGlobals "int" = some none)
    (z_isinstance : PySem.W.nsIn K mainGlobals "isinstance" = some none)
    (z_len : PySem.W.nsIn K mainGlobals "len" = some none)
    (z_list : PySem.W.nsIn K mainGlobals "list" = some none)
    (z_max : PySem.W.nsIn K mainGlobals "max" = some none)
    (z_min : PySem.W.nsIn K mainGlobals "min" = some none)
    (z_range : PySem.W.nsIn K mainGlobals "range" = some none)
    (z_set : PySem.W.nsIn K mainGlobals "set" = some none)
    (z_sorted : PySem.W.nsIn K mainGlobals "sorted" = some none)
    (z_tuple : PySem.W.nsIn K mainGlobals "tuple" = some none) :
    ∃ fd : FuncData, (∀ (s : Shared) (v : Value), BindsTo s fd ⟨[v], []⟩ [("_law_script", v)]) ∧ ∀ base : Heap, K.In base → base.Ns mainGlobals mg → FnOk l.prog w K mg base CX0 9 fa fd ["_law_script"] (sp_law K) := by
  have e := hfa.symm.trans (PySem.W.mg_of X G a_law)
  cases e
  let C : Nat → Addr := fun k => ([c_BadNumber, c_BadWorths, 0, 0, 0, 0, c_NotNow, 0, 0, c_LiarError, c_Track] : List Addr).getD k 0
  have N_all := PySem.W.mg_none_of X G z_all
  have N_bool := PySem.W.mg_none_of X G z_bool
  have N_enumerate := PySem.W.mg_none_of X G z_enumerate
  have N_int := PySem.W.mg_none_of X G z_int
  have N_isinstance := PySem.W.mg_none_of X G z_isinstance
  have N_len := PySem.W.mg_none_of X G z_len
  have N_list := PySem.W.mg_none_of X G z_list
  have N_max := PySem.W.mg_none_of X G z_max
  have N_min := PySem.W.mg_none_of X G z_min
  have N_range := PySem.W.mg_none_of X G z_range
  have N_set := PySem.W.mg_none_of X G z_set
  have N_sorted := PySem.W.mg_none_of X G z_sorted
  have N_tuple := PySem.W.mg_none_of X G z_tuple
  have C_FARTHEST := PySem.W.mg_of X G n_FARTHEST
  have C_LAST_BEAT := PySem.W.mg_of X G n_LAST_BEAT
  have C_MOST_FEW := PySem.W.mg_of X G n_MOST_FEW
  have C_MOST_SPEED := PySem.W.mg_of X G n_MOST_SPEED
  have C_MOST_WORTHS := PySem.W.mg_of X G n_MOST_WORTHS
  have A_BadNumber : mg "BadNumber" = some (.ref (C 0)) := PySem.W.mg_of X G a_BadNumber
  have A_BadWorths : mg "BadWorths" = some (.ref (C 1)) := PySem.W.mg_of X G a_BadWorths
  have A_NotNow : mg "NotNow" = some (.ref (C 6)) := PySem.W.mg_of X G a_NotNow
  have A_LiarError : mg "LiarError" = some (.ref (C 9)) := PySem.W.mg_of X G a_LiarError
  have A_Track : mg "Track" = some (.ref (C 10)) := PySem.W.mg_of X G a_Track
  have cl_Track : Cls K (C 10) := ⟨o_Track_pg, o_Track_hd, o_Track_po, o_Track_sa⟩
  have nf_Track_caught : NoAttr K (C 10) "caught" := o_Track_n_caught
  have nf_Track_few : NoAttr K (C 10) "few" := o_Track_n_few
  have nf_Track_last_beat : NoAttr K (C 10) "last_beat" := o_Track_n_last_beat
  have nf_Track_last_place : NoAttr K (C 10) "last_place" := o_Track_n_last_place
  have nf_Track_speed : NoAttr K (C 10) "speed" := o_Track_n_speed
  have X_BadNumber : Exc K mg "BadNumber" (C 0) := ⟨A_BadNumber, e_BadNumber⟩
  have X_BadWorths : Exc K mg "BadWorths" (C 1) := ⟨A_BadWorths, e_BadWorths⟩
  have X_NotNow : Exc K mg "NotNow" (C 6) := ⟨A_NotNow, e_NotNow⟩
  have F__law_town := fun_mk (st := s__law_town) l__law_town c__law_town k__law_town
  have F__law_draw := fun_mk (st := s__law_draw) l__law_draw c__law_draw k__law_draw
  have F__law_pick := fun_mk (st := s__law_pick) l__law_pick c__law_pick k__law_pick
  have F__law_liars := fun_mk (st := s__law_liars) l__law_liars c__law_liars k__law_liars
  have F_is_whole := fun_mk (st := s_is_whole) l_is_whole c_is_whole k_is_whole
  have F_is_within := fun_mk (st := s_is_within) l_is_within c_is_within k_is_within
  have F_check_within := fun_mk (st := s_check_within) l_check_within c_check_within k_check_within
  have F_check_few := fun_mk (st := s_check_few) l_check_few c_check_few k_check_few
  have F_Track___init__ := fun_mk (st := s_Track___init__) l_Track___init__ c_Track___init__ k_Track___init__
  have F_Track_wider := fun_mk (st := s_Track_wider) l_Track_wider c_Track_wider k_Track_wider
  have F_Track_guess := fun_mk (st := s_Track_guess) l_Track_guess c_Track_guess k_Track_guess
  have F__law_number := fun_mk (st := s__law_number) l__law_number c__law_number k__law_number
  have F__law_span := fun_mk (st := s__law_span) l__law_span c__law_span k__law_span
  have F_is_fit_list := fun_mk (st := s_is_fit_list) l_is_fit_list c_is_fit_list k_is_fit_list
  have F_is_pair := fun_mk (st := s_is_pair) l_is_pair c_is_pair k_is_pair
  have F_is_number := fun_mk (st := s_is_number) l_is_number c_is_number k_is_number
  have F_is_number_pair := fun_mk (st := s_is_number_pair) l_is_number_pair c_is_number_pair k_is_number_pair
  have F_is_span := fun_mk (st := s_is_span) l_is_span c_is_span k_is_span
  have F_check_spans := fun_mk (st := s_check_spans) l_check_spans c_check_spans k_check_spans
  have F_many_with := fun_mk (st := s_many_with) l_many_with c_many_with k_many_with
  have F_fused := fun_mk (st := s_fused) l_fused c_fused k_fused
  have F_have_common := fun_mk (st := s_have_common) l_have_common c_have_common k_have_common
  have F_sensors_off := fun_mk (st := s_sensors_off) l_sensors_off c_sensors_off k_sensors_off
  have F_shown_false := fun_mk (st := s_shown_false) l_shown_false c_shown_false k_shown_false
  have F_Track_narrowed := fun_mk (st := s_Track_narrowed) l_Track_narrowed c_Track_narrowed k_Track_narrowed
  have F_Track_see := fun_mk (st := s_Track_see) l_Track_see c_Track_see k_Track_see
  have F_Track_liars_found := fun_mk (st := s_Track_liars_found) l_Track_liars_found c_Track_liars_found k_Track_liars_found
  have F_Track_liars_found__v := fun_mk (st := s_Track_liars_found__v) l_Track_liars_found__v c_Track_liars_found__v k_Track_liars_found__v
  have F_law := fun_mk (st := s_law) l_law c_law k_law
  refine ⟨PySem.W.fnOf "law" "law" (defArgs s_law) (defBody s_law) (defScope s_law) .none kV_law dc_law pm_law an_law cd_law ct_law, fun s v => .of_eq rfl, fun base _ _ => ?_⟩
  have ok__law_town_ := ok__law_town (P := l.prog) (w := w) (mg := mg) (base := base) (C := C) F__law_town N_list
  have Q__law_town : CalD l.prog w K mg base (tb w K C) "_law_town" 1 ["_law_script"] [] 1 0 [.p 0] [] D__law_town := ⟨f__law_town, _, [], [], ok__law_town_, PySem.W.mg_of X G a__law_town, k__law_town, kb_mk (dV := []) (ds := []) .nil (fun s us ws KX h1 h2 => by obtain ⟨u0, rfl⟩ := ln1 h1; obtain rfl := ln0 h2; exact .of_eq rfl), fun W hW => rfl⟩
  have ok__law_draw_ := ok__law_draw (P := l.prog) (w := w) (mg := mg) (base := base) (C := C) F__law_draw N_len
  have Q__law_draw : CalD l.prog w K mg base (tb w K C) "_law_draw" 1 ["_law_town_here", "_law_many"] [] 2 0 [.p 0, .p 1] [] D__law_draw := ⟨f__law_draw, _, [], [], ok__law_draw_, PySem.W.mg_of X G a__law_draw, k__law_draw, kb_mk (dV := []) (ds := []) .nil (fun s us ws KX h1 h2 => by obtain ⟨u0, u1, rfl⟩ := ln2 h1; obtain rfl := ln0 h2; exact .of_eq rfl), fun W hW => rfl⟩
  have ok__law_pick_ := ok__law_pick (P := l.prog) (w := w) (mg := mg) (base := base) (C := C) F__law_pick Q__law_draw N_len
  have Q__law_pick : CalD l.prog w K mg base (tb w K C) "_law_pick" 2 ["_law_town_here", "_law_some"] [] 2 0 [.p 0, .p 1] [] D__law_pick := ⟨f__law_pick, _, [], [], ok__law_pick_, PySem.W.mg_of X G a__law_pick, k__law_pick, kb_mk (dV := []) (ds := []) .nil (fun s us ws KX h1 h2 => by obtain ⟨u0, u1, rfl⟩ := ln2 h1; obtain rfl := ln0 h2; exact .of_eq rfl), fun W hW => rfl⟩
  have ok__law_liars_ := ok__law_liars (P := l.prog) (w := w) (mg := mg) (base := base) (C := C) F__law_liars Q__law_draw N_len N_range
  have Q__law_liars : CalD l.prog w K mg base (tb w K C) "_law_liars" 2 ["_law_town_here", "_law_crew", "_law_most"] [] 3 0 [.p 0, .p 1, .p 2] [] D__law_liars := ⟨f__law_liars, _, [], [], ok__law_liars_, PySem.W.mg_of X G a__law_liars, k__law_liars, kb_mk (dV := []) (ds := []) .nil (fun s us ws KX h1 h2 => by obtain ⟨u0, u1, u2, rfl⟩ := ln3 h1; obtain rfl := ln0 h2; exact .of_eq rfl), fun W hW => rfl⟩
  have ok_is_whole_ := ok_is_whole (P := l.prog) (w := w) (mg := mg) (base := base) (C := C) F_is_whole N_bool N_int N_isinstance
  have Q_is_whole : CalD l.prog w K mg base (tb w K C) "is_whole" 1 ["thing"] [] 1 0 [.p 0] [] D_is_whole := ⟨f_is_whole, _, [], [], ok_is_whole_, PySem.W.mg_of X G a_is_whole, k_is_whole, kb_mk (dV := []) (ds := []) .nil (fun s us ws KX h1 h2 => by obtain ⟨u0, rfl⟩ := ln1 h1; obtain rfl := ln0 h2; exact .of_eq rfl), fun W hW => rfl⟩
  have ok_is_within_ := ok_is_within (P := l.prog) (w := w) (mg := mg) (base := base) (C := C) F_is_within Q_is_whole
  have Q_is_within : CalD l.prog w K mg base (tb w K C) "is_within" 2 ["thing", "least", "most"] [] 3 0 [.p 0, .p 1, .p 2] [] D_is_within := ⟨f_is_within, _, [], [], ok_is_within_, PySem.W.mg_of X G a_is_within, k_is_within, kb_mk (dV := []) (ds := []) .nil (fun s us ws KX h1 h2 => by obtain ⟨u0, u1, u2, rfl⟩ := ln3 h1; obtain rfl := ln0 h2; exact .of_eq rfl), fun W hW => rfl⟩
  have ok_check_within_ := ok_check_within (P := l.prog) (w := w) (mg := mg) (base := base) (C := C) F_check_within X_BadNumber Q_is_within
  have Q_check_within : CalD l.prog w K mg base (tb w K C) "check_within" 3 ["thing", "least", "most"] [] 3 0 [.p 0, .p 1, .p 2] [] D_check_within := ⟨f_check_within, _, [], [], ok_check_within_, PySem.W.mg_of X G a_check_within, k_check_within, kb_mk (dV := []) (ds := []) .nil (fun s us ws KX h1 h2 => by obtain ⟨u0, u1, u2, rfl⟩ := ln3 h1; obtain rfl := ln0 h2; exact .of_eq rfl), fun W hW => rfl⟩
  have ok_check_few_ := ok_check_few (P := l.prog) (w := w) (mg := mg) (base := base) (C := C) F_check_few C_MOST_FEW Q_check_within
  have Q_check_few : CalD l.prog w K mg base (tb w K C) "check_few" 4 ["few"] [] 1 0 [.p 0] [] D_check_few := ⟨f_check_few, _, [], [], ok_check_few_, PySem.W.mg_of X G a_check_few, k_check_few, kb_mk (dV := []) (ds := []) .nil (fun s us ws KX h1 h2 => by obtain ⟨u0, rfl⟩ := ln1 h1; obtain rfl := ln0 h2; exact .of_eq rfl), fun W hW => rfl⟩
  have ok_Track___init___ := ok_Track___init__ (P := l.prog) (w := w) (mg := mg) (base := base) (C := C) F_Track___init__ C_MOST_SPEED nf_Track_caught nf_Track_few nf_Track_last_beat nf_Track_last_place nf_Track_speed Q_check_few Q_check_within cl_Track
  have Q_Track___init___1_few_speed : NewD l.prog w K mg base (tb w K C) 10 "Track" 5 ["self", "few", "speed"] ["few", "speed"] 1 2 [.p 0, .k 0, .k 1] [] D_Track___init__ := ⟨f_Track___init__, _, [], [], ok_Track___init___, ⟨o_Track_mk, a_Track___init__, i_Track___init__, o_Track_kp⟩, A_Track, kb_mk (dV := []) (ds := []) .nil (fun s us ws KX h1 h2 => by obtain ⟨u0, rfl⟩ := ln1 h1; obtain ⟨w0, w1, rfl⟩ := ln2 h2; exact .of_eq rfl), fun W hW => rfl⟩
  have ok_Track_wider_ := ok_Track_wider (P := l.prog) (w := w) (mg := mg) (base := base) (C := C) F_Track_wider nf_Track_last_beat nf_Track_last_place nf_Track_speed cl_Track
  have Q_Track_wider : MetD l.prog w K mg base (tb w K C) 10 "wider" 1 ["self", "beat"] [] 2 0 [.p 0, .p 1] [] D_Track_wider := ⟨f_Track_wider, _, [], [], ok_Track_wider_, ⟨a_Track_wider, i_Track_wider, k_Track_wider⟩, cl_Track, kb_mk (dV := []) (ds := []) .nil (fun s us ws KX h1 h2 => by obtain ⟨u0, u1, rfl⟩ := ln2 h1; obtain rfl := ln0 h2; exact .of_eq rfl), fun W hW => rfl⟩
  have ok_Track_guess_ := ok_Track_guess (P := l.prog) (w := w) (mg := mg) (base := base) (C := C) F_Track_guess C_LAST_BEAT X_NotNow nf_Track_last_beat nf_Track_last_place Q_check_within Q_Track_wider cl_Track
  have Q_Track_guess : MetD l.prog w K mg base (tb w K C) 10 "guess" 4 ["self", "beat"] [] 2 0 [.p 0, .p 1] [] D_Track_guess := ⟨f_Track_guess, _, [], [], ok_Track_guess_, ⟨a_Track_guess, i_Track_guess, k_Track_guess⟩, cl_Track, kb_mk (dV := []) (ds := []) .nil (fun s us ws KX h1 h2 => by obtain ⟨u0, u1, rfl⟩ := ln2 h1; obtain rfl := ln0 h2; exact .of_eq rfl), fun W hW => rfl⟩
  have ok__law_number_ := ok__law_number (P := l.prog) (w := w) (mg := mg) (base := base) (C := C) F__law_number Q__law_draw Q__law_pick
  have Q__law_number : CalD l.prog w K mg base (tb w K C) "_law_number" 3 ["_law_town_here"] [] 1 0 [.p 0] [] D__law_number := ⟨f__law_number, _, [], [], ok__law_number_, PySem.W.mg_of X G a__law_number, k__law_number, kb_mk (dV := []) (ds := []) .nil (fun s us ws KX h1 h2 => by obtain ⟨u0, rfl⟩ := ln1 h1; obtain rfl := ln0 h2; exact .of_eq rfl), fun W hW => rfl⟩
  have ok__law_span_ := ok__law_span (P := l.prog) (w := w) (mg := mg) (base := base) (C := C) F__law_span Q__law_draw Q__law_number Q__law_pick N_max N_min
  have Q__law_span : CalD l.prog w K mg base (tb w K C) "_law_span" 4 ["_law_town_here", "_law_truth", "_law_honest"] [] 3 0 [.p 0, .p 1, .p 2] [] D__law_span := ⟨f__law_span, _, [], [], ok__law_span_, PySem.W.mg_of X G a__law_span, k__law_span, kb_mk (dV := []) (ds := []) .nil (fun s us ws KX h1 h2 => by obtain ⟨u0, u1, u2, rfl⟩ := ln3 h1; obtain rfl := ln0 h2; exact .of_eq rfl), fun W hW => rfl⟩
  have ok_is_fit_list_ := ok_is_fit_list (P := l.prog) (w := w) (mg := mg) (base := base) (C := C) F_is_fit_list C_MOST_WORTHS N_isinstance N_len N_list
  have Q_is_fit_list : CalD l.prog w K mg base (tb w K C) "is_fit_list" 1 ["things"] [] 1 0 [.p 0] [] D_is_fit_list := ⟨f_is_fit_list, _, [], [], ok_is_fit_list_, PySem.W.mg_of X G a_is_fit_list, k_is_fit_list, kb_mk (dV := []) (ds := []) .nil (fun s us ws KX h1 h2 => by obtain ⟨u0, rfl⟩ := ln1 h1; obtain rfl := ln0 h2; exact .of_eq rfl), fun W hW => rfl⟩
  have ok_is_pair_ := ok_is_pair (P := l.prog) (w := w) (mg := mg) (base := base) (C := C) F_is_pair N_isinstance N_len N_tuple
  have Q_is_pair : CalD l.prog w K mg base (tb w K C) "is_pair" 1 ["thing"] [] 1 0 [.p 0] [] D_is_pair := ⟨f_is_pair, _, [], [], ok_is_pair_, PySem.W.mg_of X G a_is_pair, k_is_pair, kb_mk (dV := []) (ds := []) .nil (fun s us ws KX h1 h2 => by obtain ⟨u0, rfl⟩ := ln1 h1; obtain rfl := ln0 h2; exact .of_eq rfl), fun W hW => rfl⟩
  have ok_is_number_ := ok_is_number (P := l.prog) (w := w) (mg := mg) (base := base) (C := C) F_is_number C_FARTHEST Q_is_within
  have Q_is_number : CalD l.prog w K mg base (tb w K C) "is_number" 3 ["thing"] [] 1 0 [.p 0] [] D_is_number := ⟨f_is_number, _, [], [], ok_is_number_, PySem.W.mg_of X G a_is_number, k_is_number, kb_mk (dV := []) (ds := []) .nil (fun s us ws KX h1 h2 => by obtain ⟨u0, rfl⟩ := ln1 h1; obtain rfl := ln0 h2; exact .of_eq rfl), fun W hW => rfl⟩
  have ok_is_number_pair_ := ok_is_number_pair (P := l.prog) (w := w) (mg := mg) (base := base) (C := C) F_is_number_pair Q_is_number Q_is_pair
  have Q_is_number_pair : CalD l.prog w K mg base (tb w K C) "is_number_pair" 4 ["thing"] [] 1 0 [.p 0] [] D_is_number_pair := ⟨f_is_number_pair, _, [], [], ok_is_number_pair_, PySem.W.mg_of X G a_is_number_pair, k_is_number_pair, kb_mk (dV := []) (ds := []) .nil (fun s us ws KX h1 h2 => by obtain ⟨u0, rfl⟩ := ln1 h1; obtain rfl := ln0 h2; exact .of_eq rfl), fun W hW => rfl⟩
  have ok_is_span_ := ok_is_span (P := l.prog) (w := w) (mg := mg) (base := base) (C := C) F_is_span Q_is_number_pair
  have Q_is_span : CalD l.prog w K mg base (tb w K C) "is_span" 5 ["thing"] [] 1 0 [.p 0] [] D_is_span := ⟨f_is_span, _, [], [], ok_is_span_, PySem.W.mg_of X G a_is_span, k_is_span, kb_mk (dV := []) (ds := []) .nil (fun s us ws KX h1 h2 => by obtain ⟨u0, rfl⟩ := ln1 h1; obtain rfl := ln0 h2; exact .of_eq rfl), fun W hW => rfl⟩
  have ok_check_spans_ := ok_check_spans (P := l.prog) (w := w) (mg := mg) (base := base) (C := C) F_check_spans X_BadWorths Q_is_fit_list Q_is_span N_all N_len
  have Q_check_spans : CalD l.prog w K mg base (tb w K C) "check_spans" 6 ["spans", "least"] [] 2 0 [.p 0, .p 1] [] D_check_spans := ⟨f_check_spans, _, [], [], ok_check_spans_, PySem.W.mg_of X G a_check_spans, k_check_spans, kb_mk (dV := []) (ds := []) .nil (fun s us ws KX h1 h2 => by obtain ⟨u0, u1, rfl⟩ := ln2 h1; obtain rfl := ln0 h2; exact .of_eq rfl), fun W hW => rfl⟩
  have ok_many_with_ := ok_many_with (P := l.prog) (w := w) (mg := mg) (base := base) (C := C) F_many_with N_len
  have Q_many_with : CalD l.prog w K mg base (tb w K C) "many_with" 1 ["spans", "point"] [] 2 0 [.p 0, .p 1] [] D_many_with := ⟨f_many_with, _, [], [], ok_many_with_, PySem.W.mg_of X G a_many_with, k_many_with, kb_mk (dV := []) (ds := []) .nil (fun s us ws KX h1 h2 => by obtain ⟨u0, u1, rfl⟩ := ln2 h1; obtain rfl := ln0 h2; exact .of_eq rfl), fun W hW => rfl⟩
  have ok_fused_ := ok_fused (P := l.prog) (w := w) (mg := mg) (base := base) (C := C) F_fused Q_check_few Q_check_spans Q_many_with N_len N_max N_min
  have Q_fused_1_few : CalD l.prog w K mg base (tb w K C) "fused" 7 ["spans", "few"] ["few"] 1 1 [.p 0, .k 0] [] D_fused := ⟨f_fused, _, [], [], ok_fused_, PySem.W.mg_of X G a_fused, k_fused, kb_mk (dV := []) (ds := []) .nil (fun s us ws KX h1 h2 => by obtain ⟨u0, rfl⟩ := ln1 h1; obtain ⟨w0, rfl⟩ := ln1 h2; exact .of_eq rfl), fun W hW => rfl⟩
  have ok_have_common_ := ok_have_common (P := l.prog) (w := w) (mg := mg) (base := base) (C := C) F_have_common 
  have Q_have_common : CalD l.prog w K mg base (tb w K C) "have_common" 1 ["span", "other"] [] 2 0 [.p 0, .p 1] [] D_have_common := ⟨f_have_common, _, [], [], ok_have_common_, PySem.W.mg_of X G a_have_common, k_have_common, kb_mk (dV := []) (ds := []) .nil (fun s us ws KX h1 h2 => by obtain ⟨u0, u1, rfl⟩ := ln2 h1; obtain rfl := ln0 h2; exact .of_eq rfl), fun W hW => rfl⟩
  have ok_sensors_off_ := ok_sensors_off (P := l.prog) (w := w) (mg := mg) (base := base) (C := C) F_sensors_off Q_have_common N_enumerate
  have Q_sensors_off : CalD l.prog w K mg base (tb w K C) "sensors_off" 2 ["spans", "place"] [] 2 0 [.p 0, .p 1] [] D_sensors_off := ⟨f_sensors_off, _, [], [], ok_sensors_off_, PySem.W.mg_of X G a_sensors_off, k_sensors_off, kb_mk (dV := []) (ds := []) .nil (fun s us ws KX h1 h2 => by obtain ⟨u0, u1, rfl⟩ := ln2 h1; obtain rfl := ln0 h2; exact .of_eq rfl), fun W hW => rfl⟩
  have ok_shown_false_ := ok_shown_false (P := l.prog) (w := w) (mg := mg) (base := base) (C := C) F_shown_false Q_fused_1_few Q_sensors_off
  have Q_shown_false_1_few : CalD l.prog w K mg base (tb w K C) "shown_false" 8 ["spans", "few"] ["few"] 1 1 [.p 0, .k 0] [] D_shown_false := ⟨f_shown_false, _, [], [], ok_shown_false_, PySem.W.mg_of X G a_shown_false, k_shown_false, kb_mk (dV := []) (ds := []) .nil (fun s us ws KX h1 h2 => by obtain ⟨u0, rfl⟩ := ln1 h1; obtain ⟨w0, rfl⟩ := ln1 h2; exact .of_eq rfl), fun W hW => rfl⟩
  have ok_Track_narrowed_ := ok_Track_narrowed (P := l.prog) (w := w) (mg := mg) (base := base) (C := C) F_Track_narrowed X_BadWorths nf_Track_last_place Q_have_common Q_Track_wider N_max N_min cl_Track
  have Q_Track_narrowed : MetD l.prog w K mg base (tb w K C) 10 "narrowed" 2 ["self", "beat", "place"] [] 3 0 [.p 0, .p 1, .p 2] [] D_Track_narrowed := ⟨f_Track_narrowed, _, [], [], ok_Track_narrowed_, ⟨a_Track_narrowed, i_Track_narrowed, k_Track_narrowed⟩, cl_Track, kb_mk (dV := []) (ds := []) .nil (fun s us ws KX h1 h2 => by obtain ⟨u0, u1, u2, rfl⟩ := ln3 h1; obtain rfl := ln0 h2; exact .of_eq rfl), fun W hW => rfl⟩
  have ok_Track_see_ := ok_Track_see (P := l.prog) (w := w) (mg := mg) (base := base) (C := C) F_Track_see C_LAST_BEAT X_BadWorths nf_Track_caught nf_Track_few nf_Track_last_beat nf_Track_last_place Q_check_within Q_fused_1_few Q_sensors_off Q_Track_narrowed cl_Track
  have Q_Track_see : MetD l.prog w K mg base (tb w K C) 10 "see" 8 ["self", "beat", "spans"] [] 3 0 [.p 0, .p 1, .p 2] [] D_Track_see := ⟨f_Track_see, _, [], [], ok_Track_see_, ⟨a_Track_see, i_Track_see, k_Track_see⟩, cl_Track, kb_mk (dV := []) (ds := []) .nil (fun s us ws KX h1 h2 => by obtain ⟨u0, u1, u2, rfl⟩ := ln3 h1; obtain rfl := ln0 h2; exact .of_eq rfl), fun W hW => rfl⟩
  have ok_Track_liars_found_ := ok_Track_liars_found (P := l.prog) (w := w) (mg := mg) (base := base) (C := C) F_Track_liars_found nf_Track_caught N_sorted cl_Track
  have Q_Track_liars_found : MetD l.prog w K mg base (tb w K C) 10 "liars_found" 1 ["self"] [] 1 0 [.p 0] [] D_Track_liars_found := ⟨f_Track_liars_found, _, [], [], ok_Track_liars_found_, ⟨a_Track_liars_found, i_Track_liars_found, k_Track_liars_found⟩, cl_Track, kb_mk (dV := []) (ds := []) .nil (fun s us ws KX h1 h2 => by obtain ⟨u0, rfl⟩ := ln1 h1; obtain rfl := ln0 h2; exact .of_eq rfl), fun W hW => rfl⟩
  have ok_Track_liars_found__v_ := ok_Track_liars_found__v (P := l.prog) (w := w) (mg := mg) (base := base) (C := C) F_Track_liars_found__v nf_Track_caught N_sorted cl_Track
  have Q_Track_liars_found__v : MetD l.prog w K mg base (tb w K C) 10 "liars_found" 1 ["self"] [] 1 0 [.p 0] [] D_Track_liars_found__v := ⟨f_Track_liars_found__v, _, [], [], ok_Track_liars_found__v_, ⟨a_Track_liars_found__v, i_Track_liars_found__v, k_Track_liars_found__v⟩, cl_Track, kb_mk (dV := []) (ds := []) .nil (fun s us ws KX h1 h2 => by obtain ⟨u0, rfl⟩ := ln1 h1; obtain rfl := ln0 h2; exact .of_eq rfl), fun W hW => rfl⟩
  exact law_sp (C := C) (ok_law F_law Q__law_draw Q__law_liars Q__law_pick Q__law_span Q__law_town Q_fused_1_few Q_shown_false_1_few Q_Track_guess Q_Track_liars_found Q_Track_liars_found__v Q_Track_see Q_Track___init___1_few_speed N_isinstance N_max N_min N_range N_set N_sorted N_tuple)
theorem walk {l : PySem.W.OpenLaw} {q : Program} {loose : List Str} {XP : (Str → Option Value) → Heap → Prop} {YP : World → Heap → Prop} {d : DefRec} {K : Params → PySem.W.Frag} (hn : l.most = some 63) (hdf : d.params.defaults = [])
    (hY : ∀ (w : World) (h : Heap), YP w h → (K w.params).In h)
    (F : ∀ (w : World) (mg : Str → Option Value) (fa : Addr) (h : Heap), (K w.params).In h → h.Ns mainGlobals mg → mg d.name = some (.ref fa) →
      ∃ fd : FuncData, (∀ (s : Shared) (u : Value), BindsTo s fd ⟨[u], []⟩ [("_law_script", u)]) ∧ ∀ base : Heap, (K w.params).In base → base.Ns mainGlobals mg → FnOk l.prog w (K w.params) mg base CX0 9 fa fd ["_law_script"] (sp_law (K w.params))) :
    PySem.W.WalkO q loose XP YP l.row.toRowW d [] (fun f vs => PySem.call f vs) :=
  L2.walk_of (n := 63) (k := 9) (x := "_law_script") (CX := fun _ => CX0) (sp := fun w => sp_law (K w.params)) hn (by decide) hdf ⟨rfl, by decide, by decide⟩ hY F (fun _ _ a ns hl _ hS => ⟨a, ns, rfl, hS, hl, fun _ => rfl⟩) fun _ _ _ _ _ z => z
theorem walk_x {q : Program} {loose : List Str} {XP : (Str → Option Value) → Heap → Prop} {K : Params → PySem.W.Frag} {as : List Addr} {n t : Nat} {r : PySem.W.RowW} {d : DefRec} {kwd : List (Str × Expr)} {run : Value → List Value → Sem Value} (e : ∀ P : Params, as = (K P).map fun p => p.1)
    (h : PySem.W.WalkO q loose XP (fun w h => (K w.params).In h) r d kwd run) : PySem.W.WalkX q loose XP (PySem.W.X.obsZ as) (PySem.W.X.valZ K n t) r d kwd run :=
  fun w s₀ s₁ mg mb G y a o pm cd doc dV kV ho hd hc hD hm hg args vals as' L hpre hlay hrd hwl hlo => h w s₀ s₁ mg mb G (fun a o q => L.keeps a o ((PySem.W.X.z_facts e y).2.1 a o q)) a o pm cd doc dV kV ho hd hc hD hm hg args vals as' hpre hlay hrd hwl hlo
end My
open PySem PySem.W PyProof.Rows
set_option maxRecDepth 100000 in
set_option maxHeartbeats 0 in
theorem PySem.Challenge.cw_liarclocks_k39_whole_tracks_holds : PySem.Challenge.rw_liarclocks_k39_whole_tracks.Holds := by
  w_on; o_law; refine PySem.W.holds_openX (q := MH.wr.view_516) (loose := []) (Xt := fun s => PySem.W.xlAt MH.wr.view_516 [] s && PySem.W.recOk (PySem.W.RowW.records (PySem.W.OpenRow.toRowW (PySem.W.OpenLaw.row PySem.Challenge.rw_liarclocks_k39_whole_tracks))) s) (XP := PySem.W.XL MH.wr.view_516 []) (Yf := PySem.W.X.obsZ MH.as0) (Ya := PySem.W.X.valZ MH.wr.heap_261 264 526) MH.le_ok (fun s e => PySem.W.xl_of s (Bool.and_eq_true_iff.mp e).1) PySem.W.XL.keeps (by rfl) (by rfl) (by rfl) (fun s e => PySem.W.recFacts_of (Bool.and_eq_true_iff.mp e).2) (by rfl) (by first | assumption | decide +kernel) (by decide +kernel) ⟨rfl, rfl, rfl, rfl, rfl, by decide +kernel⟩ ?hw ?hc; (case hw => w_witness2)
  k_fill
  refine My.walk_x MH.as_eq (My.walk (l := PySem.Challenge.rw_liarclocks_k39_whole_tracks) rfl rfl (fun w h Y => Y) ?F)
  case F =>
    intro w mg fa h KX G hmg
    refine' My.all_mk KX G hmg ?a_Track ?o_Track_pg ?o_Track_hd ?o_Track_po ?o_Track_sa ?o_Track_mk ?o_Track_kp ?o_Track_n_caught ?o_Track_n_few ?o_Track_n_last_beat ?o_Track_n_last_place ?o_Track_n_speed ?a__law_town ?l__law_town ?c__law_town ?k__law_town ?a__law_draw ?l__law_draw ?c__law_draw ?k__law_draw ?a__law_pick ?l__law_pick ?c__law_pick ?k__law_pick ?a__law_liars ?l__law_liars ?c__law_liars ?k__law_liars ?a_is_whole ?l_is_whole ?c_is_whole ?k_is_whole ?a_is_within ?l_is_within ?c_is_within ?k_is_within ?a_check_within ?l_check_within ?c_check_within ?k_check_within ?a_check_few ?l_check_few ?c_check_few ?k_check_few ?a_Track___init__ ?i_Track___init__ ?l_Track___init__ ?c_Track___init__ ?k_Track___init__ ?a_Track_wider ?i_Track_wider ?l_Track_wider ?c_Track_wider ?k_Track_wider ?a_Track_guess ?i_Track_guess ?l_Track_guess ?c_Track_guess ?k_Track_guess ?a__law_number ?l__law_number ?c__law_number ?k__law_number ?a__law_span ?l__law_span ?c__law_span ?k__law_span ?a_is_fit_list ?l_is_fit_list ?c_is_fit_list ?k_is_fit_list ?a_is_pair ?l_is_pair ?c_is_pair ?k_is_pair ?a_is_number ?l_is_number ?c_is_number ?k_is_number ?a_is_number_pair ?l_is_number_pair ?c_is_number_pair ?k_is_number_pair ?a_is_span ?l_is_span ?c_is_span ?k_is_span ?a_check_spans ?l_check_spans ?c_check_spans ?k_check_spans ?a_many_with ?l_many_with ?c_many_with ?k_many_with ?a_fused ?l_fused ?c_fused ?k_fused ?a_have_common ?l_have_common ?c_have_common ?k_have_common ?a_sensors_off ?l_sensors_off ?c_sensors_off ?k_sensors_off ?a_shown_false ?l_shown_false ?c_shown_false ?k_shown_false ?a_Track_narrowed ?i_Track_narrowed ?l_Track_narrowed ?c_Track_narrowed ?k_Track_narrowed ?a_Track_see ?i_Track_see ?l_Track_see ?c_Track_see ?k_Track_see ?a_Track_liars_found ?i_Track_liars_found ?l_Track_liars_found ?c_Track_liars_found ?k_Track_liars_found ?a_Track_liars_found__v ?i_Track_liars_found__v ?l_Track_liars_found__v ?c_Track_liars_found__v ?k_Track_liars_found__v ?a_law ?l_law ?c_law ?k_law ?n_FARTHEST ?n_LAST_BEAT ?n_MOST_FEW ?n_MOST_SPEED ?n_MOST_WORTHS ?a_BadNumber ?a_BadWorths ?a_NotNow ?a_LiarError ?e_BadNumber ?e_BadWorths ?e_NotNow ?z_all ?z_bool ?z_enumerate ?z_int ?z_isinstance ?z_len ?z_list ?z_max ?z_min ?z_range ?z_set ?z_sorted ?z_tuple
    (case a_Track => k_is)
    (case o_Track_pg => k_is)
    (case o_Track_hd => k_is)
    (case o_Track_po => k_is)
    (case o_Track_sa => k_is)
    (case o_Track_mk => k_is)
    (case o_Track_kp => k_is)
    (case o_Track_n_caught => k_is)
    (case o_Track_n_few => k_is)
    (case o_Track_n_last_beat => k_is)
    (case o_Track_n_last_place => k_is)
    (case o_Track_n_speed => k_is)
    (case a__law_town => k_is)
    (case l__law_town => k_is)
    (case c__law_town => k_is)
    (case k__law_town => k_is)
    (case a__law_draw => k_is)
    (case l__law_draw => k_is)
    (case c__law_draw => k_is)
    (case k__law_draw => k_is)
    (case a__law_pick => k_is)
    (case l__law_pick => k_is)
    (case c__law_pick => k_is)
    (case k__law_pick => k_is)
    (case a__law_liars => k_is)
    (case l__law_liars => k_is)
    (case c__law_liars => k_is)
    (case k__law_liars => k_is)
    (case a_is_whole => k_is)
    (case l_is_whole => k_is)
    (case c_is_whole => k_is)
    (case k_is_whole => k_is)
    (case a_is_within => k_is)
    (case l_is_within => k_is)
    (case c_is_within => k_is)
    (case k_is_within => k_is)
    (case a_check_within => k_is)
    (case l_check_within => k_is)
    (case c_check_within => k_is)
    (case k_check_within => k_is)
    (case a_check_few => k_is)
    (case l_check_few => k_is)
    (case c_check_few => k_is)
    (case k_check_few => k_is)
    (case a_Track___init__ => k_is)
    (case i_Track___init__ => k_is)
    (case l_Track___init__ => k_is)
    (case c_Track___init__ => k_is)
    (case k_Track___init__ => k_is)
    (case a_Track_wider => k_is)
    (case i_Track_wider => k_is)
    (case l_Track_wider => k_is)
    (case c_Track_wider => k_is)
    (case k_Track_wider => k_is)
    (case a_Track_guess => k_is)
    (case i_Track_guess => k_is)
    (case l_Track_guess => k_is)
    (case c_Track_guess => k_is)
    (case k_Track_guess => k_is)
    (case a__law_number => k_is)
    (case l__law_number => k_is)
    (case c__law_number => k_is)
    (case k__law_number => k_is)
    (case a__law_span => k_is)
    (case l__law_span => k_is)
    (case c__law_span => k_is)
    (case k__law_span => k_is)
    (case a_is_fit_list => k_is)
    (case l_is_fit_list => k_is)
    (case c_is_fit_list => k_is)
    (case k_is_fit_list => k_is)
    (case a_is_pair => k_is)
    (case l_is_pair => k_is)
    (case c_is_pair => k_is)
    (case k_is_pair => k_is)
    (case a_is_number => k_is)
    (case l_is_number => k_is)
    (case c_is_number => k_is)
    (case k_is_number => k_is)
    (case a_is_number_pair => k_is)
    (case l_is_number_pair => k_is)
    (case c_is_number_pair => k_is)
    (case k_is_number_pair => k_is)
    (case a_is_span => k_is)
    (case l_is_span => k_is)
    (case c_is_span => k_is)
    (case k_is_span => k_is)
    (case a_check_spans => k_is)
    (case l_check_spans => k_is)
    (case c_check_spans => k_is)
    (case k_check_spans => k_is)
    (case a_many_with => k_is)
    (case l_many_with => k_is)
    (case c_many_with => k_is)
    (case k_many_with => k_is)
    (case a_fused => k_is)
    (case l_fused => k_is)
    (case c_fused => k_is)
    (case k_fused => k_is)
    (case a_have_common => k_is)
    (case l_have_common => k_is)
    (case c_have_common => k_is)
    (case k_have_common => k_is)
    (case a_sensors_off => k_is)
    (case l_sensors_off => k_is)
    (case c_sensors_off => k_is)
    (case k_sensors_off => k_is)
    (case a_shown_false => k_is)
    (case l_shown_false => k_is)
    (case c_shown_false => k_is)
    (case k_shown_false => k_is)
    (case a_Track_narrowed => k_is)
    (case i_Track_narrowed => k_is)
    (case l_Track_narrowed => k_is)
    (case c_Track_narrowed => k_is)
    (case k_Track_narrowed => k_is)
    (case a_Track_see => k_is)
    (case i_Track_see => k_is)
    (case l_Track_see => k_is)
    (case c_Track_see => k_is)
    (case k_Track_see => k_is)
    (case a_Track_liars_found => k_is)
    (case i_Track_liars_found => k_is)
    (case l_Track_liars_found => k_is)
    (case c_Track_liars_found => k_is)
    (case k_Track_liars_found => k_is)
    (case a_Track_liars_found__v => k_is)
    (case i_Track_liars_found__v => k_is)
    (case l_Track_liars_found__v => k_is)
    (case c_Track_liars_found__v => k_is)
    (case k_Track_liars_found__v => k_is)
    (case a_law => k_is)
    (case l_law => k_is)
    (case c_law => k_is)
    (case k_law => k_is)
    (case n_FARTHEST => k_is)
    (case n_LAST_BEAT => k_is)
    (case n_MOST_FEW => k_is)
    (case n_MOST_SPEED => k_is)
    (case n_MOST_WORTHS => k_is)
    (case a_BadNumber => k_is)
    (case a_BadWorths => k_is)
    (case a_NotNow => k_is)
    (case a_LiarError => k_is)
    (case e_BadNumber => k_exc)
    (case e_BadWorths => k_exc)
    (case e_NotNow => k_exc)
    (case z_all => k_is)
    (case z_bool => k_is)
    (case z_enumerate => k_is)
    (case z_int => k_is)
    (case z_isinstance => k_is)
    (case z_len => k_is)
    (case z_list => k_is)
    (case z_max => k_is)
    (case z_min => k_is)
    (case z_range => k_is)
    (case z_set => k_is)
    (case z_sorted => k_is)
    (case z_tuple => k_is)
