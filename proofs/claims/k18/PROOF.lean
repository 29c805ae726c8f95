import PyProof.Rows.All
import Wide.All
import OpenK.AllK
import Wide.FinOn
import Lean
import PyProof.EqAt
import PyProof.EqKinds
import PyProof.TupleCall
import PySem.Challenge.RW_liarclocks_k18_whole_joined
set_option Elab.async false
set_option linter.all false
set_option maxRecDepth 100000
set_option maxHeartbeats 4000000
namespace MH
open PySem PySem.W
def goT (tb : String → Option Builtin) (p : Program) (w : World) (n₀ : Nat) (ann : Option Value) : Nat → SharedT → Thread → Option SharedT
  | 0, _, _ => none
  | m + 1, s, th => match through th with
    | true => some s
    | false => match stepOk n₀ ann th with
      | false => none
      | true => match stepT (denote tb) p w s th with
        | some (s', th') => goT tb p w n₀ ann m s' th'
        | none => none
theorem goT_run {tb : String → Option Builtin} {p : Program} {w : World} {n₀ : Nat} {ann : Option Value} {m : Nat} : ∀ {s r : SharedT} {th : Thread}, goT tb p w n₀ ann m s th = some r → topRun tb p w n₀ ann m s.abs th = some r.abs := by
  induction m with
  | zero => intro s r th h; cases h
  | succ m ih =>
    intro s r th h
    unfold goT at h
    unfold topRun
    cases he : through th with
    | true => rw [he] at h; cases h; rfl
    | false =>
      rw [he] at h
      cases hk : stepOk n₀ ann th with
      | false => rw [hk] at h; cases h
      | true =>
        rw [hk] at h
        cases hs : stepT (denote tb) p w s th with
        | none => rw [hs] at h; cases h
        | some x => obtain ⟨s₂, t₂⟩ := x; rw [hs] at h; dsimp only; rw [stepT_spec hs]; exact ih h
def toTree (l : List Obj) : BT × Nat := l.foldl (fun t o => (t.1.ins t.2 o, t.2 + 1)) (.nil, 0)
def begin0 (h : Heap) (d : Drawn) (k : Nat) (os : OsState) : SharedT := ⟨(toTree h.objs.toList).1, h.objs.toList.length, h.life, #[], d, k, os⟩
def seenBy (p q : Program) (loose : List Str) (lv : List (Str × WData)) (R : WRecords) (as : List Addr) (h₀ : Heap) (s : Shared) :=
  ((staticsOk (importedModules p.main.body) h₀ s.heap && namesBound p s.heap && gensDone s && laidKept h₀ s.heap), openSeen q loose (importedModules p.main.body) (fun s => xlAt q lv s && recOk R s) true s, PySem.W.X.obsZ as s)
def E (p q : Program) (loose : List Str) (lv : List (Str × WData)) (R : WRecords) (as : List Addr) (m₀ : Nat) (ann : Option Value) (M : Nat) (h₀ : Heap) (d : Drawn) (k : Nat) (w : World) (os : OsState) :=
  (goT treeTable p w m₀ ann M (begin0 h₀ d k os) (topStub p)).map fun s => seenBy p q loose lv R as h₀ s.abs
def sz (h : Heap) : Bool × Nat × Option Value := (h.isNs mainGlobals && (#[] : Array GenState).size == 0, h.objs.size, h.nsMap mainGlobals "__annotations__")
theorem le_add {M N : Nat} (le : Nat.ble M N = true) : M + (N - M) = N := Nat.add_sub_cancel' (Nat.le_of_ble_eq_true le)
theorem left {p q p' q' : Program} {loose loose' : List Str} {lv : List (Str × WData)} {R : WRecords} {as : List Addr} {N m₀ M : Nat} {ann : Option Value} {Ya : World → List (Option Obj) × Nat × Nat} {E2 : _} {sz2 : _} (hE : @E = E2) (hS : @sz = sz2) (hp : p = p') (hq : q = q') (hl : loose = loose')
    (o1 : opening p = plainProg p.main.scope.names) (hN : Nat.ble 600 N = true) (o2 : ∀ s, fenceModules? p s = some s) (habs : ∀ (P : Params) d k os, (begin0 (boot_heap P) d k os).abs = ⟨boot_heap P, #[], d, k, os⟩)
    (size : ∀ P : Params, sz2 (boot_heap P) = (true, m₀, ann)) (le : Nat.ble M N = true)
    (run : ∀ (w : World) (os : OsState), E2 p' q' loose' lv R as m₀ ann M (boot_heap w.params) boot_drawn boot_toks w os = some (true, openGood q' loose', Ya w)) :
    LeftO p q loose (fun s => xlAt q lv s && recOk R s) (PySem.W.X.obsZ as) Ya N := fun w => by
  subst hE hS hp hq hl
  obtain ⟨⟨h, gs, d, k, os⟩, e, e'⟩ := Option.map_eq_some_iff.mp (boot_open o1 hN o2 w)
  obtain ⟨rfl, rfl, rfl, rfl⟩ : h = boot_heap w.params ∧ gs = #[] ∧ d = boot_drawn ∧ k = boot_toks := by simpa using e'
  obtain ⟨z1, z2, z3⟩ : _ ∧ _ ∧ _ := by simpa only [sz, Prod.mk.injEq] using size w.params
  obtain ⟨s₁, r, l⟩ := Option.map_eq_some_iff.mp (run w os)
  obtain ⟨l1, l2, l3⟩ : _ ∧ _ ∧ _ := by simpa only [seenBy, Prod.mk.injEq] using l
  have r := goT_run r
  rw [habs] at r
  have r := topRun_mono (N - M) _ _ _ _ r
  rw [le_add le] at r
  have t : topFrom treeTable p w N ⟨boot_heap w.params, #[], boot_drawn, boot_toks, os⟩ = some s₁.abs := by
    unfold topFrom
    dsimp only
    rw [z1, z2, z3, r]
    show (match staticsOk (importedModules p.main.body) (boot_heap w.params) s₁.abs.heap && namesBound p s₁.abs.heap && gensDone s₁.abs && laidKept (boot_heap w.params) s₁.abs.heap with | true => _ | false => _) = _
    rw [l1]
  unfold openEnds
  rw [e]
  show (topFrom treeTable p w N _).map _ = _
  rw [t]
  show some (_, _) = _
  rw [l2, l3]
theorem hide {α : Sort _} {a b : α} (h : a = b) : a = b := h
theorem two {P : World → Prop} (row : String) (hf : ∀ w : World, P (w.withFollow row false)) (ht : ∀ w : World, P (w.withFollow row true)) (w : World) : P w := byRow2 row hf ht w
theorem begin_abs (P : Params) (d : Drawn) (k : Nat) (os : OsState) : (begin0 (boot_heap P) d k os).abs = ⟨boot_heap P, #[], d, k, os⟩ := by kernel_rfl
end MH
lay_quick MH.E MH.sz PySem.Challenge.pw_liarclocks_k18_whole_joined
section
open PySem PySem.W PySem.W.X PySem.W.ZRun
local macro_rules
  | `(tactic| refine $f $args*) => do
    let is (a : Lean.Syntax) (n : Lean.Name) : Bool := a.isOfKind `Lean.Parser.Term.syntheticHole && a[1].getId.eraseMacroScopes == n
    unless args.any (fun a => is a.raw `hl) do Lean.Macro.throwUnsupported
    let as : Array Lean.Syntax := args.map fun a => if is a.raw `hl then (Lean.mkIdent `hl).raw else if is a.raw `hc then (Lean.mkIdent `hc).raw else a.raw
    let t : Lean.TSyntax `term := ⟨Lean.mkNode `Lean.Parser.Term.app #[f.raw, Lean.mkNullNode as]⟩
    `(tactic| refine $t)
set_option maxHeartbeats 0 in
/-- only to have the kit write out the kept heap and the view; it is used nowhere -/
theorem MH.wr (hl : ∀ {q : Program} {loose : List Str} {Xt : Shared → Bool} {Yf : Shared → List (Option Obj) × Nat × Nat} {Ya : World → List (Option Obj) × Nat × Nat} {N : Nat}, LeftO PySem.Challenge.pw_liarclocks_k18_whole_joined q loose Xt Yf Ya N) (hc : ∀ {q : Program} {loose : List Str} {XP : (Str → Option Value) → Heap → Prop} {Yf : Shared → List (Option Obj) × Nat × Nat} {Ya : World → List (Option Obj) × Nat × Nat} {r : RowW} {d : DefRec} {kwd : List (Str × Expr)} {run : Value → List Value → Sem Value}, WalkX q loose XP Yf Ya r d kwd run) : PySem.Challenge.rw_liarclocks_k18_whole_joined.Holds := by
  w_on; o_law; z_head; (case hw => w_witness2)
end
namespace MH
open PySem PySem.W
noncomputable def as0 : List Addr := [0, 1, 2, 3, 4, 5, 6, 7, 8, 9, 10, 11, 12, 13, 14, 15, 16, 17, 18, 19, 20, 21, 22, 29, 30, 31, 32, 35, 42, 43, 44, 47, 54, 55, 56, 59, 66, 67, 68, 71, 78, 79, 80, 81, 82, 83, 84, 85, 86, 87, 90, 97, 98, 99, 102, 103, 104, 105, 106, 107, 108, 109, 110, 111, 112, 113, 114, 115, 116, 117, 118, 119, 120, 121, 122, 123, 124, 125, 126, 127, 128, 129, 130, 131, 132, 133, 134, 135, 136, 137, 138, 139, 140, 141, 142, 143, 144, 145, 146, 147, 148, 149, 150, 151, 152, 153, 154, 155, 156, 157, 158, 159, 160, 161, 162, 163, 164, 165, 166, 167, 168, 169, 170, 171, 172, 173, 174, 175, 176, 177, 178, 179, 180, 181, 182, 183, 184, 185, 186, 187, 188, 196, 197, 198, 199, 200, 201, 202, 203, 204, 205, 206, 207, 208, 209, 210, 211, 212, 213, 214, 215, 216, 217, 218, 219, 220, 221, 222, 223, 224, 225, 226, 227, 228, 229, 230, 231, 232, 233, 234, 235, 236, 237, 238, 239, 240, 241, 242, 243, 244, 245, 246, 247, 248, 249, 250, 253, 254, 255, 256, 257, 258, 259, 260, 261, 262, 263, 264, 265, 266, 267, 268, 269, 270, 271, 272, 273, 274, 275, 276, 277, 278, 279, 280, 281, 282, 283, 284, 285, 286, 287, 288, 289, 290, 291, 292, 293, 294, 295, 296, 297, 298, 299, 300, 301, 302, 310, 311, 312, 313, 314, 315, 316, 317, 318, 319, 320, 321, 322, 323, 324, 325, 326, 327, 328, 329, 330, 331, 332, 333, 334, 335, 336, 337, 338, 339, 340, 341, 342, 343, 344, 345, 346, 347, 348, 349, 350, 351, 352, 353, 354, 355, 356, 357, 358, 359, 360, 361, 362, 363, 364, 365, 366, 367, 368, 369, 370, 371, 372, 373, 374, 375, 376, 377, 378, 379, 380, 381, 382, 383, 384, 385, 386, 387, 388, 389, 390, 391, 392, 393, 394, 395, 396, 397, 398, 401, 402, 403, 404, 405, 406, 407, 408, 409, 410, 411, 412, 413, 414, 415, 416, 417, 418, 419, 420, 421, 422, 423, 424, 425, 426, 427, 428, 429, 430, 431, 432, 433, 434, 435, 436, 437, 438, 439, 440, 441, 442, 443, 444, 445, 446, 447, 448, 449, 450, 451, 452, 453, 454, 455, 456, 457, 458, 459, 460, 461, 462, 463, 464, 465, 466, 467, 468, 469, 470, 471, 472, 473, 474, 475, 476, 477, 478, 479, 480, 481, 482, 483, 484, 485, 486, 487, 488, 489, 490]
noncomputable def q0 : Program := PySem.W.view PySem.W.Fast.tw1127520771288782532 [0,2,3,4,5,6,7,9,10,11,12,13,14,15,16,17,18,19,20,21,22,23,24,25,27,28,29,31,32,34,35,37,38,39,40,41,42,44,45,46,47,48,49,50,51,52,53,54,55,56,57]
noncomputable def lo0 : List Str := [⟨⟨[67, 108, 111, 99, 107]⟩⟩, ⟨⟨[67, 111, 109, 112, 97, 110, 121]⟩⟩]
def Ok (w : World) : Prop := ∀ os : OsState, PySem.W.Fast.tw6129207837983636007 PySem.W.Fast.tw1127520771288782532 q0 lo0 [] (PySem.W.RowW.records (PySem.W.OpenRow.toRowW (PySem.W.OpenLaw.row PySem.Challenge.rw_liarclocks_k18_whole_joined))) as0 11 (some (PySem.Value.ref 6)) 7188 (boot_heap w.params) boot_drawn boot_toks w os = some (true, openGood q0 lo0, PySem.W.X.valZ MH.wr.heap_463 491 835 w)
theorem ok (w : World) : Ok w := fun os => by kernel_rfl
theorem q_eq : MH.wr.view_945 = q0 := Eq.trans (b := PySem.W.view PySem.Challenge.pw_liarclocks_k18_whole_joined [0,2,3,4,5,6,7,9,10,11,12,13,14,15,16,17,18,19,20,21,22,23,24,25,27,28,29,31,32,34,35,37,38,39,40,41,42,44,45,46,47,48,49,50,51,52,53,54,55,56,57]) (by kernel_rfl) (congrArg (fun p => PySem.W.view p [0,2,3,4,5,6,7,9,10,11,12,13,14,15,16,17,18,19,20,21,22,23,24,25,27,28,29,31,32,34,35,37,38,39,40,41,42,44,45,46,47,48,49,50,51,52,53,54,55,56,57]) PySem.W.Fast.te1127520771288782532)
theorem lo_eq : ([PySem.Str.ofString "Clock", PySem.Str.ofString "Company"] : List Str) = lo0 := by kernel_rfl
theorem le_ok : LeftO PySem.Challenge.pw_liarclocks_k18_whole_joined MH.wr.view_945 [PySem.Str.ofString "Clock", PySem.Str.ofString "Company"] (fun s => xlAt MH.wr.view_945 [] s && recOk (PySem.W.RowW.records (PySem.W.OpenRow.toRowW (PySem.W.OpenLaw.row PySem.Challenge.rw_liarclocks_k18_whole_joined))) s) (PySem.W.X.obsZ as0) (PySem.W.X.valZ MH.wr.heap_463 491 835) 7188 :=
  left PySem.W.Fast.te6129207837983636007 PySem.W.Fast.te9778236028270751511 PySem.W.Fast.te1127520771288782532 q_eq lo_eq (by kernel_rfl) (by decide) (fun s => by kernel_rfl) begin_abs (fun P => by kernel_rfl) (by decide) ok
theorem as_eq (P : Params) : as0 = (MH.wr.heap_463 P).map fun p => p.1 := by kernel_rfl
end MH
set_option Elab.async false
set_option linter.all false
set_option maxRecDepth 100000
namespace L2
open PySem PySem.Spec PyProof.Rows

abbrev Key:=Sum Int Str
def keyIs:Key->Value->Bool
  | .inl k,v=>Value.isInt k v
  | .inr x,v=>Value.isStrOf x v
def keyH (w:World):Key->Int
  | .inl k=>hashInt k
  | .inr x=>hashStr w x
theorem yf:∀ {k:Key} {v:Value},keyIs k v=true->(∃ i t,k=Sum.inl i∧v=Value.int i t)∨(∃ x t,k=Sum.inr x∧v=Value.str x t)
  | .inl i,v,h=>by
    obtain ⟨t,e⟩:=Value.isInt_shape (k:=i) (v:=v) h
    exact .inl ⟨i,t,rfl,e⟩
  | .inr x,v,h=>by
    obtain ⟨t,e⟩:=Value.isStrOf_shape (x:=x) (v:=v) h
    exact .inr ⟨x,t,rfl,e⟩
theorem keyIs_int (i:Int) (t:Tok):keyIs (.inl i) (.int i t)=true:=by simp [keyIs,Value.isInt]
theorem keyIs_str (x:Str) (t:Tok):keyIs (.inr x) (.str x t)=true:=by simp [keyIs,Value.isStrOf]
theorem key_ll (a b:Int):decide ((Sum.inl a:Key)=Sum.inl b)=(a == b):=by
  by_cases e:a=b
  · subst e; simp
  · have h:¬ (Sum.inl a:Key)=Sum.inl b:=fun q=>e (Sum.inl.inj q)
    rw [decide_eq_false h]
    exact (beq_eq_false_iff_ne.mpr e).symm
theorem key_rr (a b:Str):decide ((Sum.inr a:Key)=Sum.inr b)=decide (a=b):=by
  by_cases e:a=b
  · subst e; simp
  · have h:¬ (Sum.inr a:Key)=Sum.inr b:=fun q=>e (Sum.inr.inj q)
    rw [decide_eq_false h,decide_eq_false e]
theorem key_lr (a:Int) (b:Str):decide ((Sum.inl a:Key)=Sum.inr b)=false:=decide_eq_false (fun q=>nomatch q)
theorem key_rl (a:Str) (b:Int):decide ((Sum.inr a:Key)=Sum.inl b)=false:=decide_eq_false (fun q=>nomatch q)

def yM (prog:Program) (w:World):PySem.KeyKind prog w Key where
  is:=keyIs
  hash:=keyH w
  inj:=fun v a b ha hb=>by
    rcases yf ha with ⟨i,t,rfl,rfl⟩ | ⟨x,t,rfl,rfl⟩
    · rcases yf hb with ⟨j,u,rfl,e⟩ | ⟨y,u,rfl,e⟩
      · injection e with e1 _; rw [e1]
      · exact nomatch e
    · rcases yf hb with ⟨j,u,rfl,e⟩ | ⟨y,u,rfl,e⟩
      · exact nomatch e
      · injection e with e1 _; rw [e1]
  byValue:=fun k v h=>by
    rcases yf h with ⟨i,t,rfl,rfl⟩ | ⟨x,t,rfl,rfl⟩ <;> rfl
  pyHash:=fun hv h=>by
    rcases yf hv with ⟨i,t,rfl,rfl⟩ | ⟨x,t,rfl,rfl⟩
    · exact wpAny_pyHash_int h
    · exact wpAny_pyHash_str h
  eqBool:=fun hu hv h=>by
    rcases yf hu with ⟨i,t,rfl,rfl⟩ | ⟨x,t,rfl,rfl⟩
    · rcases yf hv with ⟨j,u,rfl,rfl⟩ | ⟨y,u,rfl,rfl⟩
      · rw [key_ll] at h; exact wpAny_eqBool_int h
      · rw [key_lr] at h; exact SeqAt.EqAt.int_str i t y u _ _ _ _ h
    · rcases yf hv with ⟨j,u,rfl,rfl⟩ | ⟨y,u,rfl,rfl⟩
      · rw [key_rl] at h; exact SeqAt.EqAt.str_int x t j u _ _ _ _ h
      · rw [key_rr] at h; exact wpAny_eqBool_str h
  «strs»:=fun k x t v h=>by
    rcases yf h with ⟨i,u,rfl,e⟩ | ⟨y,u,rfl,e⟩
    · exact nomatch e
    · injection e with e1 _
      subst e1
      cases v <;> rfl

theorem mixKind_int (prog:Program) (w:World) (i:Int) (t:Tok):(yM prog w).is (.inl i) (.int i t)=true:=keyIs_int i t
theorem mixKind_str (prog:Program) (w:World) (x:Str) (t:Tok):(yM prog w).is (.inr x) (.str x t)=true:=keyIs_str x t
end L2

namespace L2
open PySem PySem.Spec PyProof.Rows

inductive V where
  | non | bl (b:Bool) | int (i:Int) | str (x:Str) | byt (b:Array UInt8) | flt (b:UInt64) | ref (a:Addr) | ty (n:String)
  deriving DecidableEq

def yn:V->Value->Prop
  | .non,u=>u=Value.none
  | .bl b,u=>u=Value.bool b
  | .int i,u=>∃ t,u=Value.int i t
  | .str x,u=>∃ t,u=Value.str x t
  | .byt b,u=>∃ t,u=Value.bytes b t
  | .flt b,u=>∃ t,u=Value.float b t
  | .ref a,u=>u=Value.ref a
  | .ty n,u=>u=Value.type n

abbrev ym:List V->List Value->Prop:=Paired yn
theorem ym.length {xs:List V} {us:List Value} (r:ym xs us):xs.length=us.length:=Paired.length r
theorem ym.get:∀ {xs:List V} {us:List Value} {i:Nat} {x:V},ym xs us->xs[i]? = some x->∃ u,us[i]? = some u∧yn x u
  | _,_,_,_,.nil,e=>by simp at e
  | _,_,0,_,.cons r _,e=>by simp at e; subst e; exact ⟨_,rfl,r⟩
  | _,_,i + 1,x,.cons _ t,e=>by
    obtain ⟨u,h1,h2⟩:=ym.get (i:=i) (x:=x) t (by simpa using e)
    exact ⟨u,by simpa using h1,h2⟩
theorem ym.set {x:V} {u:Value} (r:yn x u):∀ {xs:List V} {us:List Value} (i:Nat),ym xs us->ym (xs.set i x) (us.set i u)
  | _,_,_,.nil=>.nil
  | _,_,0,.cons _ t=>.cons r t
  | _,_,i + 1,.cons q t=>.cons q (ym.set r i t)
theorem ym.append {xs ys:List V} {us ws:List Value} (h:ym xs us) (s:ym ys ws):ym (xs ++ ys) (us ++ ws):=by
  induction h with
  | nil=>exact s
  | cons r t ih=>exact .cons r ih
theorem ym.take:∀ {xs:List V} {us:List Value} (n:Nat),ym xs us->ym (xs.take n) (us.take n)
  | _,_,0,_=>.nil
  | _,_,_ + 1,.nil=>.nil
  | _,_,n + 1,.cons r t=>.cons r (ym.take n t)
theorem ym.drop:∀ {xs:List V} {us:List Value} (n:Nat),ym xs us->ym (xs.drop n) (us.drop n)
  | _,_,0,r=>r
  | _,_,_ + 1,.nil=>.nil
  | _,_,n + 1,.cons _ t=>ym.drop n t
theorem ym.none_of:∀ {xs:List V} {us:List Value} {i:Nat},ym xs us->xs[i]? = none->us[i]? = none:=fun {xs us i} r e=>by
  have h1:=r.length
  have h2:xs.length<=i:=List.getElem?_eq_none_iff.mp e
  exact List.getElem?_eq_none_iff.mpr (by omega)

def Jm:Option V->Option Value->Prop
  | some v,some u=>yn v u
  | none,none=>True
  | _,_=>False
def KV {κ:Type}:List (κ × V)->List (κ × Value)->Prop:=Paired fun (p:κ × V) (q:κ × Value)=>p.1=q.1∧yn p.2 q.2

def kV:Key->V
  | .inl i=>.int i
  | .inr x=>.str x

inductive HO where
    | lst (xs:List V)
    | tup (xs:List V)
    | dK (kvs:List (Key × V)) | dT (kvs:List (List Key × V))
    | set (S:Int->Bool) (n:Nat)
    | ins (C dx:Addr) (fs:List (Str × V))
    | own (x:Addr)
    | xd (fs:List (Str × V))
    | met (f x:Addr)
    | rng (lo hi:Int)
    | frz (o:Obj) (u:HO)
    | tbl (ps:Array Value)
    | ext (φ:Heap->Prop)

abbrev Hp:=Addr->Option HO
def upd (H:Hp) (a:Addr) (o:HO):Hp:=fun b=>if b=a then some o else H b
theorem jv {H:Hp} {a:Addr} {o:HO}:upd H a o a=some o:=by unfold upd; rw [if_pos rfl]
theorem jn {H:Hp} {a b:Addr} {o:HO} (h:b≠a):upd H a o b=H b:=by unfold upd; rw [if_neg h]
theorem upd_upd {H:Hp} {a:Addr} {o u:HO}:upd (upd H a o) a u=upd H a u:=by
  funext b; unfold upd; split <;> rfl
theorem ne_of {H:Hp} {a b:Addr} {o u:HO} (h:H a=some o) (h':H b=some u) (d:o≠u):a≠b:=by
  intro e; subst e; rw [h] at h'; exact d (Option.some.inj h')
theorem jy {H:Hp} {a b:Addr} {o:HO} (h:H a=some o) (h':H b=none):a≠b:=by
  intro e; subst e; rw [h] at h'; cases h'

section
variable (P:Program) (w:World)
def yO (H:Hp) (h:Heap) (a:Addr):HO->Prop
  | .lst xs=>xs.length<=sizeLine∧∃ (its:List Value) (n:Nat),ym xs its∧h.get? a=some { cls:=.type "list",data:=.seq its.toArray n }
  | .tup xs=>xs.length<=sizeLine∧∃ its:List Value,ym xs its∧IsTup h a its.toArray
  | .dK kvs=>kvs.length<=sizeLine∧(a == sysModules)=false∧∃ vs,KV kvs vs∧h.DictOf (yM P w) a vs
  | .dT kvs=>kvs.length<=sizeLine∧(a == sysModules)=false∧∃ xs:List (List Key × Addr × Value),
      Paired (fun (p:List Key × V) (q:List Key × Addr × Value)=>p.1=q.1∧H q.2.1=some (.tup (p.1.map kV))∧yn p.2 q.2.2) kvs xs ∧
      ∃ o es ep,h.get? a=some o∧o.ExactDict∧o.data = .dict es ep∧es.toList=xs.map (entryOfKey (tupleKind (yM P w)))∧(xs.map (·.1)).Nodup
  | .set S n=>h.SetOf (intKind P w) a S n
  | .ins C dx fs=>H dx=some (.own a)∧fs.length<=1000∧dx≠a∧h.get? a=some (PySem.W.instObj C dx) ∧
      ∃ mA,h.Ns1 dx mA∧(∀ f,Jm (fs.lookup f) (mA f))∧PySem.Within mA (fs.map (·.1))
  | .own _=>∃ o,h.get? a=some o
  | .xd fs=>∃ mA,h.Ns1 a mA∧∀ f,Jm (fs.lookup f) (mA f)
  | .rng lo hi=>∃ t u v,h.get? a=some { cls:=.type "range",data:=.fields #[.int lo t,.int hi u,.int 1 v] }
  | .frz o u=>h.get? a=some o∧yO H h a u
  | .tbl ps=>h.get? a=some { cls:=.none,data:=.fields ps }
  | .met f x=>h.get? a=some (PySem.W.methodObj (.ref f) (.ref x))
  | .ext φ=>φ h∧(∃ o,h.get? a=some o)∧∀ h1 h2:Heap,φ h1->(∀ o,h1.get? a=some o->h2.get? a=some o)->φ h2
def HOk (H:Hp) (h:Heap):Prop:=∀ a o,H a=some o->yO P w H h a o
end

section
variable {P:Program} {w:World} {H H':Hp} {h h':Heap} {a:Addr} {o:HO}
theorem yO.lt (x:yO P w H h a o):a < h.objs.size:=by
  cases o with
  | lst xs=>obtain ⟨_,_,_,_,e⟩:=x; exact Heap.lt_size e
  | tup xs=>obtain ⟨_,_,_,p⟩:=x; exact p.lt
  | dK kvs=>obtain ⟨_,_,_,_,o,_,_,e,_⟩:=x; exact Heap.lt_size e
  | dT kvs=>obtain ⟨_,_,_,_,o,_,_,e,_⟩:=x; exact Heap.lt_size e
  | set S n=>obtain ⟨o,_,_,_,e,_⟩:=x; exact Heap.lt_size e
  | ins C dx fs=>obtain ⟨_,_,_,e,_⟩:=x; exact Heap.lt_size e
  | own y=>obtain ⟨_,e⟩:=x; exact Heap.lt_size e
  | xd fs=>obtain ⟨_,⟨_,_,_,e,_⟩,_⟩:=x; exact Heap.lt_size e
  | rng lo hi=>obtain ⟨_,_,_,e⟩:=x; exact Heap.lt_size e
  | frz ob u=>obtain ⟨e,_⟩:=x; exact Heap.lt_size e
  | tbl ps=>exact Heap.lt_size (show h.get? a=some _ from x)
  | met f y=>exact Heap.lt_size (show h.get? a=some _ from x)
  | ext φ=>obtain ⟨_,⟨_,e⟩,_⟩:=x; exact Heap.lt_size e
theorem Paired.mapP {α β:Type} {F G:α->β->Prop} {l₁:List α} {l₂:List β} (h:Paired F l₁ l₂) (f:∀ a b,F a b->G a b):Paired G l₁ l₂:=by
  induction h with
  | nil=>exact .nil
  | cons r t ih=>exact .cons (f _ _ r) ih
theorem yO.stay (x:yO P w H h a o) (k:∀ b u,(b=a∨H b=some (.own a))->h.get? b=some u->h'.get? b=some u)
    (ho:∀ b,H b=some (.own a)->H' b=some (.own a)) (ht:∀ b xs,H b=some (.tup xs)->H' b=some (.tup xs)):yO P w H' h' a o:=by
  induction o with
  | lst xs=>obtain ⟨z,its,n,r,e⟩:=x; exact ⟨z,its,n,r,k _ _ (.inl rfl) e⟩
  | tup xs=>obtain ⟨z,its,r,ob,e,c⟩:=x; exact ⟨z,its,r,ob,k _ _ (.inl rfl) e,c⟩
  | dK kvs=>obtain ⟨z,y,vs,r,ob,es,ep,e,c⟩:=x; exact ⟨z,y,vs,r,ob,es,ep,k _ _ (.inl rfl) e,c⟩
  | dT kvs =>
    obtain ⟨z,y,xs,r,ob,es,ep,e,c⟩:=x
    exact ⟨z,y,xs,Paired.mapP r fun p q z=>⟨z.1,ht _ _ z.2.1,z.2.2⟩,ob,es,ep,k _ _ (.inl rfl) e,c⟩
  | set S n=>obtain ⟨ob,es,ep,t,e,c⟩:=x; exact ⟨ob,es,ep,t,k _ _ (.inl rfl) e,c⟩
  | ins C dx fs =>
    obtain ⟨d,z,ne,e,mA,⟨od,es,ep,e2,c⟩,r⟩:=x
    exact ⟨ho _ d,z,ne,k _ _ (.inl rfl) e,mA,⟨od,es,ep,k _ _ (.inr d) e2,c⟩,r⟩
  | own y=>obtain ⟨ob,e⟩:=x; exact ⟨ob,k _ _ (.inl rfl) e⟩
  | xd fs=>obtain ⟨mA,⟨od,es,ep,e,c⟩,r⟩:=x; exact ⟨mA,⟨od,es,ep,k _ _ (.inl rfl) e,c⟩,r⟩
  | rng lo hi=>obtain ⟨t,u,v,e⟩:=x; exact ⟨t,u,v,k _ _ (.inl rfl) e⟩
  | frz ob u ih=>obtain ⟨e,q⟩:=x; exact ⟨k _ _ (.inl rfl) e,ih q⟩
  | tbl ps =>
    have e:h.get? a=some { cls:=.none,data:=.fields ps }:=x
    show h'.get? a=some { cls:=.none,data:=.fields ps }
    exact k a _ (.inl rfl) e
  | met f y =>
    have e:h.get? a=some (PySem.W.methodObj (.ref f) (.ref y)):=x
    show h'.get? a=some (PySem.W.methodObj (.ref f) (.ref y))
    exact k a _ (.inl rfl) e
  | ext φ=>obtain ⟨p,⟨o,e⟩,st⟩:=x; exact ⟨st _ _ p fun o q=>k _ _ (.inl rfl) q,⟨o,k _ _ (.inl rfl) e⟩,st⟩
theorem HOk.lt (x:HOk P w H h) (e:H a=some o):a < h.objs.size:=(x a o e).lt
theorem HOk.fresh (x:HOk P w H h) (e:h.objs.size<=a):H a=none:=by
  cases q:H a with
  | none=>rfl
  | some u=>exact absurd (Nat.lt_of_lt_of_le (x.lt q) e) (Nat.lt_irrefl _)
theorem HOk.kept (x:HOk P w H h) (k:∀ b u,h.get? b=some u->h'.get? b=some u):HOk P w H h':=fun a o e =>
  (x a o e).stay (fun b u _ q=>k b u q) (fun _ q=>q) fun _ _ q=>q
theorem HOk.laid (x:HOk P w H h) (k:∀ b u,h.get? b=some u->h'.get? b=some u) (hp:h.objs.size<=a) (new:yO P w (upd H a o) h' a o):HOk P w (upd H a o) h':=fun b u e=>by
  have hn:=x.fresh hp
  by_cases hb:b=a
  · subst hb; rw [jv] at e; cases e; exact new
  · rw [jn hb] at e
    exact (x b u e).stay (fun c v _ q=>k c v q) (fun c q=>by rw [jn (jy q hn)]; exact q) fun c xs q=>by rw [jn (jy q hn)]; exact q
end

def Rd (H:Hp) (a:Addr) (u:HO):Prop:=H a=some u∨∃ o,H a=some (.frz o u)
theorem Rd.ok {P:Program} {w:World} {H:Hp} {h:Heap} {a:Addr} {u:HO} (r:Rd H a u) (x:HOk P w H h):yO P w H h a u:=by
  rcases r with r | ⟨o,r⟩
  · exact x a u r
  · obtain ⟨_,q⟩:=x a _ r
    exact q
def Mut:Option HO->Prop
  | some (.lst _)=>True
  | some (.dK _)=>True
  | some (.dT _)=>True
  | some (.set _ _)=>True
  | some (.ins _ _ _)=>True
  | some (.ext _)=>True
  | _=>False
section
variable {P:Program} {w:World} {H:Hp} {h h':Heap} {x e:Addr} {o':HO}
theorem HOk.write (ok:HOk P w H h) (mu:Mut (H x)) (he:e=x∨H e=some (.own x)) (k:∀ b u,b≠e->h.get? b=some u->h'.get? b=some u) (heo:∃ u,h'.get? e=some u)
    (new:yO P w (upd H x o') h' x o'):HOk P w (upd H x o') h':=fun b u q=>by
  have nown:∀ c y,H c=some (.own y)->c≠x:=fun c y r z=>by subst z; rw [r] at mu; exact mu
  have ntup:∀ c xs,H c=some (.tup xs)->c≠x:=fun c xs r z=>by subst z; rw [r] at mu; exact mu
  by_cases hb:b=x
  · subst hb; rw [jv] at q; cases q; exact new
  · rw [jn hb] at q
    by_cases hbe:b=e
    · have q':H b=some (.own x):=by
        rcases he with z | z
        · exact absurd (hbe.trans z) hb
        · rw [hbe]; exact z
      rw [q] at q'; cases q'
      obtain ⟨v,hv⟩:=heo
      exact ⟨v,by rw [hbe]; exact hv⟩
    · refine (ok b u q).stay (fun c v hc r=>k c v ?_ r) (fun c r=>by rw [jn (nown c b r)]; exact r) fun c xs r=>by rw [jn (ntup c xs r)]; exact r
      rcases hc with rfl | hc
      · exact hbe
      · rintro rfl
        rcases he with z | z
        · exact nown c b hc z
        · rw [hc] at z; cases z; exact hb rfl
end

structure Un (fs ex:List Addr) (H H':Hp) (h h':Heap):Prop where
  keep:∀ b o,h.get? b=some o->H b=none->b ∉ fs->b ∉ ex->h'.get? b=some o
  slot:∀ b o,h.get? b=some o->H b=none->b ∈ fs->b ∉ ex->∃ sl,h'.get? b=some { o with slots:=sl }
  free:∀ b o,h.get? b=some o->H b=none->b ∉ ex->H' b=none
  there:∀ b o,h.get? b=some o->b ∉ ex->∃ o',h'.get? b=some o'
  tups:∀ b xs,H b=some (.tup xs)->H' b=some (.tup xs)
  frzs:∀ b o u,H b=some (.frz o u)->H' b=some (.frz o u)
  tbls:∀ b ps,H b=some (.tbl ps)->∃ more,H' b=some (.tbl (ps ++ more))
section
variable {fs fs' ex ex':List Addr} {H H1 H2:Hp} {h h1 h2 h':Heap} {a x e:Addr} {o:HO}
theorem Un.any (u:Un fs ex H H1 h h1) {b:Addr} {ob:Obj} (q:h.get? b=some ob) (n:H b=none) (hx:b ∉ ex):∃ sl,h1.get? b=some { ob with slots:=sl }:=by
  by_cases hb:b ∈ fs
  · exact u.slot b ob q n hb hx
  · exact ⟨ob.slots,u.keep b ob q n hb hx⟩
theorem Un.trans (a:Un fs ex H H1 h h1) (b:Un fs ex H1 H2 h1 h2):Un fs ex H H2 h h2 where
  keep:=fun c ob q n hc hx=>b.keep c ob (a.keep c ob q n hc hx) (a.free c ob q n hx) hc hx
  slot:=fun c ob q n hc hx=>by
    obtain ⟨sl,e1⟩:=a.slot c ob q n hc hx
    obtain ⟨sl',e2⟩:=b.slot c _ e1 (a.free c ob q n hx) hc hx
    exact ⟨sl',e2⟩
  free:=fun c ob q n hx=>by
    obtain ⟨o',e1⟩:=a.there c ob q hx
    exact b.free c o' e1 (a.free c ob q n hx) hx
  there:=fun c ob q hx=>by
    obtain ⟨o',e1⟩:=a.there c ob q hx
    exact b.there c o' e1 hx
  tups:=fun c xs q=>b.tups c xs (a.tups c xs q)
  frzs:=fun c ob xs q=>b.frzs c ob xs (a.frzs c ob xs q)
  tbls:=fun c ps q=>by
    obtain ⟨m1,e1⟩:=a.tbls c ps q
    obtain ⟨m2,e2⟩:=b.tbls c _ e1
    exact ⟨m1 ++ m2,by rw [e2,Array.append_assoc]⟩
theorem Un.kept (k:∀ b u,h.get? b=some u->h'.get? b=some u):Un fs ex H H h h' :=
  ⟨fun b ob q _ _ _=>k b ob q,fun b ob q _ _ _=>⟨ob.slots,k b ob q⟩,fun _ _ _ n _=>n,fun b ob q _=>⟨ob,k b ob q⟩,fun _ _ q=>q,fun _ _ _ q=>q,fun _ ps q=>⟨#[],by rw [q]; simp⟩⟩
theorem Un.refl:Un fs ex H H h h:=Un.kept fun _ _ q=>q
theorem Un.laid (k:∀ b u,h.get? b=some u->h'.get? b=some u) (hp:h.objs.size<=a) (hn:H a=none):Un fs ex H (upd H a o) h h' where
  keep:=fun b u q _ _ _=>k b u q
  slot:=fun b u q _ _ _=>⟨u.slots,k b u q⟩
  free:=fun b u q n _=>by rw [jn (Nat.ne_of_lt (Nat.lt_of_lt_of_le (Heap.lt_size q) hp))]; exact n
  there:=fun b u q _=>⟨u,k b u q⟩
  tups:=fun b xs q=>by rw [jn (jy q hn)]; exact q
  frzs:=fun b u xs q=>by rw [jn (jy q hn)]; exact q
  tbls:=fun b ps q=>⟨#[],by rw [jn (jy q hn),q]; simp⟩
theorem Un.write (mu:Mut (H x)) (he:e=x∨H e=some (.own x)) (k:∀ b u,b≠e->h.get? b=some u->h'.get? b=some u) (heo:∃ u,h'.get? e=some u):Un fs ex H (upd H x o) h h':=by
  have hx:∀ b,H b=none->b≠x:=fun b n z=>by subst z; rw [n] at mu; exact mu
  have hb:∀ b,H b=none->b≠e:=fun b n z=>by
    subst z
    rcases he with r | r
    · exact hx b n r
    · rw [n] at r; cases r
  have hm:∀ b u,H b=some u->¬ Mut (some u)->b≠x:=fun b u q nm z=>by subst z; rw [q] at mu; exact nm mu
  refine ⟨fun b u q n _ _=>k b u (hb b n) q,fun b u q n _ _=>⟨u.slots,k b u (hb b n) q⟩,fun b u q n _=>by rw [jn (hx b n)]; exact n,fun b u q _=>?_,
    fun b xs q=>by rw [jn (hm b _ q fun z=>z)]; exact q,fun b u xs q=>by rw [jn (hm b _ q fun z=>z)]; exact q,fun b ps q=>⟨#[],by rw [jn (hm b _ q fun z=>z),q]; simp⟩⟩
  by_cases hbe:b=e
  · subst hbe; exact heo
  · exact ⟨u,k b u hbe q⟩
end

def trk (h:Heap) (H:Hp):List Addr:=(List.range h.objs.size).filter fun a=>(H a).isSome
def hidT (h:Heap) (H:Hp):Heap:=PySem.W.hideAll h (trk h H)
theorem hidT_size (h:Heap) (H:Hp):(hidT h H).objs.size=h.objs.size:=PySem.W.hideAll_size _ _
theorem hidT_get {h:Heap} {H:Hp} {b:Addr} {o:Obj} (e:h.get? b=some o) (n:H b=none):(hidT h H).get? b=some o :=
  PySem.W.hideAll_get _ e fun hm=>by
    have q:(H b).isSome=true:=(List.mem_filter.mp hm).2
    rw [n] at q; simp at q
theorem of_hidT {h:Heap} {H:Hp} {b:Addr} {o:Obj} (e:(hidT h H).get? b=some o):h.get? b=some o∧H b=none:=by
  have e':h.get? b=some o:=PySem.W.of_hideAll (trk h H) e
  refine ⟨e',?_⟩
  cases q:H b with
  | none=>rfl
  | some x =>
    have hm:b ∈ trk h H:=List.mem_filter.mpr ⟨List.mem_range.mpr (Heap.lt_size e'),by simp [q]⟩
    have z:(hidT h H).get? b=none:=PySem.W.hideAll_none (trk h H) hm
    rw [z] at e; cases e

def allNews (g h:Heap) (L:Addr):List (Addr × Obj):=(List.range h.objs.size).filterMap fun a=>if a=L∨(g.get? a).isSome=true then none else (h.get? a).map fun o=>(a,o)
def rest (g h:Heap) (L d:Addr):List (Addr × Obj):=(allNews g h L).filter fun p=>decide (p.1≠d)
end L2

namespace L2
open PySem PySem.Spec PyProof.Rows

structure Mod (K:PySem.W.Frag) (mg:Str->Option Value) (base:Heap):Prop where
  kin:K.In base
  glob:base.Ns mainGlobals mg
  blt:∃ mb,base.Ns builtinsNs mb∧∀ x:Str,x≠"__name__"->mb x=bootBuiltins x
  nolimit:base.NoLimit

structure Cx where
  prog:Program
  w:World
  K:PySem.W.Frag
  mg:Str->Option Value
  base:Heap
  A:Around
  N:List Str
  s₀:Shared
  H₀:Hp
  env:Env
  outer:List Env
  stack:List Env
  ex:List Addr
  fn:Str->Bool
  calm:Bool
  pn:List (Addr × Obj)
  xe:Value->Shared->Prop
def frs (l:List Env):List Addr:=l.filterMap (·.frame)
abbrev Cx.fs (X:Cx):List Addr:=frs X.outer

def Vis (sc:Scope) (x:Str):Prop:=sc.names.lookup x=some .local∨sc.names.lookup x=some .cell∨sc.names.lookup x=some .free
def Loc (sc:Scope) (x:Str):Prop:=sc.names.lookup x=some .local∨sc.names.lookup x=some .cell
def Look (env:Env) (h:Heap) (m:Str->Option Value) (x:Str) (u:Value):Prop :=
  (env.kindOf x=some .local∧m x=some u)∨((env.kindOf x=some .cell∨env.kindOf x=some .free)∧∃ c,env.cells.lookup x=some c∧h.IsCell c (some u))

structure Cx.Ok (X:Cx):Prop where
  mod:Mod X.K X.mg X.base
  kind:X.env.scope.kind = .function
  glob:X.env.globals=mainGlobals
  blt:X.env.builtins=builtinsNs
  above:X.s₀.heap.objs.size<=X.env.locals
  inj:∀ x y c,X.env.cells.lookup x=some c->X.env.cells.lookup y=some c->x=y
  has:∀ x,(X.env.kindOf x=some .cell∨X.env.kindOf x=some .free)->∃ c,X.env.cells.lookup x=some c
  cab:∀ x c,X.fn x=true->X.env.cells.lookup x=some c->X.s₀.heap.objs.size<=c
  hd:X.calm=true->X.A.handled=none
  frames:X.A.frames=some X.stack
  stk:X.stack=X.outer∨(X.stack=X.env :: X.outer∧X.env.frame=some X.env.locals)
  exf:∀ b ∈ X.ex,b≠X.env.locals∧∀ x c,X.env.cells.lookup x=some c->c≠b
  bs:∀ b o,X.base.get? b=some o->X.s₀.heap.get? b=some o∧X.H₀ b=none
  bsz:X.base.objs.size<=X.s₀.heap.objs.size
  noex:∀ b o,X.base.get? b=some o->b ∉ X.ex
  exfs:∀ b ∈ X.ex,b ∉ X.fs
  funs:X.s₀.heap.FunFrames X.base X.outer
  frf:∀ b ∈ X.fs,X.H₀ b=none

structure Inv (X:Cx) (pins:List (Addr × Obj)) (σ:List (Option V)) (H:Hp) (s:Shared):Prop where
  ok:X.Ok
  os:s.os=X.s₀.os
  bare:AllBare s.gens
  base:Un X.fs X.ex X.H₀ H X.s₀.heap s.heap
  loc:∃ m,s.heap.Ns X.env.locals m∧∀ (i:Nat) (x:Str) (v:V),X.N[i]? = some x->σ[i]? = some (some v)->Vis X.env.scope x->∃ u,yn v u∧Look X.env s.heap m x u
  cell:∀ x c,X.env.cells.lookup x=some c->∃ v,s.heap.IsCell c v
  free:H X.env.locals=none
  freeC:∀ x c,X.env.cells.lookup x=some c->H c=none
  pin:∀ p ∈ X.pn ++ pins,s.heap.get? p.1=some p.2∧H p.1=none∧p.1≠X.env.locals∧p.1 ∉ X.fs∧∀ v,p.2.data≠.cell v
  hok:HOk X.prog X.w H s.heap
  len:σ.length=X.N.length

section
variable {X:Cx} {pins:List (Addr × Obj)} {σ:List (Option V)} {H H':Hp} {s:Shared} {h':Heap}

theorem Cx.Ok.nofr (ok:X.Ok) {b:Addr} {o:Obj} (e:X.base.get? b=some o):b ∉ X.fs:=fun hb=>by
  have:=(ok.funs.mem hb).1
  rw [e] at this; cases this
theorem Inv.bs (I:Inv X pins σ H s):∀ b o,X.base.get? b=some o->s.heap.get? b=some o∧H b=none:=fun b o e =>
  ⟨I.base.keep b o (I.ok.bs b o e).1 (I.ok.bs b o e).2 (I.ok.nofr e) (I.ok.noex b o e),I.base.free b o (I.ok.bs b o e).1 (I.ok.bs b o e).2 (I.ok.noex b o e)⟩
theorem Inv.bk (I:Inv X pins σ H s):∀ b o,X.base.get? b=some o->s.heap.get? b=some o:=fun b o e=>(I.bs b o e).1
theorem Inv.mod (I:Inv X pins σ H s):Mod X.K X.mg X.base:=I.ok.mod
theorem Inv.kIn (I:Inv X pins σ H s):X.K.In s.heap:=I.ok.mod.kin.keeps I.bk
theorem Inv.lt (I:Inv X pins σ H s):X.env.locals < s.heap.objs.size:=let ⟨_,hn,_⟩:=I.loc; hn.lt
theorem Inv.sz (I:Inv X pins σ H s):X.s₀.heap.objs.size<=s.heap.objs.size:=Nat.le_trans I.ok.above (Nat.le_of_lt I.lt)
theorem Inv.nofs (I:Inv X pins σ H s) {a:Addr} (h:s.heap.objs.size<=a):a ∉ X.fs:=fun hb=>by
  obtain ⟨_,o,ho,_⟩:=I.ok.funs.mem hb
  exact absurd (Nat.lt_of_lt_of_le (Heap.lt_size ho) (Nat.le_trans I.sz h)) (Nat.lt_irrefl _)
theorem Inv.cne (I:Inv X pins σ H s):∀ x c,X.env.cells.lookup x=some c->c≠X.env.locals:=fun x c e z=>by
  obtain ⟨v,o,ho,hd⟩:=I.cell x c e
  obtain ⟨m,⟨o',es,ep,ho',hd',_⟩,_⟩:=I.loc
  rw [z,ho'] at ho; cases ho; rw [hd'] at hd; cases hd
theorem Inv.funs (I:Inv X pins σ H s):s.heap.FunFrames X.base X.outer:=by
  have all:∀ (l:List Env),(∀ b ∈ frs l,b ∈ X.fs)->X.s₀.heap.FunFrames X.base l->s.heap.FunFrames X.base l:=by
    intro l
    induction l with
    | nil=>intro _ _; trivial
    | cons env r ih =>
      intro hs hl
      obtain ⟨hk,⟨L,o,hf,hn,ho,hd⟩,hr⟩:=hl
      have hL:L ∈ X.fs:=hs L (by unfold frs; rw [List.filterMap_cons,hf]; exact List.mem_cons_self)
      obtain ⟨sl,e⟩:=I.base.slot L o ho (I.ok.frf L hL) hL fun z=>I.ok.exfs L z hL
      exact ⟨hk,⟨L,_,hf,hn,e,hd⟩,ih (fun b hb=>hs b (by unfold frs; rw [List.filterMap_cons,hf]; exact List.mem_cons_of_mem _ hb)) hr⟩
  exact all X.outer (fun _ hb=>hb) I.ok.funs

theorem Inv.stack (I:Inv X pins σ H s):s.heap.FunFrames X.base X.stack:=by
  rcases I.ok.stk with e | ⟨e,hf⟩
  · rw [e]; exact I.funs
  · rw [e]
    obtain ⟨m,hn,_⟩:=I.loc
    refine .cons (by rw [I.ok.kind]; decide) hf hn ?_ I.funs
    exact Heap.get?_none_of_le (Nat.le_trans I.ok.bsz I.ok.above)
theorem Inv.stkSub (I:Inv X pins σ H s):∀ b ∈ frs X.stack,b ∈ X.env.locals :: X.fs:=fun b hb=>by
  rcases I.ok.stk with e | ⟨e,hf⟩
  · rw [e] at hb; exact List.mem_cons_of_mem _ hb
  · rw [e] at hb
    unfold frs at hb
    rw [List.filterMap_cons,hf] at hb
    exact hb
theorem Inv.stkFree (I:Inv X pins σ H s):∀ b ∈ frs X.stack,H b=none:=fun b hb=>by
  rcases List.mem_cons.mp (I.stkSub b hb) with e | hb
  · rw [e]; exact I.free
  · obtain ⟨_,o,ho,_⟩:=I.ok.funs.mem hb
    exact I.base.free b o ho (I.ok.frf b hb) fun z=>I.ok.exfs b z hb

theorem Inv.step {g':Array GenState} {t':Nat} {d':Drawn} {ch:List Addr} (I:Inv X pins σ H s)
    (hch:∀ b ∈ ch,(b ∈ X.ex∨X.s₀.heap.objs.size<=b)∧b≠X.env.locals∧(∀ x c,X.env.cells.lookup x=some c->c≠b)∧∀ p ∈ X.pn ++ pins,p.1≠b)
    (keep:∀ b o,b≠X.env.locals->b ∉ X.fs->b ∉ ch->s.heap.get? b=some o->H b=none->h'.get? b=some o)
    (slot:∀ b o,b≠X.env.locals->b ∈ X.fs->b ∉ ch->s.heap.get? b=some o->H b=none->∃ sl,h'.get? b=some { o with slots:=sl }) (free:∀ b o,b ∉ ch->s.heap.get? b=some o->H b=none->H' b=none)
    (there:∀ b o,b ∉ ch->s.heap.get? b=some o->∃ o',h'.get? b=some o')
    (tups:∀ b xs,H b=some (.tup xs)->H' b=some (.tup xs)) (frzs:∀ b o u,H b=some (.frz o u)->H' b=some (.frz o u)) (tbls:∀ b ps,H b=some (.tbl ps)->∃ more,H' b=some (.tbl (ps ++ more)))
    (ns:∀ m,s.heap.Ns X.env.locals m->h'.Ns X.env.locals m) (hok:HOk X.prog X.w H' h') (hg:AllBare g') :
    Inv X pins σ H' { s with heap:=h',gens:=g',drawn:=d',toks:=t' }:=by
  have neL:∀ b o,X.s₀.heap.get? b=some o->b≠X.env.locals:=fun b o e=>Nat.ne_of_lt (Nat.lt_of_lt_of_le (Heap.lt_size e) I.ok.above)
  have neC:∀ b o,X.s₀.heap.get? b=some o->b ∉ X.ex->b ∉ ch:=fun b o e hx hb=>by
    rcases (hch b hb).1 with z | z
    · exact hx z
    · exact absurd (Nat.lt_of_lt_of_le (Heap.lt_size e) z) (Nat.lt_irrefl _)
  have cellK:∀ x c,X.env.cells.lookup x=some c->∀ v,s.heap.IsCell c v->h'.IsCell c v:=fun x c e v hQQ=>by
    obtain ⟨o,ho,hd⟩:=hQQ
    have nch:c ∉ ch:=fun z=>(hch c z).2.2.1 x c e rfl
    by_cases hc:c ∈ X.fs
    · obtain ⟨sl,q⟩:=slot c o (I.cne x c e) hc nch ho (I.freeC x c e)
      exact ⟨_,q,hd⟩
    · exact ⟨o,keep c o (I.cne x c e) hc nch ho (I.freeC x c e),hd⟩
  refine ⟨I.ok,I.os,hg,⟨fun b o e n hb hx=>?_,fun b o e n hb hx=>?_,fun b o e n hx=>?_,fun b o e hx=>?_,fun b xs e=>tups b xs (I.base.tups b xs e),fun b o xs e=>frzs b o xs (I.base.frzs b o xs e),fun b ps e=>?_⟩,?_,fun x c e=>?_,?_,fun x c e=>?_,fun p hp=>?_,hok,I.len⟩
  · exact keep b o (neL b o e) hb (neC b o e hx) (I.base.keep b o e n hb hx) (I.base.free b o e n hx)
  · obtain ⟨sl,e1⟩:=I.base.slot b o e n hb hx
    obtain ⟨sl',e2⟩:=slot b _ (neL b o e) hb (neC b o e hx) e1 (I.base.free b o e n hx)
    exact ⟨sl',e2⟩
  · obtain ⟨o',e1⟩:=I.base.there b o e hx
    exact free b o' (neC b o e hx) e1 (I.base.free b o e n hx)
  · obtain ⟨o',e1⟩:=I.base.there b o e hx
    exact there b o' (neC b o e hx) e1
  · obtain ⟨m1,e1⟩:=I.base.tbls b ps e
    obtain ⟨m2,e2⟩:=tbls b _ e1
    exact ⟨m1 ++ m2,by rw [e2,Array.append_assoc]⟩
  · obtain ⟨m,hn,hl⟩:=I.loc
    refine ⟨m,ns m hn,fun i x v e1 e2 e3=>?_⟩
    obtain ⟨u,r,l⟩:=hl i x v e1 e2 e3
    refine ⟨u,r,?_⟩
    rcases l with l | ⟨k,c,e,z⟩
    · exact .inl l
    · exact .inr ⟨k,c,e,cellK x c e _ z⟩
  · obtain ⟨v,z⟩:=I.cell x c e
    exact ⟨v,cellK x c e v z⟩
  · obtain ⟨m,⟨o,_,_,ho,_⟩,_⟩:=I.loc
    exact free _ o (fun z=>(hch _ z).2.1 rfl) ho I.free
  · obtain ⟨v,o,ho,hd⟩:=I.cell x c e
    exact free c o (fun z=>(hch c z).2.2.1 x c e rfl) ho (I.freeC x c e)
  · obtain ⟨e,n,ne,nf,d⟩:=I.pin p hp
    have nch:p.1 ∉ ch:=fun z=>(hch p.1 z).2.2.2 p hp rfl
    exact ⟨keep p.1 p.2 ne nf nch e n,free p.1 p.2 nch e n,ne,nf,d⟩
theorem Inv.un {t':Nat} (I:Inv X pins σ H s) (u:Un X.fs [] H H' s.heap h') (hok:HOk X.prog X.w H' h'):Inv X pins σ H' { s with heap:=h',toks:=t' }:=by
  obtain ⟨m,⟨o,es,ep,ho,r⟩,_⟩:=id I.loc
  obtain ⟨sl,hL⟩:=u.any ho I.free (by simp)
  exact I.step (g':=s.gens) (d':=s.drawn) (ch:=[]) (fun _ z=>nomatch z) (fun b o _ hb _ e n=>u.keep b o e n hb (by simp)) (fun b o _ hb _ e n=>u.slot b o e n hb (by simp)) (fun b o _ e n=>u.free b o e n (by simp)) (fun b o _ e=>u.there b o e (by simp)) u.tups u.frzs u.tbls (fun m' hm=>by
    obtain ⟨o',es',ep',ho',r'⟩:=hm
    rw [ho] at ho'; cases ho'
    exact ⟨_,es',ep',hL,r'⟩) hok I.bare
theorem Inv.call {g':Array GenState} {t':Nat} {d':Drawn} {ch:List Addr} (I:Inv X pins σ H s) (u:Un (frs X.stack) ch H H' s.heap h') (hok:HOk X.prog X.w H' h') (hg:AllBare g')
    (hch:∀ b ∈ ch,(b ∈ X.ex∨X.s₀.heap.objs.size<=b)∧b≠X.env.locals∧(∀ x c,X.env.cells.lookup x=some c->c≠b)∧∀ p ∈ X.pn ++ pins,p.1≠b) :
    Inv X pins σ H' { s with heap:=h',gens:=g',drawn:=d',toks:=t' }:=by
  obtain ⟨m,⟨o,es,ep,ho,r⟩,_⟩:=id I.loc
  obtain ⟨sl,hL⟩:=u.any ho I.free fun z=>(hch _ z).2.1 rfl
  exact I.step (ch:=ch) hch (fun b o hL hb hc e n=>u.keep b o e n (fun z=>(List.mem_cons.mp (I.stkSub b z)).elim hL hb) hc) (fun b o _ _ hc e n=>u.any e n hc) (fun b o hc e n=>u.free b o e n hc) (fun b o hc e=>u.there b o e hc) u.tups u.frzs u.tbls (fun m' hm=>by
    obtain ⟨o',es',ep',ho',r'⟩:=hm
    rw [ho] at ho'; cases ho'
    exact ⟨_,es',ep',hL,r'⟩) hok hg
theorem Inv.turned {t':Nat} {it:Addr} (I:Inv X pins σ H s) (k:∀ b o,b≠it->s.heap.get? b=some o->h'.get? b=some o) (hn:H it=none) (hL:it≠X.env.locals)
    (h1:it ∈ X.ex∨X.s₀.heap.objs.size<=it) (h2:∀ x c,X.env.cells.lookup x=some c->c≠it) (h3:∀ p ∈ X.pn ++ pins,p.1≠it):Inv X pins σ H { s with heap:=h',toks:=t' }:=by
  have nit:∀ b u,H b=some u->b≠it:=fun b u e z=>by rw [z,hn] at e; cases e
  refine I.step (g':=s.gens) (d':=s.drawn) (ch:=[it]) (fun b hb=>?_) (fun b o _ _ hc e _=>k b o (fun z=>hc (by simp [z])) e) (fun b o _ _ hc e _=>⟨o.slots,k b o (fun z=>hc (by simp [z])) e⟩) (fun _ _ _ _ n=>n)
    (fun b o hc e=>⟨o,k b o (fun z=>hc (by simp [z])) e⟩) (fun _ _ e=>e) (fun _ _ _ e=>e) (fun b ps e=>⟨#[],by rw [e]; simp⟩) (fun m hm=>?_) (fun b u e=>?_) I.bare
  · have e:b=it:=by simpa using hb
    subst e
    exact ⟨h1,hL,h2,h3⟩
  · obtain ⟨o,es,ep,ho,r⟩:=hm
    exact ⟨o,es,ep,k _ o (Ne.symm hL) ho,r⟩
  · refine (I.hok b u e).stay (fun c v hc q=>k c v ?_ q) (fun _ q=>q) fun _ _ q=>q
    rcases hc with z | z
    · rw [z]; exact nit b u e
    · exact nit c _ z
theorem Inv.tok (I:Inv X pins σ H s) (t:Nat):Inv X pins σ H { s with toks:=t }:=I.un (h':=s.heap) (t':=t) Un.refl I.hok
theorem Inv.kept {t':Nat} (I:Inv X pins σ H s) (k:∀ b u,s.heap.get? b=some u->h'.get? b=some u):Inv X pins σ H { s with heap:=h',toks:=t' }:=I.un (Un.kept k) (I.hok.kept k)
theorem Inv.laid {a:Addr} {o:HO} {t':Nat} (I:Inv X pins σ H s) (k:∀ b u,s.heap.get? b=some u->h'.get? b=some u) (hp:s.heap.objs.size<=a) (new:yO X.prog X.w (upd H a o) h' a o) :
    Inv X pins σ (upd H a o) { s with heap:=h',toks:=t' }:=I.un (Un.laid k hp (I.hok.fresh hp)) (I.hok.laid k hp new)
theorem Inv.write {x e:Addr} {o:HO} {t':Nat} (I:Inv X pins σ H s) (mu:Mut (H x)) (he:e=x∨H e=some (.own x)) (k:∀ b u,b≠e->s.heap.get? b=some u->h'.get? b=some u) (heo:∃ u,h'.get? e=some u)
    (new:yO X.prog X.w (upd H x o) h' x o):Inv X pins σ (upd H x o) { s with heap:=h',toks:=t' }:=I.un (Un.write mu he k heo) (I.hok.write mu he k heo new)
theorem Inv.weak {σ':List (Option V)} (I:Inv X pins σ H s) (hl:σ'.length=σ.length) (w:∀ (i:Nat) v,σ'[i]? = some (some v)->σ[i]? = some (some v)):Inv X pins σ' H s :=
  ⟨I.ok,I.os,I.bare,I.base,let ⟨m,hn,hl'⟩:=I.loc; ⟨m,hn,fun i x v e1 e2 e3=>hl' i x v e1 (w i v e2) e3⟩,I.cell,I.free,I.freeC,I.pin,I.hok,hl.trans I.len⟩
theorem Inv.pins_of {pins':List (Addr × Obj)} (I:Inv X pins σ H s) (h:∀ p ∈ pins',s.heap.get? p.1=some p.2∧H p.1=none∧p.1≠X.env.locals∧p.1 ∉ X.fs∧∀ v,p.2.data≠.cell v):Inv X pins' σ H s :=
  ⟨I.ok,I.os,I.bare,I.base,I.loc,I.cell,I.free,I.freeC,fun p hp=>(List.mem_append.mp hp).elim (fun z=>I.pin p (List.mem_append_left _ z)) (h p),I.hok,I.len⟩

theorem nodup_ix {N:List Str} (hN:N.Nodup) {i j:Nat} {x:Str} (a:N[i]? = some x) (b:N[j]? = some x):i=j:=by
  obtain ⟨h1,e1⟩:=List.getElem?_eq_some_iff.mp a
  obtain ⟨h2,e2⟩:=List.getElem?_eq_some_iff.mp b
  exact (List.getElem_inj hN).mp (e1.trans e2.symm)

theorem store_ok2 {M:Model} {A:Around} {E:Value->Shared->Prop} {i:Nat} {x:Str} {v:V} {u:Value} {Q:Unit->Shared->Prop} (I:Inv X pins σ H s) (hN:X.N.Nodup) (hi:X.N[i]? = some x) (hx:Loc X.env.scope x) (r:yn v u)
    (h:∀ s',Inv X pins (σ.set i (some v)) H s'->(∃ a,Heap.SameBut a s.heap s'.heap∧(a=X.env.locals∨X.env.cells.lookup x=some a))->Q () s') (hf:X.fn x=true∨X.env.scope.names.lookup x=some .local:=by first | exact .inl rfl | exact .inr rfl | assumption):wpAny M A (storeName X.env x u) Q E s:=by
  obtain ⟨m,hn,hl⟩:=id I.loc
  have hcls:(X.env.scope.kind == .class || (X.env.scope.kind == .module && X.env.locals != X.env.globals))=false:=by rw [I.ok.kind]; rfl
  have hiσ:i < σ.length:=by rw [I.len]; exact (List.getElem?_eq_some_iff.mp hi).1
  have cne:=I.cne
  have tracked:∀ {a:Addr} {h':Heap},(∃ o,s.heap.get? a=some o∧H a=none)->Heap.SameBut a s.heap h'->HOk X.prog X.w H h':=fun {a h'} ha hs b ob e=>by
    obtain ⟨_,_,hfree⟩:=ha
    refine (I.hok b ob e).stay (fun c w' hc q=>(hs.2 c ?_).trans q) (fun _ q=>q) fun _ _ q=>q
    rintro rfl
    rcases hc with rfl | hc
    · rw [hfree] at e; cases e
    · rw [hfree] at hc; cases hc
  rcases hx with hk | hk
  · refine wpAny_storeName_local hk hn (fun h' hn' hs=>?_) hcls
    obtain ⟨oL,_,_,hoL,_⟩:=id hn
    refine h _ ⟨I.ok,I.os,I.bare,⟨fun b o e n hb hx=>?_,fun b o e n hb hx=>?_,I.base.free,fun b o e hx=>?_,I.base.tups,I.base.frzs,I.base.tbls⟩,⟨_,hn',fun j y v' e1 e2 e3=>?_⟩,fun y c e=>?_,I.free,I.freeC,fun p hp=>?_,tracked ⟨oL,hoL,I.free⟩ hs,by simpa using I.len⟩ ⟨_,hs,.inl rfl⟩
    · exact (hs.2 b (Nat.ne_of_lt (Nat.lt_of_lt_of_le (Heap.lt_size e) I.ok.above))).trans (I.base.keep b o e n hb hx)
    · obtain ⟨sl,e1⟩:=I.base.slot b o e n hb hx
      exact ⟨sl,(hs.2 b (Nat.ne_of_lt (Nat.lt_of_lt_of_le (Heap.lt_size e) I.ok.above))).trans e1⟩
    · obtain ⟨o',e1⟩:=I.base.there b o e hx
      exact ⟨o',(hs.2 b (Nat.ne_of_lt (Nat.lt_of_lt_of_le (Heap.lt_size e) I.ok.above))).trans e1⟩
    · by_cases hj:j=i
      · subst hj
        rw [hi] at e1; cases e1
        rw [List.getElem?_set_self hiσ] at e2
        cases e2
        exact ⟨u,r,.inl ⟨hk,by simp⟩⟩
      · rw [List.getElem?_set_ne (Ne.symm hj)] at e2
        obtain ⟨u',r',q⟩:=hl j y v' e1 e2 e3
        refine ⟨u',r',?_⟩
        rcases q with ⟨k,e⟩ | ⟨k,c,e,z⟩
        · refine .inl ⟨k,?_⟩
          have:y≠x:=fun e=>hj (nodup_ix hN e1 (e ▸ hi))
          simp [this,e]
        · exact .inr ⟨k,c,e,z.sameBut hs (cne y c e)⟩
    · obtain ⟨w',z⟩:=I.cell y c e
      exact ⟨w',z.sameBut hs (cne y c e)⟩
    · obtain ⟨e,n,ne,nf,d⟩:=I.pin p hp
      exact ⟨(hs.2 p.1 ne).trans e,n,ne,nf,d⟩
  · have hfn:X.fn x=true:=by
      rcases hf with z | z
      · exact z
      · rw [z] at hk; cases hk
    obtain ⟨c,hc⟩:=I.ok.has x (.inl hk)
    obtain ⟨w',z⟩:=I.cell x c hc
    refine wpAny_storeName_cell I.ok.kind hk hc z (fun h' hc' hs=>?_)
    obtain ⟨oc,hoc,hocd⟩:=id z
    refine h { s with heap:=h' } ⟨I.ok,I.os,I.bare,⟨fun b o e n hb hx=>?_,fun b o e n hb hx=>?_,I.base.free,fun b o e hx=>?_,I.base.tups,I.base.frzs,I.base.tbls⟩,⟨m,hn.sameBut hs (Ne.symm (cne x c hc)),fun j y v' e1 e2 e3=>?_⟩,fun y c' e=>?_,I.free,I.freeC,fun p hp=>?_,tracked ⟨oc,hoc,I.freeC x c hc⟩ hs,by simpa using I.len⟩ ⟨c,hs,.inr hc⟩
    · exact (hs.2 b (Nat.ne_of_lt (Nat.lt_of_lt_of_le (Heap.lt_size e) (I.ok.cab x c hfn hc)))).trans (I.base.keep b o e n hb hx)
    · obtain ⟨sl,e1⟩:=I.base.slot b o e n hb hx
      exact ⟨sl,(hs.2 b (Nat.ne_of_lt (Nat.lt_of_lt_of_le (Heap.lt_size e) (I.ok.cab x c hfn hc)))).trans e1⟩
    · obtain ⟨o',e1⟩:=I.base.there b o e hx
      exact ⟨o',(hs.2 b (Nat.ne_of_lt (Nat.lt_of_lt_of_le (Heap.lt_size e) (I.ok.cab x c hfn hc)))).trans e1⟩
    · by_cases hj:j=i
      · subst hj
        rw [hi] at e1; cases e1
        rw [List.getElem?_set_self hiσ] at e2
        cases e2
        exact ⟨u,r,.inr ⟨.inl hk,c,hc,hc'⟩⟩
      · rw [List.getElem?_set_ne (Ne.symm hj)] at e2
        obtain ⟨u',r',q⟩:=hl j y v' e1 e2 e3
        refine ⟨u',r',?_⟩
        rcases q with q | ⟨k,c',e,z'⟩
        · exact .inl q
        · refine .inr ⟨k,c',e,z'.sameBut hs ?_⟩
          rintro rfl
          exact hj (nodup_ix hN e1 (I.ok.inj _ _ _ e hc ▸ hi))
    · by_cases hcc:c'=c
      · subst hcc; exact ⟨_,hc'⟩
      · obtain ⟨w2,z2⟩:=I.cell y c' e
        exact ⟨w2,z2.sameBut hs hcc⟩
    · obtain ⟨e,n,ne,nf,d⟩:=I.pin p hp
      refine ⟨(hs.2 p.1 ?_).trans e,n,ne,nf,d⟩
      intro q
      rw [q,hoc] at e
      have q':oc=p.2:=Option.some.inj e
      exact d w' (by rw [<- q']; exact hocd)
theorem store_ok {M:Model} {A:Around} {E:Value->Shared->Prop} {i:Nat} {x:Str} {v:V} {u:Value} {Q:Unit->Shared->Prop} (I:Inv X pins σ H s) (hN:X.N.Nodup) (hi:X.N[i]? = some x) (hx:Loc X.env.scope x) (r:yn v u)
    (h:∀ s',Inv X pins (σ.set i (some v)) H s'->Q () s') (hf:X.fn x=true∨X.env.scope.names.lookup x=some .local:=by first | exact .inl rfl | exact .inr rfl | assumption):wpAny M A (storeName X.env x u) Q E s :=
  store_ok2 I hN hi hx r (fun s' I' _=>h s' I') hf
theorem Inv.call' {s':Shared} {ch:List Addr} (I:Inv X pins σ H s) (ho:s'.os=s.os) (u:Un (frs X.stack) ch H H' s.heap s'.heap) (hok:HOk X.prog X.w H' s'.heap) (hg:AllBare s'.gens)
    (hch:∀ b ∈ ch,(b ∈ X.ex∨X.s₀.heap.objs.size<=b)∧b≠X.env.locals∧(∀ x c,X.env.cells.lookup x=some c->c≠b)∧∀ p ∈ X.pn ++ pins,p.1≠b):Inv X pins σ H' s':=by
  obtain ⟨h',g',d',t',o'⟩:=s'
  have e:o'=s.os:=ho
  subst e
  exact I.call (g':=g') (t':=t') (d':=d') u hok hg hch
end

abbrev XK:=Value->Option Addr->Hp->Prop
abbrev St:=List (Option V)
abbrev VK:=V->Hp->Prop
abbrev TE:=St->Hp->VK->Prop
abbrev TT:=St->Hp->(Bool->Hp->Prop)->Prop
abbrev TA:=St->Hp->(List V->Hp->Prop)->Prop
structure Ends where
  nx:St->Hp->Prop
  rt:VK
  bk:St->Hp->Prop:=fun _ _=>False
  ct:St->Hp->Prop:=fun _ _=>False
abbrev TS:=Ends->St->Hp->Prop

def EP (X:Cx) (pins:List (Addr × Obj)) (σ:St) (Q:VK) (u:Value) (s':Shared):Prop:=∃ v H',Inv X pins σ H' s'∧yn v u∧Q v H'
def TP (X:Cx) (pins:List (Addr × Obj)) (σ:St) (Q:Bool->Hp->Prop) (b:Bool) (s':Shared):Prop:=∃ H',Inv X pins σ H' s'∧Q b H'
def AP (X:Cx) (pins:List (Addr × Obj)) (σ:St) (Q:List V->Hp->Prop) (us:List Value) (s':Shared):Prop:=∃ vs H',Inv X pins σ H' s'∧ym vs us∧Q vs H'
def SP (X:Cx) (pins:List (Addr × Obj)) (D:Ends) (f:Flow) (s':Shared):Prop :=
  match f with
  | .next=>∃ σ' H',Inv X pins σ' H' s'∧D.nx σ' H'
  | .brk=>∃ σ' H',Inv X pins σ' H' s'∧D.bk σ' H'
  | .cont=>∃ σ' H',Inv X pins σ' H' s'∧D.ct σ' H'
  | .ret u=>∃ v σ' H',Inv X pins σ' H' s'∧yn v u∧D.rt v H'

def PE (X:Cx) (e:Expr) (t:TE):Prop :=
  ∀ (pins:List (Addr × Obj)) (s:Shared) (σ:St) (H:Hp) (Q:VK),Inv X pins σ H s->t σ H Q->wpAny (model X.prog X.w) X.A (eval e X.env) (EP X pins σ Q) X.xe s
def PT (X:Cx) (e:Expr) (t:TT):Prop :=
  ∀ (pins:List (Addr × Obj)) (s:Shared) (σ:St) (H:Hp) (Q:Bool->Hp->Prop),Inv X pins σ H s->t σ H Q->wpAny (model X.prog X.w) X.A (isTrue e X.env (eval e X.env)) (TP X pins σ Q) X.xe s
def PW (X:Cx) (e:Expr) (t:TT):Prop :=
  ∀ (whole:Sem Value) (pins:List (Addr × Obj)) (s:Shared) (σ:St) (H:Hp) (Q:Bool->Hp->Prop),Inv X pins σ H s->t σ H Q->wpAny (model X.prog X.w) X.A (isTrue e X.env whole) (TP X pins σ Q) X.xe s
theorem PW.pt {X:Cx} {e:Expr} {t:TT} (h:PW X e t):PT X e t:=h _
def PA (X:Cx) (es:List Expr) (t:TA):Prop :=
  ∀ (pos:Pos) (pins:List (Addr × Obj)) (s:Shared) (σ:St) (H:Hp) (Q:List V->Hp->Prop),Inv X pins σ H s->t σ H Q->wpAny (model X.prog X.w) X.A (spliced (backTo pos (starEach es X.env))) (AP X pins σ Q) X.xe s
def PS (X:Cx) (st:Stmt) (t:TS):Prop :=
  ∀ (pins:List (Addr × Obj)) (s:Shared) (σ:St) (H:Hp) (D:Ends),Inv X pins σ H s->t D σ H->wpAny (model X.prog X.w) X.A (exec st X.env) (SP X pins D) X.xe s
def PSs (X:Cx) (st:List Stmt) (t:TS):Prop :=
  ∀ (pins:List (Addr × Obj)) (s:Shared) (σ:St) (H:Hp) (D:Ends),Inv X pins σ H s->t D σ H->wpAny (model X.prog X.w) X.A (execs st X.env) (SP X pins D) X.xe s
theorem thn {α:Type} {t:Sem α} {Q Q':α->Shared->Prop} {M:Model} {A:Around} {E:Value->Shared->Prop} {s:Shared} (h:wpAny M A t Q E s) (hQ:∀ a s,Q a s->Q' a s):wpAny M A t Q' E s:=wpAny_mono h hQ fun _ _ x=>x
end L2

namespace L2
open PySem PySem.Spec PyProof.Rows
section
variable {X:Cx}

def tVar (i:Nat):TE:=fun σ H Q=>∃ v,σ[i]? = some (some v)∧Q v H
def tC (v:V):TE:=fun _ H Q=>Q v H
theorem pe_var {i:Nat} {x:Str} {pos:Pos} (hN:X.N[i]? = some x) (hv:Vis X.env.scope x) (hd:(x == ("__debug__":Str))=false:=by decide) (hcd:(x == ("__classdict__":Str))=false:=by decide):PE X (.Name x pos) (tVar i):=by
  intro pins s σ H Q I h
  obtain ⟨v,e,h⟩:=h
  obtain ⟨m,hn,hl⟩:=I.loc
  obtain ⟨u,r,l⟩:=hl i x v hN e hv
  have fin:EP X pins σ Q u s:=⟨v,H,I,r,h⟩
  rcases l with ⟨hk,hm⟩ | ⟨hk,c,hc,hcell⟩
  · exact wpAny_Name (wpAny_loadName_local I.ok.kind hk hn hm fin) hd
  · rcases hk with hk | hk
    · exact wpAny_Name (wpAny_loadName_cell I.ok.kind hk hc hcell fin) hd
    · exact wpAny_Name (wpAny_loadName_free I.ok.kind hk hc hcell fin hcd) hd
theorem pe_int {i j pos}:PE X (.Constant (.int i) j pos) (tC (.int i)):=fun _ _ _ H _ I h=>wpAny_Constant_int ⟨.int i,H,I.tok _,⟨_,rfl⟩,h⟩
theorem pe_bl {b j pos}:PE X (.Constant (.bool b) j pos) (tC (.bl b)):=fun _ _ _ H _ I h=>Constant_bool ⟨.bl b,H,I,rfl,h⟩
theorem pe_non {j pos}:PE X (.Constant .none j pos) (tC .non):=fun _ _ _ H _ I h=>Constant_none ⟨.non,H,I,rfl,h⟩
theorem pe_str {x j pos}:PE X (.Constant (.str x) j pos) (tC (.str x)):=fun _ _ _ H _ I h=>Calls.Constant_str ⟨.str x,H,I.tok _,⟨_,rfl⟩,h⟩

def Gl (X:Cx) (x:Str):Prop:=X.env.kindOf x=some .globalImplicit
theorem Yg {E:Value->Shared->Prop} {pins:List (Addr × Obj)} {s:Shared} {σ:St} {H:Hp} {x:Str} {u:Value} {pos:Pos} {Q:Value->Shared->Prop} (I:Inv X pins σ H s) (hg:Gl X x) (hm:X.mg x=some u) (h:Q u s)
    (hd:(x == ("__debug__":Str))=false:=by decide):wpAny (model X.prog X.w) X.A (eval (.Name x pos) X.env) Q E s :=
  Calls.Name_function_global I.ok.kind hg (Calls.loadGlobal_global (by rw [I.ok.glob]; exact I.mod.glob.keeps I.bk) hm h) hd
theorem JC {E:Value->Shared->Prop} {pins:List (Addr × Obj)} {s:Shared} {σ:St} {H:Hp} {x:Str} {u:Value} {pos:Pos} {Q:Value->Shared->Prop} (I:Inv X pins σ H s) (hg:Gl X x) (hm:X.mg x=none) (hv:bootBuiltins x=some u) (h:Q u s)
    (hn:x≠"__name__":=by decide) (hd:(x == ("__debug__":Str))=false:=by decide):wpAny (model X.prog X.w) X.A (eval (.Name x pos) X.env) Q E s:=by
  obtain ⟨mb,h1,h2⟩:=I.mod.blt
  exact Calls.Name_function_global I.ok.kind hg (Calls.loadGlobal_builtin (by rw [I.ok.glob]; exact I.mod.glob.keeps I.bk) hm (by rw [I.ok.blt]; exact h1.keeps I.bk) ((h2 x hn).trans hv) h) hd
theorem pe_glob {x:Str} {v:V} {u:Value} {pos:Pos} (hg:Gl X x) (hm:X.mg x=some u) (r:yn v u) (hd:(x == ("__debug__":Str))=false:=by decide):PE X (.Name x pos) (tC v) :=
  fun _ _ _ H _ I h=>Yg I hg hm ⟨v,H,I,r,h⟩ hd
theorem pe_bltn {x:Str} {v:V} {u:Value} {pos:Pos} (hg:Gl X x) (hm:X.mg x=none) (hv:bootBuiltins x=some u) (r:yn v u) (hn:x≠"__name__":=by decide) (hd:(x == ("__debug__":Str))=false:=by decide):PE X (.Name x pos) (tC v) :=
  fun _ _ _ H _ I h=>JC I hg hm hv ⟨v,H,I,r,h⟩ hn hd

variable {a b:Expr} {ta tb:TE} {pos:Pos}
variable {tA tB':TT} {rest:List Expr}
def tAnd (t u:TT):TT:=fun σ H Q=>t σ H fun c H1=>if c=true then u σ H1 Q else Q false H1
def tOr (t u:TT):TT:=fun σ H Q=>t σ H fun c H1=>if c=true then Q true H1 else u σ H1 Q
def tNot (t:TT):TT:=fun σ H Q=>t σ H fun c H1=>Q (!c) H1
theorem pw_and1 (ha:PT X a tA):PW X (.BoolOp .And [a] pos) tA:=by
  intro wh pins s σ H Q I h
  refine isTrue_and (thn (ha pins s σ H Q I h) fun c s1 e=>?_)
  cases c with
  | true=>exact isTrue_and_nil e
  | false=>exact e
theorem pw_or1 (ha:PT X a tA):PW X (.BoolOp .Or [a] pos) tA:=by
  intro wh pins s σ H Q I h
  refine isTrue_or (thn (ha pins s σ H Q I h) fun c s1 e=>?_)
  cases c with
  | false=>exact isTrue_or_nil e
  | true=>exact e
theorem pw_and (ha:PT X a tA) (hb:PW X (.BoolOp .And (b :: rest) pos) tB'):PW X (.BoolOp .And (a :: b :: rest) pos) (tAnd tA tB'):=by
  intro wh pins s σ H Q I h
  refine isTrue_and (thn (ha pins s σ H _ I h) fun c s1 hQQ=>?_)
  obtain ⟨H1,I1,q1⟩:=hQQ
  cases c with
  | true=>exact hb wh pins s1 σ H1 Q I1 q1
  | false=>exact ⟨H1,I1,q1⟩
theorem pw_or (ha:PT X a tA) (hb:PW X (.BoolOp .Or (b :: rest) pos) tB'):PW X (.BoolOp .Or (a :: b :: rest) pos) (tOr tA tB'):=by
  intro wh pins s σ H Q I h
  refine isTrue_or (thn (ha pins s σ H _ I h) fun c s1 hQQ=>?_)
  obtain ⟨H1,I1,q1⟩:=hQQ
  cases c with
  | true=>exact ⟨H1,I1,q1⟩
  | false=>exact hb wh pins s1 σ H1 Q I1 q1
theorem pt_not (ha:PT X a tA):PT X (.UnaryOp .Not a pos) (tNot tA):=by
  intro pins s σ H Q I h
  exact isTrue_not (ha pins s σ H (fun c H1=>Q (!c) H1) I h)
def tAndV (ta tb:TE):TE:=fun σ H Q=>ta σ H fun x H1=>∃ c,x = .bl c∧if c=true then tb σ H1 Q else Q (.bl false) H1
def tNotV (ta:TE):TE:=fun σ H Q=>ta σ H fun x H1=>∃ c,x = .bl c∧Q (.bl (!c)) H1
theorem pe_one {op} {t:TE} (h:PE X a t):PE X (.BoolOp op [a] pos) t:=fun pins s σ H Q I hw=>BoolOp_one (h pins s σ H Q I hw)
theorem pe_and (ha:PE X a ta) (hb:PE X (.BoolOp .And (b :: rest) pos) tb):PE X (.BoolOp .And (a :: b :: rest) pos) (tAndV ta tb):=by
  intro pins s σ H Q I h
  refine BoolOp_and (thn (ha pins s σ H _ I h) fun v s1 hQQ=>?_)
  obtain ⟨x,H1,I1,r1,q1⟩:=hQQ
  obtain ⟨c,rfl,q1⟩:=q1
  cases r1
  refine wpAny_truthy_bool ?_
  cases c with
  | true=>exact hb pins s1 σ H1 Q I1 q1
  | false=>exact ⟨.bl false,H1,I1,rfl,q1⟩
theorem pe_not (ha:PE X a ta):PE X (.UnaryOp .Not a pos) (tNotV ta):=by
  intro pins s σ H Q I h
  refine UnaryOp_ (thn (ha pins s σ H _ I h) fun v s1 hQQ=>?_)
  obtain ⟨x,H1,I1,r1,q1⟩:=hQQ
  obtain ⟨c,rfl,q1⟩:=q1
  cases r1
  exact not_of (wpAny_truthy_bool ⟨.bl (!c),H1,I1,rfl,q1⟩)
def tIf (t:TT) (ta tb:TE):TE:=fun σ H Q=>t σ H fun c H1=>if c=true then ta σ H1 Q else tb σ H1 Q
theorem pe_ifExp {c:Expr} (hc:PT X c tA) (ha:PE X a ta) (hb:PE X b tb):PE X (.IfExp c a b pos) (tIf tA ta tb):=by
  intro pins s σ H Q I h
  refine wpAny_IfExp (thn (hc pins s σ H _ I h) fun d s1 hQQ=>?_)
  obtain ⟨H1,I1,q1⟩:=hQQ
  cases d with
  | true=>exact ha pins s1 σ H1 Q I1 q1
  | false=>exact hb pins s1 σ H1 Q I1 q1
end
end L2

namespace L2
open PySem PySem.Spec PyProof.Rows

def SqL (K:PySem.W.Frag) (H:Hp) (a:Addr) (xs:List V):Prop :=
  Rd H a (.lst xs) ∨
    ∃ (o:Obj) (its:Array Value) (n:Nat),K.lookup a=some o∧o.cls = .type "list"∧o.dict=none∧o.data = .seq its n∧its.size<=sizeLine∧ym xs its.toList
def SqT (K:PySem.W.Frag) (H:Hp) (a:Addr) (xs:List V):Prop :=
  Rd H a (.tup xs) ∨
    ∃ (o:Obj) (its:Array Value) (n:Nat),K.lookup a=some o∧o.cls = .type "tuple"∧o.data = .seq its n∧its.size<=sizeLine∧ym xs its.toList
def absV:Value->Option V
  | .none=>some .non
  | .bool b=>some (.bl b)
  | .int i _=>some (.int i)
  | .str x _=>some (.str x)
  | .bytes b _=>some (.byt b)
  | .float b _=>some (.flt b)
  | .ref a=>some (.ref a)
  | .type n=>some (.ty n)
  | _=>none
theorem yn.abs {x:V} {u:Value} (r:yn x u):absV u=some x:=by
  cases x with
  | non=>cases r; rfl
  | bl _=>cases r; rfl
  | int _=>obtain ⟨t,rfl⟩:=r; rfl
  | str _=>obtain ⟨t,rfl⟩:=r; rfl
  | byt _=>obtain ⟨t,rfl⟩:=r; rfl
  | flt _=>obtain ⟨t,rfl⟩:=r; rfl
  | ref _=>cases r; rfl
  | ty _=>cases r; rfl
theorem yn.inj {x y:V} {u:Value} (r:yn x u) (q:yn y u):x=y:=Option.some.inj (r.abs.symm.trans q.abs)
theorem ym.inj {xs ys:List V} {us:List Value} (h:ym xs us) (h':ym ys us):xs=ys:=by
  induction h generalizing ys with
  | nil=>cases h'; rfl
  | cons r t ih =>
    cases h' with
    | cons r' t'=>rw [r.inj r',ih t']
section
variable {X:Cx} {pins:List (Addr × Obj)} {σ:St} {H:Hp} {s:Shared} {a:Addr} {xs ys:List V}
theorem SqL.of {K:PySem.W.Frag} (h:H a=some (.lst xs)):SqL K H a xs:=.inl (.inl h)
theorem SqT.of {K:PySem.W.Frag} (h:H a=some (.tup xs)):SqT K H a xs:=.inl (.inl h)
theorem Inv.list (I:Inv X pins σ H s) (h:SqL X.K H a xs):∃ its:List Value,ym xs its∧PlainL s.heap a its.toArray∧xs.length<=sizeLine:=by
  rcases h with h | ⟨o,its,n,hk,hc,hd,hs,hz,r⟩
  · obtain ⟨z,its,n,r,e⟩:=h.ok I.hok
    exact ⟨its,r,⟨_,n,e,rfl,rfl,rfl⟩,z⟩
  · refine ⟨its.toList,r,⟨o,n,I.kIn a o hk,hc,hd,by simpa using hs⟩,?_⟩
    have e:=r.length
    simp only [Array.length_toList] at e
    omega
theorem Inv.tuple (I:Inv X pins σ H s) (h:SqT X.K H a xs):∃ its:List Value,ym xs its∧IsTup s.heap a its.toArray∧xs.length<=sizeLine:=by
  rcases h with h | ⟨o,its,n,hk,hc,hs,hz,r⟩
  · obtain ⟨z,its,r,p⟩:=h.ok I.hok
    exact ⟨its,r,p,z⟩
  · refine ⟨its.toList,r,⟨o,I.kIn a o hk,hc,n,by simpa using hs⟩,?_⟩
    have e:=r.length
    simp only [Array.length_toList] at e
    omega
theorem Inv.list_inj (I:Inv X pins σ H s) (h:SqL X.K H a xs) (h':SqL X.K H a ys):xs=ys:=by
  obtain ⟨its,r,⟨o,n,e,_,_,d⟩,_⟩:=I.list h
  obtain ⟨its',r',⟨o',n',e',_,_,d'⟩,_⟩:=I.list h'
  rw [e] at e'; cases e'
  rw [d] at d'
  injection d' with d1 _
  have:its=its':=by simpa using congrArg Array.toList d1
  subst this
  exact r.inj r'
theorem Inv.tuple_inj (I:Inv X pins σ H s) (h:SqT X.K H a xs) (h':SqT X.K H a ys):xs=ys:=by
  obtain ⟨its,r,⟨o,e,_,n,d⟩,_⟩:=I.tuple h
  obtain ⟨its',r',⟨o',e',_,n',d'⟩,_⟩:=I.tuple h'
  rw [e] at e'; cases e'
  rw [d] at d'
  injection d' with d1 _
  have:its=its':=by simpa using congrArg Array.toList d1
  subst this
  exact r.inj r'
end

abbrev Cx.wish (X:Cx) (E:Value->Shared->Prop):Cx:={ X with xe:=E }
abbrev Cx.nox (X:Cx):Cx:=X.wish fun _ _=>False
theorem Cx.Ok.wish {X:Cx} (ok:X.Ok) (E:Value->Shared->Prop):(X.wish E).Ok :=
  ⟨ok.mod,ok.kind,ok.glob,ok.blt,ok.above,ok.inj,ok.has,ok.cab,ok.hd,ok.frames,ok.stk,ok.exf,ok.bs,ok.bsz,ok.noex,ok.exfs,ok.funs,ok.frf⟩
theorem Cx.Ok.unwish {X:Cx} {E:Value->Shared->Prop} (ok:(X.wish E).Ok):X.Ok :=
  ⟨ok.mod,ok.kind,ok.glob,ok.blt,ok.above,ok.inj,ok.has,ok.cab,ok.hd,ok.frames,ok.stk,ok.exf,ok.bs,ok.bsz,ok.noex,ok.exfs,ok.funs,ok.frf⟩
section
variable {X:Cx} {pins:List (Addr × Obj)} {σ:St} {H:Hp} {s:Shared} {E:Value->Shared->Prop}
theorem Inv.wish (I:Inv X pins σ H s) (E:Value->Shared->Prop):Inv (X.wish E) pins σ H s:=⟨I.ok.wish E,I.os,I.bare,I.base,I.loc,I.cell,I.free,I.freeC,I.pin,I.hok,I.len⟩
theorem Inv.unwish (I:Inv (X.wish E) pins σ H s):Inv X pins σ H s:=⟨I.ok.unwish,I.os,I.bare,I.base,I.loc,I.cell,I.free,I.freeC,I.pin,I.hok,I.len⟩
theorem SP.unwish {D:Ends} {f:Flow} {s':Shared} (h:SP (X.wish E) pins D f s'):SP X pins D f s':=by
  cases f with
  | next=>obtain ⟨σ',H',I,q⟩:=h; exact ⟨σ',H',I.unwish,q⟩
  | brk=>obtain ⟨σ',H',I,q⟩:=h; exact ⟨σ',H',I.unwish,q⟩
  | cont=>obtain ⟨σ',H',I,q⟩:=h; exact ⟨σ',H',I.unwish,q⟩
  | ret u=>obtain ⟨v,σ',H',I,r,q⟩:=h; exact ⟨v,σ',H',I.unwish,r,q⟩
theorem PSs.nox {st:List Stmt} {t:TS} (h:PSs X.nox st t):PSs X st t:=fun pins s σ H D I hw =>
  wpAny_mono (h pins s σ H D (I.wish _) hw) (fun _ _ q=>q.unwish) fun _ _ z=>False.elim z
end

section
variable {X:Cx} {st:Stmt} {rest:List Stmt} {t u:TS} {e:Expr} {te:TE} {pos:Pos}
def tNext:TS:=fun D σ H=>D.nx σ H
def tSeq (t u:TS):TS:=fun D σ H=>t { D with nx:=u D } σ H
theorem pss_nil:PSs X [] tNext:=fun _ _ σ H _ I h=>wpAny_execs_nil ⟨σ,H,I,h⟩
theorem pss_cons (h1:PS X st t) (h2:PSs X rest u):PSs X (st :: rest) (tSeq t u):=by
  intro pins s σ H D I h
  refine wpAny_execs_cons (thn (h1 pins s σ H { D with nx:=u D } I h) fun f s1 q=>?_)
  cases f with
  | next =>
    obtain ⟨σ',H',I',q⟩:=q
    exact h2 pins s1 σ' H' D I' q
  | ret v=>exact q
  | brk=>exact q
  | cont=>exact q
theorem pss_one (h1:PS X st t):PSs X [st] t:=by
  intro pins s σ H D I h
  refine wpAny_execs_cons (thn (h1 pins s σ H D I h) fun f s1 q=>?_)
  cases f with
  | next=>exact wpAny_execs_nil q
  | ret v=>exact q
  | brk=>exact q
  | cont=>exact q
theorem Inv.quiet {pins:List (Addr × Obj)} {σ:St} {H:Hp} {s:Shared} (I:Inv X pins σ H s):interactive X.env=false:=by simp [interactive,I.ok.kind]
def tDrop (te:TE):TS:=fun D σ H=>te σ H fun _ H1=>D.nx σ H1
theorem ps_expr (he:PE X e te) (hs:swapsWith e none pos.line X.env=pure false:=by rfl):PS X (.Expr e pos) (tDrop te):=by
  intro pins s σ H D I h
  exact wpAny_Expr_any (thn (he pins s σ H _ I h) fun v s1 ⟨x,H1,I1,r1,q1⟩=>⟨σ,H1,I1,q1⟩) I.quiet hs
def tRet (te:TE):TS:=fun D σ H=>te σ H D.rt
theorem ps_ret (he:PE X e te):PS X (.Return (some e) pos) (tRet te):=by
  intro pins s σ H D I h
  exact wpAny_Return_some (thn (he pins s σ H _ I h) fun v s1 ⟨x,H1,I1,r1,q1⟩=>⟨x,σ,H1,I1,r1,q1⟩)
def tIfS (c:TT) (t u:TS):TS:=fun D σ H=>c σ H fun b H1=>if b=true then t D σ H1 else u D σ H1
theorem ps_if {c:Expr} {a b:List Stmt} {tc:TT} (hc:PT X c tc) (ha:PSs X a t) (hb:PSs X b u):PS X (.If c a b pos) (tIfS tc t u):=by
  intro pins s σ H D I h
  refine wpAny_If (thn (hc pins s σ H _ I h) fun d s1 hQQ=>?_)
  obtain ⟨H1,I1,q1⟩:=hQQ
  cases d with
  | true=>exact ha pins s1 σ H1 D I1 q1
  | false=>exact hb pins s1 σ H1 D I1 q1
def tNever:TS:=fun _ _ _=>False
theorem ps_never:PS X st tNever:=fun _ _ _ _ _ _ h=>h.elim
end

abbrev TG:=V->St->Hp->(St->Hp->Prop)->Prop
abbrev TGs:=List V->St->Hp->(St->Hp->Prop)->Prop
def PG (X:Cx) (target:Expr) (t:TG):Prop :=
  ∀ (pins:List (Addr × Obj)) (s:Shared) (σ:St) (H:Hp) (v:V) (u:Value) (Q:St->Hp->Prop),Inv X pins σ H s->yn v u->t v σ H Q ->
    wpAny (model X.prog X.w) X.A (assign target X.env u) (fun _ s'=>∃ σ' H',Inv X pins σ' H' s'∧Q σ' H') X.xe s
def PGs (X:Cx) (ts:List Expr) (t:TGs):Prop :=
  ∀ (pins:List (Addr × Obj)) (s:Shared) (σ:St) (H:Hp) (vs:List V) (us:List Value) (Q:St->Hp->Prop),Inv X pins σ H s->ym vs us->t vs σ H Q ->
    wpAny (model X.prog X.w) X.A (assignInOrder ((assignEach ts X.env).map (·.2)) us) (fun _ s'=>∃ σ' H',Inv X pins σ' H' s'∧Q σ' H') X.xe s
abbrev TSet:=V->V->V->Hp->(Hp->Prop)->Prop
def PSet (X:Cx) (t:TSet):Prop :=
  ∀ (pins:List (Addr × Obj)) (s:Shared) (σ:St) (H:Hp) (o i v:V) (ov iv u:Value) (Q:Hp->Prop),Inv X pins σ H s->yn o ov->yn i iv->yn v u->t o i v H Q ->
    wpAny (model X.prog X.w) X.A (setItem ov iv u) (fun _ s'=>∃ H',Inv X pins σ H' s'∧Q H') X.xe s
section
variable {X:Cx} {pos:Pos}
def vv (i:Nat):TG:=fun v σ H Q=>Q (σ.set i (some v)) H
theorem jO {i:Nat} {x:Str} (hN:X.N.Nodup) (hi:X.N[i]? = some x) (hx:Loc X.env.scope x) (hf:X.fn x=true∨X.env.scope.names.lookup x=some .local:=by first | exact .inl rfl | exact .inr rfl | assumption):PG X (.Name x pos) (vv i):=by
  intro pins s σ H v u Q I r h
  exact wpAny_assign_Name (store_ok I hN hi hx r (fun s' I'=>⟨_,H,I',h⟩) hf)
def gNil:TGs:=fun vs σ H Q=>vs=[]∧Q σ H
def uR (t:TG) (u:TGs):TGs:=fun vs σ H Q=>∃ v r,vs=v :: r∧t v σ H fun σ' H'=>u r σ' H' Q
theorem JX:PGs X [] gNil:=by
  intro pins s σ H vs us Q I r h
  obtain ⟨e,h⟩:=h
  subst e
  cases r
  exact assignInOrder_nil ⟨σ,H,I,h⟩
theorem xI {e:Expr} {es:List Expr} {t:TG} {u:TGs} (h1:PG X e t) (h2:PGs X es u)
    (hs:(assignEach (e :: es) X.env).map (·.2)=assign e X.env :: (assignEach es X.env).map (·.2):=by rfl):PGs X (e :: es) (uR t u):=by
  intro pins s σ H vs us Q I r h
  obtain ⟨v,vr,e1,h⟩:=h
  subst e1
  cases r with
  | cons r rr =>
    rw [hs]
    refine assignInOrder_cons (thn (h1 pins s σ H _ _ _ I r h) fun _ s1 hQQ=>?_)
    obtain ⟨σ1,H1,I1,q1⟩:=hQQ
    exact h2 pins s1 σ1 H1 _ _ Q I1 rr q1
def gTup (K:PySem.W.Frag) (n:Nat) (t:TGs):TG:=fun v σ H Q=>∃ a xs,v = .ref a∧SqT K H a xs∧xs.length=n∧t xs σ H Q
theorem pg_tup {es:List Expr} {k:Nat} {t:TGs} {n:Nat} (hc:X.calm=true) (h:PGs X es t)
    (hn:(assignEach es X.env).length=n:=by rfl) (hst:(assignEach es X.env).findIdx? (·.1)=none:=by rfl):PG X (.Tuple es k pos) (gTup X.K n t):=by
  intro pins s σ H v u Q I r hw
  obtain ⟨a,xs,e1,hq,hl,hw⟩:=hw
  subst e1
  cases r
  obtain ⟨its,rv,ht,hz⟩:=I.tuple hq
  refine assign_Tuple_tuple (I.ok.hd hc) ht (by simp [hn,<- hl,rv.length]) hst fun h' hx=>?_
  have I1:Inv X pins σ H { s with heap:=h' }:=I.kept (t':=s.toks) fun b o e=>hx b o (Nat.ne_of_lt (Heap.lt_size e)) e
  exact h pins _ σ H xs _ Q I1 (by simpa using rv) hw
def xF (to ti:TE) (t:TSet):TG:=fun v σ H Q=>to σ H fun o H1=>ti σ H1 fun i H2=>t o i v H2 fun H3=>Q σ H3
theorem pg_sub {o i:Expr} {to ti:TE} {t:TSet} (ho:PE X o to) (hi:PE X i ti) (hs:PSet X t)
    (ha:∀ v,assign (.Subscript o i pos) X.env v=(do
      let ov <- holding [v] (eval o X.env)
      let iv <- holding [v,ov] (eval i X.env)
      standAt pos
      holding [v,ov,iv] (setItem ov iv v)
      release [v,ov,iv] []):=by intro _; rfl):PG X (.Subscript o i pos) (xF to ti t):=by
  intro pins s σ H v u Q I r h
  rw [ha]
  refine wpAny_bind (wpAny_holding (thn (ho pins s σ H _ I h) fun ov s1 hQQ=>?_))
  obtain ⟨x,H1,I1,r1,q1⟩:=hQQ
  refine wpAny_bind (wpAny_holding (thn (hi pins s1 σ H1 _ I1 q1) fun iv s2 hQQ=>?_))
  obtain ⟨y,H2,I2,r2,q2⟩:=hQQ
  refine wpAny_bind (wpAny_standAt (wpAny_bind (wpAny_holding (thn (hs pins s2 σ H2 x y v ov iv u _ I2 r1 r2 r q2) fun _ s3 hQQ=>?_))))
  obtain ⟨H3,I3,q3⟩:=hQQ
  exact wpAny_release ⟨σ,H3,I3,q3⟩
def tAsg (te:TE) (g:TG):TS:=fun D σ H=>te σ H fun x H1=>g x σ H1 D.nx
theorem ps_asg {tg e:Expr} {te:TE} {g:TG} (he:PE X e te) (hg:PG X tg g) (hs:swapsWithSole [tg] e pos.line X.env=pure false:=by rfl) (hw:swappedStores [tg] e X.env=pure none:=by rfl)
    (h1:(assignEach [tg] X.env).map (·.2)=[assign tg X.env]:=by rfl):PS X (.Assign [tg] e pos) (tAsg te g):=by
  intro pins s σ H D I h
  refine wpAny_Assign_stores (thn (he pins s σ H _ I h) fun v s1 hQQ=>?_) hs hw
  obtain ⟨x,H1,I1,r1,q1⟩:=hQQ
  rw [h1]
  exact thn (hg pins s1 σ H1 x v _ I1 r1 q1) fun _ s2 q=>q
theorem ps_set {i:Nat} {x:Str} {e:Expr} {te:TE} {pos':Pos} (hN:X.N.Nodup) (hi:X.N[i]? = some x) (hx:Loc X.env.scope x) (he:PE X e te) (hs:swapsWith e (some (.Name x pos')) pos.line X.env=pure false:=by rfl) (hf:X.fn x=true∨X.env.scope.names.lookup x=some .local:=by first | exact .inl rfl | exact .inr rfl | assumption) :
    PS X (.Assign [.Name x pos'] e pos) (tAsg te (vv i)):=by
  intro pins s σ H D I h
  refine wpAny_Assign_Name (thn (he pins s σ H _ I h) fun v s1 hQQ=>?_) hs
  obtain ⟨y,H1,I1,r1,q1⟩:=hQQ
  exact store_ok I1 hN hi hx r1 (fun s2 I2=>⟨_,H1,I2,q1⟩) hf
end

section
variable {X:Cx} {pos:Pos}
end

structure It where
  go:Nat->Hp->Prop
  yld:Nat->Hp->V->Hp->Prop
  stop:Nat->Hp->Prop
def Jn (X:Cx) (pins:List (Addr × Obj)) (H:Hp) (b:Addr):Prop :=
  H b=none∧b≠X.env.locals∧b ∉ X.fs∧(b ∈ X.ex∨X.s₀.heap.objs.size<=b)∧(∀ x c,X.env.cells.lookup x=some c->c≠b)∧∀ p ∈ X.pn ++ pins,p.1≠b
theorem Inv.fpOk {X:Cx} {pins:List (Addr × Obj)} {σ:St} {H H':Hp} {s:Shared} {b:Addr} (I:Inv X pins σ H s) (hb:s.heap.objs.size<=b) (hn:H' b=none):Jn X pins H' b:=by
  refine ⟨hn,Nat.ne_of_gt (Nat.lt_of_lt_of_le I.lt hb),I.nofs hb,.inr (Nat.le_trans I.sz hb),fun x c e z=>?_,fun p hp z=>?_⟩
  · obtain ⟨v,q⟩:=I.cell x c e
    exact absurd (Nat.lt_of_lt_of_le q.lt (by rw [z]; exact hb)) (Nat.lt_irrefl _)
  · exact absurd (Nat.lt_of_lt_of_le (Heap.lt_size (I.pin p hp).1) (by rw [z]; exact hb)) (Nat.lt_irrefl _)
structure Turn (P:Program) (w:World) (K:PySem.W.Frag) (tg:Expr) (J:It) (fp:List Addr) (it:Addr) (tn:Nat->Heap->Prop):Prop where
  mem:it ∈ fp
  obj:∀ i h,tn i h->∀ b ∈ fp,∃ o,h.get? b=some o∧∀ v,o.data≠.cell v
  keep:∀ i h h',tn i h->(∀ b ∈ fp,∀ o,h.get? b=some o->h'.get? b=some o)->tn i h'
  item:∀ (X:Cx),X.prog=P->X.w=w->X.K=K->X.calm=true->∀ (i:Nat) (pins:List (Addr × Obj)) (s:Shared) (σ:St) (H:Hp) (E:Value->Shared->Prop),Inv X pins σ H s->(∀ b ∈ fp,Jn X pins H b)->tn i s.heap->J.go i H ->
    wpAny (model P w) X.A (pyNext (.ref it)) (fun r s1=>∃ u,r=some u ∧
      wpAny (model P w) X.A (letOwnedTupleGo tg (.ref it) u) (fun _ s2=>∃ x H',Inv X pins σ H' s2∧yn x u∧J.yld i H x H'∧tn (i + 1) s2.heap∧∀ b ∈ fp,H' b=none) E s1) E s
  done:∀ (X:Cx),X.prog=P->X.w=w->X.K=K->X.calm=true->∀ (i:Nat) (pins:List (Addr × Obj)) (s:Shared) (σ:St) (H:Hp) (E:Value->Shared->Prop),Inv X pins σ H s->(∀ b ∈ fp,Jn X pins H b)->tn i s.heap->J.stop i H ->
    wpAny (model P w) X.A (pyNext (.ref it)) (fun r s1=>r=none∧Inv X pins σ H s1) E s
  self:∀ (A:Around) (i:Nat) (s:Shared) (Q:Value->Shared->Prop) (E:Value->Shared->Prop),tn i s.heap->Q (.ref it) s->wpAny (model P w) A (pyIter (.ref it)) Q E s
abbrev TI:=St->Hp->(It->Hp->Prop)->Prop
def PIE (X:Cx) (pins:List (Addr × Obj)) (σ:St) (tg:Expr) (R:It->Hp->Prop) (itv:Value) (s2:Shared):Prop :=
  ∃ (it:Addr) (fp:List Addr) (tn:Nat->Heap->Prop) (J:It) (H':Hp),itv = .ref it∧Inv X pins σ H' s2∧Turn X.prog X.w X.K tg J fp it tn∧tn 0 s2.heap∧(∀ b ∈ fp,Jn X pins H' b)∧R J H'
def PI (X:Cx) (tg iter:Expr) (wi:TI):Prop :=
  ∀ (pins:List (Addr × Obj)) (s:Shared) (σ:St) (H:Hp) (R:It->Hp->Prop),Inv X pins σ H s->wi σ H R ->
    wpAny (model X.prog X.w) X.A (eval iter X.env) (fun v s1=>wpAny (model X.prog X.w) X.A (pyIter v) (PIE X pins σ tg R) X.xe s1) X.xe s

theorem go_of {M:Model} {A:Around} {E:Value->Shared->Prop} {s:Shared} {tg:Expr} {it:Addr} {u:Value} {o:Obj} {n:String} {vs:Array Value} {Q:Unit->Shared->Prop} (ho:s.heap.get? it=some o) (hc:o.cls = .type n) (hd:o.data = .fields vs)
    (hn:["enumerate","zip","dict_itemiterator","dict_reverseitemiterator","odict_iterator","itertools.zip_longest","itertools.pairwise"].contains n=false) (hQ:Q () s):wpAny M A (letOwnedTupleGo tg (.ref it) u) Q E s:=by
  unfold letOwnedTupleGo
  cases tg <;> first
    | exact wpAny_pure hQ
    | (cases u <;> first
        | exact wpAny_pure hQ
        | (refine wpAny_bind (wpAny_load ho ?_)
           rw [hc,hd]
           show wpAny M A (if (["enumerate","zip","dict_itemiterator","dict_reverseitemiterator","odict_iterator","itertools.zip_longest","itertools.pairwise"].contains n && vs[0]? == some (rawInt _))=true then _ else _) Q E s
           rw [if_neg (by intro h; rw [hn,Bool.false_and] at h; cases h)]
           exact wpAny_pure hQ))

def Itl (K:PySem.W.Frag) (a:Addr):It :=
  ⟨fun i H=>∃ xs x,SqL K H a xs∧xs[i]? = some x,fun i H x H'=>H'=H∧∀ xs,SqL K H a xs->xs[i]? = some x,fun i H=>∃ xs,SqL K H a xs∧xs.length<=i⟩
def Itr (lo:Int) (n:Nat):It:=⟨fun i _=>i < n,fun i H x H'=>H'=H∧x = .int (lo + i),fun i _=>n<=i⟩
theorem turn_list {P:Program} {w:World} {K:PySem.W.Frag} {tg:Expr} (a it:Addr):Turn P w K tg (Itl K a) [it] it (fun i h=>h.IsListIter it a i) where
  mem:=by simp
  obj:=fun i h st b hb=>by
    have e:b=it:=by simpa using hb
    subst e
    obtain ⟨o,e,c,d⟩:=st
    exact ⟨o,e,fun v z=>by rw [d] at z; cases z⟩
  keep:=fun i h h' st k=>st.at fun o e=>k it (by simp) o e
  item:=by
    intro X hP hw hK hc i pins s σ H E I hf st hg
    subst hP hw hK
    obtain ⟨xs,x,hq,hx⟩:=hg
    obtain ⟨its,rv,p,hz⟩:=I.list hq
    obtain ⟨u,hu,ru⟩:=rv.get hx
    obtain ⟨f0,f1,f2,f3,f4,f5⟩:=hf it (by simp)
    refine wpAny_pyNext_list_item st p.isList (x:=u) (by simpa using hu) fun h' st' sb=>?_
    have I1:Inv X pins σ H { s with heap:=h' }:=I.turned (t':=s.toks) (fun b o hb e=>(sb.2 b hb).trans e) f0 f1 f3 f4 f5
    obtain ⟨o,e,c,d⟩:=id st'
    exact ⟨u,rfl,go_of (s:={ s with heap:=h' }) e c d (by decide) ⟨x,H,I1,ru,⟨rfl,fun ys hy=>by rw [I.list_inj hy hq]; exact hx⟩,st',fun b hb=>(hf b hb).1⟩⟩
  done:=by
    intro X hP hw hK hc i pins s σ H E I hf st hg
    subst hP hw hK
    obtain ⟨xs,hq,hx⟩:=hg
    obtain ⟨its,rv,p,hz⟩:=I.list hq
    obtain ⟨f0,f1,f2,f3,f4,f5⟩:=hf it (by simp)
    have hl:=rv.length
    exact wpAny_pyNext_list_end (I.ok.hd hc) st p.isList (by simp; omega) fun h' eb=>⟨rfl,I.turned (t':=s.toks) (fun b o hb e=>eb b o hb e) f0 f1 f3 f4 f5⟩
  self:=fun _ _ _ _ _ st h=>wpAny_pyIter_listiter st h
theorem turn_range {P:Program} {w:World} {K:PySem.W.Frag} {tg:Expr} (it:Addr) (lo:Int) (n:Nat):Turn P w K tg (Itr lo n) [it] it (fun i h=>IsRangeIter h it (lo + (i:Nat) * 1) ((n:Int) - (i:Nat)) 1) where
  mem:=by simp
  obj:=fun i h st b hb=>by
    have e:b=it:=by simpa using hb
    subst e
    exact ⟨_,st,fun v z=>by
      have z':Data.fields _=Data.cell v:=z
      cases z'⟩
  keep:=fun i h h' st k=>k it (by simp) _ st
  item:=by
    intro X hP hw hK hc i pins s σ H E I hf st hg
    subst hP hw hK
    obtain ⟨f0,f1,f2,f3,f4,f5⟩:=hf it (by simp)
    have W:=Walks.range (prog:=X.prog) (w:=X.w) (I.ok.hd hc) it lo 1 n
    refine W.item i s _ _ hg st fun v h' tk hv st' kk=>?_
    obtain ⟨t,rfl⟩:=hv
    have I1:Inv X pins σ H { s with heap:=h',toks:=tk }:=I.turned (fun b o hb e=>kk b o (by simpa using hb) e) f0 f1 f3 f4 f5
    refine ⟨_,rfl,go_of (s:={ s with heap:=h',toks:=tk }) (n:="range_iterator") st' rfl rfl (by decide) ⟨.int (lo + i),H,I1,⟨t,?_⟩,⟨rfl,rfl⟩,st',fun b hb=>(hf b hb).1⟩⟩
    rw [Int.mul_one]
  done:=by
    intro X hP hw hK hc i pins s σ H E I hf st hg
    subst hP hw hK
    obtain ⟨f0,f1,f2,f3,f4,f5⟩:=hf it (by simp)
    exact wpAny_pyNext_range_end (I.ok.hd hc) st (by have:n<=i:=hg; omega) fun h' eb=>⟨rfl,I.turned (t':=s.toks) (fun b o hb e=>eb b o hb e) f0 f1 f3 f4 f5⟩
  self:=fun _ _ _ _ _ st h=>wpAny_pyIter_rangeiter st h
end L2

namespace L2
open PySem PySem.Spec PyProof.Rows
section
variable {X:Cx} {tg:Expr}
def iList (K:PySem.W.Frag) (tl:TE):TI:=fun σ H R=>tl σ H fun x H1=>∃ a,x = .ref a∧(∃ xs,SqL K H1 a xs)∧R (Itl K a) H1
theorem pi_list {l:Expr} {tl:TE} (hl:PE X l tl):PI X tg l (iList X.K tl):=by
  intro pins s σ H R I h
  refine thn (hl pins s σ H _ I h) fun v s1 hQQ=>?_
  obtain ⟨x,H1,I1,r1,q1⟩:=hQQ
  obtain ⟨a,e,⟨xs,hq⟩,q⟩:=q1
  subst e
  cases r1
  obtain ⟨its,rv,p,hz⟩:=I1.list hq
  refine wpAny_pyIter_list p.isList ?_
  refine ⟨s1.heap.objs.size,[s1.heap.objs.size],_,_,H1,rfl,I1.kept (t':=s1.toks) fun b o e=>Heap.get?_push_of_some _ e,turn_list a _,⟨_,Heap.get?_push_size _ rfl,rfl,rfl⟩,fun b hb=>?_,q⟩
  have e:b=s1.heap.objs.size:=by simpa using hb
  subst e
  exact I1.fpOk (Nat.le_refl _) (I1.hok.fresh (Nat.le_refl _))
theorem range_it {pins:List (Addr × Obj)} {σ:St} {H:Hp} {s:Shared} {R:It->Hp->Prop} {E:Value->Shared->Prop} {lo hi:Int} {t u v:Tok} {tk:Nat} (I:Inv X pins σ H s) (h1:-(2 ^ 62)<=lo) (h2:lo < 2 ^ 62) (h3:-(2 ^ 62)<=hi) (h4:hi < 2 ^ 62)
    (q:R (Itr lo (hi - lo).toNat) H):wpAny (model X.prog X.w) X.A (pyIter (.ref s.heap.objs.size)) (PIE X pins σ tg R) E { s with heap:=s.heap.push { cls:=.type "range",data:=.fields #[.int lo t,.int hi u,.int 1 v] },toks:=tk }:=by
  refine wpAny_pyIter_range (IsRange.new ..) (small_one h1 h2 h3 h4) ?_
  have I1:Inv X pins σ H { s with heap:=s.heap.push { cls:=.type "range",data:=.fields #[.int lo t,.int hi u,.int 1 v] },toks:=tk }:=I.kept fun b o e=>Heap.get?_push_of_some _ e
  refine ⟨(s.heap.push { cls:=.type "range",data:=.fields #[.int lo t,.int hi u,.int 1 v] }).objs.size,[(s.heap.push { cls:=.type "range",data:=.fields #[.int lo t,.int hi u,.int 1 v] }).objs.size],_,_,H,rfl,
    I1.kept (t':=tk) fun b o e=>Heap.get?_push_of_some _ e,turn_range _ lo (hi - lo).toNat,?_,fun b hb=>?_,q⟩
  · have e1:lo + ((0:Nat):Int) * 1=lo:=by simp
    have e2:(((hi - lo).toNat:Nat):Int) - ((0:Nat):Int)=Builtin.Range.rangeSize lo hi 1:=by rw [rangeSize_one]; split <;> omega
    show IsRangeIter _ _ (lo + ((0:Nat):Int) * 1) ((((hi - lo).toNat:Nat):Int) - ((0:Nat):Int)) 1
    rw [e1,e2]
    exact Heap.get?_push_size _ rfl
  · have e:b=(s.heap.push { cls:=.type "range",data:=.fields #[.int lo t,.int hi u,.int 1 v] }).objs.size:=by simpa using hb
    subst e
    exact I1.fpOk (Nat.le_refl _) (I1.hok.fresh (Nat.le_refl _))
def iRng1 (ta:TA):TI:=fun σ H R=>ta σ H fun vs H1=>∃ j:Int,vs=[.int j]∧-(2 ^ 62)<=j∧j < 2 ^ 62∧R (Itr 0 j.toNat) H1
theorem pi_range1 {a:Expr} {ta:TA} {p pos:Pos} (hg:Gl X "range") (hm:X.mg "range" = none) (ha:PA X [a] ta) (hs:starEach [a] X.env=[(false,eval a X.env)]:=by rfl):PI X tg (.Call (.Name "range" p) [a] [] pos) (iRng1 ta):=by
  intro pins s σ H R I h
  refine Call_ (JC I hg hm boot_range (PyProof.Rows.callWith_type1 (thn (ha pos pins s σ H _ I h) fun us s1 hQQ=>?_) hs rfl))
  obtain ⟨vs,H1,I1,r1,q1⟩:=hQQ
  obtain ⟨j,e,q1,q2,q⟩:=q1
  subst e
  cases r1 with
  | cons r rr =>
    cases rr
    obtain ⟨t,rfl⟩:=r
    exact call_range_1 (range_it I1 (by omega) (by omega) q1 q2 (by simpa using q))
def tFor (wi:TI) (g:TG) (tb:TS):TS:=fun D σ H=>wi σ H fun J H1=>∃ W:Nat->Nat->St->Hp->Prop,(∃ m,W 0 m σ H1)∧∀ i m σ H,W i m σ H ->
  (J.stop i H∧D.nx σ H)∨(J.go i H∧∃ N:St->Hp->Prop,(∀ σ' H',N σ' H'->∃ m',m' < m∧W (i + 1) m' σ' H')∧∀ x H',J.yld i H x H'->g x σ H' fun σ2 H2=>tb { D with nx:=N,ct:=N,bk:=D.nx } σ2 H2)
def pinsAt (fp:List Addr) (h:Heap):List (Addr × Obj):=fp.filterMap fun b=>(h.get? b).map fun o=>(b,o)
theorem uv {fp:List Addr} {h:Heap} {b:Addr} {o:Obj} (hb:b ∈ fp) (e:h.get? b=some o):(b,o) ∈ pinsAt fp h:=List.mem_filterMap.mpr ⟨b,hb,by rw [e]; rfl⟩
theorem of_pinsAt {fp:List Addr} {h:Heap} {p:Addr × Obj} (hp:p ∈ pinsAt fp h):p.1 ∈ fp∧h.get? p.1=some p.2:=by
  obtain ⟨b,hb,e⟩:=List.mem_filterMap.mp hp
  cases q:h.get? b with
  | none=>rw [q] at e; cases e
  | some o =>
    rw [q] at e
    have e':(b,o)=p:=Option.some.inj e
    subst e'
    exact ⟨hb,q⟩
theorem Inv.pinned {pins:List (Addr × Obj)} {σ:St} {H:Hp} {s:Shared} {fp:List Addr} (I:Inv X pins σ H s) (hf:∀ b ∈ fp,Jn X pins H b) (ho:∀ b ∈ fp,∃ o,s.heap.get? b=some o∧∀ v,o.data≠.cell v):Inv X (pins ++ pinsAt fp s.heap) σ H s :=
  I.pins_of fun p hp=>(List.mem_append.mp hp).elim (fun z=>I.pin p (List.mem_append_right _ z)) fun z=>by
    obtain ⟨hb,e⟩:=of_pinsAt z
    obtain ⟨f0,f1,f2,_⟩:=hf p.1 hb
    obtain ⟨o,e',d⟩:=ho p.1 hb
    rw [e] at e'; cases e'
    exact ⟨e,f0,f1,f2,d⟩
theorem Inv.unpinned {pins pl:List (Addr × Obj)} {σ:St} {H:Hp} {s:Shared} (I:Inv X (pins ++ pl) σ H s):Inv X pins σ H s:=I.pins_of fun p hp=>I.pin p (List.mem_append_right _ (List.mem_append_left _ hp))
theorem ps_for {iter:Expr} {body:List Stmt} {wi:TI} {g:TG} {tb:TS} {pos:Pos} (hp:PassesOwn (model X.prog X.w) X.A X.env X.xe) (hc:X.calm=true) (hi:PI X tg iter wi) (hg:PG X tg g) (hb:PSs X body tb)
    (hs:∀ x,foldedSetIterable iter X.env x=pure x:=by intro _; rfl):PS X (.For tg iter body [] pos) (tFor wi g tb):=by
  intro pins s σ H D I h
  refine wpAny_For (thn (hi pins s σ H _ I h) fun v s1 h1=>thn h1 fun itv s2 h2=>?_) hs
  obtain ⟨it,fp,tn,J,H2,e,I2,T,st2,f2,W,⟨m0,w0⟩,turn⟩:=h2
  subst e
  -- what stays true of the iterator's objects through the loop
  have stat:∀ {H':Hp},(∀ b ∈ fp,H' b=none)->∀ b ∈ fp,Jn X pins H' b:=fun hn b hb=>⟨hn b hb,(f2 b hb).2⟩
  refine codeAny_forLoop_any (fun n s'=>∃ i σ' H',Inv X pins σ' H' s'∧tn i s'.heap∧(∀ b ∈ fp,H' b=none)∧W i n σ' H') ?_ m0 ⟨0,σ,H2,I2,st2,fun b hb=>(f2 b hb).1,w0⟩
  rintro n s3 ⟨i,σ3,H3,I3,st3,fr3,w3⟩
  rcases turn i n σ3 H3 w3 with ⟨stop,qn⟩ | ⟨go,N,hN,step⟩
  · refine wpAny_passesOwn hp (thn (T.done X rfl rfl rfl hc i pins s3 σ3 H3 X.xe I3 (stat fr3) st3 stop) fun r s4 hQQ=>?_)
    obtain ⟨hr,I4⟩:=hQQ
    subst hr
    exact wpAny_execs_nil ⟨σ3,H3,I4,qn⟩
  · refine wpAny_passesOwn hp (thn (T.item X rfl rfl rfl hc i pins s3 σ3 H3 X.xe I3 (stat fr3) st3 go) fun r s4 hQQ=>?_)
    obtain ⟨u,hr,h4⟩:=hQQ
    subst hr
    refine wpAny_passesOwn hp (thn h4 fun _ s5 hQQ=>?_)
    obtain ⟨x,H5,I5,r5,y5,st5,fr5⟩:=hQQ
    have I5':=I5.pinned (stat fr5) (T.obj _ _ st5)
    refine wpAny_passesOwn hp (thn (hg _ s5 σ3 H5 x u _ I5' r5 (step x H5 y5)) fun _ s6 hQQ=>?_)
    obtain ⟨σ6,H6,I6,q6⟩:=hQQ
    refine wpAny_passesOwn hp (thn (hb _ s6 σ6 H6 _ I6 q6) fun f s7 q7=>?_)
    have again:∀ {σ7:St} {H7:Hp},Inv X (pins ++ pinsAt fp s5.heap) σ7 H7 s7->N σ7 H7->∃ m,m < n∧∃ i σ' H',Inv X pins σ' H' s7∧tn i s7.heap∧(∀ b ∈ fp,H' b=none)∧W i m σ' H':=fun {σ7 H7} I7 n7=>by
      obtain ⟨m',hm,w7⟩:=hN σ7 H7 n7
      refine ⟨m',hm,i + 1,σ7,H7,I7.unpinned,T.keep _ _ _ st5 fun b hb o e=>(I7.pin (b,o) (List.mem_append_right _ (List.mem_append_right _ (uv hb e)))).1,fun b hb=>?_,w7⟩
      obtain ⟨o,e,d⟩:=T.obj _ _ st5 b hb
      exact (I7.pin (b,o) (List.mem_append_right _ (List.mem_append_right _ (uv hb e)))).2.1
    cases f with
    | next=>obtain ⟨σ7,H7,I7,n7⟩:=q7; exact again I7 n7
    | cont=>obtain ⟨σ7,H7,I7,n7⟩:=q7; exact again I7 n7
    | brk=>obtain ⟨σ7,H7,I7,q7⟩:=q7; exact ⟨σ7,H7,I7.unpinned,q7⟩
    | ret v=>obtain ⟨x7,σ7,H7,I7,r7,q7⟩:=q7; exact ⟨x7,σ7,H7,I7.unpinned,r7,q7⟩
end

end L2

namespace L2
open PySem PySem.Spec PyProof.Rows

abbrev R2:=V->V->Hp->VK->Prop
def OpR (X:Cx) (f:Value->Value->Sem Value) (r:R2):Prop :=
  ∀ (pins:List (Addr × Obj)) (s:Shared) (σ:St) (H:Hp) (x y:V) (v u:Value) (Q:VK),Inv X pins σ H s->yn x v->yn y u->r x y H Q ->
    wpAny (model X.prog X.w) X.A (f v u) (EP X pins σ Q) X.xe s
def UnR (X:Cx) (f:Value->Sem Value) (r:V->Hp->VK->Prop):Prop :=
  ∀ (pins:List (Addr × Obj)) (s:Shared) (σ:St) (H:Hp) (x:V) (v:Value) (Q:VK),Inv X pins σ H s->yn x v->r x H Q ->
    wpAny (model X.prog X.w) X.A (f v) (EP X pins σ Q) X.xe s
def yy (X:Cx) (f:Value) (r:List V->Hp->VK->Prop):Prop :=
  ∀ (pins:List (Addr × Obj)) (s:Shared) (σ:St) (H:Hp) (xs:List V) (us:List Value) (Q:VK),Inv X pins σ H s->ym xs us->r xs H Q ->
    wpAny (model X.prog X.w) X.A (call f us) (EP X pins σ Q) X.xe s
def TruR (X:Cx) (r:V->Hp->(Bool->Hp->Prop)->Prop):Prop :=
  ∀ (pins:List (Addr × Obj)) (s:Shared) (σ:St) (H:Hp) (x:V) (v:Value) (Q:Bool->Hp->Prop),Inv X pins σ H s->yn x v->r x H Q ->
    wpAny (model X.prog X.w) X.A (truthy v) (TP X pins σ Q) X.xe s

def tOp (r:R2) (ta tb:TE):TE:=fun σ H Q=>ta σ H fun x H1=>tb σ H1 fun y H2=>r x y H2 Q
def tUn (r:V->Hp->VK->Prop) (ta:TE):TE:=fun σ H Q=>ta σ H fun x H1=>r x H1 Q
def rI (C:Int->Int->Prop) (g:Int->Int->V):R2:=fun x y H Q=>∃ i j,x = .int i∧y = .int j∧C i j∧Q (g i j) H
def rI0 (g:Int->Int->V):R2:=fun x y H Q=>∃ i j,x = .int i∧y = .int j∧Q (g i j) H
def rU (g:Int->V):V->Hp->VK->Prop:=fun x H Q=>∃ i,x = .int i∧Q (g i) H

section
variable {X:Cx} {a b c:Expr} {ta tb tc:TE} {pos:Pos}

theorem binT (ha:PE X a ta) (hb:PE X b tb) {pins:List (Addr × Obj)} {s:Shared} {σ:St} {H:Hp} {R:V->V->Hp->Prop} (I:Inv X pins σ H s)
    (h:ta σ H fun x H1=>tb σ H1 fun y H2=>R x y H2) {Q:Value->Shared->Prop} {f:Value->Value->Sem Value}
    (hf:∀ v u s2 x y H2,Inv X pins σ H2 s2->yn x v->yn y u->R x y H2->wpAny (model X.prog X.w) X.A (f v u) Q X.xe s2) :
    wpAny (model X.prog X.w) X.A (eval a X.env) (fun v s₁=>wpAny (model X.prog X.w) X.A (eval b X.env) (fun u s₂=>wpAny (model X.prog X.w) X.A (f v u) Q X.xe s₂) X.xe s₁) X.xe s:=by
  refine thn (ha pins s σ H _ I h) fun v s1 hQQ=>?_
  obtain ⟨x,H1,I1,r1,q1⟩:=hQQ
  refine thn (hb pins s1 σ H1 _ I1 q1) fun u s2 hQQ=>?_
  obtain ⟨y,H2,I2,r2,q2⟩:=hQQ
  exact hf v u s2 x y H2 I2 r1 r2 q2

theorem pe_op {op:Operator} {r:R2} (ho:OpR X (binaryOp op) r) (ha:PE X a ta) (hb:PE X b tb):PE X (.BinOp a op b pos) (tOp r ta tb):=by
  intro pins s σ H Q I h
  exact wpAny_BinOp (binT ha hb I h fun v u s2 x y H2 I2 rx ry q=>ho pins s2 σ H2 x y v u Q I2 rx ry q)
theorem pe_un {op:UnaryOp} {r:V->Hp->VK->Prop} (ho:UnR X (unaryOp op) r) (ha:PE X a ta):PE X (.UnaryOp op a pos) (tUn r ta):=by
  intro pins s σ H Q I h
  exact UnaryOp_ (thn (ha pins s σ H _ I h) fun v s1 ⟨x,H1,I1,r1,q1⟩=>ho pins s1 σ H1 x v Q I1 r1 q1)
theorem opI {f:Value->Value->Sem Value} {C:Int->Int->Prop} {g:Int->Int->Int}
    (rule:∀ (i j:Int) (t u:Tok) (s:Shared) (Q:Value->Shared->Prop) (E:Value->Shared->Prop),C i j->Q (.int (g i j) s.toks) { s with toks:=s.toks + 1 }->wpAny (model X.prog X.w) X.A (f (.int i t) (.int j u)) Q E s) :
    OpR X f (rI C fun i j=>.int (g i j)):=by
  intro pins s σ H x y v u Q I rx ry h
  obtain ⟨i,j,rfl,rfl,hc,q⟩:=h
  obtain ⟨t,rfl⟩:=rx
  obtain ⟨t',rfl⟩:=ry
  exact rule i j t t' s _ _ hc ⟨.int (g i j),H,I.tok _,⟨_,rfl⟩,q⟩
theorem opI0 {f:Value->Value->Sem Value} {g:Int->Int->Int}
    (rule:∀ (i j:Int) (t u:Tok) (s:Shared) (Q:Value->Shared->Prop) (E:Value->Shared->Prop),Q (.int (g i j) s.toks) { s with toks:=s.toks + 1 }->wpAny (model X.prog X.w) X.A (f (.int i t) (.int j u)) Q E s) :
    OpR X f (rI0 fun i j=>.int (g i j)):=by
  intro pins s σ H x y v u Q I rx ry h
  obtain ⟨i,j,rfl,rfl,q⟩:=h
  obtain ⟨t,rfl⟩:=rx
  obtain ⟨t',rfl⟩:=ry
  exact rule i j t t' s _ _ ⟨.int (g i j),H,I.tok _,⟨_,rfl⟩,q⟩
theorem opB0 {f:Value->Value->Sem Value} {g:Int->Int->Bool}
    (rule:∀ (i j:Int) (t u:Tok) (s:Shared) (Q:Value->Shared->Prop) (E:Value->Shared->Prop),Q (.bool (g i j)) s->wpAny (model X.prog X.w) X.A (f (.int i t) (.int j u)) Q E s) :
    OpR X f (rI0 fun i j=>.bl (g i j)):=by
  intro pins s σ H x y v u Q I rx ry h
  obtain ⟨i,j,rfl,rfl,q⟩:=h
  obtain ⟨t,rfl⟩:=rx
  obtain ⟨t',rfl⟩:=ry
  exact rule i j t t' s _ _ ⟨.bl (g i j),H,I,rfl,q⟩

def CDiv (i j:Int):Prop:=0 < j∧j < 1073741824
def CPow (i j:Int):Prop:=0<=j∧j<=1000000∧i.natAbs < 2 ^ 64
def CMul (i j:Int):Prop:=(-(2 ^ 64) < i∧i < 2 ^ 64)∨(-(2 ^ 64) < j∧j < 2 ^ 64)
theorem CMul.ok {i j:Int} (h:CMul i j):IntMulOk i j:=by
  rcases h with ⟨h1,h2⟩ | ⟨h1,h2⟩
  · exact .of_left (intBits_le_64 h1 h2)
  · exact .of_right (intBits_le_64 h1 h2)
theorem op_add:OpR X (binaryOp .Add) (rI0 fun i j=>.int (i + j)):=opI0 fun _ _ _ _ _ _ _ q=>add_int q
theorem op_sub:OpR X (binaryOp .Sub) (rI0 fun i j=>.int (i - j)):=opI0 fun _ _ _ _ _ _ _ q=>sub_int q
theorem op_mul:OpR X (binaryOp .Mult) (rI CMul fun i j=>.int (i * j)):=opI fun _ _ _ _ _ _ _ hc q=>mul_int q hc.ok
theorem op_fdiv:OpR X (binaryOp .FloorDiv) (rI CDiv fun i j=>.int (i / j)):=opI fun i j _ _ _ _ _ hc q=>by
  have h1:(0:Int) < j:=hc.1
  have h2:j < 1073741824:=hc.2
  exact floordiv_int (by omega) (by rw [Int.fdiv_eq_ediv_of_nonneg i (by omega)]; exact q) (.inl (PyProof.noPylong_small (by omega)))
theorem op_mod:OpR X (binaryOp .Mod) (rI (fun _ j=>0 < j) fun i j=>.int (i % j)):=opI fun i j _ _ _ _ _ hc q=>by
  have h1:(0:Int) < j:=hc
  exact mod_int' (by omega) (by rw [Int.fmod_eq_emod_of_nonneg i (by omega)]; exact q)
theorem op_pow:OpR X (binaryOp .Pow) (rI CPow fun i j=>.int (i ^ j.toNat)):=opI fun _ _ _ _ _ _ _ hc q=>pow_int_small hc.1 hc.2.1 hc.2.2 q
theorem iop_add:OpR X (inplaceOp .Add) (rI0 fun i j=>.int (i + j)):=opI0 fun _ _ _ _ _ _ _ q=>iadd_int q
theorem unI {f:Value->Sem Value} {g:Int->Int}
    (rule:∀ (i:Int) (t:Tok) (s:Shared) (Q:Value->Shared->Prop) (E:Value->Shared->Prop),Q (.int (g i) s.toks) { s with toks:=s.toks + 1 }->wpAny (model X.prog X.w) X.A (f (.int i t)) Q E s) :
    UnR X f (rU fun i=>.int (g i)):=by
  intro pins s σ H x v Q I rx h
  obtain ⟨i,rfl,q⟩:=h
  obtain ⟨t,rfl⟩:=rx
  exact rule i t s _ _ ⟨.int (g i),H,I.tok _,⟨_,rfl⟩,q⟩
theorem un_neg:UnR X (unaryOp .USub) (rU fun i=>.int (-i)):=unI fun _ _ _ _ _ q=>neg_int q
end

section
variable {X:Cx} {a b c:Expr} {ta tb tc:TE} {pos:Pos}
theorem fin_bl {pins:List (Addr × Obj)} {σ:St} {H:Hp} {s:Shared} {Q:VK} {k k':Bool} (I:Inv X pins σ H s) (q:Q (.bl k) H) (e:k=k'):EP X pins σ Q (.bool k') s:=by
  subst e
  exact ⟨.bl k,H,I,rfl,q⟩
theorem op_lt:OpR X (compareOp .Lt) (rI0 fun i j=>.bl (decide (i < j))):=opB0 fun _ _ _ _ _ _ _ q=>lt_int q
theorem op_le:OpR X (compareOp .LtE) (rI0 fun i j=>.bl (decide (i<=j))):=opB0 fun _ _ _ _ _ _ _ q=>le_int q
theorem op_gt:OpR X (compareOp .Gt) (rI0 fun i j=>.bl (decide (j < i))):=opB0 fun _ _ _ _ _ _ _ q=>gt_int q
theorem op_ge:OpR X (compareOp .GtE) (rI0 fun i j=>.bl (decide (j<=i))):=opB0 fun _ _ _ _ _ _ _ q=>ge_int q
theorem op_isN:OpR X (compareOp .Is) (fun x y H Q=>y = .non∧Q (.bl (decide (x = .non))) H):=by
  intro pins s σ H x y v u Q I rx ry h
  obtain ⟨rfl,q⟩:=h
  cases ry
  refine is_none_gen (fin_bl I q ?_)
  cases x <;> first
    | (cases rx; rfl)
    | (obtain ⟨t,rfl⟩:=rx; rfl)
theorem op_notN:OpR X (compareOp .IsNot) (fun x y H Q=>y = .non∧Q (.bl (!decide (x = .non))) H):=by
  intro pins s σ H x y v u Q I rx ry h
  obtain ⟨rfl,q⟩:=h
  cases ry
  refine isnot_none_gen (fin_bl I q ?_)
  cases x <;> first
    | (cases rx; rfl)
    | (obtain ⟨t,rfl⟩:=rx; rfl)

theorem OpR.or {f:Value->Value->Sem Value} {r r':R2} (h:OpR X f r) (h':OpR X f r'):OpR X f (fun x y H Q=>r x y H Q∨r' x y H Q):=by
  intro pins s σ H x y v u Q I rx ry q
  rcases q with q | q
  · exact h pins s σ H x y v u Q I rx ry q
  · exact h' pins s σ H x y v u Q I rx ry q

theorem jX (b:Expr) {op:CmpOp} (h:op≠.In:=by decide) (h2:op≠.NotIn:=by decide):behindInMarks op b=false:=by
  have e1:(op == CmpOp.In)=false:=by cases op <;> first | rfl | exact absurd rfl h
  have e2:(op == CmpOp.NotIn)=false:=by cases op <;> first | rfl | exact absurd rfl h2
  cases b <;> simp [behindInMarks,e1,e2]
theorem pe_cmpR {op:CmpOp} {r:R2} (ho:OpR X (compareOp op) r) (ha:PE X a ta) (hb:PE X b tb) (hm:behindInMarks op b=false):PE X (.Compare a [op] [b] pos) (tOp r ta tb):=by
  intro pins s σ H Q I h
  exact wpAny_Compare1 (binT ha hb I h fun v u s2 x y H2 I2 rx ry q=>ho pins s2 σ H2 x y v u Q I2 rx ry q) hm
def tTest (t:TE):TT:=fun σ H Q=>t σ H fun x H'=>∃ k,x = .bl k∧Q k H'
theorem pt_cmpR {op:CmpOp} {r:R2} (ho:OpR X (compareOp op) r) (ha:PE X a ta) (hb:PE X b tb) (hm:behindInMarks op b=false):PT X (.Compare a [op] [b] pos) (tTest (tOp r ta tb)):=by
  intro pins s σ H Q I h
  refine wpAny_isTrue_Compare1 (thn (ha pins s σ H _ I h) fun v s1 ⟨x,H1,I1,r1,q1⟩=>thn (hb pins s1 σ H1 _ I1 q1) fun u s2 ⟨y,H2,I2,r2,q2⟩ =>
    thn (ho pins s2 σ H2 x y v u _ I2 r1 r2 q2) fun c s3 ⟨z,H3,I3,r3,k,e,q3⟩=>?_) hm
  subst e
  cases r3
  exact wpAny_truthy_bool ⟨H3,I3,q3⟩
def tChain (r r':R2) (ta tb tc:TE):TE:=fun σ H Q=>ta σ H fun x H1=>tb σ H1 fun y H2=>r x y H2 fun z H3=>∃ k,z = .bl k ∧
  (if k=true then tc σ H3 fun w' H4=>r' y w' H4 Q else Q (.bl false) H3)
theorem pe_chain {op op':CmpOp} {r r':R2} (ho:OpR X (compareOp op) r) (ho':OpR X (compareOp op') r') (ha:PE X a ta) (hb:PE X b tb) (hc:PE X c tc)
    (hm:lastMarks [op,op'] [b,c]=false:=by with_unfolding_all rfl):PE X (.Compare a [op,op'] [b,c] pos) (tChain r r' ta tb tc):=by
  intro pins s σ H Q I h
  refine Compare_chain (thn (ha pins s σ H _ I h) fun v s1 ⟨x,H1,I1,r1,q1⟩=>chain_link (thn (hb pins s1 σ H1 _ I1 q1) fun u s2 ⟨y,H2,I2,r2,q2⟩ =>
    thn (ho pins s2 σ H2 x y v u _ I2 r1 r2 q2) fun d s3 ⟨z,H3,I3,r3,k,e,q3⟩=>?_)) hm
  subst e
  cases r3
  refine wpAny_truthy_bool ?_
  cases k with
  | false=>exact ite_ff ⟨.bl false,H3,I3,rfl,q3⟩
  | true=>exact ite_tt (chain_last (thn (hc pins s3 σ H3 _ I3 q3) fun w' s4 ⟨z',H4,I4,r4,q4⟩=>ho' pins s4 σ H4 y z' u w' Q I4 r2 r4 q4))
theorem pt_chain {op op':CmpOp} {r r':R2} (ho:OpR X (compareOp op) r) (ho':OpR X (compareOp op') r') (ha:PE X a ta) (hb:PE X b tb) (hc:PE X c tc)
    (hm:lastMarks [op,op'] [b,c]=false:=by with_unfolding_all rfl):PT X (.Compare a [op,op'] [b,c] pos) (tTest (tChain r r' ta tb tc)):=by
  intro pins s σ H Q I h
  refine isTrue_chain (thn (ha pins s σ H _ I h) fun v s1 ⟨x,H1,I1,r1,q1⟩=>test_link (thn (hb pins s1 σ H1 _ I1 q1) fun u s2 ⟨y,H2,I2,r2,q2⟩ =>
    thn (ho pins s2 σ H2 x y v u _ I2 r1 r2 q2) fun d s3 ⟨z,H3,I3,r3,k,e,q3⟩=>?_)) hm
  subst e
  cases r3
  refine wpAny_truthy_bool ?_
  cases k with
  | false =>
    obtain ⟨k',e',q'⟩:=q3
    cases e'
    exact ite_ff ⟨H3,I3,q'⟩
  | true =>
    refine ite_tt (test_last (thn (hc pins s3 σ H3 _ I3 q3) fun w' s4 ⟨z',H4,I4,r4,q4⟩=>thn (ho' pins s4 σ H4 y z' u w' _ I4 r2 r4 q4) fun d' s5 hQQ=>?_))
    obtain ⟨z2,H5,I5,r5,k2,e2,q5⟩:=hQQ
    subst e2
    cases r5
    exact wpAny_truthy_bool ⟨H5,I5,q5⟩

def TruV (K:PySem.W.Frag) (x:V) (H:Hp) (k:Bool):Prop :=
  match x with
  | .non=>k=false
  | .bl b=>k=b
  | .int i=>k=(i != 0)
  | .str y=>y.length<=sizeLine∧k=((y.length:Int) != 0)
  | .byt y=>y.size<=sizeLine∧k=((y.size:Int) != 0)
  | .ref p=>(∃ xs,SqL K H p xs∧k = !xs.isEmpty)∨(∃ xs,SqT K H p xs∧k = !xs.isEmpty)∨∃ kvs,H p=some (.dK kvs)∧k = !kvs.isEmpty
  | _=>False
theorem isEmpty_kv {κ:Type} {kvs:List (κ × V)} {vs:List (κ × Value)} (r:KV kvs vs):(!vs.isEmpty) = !kvs.isEmpty:=by
  cases r <;> rfl
theorem isEmpty_of {xs:List V} {its:List Value} (r:ym xs its):(!its.toArray.isEmpty) = !xs.isEmpty:=by
  cases r <;> simp
theorem line63:(sizeLine:Nat) < 2 ^ 63:=by rw [sizeLine_eq]; decide
theorem tru_ok:TruR X (fun x H Q=>∃ k,TruV X.K x H k∧Q k H):=by
  intro pins s σ H x v Q I rx h
  obtain ⟨k,e,q⟩:=h
  have hl:=line63
  have hs:sizeLine=16777216:=sizeLine_eq
  cases x with
  | non =>
    cases rx
    have e':k=false:=e
    subst e'
    exact truthy_none ⟨H,I,q⟩
  | bl b =>
    cases rx
    have e':k=b:=e
    subst e'
    exact wpAny_truthy_bool ⟨H,I,q⟩
  | int i =>
    obtain ⟨t,rfl⟩:=rx
    have e':k=(i != 0):=e
    subst e'
    exact PySem.P.truthy_int ⟨H,I,q⟩
  | str y =>
    obtain ⟨t,rfl⟩:=rx
    obtain ⟨hy,e'⟩:y.length<=sizeLine∧k=((y.length:Int) != 0):=e
    subst e'
    exact PySem.P.truthy_str (by omega) ⟨H,I.tok _,q⟩
  | byt y =>
    obtain ⟨t,rfl⟩:=rx
    obtain ⟨hy,e'⟩:y.size<=sizeLine∧k=((y.size:Int) != 0):=e
    subst e'
    exact PySem.W.truthy_bytes (by omega) ⟨H,I.tok _,q⟩
  | ref p =>
    cases rx
    have e':(∃ xs,SqL X.K H p xs∧k = !xs.isEmpty)∨(∃ xs,SqT X.K H p xs∧k = !xs.isEmpty)∨∃ kvs,H p=some (.dK kvs)∧k = !kvs.isEmpty:=e
    rcases e' with ⟨xs,hx,e'⟩ | ⟨xs,hx,e'⟩ | ⟨kvs,hx,e'⟩
    · subst e'
      obtain ⟨its,r,pl,hz⟩:=I.list hx
      have hlen:=r.length
      exact wpAny_truthy_list pl.isList (by simp only [List.size_toArray]; omega) ⟨H,I.tok _,by rw [isEmpty_of r]; exact q⟩
    · subst e'
      obtain ⟨its,r,pl,hz⟩:=I.tuple hx
      have hlen:=r.length
      exact truthy_tuple pl (by simp only [List.size_toArray]; omega) ⟨H,I.tok _,by rw [isEmpty_of r]; exact q⟩
    · subst e'
      obtain ⟨hz,hS,vs,r,m⟩:kvs.length<=sizeLine∧(p == sysModules)=false∧∃ vs,KV kvs vs∧s.heap.DictOf (yM X.prog X.w) p vs:=I.hok p _ hx
      have hlen:kvs.length=vs.length:=Paired.length r
      exact wpAny_truthy_dict hS m (by omega) ⟨H,I.tok _,by rw [isEmpty_kv r]; exact q⟩
  | _=>exact (show False from e).elim
theorem XE {x:V} {us:List Value} (r:ym [x] us):∃ u,us=[u]∧yn x u:=by
  cases r with
  | cons r1 r2=>cases r2; exact ⟨_,rfl,r1⟩
theorem vals2 {x y:V} {us:List Value} (r:ym [x,y] us):∃ u w',us=[u,w']∧yn x u∧yn y w':=by
  cases r with
  | cons r1 r2 =>
    cases r2 with
    | cons r3 r4=>cases r4; exact ⟨_,_,rfl,r1,r3⟩
theorem call_max2 (hc:X.calm=true):yy X (.builtin "max") (fun xs H Q=>∃ i j,xs=[.int i,.int j]∧Q (.int (if j > i then j else i)) H):=by
  intro pins s σ H xs us Q I r h
  obtain ⟨i,j,rfl,q⟩:=h
  obtain ⟨u,w',rfl,⟨t,rfl⟩,⟨t',rfl⟩⟩:=vals2 r
  refine max_two_ints (I.ok.hd hc) fun h' tk k=>⟨_,H,I.kept k,?_,q⟩
  by_cases hj:j > i
  · rw [if_pos hj,if_pos hj]; exact ⟨_,rfl⟩
  · rw [if_neg hj,if_neg hj]; exact ⟨_,rfl⟩
theorem call_min2 (hc:X.calm=true):yy X (.builtin "min") (fun xs H Q=>∃ i j,xs=[.int i,.int j]∧Q (.int (if j < i then j else i)) H):=by
  intro pins s σ H xs us Q I r h
  obtain ⟨i,j,rfl,q⟩:=h
  obtain ⟨u,w',rfl,⟨t,rfl⟩,⟨t',rfl⟩⟩:=vals2 r
  refine min_two_ints (I.ok.hd hc) fun h' tk k=>⟨_,H,I.kept k,?_,q⟩
  by_cases hj:j < i
  · rw [if_pos hj,if_pos hj]; exact ⟨_,rfl⟩
  · rw [if_neg hj,if_neg hj]; exact ⟨_,rfl⟩
end
end L2

namespace L2
open PySem PySem.Spec PyProof.Rows

structure ObjM (h:Heap) (x dx C:Addr) (mA:Str->Option Value):Prop where
  obj:h.get? x=some (PySem.W.instObj C dx)
  ns:h.Ns1 dx mA
  ne:dx≠x

theorem lookIn_ns {h:Heap} {dx:Addr} {mA:Str->Option Value} (n:h.Ns1 dx mA):∃ od,h.get? dx=some od∧∀ name,PySem.W.lookIn name od=some (mA name):=by
  obtain ⟨o,es,ep,ho,hd,hk,_,hm⟩:=n
  refine ⟨o,ho,fun name=>?_⟩
  have e:=hm name
  unfold nsFind findBy at e
  rw [<- Array.find?_toList] at e
  unfold PySem.W.lookIn
  rw [hd]
  dsimp only
  split
  · rename_i y q
    rw [q] at e
    exact congrArg some e
  · rename_i q
    rw [q] at e
    have a:es.toList.any (·.refKey)=false:=by
      rw [List.any_eq_false]
      intro y hy
      obtain ⟨z,t,hkey⟩:=hk y (Array.mem_toList_iff.mp hy)
      simp [DictEntry.refKey,hkey]
    have a':¬ es.toList.any (·.refKey)=true:=by rw [a]; exact Bool.false_ne_true
    rw [if_neg a']
    exact congrArg some e

theorem ObjM.look {h:Heap} {x dx C:Addr} {mA:Str->Option Value} (I:ObjM h x dx C mA):∃ od,PySem.W.InstAt h x (PySem.W.instObj C dx) C (some od)∧∀ name,PySem.W.lookIn name od=some (mA name) :=
  let ⟨od,ho,hl⟩:=lookIn_ns I.ns
  ⟨od,⟨I.obj,rfl,rfl,ho⟩,hl⟩

section
variable {prog:Program} {w:World} {A:Around} {E:Value->Shared->Prop} {s:Shared} {K:PySem.W.Frag} {x dx C f:Addr} {mA:Str->Option Value} {name:Str} {v:Value}

theorem get_map {expr:Bool} {Q:Value->Shared->Prop} (X:K.In s.heap) (I:ObjM s.heap x dx C mA) (hg:PySem.W.plainGet K C name=true) (hh:PySem.W.hasDictIn K C=true)
    (ha:PySem.W.findIn K (.ref C) name=some none) (hv:mA name=some v) (hv':PySem.W.handedIn v=true) (h:Q v { s with toks:=s.toks + 1 }) :
    wpAny (model prog w) A (getAttr (.ref x) name expr) Q E s:=by
  obtain ⟨od,J,hl⟩:=I.look
  exact PySem.W.get_value X J (PySem.W.plainGet_of hg).1 (PySem.W.findObj_own hh ha rfl (by rw [hl,hv])) hv' h

theorem get_meth {pl:Sem Bool} {Q:Value × List Value->Shared->Prop} (X:K.In s.heap) (I:ObjM s.heap x dx C mA) (hg:PySem.W.plainGet K C name=true)
    (hf:PySem.W.findIn K (.ref C) name=some (some (.ref f))) (ht:PySem.W.isFn K (.ref f)=true) (hv:mA name=none) (h:Q (.ref f,[.ref x]) s) :
    wpAny (model prog w) A (getMethod (.ref x) name pl) Q E s:=by
  obtain ⟨od,J,hl⟩:=I.look
  exact PySem.W.method_fn X J (PySem.W.plainGet_of hg).1 (PySem.W.plainGet_of hg).2 hf (beq_iff_eq.mp ht) (by show (PySem.W.lookIn name od).map (·.isSome)=some false; rw [hl,hv]; rfl) h

theorem set_map {ns:List Str} {Q:Unit->Shared->Prop} (X:K.In s.heap) (I:ObjM s.heap x dx C mA)
    (hs:PySem.W.findIn K (.ref C) "__setattr__" = some (some (.builtin "object.__setattr__"))) (hp:PySem.W.plainOver K C=true) (ht:PySem.W.takerIn K C name=some none) (hh:PySem.W.hasDictIn K C=true)
    (hw:PySem.Within mA ns) (hsz:ns.length<=sizeLine)
    (h:∀ h',ObjM h' x dx C (fun y=>if y=name then some v else mA y)->Heap.SameBut dx s.heap h'->Q () { s with heap:=h',toks:=s.toks + 2 }) :
    wpAny (model prog w) A (setAttr (.ref x) name v) Q E s:=by
  obtain ⟨od,J,hl⟩:=I.look
  refine PySem.W.set_plain X J hs (PySem.W.osa_open (s:={ s with toks:=s.toks + 1 }) (r:=none) X J hp ht fun b=>?_)
  obtain ⟨cd,hc,hd'⟩:=PySem.W.any_some hh
  have hx:s.heap.get? x=some ⟨.ref C,some dx,.plain,#[]⟩:=I.obj
  refine wpAny_bind (wpAny_pure (wpAny_bind (wpAny_bind (wpAny_loadPart hx (wpAny_bind (PySem.W.Looks.here (s:={ s with toks:=s.toks + 1 }) (PySem.W.looks_clsIn X hc) ?_))))))
  rw [hd']
  refine wpAny_pure (a:=some dx) (wpAny_bind (wpAny_pure (wpAny_bind ?_)))
  refine wpAny_nsSet1 (s:={ s with toks:=s.toks + 1 }) I.ns fun h' hn2 hs2=>?_
  obtain ⟨oD,esD,epD,hoD,hdD,hcD⟩:=hn2.count (PySem.Within.cons name v hw)
  refine wpAny_bind (wpAny_lookBehind hoD (by rw [hdD]; exact pastItsLine_dict (Nat.le_trans hcD (by rw [List.length_cons]; omega))) ?_)
  exact wpAny_pure (h _ ⟨(hs2.2 _ (Ne.symm I.ne)).trans I.obj,hn2,I.ne⟩ hs2)

theorem make_map {R:Result->Shared->Prop} {vs:List Value} {kw:List (Str × Value)} (X:K.In s.heap) (hm:PySem.W.makesIn K C=true)
    (hi:PySem.W.findIn K (.ref C) "__init__" = some (some (.ref f))) (hf:PySem.W.typeIn K (.ref f)=some (.type "function"))
    (h:codeAny (model prog w) (A.under (.builtin "type.__call__" ⟨.ref C :: vs,kw⟩)) (.call (.ref f) ⟨.ref (s.heap.objs.size + 1) :: vs,kw⟩) (PySem.W.InitBack (s.heap.objs.size + 1) R)
      { s with heap:=(s.heap.push PySem.W.emptyDict).push (PySem.W.instObj C s.heap.objs.size) }) :
    codeAny (model prog w) A (.call (.ref C) ⟨vs,kw⟩) R s:=by
  obtain ⟨hh,g,d,t,os⟩:=s
  exact PySem.W.make_core (PySem.W.makes_of X hm) (PySem.W.looks_findIn X hi) (fun self=>PySem.W.bind_fn X self hf) (.inl rfl) h
end

def vU (f:Str) (v:V):List (Str × V)->List (Str × V)
  | []=>[(f,v)]
  | (g,x) :: r=>if g=f then (g,v) :: r else (g,x) :: vU f v r
theorem YV (f g:Str) (v:V):∀ fs:List (Str × V),(vU f v fs).lookup g=if g=f then some v else fs.lookup g
  | []=>by
    show List.lookup g [(f,v)]=_
    by_cases h:g=f
    · have hb:(g == f)=true:=beq_iff_eq.mpr h
      simp only [List.lookup,hb,if_pos h]
    · have hb:(g == f)=false:=beq_eq_false_iff_ne.mpr h
      simp only [List.lookup,hb,if_neg h]
  | (k,x) :: r=>by
    have ih:=YV f g v r
    rw [show vU f v ((k,x) :: r)=(if k=f then (k,v) :: r else (k,x) :: vU f v r) from rfl]
    by_cases hk:k=f
    · rw [if_pos hk]
      by_cases h:g=k
      · have hb:(g == k)=true:=beq_iff_eq.mpr h
        simp only [List.lookup,hb,if_pos (h.trans hk)]
      · have hb:(g == k)=false:=beq_eq_false_iff_ne.mpr h
        simp only [List.lookup,hb,if_neg (fun e:g=f=>h (e.trans hk.symm))]
    · rw [if_neg hk]
      by_cases h:g=k
      · have hb:(g == k)=true:=beq_iff_eq.mpr h
        simp only [List.lookup,hb,if_neg (fun e:g=f=>hk (h.symm.trans e))]
      · have hb:(g == k)=false:=beq_eq_false_iff_ne.mpr h
        simp only [List.lookup,hb]
        exact ih
theorem YC (f:Str) (v:V):∀ fs:List (Str × V),f ∈ (vU f v fs).map (·.1)∧∀ g,g ∈ fs.map (·.1)->g ∈ (vU f v fs).map (·.1)
  | []=>⟨by simp [vU],fun g h=>by simp at h⟩
  | (k,x) :: r=>by
    obtain ⟨i1,i2⟩:=YC f v r
    rw [show vU f v ((k,x) :: r)=(if k=f then (k,v) :: r else (k,x) :: vU f v r) from rfl]
    by_cases hk:k=f
    · rw [if_pos hk]
      subst hk
      exact ⟨by simp,fun g h=>by simpa using h⟩
    · rw [if_neg hk]
      refine ⟨?_,fun g h=>?_⟩
      · rw [List.map_cons]
        exact List.mem_cons_of_mem _ i1
      · rw [List.map_cons] at h ⊢
        rcases List.mem_cons.mp h with e | e
        · exact List.mem_cons.mpr (.inl e)
        · exact List.mem_cons_of_mem _ (i2 g e)
theorem YX (f:Str) (v:V):∀ fs:List (Str × V),(vU f v fs).length<=fs.length + 1
  | []=>by simp [vU]
  | (k,x) :: r=>by
    have ih:=YX f v r
    rw [show vU f v ((k,x) :: r)=(if k=f then (k,v) :: r else (k,x) :: vU f v r) from rfl]
    by_cases hk:k=f
    · rw [if_pos hk,List.length_cons,List.length_cons]; omega
    · rw [if_neg hk,List.length_cons,List.length_cons]; omega

theorem Jm.some_of {v:V} {o:Option Value} (r:Jm (some v) o):∃ u,o=some u∧yn v u:=by
  cases o with
  | none=>exact (show False from r).elim
  | some u=>exact ⟨u,rfl,r⟩
theorem Jm.none_of {o:Option Value} (r:Jm none o):o=none:=by
  cases o with
  | none=>rfl
  | some u=>exact (show False from r).elim
theorem handed_of {v:V} {u:Value} (r:yn v u):PySem.W.handedIn u=true:=by
  cases v with
  | non=>cases (show u=Value.none from r); rfl
  | bl b=>cases (show u=Value.bool b from r); rfl
  | int i=>obtain ⟨t,e⟩:=(show ∃ t,u=Value.int i t from r); cases e; rfl
  | str x=>obtain ⟨t,e⟩:=(show ∃ t,u=Value.str x t from r); cases e; rfl
  | byt b=>obtain ⟨t,e⟩:=(show ∃ t,u=Value.bytes b t from r); cases e; rfl
  | flt b=>obtain ⟨t,e⟩:=(show ∃ t,u=Value.float b t from r); cases e; rfl
  | ref a=>cases (show u=Value.ref a from r); rfl
  | ty n=>cases (show u=Value.type n from r); rfl

section
variable {P:Program} {w:World} {H H':Hp} {h h':Heap} {a C dx:Addr} {fs fs':List (Str × V)}
theorem ins_get (hok:HOk P w H h) (e:H a=some (.ins C dx fs)):∃ mA,ObjM h a dx C mA∧(∀ f,Jm (fs.lookup f) (mA f))∧PySem.Within mA (fs.map (·.1))∧fs.length<=1000∧H dx=some (.own a):=by
  obtain ⟨d,z,ne,ob,mA,n,r,q⟩:=(show yO P w H h a (.ins C dx fs) from hok a _ e)
  exact ⟨mA,⟨ob,n,ne⟩,r,q,z,d⟩
end

structure Cls (K:PySem.W.Frag) (C:Addr):Prop where
  pg:PySem.W.plainGet K C Str.empty=true
  hd:PySem.W.hasDictIn K C=true
  po:PySem.W.plainOver K C=true
  sa:PySem.W.findIn K (.ref C) "__setattr__" = some (some (.builtin "object.__setattr__"))
theorem Cls.get {K:PySem.W.Frag} {C:Addr} (c:Cls K C) (f:Str):PySem.W.plainGet K C f=true:=c.pg
def jq (K:PySem.W.Frag) (C:Addr) (f:Str):Prop:=PySem.W.findIn K (.ref C) f=some none
theorem jq.taker {K:PySem.W.Frag} {C:Addr} {f:Str} (n:jq K C f):PySem.W.takerIn K C f=some none:=by
  unfold PySem.W.takerIn
  rw [show PySem.W.findIn K (.ref C) f=some none from n]
  rfl
structure Con (K:PySem.W.Frag) (C:Addr) (f:Str) (v:V) (u:Value):Prop where
  at_:PySem.W.findIn K (.ref C) f=some (some u)
  rel:yn v u
  get:PySem.W.specialIn K u "__get__" = some none
  cp:PySem.W.copiedNames.contains f=false
structure Meth (K:PySem.W.Frag) (C:Addr) (m:Str) (f:Addr):Prop where
  at_:PySem.W.findIn K (.ref C) m=some (some (.ref f))
  fn:PySem.W.isFn K (.ref f)=true
  kp:PySem.W.keepIn K (.ref f)=true

section
variable {X:Cx} {pins:List (Addr × Obj)} {σ:St} {H:Hp} {s:Shared} {a C dx:Addr} {fs:List (Str × V)} {f:Str} {v:V} {A:Around} {E:Value->Shared->Prop}

theorem getattr_ok {b:Bool} {Q:Value->Shared->Prop} (I:Inv X pins σ H s) (e:H a=some (.ins C dx fs)) (c:Cls X.K C) (n:jq X.K C f) (l:fs.lookup f=some v)
    (h:∀ u s',Inv X pins σ H s'->yn v u->Q u s'):wpAny (model X.prog X.w) A (getAttr (.ref a) f b) Q E s:=by
  obtain ⟨mA,O,r,_,_,_⟩:=ins_get I.hok e
  obtain ⟨u,hu,ru⟩:=Jm.some_of (v:=v) (o:=mA f) (by rw [<- l]; exact r f)
  exact get_map I.kIn O (c.get f) c.hd n hu (handed_of ru) (h u _ (I.tok _) ru)

theorem getmeth_ok {m:Str} {g:Addr} {pl:Sem Bool} {Q:Value × List Value->Shared->Prop} (I:Inv X pins σ H s) (e:H a=some (.ins C dx fs)) (c:Cls X.K C) (k:Meth X.K C m g) (l:fs.lookup m=none)
    (h:Q (.ref g,[.ref a]) s):wpAny (model X.prog X.w) A (getMethod (.ref a) m pl) Q E s:=by
  obtain ⟨mA,O,r,_,_,_⟩:=ins_get I.hok e
  have hn:mA m=none:=Jm.none_of (by rw [<- l]; exact r m)
  exact get_meth I.kIn O (c.get m) k.at_ k.fn hn h

theorem XI {y:V} {u:Value} {Q:Unit->Shared->Prop} (I:Inv X pins σ H s) (e:H a=some (.ins C dx fs)) (c:Cls X.K C) (n:jq X.K C f) (hl:fs.length < 1000) (ry:yn y u)
    (h:∀ s',Inv X pins σ (upd H a (.ins C dx (vU f y fs))) s'->Q () s'):wpAny (model X.prog X.w) A (setAttr (.ref a) f u) Q E s:=by
  obtain ⟨mA,O,r,wi,_,ho⟩:=ins_get I.hok e
  have hz:(fs.map (·.1)).length<=sizeLine:=by rw [List.length_map,sizeLine_eq]; omega
  refine set_map I.kIn O c.sa c.po n.taker c.hd wi hz fun h' O' sb=>h _ ?_
  have hd:∃ o,h'.get? dx=some o:=let ⟨o,_,_,e',_⟩:=O'.ns; ⟨o,e'⟩
  refine I.write (x:=a) (e:=dx) (by rw [e]; exact True.intro) (.inr ho) (fun b q hb z=>(sb.2 b hb).trans z) hd ?_
  refine ⟨by rw [jn O.ne]; exact ho,?_,O.ne,O'.obj,_,O'.ns,fun g=>?_,fun g hg=>?_⟩
  · have:=YX f y fs; omega
  · show Jm ((vU f y fs).lookup g) (if g=f then some u else mA g)
    rw [YV]
    by_cases q:g=f
    · rw [if_pos q,if_pos q]; exact ry
    · rw [if_neg q,if_neg q]; exact r g
  · by_cases q:g=f
    · rw [q]; exact (YC f y fs).1
    · refine (YC f y fs).2 g (wi g fun z=>hg ?_)
      show (if g=f then some u else mA g)=none
      rw [if_neg q]; exact z

theorem Inv.made (I:Inv X pins σ H s):Inv X pins σ (upd (upd H s.heap.objs.size (.own (s.heap.objs.size + 1))) (s.heap.objs.size + 1) (.ins C s.heap.objs.size []))
    { s with heap:=(s.heap.push PySem.W.emptyDict).push (PySem.W.instObj C s.heap.objs.size) }:=by
  have e1:(s.heap.push PySem.W.emptyDict).get? s.heap.objs.size=some PySem.W.emptyDict:=Heap.get?_push_size s.heap rfl
  have e2:((s.heap.push PySem.W.emptyDict).push (PySem.W.instObj C s.heap.objs.size)).get? (s.heap.objs.size + 1)=some (PySem.W.instObj C s.heap.objs.size):=by
    have:=Heap.get?_push_size (s.heap.push PySem.W.emptyDict) (o:=PySem.W.instObj C s.heap.objs.size) rfl
    rwa [Heap.size_push] at this
  have e3:(s.heap.push PySem.W.emptyDict).Ns s.heap.objs.size (fun _=>none):=⟨PySem.W.emptyDict,#[],_,e1,rfl,(fun e he=>absurd he (by simp)),fun _=>rfl⟩
  have I1:=I.laid (a:=s.heap.objs.size) (o:=.own (s.heap.objs.size + 1)) (h':=s.heap.push PySem.W.emptyDict) (t':=s.toks) (fun b u q=>Heap.get?_push_of_some _ q) (Nat.le_refl _) ⟨_,e1⟩
  refine I1.laid (a:=s.heap.objs.size + 1) (o:=.ins C s.heap.objs.size []) (t':=s.toks) (fun b u q=>Heap.get?_push_of_some _ q) (Nat.le_of_eq (Heap.size_push _ _)) ?_
  have ne:s.heap.objs.size≠s.heap.objs.size + 1:=Nat.ne_of_lt (Nat.lt_succ_self _)
  refine ⟨by rw [jn ne,jv],Nat.zero_le _,ne,e2,fun _=>none,(Heap.Ns1.of_empty e3).at fun o q=>Heap.get?_push_of_some _ q,fun _=>True.intro,fun y hy=>absurd rfl hy⟩

theorem attr_of {prog:Program} {w:World} {env:Env} {e:Expr} {f:Str} {pos:Pos} {s:Shared} {Q:Value->Shared->Prop} (hb:attributeBase e f env (eval e env)=eval e env)
    (h:wpAny (model prog w) A (eval e env) (fun o s₁=>wpAny (model prog w) A (getAttr o f true) Q E s₁) E s):wpAny (model prog w) A (eval (.Attribute e f pos) env) Q E s :=
  Attribute_any_ h (by rw [arm_eval_Attribute,hb])
end

def tFld (K:PySem.W.Frag) (ta:TE) (f:Str):TE:=fun σ H Q=>ta σ H fun x H1=>∃ a C dx fs v,x = .ref a∧H1 a=some (.ins C dx fs)∧Cls K C∧jq K C f∧fs.lookup f=some v∧Q v H1
def sFld (K:PySem.W.Frag) (ta tv:TE) (f:Str):TS:=fun D σ H=>tv σ H fun y H1=>ta σ H1 fun x H2=>∃ a C dx fs,x = .ref a∧H2 a=some (.ins C dx fs)∧Cls K C∧jq K C f∧fs.length < 1000 ∧
  D.nx σ (upd H2 a (.ins C dx (vU f y fs)))
def InOp (X:Cx) (op:Operator) (rd:V->V->Hp->VK->Prop):Prop :=
  ∀ (pins:List (Addr × Obj)) (s:Shared) (σ:St) (H:Hp) (x y:V) (u v:Value) (Q:VK),Inv X pins σ H s->yn x u->yn y v->rd x y H Q->wpAny (model X.prog X.w) X.A (inplaceOp op u v) (EP X pins σ Q) X.xe s
def sFldAug (K:PySem.W.Frag) (ta tv:TE) (rd:V->V->Hp->VK->Prop) (f:Str):TS:=fun D σ H=>ta σ H fun x H1=>∃ a C dx fs v,x = .ref a∧H1 a=some (.ins C dx fs)∧Cls K C∧jq K C f∧fs.lookup f=some v ∧
  tv σ H1 fun y H2=>rd v y H2 fun z H3=>∃ dx' fs',H3 a=some (.ins C dx' fs')∧fs'.length < 1000∧D.nx σ (upd H3 a (.ins C dx' (vU f z fs')))

section
variable {X:Cx} {o e value:Expr} {f:Str} {pos pos' tpos:Pos} {ta tv:TE}
theorem pe_fld (he:PE X e ta) (hb:attributeBase e f X.env (eval e X.env)=eval e X.env):PE X (.Attribute e f pos) (tFld X.K ta f):=by
  intro pins s σ H Q I h
  refine attr_of hb (thn (he pins s σ H _ I h) fun u s1 hQQ=>?_)
  obtain ⟨x,H1,I1,rx,a,C,dx,fs,v,ex,ea,c,n,l,q⟩:=hQQ
  subst ex
  obtain rfl:u=Value.ref a:=rx
  exact getattr_ok I1 ea c n l fun u' s2 I2 ru=>⟨v,H1,I2,ru,q⟩
theorem ps_fld (ha:PE X o ta) (hv:PE X value tv) (hs:swapsWith value (some (.Attribute o f pos')) pos.line X.env=pure false):PS X (.Assign [.Attribute o f pos'] value pos) (sFld X.K ta tv f):=by
  intro pins s σ H D I h
  refine plainObj_wpAny_Assign_Attribute (thn (hv pins s σ H _ I h) fun u s1 ⟨y,H1,I1,ry,q⟩=>thn (ha pins s1 σ H1 _ I1 q) fun ov s2 hQQ=>?_) hs
  obtain ⟨x,H2,I2,rx,a,C,dx,fs,ex,ea,c,n,l,q2⟩:=hQQ
  subst ex
  obtain rfl:ov=Value.ref a:=rx
  exact XI I2 ea c n l ry fun s3 I3=>⟨σ,_,I3,q2⟩
theorem ps_fldaug {op:Operator} {rd:V->V->Hp->VK->Prop} (ha:PE X o ta) (hv:PE X value tv) (hop:InOp X op rd):PS X (.AugAssign (.Attribute o f tpos) op value pos) (sFldAug X.K ta tv rd f):=by
  intro pins s σ H D I h
  refine wpAny_AugAssign_AttributeAny (thn (ha pins s σ H _ I h) fun ov s1 hQQ=>?_)
  obtain ⟨x,H1,I1,rx,a,C,dx,fs,v,ex,ea,c,n,l,q⟩:=hQQ
  subst ex
  obtain rfl:ov=Value.ref a:=rx
  refine getattr_ok I1 ea c n l fun u s2 I2 ru=>thn (hv pins s2 σ H1 _ I2 q) fun w3 s3 ⟨y,H2,I3,ry,q3⟩=>thn (hop pins s3 σ H2 v y u w3 _ I3 ru ry q3) fun w4 s4 hQQ=>?_
  obtain ⟨z,H3,I4,rz,dx',fs',ea',l',q4⟩:=hQQ
  exact XI I4 ea' c n l' rz fun s5 I5=>⟨σ,_,I5,q4⟩
end

section
variable {X:Cx} {pins:List (Addr × Obj)} {σ:St} {H:Hp} {s:Shared} {A:Around} {E:Value->Shared->Prop} {Q:Value->Shared->Prop} {c:Value} {b:Bool}
inductive TyOf (K:PySem.W.Frag) (H:Hp):V->Value->Prop where
  | non:TyOf K H .non (.type "NoneType")
  | bl (x:Bool):TyOf K H (.bl x) (.type "bool")
  | int (i:Int):TyOf K H (.int i) (.type "int")
  | str (x:Str):TyOf K H (.str x) (.type "str")
  | flt (x:UInt64):TyOf K H (.flt x) (.type "float")
  | lst {a:Addr} {xs:List V} (e:H a=some (.lst xs)):TyOf K H (.ref a) (.type "list")
  | frz {a:Addr} {o:Obj} {xs:List V} (e:H a=some (.frz o (.lst xs))):TyOf K H (.ref a) (.type "list")
  | tup {a:Addr} {xs:List V} (e:H a=some (.tup xs)):TyOf K H (.ref a) (.type "tuple")
  | dK {a:Addr} {kvs:List (Key × V)} (e:H a=some (.dK kvs)):TyOf K H (.ref a) (.type "dict")
  | dT {a:Addr} {kvs:List (List Key × V)} (e:H a=some (.dT kvs)):TyOf K H (.ref a) (.type "dict")
  | ins {a C dx:Addr} {fs:List (Str × V)} (e:H a=some (.ins C dx fs)) (cl:Cls K C) (ha:PySem.W.findIn K (.ref C) "__class__" = some (some (.builtin "object.__class__")))
      (hn:PySem.W.specialIn K (.builtin "object.__class__") "__get__" = some (some (.builtin "getset_descriptor.__get__"))) (htk:PySem.W.takesIn K (.builtin "object.__class__")=some true)
      (hm:PySem.W.mroIn K C (.type "object")=some true):TyOf K H (.ref a) (.ref C)
end
end L2

namespace L2
open PySem PySem.Spec PyProof.Rows

structure Room (k:Nat) (A:Around):Prop where
  hd:A.handled=none
  dp:A.depth + 3 * k + 5 < recursionLimit
  un:A.units + 16 * k + 200 < cLine
theorem Room.mono {j k:Nat} {A:Around} (r:Room k A) (h:j<=k):Room j A:=⟨r.hd,by have:=r.dp; omega,by have:=r.un; omega⟩
theorem Room.deeper {k:Nat} {A:Around} (r:Room (k + 1) A) (env:Env):Room k (A.deeper env) :=
  ⟨r.hd,by have:=r.dp; show A.depth + 1 + 3 * k + 5 < _; omega,by have:=r.un; show A.units + 3 + 16 * k + 200 < _; omega⟩
theorem make_depth {A:Around} {C:Addr} {us:List Value} {kw:List (Str × Value)}:(A.under (.builtin "type.__call__" ⟨.ref C :: us,kw⟩)).depth=A.depth + 1:=by
  first | rfl | simp [Around.under,Code.weight,Code.isCreation,Code.isGuard,Code.isCaller,Code.frames,Code.isFrame,guardIds]
theorem make_units {A:Around} {C:Addr} {us:List Value} {kw:List (Str × Value)}:(A.under (.builtin "type.__call__" ⟨.ref C :: us,kw⟩)).units=A.units + 1:=by
  first | rfl | simp [Around.under,Code.cUnits,Code.frames,Code.isFrame]
theorem Room.make {k:Nat} {A:Around} (r:Room (k + 1) A) (C:Addr) (us:List Value) (kw:List (Str × Value)):Room k (A.under (.builtin "type.__call__" ⟨.ref C :: us,kw⟩)) :=
  ⟨r.hd,by have:=r.dp; rw [make_depth]; omega,by have:=r.un; rw [make_units]; omega⟩
theorem Room.depth {k:Nat} {A:Around} (r:Room k A):A.depth < recursionLimit:=by have:=r.dp; omega
theorem Room.units {k:Nat} {A:Around} (r:Room k A):A.units + 64 < cLine:=by have:=r.un; omega
theorem Room.units0 {k:Nat} {A:Around} (r:Room k A):A.units < cLine:=by have:=r.un; omega

def tNil:TA:=fun _ H Q=>Q [] H
def tCons (ta:TE) (tr:TA):TA:=fun σ H Q=>ta σ H fun x H1=>tr σ H1 fun xs H2=>Q (x :: xs) H2
section
variable {X:Cx} {e:Expr} {es:List Expr} {te:TE} {t:TA} {pos:Pos}
theorem pa_nil:PA X [] tNil:=fun _ _ _ _ H Q I h=>Calls.spliced_nil ⟨[],H,I,.nil,h⟩
theorem pa_cons (ha:PE X e te) (hr:PA X es t) (hs:starEach (e :: es) X.env=(false,eval e X.env) :: starEach es X.env:=by rfl):PA X (e :: es) (tCons te t):=by
  intro pos pins s σ H Q I h
  rw [hs]
  show wpAny _ _ (spliced ((false,eval e X.env) :: backTo pos (starEach es X.env))) _ _ s
  refine Calls.spliced_cons (thn (ha pins s σ H _ I h) fun u s1 hQQ=>?_)
  obtain ⟨x,H1,I1,r1,q1⟩:=hQQ
  exact thn (hr pos pins s1 σ H1 _ I1 q1) fun us s2 ⟨xs,H2,I2,r2,q2⟩=>⟨x :: xs,H2,I2,.cons r1 r2,q2⟩

def tTup (t:TA):TE:=fun σ H Q=>t σ H fun xs H1=>xs.length<=sizeLine∧∀ p,H1 p=none->Q (.ref p) (upd H1 p (.tup xs))
def tLst (t:TA):TE:=fun σ H Q=>t σ H fun xs H1=>xs.length<=sizeLine∧∀ p,H1 p=none->Q (.ref p) (upd H1 p (.lst xs))
theorem pe_tup {x1} (h:PA X es t):PE X (.Tuple es x1 pos) (tTup t):=by
  intro pins s σ H Q I hq
  refine wpAny_Tuple_spliced (thn (h pos pins s σ H _ I hq) fun us s1 ⟨xs,H1,I1,r,z,q⟩=>⟨by rw [<- r.length]; exact z,?_⟩)
  have hf:H1 s1.heap.objs.size=none:=I1.hok.fresh (Nat.le_refl _)
  refine ⟨.ref s1.heap.objs.size,upd H1 s1.heap.objs.size (.tup xs),I1.laid (t':=s1.toks) (fun b u e=>Heap.get?_push_of_some _ e) (Nat.le_refl _) ?_,rfl,q _ hf⟩
  exact ⟨z,us,r,⟨_,Heap.get?_push_size _ rfl,rfl,_,rfl⟩⟩
theorem pe_lst (h:PA X es t):PE X (.List es pos) (tLst t):=by
  intro pins s σ H Q I hq
  refine wpAny_List_spliced (thn (h pos pins s σ H _ I hq) fun us s1 ⟨xs,H1,I1,r,z,q⟩=>⟨by rw [<- r.length]; exact z,?_⟩)
  have hf:H1 s1.heap.objs.size=none:=I1.hok.fresh (Nat.le_refl _)
  refine ⟨.ref s1.heap.objs.size,upd H1 s1.heap.objs.size (.lst xs),I1.laid (t':=s1.toks) (fun b u e=>Heap.get?_push_of_some _ e) (Nat.le_refl _) ?_,rfl,q _ hf⟩
  exact ⟨z,us,0,r,Heap.get?_push_size _ rfl⟩
end

abbrev Sp:=List V->Hp->VK->XK->Prop
abbrev CXT:=List Env->Hp->Shared->XK->Value->Shared->Prop

structure Env0 (P:Program) (w:World) (K:PySem.W.Frag) (mg:Str->Option Value) (base:Heap) (A:Around) (outer:List Env) (s:Shared) (H:Hp):Prop where
  frames:A.frames=some outer
  mod:Mod K mg base
  bs:∀ b o,base.get? b=some o->s.heap.get? b=some o∧H b=none
  bsz:base.objs.size<=s.heap.objs.size
  funs:s.heap.FunFrames base outer
  frf:∀ b ∈ frs outer,H b=none
  hok:HOk P w H s.heap
  bare:AllBare s.gens
def CE (outer:List Env) (P:Program) (w:World) (H:Hp) (s:Shared) (Q:VK) (u:Value) (s':Shared):Prop :=
  ∃ v H',s'.os=s.os∧AllBare s'.gens∧Un (frs outer) [] H H' s.heap s'.heap∧HOk P w H' s'.heap∧yn v u∧Q v H'
def CR (CX:CXT) (outer:List Env) (P:Program) (w:World) (H:Hp) (s:Shared) (Q:VK) (E:XK) (r:Result) (s':Shared):Prop :=
  match r with
  | .ok (.ret u)=>CE outer P w H s Q u s'
  | .ok _=>False
  | .error e=>CX outer H s E e s'
structure FnOk (P:Program) (w:World) (K:PySem.W.Frag) (mg:Str->Option Value) (base:Heap) (CX:CXT) (k:Nat) (f:Addr) (fd:FuncData) (ps:List Str) (sp:Sp):Prop where
  len:∀ vs H Q E,sp vs H Q E->vs.length=ps.length
  run:∀ (A:Around) (outer:List Env) (s:Shared) (H:Hp) (args:Args) (us:List Value) (vs:List V) (Q:VK) (E:XK),Room k A->Env0 P w K mg base A outer s H->BindsTo s fd args (ps.zip us)->ym vs us->sp vs H Q E ->
    codeAny (model P w) A (.call (.ref f) args) (CR CX outer P w H s Q E) s
theorem FnOk.imp {P:Program} {w:World} {K:PySem.W.Frag} {mg:Str->Option Value} {base:Heap} {CX:CXT} {k:Nat} {f:Addr} {fd:FuncData} {ps:List Str} {sp sp':Sp} (F:FnOk P w K mg base CX k f fd ps sp)
    (h:∀ vs H Q E,sp' vs H Q E->sp vs H Q E):FnOk P w K mg base CX k f fd ps sp' :=
  ⟨fun vs H Q E q=>F.len vs H Q E (h _ _ _ _ q),fun A outer s H args us vs Q E hr he hb hv hs=>F.run A outer s H args us vs Q E hr he hb hv (h _ _ _ _ hs)⟩

theorem Env0.make {P:Program} {w:World} {K:PySem.W.Frag} {mg:Str->Option Value} {base:Heap} {A:Around} {outer:List Env} {s:Shared} {H:Hp} (e:Env0 P w K mg base A outer s H) (C:Addr) (us:List Value) (kw:List (Str × Value)) :
    Env0 P w K mg base (A.under (.builtin "type.__call__" ⟨.ref C :: us,kw⟩)) outer s H:=⟨by first | exact e.frames | (simpa [Around.under,Code.envs,Code.isFrame,pushEnvs] using e.frames),e.mod,e.bs,e.bsz,e.funs,e.frf,e.hok,e.bare⟩
section
variable {X:Cx} {pins:List (Addr × Obj)} {σ:St} {H:Hp} {s s':Shared}
theorem Inv.env0 (I:Inv X pins σ H s):Env0 X.prog X.w X.K X.mg X.base X.A X.stack s H :=
  ⟨I.ok.frames,I.ok.mod,I.bs,Nat.le_trans I.ok.bsz I.sz,I.stack,I.stkFree,I.hok,I.bare⟩
theorem Inv.after {Q:VK} {u:Value} (I:Inv X pins σ H s) (h:CE X.stack X.prog X.w H s Q u s'):EP X pins σ Q u s':=by
  obtain ⟨v,H',os,bare,un,hok,r,q⟩:=h
  obtain ⟨hh,g,d,t,os'⟩:=s'
  obtain rfl:os'=s.os:=os
  exact ⟨v,H',I.call (h':=hh) (g':=g) (d':=d) (t':=t) (ch:=[]) un hok bare (fun b z=>absurd z (by simp)),r,q⟩
end

def Binds (K:PySem.W.Frag) (fd:FuncData) (ps:List Str) (ds:List Value):Prop :=
  ∀ (s:Shared) (us:List Value),K.In s.heap->(us ++ ds).length=ps.length->BindsTo s fd ⟨us,[]⟩ (ps.zip (us ++ ds))
def Passes (CX:CXT) (X:Cx) (E:XK):Prop:=∀ (pins:List (Addr × Obj)) (σ:St) (H:Hp) (s:Shared) (e:Value) (s':Shared),Inv X pins σ H s->CX X.stack H s E e s'->X.xe e s'

section
variable {X:Cx} {CX:CXT} {k:Nat} {f C:Addr} {fd:FuncData} {ps:List Str} {sp:Sp} {dvs:List V} {ds:List Value} {E:XK} {x m:Str} {p pos apos:Pos} {e o:Expr} {es:List Expr} {ta:TE} {t:TA}

structure Mk (K:PySem.W.Frag) (C f:Addr):Prop where
  makes:PySem.W.makesIn K C=true
  init:PySem.W.findIn K (.ref C) "__init__" = some (some (.ref f))
  fn:PySem.W.isFn K (.ref f)=true
  kp:PySem.W.keepIn K (.ref C)=true

end

def PK (X:Cx) (kws:List Keyword) (t:TA):Prop :=
  ∀ (pos:Pos) (pins:List (Addr × Obj)) (s:Shared) (σ:St) (H:Hp) (Q:List V->Hp->Prop),Inv X pins σ H s->t σ H Q->wpAny (model X.prog X.w) X.A (evalAll ((backToKw pos (keywordEach kws X.env)).map (·.2))) (AP X pins σ Q) X.xe s
section
variable {X:Cx} {CX:CXT} {k:Nat} {f C:Addr} {fd:FuncData} {ps ks:List Str} {sp:Sp} {E:XK} {x m:Str} {p pos apos kpos:Pos} {e o:Expr} {es:List Expr} {kws:List Keyword} {te ta:TE} {t tk:TA} {nm:Option Str}
theorem pk_nil:PK X [] tNil:=fun _ _ _ _ H Q I h=>wpAny_evalAll_nil ⟨[],H,I,.nil,h⟩
theorem pk_cons (ha:PE X e te) (hr:PK X kws t):PK X (⟨nm,e,kpos⟩ :: kws) (tCons te t):=by
  intro pos pins s σ H Q I h
  show wpAny _ _ (evalAll ((do let v <- eval e X.env; standAt pos; pure v) :: (backToKw pos (keywordEach kws X.env)).map (·.2))) _ _ s
  refine wpAny_evalAll_cons (wpAny_bind (thn (ha pins s σ H _ I h) fun u s1 ⟨x,H1,I1,r1,q1⟩=>wpAny_bind (wpAny_standAt (wpAny_pure ?_))))
  exact thn (hr pos pins s1 σ H1 _ I1 q1) fun us s2 ⟨xs,H2,I2,r2,q2⟩=>⟨x :: xs,H2,I2,.cons r1 r2,q2⟩

structure KBinds (K:PySem.W.Frag) (fd:FuncData) (ps ks:List Str) (g:List Value->List Value->List Value) (gV:List V->List V->List V):Prop where
  to:∀ (s:Shared) (us ws:List Value),K.In s.heap->(g us ws).length=ps.length->BindsTo s fd ⟨us,ks.zip ws⟩ (ps.zip (g us ws))
  rel:∀ {vs:List V} {us:List Value} {zs:List V} {ws:List Value},ym vs us->ym zs ws->ym (gV vs zs) (g us ws)
variable {g:List Value->List Value->List Value} {gV:List V->List V->List V}
end

structure FnScope (N P:List Str) (sc:Scope):Prop where
  kind:sc.kind = .function
  co:sc.isCoroutine=false
  gen:sc.isGenerator=false
  nd:N.Nodup
  pre:N.take P.length=P
  par:∀ x ∈ P,sc.names.lookup x=some .local∨sc.names.lookup x=some .cell
  nofree:∀ y ∈ sc.names,y.2≠.free

theorem bindL_out {kindOf:Str->Option NameKind} {x:Str}:∀ {binds:List (Str × Value)} {m:Str->Option Value},(∀ v,(x,v) ∉ binds)->bindL kindOf binds m x=m x
  | [],_,_=>rfl
  | (n,v) :: r,m,h=>by
    unfold bindL
    rw [bindL_out fun w hw=>h w (List.mem_cons_of_mem _ hw)]
    split
    · have:x≠n:=by rintro rfl; exact h v List.mem_cons_self
      simp [this]
    · rfl
theorem bindC_out {kindOf:Str->Option NameKind} {x:Str}:∀ {binds:List (Str × Value)} {m:Str->Option Value},(∀ v,(x,v) ∉ binds)->bindC kindOf binds m x=m x
  | [],_,_=>rfl
  | (n,v) :: r,m,h=>by
    unfold bindC
    rw [bindC_out fun w hw=>h w (List.mem_cons_of_mem _ hw)]
    split
    · rfl
    · have:x≠n:=by rintro rfl; exact h v List.mem_cons_self
      simp [this]
theorem bindL_get {kindOf:Str->Option NameKind} {x:Str} {v:Value}:∀ {P:List Str} {vs:List Value} {i:Nat} {m:Str->Option Value},P.Nodup->P[i]? = some x->vs[i]? = some v->kindOf x=some .local ->
    bindL kindOf (P.zip vs) m x=some v
  | [],_,_,_,_,h,_,_=>by simp at h
  | _ :: _,[],_,_,_,_,h,_=>by simp at h
  | p :: P,w :: vs,0,m,nd,h1,h2,hk=>by
    simp at h1 h2; subst h1; subst h2
    show bindL kindOf ((p,w) :: P.zip vs) m p=_
    unfold bindL
    rw [bindL_out fun v hv=>(List.nodup_cons.mp nd).1 (List.of_mem_zip hv).1,if_pos hk]
    simp
  | p :: P,w :: vs,i + 1,m,nd,h1,h2,hk=>by
    show bindL kindOf ((p,w) :: P.zip vs) m x=_
    unfold bindL
    exact bindL_get (i:=i) (List.nodup_cons.mp nd).2 (by simpa using h1) (by simpa using h2) hk
theorem bindC_get {kindOf:Str->Option NameKind} {x:Str} {v:Value}:∀ {P:List Str} {vs:List Value} {i:Nat} {m:Str->Option Value},P.Nodup->P[i]? = some x->vs[i]? = some v->kindOf x≠some .local ->
    bindC kindOf (P.zip vs) m x=some v
  | [],_,_,_,_,h,_,_=>by simp at h
  | _ :: _,[],_,_,_,_,h,_=>by simp at h
  | p :: P,w :: vs,0,m,nd,h1,h2,hk=>by
    simp at h1 h2; subst h1; subst h2
    show bindC kindOf ((p,w) :: P.zip vs) m p=_
    unfold bindC
    rw [bindC_out fun v hv=>(List.nodup_cons.mp nd).1 (List.of_mem_zip hv).1,if_neg hk]
    simp
  | p :: P,w :: vs,i + 1,m,nd,h1,h2,hk=>by
    show bindC kindOf ((p,w) :: P.zip vs) m x=_
    unfold bindC
    exact bindC_get (i:=i) (List.nodup_cons.mp nd).2 (by simpa using h1) (by simpa using h2) hk

def start (N:List Str) (vs:List V):St:=vs.map some ++ List.replicate (N.length - vs.length) none

def uy (CX:CXT) (P:Program) (w:World) (K:PySem.W.Frag) (mg:Str->Option Value) (base:Heap) (N:List Str) (qual:Str) (scope:Scope) (f:Addr) (cd:Value) (A:Around) (outer:List Env) (s:Shared) (H:Hp) (E:XK):Cx where
  prog:=P
  w:=w
  K:=K
  mg:=mg
  base:=base
  A:=A.deeper (envOfC qual scope s.heap.objs.size f cd)
  N:=N
  s₀:=s
  H₀:=H
  env:=envOfC qual scope s.heap.objs.size f cd
  outer:=outer
  stack:=envOfC qual scope s.heap.objs.size f cd :: outer
  ex:=[]
  calm:=true
  fn:=fun _=>true
  pn:=[]
  xe:=fun e s'=>wpAny (model P w) (A.deeper (envOfC qual scope s.heap.objs.size f cd)) («leaving» (envOfC qual scope s.heap.objs.size f cd) e) (fun _ s''=>CX outer H s E e s'') (fun e' s''=>CX outer H s E e' s'') s'

theorem cell_has {sc:Scope} {n:Nat} {x:Str} (h:sc.names.lookup x=some .cell):∃ c,(cellsFrom n sc.names []).lookup x=some c:=by
  have q:=PySem.W.cellsFrom_some sc.names n [] (.inl h)
  exact Option.isSome_iff_exists.mp q

theorem inv_start {CX:CXT} {P:Program} {w:World} {K:PySem.W.Frag} {mg:Str->Option Value} {base:Heap} {N ps:List Str} {qual:Str} {scope:Scope} {f:Addr} {cd:Value} {A:Around} {outer:List Env} {s s1:Shared} {H:Hp} {E:XK} {us:List Value} {vs:List V}
    (S:FnScope N ps scope) (hd:A.handled=none) (e0:Env0 P w K mg base A outer s H) (hl:vs.length=ps.length) (r:ym vs us)
    (x:InCallC s s.heap.objs.size (bindL (envOfC qual scope s.heap.objs.size f cd).kindOf (ps.zip us) fun _=>none) (cellsFrom (s.heap.objs.size + 1) scope.names []) (bindC (envOfC qual scope s.heap.objs.size f cd).kindOf (ps.zip us) fun _=>none) s1) :
    Inv (uy CX P w K mg base N qual scope f cd A outer s H E) [] (start N vs) H s1:=by
  have hpl:ps.length<=N.length:=by have:=congrArg List.length S.pre; rw [List.length_take] at this; omega
  obtain ⟨h1,tk,rfl,hk⟩:=x.done
  have noA:∀ b:Addr,b ∉ (uy CX P w K mg base N qual scope f cd A outer s H E).ex:=fun b z=>absurd (show b ∈ ([]:List Addr) from z) (by simp)
  refine ⟨⟨e0.mod,S.kind,rfl,rfl,Nat.le_refl _,fun y z c h1 h2=>?_,fun y hy=>?_,fun y c _ h=>?_,fun _=>hd,Around.frames_deeper e0.frames,.inr ⟨rfl,rfl⟩,fun b z=>absurd z (noA b),e0.bs,e0.bsz,fun b _ _=>noA b,fun b z=>absurd z (noA b),e0.funs,e0.frf⟩,
    rfl,e0.bare,Un.kept hk,⟨_,x.toInCall.ns,fun i y v h1 h2 h3=>?_⟩,fun y c h=>⟨_,x.cell y c h⟩,e0.hok.fresh (Nat.le_refl _),fun y c h=>?_,fun p hp=>absurd (show p ∈ ([]:List (Addr × Obj)) from hp) (by simp),e0.hok.kept hk,?_⟩
  · exact name_of_addr x.apart (PySem.mem_of_lookup h1) (PySem.mem_of_lookup h2)
  · have hy:scope.names.lookup y=some .cell∨scope.names.lookup y=some .free:=hy
    rcases hy with hy | hy
    · exact cell_has hy
    · exact absurd rfl (S.nofree _ (PySem.mem_of_lookup hy))
  · exact Nat.le_of_lt (x.above y c (PySem.mem_of_lookup h))
  · have hi:i < vs.length:=by
      unfold start at h2
      by_cases hi:i < vs.length
      · exact hi
      · rw [List.getElem?_append_right (by simpa using hi)] at h2
        rw [List.getElem?_replicate] at h2
        split at h2 <;> cases h2
    have ha:vs[i]? = some v:=by
      unfold start at h2
      rw [List.getElem?_append_left (by simpa using hi),List.getElem?_map] at h2
      cases e:vs[i]? with
      | none=>rw [e] at h2; cases h2
      | some a=>rw [e] at h2; cases h2; rfl
    obtain ⟨u,hu,rv⟩:=r.get ha
    have hp:ps[i]? = some y:=by
      rw [<- S.pre,List.getElem?_take_of_lt (by omega)]; exact h1
    have ndP:ps.Nodup:=by rw [<- S.pre]; exact S.nd.sublist (List.take_sublist _ _)
    refine ⟨u,rv,?_⟩
    rcases S.par y (List.mem_of_getElem? hp) with k | k
    · exact .inl ⟨k,bindL_get ndP hp hu k⟩
    · obtain ⟨c,e⟩:=cell_has (n:=s.heap.objs.size + 1) k
      refine .inr ⟨.inl k,c,e,?_⟩
      have q:=x.cell y c e
      rw [bindC_get ndP hp hu (by show scope.names.lookup y≠_; rw [k]; decide)] at q
      exact q
  · exact e0.hok.fresh (Nat.le_of_lt (x.above y c (PySem.mem_of_lookup h)))
  · unfold start
    show _=N.length
    rw [List.length_append,List.length_map,List.length_replicate]
    omega

theorem fn_of {CX:CXT} {P:Program} {w:World} {K:PySem.W.Frag} {mg:Str->Option Value} {base:Heap} {k:Nat} {f:Addr} {name qual:Str} {params:Arguments} {body:List Stmt} {scope:Scope} {dV kV doc pm cdv ct oc:Value} {an od:Option Addr}
    {osl:Array (Option Value)} {N ps:List Str} {sp:Sp} (lk:K.lookup f=some ⟨oc,od,.func (PySem.W.fnOf name qual params body scope dV kV doc pm an cdv ct),osl⟩) (hcd:PySem.W.codeIn K cdv qual=true) (S:FnScope N ps scope)
    (len:∀ vs H Q E,sp vs H Q E->vs.length=ps.length)
    (hbody:∀ (A:Around) (outer:List Env) (s:Shared) (H:Hp) (vs:List V) (Q:VK) (E:XK),Room k (A.deeper (envOfC qual scope s.heap.objs.size f cdv))->sp vs H Q E ->
      ∃ t,PSs (uy CX P w K mg base N qual scope f cdv A outer s H E) body t∧t { nx:=fun _ H'=>Q .non H',rt:=Q } (start N vs) H) :
    FnOk P w K mg base CX (k + 1) f (PySem.W.fnOf name qual params body scope dV kV doc pm an cdv ct) ps sp:=by
  refine ⟨len,fun A outer s H args us vs Q E hr e0 hb r hsp=>?_⟩
  have hl:=len _ _ _ _ hsp
  have KX:K.In s.heap:=e0.mod.kin.keeps fun b o e=>(e0.bs b o e).1
  have lim:s.heap.NoLimit:=e0.mod.nolimit.keeps fun b o e=>(e0.bs b o e).1
  have hkind:∀ y ∈ ps.zip us,scope.names.lookup y.1=some .local∨(scope.names.lookup y.1=some .cell∧((cellsFrom (s.heap.objs.size + 1) scope.names []).lookup y.1).isSome=true):=fun ⟨n,v⟩ hy=>by
    rcases S.par n (List.of_mem_zip hy).1 with q | q
    · exact .inl q
    · exact .inr ⟨q,PySem.W.cellsFrom_some _ _ _ (.inl q)⟩
  refine codeAny_call_function hr.depth (KX _ _ lk) rfl S.co S.gen rfl (PySem.W.codeRec_of KX hcd) (hb _ _ _ _ ?_)
  refine wpAny_newFunctionEnv_cells S.kind hkind fun env he s1 x=>?_
  subst he
  refine ⟨lim.keeps x.toInCall.keep,codeAny_func ?_⟩
  obtain ⟨t,ht,hq⟩:=hbody A outer s H vs Q E (hr.deeper _) hsp
  have I:Inv (uy CX P w K mg base N qual scope f cdv A outer s H E) [] (start N vs) H s1:=inv_start S hr.hd e0 hl r x
  refine wpAny_mono (ht [] s1 (start N vs) H _ I hq) (fun fl s' hs=>?_) fun e s' hs=>hs
  have fin:∀ {σ':St} {H':Hp} {v:V} {u:Value},Inv (uy CX P w K mg base N qual scope f cdv A outer s H E) [] σ' H' s'->yn v u->Q v H'->CE outer P w H s Q u s' :=
    fun {σ' H' v u} J rv q=>⟨v,H',J.os,J.bare,J.base,J.hok,rv,q⟩
  cases fl with
  | ret u =>
    obtain ⟨v,σ',H',J,rv,q⟩:=hs
    exact fin J rv q
  | next =>
    obtain ⟨σ',H',J,q⟩:=hs
    exact fin (v:=V.non) (u:=Value.none) J rfl q
  | brk =>
    obtain ⟨_,_,_,q⟩:=hs
    exact False.elim q
  | cont =>
    obtain ⟨_,_,_,q⟩:=hs
    exact False.elim q
end L2

namespace L2
open PySem PySem.Spec PyProof.Rows
section
variable {X:Cx} {x:Str} {p pos:Pos} {e:Expr} {es:List Expr} {t:TA} {id T:String} {r:List V->Hp->VK->Prop}

def tCB (r:List V->Hp->VK->Prop) (t:TA):TE:=fun σ H Q=>t σ H fun vs H1=>r vs H1 Q
theorem pe_callB (hc:yy X (.builtin id) r) (hg:Gl X x) (hm:X.mg x=none) (hv:bootBuiltins x=some (.builtin id)) (ha:PA X (e :: es) t) (hn:x≠"__name__":=by decide) (hdb:(x == ("__debug__":Str))=false:=by decide)
    (he:starEach (e :: es) X.env=(false,eval e X.env) :: starEach es X.env:=by rfl) (hpl:(backTo pos (starEach es X.env)).any (·.1)=false:=by rfl):PE X (.Call (.Name x p) (e :: es) [] pos) (tCB r t):=by
  intro pins s σ H Q I h
  refine wpAny_Call_Name_kw (JC I hg hm hv ?_ hn hdb)
  exact PyProof.Rows.callWith_builtin1 (thn (ha pos pins s σ H _ I h) fun us s1 ⟨vs,H1,I1,r1,q1⟩=>hc pins s1 σ H1 vs us Q I1 r1 q1) he hpl
theorem pe_callTy (hc:yy X (.type T) r) (hg:Gl X x) (hm:X.mg x=none) (hv:bootBuiltins x=some (.type T)) (ha:PA X (e :: es) t) (hn:x≠"__name__":=by decide) (hdb:(x == ("__debug__":Str))=false:=by decide)
    (he:starEach (e :: es) X.env=(false,eval e X.env) :: starEach es X.env:=by rfl) (hpl:(backTo pos (starEach es X.env)).any (·.1)=false:=by rfl):PE X (.Call (.Name x p) (e :: es) [] pos) (tCB r t):=by
  intro pins s σ H Q I h
  refine wpAny_Call_Name_kw (JC I hg hm hv ?_ hn hdb)
  exact PyProof.Rows.callWith_type1 (thn (ha pos pins s σ H _ I h) fun us s1 ⟨vs,H1,I1,r1,q1⟩=>hc pins s1 σ H1 vs us Q I1 r1 q1) he hpl
end
end L2

namespace HT
open PySem PyProof.Rows

section
open PySem.SeqAt
open PySem.AutoSeq1 (wpAny_loadPart')
open PySem.MeetsSeq PySem.MeetsSeq2 PySem.MeetsSeq3

end

section
variable {prog:Program} {w:World} {A:Around} {E:Value->Shared->Prop} {s:Shared}

theorem cat_tup {t b:Addr} {vs ws:List Value} {Q:Value->Shared->Prop} (ht:IsTup s.heap t vs.toArray) (hb:IsTup s.heap b ws.toArray) (hv:vs≠[])
    (h1:ws=[]->Q (.ref t) s) (h2:ws≠[]->Q (.ref s.heap.objs.size) { s with heap:=s.heap.push { cls:=.type "tuple",data:=.seq (vs ++ ws).toArray } })
    (hsz:vs.length + ws.length<=sizeLine):wpAny (model prog w) A (binaryOp .Add (.ref t) (.ref b)) Q E s:=by
  obtain ⟨⟨cls,dd,data,sl⟩,ho,hc,n,hd⟩:=id ht
  obtain ⟨⟨cls2,dd2,data2,sl2⟩,ho2,hc2,n2,hd2⟩:=id hb
  simp only at hc hd hc2 hd2
  subst hc hd hc2 hd2
  have e:vs.toArray ++ ws.toArray=(vs ++ ws).toArray:=by simp
  by_cases hw:ws=[]
  · exact concat_meets ⟨_,ho,rfl⟩ ⟨_,ho2,rfl⟩ noFill_tuple_add seq_tuple_add PySem.F.slot_tuple_add PySem.F.entry_tuple_add (PySem.F.args_tuple_add_2 _ _)
      (tuple_addW1 t b vs.toArray ws.toArray n n2 dd dd2 sl sl2 (by simpa using hv) (by simp [hw])) ⟨ho,ho2,h1 hw⟩
  · refine concat_meets ⟨_,ho,rfl⟩ ⟨_,ho2,rfl⟩ noFill_tuple_add seq_tuple_add PySem.F.slot_tuple_add PySem.F.entry_tuple_add (PySem.F.args_tuple_add_2 _ _)
      (tuple_addW2 t b vs.toArray ws.toArray n n2 dd dd2 sl sl2 (by simpa using hv) (by simpa using hw) (by rw [List.size_toArray,List.size_toArray]; exact hsz)) ⟨ho,ho2,?_⟩
    rw [e]
    exact h2 hw

def sIx (n d:Nat):Option Int->Nat
  | none=>d
  | some v=>if v < 0 then (v + (n:Int)).toNat else min v.toNat n
theorem sIx_le (n d:Nat) (hd:d<=n) (o:Option Int):sIx n d o<=n:=by
  cases o with
  | none=>exact hd
  | some v =>
    show (if v < 0 then (v + (n:Int)).toNat else min v.toNat n)<=n
    by_cases hv:v < 0
    · rw [if_pos hv]; omega
    · rw [if_neg hv]; exact Nat.min_le_right _ _
theorem clip_eq (v:Int) (n d:Nat):(if v < 0 then max (v + (n:Int)) 0 else min v (n:Int))=((sIx n d (some v):Nat):Int):=by
  show (if v < 0 then max (v + (n:Int)) 0 else min v (n:Int))=(((if v < 0 then (v + (n:Int)).toNat else min v.toNat n):Nat):Int)
  by_cases hv:v < 0
  · simp only [if_pos hv]; omega
  · simp only [if_neg hv]; omega
theorem adjust_gen (lo hi:Option Int) (n:Nat):Builtin.Slice.sliceAdjust lo hi 1 (n:Int)=(((sIx n 0 lo:Nat):Int),((sIx n n hi:Nat):Int)):=by
  have h1:¬ ((1:Int) < 0):=by omega
  unfold Builtin.Slice.sliceAdjust
  simp only [h1,if_false]
  refine Prod.ext ?_ ?_
  · cases lo with
    | none=>rfl
    | some v=>exact clip_eq v n 0
  · cases hi with
    | none=>rfl
    | some v=>exact clip_eq v n n
theorem places_gen (i j:Nat):Builtin.Slice.slicePlaces (i:Int) (j:Int) 1=j - i:=by
  unfold Builtin.Slice.slicePlaces
  have h1:(1:Int) > 0:=by omega
  simp only [h1,if_true,Int.ediv_one]
  split <;> omega
theorem XH {v:Value} {o:Option Int} {Q:Option Int->Shared->Prop} (p:IsPart v o) (h:Q o s):wpAny (model prog w) A (Builtin.Slice.slicePartIndex v) Q E s:=by
  cases p with
  | none=>exact slicePart_none h
  | int i t=>exact slicePart_int h
theorem vX {sl:Addr} {vl vu:Value} {lo hi:Option Int} {n:Nat} {Q:Int × Int × Nat->Shared->Prop} (hs:s.heap.IsSliceOf sl vl vu .none) (pl:IsPart vl lo) (pu:IsPart vu hi)
    (h:Q (((sIx n 0 lo:Nat):Int),1,sIx n n hi - sIx n 0 lo) s):wpAny (model prog w) A (Builtin.Slice.sliceApplied (.ref sl) (pure (n:Int))) Q E s:=by
  obtain ⟨os,hos,hcs,hds⟩:=id hs
  unfold Builtin.Slice.sliceApplied Builtin.Slice.sliceFields
  refine wpAny_bind (wpAny_bind (wpAny_field hos hds (x:=vl) rfl (wpAny_bind (wpAny_field hos hds (x:=vu) rfl (wpAny_bind (wpAny_field hos hds (x:=.none) rfl (wpAny_pure ?_)))))))
  refine wpAny_bind (slicePart_none ?_)
  show wpAny _ _ (if ((1:Int) == 0)=true then _ else _) _ _ s
  rw [if_neg (by decide)]
  refine wpAny_bind (XH pl (wpAny_bind (XH pu (wpAny_bind (wpAny_pure ?_)))))
  show wpAny _ _ (match Builtin.Slice.sliceAdjust lo hi 1 (n:Int) with | (lo,hi)=>pure (lo,(1:Int),Builtin.Slice.slicePlaces lo hi 1)) _ _ s
  rw [adjust_gen lo hi n]
  show wpAny _ _ (pure (((sIx n 0 lo:Nat):Int),(1:Int),Builtin.Slice.slicePlaces ((sIx n 0 lo:Nat):Int) ((sIx n n hi:Nat):Int) 1)) _ _ s
  rw [places_gen]
  exact wpAny_pure h
theorem pick_gen (xs:Array Value) (i k:Nat):((List.range k).filterMap fun (m:Nat)=>xs[((i:Int) + (m:Int) * 1).toNat]?).toArray=((xs.toList.drop i).take k).toArray:=by
  have e:(fun (m:Nat)=>xs[((i:Int) + (m:Int) * 1).toNat]?)=fun m=>xs[i + m]?:=by
    funext m
    have:((i:Int) + (m:Int) * 1).toNat=i + m:=by omega
    rw [this]
  rw [e]
  have:=pick_run xs i k
  rw [List.filterMap_map] at this
  have e2:((fun x=>xs[x]?) ∘ fun x=>i + x)=fun m=>xs[i + m]?:=rfl
  rw [e2] at this
  rw [this]

theorem getItem_tuple_cut {t sl:Addr} {items:Array Value} {vl vu:Value} {lo hi:Option Int} {Q:Value->Shared->Prop} (ht:IsTup s.heap t items) (hs:s.heap.IsSliceOf sl vl vu .none) (pl:IsPart vl lo) (pu:IsPart vu hi)
    (hw:¬ (sIx items.size 0 lo=0∧sIx items.size items.size hi=items.size))
    (h:Q (.ref s.heap.objs.size) { s with heap:=s.heap.push { cls:=.type "tuple",data:=.seq ((items.toList.drop (sIx items.size 0 lo)).take (sIx items.size items.size hi - sIx items.size 0 lo)).toArray } })
    (hsz:items.size<=sizeLine):wpAny (model prog w) A (getItem (.ref t) (.ref sl)) Q E s:=by
  have htake:sizeOk (.seq ((items.toList.drop (sIx items.size 0 lo)).take (sIx items.size items.size hi - sIx items.size 0 lo)).toArray):=by
    show ((items.toList.drop (sIx items.size 0 lo)).take (sIx items.size items.size hi - sIx items.size 0 lo)).toArray.size<=sizeLine
    rw [List.size_toArray,List.length_take,List.length_drop,Array.length_toList]
    omega
  have hj:sIx items.size items.size hi<=items.size:=sIx_le _ _ (Nat.le_refl _) hi
  obtain ⟨os,hos,hcs,hds⟩:=id hs
  have hTs:s.TypeIs (.ref sl) "slice":=⟨os,hos,hcs⟩
  unfold getItem
  try with_reducible refine wpAny_holding ?_
  first | refine wpAny_bind (wpAny_pure ?_) | skip
  refine wpAny_bind (wpAny_sequenceKey ht.typeIs (by decide) ?_)
  refine wpAny_bind (wpAny_callSpecial?_slot (name:=Str.ofString "__getitem__") ht.typeIs PyProof.Rows.slot_tuple_getitem
    (wpAny_call_entry PyProof.Rows.slot_tuple_getitem ht.typeIs entry_tuple_getitem ?_ (args_tuple_getitem _ _)))
  show wpAny _ _ (Builtin.Tuple.tupleItemsOf (.ref t) >>= _) _ _ s
  refine wpAny_bind (tupleItemsOf_ ht ?_)
  refine wpAny_bind (wpAny_typeOf hTs ?_)
  rw [if_pos (by decide)]
  refine wpAny_bind (vX hs pl pu ?_)
  have hno:¬ ((((sIx items.size 0 lo:Nat):Int) == 0 && (1:Int) == 1 && (sIx items.size items.size hi - sIx items.size 0 lo) == items.size)=true):=by
    intro q
    rw [Bool.and_eq_true,Bool.and_eq_true] at q
    have q1:((sIx items.size 0 lo:Nat):Int)=0:=eq_of_beq q.1.1
    have q2:sIx items.size items.size hi - sIx items.size 0 lo=items.size:=eq_of_beq q.2
    exact hw ⟨by omega,by omega⟩
  show wpAny _ _ (if (((sIx items.size 0 lo:Nat):Int) == 0 && (1:Int) == 1 && (sIx items.size items.size hi - sIx items.size 0 lo) == items.size)=true then _ else _) _ _ s
  rw [if_neg hno,pick_gen]
  first
    | exact wpAny_bind (m:=Builtin.Tuple.tupleExact _) (wpAny_newObj_type (wpAny_pure ⟨_,rfl,wpAny_pure h⟩) htake)
    | exact wpAny_bind (m:=Builtin.Tuple.tupleExact _) (wpAny_newObj_type (wpAny_bind (wpAny_pure (wpAny_pure ⟨_,rfl,wpAny_pure h⟩))) htake)
    | exact wpAny_bind (wpAny_bind (m:=Builtin.Tuple.tupleExact _) (wpAny_newObj_type (wpAny_pure (wpAny_pure ⟨_,rfl,wpAny_pure h⟩)) htake))
    | exact wpAny_bind (wpAny_bind (m:=Builtin.Tuple.tupleExact _) (wpAny_newObj_type (wpAny_pure ⟨_,rfl,wpAny_pure h⟩) htake))
end
end HT

namespace L2
open PySem PySem.Spec PyProof.Rows

abbrev TO:=St->Hp->(Option Int->Hp->Prop)->Prop
def PO (X:Cx) (e:Option Expr) (t:TO):Prop :=
  ∀ (pins:List (Addr × Obj)) (s:Shared) (σ:St) (H:Hp) (Q:Option Int->Hp->Prop),Inv X pins σ H s->t σ H Q ->
    wpAny (model X.prog X.w) X.A (evalPart e X.env) (fun u s'=>∃ o H',Inv X pins σ H' s'∧IsPart u o∧Q o H') X.xe s
def tNoPart:TO:=fun _ H Q=>Q none H
def tPart (t:TE):TO:=fun σ H Q=>t σ H fun x H1=>∃ i,x = .int i∧Q (some i) H1

theorem intsAre_of {ns:List Int}:∀ {us:List Value},ym (ns.map V.int) us->IntsAre us ns:=by
  induction ns with
  | nil=>intro us r; rw [List.map_nil] at r; cases r; exact .nil
  | cons n ns ih =>
    intro us r
    rw [List.map_cons] at r
    cases r with
    | cons r1 r2 =>
      obtain ⟨t,e⟩:=r1
      subst e
      exact .cons n t (ih r2)

section
variable {X:Cx} {e:Expr} {te:TE} {lo hi:Option Expr} {tl th:TO} {pos p2:Pos}

theorem po_none:PO X none tNoPart:=by
  intro pins s σ H Q I h
  rw [evalPart_none]
  exact wpAny_pure ⟨none,H,I,.none,h⟩
theorem po_some (h:PE X e te):PO X (some e) (tPart te):=by
  intro pins s σ H Q I hw
  rw [evalPart_some]
  refine thn (h pins s σ H _ I hw) fun u s1 hQQ=>?_
  obtain ⟨x,H1,I1,r1,q1⟩:=hQQ
  obtain ⟨i,rfl,q⟩:=q1
  obtain ⟨t,rfl⟩:=r1
  exact ⟨some i,H1,I1,.int i t,q⟩

def SlR (X:Cx) (r:V->Option Int->Option Int->Hp->VK->Prop):Prop :=
  ∀ (pins:List (Addr × Obj)) (s:Shared) (σ:St) (H:Hp) (x:V) (v vl vu:Value) (lo hi:Option Int) (sl:Addr) (Q:VK),Inv X pins σ H s->yn x v->s.heap.IsSliceOf sl vl vu .none->IsPart vl lo->IsPart vu hi->r x lo hi H Q ->
    ∃ T id,typeLookup (.type T) "__getitem__" = pure (some (.builtin id))∧s.TypeIs v T∧wpAny (model X.prog X.w) X.A (getItem v (.ref sl)) (EP X pins σ Q) X.xe s
theorem SlR.or {r r':V->Option Int->Option Int->Hp->VK->Prop} (h:SlR X r) (h':SlR X r'):SlR X (fun x lo hi H Q=>r x lo hi H Q∨r' x lo hi H Q):=by
  intro pins s σ H x v vl vu lo hi sl Q I rx hs pl pu q
  rcases q with q | q
  · exact h pins s σ H x v vl vu lo hi sl Q I rx hs pl pu q
  · exact h' pins s σ H x v vl vu lo hi sl Q I rx hs pl pu q
def tSl (r:V->Option Int->Option Int->Hp->VK->Prop) (te:TE) (tl th:TO):TE:=fun σ H Q=>te σ H fun x H1=>tl σ H1 fun l H2=>th σ H2 fun u H3=>r x l u H3 Q
theorem pe_slice {r:V->Option Int->Option Int->Hp->VK->Prop} (hr:SlR X r) (he:PE X e te) (hl:PO X lo tl) (hu:PO X hi th):PE X (.Subscript e (.Slice lo hi none p2) pos) (tSl r te tl th):=by
  intro pins s σ H Q I h
  refine Subscript_ (thn (he pins s σ H _ I h) fun v s1 hQQ=>?_)
  obtain ⟨x,H1,I1,r1,q1⟩:=hQQ
  refine wpAny_Slice (thn (hl pins s1 σ H1 _ I1 q1) fun vl s2 ⟨l,H2,I2,pl,q2⟩=>thn (hu pins s2 σ H2 _ I2 q2) fun vu s3 hQQ=>?_)
  obtain ⟨u,H3,I3,pu,q3⟩:=hQQ
  rw [evalPart_none]
  refine wpAny_pure ?_
  have I4:Inv X pins σ H3 { s3 with heap:=s3.heap.push { cls:=.type "slice",data:=.fields #[vl,vu,.none] } }:=I3.kept (t':=s3.toks) fun b ob q=>Heap.get?_push_of_some _ q
  obtain ⟨T,id,hT,ht,hg⟩:=hr pins { s3 with heap:=s3.heap.push { cls:=.type "slice",data:=.fields #[vl,vu,.none] } } σ H3 x v vl vu l u s3.heap.objs.size Q I4 r1 (Heap.IsSliceOf.new ..) pl pu q3
  show wpAny (model X.prog X.w) X.A (subscriptTail e (.Slice lo hi none p2) v (.ref s3.heap.objs.size)) (EP X pins σ Q) X.xe { s3 with heap:=s3.heap.push { cls:=.type "slice",data:=.fields #[vl,vu,.none] } }
  exact tail_any (ops:=[.ref s3.heap.objs.size,v]) ht hT hg (by with_unfolding_all rfl)

def cutV (xs:List V) (lo hi:Option Int):List V:=(xs.drop (HT.sIx xs.length 0 lo)).take (HT.sIx xs.length xs.length hi - HT.sIx xs.length 0 lo)
theorem Xd (xs:List V) (lo hi:Option Int):(cutV xs lo hi).length<=xs.length:=by
  unfold cutV
  rw [List.length_take,List.length_drop]
  omega
def rSlT (K:PySem.W.Frag):V->Option Int->Option Int->Hp->VK->Prop:=fun x lo hi H Q=>∃ a xs,x = .ref a∧SqT K H a xs ∧
  ¬ (HT.sIx xs.length 0 lo=0∧HT.sIx xs.length xs.length hi=xs.length)∧∀ p,H p=none->Q (.ref p) (upd H p (.tup (cutV xs lo hi)))
theorem sl_tup:SlR X (rSlT X.K):=by
  intro pins s σ H x v vl vu lo hi sl Q I rx hs pl pu h
  obtain ⟨a,xs,rfl,hx,hw,q⟩:=h
  cases rx
  obtain ⟨its,r,ht,hz⟩:=I.tuple hx
  have hlen:its.toArray.size=xs.length:=by rw [List.size_toArray]; exact r.length.symm
  refine ⟨"tuple",_,PyProof.Rows.slot_tuple_getitem.lookup,ht.typeIs,?_⟩
  refine HT.getItem_tuple_cut ht hs pl pu (by rw [hlen]; exact hw) ?_ (by rw [hlen]; exact hz)
  rw [hlen]
  refine ⟨.ref s.heap.objs.size,_,I.laid (t':=s.toks) (o:=.tup (cutV xs lo hi)) (fun b ob q=>Heap.get?_push_of_some _ q) (Nat.le_refl _) ?_,rfl,q _ (I.hok.fresh (Nat.le_refl _))⟩
  exact ⟨Nat.le_trans (Xd xs lo hi) hz,_,(r.drop (HT.sIx xs.length 0 lo)).take (HT.sIx xs.length xs.length hi - HT.sIx xs.length 0 lo),IsTup.new _ _⟩

def rCatT (K:PySem.W.Frag):R2:=fun x y H Q=>∃ a b xs ys,x = .ref a∧y = .ref b∧SqT K H a xs∧SqT K H b ys∧xs≠[]∧xs.length + ys.length<=sizeLine ∧
  (ys=[]->Q (.ref a) H)∧(ys≠[]->∀ p,H p=none->Q (.ref p) (upd H p (.tup (xs ++ ys))))
theorem ym.nil_iff {xs:List V} {us:List Value} (r:ym xs us):us=[]↔xs=[]:=by
  cases r with
  | nil=>simp
  | cons _ _=>simp
theorem op_catT:OpR X (binaryOp .Add) (rCatT X.K):=by
  intro pins s σ H x y v u Q I rx ry h
  obtain ⟨a,b,xs,ys,rfl,rfl,ha,hb,hx,hz,q1,q2⟩:=h
  cases rx
  cases ry
  obtain ⟨its,r1,p1,_⟩:=I.tuple ha
  obtain ⟨its2,r2,p2,_⟩:=I.tuple hb
  refine HT.cat_tup p1 p2 (fun z=>hx (r1.nil_iff.mp z)) (fun z=>⟨.ref a,H,I,rfl,q1 (r2.nil_iff.mp z)⟩) (fun z=>?_) (by rw [<- r1.length,<- r2.length]; exact hz)
  refine ⟨.ref s.heap.objs.size,_,I.laid (t':=s.toks) (o:=.tup (xs ++ ys)) (fun b ob q=>Heap.get?_push_of_some _ q) (Nat.le_refl _) ?_,rfl,q2 (fun w=>z (r2.nil_iff.mpr w)) _ (I.hok.fresh (Nat.le_refl _))⟩
  exact ⟨by rw [List.length_append]; exact hz,_,r1.append r2,IsTup.new _ _⟩
end
end L2

namespace L2
open PySem PySem.Spec PyProof.Rows

def ixN (n:Nat) (i:Int):Option Nat:=if 0<=i then (if i < n then some i.toNat else none) else if -(n:Int)<=i then some (i + n).toNat else none
def atI {α:Type} (xs:List α) (i:Int):Option α:=(ixN xs.length i).bind fun j=>xs[j]?
theorem ixN_seq {n:Nat} {i:Int} {j:Nat} (h:ixN n i=some j):seqIndex? i n=some j∧j < n∧-(n:Int)<=i∧i < n:=by
  unfold ixN at h
  by_cases h0:0<=i
  · rw [if_pos h0] at h
    by_cases h1:i < n
    · rw [if_pos h1] at h
      have e:i.toNat=j:=Option.some.inj h
      exact ⟨by rw [seqIndex_of h0 h1,e],by omega,by omega,h1⟩
    · rw [if_neg h1] at h; cases h
  · rw [if_neg h0] at h
    by_cases h1:-(n:Int)<=i
    · rw [if_pos h1] at h
      have e:(i + n).toNat=j:=Option.some.inj h
      exact ⟨by rw [seqIndex_neg (by omega) h1,e],by omega,h1,by omega⟩
    · rw [if_neg h1] at h; cases h
theorem atI_get {α:Type} {xs:List α} {i:Int} {v:α} (h:atI xs i=some v):∃ j,seqIndex? i xs.length=some j∧xs[j]? = some v∧j < xs.length∧-(xs.length:Int)<=i∧i < xs.length:=by
  unfold atI at h
  cases e:ixN xs.length i with
  | none=>rw [e] at h; cases h
  | some j =>
    rw [e] at h
    obtain ⟨h1,h2,h3,h4⟩:=ixN_seq e
    exact ⟨j,h1,h,h2,h3,h4⟩
theorem atI_last {α:Type} (xs:List α) (v:α):atI (xs ++ [v]) (-1)=some v:=by
  have hl:(xs ++ [v]).length=xs.length + 1:=by simp
  have e:ixN (xs ++ [v]).length (-1)=some xs.length:=by
    unfold ixN
    rw [hl,if_neg (by decide),if_pos (by omega)]
    congr 1
    omega
  unfold atI
  rw [e]
  show (xs ++ [v])[xs.length]? = some v
  simp

def PlainIx (b:Expr):Prop:=∀ o i,subscripted b false o i=operate [o,i] (getItem o i)
def IxR (X:Cx) (r:R2):Prop :=
  ∀ (value slice:Expr) (pins:List (Addr × Obj)) (s:Shared) (σ:St) (H:Hp) (x y:V) (v u:Value) (Q:VK),Inv X pins σ H s->yn x v->yn y u->r x y H Q ->
    subscripted slice false v u=operate [v,u] (getItem v u)->wpAny (model X.prog X.w) X.A (subscriptTail value slice v u) (EP X pins σ Q) X.xe s
def MtR (X:Cx) (id:String) (r:V->List V->Hp->VK->Prop):Prop :=
  ∀ (pins:List (Addr × Obj)) (s:Shared) (σ:St) (H:Hp) (x:V) (xs:List V) (v:Value) (us:List Value) (Q:VK),Inv X pins σ H s->yn x v->ym xs us->r x xs H Q ->
    wpAny (model X.prog X.w) X.A (call (.builtin id) (v :: us)) (EP X pins σ Q) X.xe s
section
variable {X:Cx} {a b:Expr} {ta tb:TE} {pos:Pos}
theorem IxR.or {r r':R2} (h:IxR X r) (h':IxR X r'):IxR X (fun x y H Q=>r x y H Q∨r' x y H Q):=by
  intro value slice pins s σ H x y v u Q I rx ry q hs
  rcases q with q | q
  · exact h value slice pins s σ H x y v u Q I rx ry q hs
  · exact h' value slice pins s σ H x y v u Q I rx ry q hs
theorem pe_ix {r:R2} (hr:IxR X r) (ha:PE X a ta) (hb:PE X b tb) (hs:PlainIx b):PE X (.Subscript a b pos) (tOp r ta tb):=by
  intro pins s σ H Q I h
  exact Subscript_ (binT ha hb I h fun v u s2 x y H2 I2 rx ry q=>hr a b pins s2 σ H2 x y v u Q I2 rx ry q (hs _ _))

def rIxL (K:PySem.W.Frag):R2:=fun x y H Q=>∃ p xs i v,x = .ref p∧y = .int i∧SqL K H p xs∧atI xs i=some v∧Q v H
def rIxT (K:PySem.W.Frag):R2:=fun x y H Q=>∃ p xs i v,x = .ref p∧y = .int i∧SqT K H p xs∧atI xs i=some v∧Q v H
theorem ix_list:IxR X (rIxL X.K):=by
  intro value slice pins s σ H x y v u Q I rx ry h hs
  obtain ⟨p,xs,i,z,rfl,rfl,hq,he,q⟩:=h
  cases rx
  obtain ⟨t,rfl⟩:=ry
  obtain ⟨its,r,pl,hz⟩:=I.list hq
  obtain ⟨j,h1,h2,h3,h4,h5⟩:=atI_get he
  obtain ⟨w,ew,rw'⟩:=r.get h2
  have hl:=r.length
  have hn:=line63
  have fin:EP X pins σ Q w s:=⟨z,H,I,rw',q⟩
  by_cases h0:0<=i
  · have hj:i.toNat=j:=by
      rw [seqIndex_of h0 h5] at h1
      exact Option.some.inj h1
    exact item_listR pl.isList h0 (by omega) (by rw [hj]; simpa using ew) fin hs
  · have hj:(i + (its.toArray.size:Int)).toNat=j:=by
      rw [seqIndex_neg (by omega) h4] at h1
      rw [List.size_toArray,<- hl]
      exact Option.some.inj h1
    exact subscriptTail_builtinR (x:=w) pl.isList.typeIs slot_list_getitem.lookup
      (wpAny_getItem_list_neg (Q:=fun r s'=>r=w∧EP X pins σ Q r s') pl.isList (by omega) (by rw [List.size_toArray] <;> omega) (by omega) (by rw [hj]; simpa using ew) ⟨rfl,fin⟩) hs
theorem ix_tup:IxR X (rIxT X.K):=by
  intro value slice pins s σ H x y v u Q I rx ry h hs
  obtain ⟨p,xs,i,z,rfl,rfl,hq,he,q⟩:=h
  cases rx
  obtain ⟨t,rfl⟩:=ry
  obtain ⟨its,r,pl,hz⟩:=I.tuple hq
  obtain ⟨j,h1,h2,h3,h4,h5⟩:=atI_get he
  obtain ⟨w,ew,rw'⟩:=r.get h2
  have hl:=r.length
  have hn:=line63
  have fin:EP X pins σ Q w s:=⟨z,H,I,rw',q⟩
  exact subscriptTail_builtinR (x:=w) pl.typeIs slot_tuple_getitem.lookup
    (getItem_tuple (j:=j) (Q:=fun r s'=>r=w∧EP X pins σ Q r s') pl (by omega) (by omega) (by rw [List.size_toArray,<- hl]; exact h1) (by simpa using ew) ⟨rfl,fin⟩) hs
theorem mapSeq_set (its:List Value) (n j:Nat) (u:Value):Obj.mapSeq (·.setIfInBounds j u) { cls:=.type "list",data:=.seq its.toArray n }={ cls:=.type "list",data:=.seq (its.set j u).toArray n }:=by
  simp [Obj.mapSeq]
theorem Inv.lst {pins:List (Addr × Obj)} {σ:St} {H:Hp} {s:Shared} {p:Addr} {xs:List V} (I:Inv X pins σ H s) (h:H p=some (.lst xs)) :
    ∃ (its:List Value) (n:Nat),ym xs its∧s.heap.get? p=some { cls:=.type "list",data:=.seq its.toArray n }∧xs.length<=sizeLine:=by
  obtain ⟨z,its,n,r,e⟩:=I.hok p _ h
  exact ⟨its,n,r,e,z⟩
theorem Inv.lstUpd {pins:List (Addr × Obj)} {σ:St} {H:Hp} {s:Shared} {p:Addr} {xs ys:List V} {its its':List Value} {n n':Nat} {f:Obj->Obj} (I:Inv X pins σ H s) (h:H p=some (.lst xs))
    (ho:s.heap.get? p=some { cls:=.type "list",data:=.seq its.toArray n }) (hf:f { cls:=.type "list",data:=.seq its.toArray n }={ cls:=.type "list",data:=.seq its'.toArray n' }) (r:ym ys its') (hz:ys.length<=sizeLine) (t:Nat) :
    Inv X pins σ (upd H p (.lst ys)) { s with heap:=s.heap.update p f,toks:=t }:=by
  have e:(s.heap.update p f).get? p=some { cls:=.type "list",data:=.seq its'.toArray n' }:=by
    rw [Heap.get?_update_self f ho (by rw [hf] <;> rfl),hf]
  refine I.write (x:=p) (e:=p) (by rw [h]; trivial) (.inl rfl) (fun b u hb q=>(Heap.get?_update_other _ _ (Ne.symm hb)).trans q) ⟨_,e⟩ ?_
  exact ⟨hz,its',n',r,e⟩
def rSetL:V->V->V->Hp->(Hp->Prop)->Prop:=fun o i v H Q=>∃ p xs k j,o = .ref p∧i = .int k∧H p=some (.lst xs)∧ixN xs.length k=some j∧Q (upd H p (.lst (xs.set j v)))
theorem set_list:PSet X rSetL:=by
  intro pins s σ H o i v ov iv u Q I ro ri rv h
  obtain ⟨p,xs,k,j,rfl,rfl,hp,hj,q⟩:=h
  cases ro
  obtain ⟨t,rfl⟩:=ri
  obtain ⟨its,n,r,ho,hz⟩:=I.lst hp
  obtain ⟨h1,h2,h3,h4⟩:=ixN_seq hj
  have hl:=r.length
  have hn:=line63
  have I':Inv X pins σ (upd H p (.lst (xs.set j v))) { s with heap:=s.heap.update p (Obj.mapSeq (·.setIfInBounds j u)) } :=
    I.lstUpd hp ho (mapSeq_set its n j u) (r.set rv j) (by rw [List.length_set]; exact hz) s.toks
  by_cases h0:0<=k
  · have hk:k.toNat=j:=by
      rw [seqIndex_of h0 h4] at h1
      exact Option.some.inj h1
    exact PySem.W.ki_setAt ho h0 (by omega) (by rw [List.size_toArray,<- hl]; exact h4) (by rw [hk]; exact ⟨_,I',q⟩)
  · have hk:(k + (its.toArray.size:Int)).toNat=j:=by
      rw [seqIndex_neg (by omega) h3] at h1
      rw [List.size_toArray,<- hl]
      exact Option.some.inj h1
    exact PySem.W.ki_setBack ho (by omega) (by rw [List.size_toArray,<- hl]; exact h3) (by omega) (by rw [hk]; exact ⟨_,I',q⟩)

theorem slice_bounds (lo hi:Option Int) (n:Nat):(sliceBounds lo hi none n).1=((HT.sIx n 0 lo:Nat):Int)∧(sliceBounds lo hi none n).2.1=((HT.sIx n n hi:Nat):Int)∧(sliceBounds lo hi none n).2.2=1:=by
  refine ⟨?_,?_,rfl⟩
  · cases lo with
    | none=>simp [sliceBounds,HT.sIx]
    | some i =>
      simp only [sliceBounds,HT.sIx,Option.getD_none,show (1:Int) > 0 by decide,if_true]
      by_cases h:i < 0
      · simp only [h,if_true] <;> omega
      · simp only [h,if_false] <;> omega
  · cases hi with
    | none=>simp [sliceBounds,HT.sIx]
    | some i =>
      simp only [sliceBounds,HT.sIx,Option.getD_none,show (1:Int) > 0 by decide,if_true]
      by_cases h:i < 0
      · simp only [h,if_true] <;> omega
      · simp only [h,if_false] <;> omega
theorem slicePick_cut (its:List Value) (lo hi:Option Int):slicePick its.toArray lo hi none=((its.drop (HT.sIx its.length 0 lo)).take (HT.sIx its.length its.length hi - HT.sIx its.length 0 lo)).toArray:=by
  obtain ⟨h1,h2,h3⟩:=slice_bounds lo hi its.toArray.size
  unfold slicePick
  rw [h1,h2,h3]
  simp only [sliceRange_one,pick_run,List.size_toArray] <;> rfl
def rSlL (K:PySem.W.Frag):V->Option Int->Option Int->Hp->VK->Prop:=fun x lo hi H Q=>∃ a xs,x = .ref a∧SqL K H a xs∧∀ p,H p=none->Q (.ref p) (upd H p (.lst (cutV xs lo hi)))
theorem sl_list:SlR X (rSlL X.K):=by
  intro pins s σ H x v vl vu lo hi sl Q I rx hs pl pu h
  obtain ⟨a,xs,rfl,hx,q⟩:=h
  cases rx
  obtain ⟨its,r,ht,hz⟩:=I.list hx
  have hlen:=r.length
  refine ⟨"list",_,slot_list_getitem.lookup,ht.isList.typeIs,?_⟩
  refine wpAny_getItem_list_slice ht.isList hs pl pu .none (by simp) ?_ (by rw [List.size_toArray] <;> omega)
  rw [slicePick_cut,<- hlen]
  refine ⟨.ref s.heap.objs.size,_,I.laid (t':=s.toks) (o:=.lst (cutV xs lo hi)) (fun b ob q=>Heap.get?_push_of_some _ q) (Nat.le_refl _) ?_,rfl,q _ (I.hok.fresh (Nat.le_refl _))⟩
  exact ⟨Nat.le_trans (Xd xs lo hi) hz,_,0,(r.drop (HT.sIx xs.length 0 lo)).take (HT.sIx xs.length xs.length hi - HT.sIx xs.length 0 lo),Heap.get?_push_size _ rfl⟩

def Xa:V->Bool
  | .non=>true
  | .bl _=>true
  | .int _=>true
  | .str _=>true
  | _=>false
def eqV:V->V->Bool
  | .non,.non=>true
  | .bl a,.bl b=>a == b
  | .bl a,.int b=>(if a then 1 else 0) == b
  | .int a,.bl b=>a == (if b then 1 else 0)
  | .int a,.int b=>a == b
  | .str a,.str b=>a == b
  | _,_=>false
theorem eqAt_V {A:Around} {s:Shared} {y x:V} {u v:Value} (ry:yn y u) (rx:yn x v) (fy:Xa y=true) (fx:Xa x=true):SeqAt.EqAt A s u v (eqV y x):=by
  cases y with
  | non =>
    cases ry
    cases x with
    | non=>cases rx; exact SeqAt.EqAt.same _
    | bl b=>cases rx; exact SeqAt.EqAt.none_bool b
    | int b=>obtain ⟨t,rfl⟩:=rx; exact SeqAt.EqAt.none_int b t
    | str b=>obtain ⟨t,rfl⟩:=rx; exact SeqAt.EqAt.none_str b t
    | _=>exact absurd (show false=true from fx) Bool.false_ne_true
  | bl a =>
    cases ry
    cases x with
    | non=>cases rx; exact SeqAt.EqAt.bool_none a
    | bl b=>cases rx; exact SeqAt.EqAt.bool_bool a b
    | int b=>obtain ⟨t,rfl⟩:=rx; exact SeqAt.EqAt.bool_int a b t
    | str b=>obtain ⟨t,rfl⟩:=rx; exact SeqAt.EqAt.bool_str a b t
    | _=>exact absurd (show false=true from fx) Bool.false_ne_true
  | int a =>
    obtain ⟨t',rfl⟩:=ry
    cases x with
    | non=>cases rx; exact SeqAt.EqAt.int_none a t'
    | bl b=>cases rx; exact SeqAt.EqAt.int_bool a t' b
    | int b=>obtain ⟨t,rfl⟩:=rx; exact SeqAt.EqAt.int_int a t' b t
    | str b=>obtain ⟨t,rfl⟩:=rx; exact SeqAt.EqAt.int_str a t' b t
    | _=>exact absurd (show false=true from fx) Bool.false_ne_true
  | str a =>
    obtain ⟨t',rfl⟩:=ry
    cases x with
    | non=>cases rx; exact SeqAt.EqAt.str_none a t'
    | bl b=>cases rx; exact SeqAt.EqAt.str_bool a t' b
    | int b=>obtain ⟨t,rfl⟩:=rx; exact SeqAt.EqAt.str_int a t' b t
    | str b=>obtain ⟨t,rfl⟩:=rx; exact SeqAt.EqAt.str_str a t' b t
    | _=>exact absurd (show false=true from fx) Bool.false_ne_true
  | _=>exact absurd (show false=true from fy) Bool.false_ne_true
theorem call_len_seq:yy X (.builtin "len") (fun xs H Q=>∃ p ys,xs=[.ref p]∧(SqL X.K H p ys∨SqT X.K H p ys)∧Q (.int ys.length) H):=by
  intro pins s σ H xs us Q I r h
  obtain ⟨p,ys,rfl,hq,q⟩:=h
  obtain ⟨u,rfl,rx⟩:=XE r
  cases rx
  have hn:=line63
  rcases hq with hq | hq
  · obtain ⟨its,r',pl,hz⟩:=I.list hq
    have hlen:=r'.length
    exact Calls.call_len_list pl.isList (by simp only [List.size_toArray] <;> omega) ⟨.int ys.length,H,I.tok _,⟨s.toks + 1,by rw [List.size_toArray,hlen]⟩,q⟩
  · obtain ⟨its,r',pl,hz⟩:=I.tuple hq
    have hlen:=r'.length
    exact len_tuple pl (by simp only [List.size_toArray] <;> omega) ⟨.int ys.length,H,I.tok _,⟨s.toks + 1,by rw [List.size_toArray,hlen]⟩,q⟩
theorem yy.or {f:Value} {r r':List V->Hp->VK->Prop} (h:yy X f r) (h':yy X f r'):yy X f (fun xs H Q=>r xs H Q∨r' xs H Q):=by
  intro pins s σ H xs us Q I rs q
  rcases q with q | q
  · exact h pins s σ H xs us Q I rs q
  · exact h' pins s σ H xs us Q I rs q
theorem uz:yy X (.type "list") (fun xs H Q=>∃ p ys,xs=[.ref p]∧(SqL X.K H p ys∨SqT X.K H p ys)∧∀ l,H l=none->Q (.ref l) (upd H l (.lst ys))):=by
  intro pins s σ H xs us Q I r h
  obtain ⟨p,ys,rfl,hq,q⟩:=h
  obtain ⟨u,rfl,rx⟩:=XE r
  cases rx
  have fin:∀ (its:List Value),ym ys its->ys.length<=sizeLine->∀ (h':Heap) (c':Nat),(∀ b o',s.heap.get? b=some o'->h'.get? b=some o') ->
      h'.get? s.heap.objs.size=some { cls:=.type "list",dict:=none,data:=.seq its.toArray c',slots:=#[] }->EP X pins σ Q (.ref s.heap.objs.size) { s with heap:=h' }:=fun its r' hz h' c' kp e =>
    ⟨.ref s.heap.objs.size,_,I.laid (t':=s.toks) kp (Nat.le_refl _) (show yO X.prog X.w _ h' _ (.lst ys) from ⟨hz,its,c',r',e⟩),rfl,q _ (I.hok.fresh (Nat.le_refl _))⟩
  rcases hq with hq | hq
  · obtain ⟨its,r',pl,hz⟩:=I.list hq
    have hlen:=r'.length
    obtain ⟨o,ho,hc,n,hd⟩:=pl.isList
    exact call_list_seq p (.inl rfl) ho hc hd (fun h' c' kp e=>fin its r' hz h' c' kp e) (by simp only [List.size_toArray] <;> omega)
  · obtain ⟨its,r',pl,hz⟩:=I.tuple hq
    have hlen:=r'.length
    obtain ⟨o,ho,hc,n,hd⟩:=pl
    exact call_list_seq p (.inr rfl) ho hc hd (fun h' c' kp e=>fin its r' hz h' c' kp e) (by simp only [List.size_toArray] <;> omega)
def tyV (K:PySem.W.Frag) (T:String) (x:V) (H:Hp):Prop:=match x with
  | .str _=>T = "str"
  | .int _=>T = "int"
  | .ref p=>(T = "list"∧∃ xs,SqL K H p xs)∨(T = "tuple"∧∃ o,K.lookup p=some o∧o.cls = .type "tuple"∧o.dict=none) ∨
      (T = "dict"∧((∃ kvs,H p=some (.dK kvs))∨∃ kvs,H p=some (.dT kvs)))∨(T = "set"∧∃ S n,H p=some (.set S n))
  | _=>False
theorem tyV_is {pins:List (Addr × Obj)} {σ:St} {H:Hp} {s:Shared} {T:String} {x:V} {v:Value} (I:Inv X pins σ H s) (r:yn x v) (ty:tyV X.K T x H) :
    s.TypeIs v T∧∀ a,v = .ref a->∃ ob,s.heap.get? a=some ob∧ob.dict=none:=by
  cases x with
  | str z =>
    obtain ⟨t,rfl⟩:=r
    cases (show T = "str" from ty)
    exact ⟨typeIs_str s z t,fun _ e=>nomatch e⟩
  | int i =>
    obtain ⟨t,rfl⟩:=r
    cases (show T = "int" from ty)
    exact ⟨typeIs_int s i t,fun _ e=>nomatch e⟩
  | ref p =>
    cases r
    rcases ty with ⟨rfl,xs,hq⟩ | ⟨rfl,o,hk,hc,hd⟩ | ⟨rfl,hk⟩ | ⟨rfl,S,n,hk⟩
    · obtain ⟨its,_,pl,_⟩:=I.list hq
      refine ⟨pl.isList.typeIs,fun a e=>?_⟩
      cases e
      obtain ⟨o,n,e,c,hd,_⟩:=pl
      exact ⟨o,e,hd⟩
    · refine ⟨⟨o,I.kIn p o hk,hc⟩,fun a e=>?_⟩
      cases e
      exact ⟨o,I.kIn _ o hk,hd⟩
    · have z:∃ o,s.heap.get? p=some o∧o.ExactDict:=by
        rcases hk with ⟨kvs,hk⟩ | ⟨kvs,hk⟩
        · obtain ⟨_,_,_,_,o,_,_,e,ex,_⟩:=I.hok p _ hk
          exact ⟨o,e,ex⟩
        · obtain ⟨_,_,_,_,o,_,_,e,ex,_⟩:=I.hok p _ hk
          exact ⟨o,e,ex⟩
      obtain ⟨o,e,ex⟩:=z
      refine ⟨⟨o,e,ex.1⟩,fun a e2=>?_⟩
      cases e2
      exact ⟨o,e,ex.2.1⟩
    · obtain ⟨o,_,_,_,e,ex,_⟩:=I.hok p _ hk
      refine ⟨⟨o,e,ex.1⟩,fun a e2=>?_⟩
      cases e2
      exact ⟨o,e,ex.2.1⟩
  | _=>exact False.elim ty
def tBM (K:PySem.W.Frag) (T:String) (r:V->List V->Hp->VK->Prop) (to:TE) (t:TA):TE:=fun σ H Q=>to σ H fun x H1=>tyV K T x H1∧t σ H1 fun xs H2=>r x xs H2 Q
variable {o e:Expr} {es:List Expr} {to:TE} {t:TA} {name:Str} {apos cpos:Pos} {T id:String} {r:V->List V->Hp->VK->Prop}
theorem pe_bm (pa:PlainAttrs T) (slot:Slot T name id) (hty:typeOf (.builtin id)=pure (.type "method_descriptor")) (hm:MtR X id r) (ho:PE X o to) (ha:PA X (e :: es) t)
    (hbase:attributeBase o name X.env (eval o X.env)=eval o X.env:=by rfl)
    (hfew:((backTo cpos (starEach (e :: es) X.env)).all (fun x=>!x.1) && (backToKw cpos (keywordEach [] X.env)).all (fun x=>x.1.isSome)
      && decide ((e :: es).length + ([]:List Keyword).length + (if ([]:List Keyword).isEmpty then 0 else 1) < 30))=true:=by rfl)
    (hline:(apos.endLine == cpos.line)=true:=by rfl) (hs:starEach (e :: es) X.env=(false,eval e X.env) :: starEach es X.env:=by rfl) (hplain:(backTo cpos (starEach es X.env)).any (·.1)=false:=by rfl) :
    PE X (.Call (.Attribute o name apos) (e :: es) [] cpos) (tBM X.K T r to t):=by
  intro pins s σ H Q I h
  refine wpAny_Call_method_late hbase hfew hline rfl (thn (ho pins s σ H _ I h) fun v s1 hQQ=>?_)
  obtain ⟨x,H1,I1,r1,ty,q1⟩:=hQQ
  obtain ⟨h1,h2⟩:=tyV_is I1 r1 ty
  refine ⟨T,id,pa,slot,hty,h1,h2,?_⟩
  have hA:=ha cpos pins s1 σ H1 _ I1 q1
  rw [hs] at hA ⊢
  refine Calls.callWith_builtin (by show (false || (backTo cpos (starEach es X.env)).any (·.1))=false; rw [hplain] <;> rfl) (Calls.evalArgs_plain ?_)
  exact thn hA fun us s2 ⟨vs,H2,I2,r2,q2⟩=>hm pins s2 σ H2 x vs v us Q I2 r1 r2 q2
/- xs.append(e),list.index on a module's tuple .. are MtR facts of 06m -/
end
end L2

namespace L2
open PySem PySem.Spec PyProof.Rows

def MtM (X:Cx) (id:String) (r:V->List V->Hp->VK->Prop):Prop :=
  ∀ (pins:List (Addr × Obj)) (s:Shared) (σ:St) (H:Hp) (x:V) (xs:List V) (v:Value) (us:List Value) (Q:VK),Inv X pins σ H s->yn x v->ym xs us->r x xs H Q ->
    wpAny (model X.prog X.w) X.A (call (.builtin id) (v :: us)) (EP X pins σ Q) X.xe s

theorem ym.one:∀ {x:V} {us:List Value},ym [x] us->∃ u,us=[u]∧yn x u
  | _,_,.cons r .nil=>⟨_,rfl,r⟩
theorem ym.two:∀ {x y:V} {us:List Value},ym [x,y] us->∃ u v,us=[u,v]∧yn x u∧yn y v
  | _,_,_,.cons r (.cons q .nil)=>⟨_,_,rfl,r,q⟩
theorem ym.eraseIdx:∀ {xs:List V} {us:List Value} (i:Nat),ym xs us->ym (xs.eraseIdx i) (us.eraseIdx i)
  | _,_,_,.nil=>.nil
  | _,_,0,.cons _ t=>t
  | _,_,i + 1,.cons r t=>.cons r (ym.eraseIdx i t)
theorem ym.rep {xs:List V} {us:List Value} (h:ym xs us):∀ k:Nat,ym (List.replicate k xs).flatten (List.replicate k us).flatten
  | 0=>.nil
  | k + 1=>by
    rw [List.replicate_succ,List.replicate_succ,List.flatten_cons,List.flatten_cons]
    exact ym.append h (ym.rep h k)
theorem len_erase {α:Type}:∀ (l:List α) (i:Nat),(l.eraseIdx i).length<=l.length
  | [],_=>Nat.le_refl _
  | _ :: _,0=>Nat.le_succ _
  | _ :: r,i + 1=>Nat.succ_le_succ (len_erase r i)
theorem foldl_rep (its:List Value):∀ (k:Nat) (acc:List Value),
    List.foldl (fun x1 x2=>x1 ++ x2) acc.toArray (List.replicate k its.toArray)=(acc ++ (List.replicate k its).flatten).toArray
  | 0,acc=>by simp
  | k + 1,acc=>by
    have e:acc.toArray ++ its.toArray=(acc ++ its).toArray:=by simp
    have e2:(acc ++ its) ++ (List.replicate k its).flatten=acc ++ (List.replicate (k + 1) its).flatten:=by
      rw [List.replicate_succ,List.flatten_cons,List.append_assoc]
    rw [<- e2,<- foldl_rep its k (acc ++ its),<- e,List.replicate_succ,List.foldl_cons]

section
variable {X:Cx} {pins:List (Addr × Obj)} {σ:St} {H:Hp} {s:Shared} {l b:Addr} {xs ys zs:List V}

theorem Inv.lset {its its':List Value} {n:Nat} {f:Array Value->Array Value} {t':Nat} (I:Inv X pins σ H s) (hH:H l=some (.lst xs))
    (e:s.heap.get? l=some { cls:=.type "list",data:=.seq its.toArray n }) (hf:f its.toArray=its'.toArray) (hv:ym ys its') (hz:ys.length<=sizeLine) :
    Inv X pins σ (upd H l (.lst ys)) { s with heap:=s.heap.update l (Obj.mapSeq f),toks:=t' }:=by
  have q:=PySem.IsL.update e f
  rw [hf] at q
  refine I.write (x:=l) (e:=l) (by rw [hH]; exact trivial) (.inl rfl) (fun b' u hb hu=>(Heap.get?_update_other s.heap (Obj.mapSeq f) (Ne.symm hb)).trans hu) ⟨_,q⟩ ?_
  exact ⟨hz,its',_,hv,q⟩
theorem Inv.lnew {its:List Value} {t':Nat} (I:Inv X pins σ H s) (hv:ym ys its) (hz:ys.length<=sizeLine) :
    Inv X pins σ (upd H s.heap.objs.size (.lst ys)) { s with heap:=s.heap.push { cls:=.type "list",data:=.seq its.toArray },toks:=t' } :=
  I.laid (fun _ _ q=>Heap.get?_push_of_some _ q) (Nat.le_refl _) ⟨hz,its,0,hv,Heap.get?_push_size _ rfl⟩
theorem Inv.fresh (I:Inv X pins σ H s):H s.heap.objs.size=none:=I.hok.fresh (Nat.le_refl _)
theorem Inv.lstM (I:Inv X pins σ H s) (hH:H l=some (.lst xs)):xs.length<=sizeLine∧∃ (its:List Value) (n:Nat),ym xs its∧xs.length=its.length∧s.heap.get? l=some { cls:=.type "list",data:=.seq its.toArray n }:=by
  obtain ⟨z,its,n,r,e⟩:=I.hok l _ hH
  exact ⟨z,its,n,r,r.length,e⟩

theorem notLongL {n:Nat} (h:n<=sizeLine):Builtin.List.listTooLong n=false:=by
  unfold Builtin.List.listTooLong
  exact decide_eq_false (by omega)
end

section
variable {X:Cx}

def rAppend:V->List V->Hp->VK->Prop:=fun x vs H Q=>∃ l xs y,x = .ref l∧vs=[y]∧H l=some (.lst xs)∧xs.length < sizeLine∧Q .non (upd H l (.lst (xs ++ [y])))
theorem mt_append:MtM X "list.append" rAppend:=by
  intro pins s σ H x vs v us Q I rx rv h
  obtain ⟨l,xs,y,rfl,rfl,hH,hz,q⟩:=h
  cases rx
  obtain ⟨u,rfl,ru⟩:=rv.one
  obtain ⟨z,its,n,r,hl,e⟩:=I.lstM hH
  refine call_meets F.slot_list_append ⟨_,e,rfl⟩ F.entry_list_append (F.args_list_append_2 _ _) (PySem.list_append l its.toArray n u (by rw [List.size_toArray]; omega)) ⟨e,?_⟩
  refine ⟨.non,_,I.lset (its':=its ++ [u]) hH e (by simp) (r.append (.cons ru .nil)) ?_,rfl,q⟩
  rw [List.length_append,List.length_singleton]
  omega

def rPopAt:V->List V->Hp->VK->Prop:=fun x vs H Q=>∃ l xs i k y,x = .ref l∧vs=[.int i]∧H l=some (.lst xs)∧-(2 ^ 63)<=i∧i < 2 ^ 63∧seqIndex? i xs.length=some k∧xs[k]? = some y∧Q y (upd H l (.lst (xs.eraseIdx k)))
theorem mt_popAt:MtM X "list.pop" rPopAt:=by
  intro pins s σ H x vs v us Q I rx rv h
  obtain ⟨l,xs,i,k,y,rfl,rfl,hH,h1,h2,hk,hy,q⟩:=h
  cases rx
  obtain ⟨u,rfl,ru⟩:=rv.one
  obtain ⟨t,rfl⟩:=ru
  obtain ⟨z,its,n,r,hl,e⟩:=I.lstM hH
  obtain ⟨w,hw,rw'⟩:=r.get hy
  refine call_meets F.slot_list_pop ⟨_,e,rfl⟩ F.entry_list_pop (F.args_list_pop_2 _ _)
    (MeetsSeq.list_pop_at l its.toArray n i t k w (fitsIndex_both h1 h2) (by rw [List.size_toArray,<- hl]; exact hk) (by rw [<- Array.getElem?_toList]; exact hw) (by rw [List.size_toArray]; omega)) ⟨e,?_⟩
  refine ⟨y,_,I.lset (its':=its.eraseIdx k) hH e ?_ (r.eraseIdx k) ?_,rw',q⟩
  · show its.toArray.eraseIdxIfInBounds k=(its.eraseIdx k).toArray
    rw [List.eraseIdxIfInBounds_toArray]
  · have:=len_erase xs k
    omega

def rCat:R2:=fun x y H Q=>∃ l b xs zs,x = .ref l∧y = .ref b∧H l=some (.lst xs)∧H b=some (.lst zs)∧xs.length + zs.length<=sizeLine∧∀ p,H p=none->Q (.ref p) (upd H p (.lst (xs ++ zs)))
theorem op_cat:OpR X (binaryOp .Add) rCat:=by
  intro pins s σ H x y v u Q I rx ry h
  obtain ⟨l,b,xs,zs,rfl,rfl,hH,hB,hz,q⟩:=h
  cases rx
  cases ry
  obtain ⟨z,its,n,r,hl,e⟩:=I.lstM hH
  obtain ⟨z2,its2,n2,r2,hl2,e2⟩:=I.lstM hB
  refine PySem.P.add_list e e2 ?_ (by rw [List.size_toArray,List.size_toArray]; omega)
  have ea:its.toArray ++ its2.toArray=(its ++ its2).toArray:=by simp
  rw [ea]
  exact ⟨.ref _,_,I.lnew (t':=s.toks) (r.append r2) (by rw [List.length_append]; omega),rfl,q _ I.fresh⟩
def rRep:R2:=fun x y H Q=>∃ l k xs,x = .ref l∧y = .int k∧H l=some (.lst xs)∧-(2 ^ 63)<=k∧k < 2 ^ 63∧xs.length * k.toNat<=sizeLine ∧
  ∀ p,H p=none->Q (.ref p) (upd H p (.lst (List.replicate k.toNat xs).flatten))
theorem len_rep {α:Type} (xs:List α) (k:Nat):(List.replicate k xs).flatten.length=k * xs.length:=by
  induction k with
  | zero=>simp
  | succ k ih=>rw [List.replicate_succ,List.flatten_cons,List.length_append,ih,Nat.succ_mul,Nat.add_comm]
theorem op_rep:OpR X (binaryOp .Mult) rRep:=by
  intro pins s σ H x y v u Q I rx ry h
  obtain ⟨l,k,xs,rfl,rfl,hH,h1,h2,hz,q⟩:=h
  cases rx
  obtain ⟨t,rfl⟩:=ry
  obtain ⟨z,its,n,r,hl,e⟩:=I.lstM hH
  have hlen:its.toArray.size * k.toNat<=sizeLine:=by rw [List.size_toArray,<- hl]; exact hz
  have hcap:¬ its.toArray.size * k.toNat > (2 ^ 63 - 1) / 8:=by
    have:(sizeLine:Nat)<=(2 ^ 63 - 1) / 8:=by decide
    omega
  have hfit:¬ (!Builtin.List.listFitsIndex k)=true:=by
    rw [fitsIndex_both h1 h2]
    exact Bool.false_ne_true
  have hlong:¬ Builtin.List.listTooLong (its.toArray.size * k.toNat)=true:=by
    rw [notLongL hlen]
    exact Bool.false_ne_true
  have hnew:List.foldl (fun x1 x2=>x1 ++ x2) #[] (List.replicate (if its.toArray.isEmpty=true then 0 else k.toNat) its.toArray)=(List.replicate k.toNat its).flatten.toArray:=by
    have f0:∀ m:Nat,List.foldl (fun x1 x2=>x1 ++ x2) #[] (List.replicate m its.toArray)=(List.replicate m its).flatten.toArray:=fun m=>by
      have:=foldl_rep its m []
      rw [List.nil_append] at this
      exact this
    rw [f0]
    cases its with
    | nil=>simp
    | cons a r'=>rw [if_neg (by simp)]
  refine wpAny_binaryOp_repeat_ref (T:="list") (U:="int") (by decide) ⟨_,e,rfl⟩ (fun s'=>typeIs_int s' k t) noFill_list_mul F.fills_int_mul F.slot_int_rmul repeat_list F.slot_int_index.lookup
    (call_meets F.slot_int_rmul (typeIs_int s k t) F.entry_int_rmul (F.args_int_rmul_2 _ _) (int___rmul___int_list k t l its.toArray n)
      ⟨e,rfl,⟨_,e,rfl⟩,call_meets F.slot_list_mul ⟨_,e,rfl⟩ F.entry_list_mul (F.args_list_mul_2 _ _) (AutoListH.list___mul___list_int_3 l its.toArray n k t hfit hcap hlong) ⟨e,?_⟩⟩)
  rw [hnew]
  exact ⟨.ref _,_,I.lnew (t':=s.toks) (r.rep k.toNat) (by rw [len_rep,Nat.mul_comm]; exact hz),rfl,q _ I.fresh⟩

end

section
variable {prog:Program} {w:World} {A:Around} {E:Value->Shared->Prop} {s:Shared}
end

section
variable {X:Cx}
end
end L2

namespace Att
open PySem PySem.W PySem.Calls PyProof.Rows

theorem Xq {P:Params} {h:Heap}:∀ (ns:List Int) (vs:List Value),WellAll P h vs (ns.map WData.int)->IntsAre vs ns:=by
  intro ns
  induction ns with
  | nil =>
    intro vs w
    rw [List.map_nil] at w
    cases w
    exact .nil
  | cons n ns ih =>
    intro vs w
    rw [List.map_cons] at w
    cases w with
    | cons a b =>
      cases a
      exact .cons _ _ (ih _ b)

theorem script_of {l:OpenLaw} {n:Nat} (hn:l.most=some n) {P:Params} {h:Heap} {args:List WData} {vals:List Value}
    (hpre:l.row.toRowW.claim.pre args=true) (hwl:WellAll P h vals args) :
    ∃ a vs ns,vals=[Value.ref a]∧args=[WData.list (ns.map WData.int)]∧h.get? a=some { cls:=.type "list",data:=.seq vs.toArray }∧IntsAre vs ns∧ns.length<=n:=by
  have hsh:WShape.hasAll [] args [.list .int]=true:=(pre_splitW hpre).1
  have hc:l.pre.holds [] { args:=args }=true:=(pre_splitW hpre).2
  obtain ⟨d,r,rfl,h1,h2⟩:=hasAllW_cons hsh
  obtain rfl:=hasAllW_nil h2
  obtain ⟨xs,rfl,h3⟩:=hasW_list h1
  obtain ⟨ns,rfl⟩:=items_int h3
  have hlen:ns.length<=n:=by
    unfold OpenLaw.pre at hc
    have h4:(WTm.not (.lt (.lit (.int (n:Int))) (.len (.arg 0)))).holds [] { args:=[.list (ns.map .int)] }=true:=by
      have h4:=(holds_andW hc).1
      rw [hn] at h4
      exact h4
    have h5:=condW_of h4 (w_not (w_lt w_lit (w_len_list (w_arg rfl))))
    rw [List.length_map] at h5
    refine Nat.le_of_not_lt fun q=>?_
    have q':(n:Int) < ((ns.length:Nat):Int):=by omega
    first
      | (rw [decide_eq_true q'] at h5; exact absurd h5 (by decide))
      | (simp at h5; omega)
  cases hwl with
  | cons w1 w2 =>
    cases w2
    cases w1 with
    | list ho hall=>exact ⟨_,_,ns,rfl,rfl,ho,Xq ns _ hall,hlen⟩

theorem post_true (l:OpenLaw) (args:List WData):l.row.toRowW.claim.post args (.bool true) args=true :=
  postW_of (r:=l.row.toRowW) (X:=(true == true))
    (show WShape.has [] (.bool true) .bool=true by first | rfl | decide | simp [WShape.has,WShape.arms,WShape.armsAll])
    (show (WTm.eq .res (.lit (.bool true))).value [] { args:=args,res:=some (.bool true),after:=args }=some (.bool (true == true)) from w_eq_bool (w_res rfl) w_lit) rfl

theorem attach_call {l:OpenLaw} {n:Nat} {q:Program} {loose:List Str} {XP:(Str->Option Value)->Heap->Prop} {YP:World->Heap->Prop} {d:DefRec}
    (hn:l.most=some n) (hdf:d.params.defaults=[])
    (call:∀ (w:World) (s₀ s₁:Shared) (mg mb:Str->Option Value) (fa:Addr) (o:Obj) (pm cd doc:Value) (a:Addr) (vs:List Value) (ns:List Int),
      Ground q loose [] XP w s₀ mg mb s₁.heap->YP w s₁.heap ->
      s₁.heap.get? fa=some o->o.data = .func (docDef d.name d.params d.body d.scope pm cd doc)->s₁.heap.CodeRec cd d.name->mg d.name=some (.ref fa) ->
      s₁.heap.get? a=some { cls:=.type "list",data:=.seq vs.toArray }->IntsAre vs ns->ns.length<=n->s₁.gens = #[] ->
      codeAny (model l.prog w) callerA (.call (.ref fa) ⟨[.ref a],[]⟩) (fun r s'=>r = .ok (.ret (.bool true))∧OldK s₁.heap s'.heap∧s'.os=s₁.os∧AllBare s'.gens) s₁) :
    WalkO q loose XP YP l.row.toRowW d [] (fun f vs=>PySem.call f vs):=by
  intro w s₀ s₁ mg mb G Y fa o pm cd doc dV kV ho hd hcd hD hmg hg args vals as hpre hlay hrd hwl hlo
  obtain rfl:dV = .none:=Dflts.none hD hdf
  obtain rfl:kV = .none:=Dflts.noKw hD
  obtain ⟨a,vs,ns,rfl,rfl,hobj,hints,hlen⟩:=script_of hn hpre hwl
  refine enter_call (codeAny_mono (call w s₀ s₁ mg mb fa o pm cd doc a vs ns G Y ho (fd_plain hd) hcd hmg hobj hints hlen hg) fun r s' hq=>?_)
  obtain ⟨rfl,h2,h3,h4⟩:=hq
  exact ⟨.inl ⟨.bool true,.bool true,[],rfl,fun _=>rfl,.bool true,post_true l _,fun _=>⟨List.Pairwise.nil,fun _ hm=>(nomatch hm)⟩⟩,h2,h3,h4⟩

section
variable {prog:Program} {w:World} {A:Around} {E:Value->Shared->Prop} {s:Shared} {K:Frag}

end
end Att

namespace L2
open PySem PySem.Spec PyProof.Rows

theorem vals_ints {vs:List Value} {ns:List Int} (h:IntsAre vs ns):ym (ns.map V.int) vs:=by
  induction h with
  | nil=>exact .nil
  | cons n t h ih=>exact .cons ⟨t,rfl⟩ ih

def Only (H:Hp):Prop:=∀ b,H b=none∨∃ o xs,H b=some (.frz o (.lst xs))

theorem law_call {P:Program} {w:World} {K:PySem.W.Frag} {mg mb:Str->Option Value} {CX:CXT} {k:Nat} {fa a:Addr} {fd:FuncData} {x:Str} {sp:Sp} {s₁:Shared} {vs:List Value} {ns:List Int}
    (KX:K.In s₁.heap) (hns:s₁.heap.Ns mainGlobals mg) (hb:s₁.heap.Ns builtinsNs mb) (hbb:∀ x:Str,x≠"__name__"->mb x=bootBuiltins x) (hlim:s₁.heap.NoLimit) (hg:s₁.gens = #[])
    (ha:s₁.heap.get? a=some { cls:=.type "list",data:=.seq vs.toArray }) (hi:IntsAre vs ns) (hl:ns.length<=sizeLine) (hr:Room k callerA)
    (F:∀ base:Heap,K.In base->base.Ns mainGlobals mg->FnOk P w K mg base CX k fa fd [x] sp) (hbind:∀ (s:Shared) (u:Value),BindsTo s fd ⟨[u],[]⟩ [(x,u)])
    (hsp:∀ H:Hp,Only H->SqL K H a (ns.map V.int)->sp [.ref a] H (fun v _=>v = .bl true) fun _ _ _=>False)
    (hCX:∀ H e s',CX [] H s₁ (fun _ _ _=>False) e s'->False) :
    codeAny (model P w) callerA (.call (.ref fa) ⟨[.ref a],[]⟩) (fun r s'=>r = .ok (.ret (.bool true))∧OldK s₁.heap s'.heap∧s'.os=s₁.os∧AllBare s'.gens) s₁:=by
  have rv:=vals_ints hi
  have lenV:=hi.length
  -- from an abstract heap in which nothing but the script may be tracked
  have core:∀ H:Hp,Only H->SqL K H a (ns.map V.int)->HOk P w H s₁.heap->(∀ b,H b≠none->b=a)->(H a≠none->K.lookup a=none) ->
      codeAny (model P w) callerA (.call (.ref fa) ⟨[.ref a],[]⟩) (fun r s'=>r = .ok (.ret (.bool true))∧OldK s₁.heap s'.heap∧s'.os=s₁.os∧AllBare s'.gens) s₁:=by
    intro H hO hS hok hA hK
    have base_of:∀ {b:Addr} {o:Obj},s₁.heap.get? b=some o->H b=none->(hidT s₁.heap H).get? b=some o:=fun e n=>hidT_get e n
    have noA:∀ {b:Addr} {o:Obj} {es:Array DictEntry} {ep:Nat},s₁.heap.get? b=some o->o.data = .dict es ep->H b=none:=fun {b o es ep} e d=>by
      cases q:H b with
      | none=>rfl
      | some u =>
        have e':b=a:=hA b (by rw [q]; simp)
        subst e'
        rw [ha] at e; cases e
        have d':Data.seq vs.toArray _=Data.dict es ep:=d
        cases d'
    have nsK:∀ {b:Addr} {m:Str->Option Value},s₁.heap.Ns b m->(hidT s₁.heap H).Ns b m:=fun {b m} ⟨o,es,ep,e,d,r⟩=>⟨o,es,ep,base_of e (noA e d),d,r⟩
    have hKb:K.In (hidT s₁.heap H):=fun b o e=>base_of (KX b o e) (by
      cases q:H b with
      | none=>rfl
      | some u =>
        have e':b=a:=hA b (by rw [q]; simp)
        subst e'
        rw [hK (by rw [q]; simp)] at e; cases e)
    have hM:Mod K mg (hidT s₁.heap H):=⟨hKb,nsK hns,⟨mb,nsK hb,hbb⟩,let ⟨mc,h1,h2⟩:=hlim; ⟨mc,nsK h1,h2⟩⟩
    have e0:Env0 P w K mg (hidT s₁.heap H) callerA [] s₁ H:=⟨rfl,hM,fun b o e=>of_hidT e,Nat.le_of_eq (hidT_size _ _),trivial,fun b hb=>absurd (show b ∈ ([]:List Addr) from hb) (by simp),hok,.of_eq hg⟩
    refine codeAny_mono ((F _ hKb (nsK hns)).run callerA [] s₁ H ⟨[.ref a],[]⟩ [.ref a] [.ref a] _ _ hr e0 (hbind s₁ (.ref a)) (.cons rfl .nil) (hsp H hO hS)) fun r s' h=>?_
    cases r with
    | error e=>exact (hCX H e s' h).elim
    | ok fl =>
      cases fl with
      | next=>exact False.elim h
      | brk=>exact False.elim h
      | cont=>exact False.elim h
      | ret u =>
        obtain ⟨v,H',os,bare,un,hok',r',q⟩:=h
        have q':v = .bl true:=q
        subst q'
        obtain rfl:u=Value.bool true:=r'
        refine ⟨rfl,OldK.of_keep fun b o e=>?_,os,bare⟩
        cases q:H b with
        | none=>exact un.keep b o e q (by intro z; exact absurd (show b ∈ ([]:List Addr) from z) (by simp)) (by simp)
        | some u =>
          rcases hO b with z | ⟨ob,xs,z⟩
          · rw [q] at z; cases z
          · have z2:=un.frzs b ob _ z
            obtain ⟨e1,_⟩:=hok b _ z
            obtain ⟨e2,_⟩:=hok' b _ z2
            rw [e] at e1; cases e1
            exact e2
  cases hk:K.lookup a with
  | some o =>
    -- the script is one of the module's own objects
    have e:=KX a o hk
    rw [ha] at e
    cases e
    refine core (fun _=>none) (fun _=>.inl rfl) (.inr ⟨_,vs.toArray,_,hk,rfl,rfl,rfl,by rw [List.size_toArray,lenV]; exact hl,by simpa using rv⟩) (fun b u z=>by have z':(none:Option HO)=some u:=z; cases z') (fun b z=>absurd rfl z) fun z=>absurd rfl z
  | none =>
    refine core (fun b=>if b=a then some (.frz { cls:=.type "list",data:=.seq vs.toArray } (.lst (ns.map V.int))) else none) (fun b=>?_) (.inl (.inr ⟨{ cls:=.type "list",data:=.seq vs.toArray },if_pos rfl⟩)) (fun b u z=>?_) (fun b z=>?_) fun _=>hk
    · by_cases hb:b=a
      · exact .inr ⟨_,_,if_pos hb⟩
      · exact .inl (if_neg hb)
    · by_cases hb:b=a
      · have z':=(if_pos hb).symm.trans z
        cases z'
        subst hb
        exact ⟨ha,by rw [List.length_map]; exact hl,vs,_,rv,ha⟩
      · have z':=(if_neg hb).symm.trans z
        cases z'
    · by_cases hb:b=a
      · exact hb
      · exact absurd (if_neg hb) z
end L2

namespace L2
open PySem PySem.Spec PyProof.Rows

theorem walk_of {l:PySem.W.OpenLaw} {n k:Nat} {q:Program} {loose:List Str} {XP:(Str->Option Value)->Heap->Prop} {YP:World->Heap->Prop} {d:DefRec} {K:Params->PySem.W.Frag} {CX:World->CXT} {sp:World->Sp} {x:Str}
    (hn:l.most=some n) (hn2:n<=sizeLine) (hdf:d.params.defaults=[]) (hr:Room k callerA)
    (hY:∀ (w:World) (h:Heap),YP w h->(K w.params).In h)
    (F:∀ (w:World) (mg:Str->Option Value) (fa:Addr) (h:Heap),(K w.params).In h->h.Ns mainGlobals mg->mg d.name=some (.ref fa) ->
      ∃ fd:FuncData,(∀ (s:Shared) (u:Value),BindsTo s fd ⟨[u],[]⟩ [(x,u)]) ∧
        ∀ base:Heap,(K w.params).In base->base.Ns mainGlobals mg->FnOk l.prog w (K w.params) mg base (CX w) k fa fd [x] (sp w))
    (hsp:∀ (w:World) (H:Hp) (a:Addr) (ns:List Int),ns.length<=n->Only H->SqL (K w.params) H a (ns.map V.int)->sp w [.ref a] H (fun v _=>v = .bl true) fun _ _ _=>False)
    (hCX:∀ (w:World) (H:Hp) (s:Shared) (e:Value) (s':Shared),CX w [] H s (fun _ _ _=>False) e s'->False) :
    PySem.W.WalkO q loose XP YP l.row.toRowW d [] (fun f vs=>PySem.call f vs):=by
  refine Att.attach_call hn hdf fun w s₀ s₁ mg mb fa o pm cd doc a vs ns G Y ho hd hcd hmg hobj hints hlen hg=>?_
  have KX:=hY w _ Y
  obtain ⟨fd,hb,hF⟩:=F w mg fa _ KX G.T.g hmg
  exact law_call KX G.T.g G.T.b G.T.builtins G.T.nolimit hg hobj hints (Nat.le_trans hlen hn2) hr hF hb (fun H hO hS=>hsp w H a ns hlen hO hS) fun H e s'=>hCX w H s₁ e s'
end L2

namespace L2
open PySem PySem.Spec PyProof.Rows

def yW (s:Stmt) (j:Nat):Stmt:=match s with
  | .ClassDef _ _ _ body _ _ _ _ _ _ _=>body.getD j (.Pass ⟨0,0,0,0⟩)
  | _=>.Pass ⟨0,0,0,0⟩
def jo (s:Stmt):Arguments:=match s with
  | .FunctionDef _ a _ _ _ _ _ _ _ _=>a
  | _=>{ posonlyargs:=[],args:=[],vararg:=none,kwonlyargs:=[],kw_defaults:=[],kwarg:=none,defaults:=[] }
def jk (s:Stmt):List Stmt:=match s with
  | .FunctionDef _ _ b _ _ _ _ _ _ _=>b
  | _=>[]
def jd (s:Stmt):Scope:=match s with
  | .FunctionDef _ _ _ _ _ _ sc _ _ _=>sc
  | _=>{ kind:=.function,names:=[],isGenerator:=false,isCoroutine:=false }

abbrev CX0:CXT:=fun _ _ _ _ _ _=>False
abbrev E0:XK:=fun _ _ _=>False
structure Fun (K:PySem.W.Frag) (x qual:Str) (st:Stmt) (f:Addr) (fd:FuncData):Prop where
  ex:∃ (oc:Value) (od:Option Addr) (kV doc pm:Value) (an:Option Addr) (cdv ct:Value) (osl:Array (Option Value)),
    fd=PySem.W.fnOf x qual (jo st) (jk st) (jd st) .none kV doc pm an cdv ct∧K.lookup f=some ⟨oc,od,.func fd,osl⟩∧PySem.W.codeIn K cdv qual=true
  kp:PySem.W.keepIn K (.ref f)=true
section
variable {P:Program} {w:World} {K:PySem.W.Frag} {mg:Str->Option Value} {base:Heap}
theorem Fun.ok {x qual:Str} {st:Stmt} {f:Addr} {fd:FuncData} {N ps:List Str} {k:Nat} {sp:Sp} (F:Fun K x qual st f fd) (S:FnScope N ps (jd st)) (len:∀ vs H Q E,sp vs H Q E->vs.length=ps.length)
    (hbody:∀ (cdv:Value) (A:Around) (outer:List Env) (s:Shared) (H:Hp) (vs:List V) (Q:VK) (E:XK),Room k (A.deeper (envOfC qual (jd st) s.heap.objs.size f cdv))->sp vs H Q E ->
      ∃ t,PSs (uy CX0 P w K mg base N qual (jd st) f cdv A outer s H E).nox (jk st) t∧t { nx:=fun _ H'=>Q .non H',rt:=Q } (start N vs) H):FnOk P w K mg base CX0 (k + 1) f fd ps sp:=by
  obtain ⟨oc,od,kV,doc,pm,an,cdv,ct,osl,rfl,lk,hcd⟩:=F.ex
  refine fn_of lk hcd S len fun A outer s H vs Q E hr hsp=>?_
  obtain ⟨t,h,q⟩:=hbody cdv A outer s H vs Q E hr hsp
  exact ⟨t,h.nox,q⟩
theorem ju {x qual:Str} {st:Stmt} {f:Addr} {oc:Value} {od an:Option Addr} {osl:Array (Option Value)} {kV doc pm cdv ct:Value} (l:K.lookup f=some ⟨oc,od,.func (PySem.W.fnOf x qual (jo st) (jk st) (jd st) .none kV doc pm an cdv ct),osl⟩)
    (c:PySem.W.codeIn K cdv qual=true) (k:PySem.W.keepIn K (.ref f)=true):Fun K x qual st f (PySem.W.fnOf x qual (jo st) (jk st) (jd st) .none kV doc pm an cdv ct):=⟨⟨oc,od,kV,doc,pm,an,cdv,ct,osl,rfl,l,c⟩,k⟩
end
section
variable {X:Cx}
end

def Same (H H':Hp):Prop:=∀ b o,H b=some o->H' b=some o
theorem Same.seq {K:PySem.W.Frag} {H H':Hp} {a:Addr} {xs:List V} (e:Same H H') (h:SqL K H a xs):SqL K H' a xs:=by
  rcases h with (h | ⟨o,h⟩) | h
  · exact .inl (.inl (e _ _ h))
  · exact .inl (.inr ⟨o,e _ _ h⟩)
  · exact .inr h

end L2

namespace L2
open PySem
section
variable {prog:Program} {w:World} {A:Around} {R:Result->Shared->Prop} {s:Shared}
theorem compLoop_any {elt target iter:Expr} {ifs:List Expr} {scope:Scope} {pos:Pos} {it acc:Value} {env:Env} (I:Nat->Shared->Prop)
    (turn:∀ n s,I n s->wpAny (model prog w) A (pyNext it) (fun r s₁=>match r with
      | none=>R (.ok .next) s₁
      | some v=>wpAny (model prog w) A (letOwnedTupleGo target it v) (fun _ s₁'=>wpAny (model prog w) A (assign target env v) (fun _ s₂ =>
          wpAny (model prog w) A (forIn ifs true fun c r=>if r=true then do let ok <- isTrue c env (eval c env); pure (ForInStep.yield ok) else pure (ForInStep.yield r)) (fun ok s₃ =>
            if ok=true then wpAny (model prog w) A (eval elt env) (fun x s₄ =>
              wpAny (model prog w) A (call (.builtin "list.append") [acc,x]) (fun _ s₅=>∃ m,m < n∧I m s₅) (fun _ _=>False) s₄) (fun _ _=>False) s₃
            else ∃ m,m < n∧I m s₃) (fun _ _=>False) s₂) (fun _ _=>False) s₁') (fun _ _=>False) s₁) (fun _ _=>False) s)
    (n:Nat) (h:I n s) :
    codeAny (model prog w) A (.compLoop (.ListComp elt [⟨target,iter,ifs,0⟩] scope pos) 0 it acc env) R s:=by
  refine codeAny_loop rfl I (fun n s hI=>?_) n h
  show wpAny _ A ((compTurn (.ListComp elt [⟨target,iter,ifs,0⟩] scope pos) 0 it acc env).onRaise (fun x=>do noteFrame x env; theTreesLotGoes x)) _ _ s
  refine wpAny_noted ?_
  rw [compTurn_list]
  refine wpAny_bind (wpAny_standAt (wpAny_bind (wpAny_mono (turn n s hI) (fun r s₁ h₁=>?_) fun _ _ h'=>h'.elim)))
  cases r with
  | none=>exact wpAny_pure h₁
  | some v =>
    refine wpAny_bind (wpAny_mono h₁ (fun _ s₁' h₁'=>?_) fun _ _ h'=>h'.elim)
    refine wpAny_bind (wpAny_mono h₁' (fun _ s₂ h₂=>wpAny_bind (wpAny_mono h₂ (fun ok s₃ h₃=>?_) fun _ _ h'=>h'.elim)) fun _ _ h'=>h'.elim)
    cases ok with
    | false=>exact wpAny_pure ⟨rfl,h₃⟩
    | true =>
      exact wpAny_bind (wpAny_bind (wpAny_mono h₃ (fun x s₄ h₄=>wpAny_bind (wpAny_mono h₄ (fun _ s₅ h₅=>wpAny_pure (wpAny_pure ⟨rfl,h₅⟩)) fun _ _ h'=>h'.elim)) fun _ _ h'=>h'.elim))
end
def JH (env:Env):List (Str × NameKind)->List (Str × Addr)->List (Str × Addr)
  | [],cs=>cs
  | (n,k) :: r,cs=>JH env r (if k == .free then (n,(env.cells.lookup n).getD 0) :: cs else cs)
def Jl (scope:Scope) (env:Env):List (Str × Addr):=JH env scope.names []
theorem clFrom_eq {env:Env}:∀ (ns:List (Str × NameKind)) (cs:List (Str × Addr)),(∀ y ∈ ns,y.2 = .free->∃ c,env.cells.lookup y.1=some c) ->
    (forIn ns cs fun (x:Str × NameKind) (r:List (Str × Addr))=>(if (x.2 == .free)=true then do
      let a <- cellOf env x.1
      pure (ForInStep.yield ((x.1,a) :: r)) else pure (ForInStep.yield r):Sem (ForInStep (List (Str × Addr)))))=pure (JH env ns cs)
  | [],cs,_=>rfl
  | (n,k) :: r,cs,h=>by
    rw [List.forIn_cons]
    have ih:=fun cs=>clFrom_eq r cs fun y hy=>h y (List.mem_cons_of_mem _ hy)
    by_cases hk:k = .free
    · subst hk
      obtain ⟨c,e⟩:=h (n,.free) List.mem_cons_self rfl
      have e':cellOf env n=pure c:=by
        unfold cellOf
        have e2:env.cells.lookup n=some c:=e
        rw [e2]
      simp only [beq_self_eq_true,if_true,e',pure_bind,ih]
      have e3:env.cells.lookup n=some c:=e
      simp only [JH,beq_self_eq_true,if_true,e3,Option.getD_some]
    · have hb:(k == NameKind.free)=false:=by simpa using hk
      simp only [hb,Bool.false_eq_true,if_false,pure_bind,ih,JH]
theorem closure_eq {scope:Scope} {env:Env} (h:∀ y ∈ scope.names,y.2 = .free->∃ c,env.cells.lookup y.1=some c):closureFor scope env=pure (Jl scope env):=by
  have e:=clFrom_eq scope.names [] h
  unfold closureFor Jl
  rw [<- e]
  simp only [bind_pure]
theorem clFrom_sub {env:Env} {x:Str} {c:Addr}:∀ (ns:List (Str × NameKind)) (cs:List (Str × Addr)),(∀ y ∈ ns,y.2 = .free->∃ c,env.cells.lookup y.1=some c) ->
    (cs.lookup x=some c->env.cells.lookup x=some c)->(JH env ns cs).lookup x=some c->env.cells.lookup x=some c
  | [],cs,_,h,e=>h e
  | (n,k) :: r,cs,hf,h,e=>by
    refine clFrom_sub r _ (fun y hy=>hf y (List.mem_cons_of_mem _ hy)) ?_ e
    by_cases hk:k = .free
    · subst hk
      obtain ⟨c',e'⟩:=hf (n,.free) List.mem_cons_self rfl
      have e':env.cells.lookup n=some c':=e'
      simp only [beq_self_eq_true,if_true,e',Option.getD_some]
      intro z
      rw [List.lookup_cons] at z
      cases hx:x == n with
      | true =>
        rw [hx] at z
        have hx':x=n:=by simpa using hx
        rw [hx',e']
        exact z
      | false =>
        rw [hx] at z
        exact h z
    · have hb:(k == NameKind.free)=false:=by simpa using hk
      simp only [hb,Bool.false_eq_true,if_false]
      exact h
theorem clFrom_has {env:Env} {x:Str}:∀ (ns:List (Str × NameKind)) (cs:List (Str × Addr)),((∃ c,cs.lookup x=some c)∨(x,NameKind.free) ∈ ns)->∃ c,(JH env ns cs).lookup x=some c
  | [],cs,h=>by
    rcases h with h | h
    · exact h
    · cases h
  | (n,k) :: r,cs,h=>by
    refine clFrom_has r _ ?_
    by_cases hk:k = .free
    · subst hk
      simp only [beq_self_eq_true,if_true]
      by_cases hx:x=n
      · subst hx
        left
        rw [List.lookup_cons]
        simp
      · rcases h with ⟨c,h⟩ | h
        · left
          refine ⟨c,?_⟩
          rw [List.lookup_cons]
          have:(x == n)=false:=by simpa using hx
          rw [this]
          exact h
        · right
          rcases List.mem_cons.mp h with h | h
          · cases h
            exact absurd rfl hx
          · exact h
    · have hb:(k == NameKind.free)=false:=by simpa using hk
      simp only [hb,Bool.false_eq_true,if_false]
      rcases h with h | h
      · exact .inl h
      · right
        rcases List.mem_cons.mp h with h | h
        · cases h
          exact absurd rfl hk
        · exact h
end L2

namespace L2
open PySem PySem.Spec PyProof.Rows
def jV (X:Cx) (N':List Str) (scope:Scope) (s₃:Shared) (H₃:Hp) (fp:List Addr):Cx :=
  { X with N:=N',s₀:=s₃,H₀:=H₃,env:=compEnvC scope (cellsFrom (s₃.heap.objs.size + 1) scope.names (Jl scope X.env)) s₃.heap.objs.size X.env,outer:=X.stack,ex:=fp,fn:=fun x=>scope.names.lookup x == some .cell,pn:=[],xe:=fun _ _=>False }
def uc (own:Nat) (js:List Nat) (σ:St):St:=List.replicate own none ++ js.map fun j=>(σ[j]?).getD none
def Keep (σ σ':St):Prop:=σ'.length=σ.length∧∀ (k:Nat) (v:V),σ[k]? = some (some v)->σ'[k]? = some (some v)
theorem Keep.refl (σ:St):Keep σ σ:=⟨rfl,fun _ _ e=>e⟩
theorem keep1 {r:St} {x:Option V}:Keep (none :: r) (x :: r):=⟨rfl,fun k v e=>by
  cases k with
  | zero=>cases e
  | succ k=>exact e⟩
theorem keep2 {r:St} {x y:Option V}:Keep (none :: none :: r) (x :: y :: r):=⟨rfl,fun k v e=>by
  cases k with
  | zero=>cases e
  | succ k=>cases k with
    | zero=>cases e
    | succ k=>exact e⟩
structure CompScope (osc sc:Scope) (own fr:List Str):Prop where
  kind:sc.kind = .function
  cel:∀ y ∈ sc.names,y.2 = .cell->sc.names.lookup y.1=some .cell
  loc:∀ y ∈ sc.names,y.2 = .local->sc.names.lookup y.1=some .local
  free:∀ y ∈ sc.names,y.2 = .free->osc.names.lookup y.1=some .cell∨osc.names.lookup y.1=some .free
  nown:∀ x ∈ own,sc.names.lookup x=some .local∨sc.names.lookup x=some .cell
  nfr:∀ x ∈ fr,(osc.names.lookup x=some .cell∨osc.names.lookup x=some .free)∧sc.names.lookup x=some .free
theorem vJ {env:Env} {x:Str} {k:NameKind}:∀ {names:List (Str × NameKind)},
    (names.map fun (n,k)=>if (k == NameKind.free && env.scope.kind == .function && env.kindOf n == some .cell) then (n,NameKind.cell) else (n,k)).lookup x=some k->names.lookup x=some k∨(k = .cell∧names.lookup x=some .free)
  | [],h=>by simp at h
  | (n,k') :: r,h=>by
    have ih:=@vJ env x k r
    simp only [List.map_cons] at h
    rw [List.lookup_cons]
    by_cases hc:(k' == NameKind.free && env.scope.kind == .function && env.kindOf n == some .cell)=true
    · rw [if_pos hc,List.lookup_cons] at h
      have hf:k' = .free:=by
        have:=(Bool.and_eq_true_iff.mp (Bool.and_eq_true_iff.mp hc).1).1
        simpa using this
      cases hx:x == n with
      | true =>
        rw [hx] at h
        subst hf
        exact .inr ⟨(Option.some.inj h).symm,rfl⟩
      | false =>
        rw [hx] at h
        exact ih h
    · rw [if_neg hc,List.lookup_cons] at h
      cases hx:x == n with
      | true =>
        rw [hx] at h
        exact .inl h
      | false =>
        rw [hx] at h
        exact ih h
theorem vq {env:Env} {x:Str}:∀ {names:List (Str × NameKind)},names.lookup x=some .free ->
    (names.map fun (n,k)=>if (k == NameKind.free && env.scope.kind == .function && env.kindOf n == some .cell) then (n,NameKind.cell) else (n,k)).lookup x=some .cell ∨
    (names.map fun (n,k)=>if (k == NameKind.free && env.scope.kind == .function && env.kindOf n == some .cell) then (n,NameKind.cell) else (n,k)).lookup x=some .free
  | [],h=>by simp at h
  | (n,k') :: r,h=>by
    have ih:=@vq env x r
    rw [List.lookup_cons] at h
    simp only [List.map_cons]
    by_cases hc:(k' == NameKind.free && env.scope.kind == .function && env.kindOf n == some .cell)=true
    · rw [if_pos hc,List.lookup_cons]
      cases hx:x == n with
      | true=>exact .inl rfl
      | false =>
        rw [hx] at h
        exact ih h
    · rw [if_neg hc,List.lookup_cons]
      cases hx:x == n with
      | true =>
        rw [hx] at h
        exact .inr h
      | false =>
        rw [hx] at h
        exact ih h
theorem Yq {x:Str}:∀ {names:List (Str × NameKind)} {n:Nat} {acc:List (Str × Addr)},(x,NameKind.cell) ∉ names->(cellsFrom n names acc).lookup x=acc.lookup x
  | [],_,_,_=>rfl
  | (m,k) :: r,n,acc,h=>by
    unfold cellsFrom
    have hr:(x,NameKind.cell) ∉ r:=fun z=>h (List.mem_cons_of_mem _ z)
    split
    · rename_i hk
      rw [Yq hr,List.lookup_cons]
      have hk:k = .cell:=by simpa using hk
      have hx:(x == m)=false:=by
        cases e:x == m with
        | false=>rfl
        | true =>
          have:x=m:=by simpa using e
          exact absurd (by rw [this,hk]; exact List.mem_cons_self) h
      rw [hx]
    · exact Yq hr
theorem cf_own {x:Str}:∀ {names:List (Str × NameKind)} {n:Nat} {acc:List (Str × Addr)},(x,NameKind.cell) ∈ names->∃ c,(cellsFrom n names acc).lookup x=some c∧n<=c
  | (m,k) :: r,n,acc,h=>by
    unfold cellsFrom
    by_cases hr:(x,NameKind.cell) ∈ r
    · split
      · obtain ⟨c,e,l⟩:=cf_own (n:=n + 1) (acc:=(m,n) :: acc) hr
        exact ⟨c,e,by omega⟩
      · exact cf_own hr
    · rcases List.mem_cons.mp h with h | h
      · cases h
        rw [if_pos (by rfl),Yq hr,List.lookup_cons]
        exact ⟨n,by simp,Nat.le_refl _⟩
      · exact absurd h hr
theorem cf_sub {x:Str} {c:Addr} {names:List (Str × NameKind)} {n:Nat} {acc:List (Str × Addr)} (e:(cellsFrom n names acc).lookup x=some c):(acc.lookup x=some c∧(x,NameKind.cell) ∉ names)∨(n<=c∧(x,NameKind.cell) ∈ names):=by
  by_cases h:(x,NameKind.cell) ∈ names
  · obtain ⟨c',e',l⟩:=cf_own (n:=n) (acc:=acc) h
    rw [e] at e'
    cases e'
    exact .inr ⟨l,h⟩
  · rw [Yq h] at e
    exact .inl ⟨e,h⟩
theorem cf_inj:∀ (names:List (Str × NameKind)) (n:Nat) (acc:List (Str × Addr)),(∀ x c,acc.lookup x=some c->c < n)->(∀ x y c,acc.lookup x=some c->acc.lookup y=some c->x=y)->∀ x y c,(cellsFrom n names acc).lookup x=some c->(cellsFrom n names acc).lookup y=some c->x=y
  | [],_,_,_,h=>h
  | (m,k) :: r,n,acc,hl,h=>by
    unfold cellsFrom
    split
    · refine cf_inj r (n + 1) _ (fun x c e=>?_) fun x y c e1 e2=>?_
      · rw [List.lookup_cons] at e
        split at e
        · cases e; exact Nat.lt_succ_self _
        · exact Nat.lt_succ_of_lt (hl x c e)
      · rw [List.lookup_cons] at e1 e2
        cases hx:x == m <;> cases hy:y == m <;> rw [hx] at e1 <;> rw [hy] at e2
        · exact h x y c e1 e2
        · cases e2
          exact absurd (hl x _ e1) (Nat.lt_irrefl _)
        · cases e1
          exact absurd (hl y _ e2) (Nat.lt_irrefl _)
        · have a:x=m:=by simpa using hx
          have b:y=m:=by simpa using hy
          rw [a,b]
    · exact cf_inj r n acc hl h
theorem cf_cell {x:Str} {c:Addr}:∀ (names:List (Str × NameKind)) (h:Heap) (acc:List (Str × Addr)),(∀ x c,acc.lookup x=some c->∃ v,h.IsCell c v)->(cellsFrom h.objs.size names acc).lookup x=some c->∃ v,(pushCells h names).IsCell c v
  | [],_,_,ha,e=>ha x c e
  | (m,k) :: r,h,acc,ha,e=>by
    unfold pushCells
    unfold cellsFrom at e
    split
    · rename_i hk
      rw [if_pos hk] at e
      refine cf_cell r (h.push { cls:=.type "cell",data:=.cell none }) ((m,h.objs.size) :: acc) (fun y d q=>?_) (by rw [Heap.size_push]; exact e)
      rw [List.lookup_cons] at q
      split at q
      · cases q
        exact ⟨none,_,Heap.get?_push_size _ rfl,rfl⟩
      · obtain ⟨v,hv⟩:=ha y d q
        exact ⟨v,hv.keeps fun b o e=>Heap.get?_push_of_some _ e⟩
    · rename_i hk
      rw [if_neg hk] at e
      exact cf_cell r h acc ha e
theorem XD {M:Model} {A:Around} {E:Value->Shared->Prop} {s:Shared} {scope:Scope} {globals:Addr} {closure:List (Str × Addr)} {qual:Str} {func:Option Addr} {code:Value} {outer:Env} {builtins:Addr} {Q:Env->Shared->Prop}
    (hQ:Q (newEnv scope s.heap.objs.size globals (cellsFrom (s.heap.objs.size + 1) scope.names closure) qual func code (some outer) builtins) { s with heap:=pushCells (s.heap.push { cls:=.type "dict",data:=.dict #[] }) scope.names }) :
    wpAny M A (newFunctionEnv scope globals closure [] qual func code (some outer) builtins) Q E s:=by
  simp only [newFunctionEnv,Option.isSome_some,if_true]
  refine wpAny_bind (wpAny_alloc ?_)
  refine wpAny_bind (wpAny_layCells _ (fun name kind cells=>by cases hkc:kind == NameKind.cell <;> simp [hkc]) _ _ _ _ ?_)
  rw [show ({ s with heap:=s.heap.push { cls:=.type "dict",data:=.dict #[] } }:Shared).heap.objs.size=s.heap.objs.size + 1 from Heap.size_push ..]
  rw [List.forIn_nil]
  exact wpAny_bind (wpAny_pure (wpAny_pure hQ))
theorem ns_push {h:Heap} {c:Addr} {m:Str->Option Value} (names:List (Str × NameKind)) (n:h.Ns c m):(pushCells h names).Ns c m:=n.keeps (fun b o e=>pushCells_keeps names h b o e)
section
variable {X:Cx} {pins:List (Addr × Obj)} {σ:St} {H:Hp} {s:Shared} {osc sc:Scope} {own fr:List Str} {js:List Nat} {fp:List Addr}
theorem cl_ok (I:Inv X pins σ H s) (ho:X.env.scope=osc) (S:CompScope osc sc own fr):∀ y ∈ sc.names,y.2 = .free->∃ c,X.env.cells.lookup y.1=some c:=fun y hy e=>by
  refine I.ok.has y.1 ?_
  have h:=S.free y hy e
  rw [<- ho] at h
  exact h
theorem YK (I:Inv X pins σ H s) (ho:X.env.scope=osc) (S:CompScope osc sc own fr) {x:Str} {c:Addr} (e:(Jl sc X.env).lookup x=some c):X.env.cells.lookup x=some c :=
  clFrom_sub sc.names [] (cl_ok I ho S) (fun z=>by cases z) e
theorem cl_has (S:CompScope osc sc own fr) {x:Str} (h:sc.names.lookup x=some .free):∃ c,(Jl sc X.env).lookup x=some c :=
  clFrom_has sc.names [] (.inr (PySem.mem_of_lookup h))
theorem bl_sub {n:Nat} (I:Inv X pins σ H s) (ho:X.env.scope=osc) (S:CompScope osc sc own fr) {x:Str} {c:Addr} (e:(cellsFrom n sc.names (Jl sc X.env)).lookup x=some c):X.env.cells.lookup x=some c∨n<=c:=by
  rcases cf_sub e with h | h
  · exact .inl (YK I ho S h.1)
  · exact .inr h.1
theorem cell_lt (I:Inv X pins σ H s) {x:Str} {c:Addr} (e:X.env.cells.lookup x=some c):c < s.heap.objs.size:=by
  obtain ⟨v,hv⟩:=I.cell x c e
  exact hv.lt
theorem free_ncell (S:CompScope osc sc own fr) {x:Str} (h:sc.names.lookup x=some .free):(x,NameKind.cell) ∉ sc.names:=fun z=>by
  have:=S.cel _ z rfl
  rw [h] at this
  cases this
theorem bl_free (S:CompScope osc sc own fr) {x:Str} (n:Nat) (h:sc.names.lookup x=some .free):(cellsFrom n sc.names (Jl sc X.env)).lookup x=(Jl sc X.env).lookup x:=Yq (free_ncell S h)
theorem cx_comp (I:Inv X pins σ H s) (ho:X.env.scope=osc) (S:CompScope osc sc own fr) (hf:∀ b ∈ fp,Jn X pins H b) (hlt:∀ b ∈ fp,b < s.heap.objs.size) (N':List Str):(jV X N' sc s H fp).Ok where
  mod:=I.ok.mod
  kind:=S.kind
  glob:=I.ok.glob
  blt:=I.ok.blt
  above:=Nat.le_refl _
  inj:=cf_inj _ _ _ (fun x c e=>Nat.lt_succ_of_lt (cell_lt I (YK I ho S e))) fun x y c h1 h2=>I.ok.inj x y c (YK I ho S h1) (YK I ho S h2)
  has:=fun x h=>by
    have h:(relabel sc X.env).names.lookup x=some .cell∨(relabel sc X.env).names.lookup x=some .free:=h
    rcases h with h | h
    · rcases vJ h with h | ⟨_,h⟩
      · obtain ⟨c,e,_⟩:=cf_own (n:=s.heap.objs.size + 1) (acc:=Jl sc X.env) (PySem.mem_of_lookup h)
        exact ⟨c,e⟩
      · obtain ⟨c,e⟩:=cl_has (X:=X) S h
        exact ⟨c,(bl_free S _ h).trans e⟩
    · rcases vJ h with h | ⟨e,_⟩
      · obtain ⟨c,e⟩:=cl_has (X:=X) S h
        exact ⟨c,(bl_free S _ h).trans e⟩
      · cases e
  cab:=fun x c h e=>by
    have h:(sc.names.lookup x == some .cell)=true:=h
    have h:sc.names.lookup x=some .cell:=by simpa using h
    obtain ⟨c',e',l⟩:=cf_own (n:=s.heap.objs.size + 1) (acc:=Jl sc X.env) (PySem.mem_of_lookup h)
    have e:(cellsFrom (s.heap.objs.size + 1) sc.names (Jl sc X.env)).lookup x=some c:=e
    rw [e] at e'
    cases e'
    exact Nat.le_of_succ_le l
  hd:=I.ok.hd
  frames:=I.ok.frames
  stk:=.inl rfl
  exf:=fun b hb=>⟨Nat.ne_of_lt (hlt b hb),fun x c e=>by
    rcases bl_sub I ho S e with z | z
    · exact (hf b hb).2.2.2.2.1 x c z
    · exact Nat.ne_of_gt (Nat.lt_trans (hlt b hb) z)⟩
  bs:=fun b o e=>I.bs b o e
  bsz:=Nat.le_trans I.ok.bsz I.sz
  noex:=fun b o e hb=>by
    have h:=I.ok.noex b o e
    have h2:=(hf b hb).2.2.2.1
    rcases h2 with h2 | h2
    · exact h h2
    · have hb2:b < X.base.objs.size:=Heap.lt_size e
      exact absurd (Nat.lt_of_lt_of_le hb2 (Nat.le_trans I.ok.bsz h2)) (Nat.lt_irrefl _)
  exfs:=fun b hb hm=>by
    have:=I.stkSub b hm
    rcases List.mem_cons.mp this with z | z
    · exact (hf b hb).2.1 z
    · exact (hf b hb).2.2.1 z
  funs:=I.stack
  frf:=I.stkFree
theorem inv_comp {h':Heap} {tk:Nat} (I:Inv X pins σ H s) (ho:X.env.scope=osc) (S:CompScope osc sc own fr) (hj:js.map (fun j=>X.N[j]?)=fr.map some) (hf:∀ b ∈ fp,Jn X pins H b) (hlt:∀ b ∈ fp,b < s.heap.objs.size)
    (hn:h'.Ns s.heap.objs.size fun _=>none) (hk:∀ b o,s.heap.get? b=some o->h'.get? b=some o) (hcl:∀ x c,(cellsFrom (s.heap.objs.size + 1) sc.names (Jl sc X.env)).lookup x=some c->∃ v,h'.IsCell c v):Inv (jV X (own ++ fr) sc s H fp) [] (uc own.length js σ) H { s with heap:=h',toks:=tk }:=by
  refine ⟨cx_comp I ho S hf hlt _,rfl,I.bare,Un.kept hk,⟨_,hn,fun i x v h1 h2 h3=>?_⟩,fun x c e=>?_,I.hok.fresh (Nat.le_refl _),fun x c e=>(bl_sub I ho S e).elim (fun z=>I.freeC x c z) (fun z=>I.hok.fresh (Nat.le_of_succ_le z)),fun p hp=>absurd (show p ∈ ([]:List (Addr × Obj)) from hp) (by simp),I.hok.kept hk,?_⟩
  · have h1:(own ++ fr)[i]? = some x:=h1
    by_cases hi:i < own.length
    · unfold uc at h2
      rw [List.getElem?_append_left (by simpa using hi),List.getElem?_replicate] at h2
      split at h2 <;> cases h2
    · have hi':own.length<=i:=Nat.le_of_not_lt hi
      rw [List.getElem?_append_right hi'] at h1
      unfold uc at h2
      rw [List.getElem?_append_right (by simpa using hi'),List.length_replicate,List.getElem?_map] at h2
      have hx:=congrArg (fun l:List (Option Str)=>l[i - own.length]?) hj
      simp only [List.getElem?_map,h1,Option.map_some] at hx
      cases ej:js[i - own.length]? with
      | none=>rw [ej] at hx; cases hx
      | some j =>
        rw [ej] at hx h2
        simp only [Option.map_some,Option.some.injEq] at hx h2
        have hsv:σ[j]? = some (some v):=by
          cases es:σ[j]? with
          | none=>rw [es] at h2; cases h2
          | some z=>rw [es] at h2; simp only [Option.getD_some] at h2; rw [h2]
        have hxf:=S.nfr x (List.mem_of_getElem? h1)
        obtain ⟨m,hm,hl⟩:=I.loc
        have hv:Vis X.env.scope x:=by
          rw [ho]
          rcases hxf.1 with z | z
          · exact .inr (.inl z)
          · exact .inr (.inr z)
        obtain ⟨u,ru,lk⟩:=hl j x v hx hsv hv
        refine ⟨u,ru,.inr ⟨vq hxf.2,?_⟩⟩
        rcases lk with ⟨lk,_⟩ | ⟨_,c,ec,ic⟩
        · have lk:X.env.scope.names.lookup x=some .local:=lk
          rw [ho] at lk
          rcases hxf.1 with z | z <;> (rw [lk] at z; cases z)
        · obtain ⟨c',e'⟩:=cl_has (X:=X) S hxf.2
          have e2:=YK I ho S e'
          rw [ec] at e2
          cases e2
          exact ⟨c,(bl_free S _ hxf.2).trans e',ic.keeps hk⟩
  · exact hcl x c e
  · have e:=congrArg List.length hj
    simp only [List.length_map] at e
    show (uc own.length js σ).length=(own ++ fr).length
    unfold uc
    simp only [List.length_append,List.length_replicate,List.length_map,e]
end
end L2

namespace L2
open PySem PySem.Spec PyProof.Rows
def CompW (J:It) (acc:Addr) (own:Nat) (js:List Nat) (g:TG) (tt:TT) (te:TE) (σ:St) (Q:VK) (H1:Hp):Prop :=
  ∃ W:Nat->Nat->List V->Hp->Prop,(∃ m,W 0 m [] (upd H1 acc (.lst [])))∧∀ i m xs H2,W i m xs H2->(J.stop i H2∧Q (.ref acc) H2) ∨
    (J.go i H2∧xs.length < sizeLine∧∃ N:List V->Hp->Prop,(∀ ys H',N ys H'->∃ m',m' < m∧W (i + 1) m' ys H')∧∀ x H3,J.yld i H2 x H3->g x (uc own js σ) H3 fun σ4 H4=>Keep (uc own js σ) σ4∧tt σ4 H4 fun b H5 =>
      if b=true then te σ4 H5 fun y H6=>H6 acc=some (.lst xs)∧N (xs ++ [y]) (upd H6 acc (.lst (xs ++ [y]))) else N xs H5)
def tComp (wi:TI) (own:Nat) (js:List Nat) (g:TG) (tt:TT) (te:TE):TE:=fun σ H Q=>wi σ H fun J H1=>∀ acc,H1 acc=none->CompW J acc own js g tt te σ Q H1
def PIf (X:Cx) (ifs:List Expr) (tt:TT):Prop :=
  ∀ (pins:List (Addr × Obj)) (s:Shared) (σ:St) (H:Hp) (Q:Bool->Hp->Prop),Inv X pins σ H s->tt σ H Q ->
    wpAny (model X.prog X.w) X.A (forIn ifs true fun c r=>if r=true then do let ok <- isTrue c X.env (eval c X.env); pure (ForInStep.yield ok) else pure (ForInStep.yield r)) (TP X pins σ Q) X.xe s
def tTrue:TT:=fun _ H Q=>Q true H
theorem if_nil {X:Cx}:PIf X [] tTrue:=fun pins s σ H Q I h=>wpAny_tests_nil ⟨H,I,h⟩
theorem if_one {X:Cx} {c:Expr} {tc:TT} (h:PT X c tc):PIf X [c] tc:=fun pins s σ H Q I q=>wpAny_tests_one (h pins s σ H Q I q)
section
variable {X:Cx} {pins:List (Addr × Obj)} {σ:St} {H:Hp} {s:Shared} {osc sc:Scope} {own fr:List Str} {js:List Nat} {fp:List Addr}
theorem comp_back {acc:Addr} {s':Shared} {σ':St} {H':Hp} {N':List Str} (I:Inv X pins σ H s) (hacc:acc=s.heap.objs.size) {tk:Nat} (hf:∀ b ∈ fp,Jn X pins H b)
    (J:Inv (jV X N' sc { s with heap:=s.heap.push { cls:=.type "list",data:=.seq ([]:List Value).toArray },toks:=tk } (upd H acc (.lst [])) fp) [] σ' H' s'):Inv X pins σ H' s':=by
  subst hacc
  refine I.call' J.os ?_ J.hok J.bare fun b hb=>⟨(hf b hb).2.2.2.1,(hf b hb).2.1,(hf b hb).2.2.2.2.1,(hf b hb).2.2.2.2.2⟩
  exact Un.trans (Un.laid (o:=.lst []) (fun b u e=>Heap.get?_push_of_some _ e) (Nat.le_refl _) (I.hok.fresh (Nat.le_refl _))) J.base
theorem comp_core {elt target iter:Expr} {ifs:List Expr} {pos:Pos} {it:Addr} {tn:Nat->Heap->Prop} {J:It} {g:TG} {tt:TT} {te:TE} {Q:VK} {RR:Value->Addr->Result->Shared->Prop} {E:Value->Shared->Prop}
    (hc:X.calm=true) (ho:X.env.scope=osc) (S:CompScope osc sc own fr) (hj:js.map (fun j=>X.N[j]?)=fr.map some)
    (hg:∀ s₃ H₃ fp,PG (jV X (own ++ fr) sc s₃ H₃ fp) target g) (ht:∀ s₃ H₃ fp,PIf (jV X (own ++ fr) sc s₃ H₃ fp) ifs tt) (he:∀ s₃ H₃ fp,PE (jV X (own ++ fr) sc s₃ H₃ fp) elt te)
    (I:Inv X pins σ H s) (T:Turn X.prog X.w X.K target J fp it tn) (st:tn 0 s.heap) (hf:∀ b ∈ fp,Jn X pins H b)
    (h:∀ acc,H acc=none->CompW J acc own.length js g tt te σ Q H)
    (fin:∀ acc C H' s',Inv X pins σ H' s'->Jn X pins H' C->(∃ m,s'.heap.Ns C m)->Q (.ref acc) H'->RR (.ref acc) C (.ok .next) s') :
    wpAny (model X.prog X.w) X.A (newList []) (fun acc s₃=>wpAny (model X.prog X.w) X.A (newFunctionEnv sc X.env.globals (Jl sc X.env) [] X.env.qual none .none (some X.env)) (fun cenv s₄ =>
      codeAny (model X.prog X.w) X.A (.compStart (.ListComp elt [⟨target,iter,ifs,0⟩] sc pos) 0 (.ref it) acc { cenv with scope:=relabel sc X.env }) (RR acc cenv.locals) s₄) E s₃) E s:=by
  obtain ⟨W,⟨m0,w0⟩,turn⟩:=h s.heap.objs.size (I.hok.fresh (Nat.le_refl _))
  have hlt:∀ b ∈ fp,b < s.heap.objs.size:=fun b hb=>by
    obtain ⟨o,e,_⟩:=T.obj _ _ st b hb
    exact Heap.lt_size e
  refine wpAny_newList ?_
  have I3:Inv X pins σ (upd H s.heap.objs.size (.lst [])) { s with heap:=s.heap.push { cls:=.type "list",data:=.seq ([]:List Value).toArray } }:=I.lnew (its:=[]) (ys:=[]) (t':=s.toks) .nil (Nat.zero_le _)
  have f3:∀ b ∈ fp,Jn X pins (upd H s.heap.objs.size (.lst [])) b:=fun b hb=>⟨by rw [jn (Nat.ne_of_lt (hlt b hb))]; exact (hf b hb).1,(hf b hb).2⟩
  have hsz3:(s.heap.push { cls:=.type "list",data:=.seq ([]:List Value).toArray }).objs.size=s.heap.objs.size + 1:=Heap.size_push ..
  refine XD ?_
  dsimp only
  obtain ⟨h₁,e₁⟩:∃ h₁,h₁=pushCells ((s.heap.push { cls:=.type "list",data:=.seq ([]:List Value).toArray }).push { cls:=.type "dict",data:=.dict #[] }) sc.names:=⟨_,rfl⟩
  rw [<- e₁]
  have hns₁:h₁.Ns (s.heap.push { cls:=.type "list",data:=.seq ([]:List Value).toArray }).objs.size fun _=>none:=by
    rw [e₁]
    exact ns_push _ (Heap.Ns.new ..)
  have old:∀ b o,(s.heap.push { cls:=.type "list",data:=.seq ([]:List Value).toArray }).get? b=some o->h₁.get? b=some o:=fun b o e=>by
    rw [e₁]
    exact pushCells_keeps _ _ _ _ (Heap.get?_push_of_some _ e)
  have cel₁:∀ x c,(cellsFrom ((s.heap.push { cls:=.type "list",data:=.seq ([]:List Value).toArray }).objs.size + 1) sc.names (Jl sc X.env)).lookup x=some c->∃ v,h₁.IsCell c v:=fun x c e=>by
    rw [e₁]
    refine cf_cell sc.names _ (Jl sc X.env) (fun y d q=>?_) (by rw [Heap.size_push]; exact e)
    obtain ⟨v,hv⟩:=I3.cell y d (YK I3 ho S q)
    exact ⟨v,hv.keeps fun b o e=>Heap.get?_push_of_some _ e⟩
  have lt3:∀ b ∈ fp,b < (s.heap.push { cls:=.type "list",data:=.seq ([]:List Value).toArray }).objs.size:=fun b hb=>by rw [hsz3]; exact Nat.lt_succ_of_lt (hlt b hb)
  have I4:=inv_comp (own:=own) (fr:=fr) (js:=js) (tk:=s.toks) I3 ho S hj f3 lt3 hns₁ old cel₁
  have st4:tn 0 h₁:=T.keep _ _ _ st fun b _ o e=>old b o (Heap.get?_push_of_some _ e)
  have fpX:∀ {H':Hp},(∀ b ∈ fp,H' b=none)->∀ b ∈ fp,Jn (jV X (own ++ fr) sc { s with heap:=s.heap.push { cls:=.type "list",data:=.seq ([]:List Value).toArray } } (upd H s.heap.objs.size (.lst [])) fp) [] H' b:=fun hn b hb =>
    ⟨hn b hb,Nat.ne_of_lt (lt3 b hb),fun hm=>by
      rcases List.mem_cons.mp (I.stkSub b hm) with z | z
      · exact (hf b hb).2.1 z
      · exact (hf b hb).2.2.1 z,.inl hb,fun x c e=>(bl_sub I3 ho S e).elim (fun z=>(hf b hb).2.2.2.2.1 x c z) (fun z=>Nat.ne_of_gt (Nat.lt_trans (lt3 b hb) z)),fun p hp=>absurd (show p ∈ ([]:List (Addr × Obj)) from hp) (by simp)⟩
  have loop:∀ s₃:Shared,s₃={ s with heap:=h₁ } ->
      codeAny (model X.prog X.w) X.A (.compLoop (.ListComp elt [⟨target,iter,ifs,0⟩] sc pos) 0 (.ref it) (.ref s.heap.objs.size) (compEnvC sc (cellsFrom ((s.heap.push { cls:=.type "list",data:=.seq ([]:List Value).toArray }).objs.size + 1) sc.names (Jl sc X.env)) (s.heap.push { cls:=.type "list",data:=.seq ([]:List Value).toArray }).objs.size X.env))
        (RR (.ref s.heap.objs.size) (s.heap.push { cls:=.type "list",data:=.seq ([]:List Value).toArray }).objs.size) s₃:=by
    rintro s₃ rfl
    refine compLoop_any (fun n s'=>∃ i xs σ' H',Inv (jV X (own ++ fr) sc { s with heap:=s.heap.push { cls:=.type "list",data:=.seq ([]:List Value).toArray } } (upd H s.heap.objs.size (.lst [])) fp) [] σ' H' s'∧Keep (uc own.length js σ) σ'∧tn i s'.heap∧(∀ b ∈ fp,H' b=none)∧W i n xs H')
      ?_ m0 ⟨0,[],_,_,I4,Keep.refl _,st4,fun b hb=>(f3 b hb).1,w0⟩
    rintro n s5 ⟨i,xs,σ5,H5,I5,k5,st5,fr5,w5⟩
    have I5':=I5.weak (σ':=uc own.length js σ) k5.1.symm k5.2
    have hc':(jV X (own ++ fr) sc { s with heap:=s.heap.push { cls:=.type "list",data:=.seq ([]:List Value).toArray } } (upd H s.heap.objs.size (.lst [])) fp).calm=true:=hc
    rcases turn i n xs H5 w5 with ⟨stop,qn⟩ | ⟨go,hz,N,hN,step⟩
    · refine thn (T.done (jV X (own ++ fr) sc { s with heap:=s.heap.push { cls:=.type "list",data:=.seq ([]:List Value).toArray } } (upd H s.heap.objs.size (.lst [])) fp) rfl rfl rfl hc' i [] s5 _ H5 _ I5' (fpX fr5) st5 stop) fun r s6 hQQ=>?_
      obtain ⟨hr,I6⟩:=hQQ
      subst hr
      have B:=comp_back I rfl (tk:=s.toks) hf I6
      refine fin _ _ H5 s6 B ?_ ?_ qn
      · refine I.fpOk ?_ I6.free
        show s.heap.objs.size<=(s.heap.push { cls:=.type "list",data:=.seq ([]:List Value).toArray }).objs.size
        rw [hsz3]
        exact Nat.le_succ _
      · obtain ⟨m,hm,_⟩:=I6.loc
        exact ⟨m,hm⟩
    · refine thn (T.item (jV X (own ++ fr) sc { s with heap:=s.heap.push { cls:=.type "list",data:=.seq ([]:List Value).toArray } } (upd H s.heap.objs.size (.lst [])) fp) rfl rfl rfl hc' i [] s5 _ H5 _ I5' (fpX fr5) st5 go) fun r s6 hQQ=>?_
      obtain ⟨u,hr,h6⟩:=hQQ
      subst hr
      refine thn h6 fun _ s7 hQQ=>?_
      obtain ⟨x,H7,I7,r7,y7,st7,fr7⟩:=hQQ
      have I7':=I7.pinned (fpX fr7) (T.obj _ _ st7)
      have again:∀ {s9:Shared} {σ9:St} {H9:Hp} {ys:List V} {m':Nat},Inv (jV X (own ++ fr) sc { s with heap:=s.heap.push { cls:=.type "list",data:=.seq ([]:List Value).toArray } } (upd H s.heap.objs.size (.lst [])) fp) ([] ++ pinsAt fp s7.heap) σ9 H9 s9 ->
          Keep (uc own.length js σ) σ9->m' < n->W (i + 1) m' ys H9->∃ m,m < n∧∃ i xs σ' H',Inv (jV X (own ++ fr) sc { s with heap:=s.heap.push { cls:=.type "list",data:=.seq ([]:List Value).toArray } } (upd H s.heap.objs.size (.lst [])) fp) [] σ' H' s9∧Keep (uc own.length js σ) σ'∧tn i s9.heap∧(∀ b ∈ fp,H' b=none)∧W i m xs H':=fun {s9 σ9 H9 ys m'} I9 k9 hm w9=>by
        refine ⟨m',hm,i + 1,ys,σ9,H9,I9.unpinned,k9,T.keep _ _ _ st7 fun b hb o e=>(I9.pin (b,o) (List.mem_append_right _ (List.mem_append_right _ (uv hb e)))).1,fun b hb=>?_,w9⟩
        obtain ⟨o,e,d⟩:=T.obj _ _ st7 b hb
        exact (I9.pin (b,o) (List.mem_append_right _ (List.mem_append_right _ (uv hb e)))).2.1
      refine thn (hg _ _ _ _ s7 _ H7 x u _ I7' r7 (step x H7 y7)) fun _ s8 hQQ=>?_
      obtain ⟨σ8,H8,I8,k8,q8⟩:=hQQ
      refine thn (ht _ _ _ _ s8 σ8 H8 _ I8 q8) fun b s9 hQQ=>?_
      obtain ⟨H9,I9,q9⟩:=hQQ
      cases b with
      | false =>
        rw [if_neg (by simp)]
        rw [if_neg (by simp)] at q9
        obtain ⟨m',hm,w9⟩:=hN _ _ q9
        exact again I9 k8 hm w9
      | true =>
        rw [if_pos rfl]
        rw [if_pos rfl] at q9
        refine thn (he _ _ _ _ s9 σ8 H9 _ I9 q9) fun y s10 hQQ=>?_
        obtain ⟨v,H10,I10,r10,a10,n10⟩:=hQQ
        obtain ⟨m',hm,w10⟩:=hN _ _ n10
        refine thn (mt_append _ s10 σ8 H10 (.ref s.heap.objs.size) [v] (.ref s.heap.objs.size) [y] (fun z H11=>z = .non∧H11=upd H10 s.heap.objs.size (.lst (xs ++ [v]))) I10 rfl (.cons r10 .nil) ⟨_,xs,v,rfl,rfl,a10,hz,rfl,rfl⟩) fun z s11 hQQ=>?_
        obtain ⟨z',H11,I11,_,_,e11⟩:=hQQ
        subst e11
        exact again I11 k8 hm w10
  exact codeAny_compStart_list (loop _ rfl) (T.self _ 0 _ _ _ st4 (loop _ rfl))
end
section
variable {X:Cx} {osc sc:Scope} {own fr:List Str} {js:List Nat} {elt target iter:Expr} {ifs:List Expr} {pos:Pos} {wi:TI} {g:TG} {tt:TT} {te:TE}
theorem pe_comp (hc:X.calm=true) (ho:X.env.scope=osc) (S:CompScope osc sc own fr) (hj:js.map (fun j=>X.N[j]?)=fr.map some) (hi:PI X target iter wi)
    (hg:∀ s₃ H₃ fp,PG (jV X (own ++ fr) sc s₃ H₃ fp) target g) (ht:∀ s₃ H₃ fp,PIf (jV X (own ++ fr) sc s₃ H₃ fp) ifs tt) (he:∀ s₃ H₃ fp,PE (jV X (own ++ fr) sc s₃ H₃ fp) elt te)
    (hs:∀ x,foldedSetIterable iter X.env x=pure x:=by intro _; rfl):PE X (.ListComp elt [⟨target,iter,ifs,0⟩] sc pos) (tComp wi own.length js g tt te):=by
  intro pins s σ H Q I h
  rw [eval_ListComp]
  refine wpAny_comprehension_free (use:=none) rfl hs (closure_eq (cl_ok I ho S)) S.kind S.loc (thn (hi pins s σ H _ I h) fun v s1 h1=>thn h1 fun itv s2 h2=>?_)
  obtain ⟨it,fp,tn,J,H2,e,I2,T,st2,f2,q2⟩:=h2
  subst e
  refine comp_core (RR:=fun acc C=>compPost (model X.prog X.w) X.A X.xe none (EP X pins σ Q) acc C) hc ho S hj hg ht he I2 T st2 f2 q2 fun acc C H' s' J hC hn q=>?_
  obtain ⟨m,hm⟩:=hn
  refine ⟨m,hm,fun h' hs'=>⟨.ref acc,H',?_,rfl,q⟩⟩
  obtain ⟨f0,f1,f2',f3,f4,f5⟩:=hC
  exact J.turned (t':=s'.toks) (fun b o hb e=>hs'.extBut b o hb e) f0 f1 f3 f4 f5
theorem ps_comp {i:Nat} {x:Str} {px spos:Pos} (hc:X.calm=true) (ho:X.env.scope=osc) (S:CompScope osc sc own fr) (hj:js.map (fun j=>X.N[j]?)=fr.map some) (hN:X.N.Nodup) (hi':X.N[i]? = some x) (hx:X.env.scope.names.lookup x=some .local)
    (hi:PI X target iter wi) (hg:∀ s₃ H₃ fp,PG (jV X (own ++ fr) sc s₃ H₃ fp) target g) (ht:∀ s₃ H₃ fp,PIf (jV X (own ++ fr) sc s₃ H₃ fp) ifs tt) (he:∀ s₃ H₃ fp,PE (jV X (own ++ fr) sc s₃ H₃ fp) elt te)
    (hsw:swapsWith (.ListComp elt [⟨target,iter,ifs,0⟩] sc pos) (some (.Name x px)) spos.line X.env=pure true)
    (hs:∀ x,foldedSetIterable iter X.env x=pure x:=by intro _; rfl):PS X (.Assign [.Name x px] (.ListComp elt [⟨target,iter,ifs,0⟩] sc pos) spos) (tAsg (tComp wi own.length js g tt te) (vv i)):=by
  intro pins s σ H D I h
  rw [exec_Assign_Name_used _ _ _ _ hsw]
  refine wpAny_bind (wpAny_standAt (wpAny_bind ?_))
  show wpAny _ X.A (do let _ <- comprehension (.ListComp elt [⟨target,iter,ifs,0⟩] sc pos) sc X.env _ (newList []) false (eval iter X.env) (some (assign (.Name x px) X.env))) _ _ s
  refine wpAny_bind (wpAny_mono (wpAny_comprehension_free (use:=some (assign (.Name x px) X.env)) (Q:=fun _ s'=>SP X pins D .next s') rfl hs (closure_eq (cl_ok I ho S)) S.kind S.loc (thn (hi pins s σ H _ I h) fun v s1 h1=>thn h1 fun itv s2 h2=>?_))
    (fun _ s' hq=>wpAny_pure (wpAny_pure hq)) fun _ _ e=>e)
  obtain ⟨it,fp,tn,J,H2,e,I2,T,st2,f2,q2⟩:=h2
  subst e
  refine comp_core (Q:=fun v H'=>vv i v σ H' D.nx) (RR:=fun acc C=>compPost (model X.prog X.w) X.A X.xe (some (assign (.Name x px) X.env)) (fun _ s'=>SP X pins D .next s') acc C) hc ho S hj hg ht he I2 T st2 f2 q2 fun acc C H' s' J hC hn q=>?_
  obtain ⟨m,hm⟩:=hn
  obtain ⟨f0,f1,f2',f3,f4,f5⟩:=hC
  show wpAny _ X.A (assign (.Name x px) X.env (.ref acc)) _ _ _
  refine wpAny_assign_Name (store_ok2 J hN hi' (.inl hx) (v:=.ref acc) rfl (fun s'' J' hsb=>?_) (.inr hx))
  obtain ⟨a,hsb,ha⟩:=hsb
  have hCa:C≠a:=by
    rcases ha with rfl | ha
    · exact f1
    · exact (f4 x a ha).symm
  refine ⟨m,hm.sameBut hsb hCa,fun h' hs'=>⟨_,H',?_,q⟩⟩
  exact J'.turned (t':=s''.toks) (fun b o hb e=>hs'.extBut b o hb e) f0 f1 f3 f4 f5
end
end L2

namespace L2
open PySem PySem.Spec PyProof.Rows
section
variable {X:Cx}
theorem vz:∀ {ns:List Int} {us:List Value},ym (ns.map V.int) us->IntsAre us ns:=fun h=>intsAre_of h
theorem vals_of_ints {ns:List Int} {us:List Value} (h:IntsAre us ns):ym (ns.map V.int) us:=vals_ints h
theorem Xf:yy X (.builtin "sorted") (fun xs H Q=>∃ (p:Addr) (ns:List Int),xs=[.ref p]∧SqL X.K H p (ns.map V.int)∧ns.length < 64∧∀ (l:Addr) (ms:List Int),H l=none->ms.Perm ns->ms.Pairwise (·<=·)->Q (.ref l) (upd H l (.lst (ms.map V.int)))):=by
  intro pins s σ H xs us Q I r h
  obtain ⟨p,ns,rfl,hq,h64,q⟩:=h
  obtain ⟨u,rfl,rx⟩:=XE r
  cases rx
  obtain ⟨its,r',pl,hz⟩:=I.list hq
  have hI:=vz r'
  have hlen:=r'.length
  rw [List.length_map] at hlen
  refine sorted_ints pl.isList hI (by omega) fun out ns' hI' hp hs=>?_
  obtain ⟨e,he⟩:=sortedAll_at s.heap its out
  have hl':ns'.length=ns.length:=hp.length_eq
  refine ⟨.ref (s.heap.objs.size + 1),_,I.laid (a:=s.heap.objs.size + 1) (o:=.lst (ns'.map V.int)) (t':=s.toks) (fun b o z=>sortedAll_old z) (Nat.le_succ _) ?_,rfl,q _ ns' (I.hok.fresh (Nat.le_succ _)) hp hs⟩
  refine ⟨by rw [List.length_map]; rw [List.length_map] at hz; omega,out.toList,e,vals_of_ints hI',?_⟩
  rw [he]
theorem min_at {xs:Array (Int × Tok)} (h:0 < xs.size):numAt xs (argBest (fun i j=>decide (numAt xs i < numAt xs j)) (xs.size - 1)) ∈ xs.toList.map (·.1) ∧
    ∀ a ∈ xs.toList.map (·.1),numAt xs (argBest (fun i j=>decide (numAt xs i < numAt xs j)) (xs.size - 1))<=a:=by
  obtain ⟨h1,h2⟩:=argBest_lt (numAt xs) (xs.size - 1)
  refine ⟨?_,fun a ha=>?_⟩
  · rw [numAt_eq]; exact PySem.getD_mem (by rw [List.length_map,Array.length_toList]; omega)
  · obtain ⟨j,hj,rfl⟩:=PySem.mem_getD ha
    rw [List.length_map,Array.length_toList] at hj
    rw [<- numAt_eq]; exact h2 j (by omega)
theorem max_at {xs:Array (Int × Tok)} (h:0 < xs.size):numAt xs (argBest (fun i j=>decide (numAt xs i > numAt xs j)) (xs.size - 1)) ∈ xs.toList.map (·.1) ∧
    ∀ a ∈ xs.toList.map (·.1),a<=numAt xs (argBest (fun i j=>decide (numAt xs i > numAt xs j)) (xs.size - 1)):=by
  obtain ⟨h1,h2⟩:=argBest_gt (numAt xs) (xs.size - 1)
  refine ⟨?_,fun a ha=>?_⟩
  · rw [numAt_eq]; exact PySem.getD_mem (by rw [List.length_map,Array.length_toList]; omega)
  · obtain ⟨j,hj,rfl⟩:=PySem.mem_getD ha
    rw [List.length_map,Array.length_toList] at hj
    rw [<- numAt_eq]; exact h2 j (by omega)
theorem call_minL (hc:X.calm=true):yy X (.builtin "min") (fun xs H Q=>∃ (p:Addr) (ns:List Int),xs=[.ref p]∧SqL X.K H p (ns.map V.int)∧0 < ns.length∧∀ M:Int,M ∈ ns->(∀ a ∈ ns,M<=a)->Q (.int M) H):=by
  intro pins s σ H xs us Q I r h
  obtain ⟨p,ns,rfl,hq,hne,q⟩:=h
  obtain ⟨u,rfl,rx⟩:=XE r
  cases rx
  obtain ⟨its,r',pl,hz⟩:=I.list hq
  have hI:=vz r'
  obtain ⟨ys,e⟩:=hI.allInts.items
  have hns:ns=ys.toList.map (·.1):=by rw [<- hI.numsOf,<- nums_intItems,<- e]
  have hsz:0 < ys.size:=by
    have h3:=hne; rw [hns,List.length_map,Array.length_toList] at h3; exact h3
  have hl:=pl.isList
  rw [e] at hl
  refine min_intList (I.ok.hd hc) hl hsz fun v h' tk hv hk=>?_
  obtain ⟨t,rfl⟩:=intItems_at hv
  obtain ⟨m1,m2⟩:=min_at hsz
  exact ⟨.int _,H,I.kept hk,⟨t,rfl⟩,q _ (by rw [hns]; exact m1) (by rw [hns]; exact m2)⟩
theorem call_maxL (hc:X.calm=true):yy X (.builtin "max") (fun xs H Q=>∃ (p:Addr) (ns:List Int),xs=[.ref p]∧SqL X.K H p (ns.map V.int)∧0 < ns.length∧∀ M:Int,M ∈ ns->(∀ a ∈ ns,a<=M)->Q (.int M) H):=by
  intro pins s σ H xs us Q I r h
  obtain ⟨p,ns,rfl,hq,hne,q⟩:=h
  obtain ⟨u,rfl,rx⟩:=XE r
  cases rx
  obtain ⟨its,r',pl,hz⟩:=I.list hq
  have hI:=vz r'
  obtain ⟨ys,e⟩:=hI.allInts.items
  have hns:ns=ys.toList.map (·.1):=by rw [<- hI.numsOf,<- nums_intItems,<- e]
  have hsz:0 < ys.size:=by
    have h3:=hne; rw [hns,List.length_map,Array.length_toList] at h3; exact h3
  have hl:=pl.isList
  rw [e] at hl
  refine max_intList (I.ok.hd hc) hl hsz fun v h' tk hv hk=>?_
  obtain ⟨t,rfl⟩:=intItems_at hv
  obtain ⟨m1,m2⟩:=max_at hsz
  exact ⟨.int _,H,I.kept hk,⟨t,rfl⟩,q _ (by rw [hns]; exact m1) (by rw [hns]; exact m2)⟩
theorem Jb:∀ {xs:List V} {us:List Value},ym xs us->∀ (j:Nat) (h:j < us.length),yn (xs.getD j .non) us[j]
  | _,_,.nil,j,h=>absurd h (Nat.not_lt_zero _)
  | _ :: _,_ :: _,.cons r t,0,_=>r
  | _ :: _,_ :: _,.cons r t,j + 1,h=>by
    have:=Jb t j (Nat.lt_of_succ_lt_succ h)
    simpa using this
theorem all_range {α:Type} (d:α) (f:α->Bool):∀ (bs:List α),((List.range bs.length).all fun i=>f (bs.getD i d))=bs.all f
  | []=>rfl
  | b :: r=>by
    rw [List.length_cons,List.range_succ_eq_map,List.all_cons,List.all_map,List.all_cons]
    have ih:=all_range d f r
    rw [<- ih]
    rfl
theorem call_allL (hc:X.calm=true):yy X (.builtin "all") (fun xs H Q=>∃ (p:Addr) (bs:List Bool),xs=[.ref p]∧SqL X.K H p (bs.map V.bl)∧Q (.bl (bs.all id)) H):=by
  intro pins s σ H xs us Q I r h
  obtain ⟨p,bs,rfl,hq,q⟩:=h
  obtain ⟨u,rfl,rx⟩:=XE r
  cases rx
  obtain ⟨its,r',pl,hz⟩:=I.list hq
  have hlen:=r'.length
  rw [List.length_map] at hlen
  have hlt:p < s.heap.objs.size:=by obtain ⟨_,e,_⟩:=pl.isList; exact Heap.lt_size e
  refine call_all_walk (wpAny_pyIter_list pl.isList ?_)
  refine ⟨_,_,_,_,_,_,fun i=>id (bs.getD i true),rfl,Walks.list (A:=X.A.in1) (I.ok.hd hc) _ p (Nat.ne_of_lt hlt) its.toArray,⟨⟨_,Heap.get?_push_size _ rfl,rfl,rfl⟩,pl.isList.push _⟩,?_,fun h' tk hk=>?_⟩
  · intro i v s' Q' E' hP hQ
    have hi:i < its.length:=by
      have:=(Array.getElem?_eq_some_iff.mp hP).1
      simpa using this
    have hv:v=its[i]:=by
      have:=(Array.getElem?_eq_some_iff.mp hP).2
      simpa using this.symm
    have rv:=Jb r' i hi
    have e:(bs.map V.bl).getD i .non=V.bl (bs.getD i true):=by
      rw [List.getD_eq_getElem?_getD,List.getD_eq_getElem?_getD,List.getElem?_map,List.getElem?_eq_getElem (by omega)]
      rfl
    rw [e] at rv
    have rv:its[i]=Value.bool (bs.getD i true):=rv
    rw [hv,rv]
    exact wpAny_truthy_bool hQ
  · have e:((List.range its.toArray.size).all fun i=>id (bs.getD i true))=bs.all id:=by
      rw [List.size_toArray,<- hlen]
      exact all_range true id bs
    rw [e]
    exact ⟨.bl _,H,I.kept (old_kept hk),rfl,q⟩
def eqVs:List V->List V->Bool
  | [],[]=>true
  | x :: xs,y :: ys=>eqV x y && eqVs xs ys
  | _,_=>false
theorem eqVs_len:∀ {xs ys:List V},xs.length≠ys.length->eqVs xs ys=false
  | [],[],h=>absurd rfl h
  | [],_ :: _,_=>rfl
  | _ :: _,[],_=>rfl
  | x :: xs,y :: ys,h=>by
    have:eqVs xs ys=false:=eqVs_len fun e=>h (by simp [e])
    simp [eqVs,this]
theorem eqVs_range:∀ {xs ys:List V},xs.length=ys.length->((List.range xs.length).all fun i=>eqV (xs.getD i .non) (ys.getD i .non))=eqVs xs ys
  | [],[],_=>rfl
  | x :: xs,y :: ys,h=>by
    rw [List.length_cons,List.range_succ_eq_map,List.all_cons,List.all_map]
    have ih:=eqVs_range (xs:=xs) (ys:=ys) (by simpa using h)
    show (eqV x y && _)=(eqV x y && eqVs xs ys)
    rw [<- ih]
    rfl
  | [],_ :: _,h=>by simp at h
  | _ :: _,[],h=>by simp at h
theorem flat_getD {xs:List V} (h:xs.all Xa=true) (i:Nat):Xa (xs.getD i .non)=true:=by
  rw [List.getD_eq_getElem?_getD]
  cases e:xs[i]? with
  | none=>rfl
  | some v=>exact List.all_eq_true.mp h v (List.mem_of_getElem? e)
def rEqL (K:PySem.W.Frag) (neg:Bool):R2:=fun x y H Q=>∃ a b xs ys,x = .ref a∧y = .ref b∧SqL K H a xs∧SqL K H b ys∧xs.all Xa=true∧ys.all Xa=true∧Q (.bl (if neg then !eqVs xs ys else eqVs xs ys)) H
theorem lists_at {pins:List (Addr × Obj)} {s:Shared} {σ:St} {H:Hp} {a b:Addr} {xs ys:List V} (I:Inv X pins σ H s) (ha:SqL X.K H a xs) (hb:SqL X.K H b ys) (fx:xs.all Xa=true) (fy:ys.all Xa=true) :
    ∃ items items2:Array Value,s.heap.IsList a items∧s.heap.IsList b items2∧items.size=xs.length∧items2.size=ys.length ∧
      ∀ A j (h1:j < items.size) (h2:j < items2.size),SeqAt.EqAt A s items[j] items2[j] (eqV (xs.getD j .non) (ys.getD j .non)):=by
  obtain ⟨its,r,pl,hz⟩:=I.list ha
  obtain ⟨its2,r2,pl2,hz2⟩:=I.list hb
  refine ⟨its.toArray,its2.toArray,pl.isList,pl2.isList,by simp [r.length],by simp [r2.length],fun A j h1 h2=>?_⟩
  have q1:=Jb r j (by simpa using h1)
  have q2:=Jb r2 j (by simpa using h2)
  have:=eqAt_V (A:=A) (s:=s) q1 q2 (flat_getD fx j) (flat_getD fy j)
  simpa using this
theorem op_neL (hu:X.A.units < cLine):OpR X (compareOp .NotEq) (rEqL X.K true):=by
  intro pins s σ H x y v u Q I rx ry h
  obtain ⟨a,b,xs,ys,rfl,rfl,ha,hb,fx,fy,q⟩:=h
  cases rx
  cases ry
  obtain ⟨items,items2,l1,l2,s1,s2,he⟩:=lists_at I ha hb fx fy
  by_cases hl:xs.length=ys.length
  · refine SeqAt.RcNeAt.lists l1 l2 (by omega) hu (fun j h1 h2=>he _ j h1 h2) _ _ _ _ ⟨.bl _,H,I,rfl,?_⟩
    rw [s1,eqVs_range hl]
    exact q
  · refine SeqAt.RcNeAt.lists_lengths l1 l2 (by simp; omega) hu _ _ _ _ ⟨.bl _,H,I,rfl,?_⟩
    rw [eqVs_len hl] at q
    exact q
theorem op_isB:OpR X (compareOp .Is) (fun x y H Q=>∃ a b,x = .bl a∧y = .bl b∧Q (.bl (a == b)) H):=by
  intro pins s σ H x y v u Q I rx ry h
  obtain ⟨a,b,rfl,rfl,q⟩:=h
  cases rx
  cases ry
  exact is_bool ⟨.bl _,H,I,rfl,q⟩
theorem Ye {α β:Type} (f:α->β):∀ (l:List α) (j:Nat),(l.eraseIdx j).map f=(l.map f).eraseIdx j
  | [],_=>rfl
  | _ :: _,0=>rfl
  | a :: l,j + 1=>by simp [Ye f l j]
theorem Jq {k:Int}:∀ {ns:List Int},k ∈ ns->∃ j,∃ hj:j < ns.length,ns[j]=k∧(∀ i (hi:i < ns.length),i < j->ns[i]≠k)∧ns.eraseIdx j=ns.erase k
  | [],h=>by cases h
  | n :: r,h=>by
    by_cases e:n=k
    · subst e
      exact ⟨0,by simp,rfl,fun i _ hi=>absurd hi (Nat.not_lt_zero _),by simp⟩
    · have hr:k ∈ r:=by
        rcases List.mem_cons.mp h with z | z
        · exact absurd z.symm e
        · exact z
      obtain ⟨j,hj,h1,h2,h3⟩:=Jq hr
      refine ⟨j + 1,by simpa using hj,by simpa using h1,fun i hi hlt=>?_,?_⟩
      · cases i with
        | zero=>simpa using e
        | succ i=>simpa using h2 i (by simpa using hi) (by omega)
      · rw [List.eraseIdx_cons_succ,h3,List.erase_cons_tail (by simpa using e)]
def rRemove:V->List V->Hp->VK->Prop:=fun x vs H Q=>∃ (l:Addr) (ns:List Int) (k:Int),x = .ref l∧vs=[.int k]∧H l=some (.lst (ns.map V.int))∧k ∈ ns∧Q .non (upd H l (.lst ((ns.erase k).map V.int)))
theorem mt_remove:MtR X "list.remove" rRemove:=by
  intro pins s σ H x vs v us Q I rx rv h
  obtain ⟨l,ns,k,rfl,rfl,hH,hk,q⟩:=h
  cases rx
  obtain ⟨u,rfl,t,rfl⟩:=rv.one
  obtain ⟨z,its,n,r,hl,e⟩:=I.lstM hH
  have hI:=vz r
  rw [List.length_map] at hl z
  obtain ⟨j,hj,h1,h2,h3⟩:=Jq hk
  have at_:∀ i (hi:i < its.length),∃ t',its[i]=Value.int (ns.getD i 0) t':=fun i hi=>by
    have q:=Jb r i hi
    have e':(ns.map V.int).getD i .non=V.int (ns.getD i 0):=by
      rw [List.getD_eq_getElem?_getD,List.getD_eq_getElem?_getD,List.getElem?_map,List.getElem?_eq_getElem (by omega)]
      rfl
    rw [e'] at q
    exact q
  have eqg:∀ y,y ∈ its.toArray->MeetsSeq.EqGives y (.int k t) (PyProof.Rows.isInt k y):=fun y hy=>by
    have hy:y ∈ its:=by simpa using hy
    obtain ⟨i,hi,rfl⟩:=List.mem_iff_getElem.mp hy
    obtain ⟨t',e'⟩:=at_ i hi
    rw [e']
    exact MeetsSeq.EqGives.int _ k t' t
  refine call_meets F.slot_list_remove ⟨_,e,rfl⟩ F.entry_list_remove (F.args_list_remove_2 _ _)
    (MeetsSeq.list_remove l its.toArray n (.int k t) (PyProof.Rows.isInt k) eqg j (by simp; omega) ?_ ?_ (by simp; omega)) ⟨e,?_⟩
  · obtain ⟨t',e'⟩:=at_ j (by omega)
    have:its.toArray[j]'(by simp; omega)=its[j]'(by omega):=by simp
    rw [this,e']
    have hg:ns.getD j 0=k:=by rw [List.getD_eq_getElem?_getD,List.getElem?_eq_getElem hj]; exact h1
    rw [hg]
    simp [PyProof.Rows.isInt]
  · intro i hi hlt
    have hi':i < its.length:=by simpa using hi
    obtain ⟨t',e'⟩:=at_ i hi'
    have:its.toArray[i]=its[i]:=by simp
    rw [this,e']
    have hg:ns.getD i 0≠k:=by rw [List.getD_eq_getElem?_getD,List.getElem?_eq_getElem (by omega)]; exact h2 i (by omega) hlt
    simp [PyProof.Rows.isInt]
    exact hg
  · refine ⟨.non,_,I.lset (its':=its.eraseIdx j) hH e ?_ ?_ ?_,rfl,q⟩
    · simp
    · rw [<- h3,Ye]
      exact r.eraseIdx j
    · rw [List.length_map]
      have:=List.length_erase_le (a:=k) (l:=ns)
      omega
end
end L2

namespace L2
open PySem PySem.Spec PyProof.Rows
theorem yC:bootBuiltins "len" = some (.builtin "len"):=by decide +kernel
theorem YL:bootBuiltins "sorted" = some (.builtin "sorted"):=by decide +kernel
theorem bt_min:bootBuiltins "min" = some (.builtin "min"):=by decide +kernel
theorem bt_max:bootBuiltins "max" = some (.builtin "max"):=by decide +kernel
theorem YM:bootBuiltins "all" = some (.builtin "all"):=by decide +kernel
theorem jM:bootBuiltins "isinstance" = some (.builtin "isinstance"):=by decide +kernel
theorem bt_int:bootBuiltins "int" = some (.type "int"):=by decide +kernel
theorem bt_bool:bootBuiltins "bool" = some (.type "bool"):=by decide +kernel
theorem vC:bootBuiltins "list" = some (.type "list"):=by decide +kernel
theorem bt_tuple:bootBuiltins "tuple" = some (.type "tuple"):=by decide +kernel
theorem bt_dict:bootBuiltins "dict" = some (.type "dict"):=by decide +kernel
structure Bl (mg:Str->Option Value):Prop where
  no:∀ x ∈ (["len","sorted","min","max","sum","all","isinstance","int","bool","list","tuple","range"]:List Str),mg x=none
namespace Bl
variable {mg:Str->Option Value}
end Bl
structure Cal (P:Program) (w:World) (K:PySem.W.Frag) (mg:Str->Option Value) (base:Heap) (x:Str) (j:Nat) (ps:List Str) (sp:Sp):Prop where
  ex:∃ f fd,FnOk P w K mg base CX0 j f fd ps sp∧mg x=some (.ref f)∧PySem.W.keepIn K (.ref f)=true∧Binds K fd ps []
def g11 {α:Type} (us ws:List α):List α:=match us,ws with
  | [a],[b]=>[a,b]
  | _,_=>[]
structure CalK (P:Program) (w:World) (K:PySem.W.Frag) (mg:Str->Option Value) (base:Heap) (x:Str) (j:Nat) (ps ks:List Str) (sp:Sp):Prop where
  ex:∃ f fd,FnOk P w K mg base CX0 j f fd ps sp∧mg x=some (.ref f)∧PySem.W.keepIn K (.ref f)=true∧KBinds K fd ps ks g11 g11
section
variable {X:Cx} {x:Str} {j:Nat} {ps ks:List Str} {sp:Sp} {p pos:Pos} {e:Expr} {es:List Expr} {t tk:TA} {kws:List Keyword}
end
theorem hu0 {A:Around} {k:Nat} (hr:Room k A):A.units < cLine:=hr.units0
def But (bs:List Addr) (H H':Hp):Prop:=∀ b o,H b=some o->b ∉ bs->H' b=some o
end L2

namespace L2
open PySem PySem.Spec PyProof.Rows
end L2

namespace L2
open PySem PySem.Spec PyProof.Rows
section
variable {X:Cx}
end
end L2

namespace L2
open PySem PySem.Spec PyProof.Rows
section
variable {P:Program} {w:World} {H:Hp} {h h':Heap} {a:Addr} {o:HO}
theorem yO.there (x:yO P w H h a o):∃ u,h.get? a=some u:=by
  cases o with
  | lst xs =>
    obtain ⟨_,_,_,_,e⟩:=x
    exact ⟨_,e⟩
  | tup xs =>
    obtain ⟨_,_,_,p⟩:=x
    obtain ⟨ob,e,_⟩:=p
    exact ⟨_,e⟩
  | dK kvs =>
    obtain ⟨_,_,_,_,ob,_,_,e,_⟩:=x
    exact ⟨_,e⟩
  | dT kvs =>
    obtain ⟨_,_,_,_,ob,_,_,e,_⟩:=x
    exact ⟨_,e⟩
  | set S n =>
    obtain ⟨ob,_,_,_,e,_⟩:=x
    exact ⟨_,e⟩
  | ins C dx fs =>
    obtain ⟨_,_,_,e,_⟩:=x
    exact ⟨_,e⟩
  | own y=>exact x
  | xd fs =>
    obtain ⟨_,⟨_,_,_,e,_⟩,_⟩:=x
    exact ⟨_,e⟩
  | rng lo hi =>
    obtain ⟨_,_,_,e⟩:=x
    exact ⟨_,e⟩
  | frz ob u =>
    obtain ⟨e,_⟩:=x
    exact ⟨_,e⟩
  | tbl ps=>exact ⟨_,x⟩
  | met f y=>exact ⟨_,x⟩
  | ext φ=>exact x.2.1
theorem HOk.moved (x:HOk P w H h) (k:∀ b o u,H b=some o->h.get? b=some u->h'.get? b=some u):HOk P w H h':=fun a o e =>
  (x a o e).stay (fun b u hb q=>by
    rcases hb with rfl | hb
    · exact k _ _ u e q
    · exact k _ _ u hb q) (fun _ z=>z) fun _ _ z=>z
end
def CX1 (P:Program) (w:World):CXT:=fun outer H s E e s'=>∃ (ea C:Addr) (a0:Value) (H':Hp) (B:Heap),e = .ref ea∧s'.os=s.os∧AllBare s'.gens∧Heap.FlyingW B outer ea (.ref C) a0 s'.heap ∧
  (∀ b o,s.heap.get? b=some o->H b=none->b ∉ frs outer->B.get? b=some o)∧(∀ b o,s.heap.get? b=some o->b ∉ frs outer->∃ o',B.get? b=some o') ∧
  (∀ b o,H' b=some o->∃ u,B.get? b=some u)∧Un (frs outer) [] H H' s.heap s'.heap∧HOk P w H' s'.heap∧E (.ref C) none H'
theorem CX1.step {P:Program} {w:World} {outer:List Env} {H₀ H':Hp} {s₀ s':Shared} {h h'':Heap} {B:Heap} {ea C:Addr} {a0:Value} {E:XK} (ho:s'.os=s₀.os) (hb:AllBare s'.gens)
    (fl:Heap.FlyingW B outer ea (.ref C) a0 h'') (up:h.UpToSlots h'') (st:B.StaysIn h) (hfr:∀ b ∈ frs outer,H₀ b=none) (hff:∀ b ∈ frs outer,∀ o,h.get? b=some o->∀ vs,o.data≠.fields vs)
    (k1:∀ b o,s₀.heap.get? b=some o->H₀ b=none->b ∉ frs outer->B.get? b=some o) (k2:∀ b o,s₀.heap.get? b=some o->b ∉ frs outer->∃ o',B.get? b=some o')
    (k3:∀ b o,H' b=some o->∃ u,B.get? b=some u) (u:Un (frs outer) [] H₀ H' s₀.heap h) (hok:HOk P w H' h) (q:E (.ref C) none H'):CX1 P w outer H₀ s₀ E (.ref ea) { s' with heap:=h'' }:=by
  have slot:∀ b o,s₀.heap.get? b=some o->H₀ b=none->b ∈ frs outer->∃ sl,h''.get? b=some { o with slots:=sl }:=fun b o e n hm=>by
    obtain ⟨sl,e1⟩:=u.slot b o e n hm (by simp)
    obtain ⟨sl',e2⟩:=up b _ e1 (hff b hm _ e1)
    exact ⟨sl',e2⟩
  refine ⟨ea,C,a0,H',B,rfl,ho,hb,fl,k1,k2,k3,⟨fun b o e n hm _=>fl.1 b o (k1 b o e n hm),fun b o e n hm _=>slot b o e n hm,u.free,fun b o e _=>?_,u.tups,u.frzs,u.tbls⟩,?_,q⟩
  · by_cases hm:b ∈ frs outer
    · obtain ⟨sl,e2⟩:=slot b o e (hfr b hm) hm
      exact ⟨_,e2⟩
    · obtain ⟨o',e2⟩:=k2 b o e hm
      exact ⟨o',fl.1 b o' e2⟩
  · refine hok.moved fun b o u' e q'=>?_
    obtain ⟨u2,e2⟩:=k3 b o e
    have e3:=st b u2 e2
    rw [q'] at e3
    cases e3
    exact fl.1 b _ e2
section
variable {P:Program} {w:World} {K:PySem.W.Frag} {mg:Str->Option Value} {base:Heap} {N:List Str} {qual:Str} {scope:Scope} {f:Addr} {cd:Value} {A:Around} {outer:List Env} {s₀:Shared} {H₀:Hp} {E:XK}
theorem XB {b:Addr} {o:Obj} (e:s₀.heap.get? b=some o) (hm:b ∉ frs outer):b ∉ frs (envOfC qual scope s₀.heap.objs.size f cd :: outer):=fun hb=>by
  have hb:b ∈ s₀.heap.objs.size :: frs outer:=hb
  rcases List.mem_cons.mp hb with rfl | hb
  · exact Nat.lt_irrefl _ (Heap.lt_size e)
  · exact hm hb
theorem cx_raise {pins:List (Addr × Obj)} {σ:St} {H:Hp} {s:Shared} {e C:Addr} {us:List Value} {h':Heap} (I:Inv (uy (CX1 P w) P w K mg base N qual scope f cd A outer s₀ H₀ E) pins σ H s)
    (hx:Heap.MadeExcOf s.heap h' e (.ref C) us) (q:E (.ref C) none H):(uy (CX1 P w) P w K mg base N qual scope f cd A outer s₀ H₀ E).xe (.ref e) { s with heap:=h' }:=by
  have hst:s.heap.FunFrames base (envOfC qual scope s₀.heap.objs.size f cd :: outer):=I.stack
  have hin:∀ env ∈ (envOfC qual scope s₀.heap.objs.size f cd :: outer),∀ b,env.frame=some b->b ∈ frs (envOfC qual scope s₀.heap.objs.size f cd :: outer):=fun env he b hb=>List.mem_filterMap.mpr ⟨env,he,hb⟩
  have hide:=PySem.W.funFrames_hide hst hin
  refine wpAny_leaves_madeW (base:=PySem.W.hideAll s.heap (frs (envOfC qual scope s₀.heap.objs.size f cd :: outer))) (s:={ s with heap:=h' }) I.ok.frames rfl (fun b o z=>PySem.W.of_hideAll _ z) hide hx fun h'' t fl _ _ up=>?_
  have kB:∀ b o,s.heap.get? b=some o->b ∉ frs (envOfC qual scope s₀.heap.objs.size f cd :: outer)->(PySem.W.hideAll s.heap (frs (envOfC qual scope s₀.heap.objs.size f cd :: outer))).get? b=some o:=fun b o z n=>PySem.W.hideAll_get _ z n
  have ub:Un (frs outer) [] H₀ H s₀.heap s.heap:=I.base
  have bsx:∀ b o,s₀.heap.get? b=some o->H₀ b=none->b ∉ frs outer->s.heap.get? b=some o:=fun b o z n hm=>ub.keep b o z n hm (by simp)
  refine CX1.step (s':=s) (h:=s.heap) I.os I.bare fl (fun b o z nf=>up b o (hx.keeps b o z) nf) (fun b o z=>PySem.W.of_hideAll _ z) I.ok.frf (fun b hb o z=>?_) (fun b o z n hm=>kB b o (bsx b o z n hm) (XB z hm)) (fun b o z hm=>?_) (fun b o z=>?_) ub I.hok q
  · obtain ⟨_,o',e1,e2⟩:=hst.mem (b:=b) (List.mem_cons_of_mem _ hb)
    rw [z] at e1
    cases e1
    exact e2
  · obtain ⟨o',e1⟩:=ub.there b o z (by simp)
    exact ⟨o',kB b o' e1 (XB z hm)⟩
  · obtain ⟨u,e1⟩:=(I.hok b o z).there
    refine ⟨u,kB b u e1 fun hm=>?_⟩
    have:=I.stkFree b hm
    rw [z] at this
    cases this
theorem cx_pass:Passes (CX1 P w) (uy (CX1 P w) P w K mg base N qual scope f cd A outer s₀ H₀ E) E:=by
  intro pins σ H s e s' I h
  obtain ⟨ea,C,a0,H',B,rfl,ho,hb,fl,k1,k2,k3,u,hok,q⟩:=h
  have ub:Un (frs outer) [] H₀ H s₀.heap s.heap:=I.base
  have fl:Heap.FlyingW B (envOfC qual scope s₀.heap.objs.size f cd :: outer) ea (.ref C) a0 s'.heap:=fl
  have u:Un (frs (envOfC qual scope s₀.heap.objs.size f cd :: outer)) [] H H' s.heap s'.heap:=u
  have J:=I.call' ho u hok hb (ch:=[]) (fun b hb=>by simp at hb)
  have uj:Un (frs outer) [] H₀ H' s₀.heap s'.heap:=J.base
  have ofr:∀ b ∈ frs outer,b ∈ frs (envOfC qual scope s₀.heap.objs.size f cd :: outer):=fun b hb=>List.mem_cons_of_mem _ hb
  refine wpAny_leaves_onW I.ok.frames rfl fl fun h' fl' up=>?_
  refine CX1.step (s':=s') (h:=s'.heap) (ho.trans I.os) hb fl' up fl.1 I.ok.frf (fun b hb o z=>?_) (fun b o z n hm=>k1 b o (ub.keep b o z n hm (by simp)) (ub.free b o z n (by simp)) (XB z hm)) (fun b o z hm=>?_) k3 uj hok q
  · obtain ⟨_,o',e1,e2⟩:=fl.2.2.1.mem (b:=b) (ofr b hb)
    rw [z] at e1
    cases e1
    exact e2
  · obtain ⟨o',e1⟩:=ub.there b o z (by simp)
    exact k2 b o' e1 (XB z hm)
end
theorem Fun.okX {P:Program} {w:World} {K:PySem.W.Frag} {mg:Str->Option Value} {base:Heap} {x qual:Str} {st:Stmt} {f:Addr} {fd:FuncData} {N ps:List Str} {k:Nat} {sp:Sp} (F:Fun K x qual st f fd) (S:FnScope N ps (jd st)) (len:∀ vs H Q E,sp vs H Q E->vs.length=ps.length)
    (hbody:∀ (cdv:Value) (A:Around) (outer:List Env) (s:Shared) (H:Hp) (vs:List V) (Q:VK) (E:XK),Room k (A.deeper (envOfC qual (jd st) s.heap.objs.size f cdv))->sp vs H Q E ->
      ∃ t,PSs (uy (CX1 P w) P w K mg base N qual (jd st) f cdv A outer s H E) (jk st) t∧t { nx:=fun _ H'=>Q .non H',rt:=Q } (start N vs) H):FnOk P w K mg base (CX1 P w) (k + 1) f fd ps sp:=by
  obtain ⟨oc,od,kV,doc,pm,an,cdv,ct,osl,rfl,lk,hcd⟩:=F.ex
  exact fn_of lk hcd S len fun A outer s H vs Q E hr hsp=>hbody cdv A outer s H vs Q E hr hsp
end L2

namespace L2
open PySem PySem.Spec PyProof.Rows
def tFmtI (tv:TE):TE:=fun σ H Q=>tv σ H fun x H1=>∃ i:Int,x = .int i∧i.natAbs.log2 < 1920∧Q (.str (toString i)) H1
abbrev TJ:=St->Hp->Str->(Str->Hp->Prop)->Prop
def PJ (X:Cx) (es:List Expr) (t:TJ):Prop :=
  ∀ (pins:List (Addr × Obj)) (s:Shared) (σ:St) (H:Hp) (out:Str) (Q:Str->Hp->Prop),Inv X pins σ H s->t σ H out Q ->
    wpAny (model X.prog X.w) X.A (joinParts out (evalEach es X.env)) (EP X pins σ fun v H'=>∃ z,v = .str z∧Q z H') X.xe s
def tjNil:TJ:=fun _ H out Q=>out.length<=sizeLine∧Q out H
def tjCons (te:TE) (tr:TJ):TJ:=fun σ H out Q=>te σ H fun x H1=>∃ y,x = .str y∧(out ++ y).length<=sizeLine∧tr σ H1 (out ++ y) Q
def tFstr (t:TJ):TE:=fun σ H Q=>t σ H Str.empty fun z H1=>Q (.str z) H1
section
variable {X:Cx} {e e2:Expr} {es:List Expr} {te tv:TE} {t:TJ} {pos:Pos}
theorem pe_fmtI (hv:PE X e tv):PE X (.FormattedValue e (-1) none pos) (tFmtI tv):=by
  intro pins s σ H Q I h
  refine FormattedValue_plain (thn (hv pins s σ H _ I h) fun v s1 hQQ=>?_)
  obtain ⟨x,H1,I1,r1,i,ei,hi,q⟩:=hQQ
  subst ei
  obtain ⟨tk,rfl⟩:=(show ∃ tk,v=Value.int i tk from r1)
  exact formatField_int_small hi ⟨.str (toString i),H1,I1.tok _,⟨_,rfl⟩,q⟩
theorem pj_nil:PJ X [] tjNil:=fun pins s σ H out Q I h=>joinParts_nil ⟨.str out,H,I.tok _,⟨_,rfl⟩,out,rfl,h.2⟩ h.1
theorem pj_cons (he:PE X e te) (hr:PJ X es t) (hs:evalEach (e :: es) X.env=eval e X.env :: evalEach es X.env:=by rfl):PJ X (e :: es) (tjCons te t):=by
  intro pins s σ H out Q I h
  rw [hs]
  refine joinParts_cons (thn (he pins s σ H _ I h) fun v s1 hQQ=>?_)
  obtain ⟨x,H1,I1,r1,y,ey,hz,q⟩:=hQQ
  subst ey
  obtain ⟨tk,rfl⟩:=(show ∃ tk,v=Value.str y tk from r1)
  exact ⟨hz,hr pins s1 σ H1 _ Q I1 q⟩
theorem pe_fstr (h:PJ X (e :: e2 :: es) t) (hs:evalEach (e :: e2 :: es) X.env=eval e X.env :: eval e2 X.env :: evalEach es X.env:=by rfl):PE X (.JoinedStr (e :: e2 :: es) pos) (tFstr t):=by
  intro pins s σ H Q I q
  refine JoinedStr_many ?_
  rw [<- hs]
  refine thn (h pins s σ H Str.empty _ I q) fun v s1 hQQ=>?_
  obtain ⟨x,H1,I1,r1,z,ez,q1⟩:=hQQ
  subst ez
  exact ⟨_,H1,I1,r1,q1⟩
end
abbrev bmVE:List Value:=[.type "ValueError",.type "Exception",.type "BaseException",.type "object"]
theorem exc_obj {K:PySem.W.Frag} {h:Heap} {C:Addr} {bmB:List Value} {newId:String} (KX:K.In h) (hq:PySem.W.excIn K C bmB newId=true) :
    ∃ (tl:List Value) (Nn:Addr) (n1 n2:Str) (bs:List Value) (b1:Bool) (sn:List Str) (sub:List Value) (b2:Bool) (col:Option Bool) (dd:Option Addr) (j0 j1 j2 j3 j5:Option Value) (mN:Str->Option Value),
      h.get? C=some (excClassObj n1 n2 C Nn bs tl b1 sn sub b2 col dd j0 j1 j2 j3 j5 newId)∧h.Ns Nn mN∧mN "__init__" = none∧OwnTail h bmB tl:=by
  unfold PySem.W.excIn at hq
  split at hq
  case h_2=>cases hq
  case h_1 dd cdat slots look =>
    split at hq
    case h_2=>cases hq
    case h_1 C2 tl j0 j1 j2 j3 idn j5 emro eslots =>
      simp only [Bool.and_eq_true,beq_iff_eq,Bool.not_eq_true'] at hq
      obtain ⟨⟨⟨⟨⟨z1,z2⟩,z3⟩,z4⟩,z5⟩,z6⟩:=hq
      subst z1
      subst z2
      obtain ⟨n1,bs,mr,nsa,n2,b1,sn,sub,b2,col,b3⟩:=cdat
      have z3':b3=false:=z3
      have em:mr = .ref C2 :: tl:=emro
      subst z3'
      subst em
      have es:slots = #[j0,j1,j2,j3,some (.builtin idn),j5]:=by
        cases slots with
        | mk l =>
          have:l=[j0,j1,j2,j3,some (.builtin idn),j5]:=eslots
          rw [this]
      subst es
      refine ⟨tl,nsa,n1,n2,bs,b1,sn,sub,b2,col,dd,j0,j1,j2,j3,j5,h.nsMap nsa,KX _ _ look,?_⟩
      exact ⟨.of_isNs (PySem.W.isNs_of_in KX z5),PySem.W.nsMap_none_of_in KX z5 z6,PySem.W.tail_of_in KX z4⟩
structure Exc (K:PySem.W.Frag) (mg:Str->Option Value) (x:Str) (C:Addr):Prop where
  at_:mg x=some (.ref C)
  ex:PySem.W.excIn K C bmVE "ValueError.__new__" = true
def tRaise (C:Addr) (E:XK) (t:TA):TS:=fun _ σ H=>t σ H fun vs H1=>vs.length<=sizeLine∧E (.ref C) none H1
theorem ps_raise {P:Program} {w:World} {K:PySem.W.Frag} {mg:Str->Option Value} {base:Heap} {N:List Str} {qual:Str} {scope:Scope} {f:Addr} {cd:Value} {A:Around} {outer:List Env} {s₀:Shared} {H₀:Hp} {E:XK}
    {x:Str} {C:Addr} {np cpos pos:Pos} {e:Expr} {es:List Expr} {t:TA} (hC:Exc K mg x C) (hg:Gl (uy (CX1 P w) P w K mg base N qual scope f cd A outer s₀ H₀ E) x) (ha:PA (uy (CX1 P w) P w K mg base N qual scope f cd A outer s₀ H₀ E) (e :: es) t)
    (hdb:(x == ("__debug__":Str))=false:=by decide)
    (he:starEach (e :: es) (envOfC qual scope s₀.heap.objs.size f cd)=(false,eval e (envOfC qual scope s₀.heap.objs.size f cd)) :: starEach es (envOfC qual scope s₀.heap.objs.size f cd):=by rfl)
    (hpl:(backTo cpos (starEach es (envOfC qual scope s₀.heap.objs.size f cd))).any (·.1)=false:=by rfl) :
    PS (uy (CX1 P w) P w K mg base N qual scope f cd A outer s₀ H₀ E) (.Raise (some (.Call (.Name x np) (e :: es) [] cpos)) none pos) (tRaise C E t):=by
  intro pins s σ H D I h
  obtain ⟨tl,Nn,n1,n2,bs,b1,sn,sub,b2,col,dd,j0,j1,j2,j3,j5,mN,o1,o2,o3,o4⟩:=exc_obj I.ok.mod.kin hC.ex
  refine wpAny_Raise_call_subT (C:=C) (nm:=n1) (q:=n2) (N:=Nn) (bs:=bs) (bm:=tl) (hdct:=b1) (sn:=sn) (sub:=sub) (ab:=b2) (col:=col) (dd:=dd) (k0:=j0) (k1:=j1) (k2:=j2) (k3:=j3) (k5:=j5) PySem.F.excBase_ValueError
    (mN:=mN) (o4.hasType PySem.F.excBase_ValueError.hasBase) (I.ok.hd rfl) (by
      show (backTo cpos (starEach (e :: es) (envOfC qual scope s₀.heap.objs.size f cd))).any (·.1)=false
      rw [he]
      show (false || (backTo cpos (starEach es (envOfC qual scope s₀.heap.objs.size f cd))).any (·.1))=false
      rw [hpl]
      rfl) o3 (Yg I hg hC.at_ ⟨rfl,?_⟩ hdb)
  have hp:=ha cpos pins s σ H _ I h
  have hp2:wpAny (model P w) (A.deeper (envOfC qual scope s₀.heap.objs.size f cd)) (spliced (backTo cpos (starEach (e :: es) (envOfC qual scope s₀.heap.objs.size f cd)))) _ _ s:=hp
  show wpAny (model P w) (A.deeper (envOfC qual scope s₀.heap.objs.size f cd)) (evalArgs (.ref C) true (backTo cpos (starEach (e :: es) (envOfC qual scope s₀.heap.objs.size f cd))) []) _ _ s
  rw [he] at hp2 ⊢
  refine Calls.evalArgs_plain (thn hp2 fun us s2 z=>?_)
  obtain ⟨vs,H1,I1,rv,hz,q⟩:=z
  refine ⟨rfl,by rw [<- rv.length]; exact hz,I1.bk _ _ o1,o2.keeps I1.bk,o4.keeps I1.bk,fun h' ea hx=>cx_raise I1 hx q⟩
end L2

namespace L2
open PySem PySem.Spec PyProof.Rows
def excO (ea C:Addr):HO:=.ext fun h=>∃ o vs,h.get? ea=some o∧o.cls = .ref C∧o.data = .fields vs
structure ExcK (K:PySem.W.Frag) (C:Addr):Prop where
  ga:PySem.W.findIn K (.ref C) "__getattribute__" = some (some (.builtin "BaseException.__getattribute__"))
  cl:PySem.W.findIn K (.ref C) "__class__" = some (some (.builtin "object.__class__"))
  ob:PySem.W.mroIn K C (.type "object")=some true
  be:PySem.W.mroIn K C (.type "BaseException")=some true
  isc:(PySem.W.clsIn K C).isSome=true
  gh:PySem.W.findIn K (.ref C) "__getattr__" = some none
section
variable {prog:Program} {w:World} {A:Around} {E:Value->Shared->Prop} {K:PySem.W.Frag} {x C:Addr} {h:Heap} {g:Array GenState} {d:Drawn} {t:Nat} {os:OsState}
end
end L2
namespace L2
open PySem PySem.Spec PyProof.Rows
end L2

namespace L2
open PySem PySem.Spec PyProof.Rows
def Prot (X:Cx) (pins:List (Addr × Obj)) (H:Hp) (b:Addr):Prop :=
  b=X.env.locals∨(∃ x,X.env.cells.lookup x=some b)∨(∃ p ∈ X.pn ++ pins,p.1=b)∨(∃ o,H b=some o)∨∃ o,X.s₀.heap.get? b=some o∧b ∉ X.ex
structure Fly (X:Cx) (pins:List (Addr × Obj)) (σ:St) (H:Hp) (B:Heap) (ea C:Addr) (a0:Value) (s:Shared):Prop where
  inv:Inv X pins σ H s
  fl:Heap.FlyingW B X.stack ea (.ref C) a0 s.heap
  kn:∀ b,Prot X pins H b->b ∉ frs X.stack->∃ o,B.get? b=some o
section
variable {X:Cx} {pins:List (Addr × Obj)} {σ:St} {H:Hp} {s:Shared} {B h':Heap} {ea C a:Addr} {a0:Value} {o:HO}
theorem Inv.track (I:Inv X pins σ H s) (np:¬ Prot X pins H a) (new:yO X.prog X.w (upd H a o) s.heap a o):Inv X pins σ (upd H a o) s:=by
  have hn:H a=none:=by
    cases q:H a with
    | none=>rfl
    | some u=>exact absurd (.inr (.inr (.inr (.inl ⟨u,q⟩)))) np
  refine ⟨I.ok,I.os,I.bare,⟨I.base.keep,I.base.slot,fun b ob e n hx=>?_,I.base.there,fun b xs e=>?_,fun b ob xs e=>?_,fun b ps e=>?_⟩,I.loc,I.cell,?_,fun x c e=>?_,fun p hp=>?_,fun b ob e=>?_,I.len⟩
  · rw [jn (fun z:b=a=>np (.inr (.inr (.inr (.inr ⟨ob,z ▸ e,z ▸ hx⟩)))))]
    exact I.base.free b ob e n hx
  · have q:=I.base.tups b xs e
    rw [jn (jy q hn)]
    exact q
  · have q:=I.base.frzs b ob xs e
    rw [jn (jy q hn)]
    exact q
  · obtain ⟨more,q⟩:=I.base.tbls b ps e
    exact ⟨more,by rw [jn (jy q hn)]; exact q⟩
  · rw [jn (fun z=>np (.inl z.symm))]
    exact I.free
  · rw [jn (fun z:c=a=>np (.inr (.inl ⟨x,z ▸ e⟩)))]
    exact I.freeC x c e
  · obtain ⟨q1,q2,q3⟩:=I.pin p hp
    exact ⟨q1,by rw [jn (fun z:p.1=a=>np (.inr (.inr (.inl ⟨p,hp,z⟩))))]; exact q2,q3⟩
  · by_cases hb:b=a
    · subst hb
      rw [jv] at e
      cases e
      exact new
    · rw [jn hb] at e
      exact (I.hok b ob e).stay (fun _ _ _ z=>z) (fun c z=>by rw [jn (jy z hn)]; exact z) fun c xs z=>by rw [jn (jy z hn)]; exact z
end
section
variable {X:Cx} {pins pins2:List (Addr × Obj)} {σ:St} {H:Hp} {s:Shared} {T:St->Addr->Hp->Prop} {ea:Addr}
end
def vD (CX:CXT) (X:Cx) (E:St->XK):Prop:=∀ (pins:List (Addr × Obj)) (σ:St) (H:Hp) (s:Shared) (e:Value) (s':Shared),Inv X pins σ H s->CX X.stack H s (E σ) e s'->X.xe e s'
section
variable {X:Cx} {body suite:List Stmt} {b₀:Stmt} {n x:Str} {i:Nat} {LC:Addr} {np hpos pos:Pos} {tb:(St->Addr->Hp->Prop)->TS} {th:TS}
end
section
variable {X:Cx} {CX:CXT} {k:Nat} {f:Addr} {fd:FuncData} {ps:List Str} {sp:Sp} {dvs:List V} {ds:List Value} {E:St->XK} {x:Str} {p pos:Pos} {e:Expr} {es:List Expr} {t:TA}
end
end L2

namespace L2
open PySem PySem.Spec PyProof.Rows
structure CalX (P:Program) (w:World) (K:PySem.W.Frag) (mg:Str->Option Value) (base:Heap) (x:Str) (j:Nat) (ps:List Str) (sp:Sp):Prop where
  ex:∃ f fd,FnOk P w K mg base (CX1 P w) j f fd ps sp∧mg x=some (.ref f)∧PySem.W.keepIn K (.ref f)=true∧Binds K fd ps []
structure CalKX (P:Program) (w:World) (K:PySem.W.Frag) (mg:Str->Option Value) (base:Heap) (x:Str) (j:Nat) (ps ks:List Str) (sp:Sp):Prop where
  ex:∃ f fd,FnOk P w K mg base (CX1 P w) j f fd ps sp∧mg x=some (.ref f)∧PySem.W.keepIn K (.ref f)=true∧KBinds K fd ps ks g11 g11
def sor (a b:Sp):Sp:=fun vs H Q E=>a vs H Q E∨b vs H Q E
section
variable {P:Program} {w:World} {K:PySem.W.Frag} {mg:Str->Option Value} {base:Heap} {CX:CXT} {k:Nat} {f:Addr} {fd:FuncData} {ps ks:List Str} {sp sp':Sp}
theorem FnOk.up (F:FnOk P w K mg base CX0 k f fd ps sp):FnOk P w K mg base CX k f fd ps sp :=
  ⟨F.len,fun A outer s H args us vs Q E hr he hb hv hs=>codeAny_mono (F.run A outer s H args us vs Q E hr he hb hv hs) fun r s' hq=>by
    match r,hq with
    | .ok (.ret u),hq=>exact hq
    | .error e,hq=>exact False.elim hq⟩
variable {x qual:Str} {st:Stmt}
end
section
variable {X:Cx} {x:Str} {j:Nat} {ps ks:List Str} {sp:Sp} {p pos:Pos} {e:Expr} {es:List Expr} {t tk:TA} {kws:List Keyword} {E:XK} {ES:St->XK}
end
inductive Kn (H:Hp):V->String->Prop where
  | non:Kn H .non "NoneType"
  | bl (x:Bool):Kn H (.bl x) "bool"
  | int (i:Int):Kn H (.int i) "int"
  | str (x:Str):Kn H (.str x) "str"
  | lst {a:Addr} {xs:List V} (e:H a=some (.lst xs)):Kn H (.ref a) "list"
  | tup {a:Addr} {xs:List V} (e:H a=some (.tup xs)):Kn H (.ref a) "tuple"
  | dK {a:Addr} {kvs:List (Key × V)} (e:H a=some (.dK kvs)):Kn H (.ref a) "dict"
def xB:List String:=["NoneType","bool","int","str","list","tuple","dict"]
def sub (n m:String):Bool:=n == m || (n == "bool" && m == "int")
theorem kit_tab (K:PySem.W.Frag) {n m:String} (hn:n ∈ xB) (hm:m ∈ xB):PySem.W.kitOne K (.type n) (.type m)=some (sub n m):=by
  have tab:∀ n ∈ xB,∀ m ∈ xB,(Value.type n == Value.type m)=false->PySem.W.kitMeta m=true∧(fastBuiltinMro n).map (·.contains (.type m))=some (sub n m):=by decide +kernel
  have tab2:∀ n ∈ xB,∀ m ∈ xB,(Value.type n == Value.type m)=true->sub n m=true:=by decide +kernel
  unfold PySem.W.kitOne
  cases h:(Value.type n == Value.type m) with
  | true=>rw [if_pos rfl,tab2 n hn m hm h]
  | false =>
    obtain ⟨h1,h2⟩:=tab n hn m hm h
    rw [if_neg (by decide)]
    show (if PySem.W.kitMeta m=true then (fastBuiltinMro n).map (·.contains (.type m)) else none)=some (sub n m)
    rw [if_pos h1,h2]
section
variable {H H':Hp} {v:V} {n:String}
end
end L2

namespace L2
open PySem PySem.Spec PyProof.Rows
section
variable {X:Cx} {pos:Pos}
end
end L2
namespace L2
open PySem
end L2

namespace L2
open PySem PySem.Spec PyProof.Rows
structure FunD (K:PySem.W.Frag) (x qual:Str) (st:Stmt) (f:Addr) (fd:FuncData):Prop where
  ex:∃ (oc:Value) (od:Option Addr) (dV kV doc pm:Value) (an:Option Addr) (cdv ct:Value) (osl:Array (Option Value)),
    fd=PySem.W.fnOf x qual (jo st) (jk st) (jd st) dV kV doc pm an cdv ct∧K.lookup f=some ⟨oc,od,.func fd,osl⟩∧PySem.W.codeIn K cdv qual=true
  kp:PySem.W.keepIn K (.ref f)=true
section
variable {P:Program} {w:World} {K:PySem.W.Frag} {mg:Str->Option Value} {base:Heap} {x qual:Str} {st:Stmt} {f:Addr} {fd:FuncData} {N ps ks:List Str} {k:Nat} {sp sp':Sp}
end
end L2

namespace L2
open PySem PySem.Spec PyProof.Rows
section
variable {X:Cx} {CX:CXT} {k:Nat} {f C:Addr} {fd:FuncData} {ps ks:List Str} {sp:Sp} {E:XK} {x:Str} {p pos:Pos} {kws:List Keyword} {tk:TA} {g:List Value->List Value->List Value} {gV:List V->List V->List V}
end
structure CalN (P:Program) (w:World) (K:PySem.W.Frag) (mg:Str->Option Value) (base:Heap) (x:Str) (C:Addr) (j:Nat) (ps ks:List Str) (gV:List V->List V->List V) (sp:Sp):Prop where
  ex:∃ (f:Addr) (fd:FuncData) (g:List Value->List Value->List Value),FnOk P w K mg base CX0 j f fd ps sp∧Mk K C f∧KBinds K fd ps ks g gV∧mg x=some (.ref C)
structure CalM (P:Program) (w:World) (K:PySem.W.Frag) (mg:Str->Option Value) (base:Heap) (C:Addr) (m:Str) (j:Nat) (ps:List Str) (sp:Sp):Prop where
  ex:∃ (f:Addr) (fd:FuncData),FnOk P w K mg base CX0 j f fd ps sp∧Meth K C m f∧Cls K C∧Binds K fd ps []
section
variable {X:Cx} {C:Addr} {x m:Str} {j:Nat} {ps ks:List Str} {sp:Sp} {p pos apos:Pos} {o e:Expr} {es:List Expr} {ta:TE} {t tk:TA} {kws:List Keyword} {gV:List V->List V->List V}
end
def g12 {α:Type} (us ws:List α):List α:=match us,ws with
  | [s],[a,b]=>[s,a,b]
  | _,_=>[]
def g11d {α:Type} (d:α) (us ws:List α):List α:=match us,ws with
  | [s],[a]=>[s,a,d]
  | _,_=>[]
def g10d {α:Type} (d e:α) (us ws:List α):List α:=match us,ws with
  | [s],[]=>[s,d,e]
  | _,_=>[]
section
variable {K:PySem.W.Frag} {fd:FuncData} {p0 p1 p2:Str} {d e:V} {dv ev:Value}
end
end L2

namespace L2
open PySem PySem.Spec PyProof.Rows
structure CalNX (P:Program) (w:World) (K:PySem.W.Frag) (mg:Str->Option Value) (base:Heap) (x:Str) (C:Addr) (j:Nat) (ps ks:List Str) (gV:List V->List V->List V) (sp:Sp):Prop where
  ex:∃ (f:Addr) (fd:FuncData) (g:List Value->List Value->List Value),FnOk P w K mg base (CX1 P w) j f fd ps sp∧Mk K C f∧KBinds K fd ps ks g gV∧mg x=some (.ref C)
structure CalMX (P:Program) (w:World) (K:PySem.W.Frag) (mg:Str->Option Value) (base:Heap) (C:Addr) (m:Str) (j:Nat) (ps:List Str) (sp:Sp):Prop where
  ex:∃ (f:Addr) (fd:FuncData),FnOk P w K mg base (CX1 P w) j f fd ps sp∧Meth K C m f∧Cls K C∧Binds K fd ps []
section
variable {X:Cx} {C:Addr} {x m:Str} {j:Nat} {ps ks:List Str} {sp:Sp} {p pos apos:Pos} {o e:Expr} {es:List Expr} {ta:TE} {t tk:TA} {kws:List Keyword} {gV:List V->List V->List V} {E:XK}
end
end L2

namespace L2
open PySem PySem.Spec PyProof.Rows
structure RA (X:Cx) (es:List Expr) (t:TA):Prop where
  h:PA X es t
structure RE (X:Cx) (e:Expr) (t:TE):Prop where
  h:PE X e t
section
variable {X:Cx} {e:Expr} {es:List Expr} {te:TE} {t:TA} {pos:Pos}
end
end L2

namespace L2
open PySem PySem.Spec PyProof.Rows
theorem Jn.np {X:Cx} {pins:List (Addr × Obj)} {H:Hp} {b:Addr} (f:Jn X pins H b):¬ Prot X pins H b:=by
  rintro (z | ⟨x,z⟩ | ⟨p,hp,z⟩ | ⟨o,z⟩ | ⟨o,z,hx⟩)
  · exact f.2.1 z
  · exact f.2.2.2.2.1 x b z rfl
  · exact f.2.2.2.2.2 p hp z
  · rw [f.1] at z
    cases z
  · rcases f.2.2.2.1 with y | y
    · exact hx y
    · exact Nat.lt_irrefl _ (Nat.lt_of_lt_of_le (Heap.lt_size z) y)
section
variable {X:Cx} {elts:List Expr} {x1:Nat} {tpos:Pos}
end
end L2
namespace L2
open PySem PySem.Spec PyProof.Rows
def tTru (K:PySem.W.Frag) (t:TE):TT:=fun σ H Q=>t σ H fun x H1=>∃ k,TruV K x H1 k∧Q k H1
theorem pt_tru {X:Cx} {e:Expr} {t:TE} (h:PE X e t) (he:∀ whole,isTrue e X.env whole=(do let v <- whole; standAt e.pos; holding [v] (truthy v)):=by intro _; rfl):PT X e (tTru X.K t):=by
  intro pins s σ H Q I hw
  refine isTrue_plain (thn (h pins s σ H _ I hw) fun v s1 hQQ=>?_) (he _)
  obtain ⟨x,H1,I1,r1,q1⟩:=hQQ
  exact tru_ok pins s1 σ H1 x v _ I1 r1 q1
end L2

namespace L2
open PySem PySem.Spec PyProof.Rows

section
variable {κ:Type} [DecidableEq κ]
def Xn (kvs:List (κ × V)) (k:κ):Option V:=(kvs.find? fun kv=>decide (kv.1=k)).map (·.2)
def JW (kvs:List (κ × V)) (k:κ) (v:V):List (κ × V) :=
  if (kvs.any fun kv=>decide (kv.1=k))=true then kvs.map (fun kv=>if kv.1=k then (kv.1,v) else kv) else kvs ++ [(k,v)]
def dropK (kvs:List (κ × V)) (k:κ):List (κ × V):=kvs.filter fun kv=>decide (kv.1≠k)

theorem JN {p:κ × V} {r:List (κ × V)} {k:κ} (e:p.1=k):Xn (p :: r) k=some p.2:=by simp [Xn,List.find?_cons,e]
theorem JO {p:κ × V} {r:List (κ × V)} {k:κ} (e:¬ p.1=k):Xn (p :: r) k=Xn r k:=by simp [Xn,List.find?_cons,e]
theorem valV_any (k:κ):∀ kvs:List (κ × V),(kvs.any fun kv=>decide (kv.1=k))=(Xn kvs k).isSome
  | []=>rfl
  | p :: r=>by
    rw [List.any_cons]
    by_cases e:p.1=k
    · simp only [JN e,decide_eq_true e,Bool.true_or,Option.isSome_some]
    · rw [JO e,decide_eq_false e,Bool.false_or]; exact valV_any k r
theorem YW (kvs:List (κ × V)) (k:κ) (v:V):(JW kvs k v).length<=kvs.length + 1:=by
  unfold JW
  split
  · rw [List.length_map]; omega
  · rw [List.length_append,List.length_cons,List.length_nil]; omega
theorem Jm.isSome_eq {o:Option V} {u:Option Value} (r:Jm o u):o.isSome=u.isSome:=by
  cases o with
  | none=>cases u with
    | none=>rfl
    | some _=>exact (show False from r).elim
  | some _=>cases u with
    | none=>exact (show False from r).elim
    | some _=>rfl
theorem Jm.getD {o:Option V} {u:Option Value} {d:V} {d':Value} (r:Jm o u) (rd:yn d d'):yn (o.getD d) (u.getD d'):=by
  cases o with
  | none=>cases u with
    | none=>exact rd
    | some _=>exact (show False from r).elim
  | some _=>cases u with
    | none=>exact (show False from r).elim
    | some _=>exact r

theorem KV.val {kvs:List (κ × V)} {vs:List (κ × Value)} (r:KV kvs vs) (k:κ):Jm (Xn kvs k) (valueAt vs k):=by
  unfold KV at r
  induction r with
  | nil=>exact True.intro
  | @cons p q ps qs h t ih =>
    obtain ⟨h1,h2⟩:=h
    by_cases e:p.1=k
    · have e':q.1=k:=h1.symm.trans e
      have b:valueAt (q :: qs) k=some q.2:=by simp [valueAt,List.find?_cons,e']
      rw [JN e,b]; exact h2
    · have e':¬ q.1=k:=fun z=>e (h1.trans z)
      have b:valueAt (q :: qs) k=valueAt qs k:=by simp [valueAt,List.find?_cons,e']
      rw [JO e,b]; exact ih
theorem KV.any {kvs:List (κ × V)} {vs:List (κ × Value)} (r:KV kvs vs) (k:κ):(kvs.any fun kv=>decide (kv.1=k))=vs.any fun kv=>decide (kv.1=k):=by
  unfold KV at r
  induction r with
  | nil=>rfl
  | cons h t ih=>rw [List.any_cons,List.any_cons,ih,h.1]
theorem KV.repl {kvs:List (κ × V)} {vs:List (κ × Value)} (r:KV kvs vs) (k:κ) {y:V} {u:Value} (ry:yn y u) :
    KV (kvs.map fun kv=>if kv.1=k then (kv.1,y) else kv) (vs.map fun kv=>if kv.1=k then (kv.1,u) else kv):=by
  unfold KV at r ⊢
  induction r with
  | nil=>exact .nil
  | @cons p q ps qs h t ih =>
    rw [List.map_cons,List.map_cons]
    refine .cons ?_ ih
    obtain ⟨h1,h2⟩:=h
    by_cases e:p.1=k
    · rw [if_pos e,if_pos (h1.symm.trans e)]; exact ⟨h1,ry⟩
    · rw [if_neg e,if_neg (fun z=>e (h1.trans z))]; exact ⟨h1,h2⟩
theorem KV.put {kvs:List (κ × V)} {vs:List (κ × Value)} (r:KV kvs vs) (k:κ) {y:V} {u:Value} (ry:yn y u):KV (JW kvs k y) (stored vs k u):=by
  unfold JW stored
  rw [r.any k]
  by_cases e:(vs.any fun kv=>decide (kv.1=k))=true
  · rw [if_pos e,if_pos e]; exact r.repl k ry
  · rw [if_neg e,if_neg e]; exact Paired.snoc r ⟨rfl,ry⟩
theorem KV.length {kvs:List (κ × V)} {vs:List (κ × Value)} (r:KV kvs vs):kvs.length=vs.length:=Paired.length r
end


theorem kV_is {P:Program} {w:World} {k:Key} {u:Value} (r:yn (kV k) u):(yM P w).is k u=true:=by
  cases k with
  | inl i=>obtain ⟨t,e⟩:=(show ∃ t,u=Value.int i t from r); subst e; exact mixKind_int P w i t
  | inr x=>obtain ⟨t,e⟩:=(show ∃ t,u=Value.str x t from r); subst e; exact mixKind_str P w x t
theorem items_are {P:Program} {w:World}:∀ {ks:List Key} {us:List Value},ym (ks.map kV) us->ItemsAre (yM P w) ks us
  | [],_,r=>by rw [List.map_nil] at r; cases r; exact .nil
  | k :: ks,_,r=>by
    rw [List.map_cons] at r
    cases r with
    | cons h t=>exact .cons (kV_is h) (items_are t)

abbrev KT (H:Hp):List (List Key × V)->List (List Key × Addr × Value)->Prop:=Paired fun p q=>p.1=q.1∧H q.2.1=some (.tup (p.1.map kV))∧yn p.2 q.2.2
theorem KT.val {H:Hp} {kvs:List (List Key × V)} {xs:List (List Key × Addr × Value)} (r:KT H kvs xs) (k:List Key):Jm (Xn kvs k) ((atKey xs k).map (·.2)):=by
  induction r with
  | nil=>exact True.intro
  | @cons p q ps qs h t ih =>
    obtain ⟨h1,_,h2⟩:=h
    by_cases e:p.1=k
    · have e':q.1=k:=h1.symm.trans e
      have b:atKey (q :: qs) k=some q.2:=by simp [atKey,List.find?_cons,e']
      rw [JN e,b]; exact h2
    · have e':¬ q.1=k:=fun z=>e (h1.trans z)
      have b:atKey (q :: qs) k=atKey qs k:=by simp [atKey,List.find?_cons,e']
      rw [JO e,b]; exact ih
theorem KT.repl {H:Hp} {kvs:List (List Key × V)} {xs:List (List Key × Addr × Value)} (r:KT H kvs xs) (k:List Key) {y:V} {u:Value} (ry:yn y u) :
    KT H (kvs.map fun kv=>if kv.1=k then (kv.1,y) else kv) (xs.map (putAt k u)):=by
  induction r with
  | nil=>exact .nil
  | @cons p q ps qs h t ih =>
    rw [List.map_cons,List.map_cons]
    refine .cons ?_ ih
    obtain ⟨h1,h2,h3⟩:=h
    unfold putAt
    by_cases e:p.1=k
    · rw [if_pos e,if_pos (h1.symm.trans e)]; exact ⟨h1,h2,ry⟩
    · rw [if_neg e,if_neg (fun z=>e (h1.trans z))]; exact ⟨h1,h2,h3⟩
theorem KT.put {H:Hp} {kvs:List (List Key × V)} {xs:List (List Key × Addr × Value)} (r:KT H kvs xs) (k:List Key) {b:Addr} {y:V} {u:Value} (hb:H b=some (.tup (k.map kV))) (ry:yn y u) :
    KT H (JW kvs k y) (storedH xs k b u):=by
  have e:(kvs.any fun kv=>decide (kv.1=k))=(atKey xs k).isSome:=by
    rw [valV_any,(r.val k).isSome_eq,Option.isSome_map]
  unfold JW storedH
  rw [e]
  by_cases q:(atKey xs k).isSome=true
  · rw [if_pos q,if_pos q]; exact r.repl k ry
  · rw [if_neg q,if_neg q]; exact Paired.snoc r ⟨rfl,hb,ry⟩
theorem KT.keeps {H H':Hp} {kvs:List (List Key × V)} {xs:List (List Key × Addr × Value)} (r:KT H kvs xs) (ht:∀ b ys,H b=some (.tup ys)->H' b=some (.tup ys)):KT H' kvs xs :=
  Paired.mapP r fun _ _ z=>⟨z.1,ht _ _ z.2.1,z.2.2⟩

section
variable {P:Program} {w:World} {H:Hp} {h:Heap} {a:Addr}
theorem rd_of {u:HO} (ok:HOk P w H h) (e:Rd H a u):yO P w H h a u:=e.ok ok
theorem dk_rd {kvs:List (Key × V)} (ok:HOk P w H h) (e:Rd H a (.dK kvs)):kvs.length<=sizeLine∧(a == sysModules)=false∧∃ vs,KV kvs vs∧h.DictOf (yM P w) a vs :=
  show yO P w H h a (.dK kvs) from rd_of ok e
theorem dk_of {kvs:List (Key × V)} (ok:HOk P w H h) (e:H a=some (.dK kvs)):kvs.length<=sizeLine∧(a == sysModules)=false∧∃ vs,KV kvs vs∧h.DictOf (yM P w) a vs:=dk_rd ok (.inl e)
theorem key_of {ks:List Key} (ok:HOk P w H h) (e:H a=some (.tup (ks.map kV))):(tupleKind (yM P w)).is h ks a:=by
  obtain ⟨_,its,r,o,h1,h2,n,h3⟩:=(show yO P w H h a (.tup (ks.map kV)) from ok a _ e)
  exact ⟨o,its.toArray,n,h1,h2,h3,by simpa using items_are r⟩
theorem dt_rd {kvs:List (List Key × V)} (ok:HOk P w H h) (e:Rd H a (.dT kvs)):kvs.length<=sizeLine∧(a == sysModules)=false ∧
    ∃ xs,KT H kvs xs∧h.DictOfH (tupleKind (yM P w)) a xs:=by
  obtain ⟨z,y,xs,r,o,es,ep,h1,h2,h3,h4,h5⟩:=(show yO P w H h a (.dT kvs) from rd_of ok e)
  refine ⟨z,y,xs,r,o,es,ep,h1,h2,h3,h4,fun x hx=>?_,h5⟩
  have all:∀ {l:List (List Key × V)} {m:List (List Key × Addr × Value)},KT H l m->∀ x ∈ m,(tupleKind (yM P w)).is h x.1 x.2.1:=by
    intro l m q
    induction q with
    | nil=>intro x hx; exact nomatch hx
    | @cons p q ps qs hq t ih =>
      intro x hx
      rcases List.mem_cons.mp hx with e | hx
      · subst e
        exact key_of ok (by rw [<- hq.1]; exact hq.2.1)
      · exact ih x hx
  exact all r x hx
theorem dt_of {kvs:List (List Key × V)} (ok:HOk P w H h) (e:H a=some (.dT kvs)):kvs.length<=sizeLine∧(a == sysModules)=false ∧
    ∃ xs,KT H kvs xs∧h.DictOfH (tupleKind (yM P w)) a xs:=dt_rd ok (.inl e)
end

def DGet (H:Hp) (a:Addr) (y:V) (r:Option V):Prop :=
  (∃ kvs k,Rd H a (.dK kvs)∧y=kV k∧r=Xn kvs k)∨∃ kvs k b,Rd H a (.dT kvs)∧y = .ref b∧H b=some (.tup (k.map kV))∧r=Xn kvs k
def DPut (H:Hp) (a:Addr) (y v:V) (H':Hp):Prop :=
  (∃ kvs k,H a=some (.dK kvs)∧y=kV k∧kvs.length < sizeLine∧H'=upd H a (.dK (JW kvs k v))) ∨
  ∃ kvs k b,H a=some (.dT kvs)∧y = .ref b∧H b=some (.tup (k.map kV))∧kvs.length < sizeLine∧H'=upd H a (.dT (JW kvs k v))
theorem DPut.t {H:Hp} {a b:Addr} {kvs:List (List Key × V)} {k:List Key} {v:V} (e:H a=some (.dT kvs)) (eb:H b=some (.tup (k.map kV))) (hl:kvs.length < sizeLine) :
    DPut H a (.ref b) v (upd H a (.dT (JW kvs k v))):=.inr ⟨kvs,k,b,e,rfl,eb,hl,rfl⟩


section
variable {X:Cx} {pins:List (Addr × Obj)} {σ:St} {H:Hp} {s:Shared} {a:Addr} {y v:V} {u r:Value} {o:Option V} {A:Around} {E:Value->Shared->Prop}

theorem Inv.big (I:Inv X pins σ H s):sysModules < s.heap.objs.size:=by
  have h:mainGlobals < s.heap.objs.size:=(I.mod.glob.keeps I.bk).lt
  exact Nat.lt_trans (by decide) h

theorem d_write {h':Heap} {t':Nat} {ob:HO} (I:Inv X pins σ H s) (mu:Mut (H a)) (hs:Heap.SameBut a s.heap h') (he:∃ q,h'.get? a=some q) (new:yO X.prog X.w (upd H a ob) h' a ob) :
    Inv X pins σ (upd H a ob) { s with heap:=h',toks:=t' } :=
  I.write (x:=a) (e:=a) mu (.inl rfl) (fun b q hb z=>(hs.2 b hb).trans z) he new
theorem dk_new {P:Program} {w:World} {H':Hp} {h':Heap} {kvs:List (Key × V)} {vs:List (Key × Value)} (z:kvs.length<=sizeLine) (hd:(a == sysModules)=false) (rel:KV kvs vs) (dd:h'.DictOf (yM P w) a vs) :
    yO P w H' h' a (.dK kvs):=⟨z,hd,vs,rel,dd⟩
theorem d_setItem {H':Hp} {Q:Unit->Shared->Prop} (hu:A.units + 1 < cLine) (I:Inv X pins σ H s) (g:DPut H a y v H') (ry:yn y u) (rv:yn v r) (h:∀ s',Inv X pins σ H' s'->Q () s') :
    wpAny (model X.prog X.w) A (setItem (.ref a) u r) Q E s:=by
  rcases g with ⟨kvs,k,e,ey,l,eH⟩ | ⟨kvs,k,b,e,ey,eb,l,eH⟩
  · subst ey eH
    obtain ⟨z,hd,vs,rel,dd⟩:=dk_of I.hok e
    have hz:vs.length<=sizeLine:=by rw [<- rel.length]; exact z
    have hl:(JW kvs k v).length<=sizeLine:=by have:=YW kvs k v; omega
    refine wpAny_setItem_pairs (hsz:=hz) (kV_is ry) dd fun h' dd' hs=>h _ ?_
    have he:∃ q,h'.get? a=some q:=let ⟨q,_,_,hq,_⟩:=dd'; ⟨q,hq⟩
    exact d_write I (by rw [e]; exact True.intro) hs he (dk_new hl hd (rel.put k rv) dd')
  · subst ey eH
    cases (show u=Value.ref b from ry)
    obtain ⟨z,hd,xs,rel,dd⟩:=dt_of I.hok e
    have hz:xs.length<=sizeLine:=by rw [<- Paired.length rel]; exact z
    have hl:(JW kvs k v).length<=sizeLine:=by have:=YW kvs k v; omega
    refine wpAny_setItem_heap (hsz:=hz) (tupleKind_room_in1 hu) (key_of I.hok eb) dd fun h' dd' hs=>h _ ?_
    obtain ⟨q,es,ep,hq,h2,h3,h4,_,h5⟩:=dd'
    refine d_write I (by rw [e]; exact True.intro) hs ⟨q,hq⟩ ⟨hl,hd,_,(rel.put k eb rv).keeps fun c ys ec=>?_,q,es,ep,hq,h2,h3,h4,h5⟩
    rw [jn (ne_of ec e (fun z=>nomatch z))]
    exact ec
end

section
variable {X:Cx} {pins:List (Addr × Obj)} {σ:St} {H:Hp} {s:Shared} {a:Addr} {kvs:List (Key × V)} {k:Key} {u:Value} {A:Around} {E:Value->Shared->Prop}
end


def sDPut (td ty tv:TE):TS:=fun D σ H=>tv σ H fun v H1=>td σ H1 fun x H2=>ty σ H2 fun y H3=>∃ a H4,x = .ref a∧DPut H3 a y v H4∧D.nx σ H4
section
variable {X:Cx} {o i e value:Expr} {pos pos' tpos:Pos} {td ty tv:TE}
theorem ps_dput (hu:X.A.units + 1 < cLine) (ho:PE X o td) (hi:PE X i ty) (hv:PE X value tv) (hs:swapsWith value (some (.Subscript o i pos')) pos.line X.env=pure false) :
    PS X (.Assign [.Subscript o i pos'] value pos) (sDPut td ty tv):=by
  intro pins s σ H D I h
  refine wpAny_Assign_Subscript (thn (hv pins s σ H _ I h) fun r s1 ⟨v,H1,I1,rv,q1⟩=>thn (ho pins s1 σ H1 _ I1 q1) fun u s2 ⟨x,H2,I2,rx,q2⟩=>thn (hi pins s2 σ H2 _ I2 q2) fun iv s3 hQQ=>?_) hs
  obtain ⟨y,H3,I3,ry,a,H4,ex,g,q3⟩:=hQQ
  subst ex
  obtain rfl:u=Value.ref a:=rx
  exact d_setItem hu I3 g ry rv fun s4 I4=>⟨σ,H4,I4,q3⟩
end


theorem dt_empty {P:Program} {w:World} {H:Hp} (h:Heap) (hb:sysModules < h.objs.size):yO P w H (h.push { cls:=.type "dict",data:=.dict #[] }) h.objs.size (.dT []) :=
  ⟨Nat.zero_le _,beq_eq_false_iff_ne.mpr (Ne.symm (Nat.ne_of_lt hb)),[],.nil,_,#[],0,Heap.get?_push_size _ rfl,⟨rfl,rfl,rfl⟩,rfl,rfl,List.nodup_nil⟩
def tDNewT:TE:=fun _ H Q=>∀ p,H p=none->Q (.ref p) (upd H p (.dT []))
section
variable {X:Cx} {pos:Pos}
theorem pe_dnewT:PE X (.Dict [] [] pos) tDNewT:=fun pins s σ H Q I h =>
  wpAny_Dict_empty ⟨.ref s.heap.objs.size,_,I.laid (a:=s.heap.objs.size) (o:=.dT []) (t':=s.toks) (fun _ _ q=>Heap.get?_push_of_some _ q) (Nat.le_refl _) (dt_empty s.heap I.big),rfl,h _ (I.hok.fresh (Nat.le_refl _))⟩
end

structure M1 (X:Cx) (o:Expr) (m:Str) (apos:Pos) (e:Expr) (cpos:Pos):Prop where
  base:attributeBase o m X.env (eval o X.env)=eval o X.env
  few:((backTo cpos (starEach [e] X.env)).all (fun x=>!x.1) && (backToKw cpos (keywordEach [] X.env)).all (fun x=>x.1.isSome)
    && decide (([e]:List Expr).length + ([]:List Keyword).length + (if ([]:List Keyword).isEmpty then 0 else 1) < 30))=true
  line:(apos.endLine == cpos.line)=true
  trees:backTo cpos (starEach [e] X.env)=[(false,eval e X.env)]
structure M2 (X:Cx) (o:Expr) (m:Str) (apos:Pos) (e f:Expr) (cpos:Pos):Prop where
  base:attributeBase o m X.env (eval o X.env)=eval o X.env
  few:((backTo cpos (starEach [e,f] X.env)).all (fun x=>!x.1) && (backToKw cpos (keywordEach [] X.env)).all (fun x=>x.1.isSome)
    && decide (([e,f]:List Expr).length + ([]:List Keyword).length + (if ([]:List Keyword).isEmpty then 0 else 1) < 30))=true
  line:(apos.endLine == cpos.line)=true
  trees:backTo cpos (starEach [e,f] X.env)=[(false,eval e X.env),(false,eval f X.env)]

def IsD (H:Hp) (a:Addr):Prop:=(∃ kvs,Rd H a (.dK kvs))∨∃ kvs,Rd H a (.dT kvs)
theorem isD_at {X:Cx} {pins:List (Addr × Obj)} {σ:St} {H:Hp} {s:Shared} {a:Addr} (I:Inv X pins σ H s) (d:IsD H a) :
    s.TypeIs (.ref a) "dict"∧(∀ b,Value.ref a = .ref b->∃ ob,s.heap.get? b=some ob∧ob.dict=none)∧(a == sysModules)=false:=by
  rcases d with ⟨kvs,e⟩ | ⟨kvs,e⟩
  · obtain ⟨_,hd,vs,_,dd⟩:=dk_rd I.hok e
    refine ⟨dd.typeIs,fun b q=>?_,hd⟩
    cases q
    obtain ⟨ob,_,_,h1,h2,_⟩:=dd
    exact ⟨ob,h1,h2.2.1⟩
  · obtain ⟨_,hd,xs,_,dd⟩:=dt_rd I.hok e
    refine ⟨dd.typeIs,fun b q=>?_,hd⟩
    cases q
    obtain ⟨ob,_,_,h1,h2,_⟩:=dd
    exact ⟨ob,h1,h2.2.1⟩

section
variable {X:Cx} {pins:List (Addr × Obj)} {σ:St} {H:Hp} {s:Shared} {a:Addr} {y d:V} {u r:Value} {o:Option V} {A:Around} {E:Value->Shared->Prop}
theorem d_get2 {Q:Value->Shared->Prop} (hu:A.units + 1 < cLine) (I:Inv X pins σ H s) (g:DGet H a y o) (ry:yn y u) (rd:yn d r) (h:∀ w' s',Inv X pins σ H s'->yn (o.getD d) w'->Q w' s') :
    wpAny (model X.prog X.w) A (call (.builtin "dict.get") [.ref a,u,r]) Q E s:=by
  rcases g with ⟨kvs,k,e,ey,l⟩ | ⟨kvs,k,b,e,ey,eb,l⟩
  · subst ey
    obtain ⟨z,hd,vs,rel,dd⟩:=dk_rd I.hok e
    refine call_meetsIn PySem.F.slot_dict_get dd.typeIs PySem.F.entry_dict_get (PySem.F.args_dict_get_3 _ _ _) (meets_dict_get_default (yM X.prog X.w) a (kV_is ry) hd r) ⟨_,dd.mapOf,h _ _ (I.tok _) ?_⟩
    rw [l]
    exact (rel.val k).getD rd
  · subst ey
    cases (show u=Value.ref b from ry)
    obtain ⟨z,hd,xs,rel,dd⟩:=dt_rd I.hok e
    refine call_meetsIn PySem.F.slot_dict_get dd.typeIs PySem.F.entry_dict_get (PySem.F.args_dict_get_3 _ _ _) (meetsH_dict_get_default (tupleKind (yM X.prog X.w)) a b hd r) ⟨tupleKind_room_in1 hu,k,xs,key_of I.hok eb,dd,h _ _ (I.tok _) ?_⟩
    rw [l]
    exact (rel.val k).getD rd
end

def tDGet2 (td ty tx:TE):TE:=fun σ H Q=>td σ H fun x H1=>∃ a,x = .ref a∧IsD H1 a∧ty σ H1 fun y H2=>tx σ H2 fun z H3=>∃ o,DGet H3 a y o∧Q (o.getD z) H3
section
variable {X:Cx} {o e f:Expr} {apos cpos:Pos} {td ty tx:TE}
theorem pe_dget2 (hu:X.A.units + 1 < cLine) (ho:PE X o td) (he:PE X e ty) (hf:PE X f tx) (m:M2 X o "get" apos e f cpos):PE X (.Call (.Attribute o "get" apos) [e,f] [] cpos) (tDGet2 td ty tx):=by
  intro pins s σ H Q I h
  refine wpAny_Call_method m.base m.few m.line PySem.F.plainAttrs_dict PySem.F.slot_dict_get PySem.F.type_dict_get (thn (ho pins s σ H _ I h) fun u s1 hQQ=>?_)
  obtain ⟨x,H1,I1,rx,a,ex,d,q1⟩:=hQQ
  subst ex
  obtain rfl:u=Value.ref a:=rx
  obtain ⟨t1,t2,_⟩:=isD_at I1 d
  refine ⟨t1,t2,?_⟩
  rw [m.trees]
  refine Calls.callWith_builtin rfl (Calls.evalArgs_plain (Calls.spliced_cons (thn (he pins s1 σ H1 _ I1 q1) fun iv s2 ⟨y,H2,I2,ry,q2⟩ =>
    Calls.spliced_cons (thn (hf pins s2 σ H2 _ I2 q2) fun fv s3 ⟨z,H3,I3,rz,ov,g,q3⟩=>Calls.spliced_nil ?_))))
  exact d_get2 hu I3 g ry rz fun w' s4 I4 rw'=>⟨_,H3,I4,rw',q3⟩
end

section
variable {X:Cx} {pins:List (Addr × Obj)} {σ:St} {H:Hp} {s:Shared} {a:Addr} {kvs:List (Key × V)} {A:Around} {E:Value->Shared->Prop}
end


section
variable {X:Cx} {pins:List (Addr × Obj)} {σ:St} {H:Hp} {s:Shared} {a:Addr} {y:V} {u:Value} {A:Around} {E:Value->Shared->Prop}
end
end L2


namespace L2
open PySem PySem.Spec PyProof.Rows
theorem Inv.turnedL {X:Cx} {pins:List (Addr × Obj)} {σ:St} {H:Hp} {s:Shared} {h':Heap} {t':Nat} {ch:List Addr} (I:Inv X pins σ H s) (k:∀ b o,b ∉ ch->s.heap.get? b=some o->h'.get? b=some o) (f:∀ b ∈ ch,Jn X pins H b) :
    Inv X pins σ H { s with heap:=h',toks:=t' }:=by
  have ne:∀ b u c,H b=some u->c ∈ ch->b≠c:=fun b u c q hc z=>by rw [z,(f c hc).1] at q; cases q
  refine I.step (g':=s.gens) (d':=s.drawn) (ch:=ch) (fun b hb=>?_) (fun b o _ _ hc q _=>k b o hc q) (fun b o _ _ hc q _=>⟨o.slots,k b o hc q⟩) (fun _ _ _ _ n=>n)
    (fun b o hc q=>⟨o,k b o hc q⟩) (fun _ _ q=>q) (fun _ _ _ q=>q) (fun b ps q=>⟨#[],by rw [q]; simp⟩) (fun m hm=>?_) (fun b u q=>?_) I.bare
  · exact ⟨(f b hb).2.2.2.1,(f b hb).2.1,(f b hb).2.2.2.2.1,(f b hb).2.2.2.2.2⟩
  · obtain ⟨o,es,ep,ho,r⟩:=hm
    exact ⟨o,es,ep,k _ o (fun hc=>(f _ hc).2.1 rfl) ho,r⟩
  · refine (I.hok b u q).stay (fun c v hc z=>k c v (fun hm=>?_) z) (fun _ z=>z) fun _ _ z=>z
    rcases hc with y | y
    · exact ne b u c q hm y.symm
    · exact ne c _ c y hm rfl
def Itz (K:PySem.W.Frag) (a b:Addr):It :=
  ⟨fun i H=>∃ xs ys x y,SqL K H a xs∧SqL K H b ys∧xs[i]? = some x∧ys[i]? = some y,fun i H x H'=>∃ p u v,x = .ref p∧H p=none∧(∀ xs,SqL K H a xs->xs[i]? = some u)∧(∀ ys,SqL K H b ys->ys[i]? = some v)∧H'=upd H p (.tup [u,v]),
    fun i H=>∃ xs ys,SqL K H a xs∧SqL K H b ys∧(xs.length<=i∨ys.length<=i)⟩
theorem turn_zip {P:Program} {w:World} {K:PySem.W.Frag} {elts:List Expr} {x1:Nat} {pos:Pos} (a b z TI TO i1 i2:Addr) (D:ZipApart z TI TO i1 i2 a b) :
    Turn P w K (.Tuple elts x1 pos) (Itz K a b) [z,TO,i1,i2,TI] z (fun i h=>IsZip h z TI TO .none∧IsPair h TI (.ref i1) (.ref i2)∧(∃ u v,IsPair h TO u v)∧h.IsListIter i1 a i∧h.IsListIter i2 b i) where
  mem:=by simp
  obj:=fun i h st c hc=>by
    obtain ⟨hz,ht,⟨u,v,ho⟩,⟨o1,q1,_,d1⟩,⟨o2,q2,_,d2⟩⟩:=st
    simp only [List.mem_cons,List.mem_nil_iff,or_false] at hc
    rcases hc with rfl | rfl | rfl | rfl | rfl
    · exact ⟨_,hz,fun v e=>by have e:Data.fields _=Data.cell v:=e; cases e⟩
    · exact ⟨_,ho,fun v e=>by have e:Data.seq _=Data.cell v:=e; cases e⟩
    · exact ⟨o1,q1,fun v e=>by rw [d1] at e; cases e⟩
    · exact ⟨o2,q2,fun v e=>by rw [d2] at e; cases e⟩
    · exact ⟨_,ht,fun v e=>by have e:Data.seq _=Data.cell v:=e; cases e⟩
  keep:=fun i h h' st k=>by
    obtain ⟨hz,ht,⟨u,v,ho⟩,q1,q2⟩:=st
    exact ⟨k z (by simp) _ hz,k TI (by simp) _ ht,⟨u,v,k TO (by simp) _ ho⟩,q1.at fun o q=>k i1 (by simp) o q,q2.at fun o q=>k i2 (by simp) o q⟩
  item:=by
    intro X hP hw hK hc i pins s σ H E I hf st hg
    subst hP hw hK
    obtain ⟨hz,ht,⟨u0,v0,ho⟩,q1,q2⟩:=st
    obtain ⟨xs,ys,x,y,ha,hb,hx,hy⟩:=hg
    obtain ⟨i1s,r1,p1,_⟩:=I.list ha
    obtain ⟨i2s,r2,p2,_⟩:=I.list hb
    obtain ⟨u,hu,ru⟩:=r1.get hx
    obtain ⟨v,hv,rv⟩:=r2.get hy
    refine wpAny_pyNext_zip_item D hz ht ho q1 q2 p1.isList p2.isList (x:=u) (y:=v) (by simpa using hu) (by simpa using hv) fun h' z1 o1 j1 j2 tup sz keep=>?_
    refine ⟨_,rfl,wpAny_letOwnedTupleGo_zip (s:={ s with heap:=h' }) z1 fun h2 z2 sb=>?_⟩
    have fz:=hf z (by simp)
    have lt:∀ c,(∃ o,s.heap.get? c=some o)->s.heap.objs.size≠c:=fun c hc e=>by
      obtain ⟨o,ho⟩:=hc
      have:=Heap.lt_size ho
      rw [<- e] at this
      exact Nat.lt_irrefl _ this
    have n1:s.heap.objs.size≠z:=lt _ ⟨_,hz⟩
    have keep2:∀ c o,c ∉ [z,TO,i1,i2]->s.heap.get? c=some o->h2.get? c=some o:=fun c o hn q=>by
      simp only [List.mem_cons,List.mem_nil_iff,or_false,not_or] at hn
      exact (sb.2 c hn.1).trans (keep c o hn.1 hn.2.1 hn.2.2.1 hn.2.2.2 q)
    have I1:Inv X pins σ H { s with heap:=h2 }:=I.turnedL (t':=s.toks) (ch:=[z,TO,i1,i2]) keep2 fun c hc=>hf c (by
      simp only [List.mem_cons,List.mem_nil_iff,or_false] at hc ⊢
      rcases hc with h | h | h | h
      · exact .inl h
      · exact .inr (.inl h)
      · exact .inr (.inr (.inl h))
      · exact .inr (.inr (.inr (.inl h))))
    have fresh:H s.heap.objs.size=none:=I.hok.fresh (Nat.le_refl _)
    have fp:=I.fpOk (Nat.le_refl _) fresh
    have tup2:h2.get? s.heap.objs.size=some { cls:=.type "tuple",data:=.seq #[u,v] }:=(sb.2 _ n1).trans tup
    refine ⟨.ref s.heap.objs.size,upd H s.heap.objs.size (.tup [x,y]),I1.track fp.np ⟨by show 2<=sizeLine; decide,[u,v],.cons ru (.cons rv .nil),⟨_,tup2,rfl,_,rfl⟩⟩,rfl,⟨_,x,y,rfl,fresh,fun zs h=>by rw [I.list_inj h ha]; exact hx,fun zs h=>by rw [I.list_inj h hb]; exact hy,rfl⟩,
      ⟨z2,(sb.2 _ D.TIz).trans (keep _ _ D.TIz D.TITO D.TIi1 D.TIi2 ht),⟨u,v,(sb.2 _ D.TOz).trans o1⟩,j1.at fun o q=>(sb.2 _ D.i1z).trans q,j2.at fun o q=>(sb.2 _ D.i2z).trans q⟩,fun c hc=>?_⟩
    have:s.heap.objs.size≠c:=by
      simp only [List.mem_cons,List.mem_nil_iff,or_false] at hc
      rcases hc with rfl | rfl | rfl | rfl | rfl
      · exact n1
      · exact lt _ ⟨_,ho⟩
      · exact lt _ (let ⟨o,q,_⟩:=q1; ⟨o,q⟩)
      · exact lt _ (let ⟨o,q,_⟩:=q2; ⟨o,q⟩)
      · exact lt _ ⟨_,ht⟩
    rw [jn (Ne.symm this)]
    exact (hf c hc).1
  done:=by
    intro X hP hw hK hc i pins s σ H E I hf st hg
    subst hP hw hK
    obtain ⟨hz,ht,⟨u0,v0,ho⟩,q1,q2⟩:=st
    obtain ⟨xs,ys,ha,hb,hx⟩:=hg
    obtain ⟨i1s,r1,p1,_⟩:=I.list ha
    obtain ⟨i2s,r2,p2,_⟩:=I.list hb
    have l1:=r1.length
    have l2:=r2.length
    refine wpAny_pyNext_zip_end (I.ok.hd hc) D hz ht ho q1 q2 p1.isList p2.isList (by
      rcases hx with h | h
      · exact .inl (by simp; omega)
      · exact .inr (by simp; omega)) fun h' keep=>⟨rfl,I.turnedL (t':=s.toks) (ch:=[z,TO,i1,i2]) (fun c o hn q=>?_) fun c hc=>hf c ?_⟩
    · simp only [List.mem_cons,List.mem_nil_iff,or_false,not_or] at hn
      exact keep c o hn.1 hn.2.1 hn.2.2.1 hn.2.2.2 q
    · simp only [List.mem_cons,List.mem_nil_iff,or_false] at hc ⊢
      rcases hc with h | h | h | h
      · exact .inl h
      · exact .inr (.inl h)
      · exact .inr (.inr (.inl h))
      · exact .inr (.inr (.inr (.inl h)))
  self:=fun _ _ _ _ _ st h=>wpAny_pyIter_zip st.1 h
section
variable {X:Cx} {elts:List Expr} {x1:Nat} {tpos:Pos}
theorem zip_apart (n a b:Nat) (la:a < n) (lb:b < n):ZipApart (n + 4) (n + 2) (n + 3) n (n + 1) a b:=by
  constructor <;> (intro e; have e:(_:Nat)=(_:Nat):=e; omega)
theorem bt_zip:bootBuiltins "zip" = some (.type "zip"):=by decide +kernel
theorem zip_lists {pins:List (Addr × Obj)} {σ:St} {H1:Hp} {s1:Shared} {R:It->Hp->Prop} {a b:Addr} {xs ys:List V} (I1:Inv X pins σ H1 s1) (hx:SqL X.K H1 a xs) (hy:SqL X.K H1 b ys) (q:R (Itz X.K a b) H1) :
    wpAny (model X.prog X.w) X.A (call (.type "zip") [.ref a,.ref b]) (fun v s2=>wpAny (model X.prog X.w) X.A (pyIter v) (PIE X pins σ (.Tuple elts x1 tpos) R) X.xe s2) X.xe s1:=by
  obtain ⟨is1,_,p1,_⟩:=I1.list hx
  obtain ⟨is2,_,p2,_⟩:=I1.list hy
  have la:a < s1.heap.objs.size:=let ⟨o,q,_⟩:=p1.isList; Heap.lt_size q
  have lb:b < s1.heap.objs.size:=let ⟨o,q,_⟩:=p2.isList; Heap.lt_size q
  refine call_zip_2 p1.isList p2.isList fun h' z ti to j1 j2 sz keep=>?_
  refine wpAny_pyIter_zip z ?_
  have D:ZipApart (s1.heap.objs.size + 4) (s1.heap.objs.size + 2) (s1.heap.objs.size + 3) s1.heap.objs.size (s1.heap.objs.size + 1) a b:=zip_apart _ _ _ la lb
  refine ⟨s1.heap.objs.size + 4,_,_,_,H1,rfl,I1.kept (t':=s1.toks) keep,turn_zip a b _ _ _ _ _ D,⟨z,ti,⟨_,_,to⟩,j1,j2⟩,fun c hc=>?_,q⟩
  have:s1.heap.objs.size<=c:=by
    simp only [List.mem_cons,List.mem_nil_iff,or_false] at hc
    rcases hc with rfl | rfl | rfl | rfl | rfl
    · exact Nat.le_add_right _ _
    · exact Nat.le_add_right _ _
    · exact Nat.le_refl _
    · exact Nat.le_add_right _ _
    · exact Nat.le_add_right _ _
  exact I1.fpOk this (I1.hok.fresh this)
end
end L2

namespace L2
open PySem PySem.Spec PyProof.Rows
section
variable {prog:Program} {w:World} {A:Around} {E:Value->Shared->Prop} {s:Shared}
theorem nextT_end {it tu:Addr} {i:Nat} {its:Array Value} {Q:Value->Shared->Prop} (nh:A.handled=none) (hI:s.heap.IsTupleIter it tu i) (hU:s.heap.IsTuple tu its) (hn:its[i]? = none)
    (go:∀ h' e,Heap.ExtBut it s.heap h'->(∃ o,h'.get? e=some o∧o.cls = .type "StopIteration")->E (.ref e) { s with heap:=h' }):wpAny (model prog w) A (Builtin.SmallTypes.nextOf (.ref it)) Q E s:=by
  obtain ⟨oi,hoi,hci,hdi⟩:=id hI; obtain ⟨ou,hou,_,nu,hdu⟩:=hU; unfold Builtin.SmallTypes.nextOf
  refine wpAny_bind (wpAny_callSpecial?_slot (name:=Str.ofString "__next__") hI.typeIs F.slot_tuple_iterator_next (wpAny_call_entry F.slot_tuple_iterator_next hI.typeIs F.entry_tuple_iterator_next ?_ (F.args_tuple_iterator_next_1 _)))
  show wpAny _ _ (field (.ref it) 0 >>= _) _ _ s; refine wpAny_bind (wpAny_field hoi hdi (x:=.ref tu) rfl ?_)
  show wpAny _ _ (if (Value.ref tu == Value.none)=true then _ else _) _ _ s; rw [if_neg (show ¬ ((Value.ref tu == Value.none)=true) from Bool.false_ne_true)]
  show wpAny _ _ (field (.ref it) 1 >>= _) _ _ s; refine wpAny_bind (wpAny_field hoi hdi (x:=.int i 0) rfl ?_)
  show wpAny _ _ (seqItems? (.ref tu) >>= _) _ _ s; refine wpAny_bind (wpAny_seqItems hou hdu ?_); simp only [Int.toNat_natCast,hn]
  refine wpAny_bind (wpAny_rule (wpAny_bind (wpAny_setField hoi hdi (by simp) ?_))); show wpAny _ _ (newExc (.type "StopIteration") [] >>= _) _ _ _
  refine wpAny_bind ?_; simp only [newExc,newTuple]; refine wpAny_bind (wpAny_newObj_type ?_ (by size_fits))
  refine wpAny_bind (m:=firstArgMember _ _) (wpAny_of_eq (a:=Value.none) (by first | rfl | (simp only [firstArgMember]; rfl)) ?_); refine wpAny_newObj_type ?_ (by size_fits)
  simp only [raiseNew]; refine wpAny_bind (wpAny_handled ?_); first | rw [show A.in1.handled=none from nh] | rw [nh]
  refine wpAny_bind (wpAny_pure (wpAny_throw ?_)); exact go _ _ (((Heap.SameBut.update ..).extBut.push _).push _) ⟨_,Heap.get?_push_size _ rfl,rfl⟩
theorem zipT_end {z TI TO i1 i2 t1:Addr} {i:Nat} {a b:Value} {xs:Array Value} {Q:Option Value->Shared->Prop} (nh:A.handled=none) (n1:i1≠z) (n2:t1≠z) (n3:t1≠i1)
    (hz:IsZip s.heap z TI TO .none) (hTI:IsPair s.heap TI (.ref i1) (.ref i2)) (hTO:IsPair s.heap TO a b) (h1:s.heap.IsTupleIter i1 t1 i) (hl1:s.heap.IsTuple t1 xs) (he:xs[i]? = none)
    (go:∀ h',(∀ c o,c≠z->c≠i1->s.heap.get? c=some o->h'.get? c=some o)->Q none { s with heap:=h' }):wpAny (model prog w) A (pyNext (.ref z)) Q E s:=by
  have hT:s.TypeIs (.ref z) "zip":=⟨_,hz,rfl⟩
  unfold pyNext
  refine wpAny_bind (wpAny_attempt (wpAny_callSpecial?_slot (name:=Str.ofString "__next__") hT F.slot_zip_next (wpAny_call_entry F.slot_zip_next hT F.entry_zip_next ?_ (F.args_zip_next_1 _))))
  show wpAny _ _ (field (.ref z) 2 >>= _) _ _ _; refine wpAny_bind (wpAny_field hz rfl (x:=.bool false) rfl ?_)
  show wpAny _ _ (field (.ref z) 3 >>= _) _ _ _; refine wpAny_bind (wpAny_field hz rfl (x:=.ref TI) rfl ?_)
  refine wpAny_bind (wpAny_seqItems hTI rfl ?_); show wpAny _ _ (Builtin.SmallTypes.ownedTupleIsFree (.ref z) >>= _) _ _ _
  refine wpAny_bind ?_; unfold Builtin.SmallTypes.ownedTupleIsFree; refine wpAny_bind (wpAny_field hz rfl (x:=.none) rfl (wpAny_pure ?_))
  simp only [if_true]; refine wpAny_bind (wpAny_rule ?_); refine wpAny_bind (wpAny_field hz rfl (x:=.ref TO) rfl ?_)
  refine wpAny_bind (wpAny_setField_rec hz (by simp) fun hA zA sA=>?_)
  replace zA:IsZip hA z TI TO .ellipsis:=zA
  refine wpAny_bind ?_; simp only [List.zipIdx_cons,List.zipIdx_nil,List.forIn_cons,List.forIn_nil]
  refine wpAny_bind (wpAny_bind (wpAny_onRaise ?_)); show wpAny _ _ (Builtin.SmallTypes.nextOf (.ref i1) >>= _) _ _ _
  refine wpAny_bind (nextT_end (its:=xs) nh (h1.extBut sA.extBut n1) (hl1.extBut sA.extBut n2) he fun hB e sB hex=>?_)
  obtain ⟨oe,hoe,hce⟩:=hex
  have zB:IsZip hB z TI TO .ellipsis:=sB _ _ n1.symm zA
  have hez:e≠z:=fun x=>by subst x; rw [zB] at hoe; cases hoe; simp at hce
  refine wpAny_setField_rec zB (by simp) fun hC _ sC=>?_
  refine wpAny_bind (wpAny_isInstance (T:="StopIteration") (b:=true) ⟨oe,sC.extBut _ _ hez hoe,hce⟩ isSubtype_stop ?_)
  exact wpAny_pure (go _ fun c o c1 c2 q=>sC.extBut _ _ c1 (sB _ _ c2 (sA.extBut _ _ c1 q)))
abbrev zT1 (h:Heap) (t:Addr):Heap:=h.push { cls:=.type "tuple_iterator",data:=.fields #[.ref t,.int 0 0] }
abbrev zT3 (h:Heap) (t u:Addr):Heap:=(zT1 (zT1 h t) u).push { cls:=.type "tuple",data:=.seq #[.ref h.objs.size,.ref (zT1 h t).objs.size] }
abbrev zT4 (h:Heap) (t u:Addr):Heap:=(zT3 h t u).push { cls:=.type "tuple",data:=.seq #[.none,.none] }
abbrev zT5 (h:Heap) (t u:Addr):Heap:=(zT4 h t u).push { cls:=.type "zip",data:=.fields #[.none,.bool false,.bool false,.ref (zT1 (zT1 h t) u).objs.size,.ref (zT3 h t u).objs.size] }
theorem meets_zipT (t u:Addr) (xs ys:Array Value) :
    Meets (Builtin.«zip.__new__» ⟨[.type "zip",.ref t,.ref u],[]⟩) (fun _ R s=>s.heap.IsTuple t xs∧s.heap.IsTuple u ys∧R (.ok (.ret (.ref (zT4 s.heap t u).objs.size))) { s with heap:=zT5 s.heap t u }) :=
  .of_wp fun prog w A R s h=>by
    obtain ⟨hp,g,d,tk,os⟩:=s; obtain ⟨q1,q2,h⟩:=h
    have hsub:=sub_zip
    have hL1:Heap.IsTuple (Shared.heap ⟨hp,g,d,tk,os⟩) t xs:=q1
    have hL2:Heap.IsTuple (Shared.heap ⟨hp.push { cls:=.type "tuple_iterator",data:=.fields #[.ref t,.int 0 0] },g,d,tk,os⟩) u ys:=Heap.IsTuple.push q2 _
    wp_walk using wpAny_pyIter_tuple hL1,wpAny_pyIter_tuple hL2
    exact ⟨_,rfl,h⟩
theorem call_zipT {t u:Addr} {xs ys:Array Value} {Q:Value->Shared->Prop} (q1:s.heap.IsTuple t xs) (q2:s.heap.IsTuple u ys)
    (h:∀ h',IsZip h' (s.heap.objs.size + 4) (s.heap.objs.size + 2) (s.heap.objs.size + 3) .none->IsPair h' (s.heap.objs.size + 2) (.ref s.heap.objs.size) (.ref (s.heap.objs.size + 1))->IsPair h' (s.heap.objs.size + 3) .none .none ->
      h'.IsTupleIter s.heap.objs.size t 0->h'.IsTupleIter (s.heap.objs.size + 1) u 0->(∀ c o,s.heap.get? c=some o->h'.get? c=some o)->Q (.ref (s.heap.objs.size + 4)) { s with heap:=h' }) :
    wpAny (model prog w) A (call (.type "zip") [.ref t,.ref u]) Q E s:=by
  refine callType_new F.called_zip (by decide) (F.typeCall_zip_2 _ _) (F.newCall_zip_2 _ _) (fun obj=>F.args_object_init_3 obj _ _) F.entry_zip_new (meets_zipT t u xs ys) ⟨q1,q2,?_⟩
  have z1:(zT1 s.heap t).objs.size=s.heap.objs.size + 1:=Heap.size_push ..
  have z2:(zT1 (zT1 s.heap t) u).objs.size=s.heap.objs.size + 2:=by rw [Heap.size_push,z1]
  have z3:(zT3 s.heap t u).objs.size=s.heap.objs.size + 3:=by rw [Heap.size_push,z2]
  have z4:(zT4 s.heap t u).objs.size=s.heap.objs.size + 4:=by rw [Heap.size_push,z3]
  have up:∀ c o,(zT3 s.heap t u).get? c=some o->(zT5 s.heap t u).get? c=some o:=fun c o q=>Heap.get?_push_of_some _ (Heap.get?_push_of_some _ q)
  have g5:(zT5 s.heap t u).get? (zT4 s.heap t u).objs.size=some _:=Heap.get?_push_size _ rfl
  have g4:(zT5 s.heap t u).get? (zT3 s.heap t u).objs.size=some _:=Heap.get?_push_of_some _ (Heap.get?_push_size _ rfl)
  have g3:(zT5 s.heap t u).get? (zT1 (zT1 s.heap t) u).objs.size=some _:=up _ _ (Heap.get?_push_size _ rfl)
  have g2:(zT5 s.heap t u).get? (zT1 s.heap t).objs.size=some _:=up _ _ (Heap.get?_push_of_some _ (Heap.get?_push_size _ rfl))
  have g1:(zT5 s.heap t u).get? s.heap.objs.size=some _:=up _ _ (Heap.get?_push_of_some _ (Heap.get?_push_of_some _ (Heap.get?_push_size _ rfl)))
  show _∧_
  rw [z2,z3,z4] at g5; rw [z1,z2] at g3; rw [z3] at g4; rw [z1] at g2; rw [z4]
  exact ⟨⟨_,g5,rfl⟩,h _ g5 g3 g4 ⟨_,g1,rfl,rfl⟩ ⟨_,g2,rfl,rfl⟩ fun c o x=>up _ _ (Heap.get?_push_of_some _ (Heap.get?_push_of_some _ (Heap.get?_push_of_some _ x)))⟩
end
def Itz0 (K:PySem.W.Frag) (a:Addr):It:=⟨fun _ _=>False,fun _ _ _ _=>False,fun _ H=>SqT K H a []⟩
theorem turn_zip0 {P:Program} {w:World} {K:PySem.W.Frag} {tg:Expr} (a z TI TO i1 i2:Addr) (n1:i1≠z) (n2:a≠z) (n3:a≠i1) :
    Turn P w K tg (Itz0 K a) [z,TO,i1,TI] z (fun i h=>IsZip h z TI TO .none∧IsPair h TI (.ref i1) (.ref i2)∧IsPair h TO .none .none∧h.IsTupleIter i1 a i) where
  mem:=by simp
  obj:=fun i h st c hc=>by
    obtain ⟨hz,ht,ho,⟨o1,q1,_,d1⟩⟩:=st
    simp only [List.mem_cons,List.mem_nil_iff,or_false] at hc
    rcases hc with rfl | rfl | rfl | rfl
    · exact ⟨_,hz,fun v e=>by have e:Data.fields _=Data.cell v:=e; cases e⟩
    · exact ⟨_,ho,fun v e=>by have e:Data.seq _=Data.cell v:=e; cases e⟩
    · exact ⟨o1,q1,fun v e=>by rw [d1] at e; cases e⟩
    · exact ⟨_,ht,fun v e=>by have e:Data.seq _=Data.cell v:=e; cases e⟩
  keep:=fun i h h' st k=>by
    obtain ⟨hz,ht,ho,⟨o1,q1,r⟩⟩:=st
    exact ⟨k z (by simp) _ hz,k TI (by simp) _ ht,k TO (by simp) _ ho,⟨o1,k i1 (by simp) _ q1,r⟩⟩
  item:=fun _ _ _ _ _ _ _ _ _ _ _ _ _ _ hg=>hg.elim
  done:=by
    intro X hP hw hK hc i pins s σ H E I hf st hg
    subst hP hw hK
    obtain ⟨hz,ht,ho,q1⟩:=st
    obtain ⟨its,r1,p1,_⟩:=I.tuple hg
    have l1:=r1.length
    refine zipT_end (xs:=its.toArray) (I.ok.hd hc) n1 n2 n3 hz ht ho q1 p1 (by have:its=[]:=List.length_eq_zero_iff.mp l1.symm; subst this; simp) fun h' keep=>⟨rfl,I.turnedL (t':=s.toks) (ch:=[z,i1]) (fun c o hn q=>?_) fun c hc=>hf c ?_⟩
    · simp only [List.mem_cons,List.mem_nil_iff,or_false,not_or] at hn
      exact keep c o hn.1 hn.2 q
    · simp only [List.mem_cons,List.mem_nil_iff,or_false] at hc ⊢
      rcases hc with h | h
      · exact .inl h
      · exact .inr (.inr (.inl h))
  self:=fun _ _ _ _ _ st h=>wpAny_pyIter_zip st.1 h
section
variable {X:Cx} {elts:List Expr} {x1:Nat} {tpos:Pos}
theorem zip_tups {tg:Expr} {pins:List (Addr × Obj)} {σ:St} {H1:Hp} {s1:Shared} {R:It->Hp->Prop} {a b:Addr} {ys:List V} (I1:Inv X pins σ H1 s1) (hx:SqT X.K H1 a []) (hy:SqT X.K H1 b ys) (q:R (Itz0 X.K a) H1) :
    wpAny (model X.prog X.w) X.A (call (.type "zip") [.ref a,.ref b]) (fun v s2=>wpAny (model X.prog X.w) X.A (pyIter v) (PIE X pins σ tg R) X.xe s2) X.xe s1:=by
  obtain ⟨is1,_,p1,_⟩:=I1.tuple hx
  obtain ⟨is2,_,p2,_⟩:=I1.tuple hy
  have p1:s1.heap.IsTuple a is1.toArray:=p1
  have p2:s1.heap.IsTuple b is2.toArray:=p2
  have la:a < s1.heap.objs.size:=let ⟨o,q,_⟩:=p1; Heap.lt_size q
  refine call_zipT p1 p2 fun h' z ti to j1 j2 keep=>?_
  refine wpAny_pyIter_zip z ?_
  have n1:s1.heap.objs.size≠s1.heap.objs.size + 4:=Nat.ne_of_lt (Nat.lt_add_of_pos_right (by decide))
  have n2:a≠s1.heap.objs.size + 4:=Nat.ne_of_lt (Nat.lt_of_lt_of_le la (Nat.le_add_right _ _))
  refine ⟨s1.heap.objs.size + 4,_,_,_,H1,rfl,I1.kept (t':=s1.toks) keep,turn_zip0 a _ _ _ s1.heap.objs.size (s1.heap.objs.size + 1) n1 n2 (Nat.ne_of_lt la),⟨z,ti,to,j1⟩,fun c hc=>?_,q⟩
  have:s1.heap.objs.size<=c:=by
    simp only [List.mem_cons,List.mem_nil_iff,or_false] at hc
    rcases hc with rfl | rfl | rfl | rfl
    · exact Nat.le_add_right _ _
    · exact Nat.le_add_right _ _
    · exact Nat.le_refl _
    · exact Nat.le_add_right _ _
  exact I1.fpOk this (I1.hok.fresh this)
def iZip (K:PySem.W.Frag) (ta:TA):TI:=fun σ H R=>ta σ H fun vs H1=>∃ a b,vs=[.ref a,.ref b]∧(((∃ xs,SqL K H1 a xs)∧(∃ ys,SqL K H1 b ys)∧R (Itz K a b) H1)∨(SqT K H1 a []∧(∃ ys,SqT K H1 b ys)∧R (Itz0 K a) H1))
theorem pi_zip {l m:Expr} {ta:TA} {p pos:Pos} (hg:Gl X "zip") (hm:X.mg "zip" = none) (ha:PA X [l,m] ta) (hs:starEach [l,m] X.env=(false,eval l X.env) :: starEach [m] X.env:=by rfl) (hs2:starEach [m] X.env=[(false,eval m X.env)]:=by rfl):PI X (.Tuple elts x1 tpos) (.Call (.Name "zip" p) [l,m] [] pos) (iZip X.K ta):=by
  intro pins s σ H R I h
  refine Call_ (JC I hg hm bt_zip (PyProof.Rows.callWith_type1 (thn (ha pos pins s σ H _ I h) fun us s1 hQQ=>?_) hs (by rw [hs2]; rfl)))
  obtain ⟨vs,H1,I1,r1,q1⟩:=hQQ
  obtain ⟨a,b,e,q⟩:=q1
  subst e
  obtain ⟨u,v,rfl,ru,rv⟩:=ym.two r1
  cases ru
  cases rv
  rcases q with ⟨⟨xs,hx⟩,⟨ys,hy⟩,q⟩ | ⟨hx,⟨ys,hy⟩,q⟩
  · exact zip_lists I1 hx hy q
  · exact zip_tups I1 hx hy q
end
end L2

namespace HT
open PySem PySem.Spec PyProof.Rows
section
variable {prog:Program} {w:World} {A:Around} {E:Value->Shared->Prop} {s:Shared}
theorem getItem_tuple_all {t sl:Addr} {items:Array Value} {vl vu:Value} {lo hi:Option Int} {Q:Value->Shared->Prop} (ht:IsTup s.heap t items) (hs:s.heap.IsSliceOf sl vl vu .none) (pl:IsPart vl lo) (pu:IsPart vu hi)
    (h0:sIx items.size 0 lo=0) (h1:sIx items.size items.size hi=items.size) (h:Q (.ref t) s):wpAny (model prog w) A (getItem (.ref t) (.ref sl)) Q E s:=by
  obtain ⟨os,hos,hcs,hds⟩:=id hs; have hTs:s.TypeIs (.ref sl) "slice":=⟨os,hos,hcs⟩
  unfold getItem; try with_reducible refine wpAny_holding ?_
  (first | refine wpAny_bind (wpAny_pure ?_) | skip); refine wpAny_bind (wpAny_sequenceKey ht.typeIs (by decide) ?_)
  refine wpAny_bind (wpAny_callSpecial?_slot (name:=Str.ofString "__getitem__") ht.typeIs PyProof.Rows.slot_tuple_getitem (wpAny_call_entry PyProof.Rows.slot_tuple_getitem ht.typeIs entry_tuple_getitem ?_ (args_tuple_getitem _ _)))
  show wpAny _ _ (Builtin.Tuple.tupleItemsOf (.ref t) >>= _) _ _ s; refine wpAny_bind (tupleItemsOf_ ht ?_); refine wpAny_bind (wpAny_typeOf hTs ?_)
  rw [if_pos (by decide)]; refine wpAny_bind (vX hs pl pu ?_)
  have hy:((((sIx items.size 0 lo:Nat):Int) == 0 && (1:Int) == 1 && (sIx items.size items.size hi - sIx items.size 0 lo) == items.size)=true):=by rw [h0,h1]; simp
  show wpAny _ _ (if (((sIx items.size 0 lo:Nat):Int) == 0 && (1:Int) == 1 && (sIx items.size items.size hi - sIx items.size 0 lo) == items.size)=true then _ else _) _ _ s
  rw [if_pos hy]
  refine wpAny_bind (m:=Builtin.Tuple.tupleIsExact _) ?_; unfold Builtin.Tuple.tupleIsExact; refine wpAny_bind (wpAny_typeOf ht.typeIs (wpAny_pure ?_)); rw [if_pos (by decide)]
  exact wpAny_bind (wpAny_rule (wpAny_pure ⟨_,rfl,wpAny_pure h⟩))
end
end HT
namespace L2
open PySem PySem.Spec PyProof.Rows
section
variable {X:Cx}
def rSlW (K:PySem.W.Frag):V->Option Int->Option Int->Hp->VK->Prop:=fun x lo hi H Q=>∃ a xs,x = .ref a∧SqT K H a xs∧(HT.sIx xs.length 0 lo=0∧HT.sIx xs.length xs.length hi=xs.length)∧Q (.ref a) H
theorem sl_tupW:SlR X (rSlW X.K):=by
  intro pins s σ H x v vl vu lo hi sl Q I rx hs pl pu h
  obtain ⟨a,xs,rfl,hx,hw,q⟩:=h
  cases rx
  obtain ⟨its,r,ht,hz⟩:=I.tuple hx
  have hlen:its.toArray.size=xs.length:=by rw [List.size_toArray]; exact r.length.symm
  exact ⟨"tuple",_,PyProof.Rows.slot_tuple_getitem.lookup,ht.typeIs,HT.getItem_tuple_all ht hs pl pu (by rw [hlen]; exact hw.1) (by rw [hlen]; exact hw.2) ⟨.ref a,H,I,rfl,q⟩⟩
end
end L2

namespace L2
open PySem PySem.Spec PyProof.Rows
section
variable {prog:Program} {w:World} {A:Around} {E:Value->Shared->Prop} {s:Shared}
theorem meetsD_items {P:Program} {W:World} (d:Addr) (nd:(d == sysModules)=false):MeetsIn P W (Builtin.«dict.items» ⟨[.ref d],[]⟩) (fun _ R s=>(∃ o,s.heap.get? d=some o∧o.ExactDict)∧R (.ok (.ret (.ref s.heap.objs.size))) { s with heap:=s.heap.push { cls:=.type "dict_items",data:=.fields #[.ref d] } }) :=
  .of_wp fun A R s hR=>by
    obtain ⟨⟨o,ho,hx⟩,h⟩:=hR
    unfold Builtin.«dict.items»; refine wpAny_bind ?_; unfold Builtin.Dict.noArgs; refine wpAny_bind (wpAny_notOrdered_dict ⟨o,ho,hx.1⟩ ?_)
    show wpAny _ _ (pure d) _ _ s; refine wpAny_pure ?_; show wpAny _ _ (Builtin.Dict.showsAll d >>= _) _ _ s; unfold Builtin.Dict.showsAll
    rw [if_neg (by rw [nd]; exact Bool.false_ne_true)]; refine wpAny_bind (wpAny_pure ?_); exact wpAny_bind (wpAny_newObj_type (wpAny_pure ⟨_,rfl,h⟩))
theorem iterD {v d:Addr} {od:Obj} {es:Array DictEntry} {ep:Nat} {Q:Value->Shared->Prop} (hv:s.heap.IsItemsView v d) (ho:s.heap.get? d=some od) (hd:od.data = .dict es ep)
    (go:Q (.ref s.heap.objs.size) { s with heap:=s.heap.push { cls:=.type "dict_itemiterator",data:=.fields #[.none,.bool false,.ref d,.int 0 0,.int es.size 0,.int ep 0,.none,.none] } }):wpAny (model prog w) A (pyIter (.ref v)) Q E s:=by
  obtain ⟨vo,hvo,cv,dv⟩:=id hv
  refine wpAny_pyIter_slot hv.typeIs F.slot_dict_items_iter (wpAny_call_entry F.slot_dict_items_iter hv.typeIs F.entry_dict_items_iter ?_ (F.args_dict_items_iter_1 _)); unfold Builtin.«dict_items.__iter__»
  refine wpAny_bind (wpAny_pure ?_); refine wpAny_bind ?_; unfold Builtin.Dict_items.dictOf; refine wpAny_bind (wpAny_field hvo dv (x:=.ref d) rfl (wpAny_pure ?_)); refine wpAny_bind ?_
  unfold Builtin.Dict_items.newIterator; refine wpAny_bind (wpAny_dictEntries ho hd ?_); refine wpAny_bind (wpAny_dictEpoch ho hd ?_)
  have own:Builtin.Dict_items.ownsTuple "dict_itemiterator" = true:=by decide
  simp only [own,if_true]
  refine wpAny_newObj_type (wpAny_pure ⟨_,rfl,"dict_itemiterator",_,⟨_,Heap.get?_push_size _ rfl,rfl⟩,F.slot_dict_itemiterator_next.lookup,?_⟩) (by simp only [sizeOk,Builtin.Dict_items.ownedTupleFields,List.size_toArray,List.length_append,List.length_cons,List.length_nil,sizeLine_eq]; omega)
  simpa [rawInt,Builtin.Dict_items.ownedTupleFields] using go
theorem nextD_item {it d:Addr} {i ep:Nat} {es:Array DictEntry} {od:Obj} {x y:Value} {Q:Option Value->Shared->Prop} (hI:IsItemIter s.heap it d i es.size ep x y) (ho:s.heap.get? d=some od) (hd:od.data = .dict es ep) (lt:i < es.size)
    (go:∀ h',IsItemIterOut h' it d (i + 1) es.size ep es[i].key es[i].val s.heap.objs.size->h'.get? s.heap.objs.size=some { cls:=.type "tuple",data:=.seq #[es[i].key,es[i].val] } ->
      (∀ b o,b≠it->s.heap.get? b=some o->h'.get? b=some o)->Q (some (.ref s.heap.objs.size)) { s with heap:=h' }):wpAny (model prog w) A (pyNext (.ref it)) Q E s:=by
  obtain ⟨h0,gs,dr,tk,os⟩:=s
  have tI:Shared.TypeIs ⟨h0,gs,dr,tk,os⟩ (.ref it) "dict_itemiterator":=⟨_,hI,rfl⟩
  unfold pyNext
  refine wpAny_bind (wpAny_attempt (wpAny_callSpecial?_slot (name:=Str.ofString "__next__") tI F.slot_dict_itemiterator_next (wpAny_call_entry F.slot_dict_itemiterator_next tI F.entry_dict_itemiterator_next ?_ (F.args_dict_itemiterator_next_1 _))))
  refine wpAny_bind (wpAny_pure ?_); refine wpAny_bind ?_; refine wpAny_bind ?_
  (first | refine wpAny_bind (wpAny_typeNameOfWhole_itemiter tI (wpAny_pure ?_)) | refine wpAny_bind (wpAny_typeNameOf_itemiter tI (wpAny_pure ?_)))
  refine wpAny_bind (wpAny_fieldsOf hI rfl ?_)
  have own:Builtin.Dict_items.ownsTuple "dict_itemiterator" = true:=by decide
  simp only [own,if_true]
  show wpAny _ _ (if (Value.ref d == Value.none)=true then _ else _) _ _ _; rw [if_neg (show ¬ ((Value.ref d == Value.none)=true) from Bool.false_ne_true)]
  refine wpAny_bind (wpAny_pure ?_); refine wpAny_bind (wpAny_dictEntries ho hd ?_); rw [if_neg (by simp)]; refine wpAny_bind (wpAny_pure ?_); refine wpAny_bind (wpAny_dictEpoch ho hd ?_); rw [if_neg (by simp)]; refine wpAny_pure ?_
  simp only [show ¬ ((i:Int) < 0) from by omega,if_false,Int.toNat_natCast,Array.getElem?_eq_getElem lt]; refine wpAny_bind ?_
  (first | refine wpAny_bind (wpAny_typeNameOfWhole_itemiter tI (wpAny_pure ?_)) | refine wpAny_bind (wpAny_typeNameOf_itemiter tI (wpAny_pure ?_)))
  refine wpAny_bind (wpAny_isOneOf_itemiter tI ?_); show wpAny _ _ (setField (.ref it) 3 (rawInt ((i:Int) + 1)) >>= _) _ _ ⟨h0,gs,dr,tk,os⟩
  refine wpAny_bind (wpAny_setField_rec hI (by simp) fun k1 e1 b1=>?_)
  replace b1:Heap.SameBut it h0 k1:=b1
  replace e1:IsItemIter k1 it d (i + 1) es.size ep x y:=by
    have q:((i + 1:Nat):Int)=(i:Int) + 1:=by omega
    unfold IsItemIter; rw [q]; simpa [rawInt] using e1
  have t1:Shared.TypeIs ⟨k1,gs,dr,tk,os⟩ (.ref it) "dict_itemiterator":=⟨_,e1,rfl⟩
  refine wpAny_bind (wpAny_holding ?_); refine wpAny_bind (wpAny_isOneOf_itemiter t1 ?_); refine wpAny_bind (wpAny_isOneOf_itemiter t1 ?_)
  show wpAny _ _ (Builtin.Dict_items.pairFromOwner (.ref it) 6 es[i].key es[i].val) _ _ ⟨k1,gs,dr,tk,os⟩; unfold Builtin.Dict_items.pairFromOwner; refine wpAny_bind (wpAny_newTuple ?_)
  have e2:IsItemIter (k1.push { cls:=.type "tuple",data:=.seq #[es[i].key,es[i].val] }) it d (i + 1) es.size ep x y:=Heap.get?_push_of_some _ e1
  generalize hk2:k1.push { cls:=.type "tuple",data:=.seq #[es[i].key,es[i].val] }=k2 at e2
  have z1:k1.objs.size=h0.objs.size:=b1.1
  have il:it < h0.objs.size:=Heap.lt_size hI
  have g2:k2.get? h0.objs.size=some { cls:=.type "tuple",data:=.seq #[es[i].key,es[i].val] }:=by rw [<- hk2,<- z1]; exact Heap.get?_push_size _ rfl
  have b2:∀ b o,b≠it->h0.get? b=some o->k2.get? b=some o:=fun b o hb e=>by rw [<- hk2]; exact Heap.get?_push_of_some _ (b1.extBut b o hb e)
  show wpAny _ _ (Builtin.Dict_items.ownedTupleIsFree (.ref it) >>= _) _ _ ⟨k2,gs,dr,tk,os⟩
  rw [z1]; clear hk2 e1 b1 t1 z1 k1; refine wpAny_bind ?_; unfold Builtin.Dict_items.ownedTupleIsFree
  refine wpAny_bind (wpAny_field e2 rfl (x:=.none) rfl (wpAny_pure ?_)); simp only [if_true]
  refine wpAny_bind (wpAny_field e2 rfl (x:=x) rfl ?_); refine wpAny_bind (wpAny_field e2 rfl (x:=y) rfl ?_)
  refine wpAny_bind (wpAny_setField_rec e2 (by simp) fun k3 e3 b3=>?_); replace b3:Heap.SameBut it k2 k3:=b3; replace e3:IsItemIter k3 it d (i + 1) es.size ep es[i].key y:=e3
  refine wpAny_bind (wpAny_setField_rec e3 (by simp) fun k4 e4 b4=>?_); replace b4:Heap.SameBut it k3 k4:=b4; replace e4:IsItemIter k4 it d (i + 1) es.size ep es[i].key es[i].val:=e4
  refine wpAny_bind (wpAny_setField_rec e4 (by simp) fun k5 e5 b5=>?_); replace b5:Heap.SameBut it k4 k5:=b5; replace e5:IsItemIterOut k5 it d (i + 1) es.size ep es[i].key es[i].val h0.objs.size:=e5
  refine wpAny_bind (wpAny_setField_rec e5 (by simp) fun k6 e6 b6=>?_); replace b6:Heap.SameBut it k5 k6:=b6; replace e6:IsItemIterOut k6 it d (i + 1) es.size ep es[i].key es[i].val h0.objs.size:=e6
  have up:∀ b o,b≠it->k2.get? b=some o->k6.get? b=some o:=fun b o hb e=>b6.extBut b o hb (b5.extBut b o hb (b4.extBut b o hb (b3.extBut b o hb e)))
  exact wpAny_bind (wpAny_letGo (wpAny_pure (wpAny_pure ⟨_,rfl,wpAny_pure (go k6 e6 (up _ _ (Nat.ne_of_gt il) g2) fun b o hb e=>up b o hb (b2 b o hb e))⟩)))
theorem nextD_end {it d:Addr} {i ep:Nat} {es:Array DictEntry} {od:Obj} {x y:Value} {Q:Option Value->Shared->Prop} (nh:A.handled=none) (hI:IsItemIter s.heap it d i es.size ep x y) (ho:s.heap.get? d=some od) (hd:od.data = .dict es ep) (ge:es.size<=i)
    (go:∀ h',Heap.ExtBut it s.heap h'->Q none { s with heap:=h' }):wpAny (model prog w) A (pyNext (.ref it)) Q E s:=by
  have tI:s.TypeIs (.ref it) "dict_itemiterator":=⟨_,hI,rfl⟩
  unfold pyNext
  refine wpAny_bind (wpAny_attempt (wpAny_callSpecial?_slot (name:=Str.ofString "__next__") tI F.slot_dict_itemiterator_next (wpAny_call_entry F.slot_dict_itemiterator_next tI F.entry_dict_itemiterator_next ?_ (F.args_dict_itemiterator_next_1 _))))
  refine wpAny_bind (wpAny_pure ?_); refine wpAny_bind ?_; refine wpAny_bind ?_
  (first | refine wpAny_bind (wpAny_typeNameOfWhole_itemiter tI (wpAny_pure ?_)) | refine wpAny_bind (wpAny_typeNameOf_itemiter tI (wpAny_pure ?_)))
  refine wpAny_bind (wpAny_fieldsOf hI rfl ?_)
  have own:Builtin.Dict_items.ownsTuple "dict_itemiterator" = true:=by decide
  simp only [own,if_true]
  show wpAny _ _ (if (Value.ref d == Value.none)=true then _ else _) _ _ s; rw [if_neg (show ¬ ((Value.ref d == Value.none)=true) from Bool.false_ne_true)]
  refine wpAny_bind (wpAny_pure ?_); refine wpAny_bind (wpAny_dictEntries ho hd ?_); rw [if_neg (by simp)]; refine wpAny_bind (wpAny_pure ?_); refine wpAny_bind (wpAny_dictEpoch ho hd ?_); rw [if_neg (by simp)]; refine wpAny_pure ?_
  simp only [show ¬ ((i:Int) < 0) from by omega,if_false,Int.toNat_natCast,Array.getElem?_eq_none ge]; refine wpAny_bind ?_
  (first | refine wpAny_bind (wpAny_typeNameOfWhole_itemiter tI (wpAny_pure ?_)) | refine wpAny_bind (wpAny_typeNameOf_itemiter tI (wpAny_pure ?_)))
  show wpAny _ _ (setField (.ref it) 2 .none >>= _) _ _ s; refine wpAny_bind (wpAny_setField hI rfl (by simp) ?_)
  show wpAny _ _ (newExc (.type "StopIteration") [] >>= _) _ _ _; refine wpAny_bind ?_; simp only [newExc,newTuple]; refine wpAny_bind (wpAny_newObj_type ?_ (by size_fits))
  refine wpAny_bind (m:=firstArgMember _ _) (wpAny_of_eq (a:=Value.none) (by first | rfl | (simp only [firstArgMember]; rfl)) ?_); refine wpAny_newObj_type ?_ (by size_fits)
  simp only [raiseNew]; refine wpAny_bind (wpAny_handled ?_); first | rw [show A.in1.handled=none from nh] | rw [nh]
  refine wpAny_bind (wpAny_pure (wpAny_throw ?_)); refine wpAny_bind (wpAny_isInstance (T:="StopIteration") (b:=true) ⟨_,Heap.get?_push_size _ rfl,rfl⟩ isSubtype_stop ?_)
  exact wpAny_pure (go _ (((Heap.SameBut.update ..).extBut.push _).push _))
end
end L2

namespace L2
open PySem PySem.Spec PyProof.Rows
theorem Inv.freezeD {X:Cx} {pins:List (Addr × Obj)} {σ:St} {H:Hp} {s:Shared} {a:Addr} {kvs:List (List Key × V)} (I:Inv X pins σ H s) (e:H a=some (.dT kvs)):∃ o,Inv X pins σ (upd H a (.frz o (.dT kvs))) s:=by
  obtain ⟨hl,hd,xs,rel,o,es,ep,ho,hx,hdat,hes,nd⟩:=(show yO X.prog X.w H s.heap a (.dT kvs) from I.hok a _ e)
  refine ⟨o,?_⟩
  have:=d_write (h':=s.heap) (t':=s.toks) (ob:=.frz o (.dT kvs)) I (by rw [e]; exact True.intro) ⟨rfl,fun _ _=>rfl⟩ ⟨o,ho⟩ ⟨ho,hl,hd,xs,KT.keeps rel fun c ys ec=>?_,o,es,ep,ho,hx,hdat,hes,nd⟩
  · exact this
  · rw [jn (ne_of ec e (fun z=>nomatch z))]
    exact ec
def tDNewF:TE:=fun _ H Q=>∀ p o,H p=none->Q (.ref p) (upd H p (.frz o (.dT [])))
theorem pe_dnewF {X:Cx} {pos:Pos}:PE X (.Dict [] [] pos) tDNewF:=by
  intro pins s σ H Q I h
  refine thn (pe_dnewT pins s σ H (fun x H1=>∃ p,x = .ref p∧H p=none∧H1=upd H p (.dT [])) I fun p hp=>⟨p,rfl,hp,rfl⟩) fun u s1 hQQ=>?_
  obtain ⟨x,H1,I1,rx,p,rfl,hp,rfl⟩:=hQQ
  obtain ⟨o,I2⟩:=I1.freezeD (kvs:=[]) jv
  rw [upd_upd] at I2
  exact ⟨_,_,I2,rx,h p o hp⟩
def tDFrz (te:TE):TE:=fun σ H Q=>te σ H fun x H1=>∃ a kvs,x = .ref a∧H1 a=some (.dT kvs)∧∀ o,Q x (upd H1 a (.frz o (.dT kvs)))
theorem pe_dfrz {X:Cx} {e:Expr} {te:TE} (h:PE X e te):PE X e (tDFrz te):=by
  intro pins s σ H Q I q
  refine thn (h pins s σ H _ I q) fun u s1 hQQ=>?_
  obtain ⟨x,H1,I1,rx,a,kvs,rfl,ha,q⟩:=hQQ
  obtain ⟨o,I2⟩:=I1.freezeD ha
  exact ⟨_,_,I2,rx,q o⟩
theorem Paired.at {α β:Type} {F:α->β->Prop} {l₁:List α} {l₂:List β} (h:Paired F l₁ l₂):∀ {i:Nat} {x:α},l₁[i]? = some x->∃ y,l₂[i]? = some y∧F x y:=by
  induction h with
  | nil=>intro i x e; simp at e
  | cons r t ih =>
    intro i x e
    cases i with
    | zero=>cases e; exact ⟨_,rfl,r⟩
    | succ i=>exact ih (i:=i) e
theorem entry_ii:entryFor table "dict_itemiterator.__iter__" = some Builtin.«dict_keyiterator.__iter__» :=
  entryFor_alias (id':="dict_keyiterator.__iter__") (by kernel_rfl) (by first | rfl | decide +kernel) (by decide +kernel) (by kernel_rfl)
theorem iter_items {A:Around} {E:Value->Shared->Prop} {s:Shared} {prog:Program} {w:World} {it d:Addr} {i n ep:Nat} {x y:Value} {Q:Value->Shared->Prop} (hI:IsItemIter s.heap it d i n ep x y) (h:Q (.ref it) s):wpAny (model prog w) A (pyIter (.ref it)) Q E s:=by
  have hT:s.TypeIs (.ref it) "dict_itemiterator":=⟨_,hI,rfl⟩
  refine wpAny_pyIter_slot hT F.slot_dict_itemiterator_iter (wpAny_call_entry F.slot_dict_itemiterator_iter hT entry_ii ?_ (F.args_dict_itemiterator_iter_1 _))
  show wpAny _ _ (ret (.ref it)) _ _ s
  exact wpAny_pure ⟨_,rfl,"dict_itemiterator",_,hT,F.slot_dict_itemiterator_next.lookup,h⟩
def Itd (a:Addr) (o:Obj) (kvs:List (List Key × V)):It :=
  ⟨fun i H=>H a=some (.frz o (.dT kvs))∧i < kvs.length,fun i H x H'=>∃ p b kv,x = .ref p∧H p=none∧kvs[i]? = some kv∧H b=some (.tup (kv.1.map kV))∧H'=upd H p (.tup [.ref b,kv.2]),fun i H=>H a=some (.frz o (.dT kvs))∧kvs.length<=i⟩
theorem turn_items {P:Program} {w:World} {K:PySem.W.Frag} {elts:List Expr} {x1:Nat} {pos:Pos} {a it:Addr} {o:Obj} {es:Array DictEntry} {ep:Nat} {kvs:List (List Key × V)} (hd:o.data = .dict es ep) (hz:es.size=kvs.length) :
    Turn P w K (.Tuple elts x1 pos) (Itd a o kvs) [it] it (fun i h=>∃ x y,IsItemIter h it a i es.size ep x y) where
  mem:=by simp
  obj:=fun i h st c hc=>by
    obtain ⟨x,y,hi⟩:=st
    have hc:c=it:=by simpa using hc
    subst hc
    exact ⟨_,hi,fun v e=>by have e:Data.fields _=Data.cell v:=e; cases e⟩
  keep:=fun i h h' st k=>by
    obtain ⟨x,y,hi⟩:=st
    exact ⟨x,y,k it (by simp) _ hi⟩
  item:=by
    intro X hP hw hK hc i pins s σ H E I hf st hg
    subst hP hw hK
    obtain ⟨x,y,hi⟩:=st
    obtain ⟨ha,lt⟩:=hg
    obtain ⟨ho,_,_,xs,rel,o',es',ep',ho',hx',hd',hes,nd⟩:=(show yO X.prog X.w H s.heap a (.frz o (.dT kvs)) from I.hok a _ ha)
    rw [ho] at ho'
    cases ho'
    rw [hd] at hd'
    cases hd'
    have lt2:i < es.size:=by rw [hz]; exact lt
    have fi:=hf it (by simp)
    refine nextD_item hi ho hd lt2 fun h' out tup keep=>?_
    refine ⟨_,rfl,wpAny_letOwnedTupleGo_items (s:={ s with heap:=h' }) out fun h2 he2 sb=>?_⟩
    have hp1:s.heap.objs.size≠it:=fun z=>by
      have:=Heap.lt_size (show s.heap.get? it=some _ from hi)
      rw [<- z] at this
      exact Nat.lt_irrefl _ this
    have I1:Inv X pins σ H { s with heap:=h2 }:=I.turnedL (t':=s.toks) (ch:=[it]) (fun c oc hn q=>by
      have hn:c≠it:=by simpa using hn
      exact (sb.2 c hn).trans (keep c oc hn q)) fun c hc=>by
        have hc:c=it:=by simpa using hc
        rw [hc]
        exact fi
    have fresh:H s.heap.objs.size=none:=I.hok.fresh (Nat.le_refl _)
    have fp:=I.fpOk (Nat.le_refl _) fresh
    have e1:es[i]? = (xs[i]?).map (entryOfKey (tupleKind (yM X.prog X.w))):=entry_at hes i
    obtain ⟨kv,hkv⟩:∃ kv,kvs[i]? = some kv:=⟨_,List.getElem?_eq_getElem lt⟩
    obtain ⟨q,hq,z1,z2,z3⟩:=L2.Paired.at rel hkv
    have e2:es[i]=entryOfKey (tupleKind (yM X.prog X.w)) q:=by
      rw [hq,Array.getElem?_eq_getElem lt2] at e1
      exact Option.some.inj e1
    have kk:es[i].key = .ref q.2.1:=by rw [e2]; rfl
    have kv2:es[i].val=q.2.2:=by rw [e2]; rfl
    have tup2:h2.get? s.heap.objs.size=some { cls:=.type "tuple",data:=.seq #[.ref q.2.1,q.2.2] }:=by
      rw [<- kk,<- kv2]
      exact (sb.2 _ hp1).trans tup
    refine ⟨.ref s.heap.objs.size,upd H s.heap.objs.size (.tup [.ref q.2.1,kv.2]),I1.track fp.np ⟨by show 2<=sizeLine; decide,[.ref q.2.1,q.2.2],.cons rfl (.cons z3 .nil),⟨_,tup2,rfl,_,rfl⟩⟩,rfl,⟨_,q.2.1,kv,rfl,fresh,hkv,z2,rfl⟩,⟨_,_,he2⟩,fun c hc=>?_⟩
    have hc:c=it:=by simpa using hc
    rw [hc,jn (Ne.symm hp1)]
    exact fi.1
  done:=by
    intro X hP hw hK hc i pins s σ H E I hf st hg
    subst hP hw hK
    obtain ⟨x,y,hi⟩:=st
    obtain ⟨ha,ge⟩:=hg
    obtain ⟨ho,_⟩:=(show yO X.prog X.w H s.heap a (.frz o (.dT kvs)) from I.hok a _ ha)
    obtain ⟨f0,f1,f2,f3,f4,f5⟩:=hf it (by simp)
    exact nextD_end (I.ok.hd hc) hi ho hd (by rw [hz]; exact ge) fun h' eb=>⟨rfl,I.turned (t':=s.toks) (fun b o hb q=>eb b o hb q) f0 f1 f3 f4 f5⟩
  self:=fun A i s Q E st h=>by
    obtain ⟨x,y,hi⟩:=st
    exact iter_items hi h
section
variable {X:Cx} {elts:List Expr} {x1:Nat} {tpos:Pos}
def iItems (te:TE):TI:=fun σ H R=>te σ H fun x H1=>∃ a o kvs,x = .ref a∧H1 a=some (.frz o (.dT kvs))∧R (Itd a o kvs) H1
theorem pi_items {l:Expr} {te:TE} {apos cpos:Pos} (he:PE X l te) (hbase:attributeBase l "items" X.env (eval l X.env)=eval l X.env:=by rfl) (hline:(apos.endLine == cpos.line)=true:=by rfl) :
    PI X (.Tuple elts x1 tpos) (.Call (.Attribute l "items" apos) [] [] cpos) (iItems te):=by
  intro pins s σ H R I h
  refine wpAny_Call_method0_late hbase hline (thn (he pins s σ H _ I h) fun v s1 hQQ=>?_)
  obtain ⟨x,H1,I1,rx,a,o,kvs,rfl,ha,q⟩:=hQQ
  obtain rfl:v=Value.ref a:=rx
  obtain ⟨t1,t2,hs⟩:=isD_at I1 (.inr ⟨kvs,.inr ⟨o,ha⟩⟩)
  obtain ⟨ho,_,_,xs,rel,o',es,ep,ho',hx,hd,hes,nd⟩:=(show yO X.prog X.w H1 s1.heap a (.frz o (.dT kvs)) from I1.hok a _ ha)
  rw [ho] at ho'
  cases ho'
  have hz:es.size=kvs.length:=by rw [size_of_entries hes]; exact (Paired.length rel).symm
  refine ⟨"dict","dict.items",PySem.F.plainAttrs_dict,PySem.F.slot_dict_items,PySem.F.type_dict_items,t1,t2,Calls.callWith_builtin rfl (PySem.evalArgs_none ?_)⟩
  refine call_meetsIn PySem.F.slot_dict_items t1 PySem.F.entry_dict_items (PySem.F.args_dict_items_1 _) (meetsD_items a hs) ⟨⟨o,ho,hx⟩,?_⟩
  have up:∀ b ob,s1.heap.get? b=some ob->(s1.heap.push { cls:=.type "dict_items",data:=.fields #[.ref a] }).get? b=some ob:=fun b ob e=>Heap.get?_push_of_some _ e
  refine iterD (od:=o) (es:=es) (ep:=ep) ⟨_,Heap.get?_push_size _ rfl,rfl,rfl⟩ (up _ _ ho) hd ?_
  have sz:(s1.heap.push { cls:=.type "dict_items",data:=.fields #[.ref a] }).objs.size=s1.heap.objs.size + 1:=Heap.size_push ..
  refine ⟨_,[_],_,_,H1,rfl,I1.kept (t':=s1.toks) (fun b ob e=>Heap.get?_push_of_some _ (up b ob e)),turn_items hd hz,⟨_,_,Heap.get?_push_size _ rfl⟩,fun c hc=>?_,q⟩
  have hc:c=(s1.heap.push { cls:=.type "dict_items",data:=.fields #[.ref a] }).objs.size:=by simpa using hc
  have le:s1.heap.objs.size<=c:=by rw [hc,sz]; exact Nat.le_succ _
  exact I1.fpOk le (I1.hok.fresh le)
end
end L2

set_option maxHeartbeats 4000000

namespace L3
open PySem L2
inductive PV where
 | non | bl (b:Bool) | int (i:Int) | str (x:Str) | ty (n:String)
 | tup (xs:List PV) | lst (xs:List PV)
  | scr (ns:List Int)
  | top (k:Nat)
  | exn (k:Nat)
  | dct (kvs:List (List Int × Int))
  | ref (i:Nat)
inductive Cell where
 | lst (xs:List PV)
 | dct (kvs:List (List Int × Int))
 | ins (k:Nat) (fs:List (Str × PV))
structure Sto where
 n:Nat
 g:Nat->Option Cell
def Sto.set (M:Sto) (i:Nat) (c:Cell):Sto:=⟨M.n,fun j=>if j=i then some c else M.g j⟩
def Sto.new (M:Sto) (c:Cell):Sto:=⟨M.n + 1,fun j=>if j=M.n then some c else M.g j⟩
def Sto.drop (M:Sto) (i:Nat):Sto:=⟨M.n,fun j=>if j=i then none else M.g j⟩
theorem Sto.set_same {M:Sto} {i:Nat} {c:Cell}:(M.set i c).g i=some c:=if_pos rfl
theorem Sto.set_ne {M:Sto} {i j:Nat} {c:Cell} (h:j≠i):(M.set i c).g j=M.g j:=if_neg h
theorem Sto.new_same {M:Sto} {c:Cell}:(M.new c).g M.n=some c:=if_pos rfl
theorem Sto.new_ne {M:Sto} {j:Nat} {c:Cell} (h:j≠M.n):(M.new c).g j=M.g j:=if_neg h
structure Tb where
 K:PySem.W.Frag
 C:Nat->Addr
structure Wd where
 T:Tb
 F:Hp
 α:Nat->Option Addr
 G:Hp
structure Wd.le0 (W W':Wd):Prop where
 k:W'.T=W.T
 f:∀ a o,W.F a=some o->W'.F a=some o
 a:∀ i a,W.α i=some a->W'.α i=some a
structure Wd.le (W W':Wd):Prop extends toLe0:Wd.le0 W W' where
 g:W'.G=W.G
theorem Wd.le0.trans {A B C:Wd} (h:A.le0 B) (k:B.le0 C):A.le0 C:=⟨k.k.trans h.k,fun a o e=>k.f a o (h.f a o e),fun i a e=>k.a i a (h.a i a e)⟩
theorem Wd.le.refl (W:Wd):W.le W:=⟨⟨rfl,fun _ _ e=>e,fun _ _ e=>e⟩,rfl⟩
theorem Wd.le.trans {A B C:Wd} (h:A.le B) (k:B.le C):A.le C:=⟨h.toLe0.trans k.toLe0,k.g.trans h.g⟩
def vk (l:List (List Int × Int)):List (List Key × V):=l.map fun p=>(p.1.map Sum.inl,V.int p.2)
mutual
def Rep (W:Wd):PV->V->Prop
 | .non,v=>v = .non
 | .bl b,v=>v = .bl b
 | .int i,v=>v = .int i
 | .str x,v=>v = .str x
 | .ty n,v=>v = .ty n
 | .top k,v=>v = .ref (W.T.C k)
 | .exn k,v=>∃ a,v = .ref a∧W.F a=some (excO a (W.T.C k))
 | .dct l,v=>∃ a o,v = .ref a∧W.F a=some (.frz o (.dT (vk l)))
 | .scr ns,v=>∃ a,v = .ref a∧SqL W.T.K W.F a (ns.map V.int)∧ns.length<=63
 | .ref i,v=>∃ a,v = .ref a∧W.α i=some a
 | .tup xs,v=>∃ a vs,v = .ref a∧SqT W.T.K W.F a vs∧yj W xs vs
 | .lst xs,v=>∃ a vs,v = .ref a∧W.F a=some (.lst vs)∧yj W xs vs
def yj (W:Wd):List PV->List V->Prop
 | [],vs=>vs=[]
 | x :: xs,vs=>∃ v r,vs=v :: r∧Rep W x v∧yj W xs r
end
theorem seqT {K:PySem.W.Frag} {H H':Hp} {a:Addr} {xs:List V} (e:Same H H') (h:SqT K H a xs):SqT K H' a xs:=by
 rcases h with (h | ⟨o,h⟩) | h
 ·exact .inl (.inl (e _ _ h))
 ·exact .inl (.inr ⟨o,e _ _ h⟩)
 ·exact .inr h
mutual
theorem Rep.up0 {W W':Wd} (h:W.le0 W'):∀ {x:PV} {v:V},Rep W x v->Rep W' x v
 | .non,_,r=>r
 | .bl _,_,r=>r
 | .int _,_,r=>r
 | .str _,_,r=>r
 | .ty _,_,r=>r
 | .top k,_,r=>by
  show _=V.ref (W'.T.C k);rw [h.k];exact r
 | .exn k,_,⟨a,e,q⟩=>⟨a,e,by rw [h.k]; exact h.f _ _ q⟩
 | .dct _,_,⟨a,o,e,q⟩=>⟨a,o,e,h.f _ _ q⟩
 | .scr _,_,⟨a,e,q,z⟩=>⟨a,e,by rw [h.k]; exact (show Same W.F W'.F from h.f).seq q,z⟩
 | .ref _,_,⟨a,e,q⟩=>⟨a,e,h.a _ _ q⟩
 | .tup _,_,⟨a,vs,e,q,r⟩=>⟨a,vs,e,by rw [h.k]; exact seqT h.f q,yj.up0 h r⟩
 | .lst _,_,⟨a,vs,e,q,r⟩=>⟨a,vs,e,h.f _ _ q,yj.up0 h r⟩
theorem yj.up0 {W W':Wd} (h:W.le0 W'):∀ {xs:List PV} {vs:List V},yj W xs vs->yj W' xs vs
 | [],_,r=>r
 | _ :: _,_,⟨v,r,e,a,b⟩=>⟨v,r,e,Rep.up0 h a,yj.up0 h b⟩
end
theorem Rep.up {W W':Wd} (h:W.le W') {x:PV} {v:V} (r:Rep W x v):Rep W' x v:=r.up0 h.toLe0
theorem yj.up {W W':Wd} (h:W.le W') {x:List PV} {v:List V} (r:yj W x v):yj W' x v:=r.up0 h.toLe0
theorem yj.length {W:Wd}:∀ {xs:List PV} {vs:List V},yj W xs vs->vs.length=xs.length
 | [],_,r=>by cases r; rfl
 | _ :: _,_,⟨v,r,e,_,b⟩=>by subst e; simp [yj.length b]
theorem yj.append {W:Wd}:∀ {xs:List PV} {vs:List V} {ys:List PV} {us:List V},yj W xs vs->yj W ys us->yj W (xs ++ ys) (vs ++ us)
 | [],_,_,_,r,q=>by cases r; exact q
 | _ :: _,_,_,_,⟨v,r,e,a,b⟩,q=>by subst e; exact ⟨v,_,rfl,a,yj.append b q⟩
theorem yj.get {W:Wd}:∀ {xs:List PV} {vs:List V} {i:Nat} {x:PV},yj W xs vs->xs[i]? = some x->∃ v,vs[i]? = some v∧Rep W x v
 | [],_,_,_,_,e=>by simp at e
 | _ :: _,_,0,_,⟨v,r,e,a,_⟩,q=>by simp at q; subst q; subst e; exact ⟨v,rfl,a⟩
 | _ :: _,_,i + 1,_,⟨v,r,e,_,b⟩,q=>by
  subst e;obtain ⟨u,h1,h2⟩:=yj.get (i:=i) b (by simpa using q);exact ⟨u,by simpa using h1,h2⟩
theorem yj.drop {W:Wd}:∀ {xs:List PV} {vs:List V} (n:Nat),yj W xs vs->yj W (xs.drop n) (vs.drop n)
 | _,_,0,r=>r
 | [],_,n + 1,r=>by cases r; rfl
 | _ :: _,_,n + 1,⟨v,r,e,_,b⟩=>by subst e; exact yj.drop n b
theorem yj.take {W:Wd}:∀ {xs:List PV} {vs:List V} (n:Nat),yj W xs vs->yj W (xs.take n) (vs.take n)
 | _,_,0,r=>by simp [yj]
 | [],_,n + 1,r=>by cases r; rfl
 | _ :: _,_,n + 1,⟨v,r,e,a,b⟩=>by subst e; exact ⟨v,_,rfl,a,yj.take n b⟩
theorem yj.set {W:Wd} {x:PV} {v:V} (h:Rep W x v):∀ {xs:List PV} {vs:List V} (n:Nat),yj W xs vs->yj W (xs.set n x) (vs.set n v)
 | [],_,n,r=>by cases r; rfl
 | _ :: _,_,0,⟨u,r,e,a,b⟩=>by subst e; exact ⟨v,_,rfl,h,b⟩
 | _ :: _,_,n + 1,⟨u,r,e,a,b⟩=>by subst e; exact ⟨u,_,rfl,a,yj.set h n b⟩
theorem yj.rep {W:Wd} {xs:List PV} {vs:List V} (h:yj W xs vs):∀ n:Nat,yj W (List.replicate n xs).flatten (List.replicate n vs).flatten
 | 0=>rfl
 | n + 1=>by
  rw [List.replicate_succ,List.replicate_succ,List.flatten_cons,List.flatten_cons];exact yj.append h (yj.rep h n)
theorem yj.erase {W:Wd}:∀ {xs:List PV} {vs:List V} (n:Nat),yj W xs vs->yj W (xs.eraseIdx n) (vs.eraseIdx n)
 | [],_,n,r=>by cases r; rfl
 | _ :: _,_,0,⟨u,r,e,a,b⟩=>by subst e; exact b
 | _ :: _,_,n + 1,⟨u,r,e,a,b⟩=>by subst e; exact ⟨u,_,rfl,a,yj.erase n b⟩
theorem yj.ints {W:Wd}:∀ {ns:List Int} {vs:List V},yj W (ns.map PV.int) vs↔vs=ns.map V.int
 | [],_=>Iff.rfl
 | n :: ns,vs=>by
  constructor
  ·rintro ⟨v,r,e,a,b⟩;have a:v = .int n:=a;rw [e,a,yj.ints.mp b];rfl
  ·rintro rfl;exact ⟨_,_,rfl,rfl,yj.ints.mpr rfl⟩
theorem yj.bools {W:Wd}:∀ {ns:List Bool} {vs:List V},yj W (ns.map PV.bl) vs↔vs=ns.map V.bl
 | [],_=>Iff.rfl
 | n :: ns,vs=>by
  constructor
  ·rintro ⟨v,r,e,a,b⟩;have a:v = .bl n:=a;rw [e,a,yj.bools.mp b];rfl
  ·rintro rfl;exact ⟨_,_,rfl,rfl,yj.bools.mpr rfl⟩
def uD (W:Wd):List (Str × PV)->List (Str × V)->Prop
 | [],vs=>vs=[]
 | p :: xs,vs=>∃ v r,vs=(p.1,v) :: r∧Rep W p.2 v∧uD W xs r
theorem uD.up0 {W W':Wd} (h:W.le0 W'):∀ {xs:List (Str × PV)} {vs:List (Str × V)},uD W xs vs->uD W' xs vs
 | [],_,r=>r
 | _ :: _,_,⟨v,r,e,a,b⟩=>⟨v,r,e,a.up0 h,uD.up0 h b⟩
theorem uD.get {W:Wd} {f:Str}:∀ {xs:List (Str × PV)} {vs:List (Str × V)},uD W xs vs->∀ {x:PV},xs.lookup f=some x->∃ v,vs.lookup f=some v∧Rep W x v
 | [],_,_,_,e=>by simp at e
 | p :: xs,_,⟨v,r,e,a,b⟩,x,q=>by
  subst e;rw [List.lookup_cons] at q ⊢
  by_cases h:(f == p.1)=true
  ·rw [h] at q ⊢;cases q;exact ⟨v,rfl,a⟩
  ·rw [Bool.not_eq_true] at h;rw [h] at q ⊢;exact uD.get b q
theorem uD.none {W:Wd} {f:Str}:∀ {xs:List (Str × PV)} {vs:List (Str × V)},uD W xs vs->xs.lookup f=none->vs.lookup f=none
 | [],_,e,_=>by cases e; rfl
 | p :: xs,_,⟨v,r,e,a,b⟩,q=>by
  subst e;rw [List.lookup_cons] at q ⊢
  by_cases h:(f == p.1)=true
  ·rw [h] at q;cases q
  ·rw [Bool.not_eq_true] at h;rw [h] at q ⊢;exact uD.none b q
theorem uD.length {W:Wd}:∀ {xs:List (Str × PV)} {vs:List (Str × V)},uD W xs vs->vs.length=xs.length
 | [],_,e=>by cases e; rfl
 | _ :: _,_,⟨_,_,e,_,b⟩=>by subst e; simp [uD.length b]
def uq (f:Str) (v:PV):List (Str × PV)->List (Str × PV)
 | []=>[(f,v)]
 | p :: r=>if f == p.1 then (p.1,v) :: r else p :: uq f v r
def RepC (W:Wd):Cell->HO->Prop
 | .lst xs,o=>∃ vs,o = .lst vs∧yj W xs vs
 | .dct l,o=>o = .dT (vk l)
 | .ins k fs,o=>∃ dx vs,o = .ins (W.T.C k) dx vs∧uD W fs vs
theorem RepC.up0 {W W':Wd} (h:W.le0 W'):∀ {c:Cell} {o:HO},RepC W c o->RepC W' c o
 | .lst _,_,⟨vs,e,r⟩=>⟨vs,e,r.up0 h⟩
 | .dct _,_,r=>r
 | .ins _ _,_,⟨dx,vs,e,r⟩=>⟨dx,vs,by rw [h.k]; exact e,r.up0 h⟩
theorem RepC.up {W W':Wd} (h:W.le W') {c:Cell} {o:HO} (r:RepC W c o):RepC W' c o:=r.up0 h.toLe0
structure Held (W:Wd) (M:Sto) (H:Hp):Prop where
 f:∀ a o,W.F a=some o->H a=some o
 m:∀ i c,M.g i=some c->∃ a o,W.α i=some a∧W.F a=none∧H a=some o∧RepC W c o
 inj:∀ i j a c c',M.g i=some c->M.g j=some c'->W.α i=some a->W.α j=some a->i=j
 top:∀ i,M.n<=i->W.α i=none
 gd:∀ a o,W.G a=some o->H a=some o∧W.F a=none∧∀ i c,M.g i=some c->W.α i≠some a
 gl:∀ a o,W.G a=some o->∀ vs,o≠.tup vs
def Wd.frz (W:Wd) (l:Addr) (o:HO):Wd:=⟨W.T,L2.upd W.F l o,W.α,W.G⟩
theorem Held.Fnone {W:Wd} {M:Sto} {H:Hp} {l:Addr} (h:Held W M H) (e:H l=none):W.F l=none:=by
 cases q:W.F l with
 | none=>rfl
 | some o =>
  rw [h.f l o q] at e;cases e
theorem Wd.le_frz {W:Wd} {l:Addr} {o:HO} (e:W.F l=none):W.le (W.frz l o) :=
 ⟨⟨rfl,fun a u q=>by
  show L2.upd W.F l o a=some u;rw [jn (fun z:a=l=>by rw [z,e] at q; cases q)]
  exact q,fun _ _ q=>q⟩,rfl⟩
theorem Held.frz {W:Wd} {M:Sto} {H:Hp} {l:Addr} {o:HO} (h:Held W M H) (e:H l=none):W.le (W.frz l o)∧Held (W.frz l o) M (L2.upd H l o)∧(W.frz l o).F l=some o:=by
 have le:=Wd.le_frz (o:=o) (h.Fnone e);refine ⟨le,⟨fun a u q=>?_,fun i c q=>?_,h.inj,h.top,fun a u q=>?_,h.gl⟩,jv⟩
 rotate_left 2
 ·obtain ⟨h1,h2,h3⟩:=h.gd a u q;have z:a≠l:=jy h1 e;refine ⟨by rw [jn z]; exact h1,?_,h3⟩;show L2.upd W.F l o a=none;rw [jn z];exact h2
 ·have q:L2.upd W.F l o a=some u:=q
  by_cases z:a=l
  ·subst z;rw [jv] at q ⊢;exact q
  ·rw [jn z] at q ⊢;exact h.f a u q
 ·obtain ⟨a,u,h1,h2,h3,h4⟩:=h.m i c q;have z:a≠l:=jy h3 e;refine ⟨a,u,h1,?_,by rw [jn z]; exact h3,h4.up le⟩;show L2.upd W.F l o a=none;rw [jn z];exact h2
def Wd.put (W:Wd) (n:Nat) (l:Addr):Wd:=⟨W.T,W.F,fun i=>if i=n then some l else W.α i,W.G⟩
theorem Held.le_put {W:Wd} {M:Sto} {H:Hp} {l:Addr} (h:Held W M H):W.le (W.put M.n l) :=
 ⟨⟨rfl,fun _ _ q=>q,fun i a q=>by
  show (if i=M.n then some l else W.α i)=some a;rw [if_neg (fun z=>by rw [z,h.top _ (Nat.le_refl _)] at q; cases q)]
  exact q⟩,rfl⟩
theorem Held.put {W:Wd} {M:Sto} {H:Hp} {l:Addr} {o:HO} {c:Cell} (h:Held W M H) (e:H l=none) (r:RepC W c o):W.le (W.put M.n l)∧Held (W.put M.n l) (M.new c) (L2.upd H l o)∧(W.put M.n l).α M.n=some l:=by
 have le:=h.le_put (l:=l);have fl:=h.Fnone e;refine ⟨le,⟨fun a u q=>?_,fun i c' q=>?_,fun i j a c1 c2 q1 q2 e1 e2=>?_,fun i hi=>?_,fun a u q=>?_,h.gl⟩,if_pos rfl⟩
 rotate_left 4
 ·obtain ⟨h1,h2,h3⟩:=h.gd a u q;have z:a≠l:=jy h1 e;refine ⟨by rw [jn z]; exact h1,h2,fun i c' qi=>?_⟩;show (if i=M.n then some l else W.α i)≠some a
  by_cases hi:i=M.n
  ·rw [if_pos hi];exact fun w=>z (Option.some.inj w).symm
  ·rw [if_neg hi];rw [Sto.new_ne hi] at qi;exact h3 i c' qi
 ·have q:W.F a=some u:=q;rw [jn (fun z:a=l=>by rw [z,fl] at q; cases q)];exact h.f a u q
 ·by_cases z:i=M.n
  ·subst z;rw [Sto.new_same] at q;cases q;exact ⟨l,o,if_pos rfl,fl,jv,r.up le⟩
  ·rw [Sto.new_ne z] at q;obtain ⟨a,u,h1,h2,h3,h4⟩:=h.m i c' q;exact ⟨a,u,le.a _ _ h1,h2,by rw [jn (jy h3 e)]; exact h3,h4.up le⟩
 ·have e1:(if i=M.n then some l else W.α i)=some a:=e1;have e2:(if j=M.n then some l else W.α j)=some a:=e2
  by_cases z1:i=M.n
  ·by_cases z2:j=M.n
   ·rw [z1,z2]
   ·rw [if_pos z1] at e1;rw [if_neg z2] at e2;rw [Sto.new_ne z2] at q2;obtain ⟨b,u,g1,_,g3,_⟩:=h.m j c2 q2;rw [e2] at g1;cases g1;cases e1;rw [e] at g3;cases g3
  ·rw [if_neg z1] at e1;rw [Sto.new_ne z1] at q1
   by_cases z2:j=M.n
   ·rw [if_pos z2] at e2;obtain ⟨b,u,g1,_,g3,_⟩:=h.m i c1 q1;rw [e1] at g1;cases g1;cases e2;rw [e] at g3;cases g3
   ·rw [if_neg z2] at e2;rw [Sto.new_ne z2] at q2;exact h.inj i j a c1 c2 q1 q2 e1 e2
 ·show (if i=M.n then some l else W.α i)=none;have hi:M.n + 1<=i:=hi;rw [if_neg (by omega)];exact h.top i (by omega)
theorem Held.upd {W:Wd} {M:Sto} {H:Hp} {i:Nat} {a:Addr} {c c':Cell} {o:HO} (h:Held W M H) (e:M.g i=some c) (ea:W.α i=some a) (r:RepC W c' o):Held W (M.set i c') (L2.upd H a o):=by
 obtain ⟨b,u,g1,g2,g3,g4⟩:=h.m i c e;rw [ea] at g1;cases g1
 have live:∀ {j c1},(M.set i c').g j=some c1->∃ c2,M.g j=some c2:=fun {j c1} q=>by
  by_cases z:j=i
  ·exact ⟨c,by rw [z]; exact e⟩
  ·rw [Sto.set_ne z] at q;exact ⟨_,q⟩
 refine ⟨fun b u q=>?_,fun j c1 q=>?_,fun j k b c1 c2 q1 q2 e1 e2=>?_,h.top,fun b u q=>?_,h.gl⟩
 rotate_left 3
 ·obtain ⟨h1,h2,h3⟩:=h.gd b u q;refine ⟨?_,h2,fun j c1 qj=>?_⟩
  ·rw [jn (fun z:b=a=>h3 i c e (z ▸ ea))];exact h1
  ·obtain ⟨d1,w1⟩:=live qj;exact h3 j d1 w1
 ·rw [jn (fun z:b=a=>by rw [z,g2] at q; cases q)];exact h.f b u q
 ·by_cases z:j=i
  ·subst z;rw [Sto.set_same] at q;cases q;exact ⟨a,o,ea,g2,jv,r⟩
  ·rw [Sto.set_ne z] at q;obtain ⟨b,u',h1,h2,h3,h4⟩:=h.m j c1 q;refine ⟨b,u',h1,h2,?_,h4⟩;rw [jn (fun zz:b=a=>z (h.inj j i a c1 c q e (zz ▸ h1) ea))];exact h3
 ·obtain ⟨d1,w1⟩:=live q1;obtain ⟨d2,w2⟩:=live q2;exact h.inj j k b d1 d2 w1 w2 e1 e2
theorem Held.drop {W:Wd} {M:Sto} {H:Hp} (h:Held W M H) (i:Nat):Held W (M.drop i) H:=by
 have sub:∀ {j c},(M.drop i).g j=some c->M.g j=some c:=fun {j c} q=>by
  have q:(if j=i then none else M.g j)=some c:=q
  by_cases z:j=i
  ·rw [if_pos z] at q; cases q
  ·rwa [if_neg z] at q
 exact ⟨h.f,fun j c q=>h.m j c (sub q),fun j k b c1 c2 q1 q2=>h.inj j k b c1 c2 (sub q1) (sub q2),h.top,fun a o q=>⟨(h.gd a o q).1,(h.gd a o q).2.1,fun j c qj=>(h.gd a o q).2.2 j c (sub qj)⟩,h.gl⟩
theorem Held.freeze {W:Wd} {M:Sto} {H:Hp} {i:Nat} {a:Addr} {xs:List PV} (h:Held W M H) (e:M.g i=some (.lst xs)) (ea:W.α i=some a) :
  ∃ vs,H a=some (.lst vs)∧W.le (W.frz a (.lst vs))∧Held (W.frz a (.lst vs)) (M.drop i) H∧Rep (W.frz a (.lst vs)) (.lst xs) (.ref a):=by
 obtain ⟨b,u,g1,g2,g3,vs,rfl,rv⟩:=h.m i _ e;rw [ea] at g1;cases g1;have le:=Wd.le_frz (o:=.lst vs) g2;refine ⟨vs,g3,le,⟨fun b u q=>?_,fun j c q=>?_,fun j k b c1 c2 q1 q2 e1 e2=>?_,h.top,fun b u q=>?_,h.gl⟩,a,vs,rfl,jv,rv.up le⟩
 rotate_left 3
 ·obtain ⟨h1,h2,h3⟩:=(h.drop i).gd b u q;refine ⟨h1,?_,h3⟩;show L2.upd W.F a (.lst vs) b=none;rw [jn (fun z:b=a=>(h.gd b u q).2.2 i _ e (z ▸ ea))];exact h2
 ·have q:L2.upd W.F a (.lst vs) b=some u:=q
  by_cases z:b=a
  ·subst z;rw [jv] at q;cases q;exact g3
  ·rw [jn z] at q;exact h.f b u q
 ·have q:(if j=i then none else M.g j)=some c:=q
  by_cases z:j=i
  ·rw [if_pos z] at q; cases q
  ·rw [if_neg z] at q;obtain ⟨b,u',h1,h2,h3,h4⟩:=h.m j c q;refine ⟨b,u',h1,?_,h3,h4.up le⟩;show L2.upd W.F a (.lst vs) b=none;rw [jn (fun zz:b=a=>z (h.inj j i a c _ q e (zz ▸ h1) ea))];exact h2
 ·have hd:=h.drop i;exact hd.inj j k b c1 c2 q1 q2 e1 e2
def Wd.gd (W:Wd) (l:Addr) (o:HO):Wd:=⟨W.T,W.F,W.α,L2.upd W.G l o⟩
theorem Wd.le0_gd {W:Wd} {l:Addr} {o:HO}:W.le0 (W.gd l o):=⟨rfl,fun _ _ e=>e,fun _ _ e=>e⟩
theorem Held.guardO {W:Wd} {M:Sto} {H:Hp} {l:Addr} {o':HO} (no:∀ vs,o'≠.tup vs) (h:Held W M H) (e:H l=none):Held (W.gd l o') M (L2.upd H l o'):=by
 have nl:∀ {b u},H b=some u->b≠l:=fun q=>jy q e;refine ⟨fun b u q=>by rw [jn (nl (h.f b u q))]; exact h.f b u q,fun i c q=>?_,h.inj,h.top,fun b u q=>?_,fun b u q=>?_⟩
 rotate_left 2
 ·have q:L2.upd W.G l o' b=some u:=q
  by_cases z:b=l
  ·subst z;rw [jv] at q;cases q;exact no
  ·rw [jn z] at q;exact h.gl b u q
 ·obtain ⟨a,u,h1,h2,h3,h4⟩:=h.m i c q;exact ⟨a,u,h1,h2,by rw [jn (nl h3)]; exact h3,h4.up0 Wd.le0_gd⟩
 ·have q:L2.upd W.G l o' b=some u:=q
  by_cases z:b=l
  ·subst z;rw [jv] at q;cases q;refine ⟨jv,h.Fnone e,fun i c qi w=>?_⟩;obtain ⟨a,u,h1,h2,h3,h4⟩:=h.m i c qi;have w:W.α i=some b:=w;rw [w] at h1;cases h1;rw [e] at h3;cases h3
  ·rw [jn z] at q;obtain ⟨h1,h2,h3⟩:=h.gd b u q;exact ⟨by rw [jn z]; exact h1,h2,h3⟩
theorem Held.guard {W:Wd} {M:Sto} {H:Hp} {l:Addr} {ws:List V} (h:Held W M H) (e:H l=none):Held (W.gd l (.lst ws)) M (L2.upd H l (.lst ws)):=Held.guardO (fun _ z=>nomatch z) h e
theorem Held.reguardO {W:Wd} {M:Sto} {H:Hp} {l:Addr} {o o':HO} (no:∀ vs,o'≠.tup vs) (h:Held W M H) (e:W.G l=some o):Held (W.gd l o') M (L2.upd H l o'):=by
 obtain ⟨g1,g2,g3⟩:=h.gd l o e;refine ⟨fun b w q=>?_,fun i c q=>?_,h.inj,h.top,fun b w q=>?_,fun b w q=>?_⟩
 rotate_left 3
 ·have q:L2.upd W.G l o' b=some w:=q
  by_cases z:b=l
  ·subst z;rw [jv] at q;cases q;exact no
  ·rw [jn z] at q;exact h.gl b w q
 ·rw [jn (fun z:b=l=>by
   have q:W.F b=some w:=q;rw [z,g2] at q
   cases q)]
  exact h.f b w q
 ·obtain ⟨a,w,h1,h2,h3,h4⟩:=h.m i c q;exact ⟨a,w,h1,h2,by rw [jn (fun z:a=l=>g3 i c q (z ▸ h1))]; exact h3,h4.up0 Wd.le0_gd⟩
 ·have q:L2.upd W.G l o' b=some w:=q
  by_cases z:b=l
  ·subst z;rw [jv] at q;cases q;exact ⟨jv,g2,g3⟩
  ·rw [jn z] at q;obtain ⟨h1,h2,h3⟩:=h.gd b w q;exact ⟨by rw [jn z]; exact h1,h2,h3⟩
theorem Held.reguard {W:Wd} {M:Sto} {H:Hp} {l:Addr} {o:HO} {ws:List V} (h:Held W M H) (e:W.G l=some o):Held (W.gd l (.lst ws)) M (L2.upd H l (.lst ws)):=Held.reguardO (fun _ z=>nomatch z) h e
def Wd.out (W:Wd) (G0:Hp) (l:Addr) (o:HO):Wd:=⟨W.T,L2.upd W.F l o,W.α,G0⟩
theorem Held.unguard {W:Wd} {M:Sto} {H G0:Hp} {l:Addr} {o:HO} (h:Held W M H) (e:W.G l=some o) (hg:∀ b u,G0 b=some u->W.G b=some u∧b≠l):W.le0 (W.out G0 l o)∧Held (W.out G0 l o) M H:=by
 obtain ⟨g1,g2,g3⟩:=h.gd l o e
 have le:W.le0 (W.out G0 l o):=⟨rfl,(Wd.le_frz (o:=o) g2).f,fun _ _ e=>e⟩
 refine ⟨le,fun b u q=>?_,fun i c q=>?_,h.inj,h.top,fun b u q=>?_,fun b u q=>h.gl b u (hg b u q).1⟩
 ·have q:L2.upd W.F l o b=some u:=q
  by_cases z:b=l
  ·subst z;rw [jv] at q;cases q;exact g1
  ·rw [jn z] at q;exact h.f b u q
 ·obtain ⟨a,w,h1,h2,h3,h4⟩:=h.m i c q;refine ⟨a,w,h1,?_,h3,h4.up0 le⟩;show L2.upd W.F l o a=none;rw [jn (fun z:a=l=>g3 i c q (z ▸ h1))];exact h2
 ·obtain ⟨q1,z⟩:=hg b u q;obtain ⟨h1,h2,h3⟩:=h.gd b u q1;refine ⟨h1,?_,h3⟩;show L2.upd W.F l o b=none;rw [jn z];exact h2
def Wd.outN (W:Wd) (G0:Hp) (n:Nat) (l:Addr):Wd:=⟨W.T,W.F,fun i=>if i=n then some l else W.α i,G0⟩
theorem Held.adopt {W:Wd} {M:Sto} {H:Hp} {b:Addr} {vs:List V} (h:Held W M H) (e:H b=some (.tup vs)):∃ W',W.le W'∧Held W' M H∧W'.F b=some (.tup vs):=by
 cases q:W.F b with
 | some u =>
  have:=h.f b u q
  rw [e] at this;cases this;exact ⟨W,.refl W,h,q⟩
 | none =>
  have le:=Wd.le_frz (o:=.tup vs) q;refine ⟨W.frz b (.tup vs),le,⟨fun c u z=>?_,fun i c z=>?_,h.inj,h.top,fun c u z=>?_,h.gl⟩,jv⟩
  ·have z:L2.upd W.F b (.tup vs) c=some u:=z
   by_cases y:c=b
   ·subst y;rw [jv] at z;cases z;exact e
   ·rw [jn y] at z;exact h.f c u z
  ·obtain ⟨a,u,h1,h2,h3,h4⟩:=h.m i c z
   have na:a≠b:=fun y=>by
    subst y;rw [e] at h3;cases h3
    cases c with
    | lst xs=>obtain ⟨_,z,_⟩:=h4; cases z
    | dct l=>cases h4
    | ins k fs=>obtain ⟨_,_,z,_⟩:=h4; cases z
   refine ⟨a,u,h1,?_,h3,h4.up le⟩;show L2.upd W.F b _ a=none;rw [jn na];exact h2
  ·obtain ⟨h1,h2,h3⟩:=h.gd c u z
   have nc:c≠b:=fun y=>by
    subst y;rw [e] at h1;cases h1;exact h.gl c _ z vs rfl
   refine ⟨h1,?_,h3⟩;show L2.upd W.F b _ c=none;rw [jn nc];exact h2
end L3

namespace L3
open PySem L2
inductive Res (α:Type) where
 | ok (a:α) (M:Sto) | exc (k:Nat) (M:Sto) | bad
def Res.bind {α β:Type} (r:Res α) (k:α->Sto->Res β):Res β:=match r with
 | .ok a M=>k a M
 | .exc c M=>.exc c M
 | .bad=>.bad
@[simp] theorem Res.bind_ok {α β : Type} {a : α} {M : Sto} {k : α -> Sto -> Res β} : (Res.ok a M).bind k = k a M := rfl
@[simp] theorem Res.bind_exc {α β : Type} {c : Nat} {M : Sto} {k : α -> Sto -> Res β} : (Res.exc c M).bind k = .exc c M := rfl
@[simp] theorem Res.bind_bad {α β : Type} {k : α -> Sto -> Res β} : (Res.bad).bind k = .bad := rfl
def ofO {α:Type} (o:Option α) (M:Sto):Res α:=match o with
 | some z=>.ok z M
 | none=>.bad
@[simp] theorem jB {α : Type} {z : α} {M : Sto} : ofO (some z) M = .ok z M := rfl
@[simp] theorem ofO_none {α : Type} {M : Sto} : ofO (none : Option α) M = .bad := rfl
abbrev En:=List (Option PV)
abbrev DE:=En->Sto->Res PV
abbrev DT:=En->Sto->Res Bool
abbrev DA:=En->Sto->Res (List PV)
def xu (W:Wd) (ρ:En) (σ:St):Prop:=σ.length=ρ.length∧∀ (i:Nat) (x:PV),ρ[i]? = some (some x)->∃ v,σ[i]? = some (some v)∧Rep W x v
theorem xu.up {W W':Wd} {ρ:En} {σ:St} (h:xu W ρ σ) (le:W.le W'):xu W' ρ σ:=⟨h.1,fun i x e=>by
 obtain ⟨v,e1,r⟩:=h.2 i x e
 exact ⟨v,e1,r.up le⟩⟩
theorem xu.set {W:Wd} {ρ:En} {σ:St} {i:Nat} {x:PV} {v:V} (h:xu W ρ σ) (r:Rep W x v):xu W (ρ.set i (some x)) (σ.set i (some v)):=by
 refine ⟨by simpa using h.1,fun j y e=>?_⟩
 by_cases hj:i=j
 ·subst hj
  have hi:i < ρ.length:=by
   have:=(List.getElem?_eq_some_iff.mp e).1
   simpa using this
  rw [List.getElem?_set_self hi] at e;cases e;exact ⟨v,List.getElem?_set_self (by rw [h.1]; exact hi),r⟩
 ·rw [List.getElem?_set_ne hj] at e;obtain ⟨u,e1,q⟩:=h.2 j y e;exact ⟨u,by rw [List.getElem?_set_ne hj]; exact e1,q⟩
def yo {α β:Type} (W:Wd) (R:Wd->α->β->Prop) (r:Res α) (Q:β->Hp->Prop) (E:XK):Prop:=match r with
 | .ok a M=>∀ W' H' b,W.le W'->Held W' M H'->R W' a b->Q b H'
 | .exc k M=>∀ W' H',W.le W'->Held W' M H'->E (.ref (W.T.C k)) none H'
 | .bad=>False
theorem yo.up {α β:Type} {W W':Wd} {R:Wd->α->β->Prop} {r:Res α} {Q:β->Hp->Prop} {E:XK} (h:yo W R r Q E) (le:W.le W'):yo W' R r Q E:=by
 cases r with
 | ok a M=>exact fun W2 H2 b l2 h2 r2=>h W2 H2 b (le.trans l2) h2 r2
 | exc k M =>
  intro W2 H2 l2 h2
  have:=h W2 H2 (le.trans l2) h2
  rw [le.k];exact this
 | bad=>exact h.elim
theorem yo.bind {α β γ δ:Type} {W:Wd} {R1:Wd->α->β->Prop} {R2:Wd->γ->δ->Prop} {r:Res α} {k:α->Sto->Res γ} {Q:δ->Hp->Prop} {Q1:β->Hp->Prop} {E:XK} (h:yo W R2 (r.bind k) Q E)
  (f:∀ W' M a b H1,W.le W'->Held W' M H1->R1 W' a b->yo W' R2 (k a M) Q E->Q1 b H1):yo W R1 r Q1 E:=by
 cases r with
 | ok a M=>exact fun W2 H2 b l2 h2 r2=>f W2 M a b H2 l2 h2 r2 (yo.up (r:=k a M) h l2)
 | exc k M=>exact h
 | bad=>exact h.elim
def lft {α β:Type} (T:Tb) (R:Wd->α->β->Prop) (ES:St->XK) (d:En->Sto->Res α):St->Hp->(β->Hp->Prop)->Prop:=fun σ H Q =>
 ∃ W ρ M,W.T=T∧Held W M H∧xu W ρ σ∧yo W R (d ρ M) Q (ES σ)
theorem jF {α β:Type} {T:Tb} {R:Wd->α->β->Prop} {ES:St->XK} {d:En->Sto->Res α} {σ:St} {H:Hp} {Q:β->Hp->Prop} {P:Prop} (h:lft T R ES d σ H Q) (k:∀ W ρ M,W.T=T->Held W M H->xu W ρ σ->yo W R (d ρ M) Q (ES σ)->P):P:=by
 obtain ⟨W,ρ,M,a,b,c,e⟩:=h;exact k W ρ M a b c e
abbrev RB:Wd->Bool->Bool->Prop:=fun _ a b=>b=a
structure QE (X:Cx) (T:Tb) (ES:St->XK) (e:Expr) (d:DE):Prop where
 h:PE X e (lft T Rep ES d)
structure QT (X:Cx) (T:Tb) (ES:St->XK) (e:Expr) (d:DT):Prop where
 h:PT X e (lft T RB ES d)
structure QW (X:Cx) (T:Tb) (ES:St->XK) (e:Expr) (d:DT):Prop where
 h:PW X e (lft T RB ES d)
structure QA (X:Cx) (T:Tb) (ES:St->XK) (es:List Expr) (d:DA):Prop where
 h:PA X es (lft T yj ES d)
structure QK (X:Cx) (T:Tb) (ES:St->XK) (ks:List Keyword) (d:DA):Prop where
 h:PK X ks (lft T yj ES d)
section
variable {X:Cx} {T:Tb} {ES:St->XK} {a b c e:Expr} {es:List Expr} {pos:Pos} {da db dc d:DE} {ds:DA}
theorem jS {t t':TE} (h:PE X e t) (f:∀ σ H Q,t' σ H Q->t σ H Q):PE X e t':=fun pins s σ H Q I q=>h pins s σ H Q I (f σ H Q q)
theorem pt_imp {t t':TT} (h:PT X e t) (f:∀ σ H Q,t' σ H Q->t σ H Q):PT X e t':=fun pins s σ H Q I q=>h pins s σ H Q I (f σ H Q q)
theorem pw_imp {t t':TT} (h:PW X e t) (f:∀ σ H Q,t' σ H Q->t σ H Q):PW X e t':=fun w pins s σ H Q I q=>h w pins s σ H Q I (f σ H Q q)
theorem pa_imp {t t':TA} (h:PA X es t) (f:∀ σ H Q,t' σ H Q->t σ H Q):PA X es t':=fun pos pins s σ H Q I q=>h pos pins s σ H Q I (f σ H Q q)
theorem pk_imp {ks:List Keyword} {t t':TA} (h:PK X ks t) (f:∀ σ H Q,t' σ H Q->t σ H Q):PK X ks t':=fun pos pins s σ H Q I q=>h pos pins s σ H Q I (f σ H Q q)
def yg (i:Nat):DE:=fun ρ M=>match ρ[i]? with
 | some (some x)=>.ok x M
 | _=>.bad
theorem qv (i:Nat) {x:Str} (hN:X.N[i]? = some x:=by rfl) (hv:Vis X.env.scope x:=by first | exact Or.inl rfl | exact Or.inr (Or.inl rfl) | exact Or.inr (Or.inr rfl)) (hd:(x == ("__debug__":Str))=false:=by decide)
  (hcd:(x == ("__classdict__":Str))=false:=by decide):QE X T ES (.Name x pos) (yg i):=⟨jS (pe_var hN hv hd hcd) fun σ H Q hQQ=>by
 obtain ⟨W,ρ,M,_,hh,hs,p⟩:=hQQ;unfold yg at p;split at p
 ·rename_i y e;obtain ⟨v,e1,r⟩:=hs.2 i y e;exact ⟨v,e1,p W H v (.refl W) hh r⟩
 ·exact p.elim⟩
def dC (x:PV):DE:=fun _ M=>.ok x M
theorem qc {x:PV} {v:V} (h:PE X e (tC v)) (r:∀ W:Wd,W.T=T->Rep W x v):QE X T ES e (dC x):=⟨jS h fun σ H Q hQQ=>jF hQQ fun W ρ M k hh hs p=>p W H v (.refl W) hh (r W k)⟩
theorem jp {i j}:QE X T ES (.Constant (.int i) j pos) (dC (.int i)):=qc pe_int fun _ _=>rfl
theorem q_bl {b j}:QE X T ES (.Constant (.bool b) j pos) (dC (.bl b)):=qc pe_bl fun _ _=>rfl
theorem q_non {j}:QE X T ES (.Constant .none j pos) (dC .non):=qc pe_non fun _ _=>rfl
theorem vY {x j}:QE X T ES (.Constant (.str x) j pos) (dC (.str x)):=qc pe_str fun _ _=>rfl
theorem xV {x:Str} {i:Int} {t:Tok} (hg:Gl X x) (hm:X.mg x=some (.int i t)) (hd:(x == ("__debug__":Str))=false:=by decide):QE X T ES (.Name x pos) (dC (.int i)):=qc (pe_glob (v:=.int i) hg hm ⟨_,rfl⟩ hd) fun _ _=>rfl
theorem q_gcls {x:Str} {k:Nat} (hg:Gl X x) (hm:X.mg x=some (.ref (T.C k))) (hd:(x == ("__debug__":Str))=false:=by decide):QE X T ES (.Name x pos) (dC (.top k)):=qc (pe_glob (v:=.ref (T.C k)) hg hm rfl hd) fun W h=>by
 show V.ref (T.C k)=V.ref (W.T.C k);rw [h]
theorem q_ty {x:Str} {n:String} (hg:Gl X x) (hm:X.mg x=none) (hv:bootBuiltins x=some (.type n)) (hn:x≠"__name__":=by decide) (hd:(x == ("__debug__":Str))=false:=by decide):QE X T ES (.Name x pos) (dC (.ty n)) :=
 qc (pe_bltn (v:=.ty n) hg hm hv rfl hn hd) fun _ _=>rfl
def yh:DA:=fun _ M=>.ok [] M
def jc (d:DE) (ds:DA):DA:=fun ρ M=>(d ρ M).bind fun x M1=>(ds ρ M1).bind fun xs M2=>.ok (x :: xs) M2
theorem je:QA X T ES [] yh:=⟨pa_imp pa_nil fun σ H Q hQQ=>jF hQQ fun W ρ M k hh hs p=>p W H [] (.refl W) hh rfl⟩
theorem cons_lift {σ:St} {H:Hp} {Q:List V->Hp->Prop} (h:lft T yj ES (jc d ds) σ H Q):tCons (lft T Rep ES d) (lft T yj ES ds) σ H Q:=by
 obtain ⟨W,ρ,M,k,hh,hs,p⟩:=h;refine ⟨W,ρ,M,k,hh,hs,yo.bind p fun W1 M1 x v H1 l1 h1 r1 p1=>⟨W1,ρ,M1,l1.k.trans k,h1,hs.up l1,yo.bind p1 fun W2 M2 xs vs H2 l2 h2 r2 p2=>?_⟩⟩;exact p2 W2 H2 (v :: vs) (.refl W2) h2 ⟨v,vs,rfl,r1.up l2,r2⟩
theorem ja (ha:QE X T ES e d) (hr:QA X T ES es ds) (hs:starEach (e :: es) X.env=(false,eval e X.env) :: starEach es X.env:=by rfl):QA X T ES (e :: es) (jc d ds):=⟨pa_imp (pa_cons ha.h hr.h hs) fun _ _ _=>cons_lift⟩
theorem jh:QK X T ES [] yh:=⟨pk_imp pk_nil fun σ H Q hQQ=>jF hQQ fun W ρ M k hh hs p=>p W H [] (.refl W) hh rfl⟩
theorem xZ {kws:List Keyword} {nm:Option Str} {kpos:Pos} (ha:QE X T ES e d) (hr:QK X T ES kws ds):QK X T ES (⟨nm,e,kpos⟩ :: kws) (jc d ds):=⟨pk_imp (pk_cons ha.h hr.h) fun _ _ _=>cons_lift⟩
abbrev G2:=Sto->PV->PV->Option PV
def rP (T:Tb) (g:G2):R2:=fun v u H Q=>∃ W M x y z,W.T=T∧Held W M H∧Rep W x v∧Rep W y u∧g M x y=some z∧∀ W' H' v',W.le W'->Held W' M H'->Rep W' z v'->Q v' H'
abbrev OpP (X:Cx) (T:Tb) (f:Value->Value->Sem Value) (g:G2):Prop:=OpR X f (rP T g)
theorem vd {f:Value->Value->Sem Value} {r r':R2} (h:OpR X f r) (k:∀ x y H Q,r' x y H Q->r x y H Q):OpR X f r':=fun pins s σ H x y v u Q I rx ry q=>h pins s σ H x y v u Q I rx ry (k _ _ _ _ q)
def orG (g g':G2):G2:=fun M x y=>match g M x y with
 | some z=>some z
 | none=>g' M x y
theorem opp_or {f:Value->Value->Sem Value} {g g':G2} (h:OpP X T f g) (h':OpP X T f g'):OpP X T f (orG g g'):=vd (OpR.or h h') fun v u H Q hQQ=>by
 obtain ⟨W,M,x,y,z,k,hh,rx,ry,e,q⟩:=hQQ;unfold orG at e;split at e
 ·rename_i z' e';cases e;exact .inl ⟨W,M,x,y,z,k,hh,rx,ry,e',q⟩
 ·exact .inr ⟨W,M,x,y,z,k,hh,rx,ry,e,q⟩
def dOp (g:G2) (da db:DE):DE:=fun ρ M=>(da ρ M).bind fun x M1=>(db ρ M1).bind fun y M2=>ofO (g M2 x y) M2
theorem Xz {g:G2} {σ:St} {H:Hp} {Q:VK} (h:lft T Rep ES (dOp g da db) σ H Q):tOp (rP T g) (lft T Rep ES da) (lft T Rep ES db) σ H Q:=by
 obtain ⟨W,ρ,M,k,hh,hs,p⟩:=h;refine ⟨W,ρ,M,k,hh,hs,yo.bind p fun W1 M1 x v H1 l1 h1 r1 p1=>⟨W1,ρ,M1,l1.k.trans k,h1,hs.up l1,yo.bind p1 fun W2 M2 y u H2 l2 h2 r2 p2=>?_⟩⟩
 cases e:g M2 x y with
 | none=>rw [e] at p2; exact p2.elim
 | some z =>
  rw [e] at p2;exact ⟨W2,M2,x,y,z,l2.k.trans (l1.k.trans k),h2,r1.up l2,r2,e,p2⟩
theorem jz {op:Operator} {g:G2} (ho:OpP X T (binaryOp op) g) (ha:QE X T ES a da) (hb:QE X T ES b db):QE X T ES (.BinOp a op b pos) (dOp g da db):=⟨jS (pe_op ho ha.h hb.h) fun _ _ _=>Xz⟩
theorem qe_cmp {op:CmpOp} {g:G2} (ho:OpP X T (compareOp op) g) (ha:QE X T ES a da) (hb:QE X T ES b db) (hm:behindInMarks op b=false):QE X T ES (.Compare a [op] [b] pos) (dOp g da db):=⟨jS (pe_cmpR ho ha.h hb.h hm) fun _ _ _=>Xz⟩
def asB:PV->Option Bool
 | .bl b=>some b
 | _=>none
def yk (d:DE):DT:=fun ρ M=>(d ρ M).bind fun x M1=>ofO (asB x) M1
theorem jZ {op:CmpOp} {g:G2} (ho:OpP X T (compareOp op) g) (ha:QE X T ES a da) (hb:QE X T ES b db) (hm:behindInMarks op b=false):QT X T ES (.Compare a [op] [b] pos) (yk (dOp g da db)) :=
 ⟨pt_imp (pt_cmpR ho ha.h hb.h hm) fun σ H Q hQQ=>jF hQQ fun W ρ M k hh hs p=>Xz ⟨W,ρ,M,k,hh,hs,yo.bind (R1:=Rep) p fun W1 M1 x v H1 l1 h1 r1 p1=>by
  cases x with
  | bl b=>exact ⟨b,r1,p1 W1 H1 b (.refl W1) h1 rfl⟩
  | _=>exact p1.elim⟩⟩
def vn (g g':G2) (da db dc:DE):DE:=fun ρ M=>(da ρ M).bind fun x M1=>(db ρ M1).bind fun y M2=>match g M2 x y with
 | some (.bl true)=>(dc ρ M2).bind fun z M3=>ofO (g' M3 y z) M3
 | some (.bl false)=>.ok (.bl false) M2
 | _=>.bad
theorem chain_lift {g g':G2} {σ:St} {H:Hp} {Q:VK} (h:lft T Rep ES (vn g g' da db dc) σ H Q):tChain (rP T g) (rP T g') (lft T Rep ES da) (lft T Rep ES db) (lft T Rep ES dc) σ H Q:=by
 obtain ⟨W,ρ,M,k,hh,hs,p⟩:=h;refine ⟨W,ρ,M,k,hh,hs,yo.bind p fun W1 M1 x v H1 l1 h1 r1 p1=>⟨W1,ρ,M1,l1.k.trans k,h1,hs.up l1,yo.bind p1 fun W2 M2 y u H2 l2 h2 r2 p2=>?_⟩⟩;have k2:=l2.k.trans (l1.k.trans k);split at p2
 ·rename_i e;refine ⟨W2,M2,x,y,_,k2,h2,r1.up l2,r2,e,fun W3 H3 v' l3 h3 r3=>⟨true,r3,?_⟩⟩;rw [if_pos rfl];refine ⟨W3,ρ,M2,l3.k.trans k2,h3,(hs.up (l1.trans l2)).up l3,yo.bind (yo.up p2 l3) fun W4 M4 z w H4 l4 h4 r4 p4=>?_⟩
  cases e':g' M4 y z with
  | none=>rw [e'] at p4; exact p4.elim
  | some z' =>
   rw [e'] at p4;exact ⟨W4,M4,y,z,z',l4.k.trans (l3.k.trans k2),h4,(r2.up l3).up l4,r4,e',p4⟩
 ·rename_i e;refine ⟨W2,M2,x,y,_,k2,h2,r1.up l2,r2,e,fun W3 H3 v' l3 h3 r3=>⟨false,r3,?_⟩⟩;rw [if_neg (by simp)];exact p2 W3 H3 (.bl false) l3 h3 rfl
 ·exact p2.elim
theorem qe_chain {op op':CmpOp} {g g':G2} (ho:OpP X T (compareOp op) g) (ho':OpP X T (compareOp op') g') (ha:QE X T ES a da) (hb:QE X T ES b db) (hc:QE X T ES c dc)
  (hm:lastMarks [op,op'] [b,c]=false:=by with_unfolding_all rfl):QE X T ES (.Compare a [op,op'] [b,c] pos) (vn g g' da db dc):=⟨jS (pe_chain ho ho' ha.h hb.h hc.h hm) fun _ _ _=>chain_lift⟩
theorem qt_chain {op op':CmpOp} {g g':G2} (ho:OpP X T (compareOp op) g) (ho':OpP X T (compareOp op') g') (ha:QE X T ES a da) (hb:QE X T ES b db) (hc:QE X T ES c dc)
  (hm:lastMarks [op,op'] [b,c]=false:=by with_unfolding_all rfl):QT X T ES (.Compare a [op,op'] [b,c] pos) (yk (vn g g' da db dc)) :=
 ⟨pt_imp (pt_chain ho ho' ha.h hb.h hc.h hm) fun σ H Q hQQ=>jF hQQ fun W ρ M k hh hs p=>chain_lift ⟨W,ρ,M,k,hh,hs,yo.bind (R1:=Rep) p fun W1 M1 x v H1 l1 h1 r1 p1=>by
  cases x with
  | bl b=>exact ⟨b,r1,p1 W1 H1 b (.refl W1) h1 rfl⟩
  | _=>exact p1.elim⟩⟩
def yV (M:Sto):PV->Option (List PV)
 | .lst xs=>some xs
 | .ref i=>(match M.g i with
  | some (.lst xs)=>some xs
  | _=>none)
 | _=>none
theorem xT {W:Wd} {M:Sto} {H:Hp} {x:PV} {v:V} {xs:List PV} (hh:Held W M H) (r:Rep W x v) (e:yV M x=some xs):∃ a vs,v = .ref a∧H a=some (.lst vs)∧yj W xs vs:=by
 cases x with
 | lst ys =>
  cases e;obtain ⟨a,vs,e1,q,rr⟩:=r;exact ⟨a,vs,e1,hh.f _ _ q,rr⟩
 | ref i =>
  obtain ⟨a,e1,q⟩:=r
  have e:(match M.g i with
   | some (.lst xs)=>some xs
   | _=>none)=some xs:=e
  split at e
  ·rename_i ys e2;cases e;obtain ⟨b,o,h1,h2,h3,vs,rfl,rr⟩:=hh.m i _ e2;rw [q] at h1;cases h1;exact ⟨a,vs,e1,h3,rr⟩
  ·cases e
 | _=>cases e
theorem vT {W:Wd} {M:Sto} {H:Hp} {v:V} {xs:List PV} (hh:Held W M H) (r:Rep W (.tup xs) v):∃ a vs,v = .ref a∧SqT W.T.K H a vs∧yj W xs vs:=by
 obtain ⟨a,vs,e1,q,rr⟩:=r;exact ⟨a,vs,e1,seqT hh.f q,rr⟩
def uZ (M:Sto):PV->Option (List PV)
 | .tup xs=>some xs
 | x=>yV M x
theorem any_at {W:Wd} {M:Sto} {H:Hp} {x:PV} {v:V} {xs:List PV} (hh:Held W M H) (r:Rep W x v) (e:uZ M x=some xs):∃ a vs,v = .ref a∧(SqL W.T.K H a vs∨SqT W.T.K H a vs)∧yj W xs vs:=by
 cases x with
 | tup ys =>
  cases e;obtain ⟨a,vs,h1,h2,h3⟩:=vT hh r;exact ⟨a,vs,h1,.inr h2,h3⟩
 | _ =>
  obtain ⟨a,vs,h1,h2,h3⟩:=xT hh r e;exact ⟨a,vs,h1,.inl (SqL.of h2),h3⟩
theorem Jf {W:Wd} {M:Sto} {H:Hp} {xs:List PV} {vs:List V} {p:Addr} (hh:Held W M H) (r:yj W xs vs) (e:H p=none):∃ W',W.le W'∧Held W' M (L2.upd H p (.lst vs))∧Rep W' (.lst xs) (.ref p):=by
 obtain ⟨le,h1,h2⟩:=hh.frz (o:=.lst vs) e;exact ⟨_,le,h1,p,vs,rfl,h2,r.up le⟩
theorem uu {W:Wd} {M:Sto} {H:Hp} {xs:List PV} {vs:List V} {p:Addr} (hh:Held W M H) (r:yj W xs vs) (e:H p=none):∃ W',W.le W'∧Held W' M (L2.upd H p (.tup vs))∧Rep W' (.tup xs) (.ref p):=by
 obtain ⟨le,h1,h2⟩:=hh.frz (o:=.tup vs) e;exact ⟨_,le,h1,p,vs,rfl,SqT.of h2,r.up le⟩
theorem vZ {W:Wd} {M:Sto} {H:Hp} {xs:List PV} {vs:List V} {p:Addr} (hh:Held W M H) (r:yj W xs vs) (e:H p=none):∃ W',W.le W'∧Held W' (M.new (.lst xs)) (L2.upd H p (.lst vs))∧Rep W' (.ref M.n) (.ref p):=by
 obtain ⟨le,h1,h2⟩:=hh.put (l:=p) (o:=.lst vs) (c:=.lst xs) e ⟨vs,rfl,r⟩;exact ⟨_,le,h1,p,rfl,h2⟩
def dTup (ds:DA):DE:=fun ρ M=>(ds ρ M).bind fun xs M1=>if xs.length<=sizeLine then .ok (.tup xs) M1 else .bad
def uX (ds:DA):DE:=fun ρ M=>(ds ρ M).bind fun xs M1=>if xs.length<=sizeLine then .ok (.lst xs) M1 else .bad
def Xb (ds:DA):DE:=fun ρ M=>(ds ρ M).bind fun xs M1=>if xs.length<=sizeLine then .ok (.ref M1.n) (M1.new (.lst xs)) else .bad
theorem qe_tup {x1} (h:QA X T ES es ds):QE X T ES (.Tuple es x1 pos) (dTup ds):=⟨jS (pe_tup h.h) fun σ H Q hQQ=>jF hQQ fun W ρ M k hh hs p=>⟨W,ρ,M,k,hh,hs,yo.bind p fun W1 M1 xs vs H1 l1 h1 r1 p1=>by
 split at p1
 ·rename_i hz;refine ⟨by rw [r1.length]; exact hz,fun q e=>?_⟩;obtain ⟨W2,l2,h2,r2⟩:=uu h1 r1 e;exact p1 W2 _ _ l2 h2 r2
 ·exact p1.elim⟩⟩
theorem Jw (h:QA X T ES es ds):QE X T ES (.List es pos) (uX ds):=⟨jS (pe_lst h.h) fun σ H Q hQQ=>jF hQQ fun W ρ M k hh hs p=>⟨W,ρ,M,k,hh,hs,yo.bind p fun W1 M1 xs vs H1 l1 h1 r1 p1=>by
 split at p1
 ·rename_i hz;refine ⟨by rw [r1.length]; exact hz,fun q e=>?_⟩;obtain ⟨W2,l2,h2,r2⟩:=Jf h1 r1 e;exact p1 W2 _ _ l2 h2 r2
 ·exact p1.elim⟩⟩
theorem JU (h:QA X T ES es ds):QE X T ES (.List es pos) (Xb ds):=⟨jS (pe_lst h.h) fun σ H Q hQQ=>jF hQQ fun W ρ M k hh hs p=>⟨W,ρ,M,k,hh,hs,yo.bind p fun W1 M1 xs vs H1 l1 h1 r1 p1=>by
 split at p1
 ·rename_i hz;refine ⟨by rw [r1.length]; exact hz,fun q e=>?_⟩;obtain ⟨W2,l2,h2,r2⟩:=vZ h1 r1 e;exact p1 W2 _ _ l2 h2 r2
 ·exact p1.elim⟩⟩
def dFrz (d:DE):DE:=fun ρ M=>(d ρ M).bind fun x M1=>match x with
 | .ref i=>(match M1.g i with
  | some (.lst xs)=>.ok (.lst xs) (M1.drop i)
  | _=>.bad)
 | _=>.bad
theorem qe_frz (h:QE X T ES e d):QE X T ES e (dFrz d):=⟨jS h.h fun σ H Q hQQ=>jF hQQ fun W ρ M k hh hs p=>⟨W,ρ,M,k,hh,hs,yo.bind p fun W1 M1 x v H1 l1 h1 r1 p1=>by
 split at p1
 ·rename_i i;split at p1
  ·rename_i xs e;obtain ⟨a,rfl,ea⟩:=r1;obtain ⟨vs,_,l2,h2,r2⟩:=h1.freeze e ea;exact p1 _ _ _ l2 h2 r2
  ·exact p1.elim
 ·exact p1.elim⟩⟩
def dAnd (da db:DT):DT:=fun ρ M=>(da ρ M).bind fun c M1=>if c=true then db ρ M1 else .ok false M1
def dOr (da db:DT):DT:=fun ρ M=>(da ρ M).bind fun c M1=>if c=true then .ok true M1 else db ρ M1
def vB (da:DT):DT:=fun ρ M=>(da ρ M).bind fun c M1=>.ok (!c) M1
variable {ta tb:DT} {rest:List Expr}
theorem QW.qt (h:QW X T ES e ta):QT X T ES e ta:=⟨h.h.pt⟩
theorem qw_and1 (ha:QT X T ES a ta):QW X T ES (.BoolOp .And [a] pos) ta:=⟨pw_and1 ha.h⟩
theorem Ju (ha:QT X T ES a ta):QW X T ES (.BoolOp .Or [a] pos) ta:=⟨pw_or1 ha.h⟩
theorem qw_and (ha:QT X T ES a ta) (hb:QW X T ES (.BoolOp .And (b :: rest) pos) tb):QW X T ES (.BoolOp .And (a :: b :: rest) pos) (dAnd ta tb):=⟨pw_imp (pw_and ha.h hb.h) fun σ H Q hQQ=>jF hQQ fun W ρ M k hh hs p =>
 ⟨W,ρ,M,k,hh,hs,yo.bind p fun W1 M1 x v H1 l1 h1 r1 p1=>by
  subst r1
  cases v with
  | true=>rw [if_pos rfl]; exact ⟨W1,ρ,M1,l1.k.trans k,h1,hs.up l1,p1⟩
  | false=>rw [if_neg (by simp)]; exact p1 W1 H1 _ (.refl W1) h1 rfl⟩⟩
theorem JQ (ha:QT X T ES a ta) (hb:QW X T ES (.BoolOp .Or (b :: rest) pos) tb):QW X T ES (.BoolOp .Or (a :: b :: rest) pos) (dOr ta tb):=⟨pw_imp (pw_or ha.h hb.h) fun σ H Q hQQ=>jF hQQ fun W ρ M k hh hs p =>
 ⟨W,ρ,M,k,hh,hs,yo.bind p fun W1 M1 x v H1 l1 h1 r1 p1=>by
  subst r1
  cases v with
  | false=>rw [if_neg (by simp)]; exact ⟨W1,ρ,M1,l1.k.trans k,h1,hs.up l1,p1⟩
  | true=>rw [if_pos rfl]; exact p1 W1 H1 _ (.refl W1) h1 rfl⟩⟩
theorem xb (ha:QT X T ES a ta):QT X T ES (.UnaryOp .Not a pos) (vB ta):=⟨pt_imp (pt_not ha.h) fun σ H Q hQQ=>jF hQQ fun W ρ M k hh hs p =>
 ⟨W,ρ,M,k,hh,hs,yo.bind p fun W1 M1 x v H1 l1 h1 r1 p1=>by
  subst r1
  exact p1 W1 H1 _ (.refl W1) h1 rfl⟩⟩
def vw (da db:DE):DE:=fun ρ M=>(da ρ M).bind fun x M1=>match x with
 | .bl true=>db ρ M1
 | .bl false=>.ok (.bl false) M1
 | _=>.bad
def dNotV (da:DE):DE:=fun ρ M=>(da ρ M).bind fun x M1=>match x with
 | .bl b=>.ok (.bl (!b)) M1
 | _=>.bad
theorem Jv {op} (h:QE X T ES a da):QE X T ES (.BoolOp op [a] pos) da:=⟨pe_one h.h⟩
theorem Jx (ha:QE X T ES a da) (hb:QE X T ES (.BoolOp .And (b :: rest) pos) db):QE X T ES (.BoolOp .And (a :: b :: rest) pos) (vw da db):=⟨jS (pe_and ha.h hb.h) fun σ H Q hQQ=>jF hQQ fun W ρ M k hh hs p =>
 ⟨W,ρ,M,k,hh,hs,yo.bind p fun W1 M1 x v H1 l1 h1 r1 p1=>by
  split at p1
  ·exact ⟨true,r1,by rw [if_pos rfl]; exact ⟨W1,ρ,M1,l1.k.trans k,h1,hs.up l1,p1⟩⟩
  ·exact ⟨false,r1,by rw [if_neg (by simp)]; exact p1 W1 H1 _ (.refl W1) h1 rfl⟩
  ·exact p1.elim⟩⟩
theorem qe_not (ha:QE X T ES a da):QE X T ES (.UnaryOp .Not a pos) (dNotV da):=⟨jS (pe_not ha.h) fun σ H Q hQQ=>jF hQQ fun W ρ M k hh hs p =>
 ⟨W,ρ,M,k,hh,hs,yo.bind p fun W1 M1 x v H1 l1 h1 r1 p1=>by
  split at p1
  ·exact ⟨_,r1,p1 W1 H1 _ (.refl W1) h1 rfl⟩
  ·exact p1.elim⟩⟩
def dIf (t:DT) (da db:DE):DE:=fun ρ M=>(t ρ M).bind fun c M1=>if c=true then da ρ M1 else db ρ M1
theorem YT (hc:QT X T ES c ta) (ha:QE X T ES a da) (hb:QE X T ES b db):QE X T ES (.IfExp c a b pos) (dIf ta da db):=⟨jS (pe_ifExp hc.h ha.h hb.h) fun σ H Q hQQ=>jF hQQ fun W ρ M k hh hs p =>
 ⟨W,ρ,M,k,hh,hs,yo.bind p fun W1 M1 x v H1 l1 h1 r1 p1=>by
  subst r1
  cases v with
  | true=>rw [if_pos rfl] at p1 ⊢; exact ⟨W1,ρ,M1,l1.k.trans k,h1,hs.up l1,p1⟩
  | false=>rw [if_neg (by simp)] at p1 ⊢; exact ⟨W1,ρ,M1,l1.k.trans k,h1,hs.up l1,p1⟩⟩⟩
def Yx (M:Sto):PV->Option Bool
 | .non=>some false
 | .bl b=>some b
 | .int i=>some (i != 0)
 | .tup xs=>some (!xs.isEmpty)
 | x=>(yV M x).map fun xs=>!xs.isEmpty
theorem yj.empty {W:Wd}:∀ {xs:List PV} {vs:List V},yj W xs vs->vs.isEmpty=xs.isEmpty
 | [],_,r=>by cases r; rfl
 | _ :: _,_,⟨_,_,e,_⟩=>by subst e; rfl
def vW (d:DE):DT:=fun ρ M=>(d ρ M).bind fun x M1=>ofO (Yx M1 x) M1
theorem xh (hT:T.K=X.K) (h:QE X T ES e d) (he:∀ whole,isTrue e X.env whole=(do let v <- whole; standAt e.pos; holding [v] (truthy v)):=by intro _; rfl):QT X T ES e (vW d) :=
 ⟨pt_imp (pt_tru h.h he) fun σ H Q hQQ=>jF hQQ fun W ρ M k hh hs p=>⟨W,ρ,M,k,hh,hs,yo.bind p fun W1 M1 x v H1 l1 h1 r1 p1=>by
  cases e1:Yx M1 x with
  | none=>rw [e1] at p1; exact p1.elim
  | some b =>
   rw [e1] at p1;refine ⟨b,?_,p1 W1 H1 b (.refl W1) h1 rfl⟩
   have sq:∀ y,yV M1 y=yV M1 x->(yV M1 x).map (fun xs=>!xs.isEmpty)=some b->TruV X.K v H1 b:=fun y _ q=>by
    cases e2:yV M1 x with
    | none=>rw [e2] at q; cases q
    | some xs =>
     rw [e2] at q;cases q;obtain ⟨a,vs,rfl,e3,rr⟩:=xT h1 r1 e2;exact .inl ⟨vs,SqL.of e3,by rw [rr.empty]⟩
   cases x with
   | non=>cases e1; cases r1; rfl
   | bl c=>cases e1; cases r1; rfl
   | int i=>cases e1; cases r1; rfl
   | tup xs =>
    cases e1;obtain ⟨a,vs,rfl,e3,rr⟩:=vT h1 r1;rw [l1.k.trans k,hT] at e3;exact .inr (.inl ⟨vs,e3,by rw [rr.empty]⟩)
   | lst xs=>exact sq _ rfl e1
   | ref i=>exact sq _ rfl e1
   | _=>cases e1⟩⟩
end
end L3

namespace L3
open PySem L2
mutual
def plain:PV->Bool
 | .non=>true
 | .bl _=>true
 | .int _=>true
 | .str _=>true
 | .tup xs=>yZ xs
 | .lst xs=>yZ xs
 | _=>false
def yZ:List PV->Bool
 | []=>true
 | x :: xs=>plain x && yZ xs
end
mutual
def dep:PV->Nat
 | .tup xs=>ug xs + 1
 | .lst xs=>ug xs + 1
 | _=>0
def ug:List PV->Nat
 | []=>0
 | x :: xs=>dep x + ug xs
end
mutual
def eqB:PV->PV->Bool
 | .non,.non=>true
 | .bl a,.bl b=>a == b
 | .bl a,.int b=>(if a then 1 else 0) == b
 | .int a,.bl b=>a == (if b then 1 else 0)
 | .int a,.int b=>a == b
 | .str a,.str b=>a == b
 | .tup xs,.tup ys=>eqBs xs ys
 | .lst xs,.lst ys=>eqBs xs ys
 | _,_=>false
def eqBs:List PV->List PV->Bool
 | [],[]=>true
 | x :: xs,y :: ys=>eqB x y && eqBs xs ys
 | _,_=>false
end
theorem ut:∀ {xs:List PV} {j:Nat} {x:PV},yZ xs=true->xs[j]? = some x->plain x=true
 | [],_,_,_,e=>by simp at e
 | y :: ys,0,x,h,e=>by
  simp at e;subst e;unfold yZ at h;exact (Bool.and_eq_true_iff.mp h).1
 | y :: ys,j + 1,x,h,e=>by
  unfold yZ at h;exact ut (j:=j) (Bool.and_eq_true_iff.mp h).2 (by simpa using e)
theorem dep_get:∀ {xs:List PV} {j:Nat} {x:PV},xs[j]? = some x->dep x<=ug xs
 | [],_,_,e=>by simp at e
 | y :: ys,0,x,e=>by
  simp at e;subst e;show dep y<=dep y + ug ys;omega
 | y :: ys,j + 1,x,e=>by
  have:=dep_get (j:=j) (xs:=ys) (x:=x) (by simpa using e)
  show dep x<=dep y + ug ys;omega
theorem uS:∀ {xs ys:List PV},xs.length≠ys.length->eqBs xs ys=false
 | [],[],h=>absurd rfl h
 | [],_ :: _,_=>rfl
 | _ :: _,[],_=>rfl
 | x :: xs,y :: ys,h=>by
  have:eqBs xs ys=false:=uS fun e=>h (by simp [e])
  show (eqB x y && eqBs xs ys)=false;rw [this,Bool.and_false]
theorem vL:∀ {xs ys:List PV},xs.length=ys.length->((List.range xs.length).all fun i=>eqB (xs.getD i .non) (ys.getD i .non))=eqBs xs ys
 | [],[],_=>rfl
 | x :: xs,y :: ys,h=>by
  rw [List.length_cons,List.range_succ_eq_map,List.all_cons,List.all_map];have ih:=vL (xs:=xs) (ys:=ys) (by simpa using h)
  show (eqB x y && _)=(eqB x y && eqBs xs ys)
  rw [<- ih];rfl
 | [],_ :: _,h=>by simp at h
 | _ :: _,[],h=>by simp at h
mutual
theorem Yl:∀ {x:PV},plain x=true->eqB x x=true
 | .non,_=>rfl
 | .bl b,_=>by show (b == b)=true; simp
 | .int b,_=>by show (b == b)=true; simp
 | .str b,_=>by show (b == b)=true; simp
 | .tup xs,h=>YG (xs:=xs) h
 | .lst xs,h=>YG (xs:=xs) h
theorem YG:∀ {xs:List PV},yZ xs=true->eqBs xs xs=true
 | [],_=>rfl
 | x :: xs,h=>by
  unfold yZ at h;have h:=Bool.and_eq_true_iff.mp h;show (eqB x x && eqBs xs xs)=true;rw [Yl h.1,YG h.2];rfl
end
def AtH (W:Wd) (s:Shared):PV->Value->Prop
 | .non,u=>u = .none
 | .bl b,u=>u = .bool b
 | .int i,u=>∃ t,u = .int i t
 | .str x,u=>∃ t,u = .str x t
 | .lst xs,u=>∃ a its vs,u = .ref a∧s.heap.IsList a (List.toArray its)∧ym vs its∧yj W xs vs
 | .tup xs,u=>∃ a its vs,u = .ref a∧s.heap.IsTuple a (List.toArray its)∧ym vs its∧yj W xs vs
 | _,_=>False
theorem JM:∀ {xs:List V} {us:List Value} {j:Nat} {u:Value},ym xs us->us[j]? = some u->∃ v,xs[j]? = some v∧yn v u
 | _,_,_,_,.nil,e=>by simp at e
 | _,_,0,_,.cons r _,e=>by simp at e; subst e; exact ⟨_,rfl,r⟩
 | _,_,j + 1,u,.cons _ t,e=>by
  obtain ⟨v,h1,h2⟩:=JM (j:=j) t (by simpa using e);exact ⟨v,by simpa using h1,h2⟩
theorem JP:∀ {W:Wd} {xs:List PV} {vs:List V} {i:Nat} {v:V},yj W xs vs->vs[i]? = some v->∃ x,xs[i]? = some x∧Rep W x v
 | _,[],_,_,_,r,e=>by cases r; simp at e
 | _,_ :: _,_,0,_,⟨v,r,e,a,_⟩,q=>by subst e; simp at q; subst q; exact ⟨_,rfl,a⟩
 | _,_ :: _,_,i + 1,_,⟨v,r,e,_,b⟩,q=>by
  subst e;obtain ⟨x,h1,h2⟩:=JP (i:=i) b (by simpa using q);exact ⟨x,by simpa using h1,h2⟩
section
variable {X:Cx} {pins:List (Addr × Obj)} {σ:St} {H:Hp} {s:Shared} {W:Wd} {M:Sto}
theorem atH (I:Inv X pins σ H s) (hh:Held W M H) (hT:W.T.K=X.K) {x:PV} {v:V} {u:Value} (p:plain x=true) (r:Rep W x v) (q:yn v u):AtH W s x u:=by
 cases x with
 | non=>cases r; exact q
 | bl b=>cases r; exact q
 | int b=>cases r; exact q
 | str b=>cases r; exact q
 | lst xs =>
  obtain ⟨a,vs,rfl,e,rr⟩:=r;cases q;obtain ⟨its,rv,pl,_⟩:=I.list (SqL.of (hh.f _ _ e));exact ⟨a,its,vs,rfl,pl.isList,rv,rr⟩
 | tup xs =>
  obtain ⟨a,vs,rfl,e,rr⟩:=r;cases q;obtain ⟨its,rv,pl,_⟩:=I.tuple (show SqT X.K H a vs from hT ▸ seqT hh.f e);exact ⟨a,its,vs,rfl,pl,rv,rr⟩
 | _=>cases p
theorem lt_no {a:Addr} {its its':Array Value} (h:s.heap.IsList a its) (h':s.heap.IsTuple a its'):False:=SeqAt.ne_of_list_tuple h h' rfl
def back:V->Option PV
 | .non=>some .non
 | .bl b=>some (.bl b)
 | .int i=>some (.int i)
 | .str x=>some (.str x)
 | _=>none
theorem rep_back (I:Inv X pins σ H s) (hh:Held W M H) (hT:W.T.K=X.K) {x:PV} {v:V} (p:plain x=true) (r:Rep W x v):back v=some x∨∃ a vs,v = .ref a∧((∃ xs,x = .lst xs∧W.F a=some (.lst vs)∧yj W xs vs∧∃ its,s.heap.IsList a its)∨(∃ xs,x = .tup xs∧SqT X.K H a vs∧yj W xs vs∧∃ its,s.heap.IsTuple a its)):=by
 cases x with
 | non=>cases r; exact .inl rfl
 | bl _=>cases r; exact .inl rfl
 | int _=>cases r; exact .inl rfl
 | str _=>cases r; exact .inl rfl
 | lst xs =>
  obtain ⟨a,vs,rfl,e,rr⟩:=r;obtain ⟨its,_,pl,_⟩:=I.list (SqL.of (hh.f _ _ e));exact .inr ⟨a,vs,rfl,.inl ⟨xs,rfl,e,rr,_,pl.isList⟩⟩
 | tup xs =>
  obtain ⟨a,vs,rfl,e,rr⟩:=r
  have e:=(show SqT X.K H a vs from hT ▸ seqT hh.f e)
  obtain ⟨its,_,pl,_⟩:=I.tuple e;exact .inr ⟨a,vs,rfl,.inr ⟨xs,rfl,e,rr,_,pl⟩⟩
 | _=>cases p
theorem reps_inj {n:Nat} (ih:∀ (x y:PV) (v:V),dep x < n->plain x=true->plain y=true->Rep W x v->Rep W y v->x=y) (xs:List PV):∀ (ys:List PV) (vs:List V),ug xs < n->yZ xs=true->yZ ys=true->yj W xs vs->yj W ys vs->xs=ys:=by
 induction xs with
 | nil =>
  intro ys vs _ _ _ r q;cases r
  cases ys with
  | nil=>rfl
  | cons y ys=>obtain ⟨_,_,e,_⟩:=q; cases e
 | cons x xs hi =>
  intro ys vs hn p p' r q;obtain ⟨v,r,rfl,a,b⟩:=r
  cases ys with
  | nil=>cases q
  | cons y ys =>
   obtain ⟨v',r',e',a',b'⟩:=q;cases e';unfold yZ at p p';have p:=Bool.and_eq_true_iff.mp p;have p':=Bool.and_eq_true_iff.mp p';have hn:dep x + ug xs < n:=hn;rw [ih x y v (by omega) p.1 p'.1 a a',hi ys r (by omega) p.2 p'.2 b b']
theorem at_inj (I:Inv X pins σ H s) (hh:Held W M H) (hT:W.T.K=X.K) {x y:PV} {v:V} (px:plain x=true) (py:plain y=true) (rx:Rep W x v) (ry:Rep W y v):x=y:=by
 suffices h:∀ (n:Nat) (x y:PV) (v:V),dep x < n->plain x=true->plain y=true->Rep W x v->Rep W y v->x=y from h _ x y v (Nat.lt_succ_self _) px py rx ry
 intro n
 induction n with
 | zero=>intro x y v h; exact absurd h (Nat.not_lt_zero _)
 | succ n ih =>
 intro x y v hn px py rx ry
 rcases rep_back I hh hT px rx with h | ⟨a,vs,rfl,h⟩
 ·rcases rep_back I hh hT py ry with h' | ⟨a,vs,rfl,_⟩
  ·rw [h] at h'; exact Option.some.inj h'
  ·cases h
 rcases rep_back I hh hT py ry with h' | ⟨a',us,e,h'⟩
 ·cases h'
 cases e
 rcases h with ⟨xs,rfl,f,rr,its,hl⟩ | ⟨xs,rfl,f,rr,its,hl⟩ <;> rcases h' with ⟨ys,rfl,f',rr',its',hl'⟩ | ⟨ys,rfl,f',rr',its',hl'⟩
 ·rw [f] at f';cases f';rw [reps_inj ih xs ys vs (show ug xs < n from Nat.lt_of_succ_lt_succ hn) px py rr rr']
 ·exact (lt_no hl hl').elim
 ·exact (lt_no hl' hl).elim
 ·have:=I.tuple_inj f f'
  subst this;rw [reps_inj ih xs ys vs (show ug xs < n from Nat.lt_of_succ_lt_succ hn) px py rr rr']
theorem YH {I0:Prop} {xs ys:List PV} {vs us:List V} {its its':List Value} {A:Around} (ih:∀ (x y:PV) {v u:V} {v' u':Value},dep x<=ug xs->plain x=true->plain y=true->Rep W x v->Rep W y u->yn v v'->yn u u'->SeqAt.EqAt A s v' u' (eqB x y))
  (px:yZ xs=true) (py:yZ ys=true) (rx:yj W xs vs) (ry:yj W ys us) (qx:ym vs its) (qy:ym us its') {j:Nat} (h1:j < its.length) (h2:j < its'.length):SeqAt.EqAt A s its[j] its'[j] (eqB (xs.getD j .non) (ys.getD j .non)):=by
 obtain ⟨v,e1,r1⟩:=JM qx (List.getElem?_eq_getElem h1);obtain ⟨u,e2,r2⟩:=JM qy (List.getElem?_eq_getElem h2);obtain ⟨x,e3,r3⟩:=JP rx e1;obtain ⟨y,e4,r4⟩:=JP ry e2;rw [List.getD_eq_getElem?_getD,List.getD_eq_getElem?_getD,e3,e4];exact ih x y (dep_get e3) (ut px e3) (ut py e4) r3 r4 r1 r2
theorem eqAt_P (I:Inv X pins σ H s) (hh:Held W M H) (hT:W.T.K=X.K):∀ (n:Nat) (x y:PV) {v u:V} {v' u':Value} (A:Around),dep x < n->A.units + dep x < cLine->plain x=true->plain y=true->Rep W x v->Rep W y u->yn v v'->yn u u'->SeqAt.EqAt A s v' u' (eqB x y):=by
 intro n
 induction n with
 | zero=>intro x y v u v' u' A h; exact absurd h (Nat.not_lt_zero _)
 | succ n ih =>
 intro x y v u v' u' A hn hu px py rx ry qx qy
 cases x with
 | lst xs =>
  have hn:ug xs + 1 < n + 1:=hn;have hu:A.units + (ug xs + 1) < cLine:=hu
  obtain ⟨a,its,vs,rfl,il,rv,rr⟩:=(show AtH W s (.lst xs) v' from atH I hh hT px rx qx)
  have hy:=atH I hh hT py ry qy
  cases y with
  | lst ys =>
   obtain ⟨b,its',us,rfl,il',rv',rr'⟩:=hy
   by_cases hab:a=b
   ·subst hab;have e:v=u:=qx.inj qy;subst e;have e:=at_inj I hh hT px py rx ry;cases e;rw [Yl px];exact SeqAt.EqAt.same _
   ·refine SeqAt.EqAt.of_refs hab ?_;have l1:=rv.length;have l2:=rv'.length;have l3:=rr.length;have l4:=rr'.length
    by_cases hl:xs.length=ys.length
    ·have:=SeqAt.RcAt.lists (A:=A) (e:=fun j=>eqB (xs.getD j .non) (ys.getD j .non)) il il' (by simp; omega) (by omega) fun j h1 h2=>YH (I0:=True) (fun x y v u v' u' hd=>ih x y A.in1 (by omega) (show A.units + 1 + dep x < cLine by omega)) px py rr rr' rv rv' (j:=j) (by simpa using h1) (by simpa using h2)
     rw [List.size_toArray,show its.length=xs.length by omega,vL hl] at this;exact this
    ·have:=SeqAt.RcAt.lists_lengths (A:=A) il il' (by simp; omega) (by omega)
     rw [show eqB (.lst xs) (.lst ys)=false from uS hl];exact this
  | tup ys =>
   obtain ⟨b,its',us,rfl,il',rv',rr'⟩:=hy;exact SeqAt.EqAt.list_tuple il il' (by omega)
  | non=>cases hy; exact SeqAt.EqAt.list_none il (by omega)
  | bl b=>cases hy; exact SeqAt.EqAt.list_bool b il (by omega)
  | int b=>obtain ⟨t,rfl⟩:=hy; exact SeqAt.EqAt.list_int b t il (by omega)
  | str b=>obtain ⟨t,rfl⟩:=hy; exact SeqAt.EqAt.list_str b t il (by omega)
  | _=>cases py
 | tup xs =>
  have hn:ug xs + 1 < n + 1:=hn;have hu:A.units + (ug xs + 1) < cLine:=hu
  obtain ⟨a,its,vs,rfl,il,rv,rr⟩:=(show AtH W s (.tup xs) v' from atH I hh hT px rx qx)
  have hy:=atH I hh hT py ry qy
  cases y with
  | tup ys =>
   obtain ⟨b,its',us,rfl,il',rv',rr'⟩:=hy
   by_cases hab:a=b
   ·subst hab;have e:v=u:=qx.inj qy;subst e;have e:=at_inj I hh hT px py rx ry;cases e;rw [Yl px];exact SeqAt.EqAt.same _
   ·refine SeqAt.EqAt.of_refs hab ?_;have l1:=rv.length;have l2:=rv'.length;have l3:=rr.length;have l4:=rr'.length
    have:=SeqAt.RcAt.tuples (A:=A) (e:=fun j=>eqB (xs.getD j .non) (ys.getD j .non)) il il' (by omega) fun j h1 h2=>YH (I0:=True) (fun x y v u v' u' hd=>ih x y A.in1 (by omega) (show A.units + 1 + dep x < cLine by omega)) px py rr rr' rv rv' (j:=j) (by simpa using h1) (by simpa using h2)
    by_cases hl:xs.length=ys.length
    ·rw [List.size_toArray,List.size_toArray,show its.length=xs.length by omega,show its'.length=xs.length by omega,Nat.min_self,vL hl,beq_self_eq_true,Bool.and_true] at this;exact this
    ·rw [List.size_toArray,List.size_toArray,show its.length=xs.length by omega,show its'.length=ys.length by omega,show (xs.length == ys.length)=false by simpa using hl,Bool.and_false] at this;rw [show eqB (.tup xs) (.tup ys)=false from uS hl];exact this
  | lst ys =>
   obtain ⟨b,its',us,rfl,il',rv',rr'⟩:=hy;exact SeqAt.EqAt.tuple_list il il' (by omega)
  | non=>cases hy; exact SeqAt.EqAt.tuple_none il (by omega)
  | bl b=>cases hy; exact SeqAt.EqAt.tuple_bool b il (by omega)
  | int b=>obtain ⟨t,rfl⟩:=hy; exact SeqAt.EqAt.tuple_int b t il (by omega)
  | str b=>obtain ⟨t,rfl⟩:=hy; exact SeqAt.EqAt.tuple_str b t il (by omega)
  | _=>cases py
 | non =>
  cases rx;cases qx;have hu:A.units < cLine:=hu;have hy:=atH I hh hT py ry qy
  cases y with
  | non=>cases hy; exact SeqAt.EqAt.same _
  | bl b=>cases hy; exact SeqAt.EqAt.none_bool b
  | int b=>obtain ⟨t,rfl⟩:=hy; exact SeqAt.EqAt.none_int b t
  | str b=>obtain ⟨t,rfl⟩:=hy; exact SeqAt.EqAt.none_str b t
  | lst ys=>obtain ⟨b,its',us,rfl,il',_⟩:=hy; exact SeqAt.EqAt.none_list il' hu
  | tup ys=>obtain ⟨b,its',us,rfl,il',_⟩:=hy; exact SeqAt.EqAt.none_tuple il' hu
  | _=>cases py
 | bl a =>
  cases rx;cases qx;have hu:A.units < cLine:=hu;have hy:=atH I hh hT py ry qy
  cases y with
  | non=>cases hy; exact SeqAt.EqAt.bool_none a
  | bl b=>cases hy; exact SeqAt.EqAt.bool_bool a b
  | int b=>obtain ⟨t,rfl⟩:=hy; exact SeqAt.EqAt.bool_int a b t
  | str b=>obtain ⟨t,rfl⟩:=hy; exact SeqAt.EqAt.bool_str a b t
  | lst ys=>obtain ⟨b,its',us,rfl,il',_⟩:=hy; exact SeqAt.EqAt.bool_list a il' hu
  | tup ys=>obtain ⟨b,its',us,rfl,il',_⟩:=hy; exact SeqAt.EqAt.bool_tuple a il' hu
  | _=>cases py
 | int a =>
  cases rx;obtain ⟨t,rfl⟩:=qx;have hu:A.units < cLine:=hu;have hy:=atH I hh hT py ry qy
  cases y with
  | non=>cases hy; exact SeqAt.EqAt.int_none a t
  | bl b=>cases hy; exact SeqAt.EqAt.int_bool a t b
  | int b=>obtain ⟨t',rfl⟩:=hy; exact SeqAt.EqAt.int_int a t b t'
  | str b=>obtain ⟨t',rfl⟩:=hy; exact SeqAt.EqAt.int_str a t b t'
  | lst ys=>obtain ⟨b,its',us,rfl,il',_⟩:=hy; exact SeqAt.EqAt.int_list a t il' hu
  | tup ys=>obtain ⟨b,its',us,rfl,il',_⟩:=hy; exact SeqAt.EqAt.int_tuple a t il' hu
  | _=>cases py
 | str a =>
  cases rx;obtain ⟨t,rfl⟩:=qx;have hu:A.units < cLine:=hu;have hy:=atH I hh hT py ry qy
  cases y with
  | non=>cases hy; exact SeqAt.EqAt.str_none a t
  | bl b=>cases hy; exact SeqAt.EqAt.str_bool a t b
  | int b=>obtain ⟨t',rfl⟩:=hy; exact SeqAt.EqAt.str_int a t b t'
  | str b=>obtain ⟨t',rfl⟩:=hy; exact SeqAt.EqAt.str_str a t b t'
  | lst ys=>obtain ⟨b,its',us,rfl,il',_⟩:=hy; exact SeqAt.EqAt.str_list a t il' hu
  | tup ys=>obtain ⟨b,its',us,rfl,il',_⟩:=hy; exact SeqAt.EqAt.str_tuple a t il' hu
  | _=>cases py
 | _=>cases px
theorem rcAt_P (I:Inv X pins σ H s) (hh:Held W M H) (hT:W.T.K=X.K) {x y:PV} {v u:V} {v' u':Value} {A:Around} (hu:A.units + dep x < cLine) (px:plain x=true) (py:plain y=true) (rx:Rep W x v) (ry:Rep W y u) (qx:yn v v') (qy:yn u u') :
  SeqAt.RcAt A s v' u' (eqB x y)∧SeqAt.RcNeAt A s v' u' (!eqB x y):=by
 have hx:=atH I hh hT px rx qx;have hy:=atH I hh hT py ry qy
 have hu0:A.units < cLine:=by omega
 cases x with
 | non =>
  cases hx
  cases y with
  | non=>cases hy; exact ⟨SeqAt.RcAt.none_none,SeqAt.RcNeAt.none_none⟩
  | bl b=>cases hy; exact ⟨SeqAt.RcAt.none_bool b,SeqAt.RcNeAt.none_bool b⟩
  | int b=>obtain ⟨t,rfl⟩:=hy; exact ⟨SeqAt.RcAt.none_int b t,SeqAt.RcNeAt.none_int b t⟩
  | str b=>obtain ⟨t,rfl⟩:=hy; exact ⟨SeqAt.RcAt.none_str b t,SeqAt.RcNeAt.none_str b t⟩
  | lst ys=>obtain ⟨b,its',us,rfl,il',_⟩:=hy; exact ⟨SeqAt.RcAt.none_list il' hu0,SeqAt.RcNeAt.none_list il' hu0⟩
  | tup ys=>obtain ⟨b,its',us,rfl,il',_⟩:=hy; exact ⟨SeqAt.RcAt.none_tuple il' hu0,SeqAt.RcNeAt.none_tuple il' hu0⟩
  | _=>cases py
 | bl a =>
  cases hx
  cases y with
  | non=>cases hy; exact ⟨SeqAt.RcAt.bool_none a,SeqAt.RcNeAt.bool_none a⟩
  | bl b=>cases hy; exact ⟨SeqAt.RcAt.bool_bool a b,SeqAt.RcNeAt.bool_bool a b⟩
  | int b=>obtain ⟨t,rfl⟩:=hy; exact ⟨SeqAt.RcAt.bool_int a b t,SeqAt.RcNeAt.bool_int a b t⟩
  | str b=>obtain ⟨t,rfl⟩:=hy; exact ⟨SeqAt.RcAt.bool_str a b t,SeqAt.RcNeAt.bool_str a b t⟩
  | lst ys=>obtain ⟨b,its',us,rfl,il',_⟩:=hy; exact ⟨SeqAt.RcAt.bool_list a il' hu0,SeqAt.RcNeAt.bool_list a il' hu0⟩
  | tup ys=>obtain ⟨b,its',us,rfl,il',_⟩:=hy; exact ⟨SeqAt.RcAt.bool_tuple a il' hu0,SeqAt.RcNeAt.bool_tuple a il' hu0⟩
  | _=>cases py
 | int a =>
  obtain ⟨t,rfl⟩:=hx
  cases y with
  | non=>cases hy; exact ⟨SeqAt.RcAt.int_none a t,SeqAt.RcNeAt.int_none a t⟩
  | bl b=>cases hy; exact ⟨SeqAt.RcAt.int_bool a t b,SeqAt.RcNeAt.int_bool a t b⟩
  | int b=>obtain ⟨t',rfl⟩:=hy; exact ⟨SeqAt.RcAt.int_int a t b t',SeqAt.RcNeAt.int_int a t b t'⟩
  | str b=>obtain ⟨t',rfl⟩:=hy; exact ⟨SeqAt.RcAt.int_str a t b t',SeqAt.RcNeAt.int_str a t b t'⟩
  | lst ys=>obtain ⟨b,its',us,rfl,il',_⟩:=hy; exact ⟨SeqAt.RcAt.int_list a t il' hu0,SeqAt.RcNeAt.int_list a t il' hu0⟩
  | tup ys=>obtain ⟨b,its',us,rfl,il',_⟩:=hy; exact ⟨SeqAt.RcAt.int_tuple a t il' hu0,SeqAt.RcNeAt.int_tuple a t il' hu0⟩
  | _=>cases py
 | str a =>
  obtain ⟨t,rfl⟩:=hx
  cases y with
  | non=>cases hy; exact ⟨SeqAt.RcAt.str_none a t,SeqAt.RcNeAt.str_none a t⟩
  | bl b=>cases hy; exact ⟨SeqAt.RcAt.str_bool a t b,SeqAt.RcNeAt.str_bool a t b⟩
  | int b=>obtain ⟨t',rfl⟩:=hy; exact ⟨SeqAt.RcAt.str_int a t b t',SeqAt.RcNeAt.str_int a t b t'⟩
  | str b=>obtain ⟨t',rfl⟩:=hy; exact ⟨SeqAt.RcAt.str_str a t b t',SeqAt.RcNeAt.str_str a t b t'⟩
  | lst ys=>obtain ⟨b,its',us,rfl,il',_⟩:=hy; exact ⟨SeqAt.RcAt.str_list a t il' hu0,SeqAt.RcNeAt.str_list a t il' hu0⟩
  | tup ys=>obtain ⟨b,its',us,rfl,il',_⟩:=hy; exact ⟨SeqAt.RcAt.str_tuple a t il' hu0,SeqAt.RcNeAt.str_tuple a t il' hu0⟩
  | _=>cases py
 | lst xs =>
  obtain ⟨a,its,vs,rfl,il,rv,rr⟩:=hx;have hu:A.units + (ug xs + 1) < cLine:=hu
  cases y with
  | lst ys =>
   obtain ⟨b,its',us,rfl,il',rv',rr'⟩:=hy;have l1:=rv.length;have l2:=rv'.length;have l3:=rr.length;have l4:=rr'.length
   by_cases hl:xs.length=ys.length
   ·have t1:=SeqAt.RcAt.lists (A:=A) (e:=fun j=>eqB (xs.getD j .non) (ys.getD j .non)) il il' (by simp; omega) (by omega) fun j h1 h2=>YH (I0:=True) (fun x y v u v' u' hd=>eqAt_P I hh hT (dep x + 1) x y A.in1 (by omega) (show A.units + 1 + dep x < cLine by omega)) px py rr rr' rv rv' (j:=j) (by simpa using h1) (by simpa using h2);have t2:=SeqAt.RcNeAt.lists (A:=A) (e:=fun j=>eqB (xs.getD j .non) (ys.getD j .non)) il il' (by simp; omega) (by omega) fun j h1 h2=>YH (I0:=True) (fun x y v u v' u' hd=>eqAt_P I hh hT (dep x + 1) x y A.in1 (by omega) (show A.units + 1 + dep x < cLine by omega)) px py rr rr' rv rv' (j:=j) (by simpa using h1) (by simpa using h2);rw [List.size_toArray,show its.length=xs.length by omega,vL hl] at t1 t2;exact ⟨t1,t2⟩
   ·rw [show eqB (.lst xs) (.lst ys)=false from uS hl];exact ⟨SeqAt.RcAt.lists_lengths (A:=A) il il' (by simp; omega) (by omega),SeqAt.RcNeAt.lists_lengths (A:=A) il il' (by simp; omega) (by omega)⟩
  | tup ys=>obtain ⟨b,its',us,rfl,il',rv',rr'⟩:=hy; exact ⟨SeqAt.RcAt.list_tuple il il' (by omega),SeqAt.RcNeAt.list_tuple il il' (by omega)⟩
  | non=>cases hy; exact ⟨SeqAt.RcAt.list_none il (by omega),SeqAt.RcNeAt.list_none il (by omega)⟩
  | bl b=>cases hy; exact ⟨SeqAt.RcAt.list_bool b il (by omega),SeqAt.RcNeAt.list_bool b il (by omega)⟩
  | int b=>obtain ⟨t,rfl⟩:=hy; exact ⟨SeqAt.RcAt.list_int b t il (by omega),SeqAt.RcNeAt.list_int b t il (by omega)⟩
  | str b=>obtain ⟨t,rfl⟩:=hy; exact ⟨SeqAt.RcAt.list_str b t il (by omega),SeqAt.RcNeAt.list_str b t il (by omega)⟩
  | _=>cases py
 | tup xs =>
  obtain ⟨a,its,vs,rfl,il,rv,rr⟩:=hx;have hu:A.units + (ug xs + 1) < cLine:=hu
  cases y with
  | tup ys =>
   obtain ⟨b,its',us,rfl,il',rv',rr'⟩:=hy;have l1:=rv.length;have l2:=rv'.length;have l3:=rr.length;have l4:=rr'.length;have t1:=SeqAt.RcAt.tuples (A:=A) (e:=fun j=>eqB (xs.getD j .non) (ys.getD j .non)) il il' (by omega) fun j h1 h2=>YH (I0:=True) (fun x y v u v' u' hd=>eqAt_P I hh hT (dep x + 1) x y A.in1 (by omega) (show A.units + 1 + dep x < cLine by omega)) px py rr rr' rv rv' (j:=j) (by simpa using h1) (by simpa using h2);have t2:=SeqAt.RcNeAt.tuples (A:=A) (e:=fun j=>eqB (xs.getD j .non) (ys.getD j .non)) il il' (by omega) fun j h1 h2=>YH (I0:=True) (fun x y v u v' u' hd=>eqAt_P I hh hT (dep x + 1) x y A.in1 (by omega) (show A.units + 1 + dep x < cLine by omega)) px py rr rr' rv rv' (j:=j) (by simpa using h1) (by simpa using h2)
   by_cases hl:xs.length=ys.length
   ·rw [List.size_toArray,List.size_toArray,show its.length=xs.length by omega,show its'.length=xs.length by omega,Nat.min_self,vL hl,beq_self_eq_true,Bool.and_true] at t1 t2;exact ⟨t1,t2⟩
   ·rw [List.size_toArray,List.size_toArray,show its.length=xs.length by omega,show its'.length=ys.length by omega,show (xs.length == ys.length)=false by simpa using hl,Bool.and_false] at t1 t2;rw [show eqB (.tup xs) (.tup ys)=false from uS hl];exact ⟨t1,t2⟩
  | lst ys=>obtain ⟨b,its',us,rfl,il',rv',rr'⟩:=hy; exact ⟨SeqAt.RcAt.tuple_list il il' (by omega),SeqAt.RcNeAt.tuple_list il il' (by omega)⟩
  | non=>cases hy; exact ⟨SeqAt.RcAt.tuple_none il (by omega),SeqAt.RcNeAt.tuple_none il (by omega)⟩
  | bl b=>cases hy; exact ⟨SeqAt.RcAt.tuple_bool b il (by omega),SeqAt.RcNeAt.tuple_bool b il (by omega)⟩
  | int b=>obtain ⟨t,rfl⟩:=hy; exact ⟨SeqAt.RcAt.tuple_int b t il (by omega),SeqAt.RcNeAt.tuple_int b t il (by omega)⟩
  | str b=>obtain ⟨t,rfl⟩:=hy; exact ⟨SeqAt.RcAt.tuple_str b t il (by omega),SeqAt.RcNeAt.tuple_str b t il (by omega)⟩
  | _=>cases py
 | _=>cases px
end
end L3

namespace L3
open PySem L2
section
variable {X:Cx} {T:Tb} {f:Value->Value->Sem Value}
def gI (C:Int->Int->Bool) (z:Int->Int->PV):G2:=fun _ x y=>match x,y with
 | .int i,.int j=>if C i j=true then some (z i j) else none
 | _,_=>none
theorem gI_some {C:Int->Int->Bool} {z:Int->Int->PV} {M:Sto} {x y w:PV} (e:gI C z M x y=some w):∃ i j,x = .int i∧y = .int j∧C i j=true∧w=z i j:=by
 unfold gI at e;split at e
 ·split at e
  ·rename_i h;cases e;exact ⟨_,_,rfl,rfl,h,rfl⟩
  ·cases e
 ·cases e
theorem opI_P {C:Int->Int->Bool} {z:Int->Int->PV} {D:Int->Int->Prop} {zv:Int->Int->V} (h:OpR X f (rI D zv)) (hD:∀ i j,C i j=true->D i j) (hz:∀ W i j,Rep W (z i j) (zv i j)):OpP X T f (gI C z) :=
 vd h fun v u H Q hQQ=>by
  obtain ⟨W,M,x,y,w,k,hh,rx,ry,e,q⟩:=hQQ;obtain ⟨i,j,rfl,rfl,hc,rfl⟩:=gI_some e;exact ⟨i,j,rx,ry,hD i j hc,q W H _ (.refl W) hh (hz W i j)⟩
theorem Jz {z:Int->Int->PV} {zv:Int->Int->V} (h:OpR X f (rI0 zv)) (hz:∀ W i j,Rep W (z i j) (zv i j)):OpP X T f (gI (fun _ _=>true) z) :=
 vd h fun v u H Q hQQ=>by
  obtain ⟨W,M,x,y,w,k,hh,rx,ry,e,q⟩:=hQQ;obtain ⟨i,j,rfl,rfl,hc,rfl⟩:=gI_some e;exact ⟨i,j,rx,ry,q W H _ (.refl W) hh (hz W i j)⟩
abbrev yes2:Int->Int->Bool:=fun _ _=>true
def YZ:G2:=gI yes2 fun i j=>.int (i + j)
def xF:G2:=gI yes2 fun i j=>.int (i - j)
def cMul (i j:Int):Bool:=(decide (-(2 ^ 64) < i) && decide (i < 2 ^ 64)) || (decide (-(2 ^ 64) < j) && decide (j < 2 ^ 64))
def gMulI:G2:=gI cMul fun i j=>.int (i * j)
def gDiv:G2:=gI (fun _ j=>decide (0 < j) && decide (j < 1073741824)) fun i j=>.int (i / j)
def gMod:G2:=gI (fun _ j=>decide (0 < j)) fun i j=>.int (i % j)
def gPow:G2:=gI (fun i j=>decide (0<=j) && decide (j<=1000000) && decide (i.natAbs < 2 ^ 64)) fun i j=>.int (i ^ j.toNat)
def gLt:G2:=gI yes2 fun i j=>.bl (decide (i < j))
def gLe:G2:=gI yes2 fun i j=>.bl (decide (i<=j))
def gGt:G2:=gI yes2 fun i j=>.bl (decide (j < i))
def gGe:G2:=gI yes2 fun i j=>.bl (decide (j<=i))
theorem o_addI:OpP X T (binaryOp .Add) YZ:=Jz op_add fun _ _ _=>rfl
theorem vp:OpP X T (binaryOp .Sub) xF:=Jz op_sub fun _ _ _=>rfl
theorem o_mulI:OpP X T (binaryOp .Mult) gMulI:=opI_P op_mul (fun i j h=>by
 unfold cMul at h;simp only [Bool.or_eq_true,Bool.and_eq_true,decide_eq_true_eq] at h
 exact h) fun _ _ _=>rfl
theorem o_div:OpP X T (binaryOp .FloorDiv) gDiv:=opI_P op_fdiv (fun i j h=>by
 simp only [Bool.and_eq_true,decide_eq_true_eq] at h
 exact h) fun _ _ _=>rfl
theorem o_mod:OpP X T (binaryOp .Mod) gMod:=opI_P op_mod (fun i j h=>of_decide_eq_true h) fun _ _ _=>rfl
theorem o_pow:OpP X T (binaryOp .Pow) gPow:=opI_P op_pow (fun i j h=>by
 simp only [Bool.and_eq_true,decide_eq_true_eq] at h
 exact ⟨h.1.1,h.1.2,h.2⟩) fun _ _ _=>rfl
theorem o_lt:OpP X T (compareOp .Lt) gLt:=Jz op_lt fun _ _ _=>rfl
theorem o_le:OpP X T (compareOp .LtE) gLe:=Jz op_le fun _ _ _=>rfl
theorem o_gt:OpP X T (compareOp .Gt) gGt:=Jz op_gt fun _ _ _=>rfl
theorem o_ge:OpP X T (compareOp .GtE) gGe:=Jz op_ge fun _ _ _=>rfl
theorem o_iadd:OpP X T (inplaceOp .Add) YZ:=Jz iop_add fun _ _ _=>rfl
def gCat:G2:=fun M x y=>match yV M x,yV M y with
 | some xs,some ys=>if xs.length + ys.length<=sizeLine then some (.lst (xs ++ ys)) else none
 | _,_=>none
theorem o_cat:OpP X T (binaryOp .Add) gCat:=vd op_cat fun v u H Q hQQ=>by
 obtain ⟨W,M,x,y,w,k,hh,rx,ry,e,q⟩:=hQQ;unfold gCat at e;split at e
 ·rename_i xs ys e1 e2;split at e
  ·rename_i hz;cases e;obtain ⟨a,vs,rfl,ha,rv⟩:=xT hh rx e1;obtain ⟨b,us,rfl,hb,ru⟩:=xT hh ry e2;refine ⟨a,b,vs,us,rfl,rfl,ha,hb,by rw [rv.length,ru.length]; exact hz,fun p hp=>?_⟩;obtain ⟨W2,l2,h2,r2⟩:=Jf hh (rv.append ru) hp;exact q W2 _ _ l2 h2 r2
  ·cases e
 ·cases e
def gCatT:G2:=fun _ x y=>match x,y with
 | .tup xs,.tup ys=>if xs≠[]∧xs.length + ys.length<=sizeLine then some (.tup (xs ++ ys)) else none
 | _,_=>none
theorem yj.nil_iff {W:Wd} {xs:List PV} {vs:List V} (r:yj W xs vs):vs=[]↔xs=[]:=by
 have:=r.length
 constructor
 ·rintro rfl;exact List.eq_nil_of_length_eq_zero (by simpa using this.symm)
 ·rintro rfl;exact List.eq_nil_of_length_eq_zero (by simpa using this)
theorem o_catT (hT:T.K=X.K):OpP X T (binaryOp .Add) gCatT:=vd op_catT fun v u H Q hQQ=>by
 obtain ⟨W,M,x,y,w,k,hh,rx,ry,e,q⟩:=hQQ;unfold gCatT at e;split at e
 ·rename_i xs ys;split at e
  ·rename_i hz;cases e;obtain ⟨a,vs,rfl,ha,rv⟩:=vT hh rx;obtain ⟨b,us,rfl,hb,ru⟩:=vT hh ry;rw [k,hT] at ha hb;refine ⟨a,b,vs,us,rfl,rfl,ha,hb,fun z=>hz.1 (rv.nil_iff.mp z),by rw [rv.length,ru.length]; exact hz.2,fun z=>?_,fun z p hp=>?_⟩
   ·have z:=ru.nil_iff.mp z;subst z;rw [List.append_nil] at q;exact q W H _ (.refl W) hh rx
   ·obtain ⟨W2,l2,h2,r2⟩:=uu hh (rv.append ru) hp;exact q W2 _ _ l2 h2 r2
  ·cases e
 ·cases e
def xG:G2:=orG YZ (orG gCat gCatT)
theorem xJ (hT:T.K=X.K):OpP X T (binaryOp .Add) xG:=opp_or o_addI (opp_or o_cat (o_catT hT))
def gRep:G2:=fun M x y=>match y with
 | .int k=>(match yV M x with
  | some xs=>if -(2 ^ 63)<=k∧k < 2 ^ 63∧xs.length * k.toNat<=sizeLine then some (.lst (List.replicate k.toNat xs).flatten) else none
  | none=>none)
 | _=>none
theorem o_rep:OpP X T (binaryOp .Mult) gRep:=vd op_rep fun v u H Q hQQ=>by
 obtain ⟨W,M,x,y,w,k,hh,rx,ry,e,q⟩:=hQQ;unfold gRep at e;split at e
 ·rename_i i;split at e
  ·rename_i xs e1;split at e
   ·rename_i hz;cases e;obtain ⟨a,vs,rfl,ha,rv⟩:=xT hh rx e1;refine ⟨a,i,vs,rfl,ry,ha,hz.1,hz.2.1,by rw [rv.length]; exact hz.2.2,fun p hp=>?_⟩;obtain ⟨W2,l2,h2,r2⟩:=Jf hh (rv.rep i.toNat) hp;exact q W2 _ _ l2 h2 r2
   ·cases e
  ·cases e
 ·cases e
def Xr:G2:=orG gMulI gRep
theorem YU:OpP X T (binaryOp .Mult) Xr:=opp_or o_mulI o_rep
def isNon:PV->Bool
 | .non=>true
 | _=>false
theorem isNon_rep {W:Wd} {x:PV} {v:V} (r:Rep W x v):decide (v = .non)=isNon x:=by
 cases x with
 | non=>cases r; rfl
 | bl _=>cases r; rfl
 | int _=>cases r; rfl
 | str _=>cases r; rfl
 | ty _=>cases r; rfl
 | top _=>cases r; rfl
 | exn _=>obtain ⟨_,rfl,_⟩:=r; rfl
 | dct _=>obtain ⟨_,_,rfl,_⟩:=r; rfl
 | scr _=>obtain ⟨_,rfl,_⟩:=r; rfl
 | ref _=>obtain ⟨_,rfl,_⟩:=r; rfl
 | tup _=>obtain ⟨_,_,rfl,_⟩:=r; rfl
 | lst _=>obtain ⟨_,_,rfl,_⟩:=r; rfl
def gIsN:G2:=fun _ x y=>match y with
 | .non=>some (.bl (isNon x))
 | _=>none
def gNotN:G2:=fun _ x y=>match y with
 | .non=>some (.bl (!isNon x))
 | _=>none
theorem o_isN:OpP X T (compareOp .Is) gIsN:=vd op_isN fun v u H Q hQQ=>by
 obtain ⟨W,M,x,y,w,k,hh,rx,ry,e,q⟩:=hQQ;unfold gIsN at e;split at e
 ·cases e;exact ⟨ry,q W H _ (.refl W) hh (by rw [isNon_rep rx]; rfl)⟩
 ·cases e
theorem o_notN:OpP X T (compareOp .IsNot) gNotN:=vd op_notN fun v u H Q hQQ=>by
 obtain ⟨W,M,x,y,w,k,hh,rx,ry,e,q⟩:=hQQ;unfold gNotN at e;split at e
 ·cases e;exact ⟨ry,q W H _ (.refl W) hh (by rw [isNon_rep rx]; rfl)⟩
 ·cases e
def gIsB:G2:=fun _ x y=>match x,y with
 | .bl a,.bl b=>some (.bl (a == b))
 | _,_=>none
theorem o_isB:OpP X T (compareOp .Is) gIsB:=vd op_isB fun v u H Q hQQ=>by
 obtain ⟨W,M,x,y,w,k,hh,rx,ry,e,q⟩:=hQQ;unfold gIsB at e;split at e
 ·cases e;exact ⟨_,_,rx,ry,q W H _ (.refl W) hh rfl⟩
 ·cases e
def gIs:G2:=orG gIsN gIsB
theorem o_is:OpP X T (compareOp .Is) gIs:=opp_or o_isN o_isB
def look (M:Sto):PV->PV
 | .ref i=>(match M.g i with
  | some (.lst xs)=>.lst xs
  | _=>.ref i)
 | x=>x
theorem look_none {M:Sto} {i:Nat} (h:∀ xs,M.g i≠some (.lst xs)):look M (.ref i) = .ref i:=by
 show (match M.g i with
  | some (.lst xs)=>PV.lst xs
  | _=>.ref i)=_
 split
 ·rename_i xs e;exact absurd e (h xs)
 ·rfl
theorem look_lst {M:Sto} {i:Nat} {xs:List PV} (h:M.g i=some (.lst xs)):look M (.ref i) = .lst xs:=by
 show (match M.g i with
  | some (.lst xs)=>PV.lst xs
  | _=>.ref i)=_
 rw [h]
def Wd.all (W:Wd) (H:Hp):Wd:=⟨W.T,H,W.α,fun _=>none⟩
theorem Held.le_all {W:Wd} {M:Sto} {H:Hp} (hh:Held W M H):W.le0 (W.all H):=⟨rfl,hh.f,fun _ _ e=>e⟩
theorem Held.all {W:Wd} {M:Sto} {H:Hp} (hh:Held W M H):Held (W.all H) ⟨M.n,fun _=>none⟩ H:=⟨fun _ _ e=>e,fun _ _ e=>(by cases e),fun _ _ _ _ _ e=>(by cases e),hh.top,fun _ _ e=>(by cases e),fun _ _ e=>(by cases e)⟩
theorem uN {W:Wd} {M:Sto} {H:Hp} {x:PV} {v:V} (hh:Held W M H) (r:Rep W x v):Rep (W.all H) (look M x) v:=by
 cases x with
 | ref i =>
  by_cases h:∃ xs,M.g i=some (.lst xs)
  ·obtain ⟨xs,e⟩:=h;rw [look_lst e];obtain ⟨a,rfl,ea⟩:=r;obtain ⟨b,o,h1,h2,h3,vs,rfl,rr⟩:=hh.m i _ e;rw [ea] at h1;cases h1;exact ⟨a,vs,rfl,h3,rr.up0 hh.le_all⟩
  ·rw [look_none fun xs e=>h ⟨xs,e⟩];exact r.up0 hh.le_all
 | _=>exact r.up0 hh.le_all
def eqG (neg:Bool):G2:=fun M x y=>if plain (look M x)=true∧plain (look M y)=true∧dep (look M x)<=60 then some (.bl (if neg then !eqB (look M x) (look M y) else eqB (look M x) (look M y))) else none
theorem o_eq (hT:T.K=X.K) (hu:X.A.units + 64 < cLine):OpP X T (compareOp .Eq) (eqG false):=by
 intro pins s σ H v u v' u' Q I rv ru h;obtain ⟨W,M,x,y,w,k,hh,rx,ry,e,q⟩:=h;unfold eqG at e;split at e
 ·rename_i hp;cases e;have t:=(rcAt_P I hh.all (show W.T.K=X.K by rw [k]; exact hT) (A:=X.A) (by omega) hp.1 hp.2.1 (uN hh rx) (uN hh ry) rv ru).1;exact t X.prog X.w X.xe _ ⟨.bl _,H,I,rfl,q W H _ (.refl W) hh rfl⟩
 ·cases e
theorem o_ne (hT:T.K=X.K) (hu:X.A.units + 64 < cLine):OpP X T (compareOp .NotEq) (eqG true):=by
 intro pins s σ H v u v' u' Q I rv ru h;obtain ⟨W,M,x,y,w,k,hh,rx,ry,e,q⟩:=h;unfold eqG at e;split at e
 ·rename_i hp;cases e;have t:=(rcAt_P I hh.all (show W.T.K=X.K by rw [k]; exact hT) (A:=X.A) (by omega) hp.1 hp.2.1 (uN hh rx) (uN hh ry) rv ru).2;exact t X.prog X.w X.xe _ ⟨.bl _,H,I,rfl,q W H _ (.refl W) hh rfl⟩
 ·cases e
theorem atI_rep {W:Wd} {xs:List PV} {vs:List V} {i:Int} {x:PV} (r:yj W xs vs) (e:atI xs i=some x):∃ v,atI vs i=some v∧Rep W x v:=by
 unfold atI at e ⊢;rw [r.length]
 cases h:ixN xs.length i with
 | none=>rw [h] at e; cases e
 | some j =>
  rw [h] at e;exact r.get e
def gIx:G2:=fun M x y=>match y with
 | .int i=>(uZ M x).bind fun xs=>atI xs i
 | _=>none
abbrev IxP (X:Cx) (T:Tb) (g:G2):Prop:=IxR X (rP T g)
theorem vi (hT:T.K=X.K):IxP X T gIx:=by
 intro value slice pins s σ H v u v' u' Q I rv ru h hs;refine (ix_list.or ix_tup) value slice pins s σ H v u v' u' Q I rv ru ?_ hs;obtain ⟨W,M,x,y,w,k,hh,rx,ry,e,q⟩:=h;unfold gIx at e;split at e
 ·rename_i i
  cases e1:uZ M x with
  | none=>rw [e1] at e; cases e
  | some xs =>
   rw [e1] at e;obtain ⟨a,vs,rfl,hq,rr⟩:=any_at hh rx e1;obtain ⟨z,e2,rz⟩:=atI_rep rr e;rw [k,hT] at hq
   rcases hq with hq | hq
   ·exact .inl ⟨a,vs,i,z,rfl,ry,hq,e2,q W H z (.refl W) hh rz⟩
   ·exact .inr ⟨a,vs,i,z,rfl,ry,hq,e2,q W H z (.refl W) hh rz⟩
 ·cases e
variable {ES:St->XK} {a b:Expr} {pos:Pos} {da db:DE}
theorem xf {g:G2} (hr:IxP X T g) (ha:QE X T ES a da) (hb:QE X T ES b db) (hs:PlainIx b):QE X T ES (.Subscript a b pos) (dOp g da db):=⟨jS (pe_ix hr ha.h hb.h hs) fun _ _ _=>Xz⟩
structure QO (X:Cx) (T:Tb) (ES:St->XK) (e:Option Expr) (d:En->Sto->Res (Option Int)):Prop where
 h:PO X e (lft T (fun _ a b=>b=a) ES d)
def dON:En->Sto->Res (Option Int):=fun _ M=>.ok none M
def dOS (d:DE):En->Sto->Res (Option Int):=fun ρ M=>(d ρ M).bind fun x M1=>match x with
 | .int i=>.ok (some i) M1
 | _=>.bad
theorem po_imp {e:Option Expr} {t t':TO} (h:PO X e t) (f:∀ σ H Q,t' σ H Q->t σ H Q):PO X e t':=fun pins s σ H Q I q=>h pins s σ H Q I (f σ H Q q)
theorem qo_none:QO X T ES none dON:=⟨po_imp po_none fun σ H Q hQQ=>jF hQQ fun W ρ M k hh hs p=>p W H none (.refl W) hh rfl⟩
theorem JS (h:QE X T ES a da):QO X T ES (some a) (dOS da):=⟨po_imp (po_some h.h) fun σ H Q hQQ=>jF hQQ fun W ρ M k hh hs p=>⟨W,ρ,M,k,hh,hs,yo.bind p fun W1 M1 x v H1 l1 h1 r1 p1=>by
 split at p1
 ·rename_i i;exact ⟨i,r1,p1 W1 H1 _ (.refl W1) h1 rfl⟩
 ·exact p1.elim⟩⟩
def Yp (xs:List PV) (lo hi:Option Int):List PV:=(xs.drop (HT.sIx xs.length 0 lo)).take (HT.sIx xs.length xs.length hi - HT.sIx xs.length 0 lo)
theorem cut_rep {W:Wd} {xs:List PV} {vs:List V} (r:yj W xs vs) (lo hi:Option Int):yj W (Yp xs lo hi) (cutV vs lo hi):=by
 unfold Yp cutV;rw [r.length];exact (r.drop _).take _
def gSl (M:Sto) (x:PV) (lo hi:Option Int):Option PV:=match x with
 | .tup xs=>if ¬ (HT.sIx xs.length 0 lo=0∧HT.sIx xs.length xs.length hi=xs.length) then some (.tup (Yp xs lo hi)) else some (.tup xs)
 | x=>(yV M x).map fun xs=>.lst (Yp xs lo hi)
def dSl (d:DE) (dl dh:En->Sto->Res (Option Int)):DE:=fun ρ M=>(d ρ M).bind fun x M1=>(dl ρ M1).bind fun lo M2=>(dh ρ M2).bind fun hi M3=>ofO (gSl M3 x lo hi) M3
theorem qe_slice (hT:T.K=X.K) {lo hi:Option Expr} {p2:Pos} {dl dh:En->Sto->Res (Option Int)} (he:QE X T ES a da) (hl:QO X T ES lo dl) (hu:QO X T ES hi dh):QE X T ES (.Subscript a (.Slice lo hi none p2) pos) (dSl da dl dh) :=
 ⟨jS (pe_slice (SlR.or (SlR.or sl_list sl_tup) sl_tupW) he.h hl.h hu.h) fun σ H Q hQQ=>jF hQQ fun W ρ M k hh hs p=>⟨W,ρ,M,k,hh,hs,yo.bind p fun W1 M1 x v H1 l1 h1 r1 p1 =>
  ⟨W1,ρ,M1,l1.k.trans k,h1,hs.up l1,yo.bind p1 fun W2 M2 lo' l' H2 l2 h2 r2 p2=>⟨W2,ρ,M2,l2.k.trans (l1.k.trans k),h2,hs.up (l1.trans l2),yo.bind p2 fun W3 M3 hi' u' H3 l3 h3 r3 p3=>by
   subst r2;subst r3;have r1:=(r1.up l2).up l3;have k3:W3.T=T:=l3.k.trans (l2.k.trans (l1.k.trans k))
   have lists:∀ e:Option (List PV),yV M3 x=e->yo W3 Rep (ofO (e.map fun xs=>PV.lst (Yp xs l' u')) M3) Q (ES σ)->rSlL X.K v l' u' H3 Q:=fun e he q=>by
    cases e with
    | none=>exact q.elim
    | some xs =>
     obtain ⟨a,vs,rfl,ha,rv⟩:=xT h3 r1 he;refine ⟨a,vs,rfl,SqL.of ha,fun p hp=>?_⟩;obtain ⟨W4,l4,h4,r4⟩:=Jf h3 (cut_rep rv l' u') hp;exact q W4 _ _ l4 h4 r4
   cases x with
   | tup xs =>
    have p3:yo W3 Rep (ofO (if ¬ (HT.sIx xs.length 0 l'=0∧HT.sIx xs.length xs.length u'=xs.length) then some (PV.tup (Yp xs l' u')) else some (.tup xs)) M3) Q (ES σ):=p3
    by_cases hz:¬ (HT.sIx xs.length 0 l'=0∧HT.sIx xs.length xs.length u'=xs.length)
    ·rw [if_pos hz] at p3;obtain ⟨a,vs,rfl,ha,rv⟩:=vT h3 r1;rw [k3,hT] at ha;refine .inl (.inr ⟨a,vs,rfl,ha,by rw [rv.length]; exact hz,fun p hp=>?_⟩);obtain ⟨W4,l4,h4,r4⟩:=uu h3 (cut_rep rv l' u') hp;exact p3 W4 _ _ l4 h4 r4
    ·rw [if_neg hz] at p3;have r0:=r1;obtain ⟨a,vs,rfl,ha,rv⟩:=vT h3 r1;rw [k3,hT] at ha;exact .inr ⟨a,vs,rfl,ha,by rw [rv.length]; exact Classical.not_not.mp hz,p3 W3 H3 _ (.refl W3) h3 r0⟩
   | lst xs=>exact .inl (.inl (lists _ rfl p3))
   | ref i=>exact .inl (.inl (lists _ rfl p3))
   | _=>exact p3.elim⟩⟩⟩⟩
def gNeg (_:Sto):PV->Option PV
 | .int i=>some (.int (-i))
 | _=>none
def dUn (g:Sto->PV->Option PV) (d:DE):DE:=fun ρ M=>(d ρ M).bind fun x M1=>ofO (g M1 x) M1
theorem qe_neg (ha:QE X T ES a da):QE X T ES (.UnaryOp .USub a pos) (dUn gNeg da):=⟨jS (pe_un un_neg ha.h) fun σ H Q hQQ=>jF hQQ fun W ρ M k hh hs p=>⟨W,ρ,M,k,hh,hs,yo.bind p fun W1 M1 x v H1 l1 h1 r1 p1=>by
 cases x with
 | int i=>exact ⟨i,r1,p1 W1 H1 _ (.refl W1) h1 rfl⟩
 | _=>exact p1.elim⟩⟩
end
end L3

namespace L3
open PySem L2
open Classical in
noncomputable def eqW (W:Wd) (y:PV) (ys:List PV) (u:Value):Bool:=decide (∃ z ∈ ys,∃ v,Rep W z v∧yn v u∧eqB z y=true)
section
variable {X:Cx} {T:Tb} {pins:List (Addr × Obj)} {σ:St} {H:Hp} {s:Shared} {W:Wd} {M:Sto}
theorem Jy:∀ {xs:List PV} {x:PV},yZ xs=true->x ∈ xs->plain x=true:=fun {xs x} h hm=>by
 obtain ⟨j,e⟩:=List.mem_iff_getElem?.mp hm;exact ut h e
open Classical in
theorem eqW_at (I:Inv X pins σ H s) (hh:Held W M H) (hT:W.T.K=X.K) {y:PV} {ys:List PV} {z:PV} {v:V} {u:Value} (hz:z ∈ ys) (p:yZ ys=true) (r:Rep W z v) (q:yn v u):eqW W y ys u=eqB z y:=by
 unfold eqW
 cases e:eqB z y with
 | true=>exact decide_eq_true ⟨z,hz,v,r,q,e⟩
 | false =>
  refine decide_eq_false fun hQQ=>?_;obtain ⟨z',hz',v',r',q',e'⟩:=hQQ;cases q'.inj q
  have:=at_inj I hh hT (Jy p hz') (Jy p hz) r' r
  subst this;rw [e] at e';cases e'
theorem any_eqW (I:Inv X pins σ H s) (hh:Held W M H) (hT:W.T.K=X.K) {y:PV} {ys:List PV} (p:yZ ys=true):∀ {zs:List PV} {vs:List V} {us:List Value},(∀ z ∈ zs,z ∈ ys)->yj W zs vs->ym vs us->us.any (eqW W y ys)=zs.any fun z=>eqB z y
 | [],_,_,_,r,q=>by cases r; cases q; rfl
 | z :: zs,_,_,hm,⟨v,r,e,a,b⟩,q=>by
  subst e
  cases q with
  | cons q1 q2 =>
   rw [List.any_cons,List.any_cons,eqW_at I hh hT (hm z List.mem_cons_self) p a q1,any_eqW I hh hT p (fun w hw=>hm w (List.mem_cons_of_mem _ hw)) b q2]
theorem in_ok (hT:T.K=X.K) (hu:X.A.units + 100 < cLine) (I:Inv X pins σ H s) (hh:Held W M H) (k:W.T=T) {x y:PV} {v u:V} {v' u':Value} {ys:List PV} (rx:Rep W x v) (ry:Rep W y u) (qx:yn v v') (qy:yn u u') (e:uZ M y=some ys) (px:plain (look M x)=true)
  (py:yZ ys=true) (pd:∀ z ∈ ys,dep z<=60) {Q:Value->Shared->Prop} {E:Value->Shared->Prop}:(Q (.bool (ys.any fun z=>eqB z (look M x))) s->wpAny (model X.prog X.w) X.A (compareOp .In v' u') Q E s) ∧
   (Q (.bool (!(ys.any fun z=>eqB z (look M x)))) s->wpAny (model X.prog X.w) X.A (compareOp .NotIn v' u') Q E s):=by
 have kk:(W.all H).T.K=X.K:=by
  show W.T.K=X.K;rw [k];exact hT
 obtain ⟨a,vs,rfl,hq,rr⟩:=any_at hh ry e;cases qy;rw [k,hT] at hq;have rr:=rr.up0 hh.le_all;have rx:=uN hh rx
 have tests:∀ {its:List Value},ym vs its->(∀ w,w ∈ its.toArray->SeqAt.EqAt X.A.in1 s w v' (eqW (W.all H) (look M x) ys w))∧its.toArray.any (eqW (W.all H) (look M x) ys)=ys.any fun z=>eqB z (look M x):=fun {its} rv=>by
  refine ⟨fun w hw=>?_,?_⟩
  ·obtain ⟨j,ej⟩:=List.mem_iff_getElem?.mp (show w ∈ its by simpa using hw);obtain ⟨v2,e1,r1⟩:=JM rv ej;obtain ⟨z,e2,r2⟩:=JP rr e1;have hz:=List.mem_of_getElem? e2;rw [eqW_at I hh.all kk hz py r2 r1]
   have:=pd z hz
   exact eqAt_P I hh.all kk (dep z + 1) z (look M x) X.A.in1 (Nat.lt_succ_self _) (show X.A.units + 1 + dep z < cLine by omega) (Jy py hz) px r2 rx r1 qx
  ·rw [List.any_toArray];exact any_eqW I hh.all kk py (fun _ z=>z) rr rv
 rcases hq with hq | hq
 ·obtain ⟨its,rv,pl,hz⟩:=I.list hq;obtain ⟨t1,t2⟩:=tests rv;exact ⟨fun q=>SeqAt.in_listAt _ pl.isList t1 (by rw [t2]; exact q),fun q=>SeqAt.notIn_listAt _ pl.isList t1 (by rw [t2]; exact q)⟩
 ·obtain ⟨its,rv,pl,hz⟩:=I.tuple hq;obtain ⟨t1,t2⟩:=tests rv;exact ⟨fun q=>SeqAt.in_tupleAt _ pl t1 (by rw [t2]; exact q),fun q=>SeqAt.notIn_tupleAt _ pl t1 (by rw [t2]; exact q)⟩
def YJ:List PV->Bool
 | []=>true
 | z :: zs=>decide (dep z<=60) && YJ zs
theorem JG:∀ {zs:List PV} {z:PV},YJ zs=true->z ∈ zs->dep z<=60
 | [],_,_,h=>by cases h
 | w :: ws,z,e,h=>by
  unfold YJ at e;have e:=Bool.and_eq_true_iff.mp e
  rcases List.mem_cons.mp h with rfl | h
  ·exact of_decide_eq_true e.1
  ·exact JG e.2 h
def gIn (neg:Bool):G2:=fun M x y=>match uZ M y with
 | some ys=>if plain (look M x)=true∧yZ ys=true∧YJ ys=true then some (.bl (if neg then !(ys.any fun z=>eqB z (look M x)) else ys.any fun z=>eqB z (look M x))) else none
 | none=>none
theorem o_in (hT:T.K=X.K) (hu:X.A.units + 100 < cLine):OpP X T (compareOp .In) (gIn false):=by
 intro pins s σ H v u v' u' Q I rv ru h;obtain ⟨W,M,x,y,w,k,hh,rx,ry,e,q⟩:=h;unfold gIn at e;split at e
 ·rename_i ys e1;split at e
  ·rename_i hp;cases e;exact (in_ok hT hu I hh k rx ry rv ru e1 hp.1 hp.2.1 (fun z hz=>JG hp.2.2 hz)).1 ⟨.bl _,H,I,rfl,q W H _ (.refl W) hh rfl⟩
  ·cases e
 ·cases e
theorem JY (hT:T.K=X.K) (hu:X.A.units + 100 < cLine):OpP X T (compareOp .NotIn) (gIn true):=by
 intro pins s σ H v u v' u' Q I rv ru h;obtain ⟨W,M,x,y,w,k,hh,rx,ry,e,q⟩:=h;unfold gIn at e;split at e
 ·rename_i ys e1;split at e
  ·rename_i hp;cases e;exact (in_ok hT hu I hh k rx ry rv ru e1 hp.1 hp.2.1 (fun z hz=>JG hp.2.2 hz)).2 ⟨.bl _,H,I,rfl,q W H _ (.refl W) hh rfl⟩
  ·cases e
 ·cases e
end
abbrev G1:=Sto->List PV->Option (PV × Sto)
def rC (T:Tb) (g:G1):List V->Hp->VK->Prop:=fun vs H Q=>∃ W M xs z M',W.T=T∧Held W M H∧yj W xs vs∧g M xs=some (z,M')∧∀ W' H' v',W.le W'->Held W' M' H'->Rep W' z v'->Q v' H'
def dCB (g:G1) (ds:DA):DE:=fun ρ M=>(ds ρ M).bind fun xs M1=>match g M1 xs with
 | some (z,M2)=>.ok z M2
 | none=>.bad
def orC (g g':G1):G1:=fun M xs=>match g M xs with
 | some z=>some z
 | none=>g' M xs
section
variable {X:Cx} {T:Tb} {ES:St->XK} {e:Expr} {es:List Expr} {p pos:Pos} {ds:DA} {g g':G1} {x:Str} {bid:String}
theorem vF {f:Value} {r r':List V->Hp->VK->Prop} (h:yy X f r) (k:∀ xs H Q,r' xs H Q->r xs H Q):yy X f r':=fun pins s σ H xs us Q I rs q=>h pins s σ H xs us Q I rs (k _ _ _ q)
theorem callp_or {f:Value} (h:yy X f (rC T g)) (h':yy X f (rC T g')):yy X f (rC T (orC g g')):=vF (yy.or h h') fun vs H Q hQQ=>by
 obtain ⟨W,M,xs,z,M',k,hh,rx,e,q⟩:=hQQ;unfold orC at e;split at e
 ·rename_i z' e';cases e;exact .inl ⟨W,M,xs,z,M',k,hh,rx,e',q⟩
 ·exact .inr ⟨W,M,xs,z,M',k,hh,rx,e,q⟩
theorem cb_lift {σ:St} {H:Hp} {Q:VK} (h:lft T Rep ES (dCB g ds) σ H Q):tCB (rC T g) (lft T yj ES ds) σ H Q:=by
 obtain ⟨W,ρ,M,k,hh,hs,p⟩:=h;refine ⟨W,ρ,M,k,hh,hs,yo.bind p fun W1 M1 xs vs H1 l1 h1 r1 p1=>?_⟩;split at p1
 ·rename_i z M2 e;exact ⟨W1,M1,xs,z,M2,l1.k.trans k,h1,r1,e,p1⟩
 ·exact p1.elim
theorem jm (hc:yy X (.builtin bid) (rC T g)) (hg:Gl X x) (hm:X.mg x=none) (hv:bootBuiltins x=some (.builtin bid)) (ha:QA X T ES (e :: es) ds) (hn:x≠"__name__":=by decide) (hdb:(x == ("__debug__":Str))=false:=by decide)
  (he:starEach (e :: es) X.env=(false,eval e X.env) :: starEach es X.env:=by rfl) (hpl:(backTo pos (starEach es X.env)).any (·.1)=false:=by rfl):QE X T ES (.Call (.Name x p) (e :: es) [] pos) (dCB g ds):=⟨jS (pe_callB hc hg hm hv ha.h hn hdb he hpl) fun _ _ _=>cb_lift⟩
theorem Jd (hc:yy X (.type bid) (rC T g)) (hg:Gl X x) (hm:X.mg x=none) (hv:bootBuiltins x=some (.type bid)) (ha:QA X T ES (e :: es) ds) (hn:x≠"__name__":=by decide) (hdb:(x == ("__debug__":Str))=false:=by decide)
  (he:starEach (e :: es) X.env=(false,eval e X.env) :: starEach es X.env:=by rfl) (hpl:(backTo pos (starEach es X.env)).any (·.1)=false:=by rfl):QE X T ES (.Call (.Name x p) (e :: es) [] pos) (dCB g ds):=⟨jS (pe_callTy hc hg hm hv ha.h hn hdb he hpl) fun _ _ _=>cb_lift⟩
theorem ve {W:Wd} {x:PV} {vs:List V} (r:yj W [x] vs):∃ v,vs=[v]∧Rep W x v:=by
 obtain ⟨v,r,e,a,b⟩:=r;cases b;exact ⟨v,e,a⟩
theorem xY {W:Wd} {x y:PV} {vs:List V} (r:yj W [x,y] vs):∃ v u,vs=[v,u]∧Rep W x v∧Rep W y u:=by
 obtain ⟨v,r,e,a,b⟩:=r;obtain ⟨u,rfl,q⟩:=ve b;exact ⟨v,u,e,a,q⟩
def one (f:Sto->PV->Option PV):G1:=fun M xs=>match xs with
 | [x]=>(match f M x with
  | some z=>some (z,M)
  | none=>none)
 | _=>none
theorem xX {f:Value} {fn:Sto->PV->Option PV} {r:List V->Hp->VK->Prop} (h:yy X f r)
  (k:∀ W M H x v z Q,W.T=T->Held W M H->Rep W x v->fn M x=some z->(∀ W' H' v',W.le W'->Held W' M H'->Rep W' z v'->Q v' H')->r [v] H Q):yy X f (rC T (one fn)) :=
 vF h fun vs H Q hQQ=>by
  obtain ⟨W,M,xs,z,M',kk,hh,rx,e,q⟩:=hQQ;unfold one at e;split at e
  ·rename_i x;split at e
   ·rename_i z' e';cases e;obtain ⟨v,rfl,rv⟩:=ve rx;exact k W M H x v z Q kk hh rv e' q
   ·cases e
  ·cases e
def yA (M:Sto) (x:PV):Option PV:=match uZ M x with
 | some xs=>some (.int xs.length)
 | none=>none
theorem yU (hT:T.K=X.K):yy X (.builtin "len") (rC T (one yA)):=xX call_len_seq fun W M H x v z Q k hh r e q=>by
 unfold yA at e;split at e
 ·rename_i xs e1;cases e;obtain ⟨a,vs,rfl,hq,rr⟩:=any_at hh r e1;rw [k,hT] at hq;exact ⟨a,vs,rfl,hq,q W H _ (.refl W) hh (by rw [rr.length]; rfl)⟩
 ·cases e
def vt:List PV->Option (List Int)
 | []=>some []
 | .int i :: xs=>(vt xs).map fun ns=>i :: ns
 | _ :: _=>none
theorem uP:∀ {xs:List PV} {ns:List Int},vt xs=some ns->xs=ns.map PV.int
 | [],ns,e=>by cases e; rfl
 | .int i :: xs,ns,e=>by
  have e:(vt xs).map (fun ns=>i :: ns)=some ns:=e
  cases h:vt xs with
  | none=>rw [h] at e; cases e
  | some ms =>
   rw [h] at e;cases e;rw [uP h];rfl
 | .non :: _,_,e=>by cases e
 | .bl _ :: _,_,e=>by cases e
 | .str _ :: _,_,e=>by cases e
 | .ty _ :: _,_,e=>by cases e
 | .tup _ :: _,_,e=>by cases e
 | .lst _ :: _,_,e=>by cases e
 | .scr _ :: _,_,e=>by cases e
 | .top _ :: _,_,e=>by cases e
 | .exn _ :: _,_,e=>by cases e
 | .dct _ :: _,_,e=>by cases e
 | .ref _ :: _,_,e=>by cases e
@[simp] theorem xC : ∀ (ns : List Int), vt (ns.map PV.int) = some ns
 | []=>rfl
 | n :: ns=>by
  show (vt (ns.map PV.int)).map (fun ms=>n :: ms)=_;rw [xC ns];rfl
def JJ:List PV->Option (List Bool)
 | []=>some []
 | .bl i :: xs=>(JJ xs).map fun ns=>i :: ns
 | _ :: _=>none
theorem boolsP_eq:∀ {xs:List PV} {ns:List Bool},JJ xs=some ns->xs=ns.map PV.bl
 | [],ns,e=>by cases e; rfl
 | .bl i :: xs,ns,e=>by
  have e:(JJ xs).map (fun ns=>i :: ns)=some ns:=e
  cases h:JJ xs with
  | none=>rw [h] at e; cases e
  | some ms =>
   rw [h] at e;cases e;rw [boolsP_eq h];rfl
 | .non :: _,_,e=>by cases e
 | .int _ :: _,_,e=>by cases e
 | .str _ :: _,_,e=>by cases e
 | .ty _ :: _,_,e=>by cases e
 | .tup _ :: _,_,e=>by cases e
 | .lst _ :: _,_,e=>by cases e
 | .scr _ :: _,_,e=>by cases e
 | .top _ :: _,_,e=>by cases e
 | .exn _ :: _,_,e=>by cases e
 | .dct _ :: _,_,e=>by cases e
 | .ref _ :: _,_,e=>by cases e
@[simp] theorem yT : ∀ (ns : List Bool), JJ (ns.map PV.bl) = some ns
 | []=>rfl
 | n :: ns=>by
  show (JJ (ns.map PV.bl)).map (fun ms=>n :: ms)=_;rw [yT ns];rfl
def iseq (M:Sto) (x:PV):Option (List Int):=(yV M x).bind vt
theorem XA {W:Wd} {M:Sto} {H:Hp} {x:PV} {v:V} {ns:List Int} (hh:Held W M H) (r:Rep W x v) (e:iseq M x=some ns):∃ a,v = .ref a∧H a=some (.lst (ns.map V.int)):=by
 unfold iseq at e
 cases h:yV M x with
 | none=>rw [h] at e; cases e
 | some xs =>
  rw [h] at e;obtain ⟨a,vs,rfl,ha,rr⟩:=xT hh r h;rw [uP e] at rr;rw [yj.ints.mp rr] at ha;exact ⟨a,rfl,ha⟩
def insI (n:Int):List Int->List Int
 | []=>[n]
 | m :: ms=>if n<=m then n :: m :: ms else m :: insI n ms
def yG:List Int->List Int
 | []=>[]
 | n :: ns=>insI n (yG ns)
theorem YD (n:Int):∀ ms:List Int,(insI n ms).Perm (n :: ms)
 | []=>.refl _
 | m :: ms=>by
  unfold insI;split
  ·exact .refl _
  ·exact ((YD n ms).cons m).trans (List.Perm.swap n m ms)
theorem xk:∀ ns:List Int,(yG ns).Perm ns
 | []=>.refl _
 | n :: ns=>(YD n _).trans ((xk ns).cons n)
theorem YY {n:Int}:∀ {ms:List Int},ms.Pairwise (·<=·)->(insI n ms).Pairwise (·<=·)
 | [],_=>by simp [insI]
 | m :: ms,h=>by
  unfold insI;rw [List.pairwise_cons] at h;split
  ·rename_i hle;refine List.pairwise_cons.mpr ⟨fun a ha=>?_,List.pairwise_cons.mpr h⟩
   rcases List.mem_cons.mp ha with rfl | ha
   ·exact hle
   ·exact Int.le_trans hle (h.1 a ha)
  ·rename_i hle;refine List.pairwise_cons.mpr ⟨fun a ha=>?_,YY h.2⟩
   rcases List.mem_cons.mp ((YD n ms).mem_iff.mp ha) with rfl | ha
   ·omega
   ·exact h.1 a ha
theorem uo:∀ ns:List Int,(yG ns).Pairwise (·<=·)
 | []=>.nil
 | n :: ns=>YY (uo ns)
theorem sorted_one {xs ys:List Int} (h:xs.Perm ys) (hx:xs.Pairwise (·<=·)) (hy:ys.Pairwise (·<=·)):xs=ys :=
 List.Perm.eq_of_pairwise (le:=fun a b=>a<=b) (fun a b _ _ h1 h2=>Int.le_antisymm h1 h2) hx hy h
theorem XF {xs ns:List Int} (h:xs.Perm ns) (hx:xs.Pairwise (·<=·)):xs=yG ns:=sorted_one (h.trans (xk ns).symm) hx (uo ns)
def Ji (M:Sto) (x:PV):Option PV:=match iseq M x with
 | some ns=>if ns.length < 64 then some (.lst ((yG ns).map PV.int)) else none
 | none=>none
theorem b_sorted:yy X (.builtin "sorted") (rC T (one Ji)):=xX Xf fun W M H x v z Q k hh r e q=>by
 unfold Ji at e;split at e
 ·rename_i ns e1;split at e
  ·rename_i h64;cases e;obtain ⟨a,rfl,ha⟩:=XA hh r e1;refine ⟨a,ns,rfl,SqL.of ha,h64,fun l ms hl hp hs=>?_⟩;rw [XF hp hs];obtain ⟨W2,l2,h2,r2⟩:=Jf (xs:=(yG ns).map PV.int) hh (yj.ints.mpr rfl) hl;exact q W2 _ _ l2 h2 r2
  ·cases e
 ·cases e
def uB:List Int->Int
 | []=>0
 | [n]=>n
 | n :: ns=>if n<=uB ns then n else uB ns
def uC:List Int->Int
 | []=>0
 | [n]=>n
 | n :: ns=>if uC ns<=n then n else uC ns
theorem minI_mem:∀ {ns:List Int},ns≠[]->uB ns ∈ ns∧∀ a ∈ ns,uB ns<=a
 | [],h=>absurd rfl h
 | [n],_=>⟨List.mem_singleton.mpr rfl,fun a ha=>by rw [List.mem_singleton.mp ha]; exact Int.le_refl _⟩
 | n :: m :: ns,_=>by
  obtain ⟨h1,h2⟩:=minI_mem (ns:=m :: ns) (by simp);show (if n<=uB (m :: ns) then n else uB (m :: ns)) ∈ _∧∀ a ∈ _,(if n<=uB (m :: ns) then n else uB (m :: ns))<=a;split
  ·rename_i h;refine ⟨List.mem_cons_self,fun a ha=>?_⟩
   rcases List.mem_cons.mp ha with rfl | ha
   ·exact Int.le_refl _
   ·exact Int.le_trans h (h2 a ha)
  ·refine ⟨List.mem_cons_of_mem _ h1,fun a ha=>?_⟩
   rcases List.mem_cons.mp ha with rfl | ha
   ·omega
   ·exact h2 a ha
theorem maxI_mem:∀ {ns:List Int},ns≠[]->uC ns ∈ ns∧∀ a ∈ ns,a<=uC ns
 | [],h=>absurd rfl h
 | [n],_=>⟨List.mem_singleton.mpr rfl,fun a ha=>by rw [List.mem_singleton.mp ha]; exact Int.le_refl _⟩
 | n :: m :: ns,_=>by
  obtain ⟨h1,h2⟩:=maxI_mem (ns:=m :: ns) (by simp);show (if uC (m :: ns)<=n then n else uC (m :: ns)) ∈ _∧∀ a ∈ _,a<=(if uC (m :: ns)<=n then n else uC (m :: ns));split
  ·rename_i h;refine ⟨List.mem_cons_self,fun a ha=>?_⟩
   rcases List.mem_cons.mp ha with rfl | ha
   ·exact Int.le_refl _
   ·exact Int.le_trans (h2 a ha) h
  ·refine ⟨List.mem_cons_of_mem _ h1,fun a ha=>?_⟩
   rcases List.mem_cons.mp ha with rfl | ha
   ·omega
   ·exact h2 a ha
def fMin (M:Sto) (x:PV):Option PV:=match iseq M x with
 | some (n :: ns)=>some (.int (uB (n :: ns)))
 | _=>none
def fMax (M:Sto) (x:PV):Option PV:=match iseq M x with
 | some (n :: ns)=>some (.int (uC (n :: ns)))
 | _=>none
theorem b_min1 (hc:X.calm=true):yy X (.builtin "min") (rC T (one fMin)):=xX (call_minL hc) fun W M H x v z Q k hh r e q=>by
 unfold fMin at e;split at e
 ·rename_i n ns e1;cases e;obtain ⟨a,rfl,ha⟩:=XA hh r e1;refine ⟨a,n :: ns,rfl,SqL.of ha,by simp,fun m h1 h2=>?_⟩;obtain ⟨g1,g2⟩:=minI_mem (ns:=n :: ns) (by simp)
  have:m=uB (n :: ns):=Int.le_antisymm (h2 _ g1) (g2 _ h1)
  subst this;exact q W H _ (.refl W) hh rfl
 ·cases e
theorem b_max1 (hc:X.calm=true):yy X (.builtin "max") (rC T (one fMax)):=xX (call_maxL hc) fun W M H x v z Q k hh r e q=>by
 unfold fMax at e;split at e
 ·rename_i n ns e1;cases e;obtain ⟨a,rfl,ha⟩:=XA hh r e1;refine ⟨a,n :: ns,rfl,SqL.of ha,by simp,fun m h1 h2=>?_⟩;obtain ⟨g1,g2⟩:=maxI_mem (ns:=n :: ns) (by simp)
  have:m=uC (n :: ns):=Int.le_antisymm (g2 _ h1) (h2 _ g1)
  subst this;exact q W H _ (.refl W) hh rfl
 ·cases e
def YN (M:Sto) (x:PV):Option (List Bool):=(yV M x).bind JJ
theorem bseq_at {W:Wd} {M:Sto} {H:Hp} {x:PV} {v:V} {ns:List Bool} (hh:Held W M H) (r:Rep W x v) (e:YN M x=some ns):∃ a,v = .ref a∧H a=some (.lst (ns.map V.bl)):=by
 unfold YN at e
 cases h:yV M x with
 | none=>rw [h] at e; cases e
 | some xs =>
  rw [h] at e;obtain ⟨a,vs,rfl,ha,rr⟩:=xT hh r h;rw [boolsP_eq e] at rr;rw [yj.bools.mp rr] at ha;exact ⟨a,rfl,ha⟩
def vA (M:Sto) (x:PV):Option PV:=match YN M x with
 | some ns=>some (.bl (ns.all id))
 | none=>none
theorem b_all (hc:X.calm=true):yy X (.builtin "all") (rC T (one vA)):=xX (call_allL hc) fun W M H x v z Q k hh r e q=>by
 unfold vA at e;split at e
 ·rename_i ns e1;cases e;obtain ⟨a,rfl,ha⟩:=bseq_at hh r e1;exact ⟨a,ns,rfl,SqL.of ha,q W H _ (.refl W) hh rfl⟩
 ·cases e
def fAny (M:Sto) (x:PV):Option PV:=match YN M x with
 | some ns=>some (.bl (ns.any id))
 | none=>none
theorem any_range' {α:Type} (d:α) (f:α->Bool):∀ (bs:List α),((List.range bs.length).any fun i=>f (bs.getD i d))=bs.any f
 | []=>rfl
 | b :: bs=>by
  rw [List.length_cons,List.range_succ_eq_map,List.any_cons,List.any_map,List.any_cons]
  have:=any_range' d f bs
  rw [<- this];rfl
open PySem.Spec PyProof.Rows in
theorem call_anyL (hc:X.calm=true):yy X (.builtin "any") (fun xs H Q=>∃ (p:Addr) (bs:List Bool),xs=[.ref p]∧SqL X.K H p (bs.map V.bl)∧Q (.bl (bs.any id)) H):=by
 intro pins s σ H xs us Q I r h;obtain ⟨p,bs,rfl,hq,q⟩:=h;obtain ⟨u,rfl,rx⟩:=XE r;cases rx;obtain ⟨its,r',pl,hz⟩:=I.list hq;have hlen:=r'.length;rw [List.length_map] at hlen
 have hlt:p < s.heap.objs.size:=by obtain ⟨_,e,_⟩:=pl.isList; exact Heap.lt_size e
 refine call_any_walk (wpAny_pyIter_list pl.isList ?_);refine ⟨_,_,_,_,_,_,fun i=>id (bs.getD i false),rfl,Walks.list (A:=X.A.in1) (I.ok.hd hc) _ p (Nat.ne_of_lt hlt) its.toArray,⟨⟨_,Heap.get?_push_size _ rfl,rfl,rfl⟩,pl.isList.push _⟩,?_,fun h' tk hk=>?_⟩
 ·intro i v s' Q' E' hP hQ
  have hi:i < its.length:=by
   have:=(Array.getElem?_eq_some_iff.mp hP).1
   simpa using this
  have hv:v=its[i]:=by
   have:=(Array.getElem?_eq_some_iff.mp hP).2
   simpa using this.symm
  have rv:=Jb r' i hi
  have e:(bs.map V.bl).getD i .non=V.bl (bs.getD i false):=by
   rw [List.getD_eq_getElem?_getD,List.getD_eq_getElem?_getD,List.getElem?_map,List.getElem?_eq_getElem (by omega)];rfl
  rw [e] at rv;have rv:its[i]=Value.bool (bs.getD i false):=rv;rw [hv,rv];exact wpAny_truthy_bool hQ
 ·have e:((List.range its.toArray.size).any fun i=>id (bs.getD i false))=bs.any id:=by
   rw [List.size_toArray,<- hlen];exact any_range' false id bs
  rw [e];exact ⟨.bl _,H,I.kept (old_kept hk),rfl,q⟩
theorem b_any (hc:X.calm=true):yy X (.builtin "any") (rC T (one fAny)):=xX (call_anyL hc) fun W M H x v z Q k hh r e q=>by
 unfold fAny at e;split at e
 ·rename_i ns e1;cases e;obtain ⟨a,rfl,ha⟩:=bseq_at hh r e1;exact ⟨a,ns,rfl,SqL.of ha,q W H _ (.refl W) hh rfl⟩
 ·cases e
def two (f:Int->Int->PV):G1:=fun M xs=>match xs with
 | [.int i,.int j]=>some (f i j,M)
 | _=>none
theorem callp_two {f:Value} {fn:Int->Int->PV} {zv:Int->Int->V} (h:yy X f (fun xs H Q=>∃ i j,xs=[.int i,.int j]∧Q (zv i j) H)) (hz:∀ W i j,Rep W (fn i j) (zv i j)):yy X f (rC T (two fn)) :=
 vF h fun vs H Q hQQ=>by
  obtain ⟨W,M,xs,z,M',kk,hh,rx,e,q⟩:=hQQ;unfold two at e;split at e
  ·rename_i i j;cases e;obtain ⟨v,u,rfl,rv,ru⟩:=xY rx;exact ⟨i,j,by rw [show v = .int i from rv,show u = .int j from ru],q W H _ (.refl W) hh (hz W i j)⟩
  ·cases e
def Xs:G1:=orC (one fMin) (two fun i j=>.int (if j < i then j else i))
def Xu:G1:=orC (one fMax) (two fun i j=>.int (if j > i then j else i))
theorem b_min (hc:X.calm=true):yy X (.builtin "min") (rC T Xs):=callp_or (b_min1 hc) (callp_two (call_min2 hc) fun _ _ _=>rfl)
theorem b_max (hc:X.calm=true):yy X (.builtin "max") (rC T Xu):=callp_or (b_max1 hc) (callp_two (call_max2 hc) fun _ _ _=>rfl)
def fList (M:Sto) (x:PV):Option PV:=match uZ M x with
 | some xs=>some (.lst xs)
 | none=>none
theorem b_list (hT:T.K=X.K):yy X (.type "list") (rC T (one fList)):=xX uz fun W M H x v z Q k hh r e q=>by
 unfold fList at e;split at e
 ·rename_i xs e1;cases e;obtain ⟨a,vs,rfl,hq,rr⟩:=any_at hh r e1;rw [k,hT] at hq;refine ⟨a,vs,rfl,hq,fun l hl=>?_⟩;obtain ⟨W2,l2,h2,r2⟩:=Jf hh rr hl;exact q W2 _ _ l2 h2 r2
 ·cases e
def gListN:G1:=fun M xs=>match xs with
 | [x]=>(match uZ M x with
  | some ys=>some (.ref M.n,M.new (.lst ys))
  | none=>none)
 | _=>none
theorem b_listN (hT:T.K=X.K):yy X (.type "list") (rC T gListN):=vF uz fun vs H Q hQQ=>by
 obtain ⟨W,M,xs,z,M',k,hh,rx,e,q⟩:=hQQ;unfold gListN at e;split at e
 ·rename_i x;split at e
  ·rename_i ys e1;cases e;obtain ⟨v,rfl,r⟩:=ve rx;obtain ⟨a,vs,rfl,hq,rr⟩:=any_at hh r e1;rw [k,hT] at hq;refine ⟨a,vs,rfl,hq,fun l hl=>?_⟩;obtain ⟨W2,l2,h2,r2⟩:=vZ hh rr hl;exact q W2 _ _ l2 h2 r2
  ·cases e
 ·cases e
def Yh (M:Sto):PV->Option String
 | .non=>some "NoneType"
 | .bl _=>some "bool"
 | .int _=>some "int"
 | .str _=>some "str"
 | .tup _=>some "tuple"
 | .lst _=>some "list"
 | .dct _=>some "dict"
 | .ref i=>(match M.g i with
  | some (.lst _)=>some "list"
  | _=>none)
 | _=>none
theorem kindP_mem {M:Sto} {x:PV} {n:String} (e:Yh M x=some n):n ∈ xB:=by
 cases x with
 | ref i =>
  have e:(match M.g i with
   | some (.lst _)=>some "list"
   | _=>none)=some n:=e
  split at e
  ·cases e; decide
  ·cases e
 | non=>cases e; decide
 | bl _=>cases e; decide
 | int _=>cases e; decide
 | str _=>cases e; decide
 | tup _=>cases e; decide
 | lst _=>cases e; decide
 | dct _=>cases e; decide
 | _=>cases e
theorem kitx_at {pins:List (Addr × Obj)} {σ:St} {H:Hp} {s:Shared} {W:Wd} {M:Sto} (I:Inv X pins σ H s) (hh:Held W M H) (hT:W.T.K=X.K) {x:PV} {n:String} {v:V} {u:Value} (e:Yh M x=some n) (r:Rep W x v) (q:yn v u) :
  ∃ P,PySem.W.KitX X.K u (.type n) P∧P s.heap∧u≠.builtin "__main__.__loader__#opaque":=by
 have lists:∀ a vs,H a=some (.lst vs)->∃ P,PySem.W.KitX X.K (.ref a) (.type "list") P∧P s.heap∧Value.ref a≠.builtin "__main__.__loader__#opaque":=fun a vs ea=>by
  obtain ⟨_,_,_,_,h1⟩:=(show yO X.prog X.w H s.heap a (.lst vs) from I.hok a _ ea)
  exact ⟨_,PySem.W.kitx_list,⟨_,h1,rfl⟩,fun z=>nomatch z⟩
 cases x with
 | ref i =>
  have e:(match M.g i with
   | some (.lst _)=>some "list"
   | _=>none)=some n:=e
  split at e
  ·rename_i xs e1;cases e
   obtain ⟨a,vs,rfl,ha,_⟩:=xT (xs:=xs) hh r (by
    show (match M.g i with
     | some (.lst xs)=>some xs
     | _=>none)=some xs
    rw [e1])
   cases q;exact lists a vs ha
  ·cases e
 | non=>cases e; cases r; cases q; exact ⟨_,PySem.W.kitx_none,True.intro,fun z=>nomatch z⟩
 | bl _=>cases e; cases r; cases q; exact ⟨_,PySem.W.kitx_bool,True.intro,fun z=>nomatch z⟩
 | int _=>cases e; cases r; obtain ⟨t,rfl⟩:=q; exact ⟨_,PySem.W.kitx_int,True.intro,fun z=>nomatch z⟩
 | str _=>cases e; cases r; obtain ⟨t,rfl⟩:=q; exact ⟨_,PySem.W.kitx_str,True.intro,fun z=>nomatch z⟩
 | tup _ =>
  cases e;obtain ⟨a,vs,rfl,ha,_⟩:=vT hh r;cases q;rw [hT] at ha;obtain ⟨its,_,p,_⟩:=I.tuple ha;obtain ⟨o,h1,h2,_⟩:=p;exact ⟨_,PySem.W.kitx_tuple,⟨o,h1,h2⟩,fun z=>nomatch z⟩
 | lst _ =>
  cases e;obtain ⟨a,vs,rfl,ha,_⟩:=r;cases q;exact lists a vs (hh.f _ _ ha)
 | dct _ =>
  cases e;obtain ⟨a,o,rfl,ha⟩:=r;cases q;exact ⟨_,PySem.W.kitx_dict,(isD_at I (.inr ⟨_,.inr ⟨o,hh.f _ _ ha⟩⟩)).1,fun z=>nomatch z⟩
 | _=>cases e
def tysP:List PV->Option (List String)
 | []=>some []
 | .ty n :: r=>if n ∈ xB then (tysP r).map fun ns=>n :: ns else none
 | _ :: _=>none
theorem tysP_rep {W:Wd}:∀ {xs:List PV} {ns:List String} {vs:List V} {us:List Value},tysP xs=some ns->yj W xs vs->ym vs us->us=ns.map Value.type∧∀ n ∈ ns,n ∈ xB
 | [],_,_,_,e,r,q=>by cases e; cases r; cases q; exact ⟨rfl,by simp⟩
 | .ty n :: xs,ns,_,_,e,⟨v,r,e1,a,b⟩,q=>by
  subst e1;have e:(if n ∈ xB then (tysP xs).map (fun ns=>n :: ns) else none)=some ns:=e;split at e
  ·rename_i hn
   cases h:tysP xs with
   | none=>rw [h] at e; cases e
   | some ms =>
    rw [h] at e;cases e
    cases q with
    | cons q1 q2 =>
     obtain ⟨h1,h2⟩:=tysP_rep h b q2;have a:v = .ty n:=a;subst a;cases q1;rw [h1];refine ⟨rfl,fun m hm=>?_⟩
     rcases List.mem_cons.mp hm with rfl | hm
     ·exact hn
     ·exact h2 m hm
  ·cases e
 | .non :: _,_,_,_,e,_,_=>by cases e
 | .bl _ :: _,_,_,_,e,_,_=>by cases e
 | .int _ :: _,_,_,_,e,_,_=>by cases e
 | .str _ :: _,_,_,_,e,_,_=>by cases e
 | .tup _ :: _,_,_,_,e,_,_=>by cases e
 | .lst _ :: _,_,_,_,e,_,_=>by cases e
 | .scr _ :: _,_,_,_,e,_,_=>by cases e
 | .top _ :: _,_,_,_,e,_,_=>by cases e
 | .exn _ :: _,_,_,_,e,_,_=>by cases e
 | .dct _ :: _,_,_,_,e,_,_=>by cases e
 | .ref _ :: _,_,_,_,e,_,_=>by cases e
theorem kitAny_tab (K:PySem.W.Frag) {n:String} (hn:n ∈ xB):∀ {ns:List String},(∀ m ∈ ns,m ∈ xB)->PySem.W.kitAny K (.type n) (ns.map Value.type)=some (ns.any fun m=>sub n m)
 | [],_=>rfl
 | m :: ms,h=>by
  show (match PySem.W.kitOne K (.type n) (.type m) with
   | some true=>some true
   | some false=>PySem.W.kitAny K (.type n) (ms.map Value.type)
   | none=>none)=_
  rw [kit_tab K hn (h m List.mem_cons_self),List.any_cons]
  cases sub n m with
  | true=>rfl
  | false=>exact kitAny_tab K hn fun m' hm=>h m' (List.mem_cons_of_mem _ hm)
def ue:G1:=fun M xs=>match xs with
 | [x,.ty m]=>(match Yh M x with
  | some n=>if m ∈ xB then some (.bl (sub n m),M) else none
  | none=>none)
 | [x,.tup ts]=>(match Yh M x,tysP ts with
  | some n,some ns=>some (.bl (ns.any fun m=>sub n m),M)
  | _,_=>none)
 | _=>none
theorem Jr (hT:T.K=X.K):yy X (.builtin "isinstance") (rC T ue):=by
 intro pins s σ H vs us Q I rv h;obtain ⟨W,M,xs,z,M',k,hh,rx,e,q⟩:=h
 have kk:W.T.K=X.K:=by rw [k]; exact hT
 unfold ue at e;split at e
 ·rename_i x m;split at e
  ·rename_i n e1;split at e
   ·rename_i hm;cases e;obtain ⟨v,u,rfl,r1,r2⟩:=xY rx;obtain ⟨v',u',rfl,q1,q2⟩:=vals2 rv;have r2:u = .ty m:=r2;subst r2;cases q2;obtain ⟨P,Z,hP,hne⟩:=kitx_at I hh kk e1 r1 q1
    exact PySem.W.kia_one Z I.kIn hP (kit_tab X.K (kindP_mem e1) hm) hne fun tk=>⟨.bl _,H,I.tok _,rfl,q W H _ (.refl W) hh rfl⟩
   ·cases e
  ·cases e
 ·rename_i x ts;split at e
  ·rename_i n ns e1 e2;cases e;obtain ⟨v,u,rfl,r1,r2⟩:=xY rx;obtain ⟨v',u',rfl,q1,q2⟩:=vals2 rv;obtain ⟨a,ws,rfl,ha,rr⟩:=vT hh r2;cases q2;rw [kk] at ha;obtain ⟨its,rs,p,_⟩:=I.tuple ha;obtain ⟨⟨cl,dd,dt,sl⟩,h1,h2,nn,h3⟩:=p;simp only at h2 h3;subst h2;subst h3;obtain ⟨e3,hk⟩:=tysP_rep e2 rr rs;obtain ⟨P,Z,hP,hne⟩:=kitx_at I hh kk e1 r1 q1
   exact PySem.W.kia_tup Z I.kIn hP h1 (by rw [e3]; exact kitAny_tab X.K (kindP_mem e1) hk) hne fun tk=>⟨.bl _,H,I.tok _,rfl,q W H _ (.refl W) hh rfl⟩
  ·cases e
 ·cases e
end
end L3

namespace L3
open PySem L2
inductive ItP where
 | fix (xs:List PV) | live (i:Nat) | gen (f:Sto->Option (List PV))
def nxt (p:ItP) (M:Sto) (i:Nat):Option (Option PV):=match p with
 | .fix xs=>some (xs[i]?)
 | .live j=>(yV M (.ref j)).map fun xs=>xs[i]?
 | .gen f=>(f M).map fun xs=>xs[i]?
theorem JZ {j i:Nat} {M:Sto} {xs:List PV} (e:yV M (.ref j)=some xs):nxt (.live j) M i=some (xs[i]?):=by
 unfold nxt;simp only [e];rfl
theorem Jo {j i:Nat} {M:Sto} (e:yV M (.ref j)=none):nxt (.live j) M i=none:=by
 unfold nxt;simp only [e];rfl
def RI (W:Wd) (p:ItP) (J:It):Prop:=∀ W' M' H',W.le0 W'->Held W' M' H'->∀ i,(∀ x,nxt p M' i=some (some x)->J.go i H'∧∀ v H'',J.yld i H' v H''->∃ W'',W'.le W''∧Held W'' M' H''∧Rep W'' x v)∧(nxt p M' i=some none->J.stop i H')
structure QI (X:Cx) (T:Tb) (ES:St->XK) (tg iter:Expr) (d:En->Sto->Res ItP):Prop where
 h:PI X tg iter (lft T RI ES d)
section
variable {X:Cx} {T:Tb} {ES:St->XK} {a b e tg iter:Expr} {es:List Expr} {p pos:Pos} {d:DE} {ds:DA}
theorem pi_imp {t t':TI} (h:PI X tg iter t) (f:∀ σ H R,t' σ H R->t σ H R):PI X tg iter t':=fun pins s σ H R I q=>h pins s σ H R I (f σ H R q)
def itOf (M:Sto):PV->Option ItP
 | .lst xs=>some (.fix xs)
 | .ref i=>(match M.g i with
  | some (.lst _)=>some (.live i)
  | _=>none)
 | _=>none
def dIt (d:DE):En->Sto->Res ItP:=fun ρ M=>(d ρ M).bind fun x M1=>ofO (itOf M1 x) M1
theorem ri_list {K:PySem.W.Frag} {W:Wd} {J:It} {x:ItP} {a:Addr} (hJ:J=Itl K a) (h:∀ W' M' H',W.le0 W'->Held W' M' H'->∀ ys,(∀ i,nxt x M' i=some (ys[i]?))->∃ vs,H' a=some (.lst vs)∧yj W' ys vs) (hn:∀ M,(∃ ys:List PV,∀ i,nxt x M i=some (ys[i]?))∨∀ i,nxt x M i=none):RI W x J:=by
 subst hJ;intro W' M' H' le hh i
 rcases hn M' with ⟨ys,hy⟩ | hy
 ·obtain ⟨vs,ha,rr⟩:=h W' M' H' le hh ys hy;refine ⟨fun z e=>?_,fun e=>?_⟩
  ·rw [hy] at e
   cases e1:ys[i]? with
   | none=>rw [e1] at e; cases e
   | some z' =>
    rw [e1] at e;cases e;obtain ⟨v,e2,r2⟩:=rr.get e1;refine ⟨⟨vs,v,SqL.of ha,e2⟩,fun u H'' hQQ=>?_⟩;obtain ⟨eH,q⟩:=hQQ;subst eH
    have:=q vs (SqL.of ha)
    rw [e2] at this;cases this;exact ⟨W',.refl W',hh,r2⟩
  ·rw [hy] at e;have e:ys[i]? = none:=Option.some.inj e;exact ⟨vs,SqL.of ha,by rw [rr.length]; exact List.getElem?_eq_none_iff.mp e⟩
 ·refine ⟨fun z e=>?_,fun e=>?_⟩
  ·rw [hy] at e; cases e
  ·rw [hy] at e; cases e
theorem xo (h:QE X T ES e d):QI X T ES tg e (dIt d):=⟨pi_imp (pi_list h.h) fun σ H R hQQ=>jF hQQ fun W ρ M k hh hs q=>⟨W,ρ,M,k,hh,hs,yo.bind q fun W1 M1 x v H1 l1 h1 r1 p1=>by
 cases x with
 | lst xs =>
  obtain ⟨a,vs,rfl,ha,rr⟩:=r1;refine ⟨a,rfl,⟨vs,SqL.of (h1.f _ _ ha)⟩,p1 W1 H1 _ (.refl W1) h1 (ri_list rfl (fun W' M' H' le hh' ys hy=>?_) fun M=>.inl ⟨xs,fun i=>rfl⟩)⟩
  have:ys=xs:=List.ext_getElem? (fun i=>(Option.some.inj (hy i)).symm)
  subst this;exact ⟨vs,hh'.f _ _ (le.f _ _ ha),rr.up0 le⟩
 | ref j =>
  have p1:yo W1 RI (ofO (match M1.g j with
   | some (.lst _)=>some (ItP.live j)
   | _=>none) M1) R (ES σ):=p1
  split at p1
  ·rename_i xs e1;obtain ⟨a,rfl,ea⟩:=r1;obtain ⟨b,o,h2,h3,h4,vs,rfl,rr⟩:=h1.m j _ e1;rw [ea] at h2;cases h2;refine ⟨a,rfl,⟨vs,SqL.of h4⟩,p1 W1 H1 _ (.refl W1) h1 (ri_list rfl (fun W' M' H' le hh' ys hy=>?_) fun M=>?_)⟩
   ·cases e2:yV M' (.ref j) with
    | none =>
     have:=hy 0
     rw [Jo e2] at this;cases this
    | some zs =>
     have:ys=zs:=List.ext_getElem? (fun i=>by
      have:=hy i
      rw [JZ e2] at this
      exact (Option.some.inj this).symm)
     subst this;obtain ⟨a',vs',e3,h5,r5⟩:=xT (v:=.ref a) hh' (show Rep W' (.ref j) (.ref a) from ⟨a,rfl,le.a _ _ ea⟩) e2;cases e3;exact ⟨vs',h5,r5⟩
   ·cases e2:yV M (.ref j) with
    | none=>exact .inr fun i=>Jo e2
    | some zs=>exact .inl ⟨zs,fun i=>JZ e2⟩
  ·exact p1.elim
 | _=>exact p1.elim⟩⟩
def xl (lo:Int) (n:Nat):List PV:=(List.range n).map fun (i:Nat)=>PV.int (lo + i)
theorem vH {lo:Int} {n i:Nat}:(xl lo n)[i]? = if i < n then some (PV.int (lo + i)) else none:=by
 unfold xl;rw [List.getElem?_map]
 by_cases h:i < n
 ·rw [if_pos h,List.getElem?_range h]; rfl
 ·rw [if_neg h,List.getElem?_eq_none_iff.mpr (by simpa using h)]; rfl
theorem ri_rng {W:Wd} {lo:Int} {n:Nat}:RI W (.fix (xl lo n)) (Itr lo n):=by
 intro W' M' H' le hh i;refine ⟨fun x e=>?_,fun e=>?_⟩
 ·have e:(xl lo n)[i]? = some x:=Option.some.inj e;rw [vH] at e;split at e
  ·rename_i hi;cases e;refine ⟨hi,fun v H'' hQQ=>?_⟩;obtain ⟨eH,ev⟩:=hQQ;subst eH;subst ev;exact ⟨W',.refl W',hh,rfl⟩
  ·cases e
 ·have e:(xl lo n)[i]? = none:=Option.some.inj e;rw [vH] at e;split at e
  ·cases e
  ·rename_i hi;exact Nat.le_of_not_lt hi
def xv (i:Int):Bool:=Nat.blt i.natAbs 4611686018427387904
theorem yp {i:Int}:xv i=true↔-(2 ^ 62) < i∧i < 2 ^ 62:=by
 unfold xv;rw [Nat.blt_eq];omega
def xj (ds:DA):En->Sto->Res ItP:=fun ρ M=>(ds ρ M).bind fun xs M1=>match xs with
 | [.int j]=>if xv j=true then .ok (.fix (xl 0 j.toNat)) M1 else .bad
 | _=>.bad
theorem vx (hg:Gl X "range") (hm:X.mg "range" = none) (ha:QA X T ES [a] ds) (hs:starEach [a] X.env=[(false,eval a X.env)]:=by rfl):QI X T ES tg (.Call (.Name "range" p) [a] [] pos) (xj ds) :=
 ⟨pi_imp (pi_range1 hg hm ha.h hs) fun σ H R hQQ=>jF hQQ fun W ρ M k hh hs q=>⟨W,ρ,M,k,hh,hs,yo.bind q fun W1 M1 xs vs H1 l1 h1 r1 p1=>by
  split at p1
  ·rename_i j;split at p1
   ·rename_i hj;obtain ⟨v,rfl,r⟩:=ve r1;have r:v = .int j:=r;subst r;exact ⟨j,rfl,Int.le_of_lt (yp.mp hj).1,(yp.mp hj).2,p1 W1 H1 _ (.refl W1) h1 ri_rng⟩
   ·exact p1.elim
  ·exact p1.elim⟩⟩
def numP:Nat->List PV->List PV
 | _,[]=>[]
 | n,x :: xs=>.tup [.int n,x] :: numP (n + 1) xs
theorem numP_get:∀ {xs:List PV} {n i:Nat},(numP n xs)[i]? = (xs[i]?).map fun x=>PV.tup [.int ((n + i:Nat):Int),x]
 | [],n,i=>by simp [numP]
 | x :: xs,n,0=>by simp [numP]
 | x :: xs,n,i + 1=>by
  show (numP (n + 1) xs)[i]? = _;rw [numP_get];rw [show n + 1 + i=n + (i + 1) by omega];simp
end
def Res.noX {α:Type}:Res α->Res α
 | .exc _ _=>.bad
 | r=>r
def xH (x:PV) (r:En):Option En:=some (some x :: r)
def Xx (x:PV) (r:En):Option En:=match x with
 | .tup [a,b]=>some (some a :: some b :: r)
 | _=>none
def yL (p:ItP) (bnd:PV->En->Option En) (r:En) (dt:DT) (de:DE):Nat->Nat->Sto->Res (List PV)
 | 0,_,_=>.bad
 | n + 1,i,M=>match nxt p M i with
  | none=>.bad
  | some none=>.ok [] M
  | some (some x)=>match bnd x r with
   | none=>.bad
   | some ρ=>(dt ρ M).noX.bind fun b M1=>if b=true then (de ρ M1).noX.bind fun y M2=>(yL p bnd r dt de n (i + 1) M2).bind fun ys M3=>.ok (y :: ys) M3 else yL p bnd r dt de n (i + 1) M1
def ui (bnd:PV->En->Option En) (r:En) (dt:DT) (de:DE):List PV->Sto->Res (List PV)
 | [],M=>.ok [] M
 | x :: xs,M=>match bnd x r with
  | none=>.bad
  | some ρ=>(dt ρ M).noX.bind fun b M1=>if b=true then (de ρ M1).noX.bind fun y M2=>(ui bnd r dt de xs M2).bind fun ys M3=>.ok (y :: ys) M3 else ui bnd r dt de xs M1
theorem compN_fix {all:List PV} {bnd:PV->En->Option En} {r:En} {dt:DT} {de:DE}:∀ {xs:List PV} {n i:Nat} {M:Sto},all.drop i=xs->xs.length < n->yL (.fix all) bnd r dt de n i M=ui bnd r dt de xs M
 | xs,0,i,M,e,h=>absurd h (Nat.not_lt_zero _)
 | [],n + 1,i,M,e,h=>by
  have:all[i]? = none:=List.getElem?_eq_none_iff.mpr (by
   have:=congrArg List.length e
   simp at this
   omega)
  show (match some (all[i]?) with
   | none=>Res.bad
   | some none=>.ok [] M
   | some (some x)=>_)=_
  rw [this];rfl
 | x :: xs,n + 1,i,M,e,h=>by
  have e1:all[i]? = some x:=by
   have:=congrArg (fun l=>l[0]?) e
   simpa [List.getElem?_drop] using this
  have e2:all.drop (i + 1)=xs:=by
   have:=congrArg (List.drop 1) e
   simpa [List.drop_drop] using this
  have ih:∀ M,yL (.fix all) bnd r dt de n (i + 1) M=ui bnd r dt de xs M:=fun M=>compN_fix e2 (by simpa using h)
  show (match some (all[i]?) with
   | none=>Res.bad
   | some none=>.ok [] M
   | some (some x)=>match bnd x r with
    | none=>.bad
    | some ρ=>(dt ρ M).noX.bind fun b M1=>if b=true then (de ρ M1).noX.bind fun y M2=>(yL (.fix all) bnd r dt de n (i + 1) M2).bind fun ys M3=>.ok (y :: ys) M3 else yL (.fix all) bnd r dt de n (i + 1) M1)=_
  rw [e1];simp only [ih];rfl
def xD (p:ItP) (M:Sto):Nat:=match p with
 | .fix xs=>xs.length + 1
 | .live i=>((yV M (.ref i)).getD []).length + 1
 | .gen f=>((f M).getD []).length + 1
def rest (js:List Nat) (ρ:En):En:=js.map fun j=>(ρ[j]?).getD none
def yr (di:En->Sto->Res ItP) (bnd:PV->En->Option En) (js:List Nat) (dt:DT) (de:DE):DE:=fun ρ M=>(di ρ M).bind fun p M1 =>
 if xD p M1<=sizeLine then (yL p bnd (rest js ρ) dt de (xD p M1) 0 M1).bind fun ys M2=>.ok (.lst ys) M2 else .bad
def dCompG (fv:List PV->Sto->PV) (fm:List PV->Sto->Sto) (di:En->Sto->Res ItP) (bnd:PV->En->Option En) (js:List Nat) (dt:DT) (de:DE):DE:=fun ρ M=>(di ρ M).bind fun p M1 =>
 if xD p M1<=sizeLine then (yL p bnd (rest js ρ) dt de (xD p M1) 0 M1).bind fun ys M2=>.ok (fv ys M2) (fm ys M2) else .bad
def yI:DT:=fun _ M=>.ok true M
structure QIf (X:Cx) (T:Tb) (ES:St->XK) (ifs:List Expr) (d:DT):Prop where
 h:PIf X ifs (lft T RB ES d)
theorem xi {X:Cx} {T:Tb} {ES:St->XK}:QIf X T ES [] yI:=⟨fun pins s σ H Q I hQQ=>jF hQQ fun W ρ M k hh hs p=>if_nil pins s σ H Q I (p W H true (.refl W) hh rfl)⟩
theorem Xy {X:Cx} {T:Tb} {ES:St->XK} {c:Expr} {d:DT} (h:QT X T ES c d):QIf X T ES [c] d:=⟨if_one h.h⟩
abbrev ES0:St->XK:=fun _=>E0
theorem rest_rep {W:Wd} {ρ:En} {σ:St} {js:List Nat} (h:xu W ρ σ):xu W (rest js ρ) (js.map fun j=>(σ[j]?).getD none):=by
 refine ⟨by simp [rest],fun i x e=>?_⟩;unfold rest at e;rw [List.getElem?_map] at e;rw [List.getElem?_map]
 cases hj:js[i]? with
 | none=>rw [hj] at e; cases e
 | some j =>
  rw [hj] at e;have e:(ρ[j]?).getD none=some x:=Option.some.inj e
  cases e1:ρ[j]? with
  | none=>rw [e1] at e; cases e
  | some o =>
   rw [e1] at e;cases e;obtain ⟨v,e2,r⟩:=h.2 j x e1;refine ⟨v,?_,r⟩;show some ((σ[j]?).getD none)=_;rw [e2];rfl
theorem YB {W:Wd} {ρ:En} {σ:St} {x:PV} {v:V} (h:xu W ρ σ) (r:Rep W x v):xu W (some x :: ρ) (some v :: σ):=by
 refine ⟨by simp [h.1],fun i y e=>?_⟩
 cases i with
 | zero =>
  cases e;exact ⟨v,rfl,r⟩
 | succ i=>exact h.2 i y e
structure Bnd (T:Tb) (own:Nat) (g:TG) (bnd:PV->En->Option En):Prop where
 go:∀ (W:Wd) (M:Sto) (H:Hp) (js:List Nat) (ρ:En) (σ:St) (x:PV) (v:V) (ρ':En) (Q:St->Hp->Prop),W.T=T->Held W M H->xu W ρ σ->Rep W x v->bnd x (rest js ρ)=some ρ' ->
  (∀ σ',xu W ρ' σ'->Keep (uc own js σ) σ'->Q σ' H)->g v (uc own js σ) H Q
theorem vR {T:Tb}:Bnd T 1 (vv 0) xH:=⟨fun W M H js ρ σ x v ρ' Q k hh hs r e q=>by
 cases e
 exact q _ (YB (rest_rep hs) r) keep1⟩
theorem bnd_2 {T:Tb}:Bnd T 2 (gTup T.K 2 (uR (vv 0) (uR (vv 1) gNil))) Xx:=⟨fun W M H js ρ σ x v ρ' Q k hh hs r e q=>by
 unfold Xx at e;split at e
 ·rename_i a b;cases e;obtain ⟨p,vs,rfl,ha,rr⟩:=vT hh r;obtain ⟨va,vb,rfl,ra,rb⟩:=xY rr;rw [k] at ha;refine ⟨p,_,rfl,ha,rfl,va,[vb],rfl,vb,[],rfl,rfl,?_⟩;exact q _ (YB (YB (rest_rep hs) rb) ra) keep2
 ·cases e⟩
section
variable {X:Cx} {T:Tb} {ES:St->XK} {osc sc:Scope} {own fr:List Str} {js:List Nat} {elt target iter:Expr} {ifs:List Expr} {pos:Pos} {di:En->Sto->Res ItP} {g:TG} {bnd:PV->En->Option En} {dt:DT} {de:DE}
theorem comp_liftG {on:Nat} {σ:St} {H:Hp} {Q:VK} (B:Bnd T on g bnd) (fv:List PV->Sto->PV) (fm:List PV->Sto->Sto) (fin1:∀ {W:Wd} {M:Sto} {H G0:Hp} {l:Addr} {ys:List PV} {vs:List V},Held W M H->W.G l=some (.lst vs)->(∀ b u,G0 b=some u->W.G b=some u∧b≠l)->yj W ys vs->∃ W',W.le0 W'∧W'.G=G0∧Held W' (fm ys M) H∧Rep W' (fv ys M) (.ref l)) (h:lft T Rep ES (dCompG fv fm di bnd js dt de) σ H Q):tComp (lft T RI ES di) on js g (lft T RB ES0 dt) (lft T Rep ES0 de) σ H Q:=by
 obtain ⟨W,ρ,M,k,hh,hs,p⟩:=h;refine ⟨W,ρ,M,k,hh,hs,yo.bind p fun W0 M0 it J H0 l0 h0 ri p0=>fun acc hacc=>?_⟩;have k0:W0.T=T:=l0.k.trans k;have hs0:=hs.up l0;have p0:yo W0 Rep (if xD it M0<=sizeLine then (yL it bnd (rest js ρ) dt de (xD it M0) 0 M0).bind fun ys M2=>.ok (fv ys M2) (fm ys M2) else .bad) Q (ES σ):=p0
 by_cases hf:xD it M0<=sizeLine
 rotate_left
 ·rw [if_neg hf] at p0; exact p0.elim
 rw [if_pos hf] at p0
 have gacc:W0.G acc=none:=by
  cases q:W0.G acc with
  | none=>rfl
  | some o =>
   rw [(h0.gd acc o q).1] at hacc;cases hacc
 -- what is wanted of the rest
 let Fin:Wd->List PV->Res (List PV)->Prop:=fun W ys r=>match r with
  | .ok zs M'=>∀ W' H' v,W0.le W'->Held W' (fm (ys ++ zs) M') H'->Rep W' (fv (ys ++ zs) M') v->Q v H'
  | _=>False
 have fin0:Fin W0 [] (yL it bnd (rest js ρ) dt de (xD it M0) 0 M0):=by
  cases e:yL it bnd (rest js ρ) dt de (xD it M0) 0 M0 with
  | ok zs M'=>rw [e] at p0; exact fun W' H' v le hh' r=>p0 W' H' v le hh' r
  | exc c M' =>
   exfalso
   have no:∀ n i M c M',yL it bnd (rest js ρ) dt de n i M≠.exc c M':=by
    intro n
    induction n with
    | zero=>intro i M c M' z; cases z
    | succ n ih =>
     intro i M c M' z;unfold yL at z;split at z
     ·cases z
     ·cases z
     ·split at z
      ·cases z
      ·rename_i ρ' _
       cases e1:dt ρ' M with
       | bad=>rw [e1] at z; cases z
       | exc _ _=>rw [e1] at z; cases z
       | ok b M1 =>
        rw [e1] at z
        cases b with
        | false=>exact ih _ _ _ _ z
        | true =>
         have z:(de ρ' M1).noX.bind (fun y M2=>(yL it bnd (rest js ρ) dt de n (i + 1) M2).bind fun ys M3=>.ok (y :: ys) M3) = .exc c M':=z
         cases e2:de ρ' M1 with
         | bad=>rw [e2] at z; cases z
         | exc _ _=>rw [e2] at z; cases z
         | ok y M2 =>
          rw [e2] at z;have z:(yL it bnd (rest js ρ) dt de n (i + 1) M2).bind (fun ys M3=>Res.ok (y :: ys) M3) = .exc c M':=z
          cases e3:yL it bnd (rest js ρ) dt de n (i + 1) M2 with
          | bad=>rw [e3] at z; cases z
          | exc _ _=>exact ih _ _ _ _ e3
          | ok _ _=>rw [e3] at z; cases z
   exact no _ _ _ _ _ e
  | bad=>rw [e] at p0; exact p0.elim
 refine ⟨fun i m vs H2=>i + m=xD it M0∧vs.length<=i∧∃ W M ys,W0.le0 W∧W.G=L2.upd W0.G acc (.lst vs)∧Held W M H2∧yj W ys vs∧Fin W ys (yL it bnd (rest js ρ) dt de m i M),
  ⟨xD it M0,by simp,by simp,W0.gd acc (.lst []),M0,[],Wd.le0_gd,rfl,h0.guard hacc,rfl,fin0⟩,?_⟩
 rintro i m vs H2 ⟨hi,hl,W1,M1,ys,le1,g1,h1,r1,f1⟩;have k1:W1.T=T:=le1.k.trans k0
 have hs1:xu W1 ρ σ:=⟨hs0.1,fun i x e=>by
  obtain ⟨v,e1,r⟩:=hs0.2 i x e
  exact ⟨v,e1,r.up0 le1⟩⟩
 have ga1:W1.G acc=some (.lst vs):=by rw [g1,jv]
 cases m with
 | zero=>exact f1.elim
 | succ m =>
  unfold yL at f1;obtain ⟨goes,stops⟩:=ri W1 M1 H2 le1 h1 i;split at f1
  ·exact f1.elim
  ·rename_i en;refine .inl ⟨stops en,?_⟩
   obtain ⟨W5,l5,g5,h5,r5⟩:=fin1 (G0:=W0.G) h1 ga1 (fun b u q=>by
    have z:b≠acc:=fun z=>by rw [z,gacc] at q; cases q
    exact ⟨by rw [g1,jn z]; exact q,z⟩) r1
   have f1:∀ W' H' v,W0.le W'->Held W' (fm (ys ++ []) M1) H'->Rep W' (fv (ys ++ []) M1) v->Q v H':=f1;rw [List.append_nil] at f1;exact f1 W5 H2 (.ref acc) ⟨le1.trans l5,g5⟩ h5 r5
  ·rename_i x en;split at f1
   ·exact f1.elim
   ·rename_i ρ' eb;obtain ⟨go,yld⟩:=goes x en
    have hlen:vs.length < sizeLine:=by omega
    refine .inr ⟨go,hlen,fun vs' H'=>i + 1 + m=xD it M0∧vs'.length<=i + 1∧∃ W M ys,W0.le0 W∧W.G=L2.upd W0.G acc (.lst vs')∧Held W M H'∧yj W ys vs'∧Fin W ys (yL it bnd (rest js ρ) dt de m (i + 1) M),
     fun vs' H' q=>⟨m,Nat.lt_succ_self _,q⟩,fun v H3 hy=>?_⟩
    obtain ⟨W2,l2,h2,r2⟩:=yld v H3 hy;have k2:W2.T=T:=l2.k.trans k1
    refine B.go W2 M1 H3 js ρ σ x v ρ' _ k2 h2 (hs1.up l2) r2 eb fun σ4 rs4 kp=>⟨kp,?_⟩
    cases e1:dt ρ' M1 with
    | bad=>rw [e1] at f1; exact f1.elim
    | exc _ _=>rw [e1] at f1; exact f1.elim
    | ok b M2 =>
     rw [e1] at f1;refine ⟨W2,ρ',M1,k2,h2,rs4,?_⟩;rw [e1];intro W3 H5 b' l3 h3 eb';subst eb'
     have g3:W3.G=L2.upd W0.G acc (.lst vs):=by rw [l3.g,l2.g,g1]
     have le3:W0.le0 W3:=(le1.trans l2.toLe0).trans l3.toLe0;have r3:yj W3 ys vs:=(r1.up l2).up l3
     cases b' with
     | false =>
      rw [if_neg (by simp)];exact ⟨by omega,by omega,W3,M2,ys,le3,g3,h3,r3,f1⟩
     | true =>
      rw [if_pos rfl];have f1:Fin W1 ys ((de ρ' M2).noX.bind fun y M2=>(yL it bnd (rest js ρ) dt de m (i + 1) M2).bind fun zs M3=>.ok (y :: zs) M3):=f1;refine ⟨W3,ρ',M2,l3.k.trans k2,h3,rs4.up l3,?_⟩
      cases e2:de ρ' M2 with
      | bad=>rw [e2] at f1; exact f1.elim
      | exc _ _=>rw [e2] at f1; exact f1.elim
      | ok y M3 =>
       rw [e2] at f1;intro W4 H6 w l4 h4 r4
       have g4:W4.G=L2.upd W0.G acc (.lst vs):=by rw [l4.g,g3]
       have ga4:W4.G acc=some (.lst vs):=by rw [g4,jv]
       refine ⟨(h4.gd _ _ ga4).1,by omega,by simp; omega,W4.gd acc (.lst (vs ++ [w])),M3,ys ++ [y],(le3.trans l4.toLe0).trans Wd.le0_gd,?_,h4.reguard ga4,?_,?_⟩
       ·show L2.upd W4.G acc (.lst (vs ++ [w]))=_;rw [g4,upd_upd]
       ·exact yj.up0 Wd.le0_gd ((r3.up l4).append (show yj W4 [y] [w] from ⟨w,[],rfl,r4,rfl⟩))
       ·have f1:Fin W1 ys ((yL it bnd (rest js ρ) dt de m (i + 1) M3).bind fun zs M3=>.ok (y :: zs) M3):=f1
        cases e3:yL it bnd (rest js ρ) dt de m (i + 1) M3 with
        | bad=>rw [e3] at f1; exact f1.elim
        | exc _ _=>rw [e3] at f1; exact f1.elim
        | ok zs M4 =>
         rw [e3] at f1;have f1:∀ W' H' v,W0.le W'->Held W' (fm (ys ++ (y :: zs)) M4) H'->Rep W' (fv (ys ++ (y :: zs)) M4) v->Q v H':=f1;show ∀ W' H' v,W0.le W'->Held W' (fm ((ys ++ [y]) ++ zs) M4) H'->Rep W' (fv ((ys ++ [y]) ++ zs) M4) v->Q v H';rw [List.append_assoc];exact f1
theorem comp_lift {on:Nat} {σ:St} {H:Hp} {Q:VK} (B:Bnd T on g bnd) (h:lft T Rep ES (yr di bnd js dt de) σ H Q):tComp (lft T RI ES di) on js g (lft T RB ES0 dt) (lft T Rep ES0 de) σ H Q :=
 comp_liftG B (fun ys _=>.lst ys) (fun _ M=>M) (fun {W M H G0 l ys vs} h e hg r=>by
  obtain ⟨l2,h2⟩:=h.unguard e hg
  exact ⟨W.out G0 l (.lst vs),l2,rfl,h2,l,vs,rfl,jv,r.up0 l2⟩) h
theorem xp (B:Bnd T own.length g bnd) (hc:X.calm=true) (ho:X.env.scope=osc) (S:CompScope osc sc own fr) (hj:js.map (fun j=>X.N[j]?)=fr.map some) (hi:QI X T ES target iter di)
  (hg:∀ s₃ H₃ fp,PG (jV X (own ++ fr) sc s₃ H₃ fp) target g) (ht:∀ s₃ H₃ fp,QIf (jV X (own ++ fr) sc s₃ H₃ fp) T ES0 ifs dt) (he:∀ s₃ H₃ fp,QE (jV X (own ++ fr) sc s₃ H₃ fp) T ES0 elt de)
  (hs:∀ x,foldedSetIterable iter X.env x=pure x:=by intro _; rfl):QE X T ES (.ListComp elt [⟨target,iter,ifs,0⟩] sc pos) (yr di bnd js dt de) :=
 ⟨jS (pe_comp hc ho S hj hi.h hg (fun a b c=>(ht a b c).h) (fun a b c=>(he a b c).h) hs) fun _ _ _=>comp_lift B⟩
end
end L3

namespace L3
open PySem L2
inductive RS where
 | nx (ρ:En) (M:Sto) | rt (v:PV) (M:Sto) | bk (ρ:En) (M:Sto) | ct (ρ:En) (M:Sto) | exc (k:Nat) (ρ:En) (M:Sto) | bad
abbrev DS:=En->Sto->RS
def RS.then (r:RS) (k:En->Sto->RS):RS:=match r with
 | .nx ρ M=>k ρ M
 | r=>r
@[simp] theorem RS.then_nx {ρ : En} {M : Sto} {k : En -> Sto -> RS} : (RS.nx ρ M).then k = k ρ M := rfl
@[simp] theorem RS.then_rt {v : PV} {M : Sto} {k : En -> Sto -> RS} : (RS.rt v M).then k = .rt v M := rfl
@[simp] theorem RS.then_exc {c : Nat} {ρ : En} {M : Sto} {k : En -> Sto -> RS} : (RS.exc c ρ M).then k = .exc c ρ M := rfl
def Res.st {α:Type} (r:Res α) (ρ:En) (k:α->Sto->RS):RS:=match r with
 | .ok a M=>k a M
 | .exc c M=>.exc c ρ M
 | .bad=>.bad
@[simp] theorem Res.st_ok {α : Type} {a : α} {M : Sto} {ρ : En} {k : α -> Sto -> RS} : (Res.ok a M).st ρ k = k a M := rfl
@[simp] theorem Res.st_exc {α : Type} {c : Nat} {M : Sto} {ρ : En} {k : α -> Sto -> RS} : (Res.exc c M).st ρ k = .exc c ρ M := rfl
@[simp] theorem Res.st_bad {α : Type} {ρ : En} {k : α -> Sto -> RS} : (Res.bad).st ρ k = .bad := rfl
def yK (W:Wd) (r:RS) (D:Ends) (ES:St->XK):Prop:=match r with
 | .nx ρ M=>∀ W' σ' H',W.le W'->Held W' M H'->xu W' ρ σ'->D.nx σ' H'
 | .rt v M=>∀ W' H' u,W.le W'->Held W' M H'->Rep W' v u->D.rt u H'
 | .bk ρ M=>∀ W' σ' H',W.le W'->Held W' M H'->xu W' ρ σ'->D.bk σ' H'
 | .ct ρ M=>∀ W' σ' H',W.le W'->Held W' M H'->xu W' ρ σ'->D.ct σ' H'
 | .exc k ρ M=>∀ W' σ' H',W.le W'->Held W' M H'->xu W' ρ σ'->ES σ' (.ref (W.T.C k)) none H'
 | .bad=>False
theorem yK.up {W W':Wd} {r:RS} {D:Ends} {ES:St->XK} (h:yK W r D ES) (le:W.le W'):yK W' r D ES:=by
 cases r with
 | nx ρ M=>exact fun W2 σ2 H2 l2 h2 r2=>h W2 σ2 H2 (le.trans l2) h2 r2
 | rt v M=>exact fun W2 H2 u l2 h2 r2=>h W2 H2 u (le.trans l2) h2 r2
 | bk ρ M=>exact fun W2 σ2 H2 l2 h2 r2=>h W2 σ2 H2 (le.trans l2) h2 r2
 | ct ρ M=>exact fun W2 σ2 H2 l2 h2 r2=>h W2 σ2 H2 (le.trans l2) h2 r2
 | exc k ρ M =>
  intro W2 σ2 H2 l2 h2 r2
  have:=h W2 σ2 H2 (le.trans l2) h2 r2
  rw [le.k];exact this
 | bad=>exact h.elim
def lftS (T:Tb) (ES:St->XK) (d:DS):TS:=fun D σ H=>∃ W ρ M,W.T=T∧Held W M H∧xu W ρ σ∧yK W (d ρ M) D ES
theorem xq {T:Tb} {ES:St->XK} {d:DS} {D:Ends} {σ:St} {H:Hp} {P:Prop} (h:lftS T ES d D σ H) (k:∀ W ρ M,W.T=T->Held W M H->xu W ρ σ->yK W (d ρ M) D ES->P):P:=by
 obtain ⟨W,ρ,M,a,b,c,e⟩:=h;exact k W ρ M a b c e
structure QS (X:Cx) (T:Tb) (ES:St->XK) (st:Stmt) (d:DS):Prop where
 h:PS X st (lftS T ES d)
structure QSs (X:Cx) (T:Tb) (ES:St->XK) (st:List Stmt) (d:DS):Prop where
 h:PSs X st (lftS T ES d)
theorem yK.bind {α β:Type} {W:Wd} {R1:Wd->α->β->Prop} {r:Res α} {ρ:En} {σ:St} {k:α->Sto->RS} {D:Ends} {ES:St->XK} {Q1:β->Hp->Prop} (hs:xu W ρ σ) (h:yK W (r.st ρ k) D ES)
  (f:∀ W' M a b H1,W.le W'->Held W' M H1->R1 W' a b->yK W' (k a M) D ES->Q1 b H1):yo W R1 r Q1 (ES σ):=by
 cases r with
 | ok a M=>exact fun W2 H2 b l2 h2 r2=>f W2 M a b H2 l2 h2 r2 (yK.up (r:=k a M) h l2)
 | exc k M=>exact fun W2 H2 l2 h2=>h W2 σ H2 l2 h2 (hs.up l2)
 | bad=>exact h.elim
section
variable {X:Cx} {T:Tb} {ES:St->XK} {e a b c o:Expr} {es:List Expr} {pos p:Pos} {st:Stmt} {sts rest:List Stmt} {d de da db do_ di:DE} {d1 d2:DS} {ta:DT} {ds:DA}
theorem xW {t t':TS} (h:PS X st t) (f:∀ D σ H,t' D σ H->t D σ H):PS X st t':=fun pins s σ H D I q=>h pins s σ H D I (f D σ H q)
theorem pss_imp {t t':TS} (h:PSs X sts t) (f:∀ D σ H,t' D σ H->t D σ H):PSs X sts t':=fun pins s σ H D I q=>h pins s σ H D I (f D σ H q)
def yB:DS:=fun ρ M=>.nx ρ M
def yi (d1 d2:DS):DS:=fun ρ M=>(d1 ρ M).then d2
theorem jK:QSs X T ES [] yB:=⟨pss_imp pss_nil fun D σ H hQQ=>xq hQQ fun W ρ M k hh hs q=>q W σ H (.refl W) hh hs⟩
theorem jg (h:QS X T ES st d1):QSs X T ES [st] d1:=⟨pss_one h.h⟩
theorem jf (h1:QS X T ES st d1) (h2:QSs X T ES rest d2):QSs X T ES (st :: rest) (yi d1 d2):=⟨pss_imp (pss_cons h1.h h2.h) fun D σ H hQQ=>xq hQQ fun W ρ M k hh hs q=>⟨W,ρ,M,k,hh,hs,by
 unfold yi at q
 cases e:d1 ρ M with
 | nx ρ1 M1 =>
  rw [e] at q
  exact fun W1 σ1 H1 l1 h1 r1=>⟨W1,ρ1,M1,l1.k.trans k,h1,r1,yK.up (r:=d2 ρ1 M1) q l1⟩
 | rt v M1=>rw [e] at q; exact q
 | bk ρ1 M1=>rw [e] at q; exact q
 | ct ρ1 M1=>rw [e] at q; exact q
 | exc c ρ1 M1=>rw [e] at q; exact q
 | bad=>rw [e] at q; exact q⟩⟩
def sBad:DS:=fun _ _=>.bad
theorem qs_never:QS X T ES st sBad:=⟨xW ps_never fun D σ H hQQ=>xq hQQ fun _ _ _ _ _ _ q=>q⟩
def yq (d:DE):DS:=fun ρ M=>(d ρ M).st ρ fun _ M1=>.nx ρ M1
theorem jQ (he:QE X T ES e d) (hs:swapsWith e none pos.line X.env=pure false:=by rfl):QS X T ES (.Expr e pos) (yq d):=⟨xW (ps_expr he.h hs) fun D σ H hQQ=>xq hQQ fun W ρ M k hh hs q=>⟨W,ρ,M,k,hh,hs,yK.bind hs q fun W1 M1 x v H1 l1 h1 r1 q1=>q1 W1 σ H1 (.refl W1) h1 (hs.up l1)⟩⟩
def yD (d:DE):DS:=fun ρ M=>(d ρ M).st ρ fun v M1=>.rt v M1
theorem jw (he:QE X T ES e d):QS X T ES (.Return (some e) pos) (yD d):=⟨xW (ps_ret he.h) fun D σ H hQQ=>xq hQQ fun W ρ M k hh hs q=>⟨W,ρ,M,k,hh,hs,yK.bind hs q fun W1 M1 x v H1 l1 h1 r1 q1=>q1 W1 H1 v (.refl W1) h1 r1⟩⟩
def sIf (t:DT) (d1 d2:DS):DS:=fun ρ M=>(t ρ M).st ρ fun c M1=>if c=true then d1 ρ M1 else d2 ρ M1
theorem yN {sa sb:List Stmt} (hc:QT X T ES c ta) (ha:QSs X T ES sa d1) (hb:QSs X T ES sb d2):QS X T ES (.If c sa sb pos) (sIf ta d1 d2):=⟨xW (ps_if hc.h ha.h hb.h) fun D σ H hQQ=>xq hQQ fun W ρ M k hh hs q =>
 ⟨W,ρ,M,k,hh,hs,yK.bind hs q fun W1 M1 x v H1 l1 h1 r1 q1=>by
  subst r1
  cases v with
  | true=>rw [if_pos rfl] at q1 ⊢; exact ⟨W1,ρ,M1,l1.k.trans k,h1,hs.up l1,q1⟩
  | false=>rw [if_neg (by simp)] at q1 ⊢; exact ⟨W1,ρ,M1,l1.k.trans k,h1,hs.up l1,q1⟩⟩⟩
def yt (i:Nat) (d:DE):DS:=fun ρ M=>(d ρ M).st ρ fun v M1=>.nx (ρ.set i (some v)) M1
theorem set_lift {i:Nat} {D:Ends} {σ:St} {H:Hp} (h:lftS T ES (yt i d) D σ H):tAsg (lft T Rep ES d) (vv i) D σ H:=by
 obtain ⟨W,ρ,M,k,hh,hs,q⟩:=h;exact ⟨W,ρ,M,k,hh,hs,yK.bind hs q fun W1 M1 x v H1 l1 h1 r1 q1=>q1 W1 _ H1 (.refl W1) h1 ((hs.up l1).set r1)⟩
theorem jG {i:Nat} {x:Str} {pos':Pos} (hN:X.N.Nodup) (hi:X.N[i]? = some x) (hx:Loc X.env.scope x) (he:QE X T ES e d) (hs:swapsWith e (some (.Name x pos')) pos.line X.env=pure false:=by rfl) (hf:X.fn x=true∨X.env.scope.names.lookup x=some .local:=by first | exact .inl rfl | exact .inr rfl | assumption) :
  QS X T ES (.Assign [.Name x pos'] e pos) (yt i d):=⟨xW (ps_set hN hi hx he.h hs hf) fun _ _ _=>set_lift⟩
theorem JR {osc sc:Scope} {own fr:List Str} {js:List Nat} {elt target iter:Expr} {ifs:List Expr} {dit:En->Sto->Res ItP} {g:TG} {bnd:PV->En->Option En} {dt:DT} {i:Nat} {x:Str} {px spos:Pos} (B:Bnd T own.length g bnd) (hc:X.calm=true) (ho:X.env.scope=osc) (S:CompScope osc sc own fr) (hj:js.map (fun j=>X.N[j]?)=fr.map some)
  (hN:X.N.Nodup) (hi':X.N[i]? = some x) (hx:X.env.scope.names.lookup x=some .local) (hi:QI X T ES target iter dit)
  (hg:∀ s₃ H₃ fp,PG (jV X (own ++ fr) sc s₃ H₃ fp) target g) (ht:∀ s₃ H₃ fp,QIf (jV X (own ++ fr) sc s₃ H₃ fp) T ES0 ifs dt) (he:∀ s₃ H₃ fp,QE (jV X (own ++ fr) sc s₃ H₃ fp) T ES0 elt de)
  (hsw:swapsWith (.ListComp elt [⟨target,iter,ifs,0⟩] sc pos) (some (.Name x px)) spos.line X.env=pure true) (hs:∀ x,foldedSetIterable iter X.env x=pure x:=by intro _; rfl) :
  QS X T ES (.Assign [.Name x px] (.ListComp elt [⟨target,iter,ifs,0⟩] sc pos) spos) (yt i (yr dit bnd js dt de)) :=
 ⟨xW (ps_comp hc ho S hj hN hi' hx hi.h hg (fun a b c=>(ht a b c).h) (fun a b c=>(he a b c).h) hsw hs) fun D σ H h=>by
  have:=set_lift h
  show tComp _ _ _ _ _ _ σ H _
  exact comp_lift B this⟩
abbrev DG:=PV->En->Option En
abbrev DGs:=List PV->En->Option En
def lftG (T:Tb) (g:DG):TG:=fun v σ H Q=>∃ W ρ M x ρ',W.T=T∧Held W M H∧xu W ρ σ∧Rep W x v∧g x ρ=some ρ'∧∀ σ',xu W ρ' σ'->Q σ' H
def lftGs (T:Tb) (g:DGs):TGs:=fun vs σ H Q=>∃ W ρ M xs ρ',W.T=T∧Held W M H∧xu W ρ σ∧yj W xs vs∧g xs ρ=some ρ'∧∀ σ',xu W ρ' σ'->Q σ' H
structure QG (X:Cx) (T:Tb) (tg:Expr) (g:DG):Prop where
 h:PG X tg (lftG T g)
structure QGs (X:Cx) (T:Tb) (tgs:List Expr) (g:DGs):Prop where
 h:PGs X tgs (lftGs T g)
variable {tg:Expr} {tgs:List Expr}
theorem pg_imp {t t':TG} (h:PG X tg t) (f:∀ v σ H Q,t' v σ H Q->t v σ H Q):PG X tg t':=fun pins s σ H v u Q I r q=>h pins s σ H v u Q I r (f v σ H Q q)
theorem pgs_imp {t t':TGs} (h:PGs X tgs t) (f:∀ v σ H Q,t' v σ H Q->t v σ H Q):PGs X tgs t':=fun pins s σ H v u Q I r q=>h pins s σ H v u Q I r (f v σ H Q q)
def gN (i:Nat):DG:=fun x ρ=>some (ρ.set i (some x))
theorem xz {i:Nat} {x:Str} (hN:X.N.Nodup) (hi:X.N[i]? = some x) (hx:Loc X.env.scope x) (hf:X.fn x=true∨X.env.scope.names.lookup x=some .local:=by first | exact .inl rfl | exact .inr rfl | assumption):QG X T (.Name x pos) (gN i) :=
 ⟨pg_imp (jO hN hi hx hf) fun v σ H Q hQQ=>by
  obtain ⟨W,ρ,M,x,ρ',k,hh,hs,r,e,q⟩:=hQQ;cases e
  exact q _ (hs.set r)⟩
def gsNil:DGs:=fun xs ρ=>match xs with
 | []=>some ρ
 | _=>none
def gsCons (g:DG) (gs:DGs):DGs:=fun xs ρ=>match xs with
 | x :: r=>(g x ρ).bind fun ρ1=>gs r ρ1
 | _=>none
theorem qgs_nil:QGs X T [] gsNil:=⟨pgs_imp JX fun v σ H Q hQQ=>by
 obtain ⟨W,ρ,M,xs,ρ',k,hh,hs,r,e,q⟩:=hQQ
 cases xs with
 | nil=>cases e; cases r; exact ⟨rfl,q σ hs⟩
 | cons _ _=>cases e⟩
theorem JT {g:DG} {gs:DGs} (h1:QG X T tg g) (h2:QGs X T tgs gs) (hs:(assignEach (tg :: tgs) X.env).map (·.2)=assign tg X.env :: (assignEach tgs X.env).map (·.2):=by rfl):QGs X T (tg :: tgs) (gsCons g gs) :=
 ⟨pgs_imp (xI h1.h h2.h hs) fun v σ H Q hQQ=>by
  obtain ⟨W,ρ,M,xs,ρ',k,hh,hs,r,e,q⟩:=hQQ
  cases xs with
  | nil=>cases e
  | cons x xr =>
   obtain ⟨u,ur,rfl,ra,rb⟩:=r;have e:(g x ρ).bind (fun ρ1=>gs xr ρ1)=some ρ':=e
   cases e1:g x ρ with
   | none=>rw [e1] at e; cases e
   | some ρ1 =>
    rw [e1] at e
    exact ⟨u,ur,rfl,W,ρ,M,x,ρ1,k,hh,hs,ra,e1,fun σ1 r1=>⟨W,ρ1,M,xr,ρ',k,hh,r1,rb,e,q⟩⟩⟩
def gT (n:Nat) (gs:DGs):DG:=fun x ρ=>match x with
 | .tup xs=>if xs.length=n then gs xs ρ else none
 | _=>none
theorem qg_tup {k:Nat} {gs:DGs} {n:Nat} (hT:T.K=X.K) (hc:X.calm=true) (h:QGs X T tgs gs) (hn:(assignEach tgs X.env).length=n:=by rfl) (hst:(assignEach tgs X.env).findIdx? (·.1)=none:=by rfl):QG X T (.Tuple tgs k pos) (gT n gs) :=
 ⟨pg_imp (pg_tup hc h.h hn hst) fun v σ H Q hQQ=>by
  obtain ⟨W,ρ,M,x,ρ',k,hh,hs,r,e,q⟩:=hQQ;unfold gT at e;split at e
  ·rename_i xs;split at e
   ·rename_i hl;obtain ⟨a,vs,rfl,ha,rr⟩:=vT hh r;rw [k,hT] at ha;exact ⟨a,vs,rfl,ha,by rw [rr.length]; exact hl,W,ρ,M,xs,ρ',k,hh,hs,rr,e,q⟩
   ·cases e
  ·cases e⟩
def sAsg (d:DE) (g:DG):DS:=fun ρ M=>(d ρ M).st ρ fun v M1=>match g v ρ with
 | some ρ'=>.nx ρ' M1
 | none=>.bad
theorem qs_asg {g:DG} (he:QE X T ES e d) (hg:QG X T tg g) (hs:swapsWithSole [tg] e pos.line X.env=pure false:=by rfl) (hw:swappedStores [tg] e X.env=pure none:=by rfl)
  (h1:(assignEach [tg] X.env).map (·.2)=[assign tg X.env]:=by rfl):QS X T ES (.Assign [tg] e pos) (sAsg d g):=⟨xW (ps_asg he.h hg.h hs hw h1) fun D σ H hQQ=>xq hQQ fun W ρ M k hh hs q=>⟨W,ρ,M,k,hh,hs,yK.bind hs q fun W1 M1 x v H1 l1 h1 r1 q1=>by
 split at q1
 ·rename_i ρ' e1;exact ⟨W1,ρ,M1,x,ρ',l1.k.trans k,h1,hs.up l1,r1,e1,fun σ' r'=>q1 W1 σ' H1 (.refl W1) h1 r'⟩
 ·exact q1.elim⟩⟩
def putI (M:Sto) (o i x:PV):Option Sto:=match o,i with
 | .ref j,.int k=>(match M.g j with
  | some (.lst xs)=>(ixN xs.length k).map fun n=>M.set j (.lst (xs.set n x))
  | _=>none)
 | _,_=>none
def sSetI (d do_ di:DE):DS:=fun ρ M=>(d ρ M).st ρ fun x M1=>(do_ ρ M1).st ρ fun o M2=>(di ρ M2).st ρ fun i M3=>match putI M3 o i x with
 | some M4=>.nx ρ M4
 | none=>.bad
theorem qs_setI {ip:Expr} {p2:Pos} (he:QE X T ES e d) (ho:QE X T ES o do_) (hi:QE X T ES ip di)
  (ha:∀ v,assign (.Subscript o ip p2) X.env v=(do
   let ov <- holding [v] (eval o X.env)
   let iv <- holding [v,ov] (eval ip X.env)
   standAt p2
   holding [v,ov,iv] (setItem ov iv v)
   release [v,ov,iv] []):=by intro _; rfl)
  (hs:swapsWithSole [.Subscript o ip p2] e pos.line X.env=pure false:=by rfl) (hw:swappedStores [.Subscript o ip p2] e X.env=pure none:=by rfl)
  (h1:(assignEach [.Subscript o ip p2] X.env).map (·.2)=[assign (.Subscript o ip p2) X.env]:=by rfl):QS X T ES (.Assign [.Subscript o ip p2] e pos) (sSetI d do_ di) :=
 ⟨xW (ps_asg he.h (pg_sub ho.h hi.h set_list ha) hs hw h1) fun D σ H hQQ=>xq hQQ fun W ρ M k hh hs q=>⟨W,ρ,M,k,hh,hs,yK.bind hs q fun W1 M1 x v H1 l1 h1 r1 q1=>by
  have hs1:=hs.up l1;refine ⟨W1,ρ,M1,l1.k.trans k,h1,hs1,yK.bind hs1 q1 fun W2 M2 o' ov H2 l2 h2 r2 q2=>?_⟩;have hs2:=hs1.up l2;refine ⟨W2,ρ,M2,l2.k.trans (l1.k.trans k),h2,hs2,yK.bind hs2 q2 fun W3 M3 i' iv H3 l3 h3 r3 q3=>?_⟩;split at q3
  ·rename_i M4 e4;unfold putI at e4;split at e4
   ·rename_i j kk;split at e4
    ·rename_i xs e5
     cases e6:ixN xs.length kk with
     | none=>rw [e6] at e4; cases e4
     | some n =>
      rw [e6] at e4;cases e4;obtain ⟨a,rfl,ea⟩:=r2.up l3;obtain ⟨b',ob,g1,g2,g3,vs,rfl,rr⟩:=h3.m j _ e5;rw [ea] at g1;cases g1;have rx:=(r1.up l2).up l3;exact ⟨a,vs,kk,n,rfl,r3,g3,by rw [rr.length]; exact e6,q3 W3 σ _ (.refl W3) (h3.upd e5 ea ⟨_,rfl,rr.set rx n⟩) (hs2.up l3)⟩
    ·cases e4
   ·cases e4
  ·exact q3.elim⟩⟩
def vg (p:ItP) (g:DG) (db:DS):Nat->Nat->En->Sto->RS
 | 0,_,_,_=>.bad
 | n + 1,i,ρ,M=>match nxt p M i with
  | none=>.bad
  | some none=>.nx ρ M
  | some (some x)=>match g x ρ with
   | none=>.bad
   | some ρ1=>match db ρ1 M with
    | .nx ρ2 M2=>vg p g db n (i + 1) ρ2 M2
    | .ct ρ2 M2=>vg p g db n (i + 1) ρ2 M2
    | .bk ρ2 M2=>.nx ρ2 M2
    | r=>r
def Jp (g:DG) (db:DS):List PV->En->Sto->RS
 | [],ρ,M=>.nx ρ M
 | x :: xs,ρ,M=>match g x ρ with
  | none=>.bad
  | some ρ1=>match db ρ1 M with
   | .nx ρ2 M2=>Jp g db xs ρ2 M2
   | .ct ρ2 M2=>Jp g db xs ρ2 M2
   | .bk ρ2 M2=>.nx ρ2 M2
   | r=>r
theorem loopN_fix {all:List PV} {g:DG} {db:DS}:∀ {xs:List PV} {n i:Nat} {ρ:En} {M:Sto},all.drop i=xs->xs.length < n->vg (.fix all) g db n i ρ M=Jp g db xs ρ M
 | xs,0,i,ρ,M,e,h=>absurd h (Nat.not_lt_zero _)
 | [],n + 1,i,ρ,M,e,h=>by
  have:all[i]? = none:=List.getElem?_eq_none_iff.mpr (by
   have:=congrArg List.length e
   simp at this
   omega)
  unfold vg;rw [show nxt (.fix all) M i=some (all[i]?) from rfl,this];rfl
 | x :: xs,n + 1,i,ρ,M,e,h=>by
  have e1:all[i]? = some x:=by
   have:=congrArg (fun l=>l[0]?) e
   simpa [List.getElem?_drop] using this
  have e2:all.drop (i + 1)=xs:=by
   have:=congrArg (List.drop 1) e
   simpa [List.drop_drop] using this
  have ih:∀ ρ M,vg (.fix all) g db n (i + 1) ρ M=Jp g db xs ρ M:=fun ρ M=>loopN_fix e2 (by simpa using h);unfold vg;rw [show nxt (.fix all) M i=some (all[i]?) from rfl,e1];simp only [ih];rfl
def Jk (F:Nat) (dit:En->Sto->Res ItP) (g:DG) (db:DS):DS:=fun ρ M=>(dit ρ M).st ρ fun p M1=>vg p g db (match p with
 | .fix xs=>xs.length + 1
 | _=>F) 0 ρ M1
theorem uG {F:Nat} {dit:En->Sto->Res ItP} {g:DG} {db:DS} {ρ:En} {M M1:Sto} {xs:List PV} (h:dit ρ M = .ok (.fix xs) M1):Jk F dit g db ρ M=Jp g db xs ρ M1:=by
 unfold Jk;rw [h];exact loopN_fix rfl (Nat.lt_succ_self _)
theorem uH {iter:Expr} {body:List Stmt} {dit:En->Sto->Res ItP} {g:DG} {db:DS} (F:Nat) (hp:PassesOwn (model X.prog X.w) X.A X.env X.xe) (hc:X.calm=true) (hi:QI X T ES tg iter dit) (hg:QG X T tg g) (hb:QSs X T ES body db) (hs:∀ x,foldedSetIterable iter X.env x=pure x:=by intro _; rfl) :
  QS X T ES (.For tg iter body [] pos) (Jk F dit g db):=⟨xW (ps_for hp hc hi.h hg.h hb.h hs) fun D σ H hQQ=>xq hQQ fun W ρ M k hh hs q=>⟨W,ρ,M,k,hh,hs,yK.bind hs q fun W0 M0 it J H0 l0 h0 ri q0=>by
 refine ⟨fun i m σ H=>∃ W ρ M,W0.le W∧Held W M H∧xu W ρ σ∧yK W (vg it g db m i ρ M) D ES,⟨_,W0,ρ,M0,.refl W0,h0,hs.up l0,q0⟩,?_⟩;rintro i m σ1 H1 ⟨W1,ρ1,M1,l1,h1,r1,q1⟩;have k1:W1.T=T:=l1.k.trans (l0.k.trans k)
 cases m with
 | zero=>exact q1.elim
 | succ m =>
  unfold vg at q1;obtain ⟨goes,stops⟩:=ri W1 M1 H1 l1.toLe0 h1 i;split at q1
  ·exact q1.elim
  ·rename_i en;exact .inl ⟨stops en,q1 W1 σ1 H1 (.refl W1) h1 r1⟩
  ·rename_i x en;obtain ⟨go,yld⟩:=goes x en;split at q1
   ·exact q1.elim
   ·rename_i ρ2 eg;refine .inr ⟨go,fun σ' H'=>∃ W ρ M,W0.le W∧Held W M H'∧xu W ρ σ'∧yK W (vg it g db m (i + 1) ρ M) D ES,fun σ' H' n=>⟨m,Nat.lt_succ_self _,n⟩,fun v H2 hy=>?_⟩;obtain ⟨W2,l2,h2,rx⟩:=yld v H2 hy;refine ⟨W2,ρ1,M1,x,ρ2,l2.k.trans k1,h2,r1.up l2,rx,eg,fun σ2 r2=>⟨W2,ρ2,M1,l2.k.trans k1,h2,r2,?_⟩⟩;have l12:=l1.trans l2
    cases e:db ρ2 M1 with
    | nx ρ3 M3=>rw [e] at q1; exact fun W3 σ3 H3 l3 h3 r3=>⟨W3,ρ3,M3,l12.trans l3,h3,r3,yK.up (r:=vg it g db m (i + 1) ρ3 M3) q1 (l2.trans l3)⟩
    | ct ρ3 M3=>rw [e] at q1; exact fun W3 σ3 H3 l3 h3 r3=>⟨W3,ρ3,M3,l12.trans l3,h3,r3,yK.up (r:=vg it g db m (i + 1) ρ3 M3) q1 (l2.trans l3)⟩
    | bk ρ3 M3=>rw [e] at q1; exact fun W3 σ3 H3 l3 h3 r3=>q1 W3 σ3 H3 (l2.trans l3) h3 r3
    | rt v3 M3=>rw [e] at q1; exact fun W3 H3 u l3 h3 r3=>q1 W3 H3 u (l2.trans l3) h3 r3
    | exc c ρ3 M3 =>
     rw [e] at q1;intro W3 σ3 H3 l3 h3 r3
     have:=q1 W3 σ3 H3 (l2.trans l3) h3 r3
     rw [l2.k];exact this
    | bad=>rw [e] at q1; exact q1.elim⟩⟩
end
end L3

namespace L3
open PySem L2
open PyProof.Rows (envOfC int_text_len_1921)
def spD (T:Tb) (D:List PV->Sto->Res PV):Sp:=fun vs H Q E=>∃ W pvs M,W.T=T∧Held W M H∧yj W pvs vs∧yo W Rep (D pvs M) Q E
def spOk (T:Tb) (D:List PV->Sto->Res PV):Sp:=fun vs H Q _=>∃ W pvs M v M',W.T=T∧Held W M H∧yj W pvs vs∧D pvs M = .ok v M'∧∀ W' H' u,W.le W'->Held W' M' H'->Rep W' v u->Q u H'
def fin:RS->Res PV
 | .rt v M=>.ok v M
 | .nx _ M=>.ok .non M
 | .exc k _ M=>.exc k M
 | _=>.bad
def yz (n N:Nat) (d:DS):List PV->Sto->Res PV:=fun pvs M=>if pvs.length=n then fin (d (pvs.map some ++ List.replicate (N - n) none) M) else .bad
def JA (D:List PV->Sto->Res PV):List PV->Sto->Res PV:=fun pvs M=>(D pvs M).noX
def both (D0 D1:List PV->Sto->Res PV):List PV->Sto->Res PV:=fun pvs M=>match D0 pvs M with
 | .ok v M'=>.ok v M'
 | _=>match D1 pvs M with
  | .exc k M'=>.exc k M'
  | _=>.bad
theorem start_rep {W:Wd} {N:List Str} {n:Nat} {pvs:List PV} {vs:List V} (r:yj W pvs vs) (hn:pvs.length=n):xu W (pvs.map some ++ List.replicate (N.length - n) none) (L2.start N vs):=by
 unfold L2.start;have hl:=r.length;refine ⟨by simp; omega,fun i x e=>?_⟩
 by_cases hi:i < pvs.length
 ·rw [List.getElem?_append_left (by simpa using hi),List.getElem?_map] at e
  cases e1:pvs[i]? with
  | none=>rw [e1] at e; cases e
  | some y =>
   rw [e1] at e;cases e;obtain ⟨v,e2,r2⟩:=r.get e1;exact ⟨v,by rw [List.getElem?_append_left (by simp; omega),List.getElem?_map,e2]; rfl,r2⟩
 ·rw [List.getElem?_append_right (by simp; omega)] at e
  have:=List.mem_of_getElem? e
  have:=List.eq_of_mem_replicate this
  cases this
section
variable {P:Program} {w:World} {K:PySem.W.Frag} {mg:Str->Option Value} {base:Heap} {x qual:Str} {st:Stmt} {f:Addr} {fd:FuncData} {N ps:List Str} {k:Nat} {T:Tb} {d:DS} {D D0 D1:List PV->Sto->Res PV}
theorem denF_len {n:Nat} {pvs:List PV} {M:Sto} (h:yz n k d pvs M≠.bad):pvs.length=n:=by
 unfold yz at h;split at h
 ·assumption
 ·exact absurd rfl h
theorem fin_post {W:Wd} {r:RS} {Q:VK} {E:XK} (h:yo W Rep (fin r) Q E):yK W r { nx:=fun _ H'=>Q .non H',rt:=Q } fun _=>E:=by
 cases r with
 | nx ρ M=>exact fun W' σ' H' le hh _=>h W' H' .non le hh rfl
 | rt v M=>exact h
 | bk ρ M=>exact h.elim
 | ct ρ M=>exact h.elim
 | exc c ρ M=>exact fun W' σ' H' le hh _=>h W' H' le hh
 | bad=>exact h.elim
theorem den_lift {n:Nat} {vs:List V} {H:Hp} {Q:VK} {E:XK} (h:spD T (yz n N.length d) vs H Q E):lftS T (fun _=>E) d { nx:=fun _ H'=>Q .non H',rt:=Q } (L2.start N vs) H:=by
 obtain ⟨W,pvs,M,kT,hh,r,p⟩:=h
 have hn:pvs.length=n:=denF_len (M:=M) (d:=d) (k:=N.length) fun z=>by rw [z] at p; exact p
 have p:yo W Rep (if pvs.length=n then fin (d (pvs.map some ++ List.replicate (N.length - n) none) M) else .bad) Q E:=p;rw [if_pos hn] at p;exact ⟨W,_,M,kT,hh,start_rep r hn,fin_post p⟩
theorem spD_len {n:Nat} {vs:List V} {H:Hp} {Q:VK} {E:XK} (h:spD T (yz n N.length d) vs H Q E):vs.length=n:=by
 obtain ⟨W,pvs,M,kT,hh,r,p⟩:=h
 have hn:pvs.length=n:=denF_len (M:=M) (d:=d) (k:=N.length) fun z=>by rw [z] at p; exact p
 rw [r.length,hn]
theorem spOk_D {D:List PV->Sto->Res PV} {vs:List V} {H:Hp} {Q:VK} {E:XK} (h:spOk T D vs H Q E):spD T D vs H Q E:=by
 obtain ⟨W,pvs,M,v,M',kT,hh,r,e,q⟩:=h;exact ⟨W,pvs,M,kT,hh,r,by rw [e]; exact q⟩
theorem jN (F:Fun K x qual st f fd) (S:FnScope N ps (jd st)) (hb:∀ (cdv:Value) (A:Around) (outer:List Env) (s:Shared) (H:Hp) (E:XK),Room k (A.deeper (envOfC qual (jd st) s.heap.objs.size f cdv)) ->
  QSs (uy (CX1 P w) P w K mg base N qual (jd st) f cdv A outer s H E) T (fun _=>E) (jk st) d):FnOk P w K mg base (CX1 P w) (k + 1) f fd ps (spD T (yz ps.length N.length d)) :=
 F.okX S (fun _ _ _ _ h=>spD_len h) fun cdv A outer s H vs Q E hr h=>⟨_,(hb cdv A outer s H E hr).h,den_lift h⟩
theorem den_0 (F:Fun K x qual st f fd) (S:FnScope N ps (jd st)) (hb:∀ (cdv:Value) (A:Around) (outer:List Env) (s:Shared) (H:Hp) (E:XK),Room k (A.deeper (envOfC qual (jd st) s.heap.objs.size f cdv)) ->
  QSs (uy CX0 P w K mg base N qual (jd st) f cdv A outer s H E).nox T ES0 (jk st) d):FnOk P w K mg base CX0 (k + 1) f fd ps (spOk T (yz ps.length N.length d)) :=
 F.ok S (fun _ _ _ _ h=>spD_len (spOk_D h)) fun cdv A outer s H vs Q E hr h=>⟨_,(hb cdv A outer s H E hr).h,by
  obtain ⟨W,pvs,M,v,M',kT,hh,r,e,q⟩:=h
  exact den_lift (E:=E0) ⟨W,pvs,M,kT,hh,r,by rw [e]; exact q⟩⟩
theorem uT (F:FnOk P w K mg base CX0 k f fd ps (spOk T D)):FnOk P w K mg base (CX1 P w) k f fd ps (spD T (JA D)):=F.up.imp fun vs H Q E hQQ=>by
 obtain ⟨W,pvs,M,kT,hh,r,p⟩:=hQQ;unfold JA at p
 cases e:D pvs M with
 | ok v M'=>rw [e] at p; exact ⟨W,pvs,M,v,M',kT,hh,r,e,p⟩
 | exc _ _=>rw [e] at p; exact p.elim
 | bad=>rw [e] at p; exact p.elim
end
inductive Sl where
 | p (i:Nat) | k (j:Nat) | d (n:Nat)
def gen {α:Type} (sp:List Sl) (ds us ws:List α):List α:=sp.filterMap fun
 | .p i=>us[i]?
 | .k j=>ws[j]?
 | .d n=>ds[n]?
def yl {α:Type} (a b:Nat) (sp:List Sl) (ds us ws:List α):List α:=if us.length=a∧ws.length=b then gen sp ds us ws else []
theorem gen_vals {dV:List V} {ds:List Value} {vs:List V} {us:List Value} {zs:List V} {ws:List Value} (hd:ym dV ds) (hu:ym vs us) (hw:ym zs ws):∀ (sp:List Sl),ym (gen sp dV vs zs) (gen sp ds us ws)
 | []=>.nil
 | c :: r=>by
  have ih:=gen_vals hd hu hw r
  have get:∀ {xs:List V} {ys:List Value} (i:Nat),ym xs ys->(∃ x y,xs[i]? = some x∧ys[i]? = some y∧yn x y)∨(xs[i]? = none∧ys[i]? = none):=fun {xs ys} i h=>by
   cases e:xs[i]? with
   | none=>exact .inr ⟨rfl,h.none_of e⟩
   | some x =>
    obtain ⟨y,e2,r2⟩:=h.get e;exact .inl ⟨x,y,rfl,e2,r2⟩
  unfold gen;rw [List.filterMap_cons,List.filterMap_cons]
  cases c with
  | p i =>
   rcases get i hu with ⟨x,y,e1,e2,r2⟩ | ⟨e1,e2⟩
   ·simp only [e1,e2]; exact .cons r2 ih
   ·simp only [e1,e2]; exact ih
  | k i =>
   rcases get i hw with ⟨x,y,e1,e2,r2⟩ | ⟨e1,e2⟩
   ·simp only [e1,e2]; exact .cons r2 ih
   ·simp only [e1,e2]; exact ih
  | d i =>
   rcases get i hd with ⟨x,y,e1,e2,r2⟩ | ⟨e1,e2⟩
   ·simp only [e1,e2]; exact .cons r2 ih
   ·simp only [e1,e2]; exact ih
theorem gen_reps {W:Wd} {dP:List PV} {dV:List V} {pus:List PV} {vs:List V} {pws:List PV} {zs:List V} (hd:yj W dP dV) (hu:yj W pus vs) (hw:yj W pws zs):∀ (sp:List Sl),yj W (gen sp dP pus pws) (gen sp dV vs zs)
 | []=>rfl
 | c :: r=>by
  have ih:=gen_reps hd hu hw r
  have get:∀ {xs:List PV} {ys:List V} (i:Nat),yj W xs ys->(∃ x y,xs[i]? = some x∧ys[i]? = some y∧Rep W x y)∨(xs[i]? = none∧ys[i]? = none):=fun {xs ys} i h=>by
   cases e:xs[i]? with
   | none =>
    refine .inr ⟨rfl,List.getElem?_eq_none_iff.mpr ?_⟩;rw [h.length];exact List.getElem?_eq_none_iff.mp e
   | some x =>
    obtain ⟨y,e2,r2⟩:=h.get e;exact .inl ⟨x,y,rfl,e2,r2⟩
  unfold gen;rw [List.filterMap_cons,List.filterMap_cons]
  cases c with
  | p i =>
   rcases get i hu with ⟨x,y,e1,e2,r2⟩ | ⟨e1,e2⟩
   ·simp only [e1,e2]; exact ⟨y,_,rfl,r2,ih⟩
   ·simp only [e1,e2]; exact ih
  | k i =>
   rcases get i hw with ⟨x,y,e1,e2,r2⟩ | ⟨e1,e2⟩
   ·simp only [e1,e2]; exact ⟨y,_,rfl,r2,ih⟩
   ·simp only [e1,e2]; exact ih
  | d i =>
   rcases get i hd with ⟨x,y,e1,e2,r2⟩ | ⟨e1,e2⟩
   ·simp only [e1,e2]; exact ⟨y,_,rfl,r2,ih⟩
   ·simp only [e1,e2]; exact ih
theorem jH {K:PySem.W.Frag} {fd:FuncData} {p0:Str} {pr ks:List Str} {a b:Nat} {sp:List Sl} {dV:List V} {ds:List Value} (hd:ym dV ds)
  (h:∀ (s:Shared) (us ws:List Value),K.In s.heap->us.length=a->ws.length=b->BindsTo s fd ⟨us,ks.zip ws⟩ ((p0 :: pr).zip (gen sp ds us ws))):KBinds K fd (p0 :: pr) ks (yl a b sp ds) (yl a b sp dV) where
 to:=fun s us ws KX hl=>by
  unfold yl at hl ⊢
  by_cases hc:us.length=a∧ws.length=b
  ·rw [if_pos hc] at hl ⊢;exact h s us ws KX hc.1 hc.2
  ·rw [if_neg hc] at hl;cases hl
 rel:=fun {vs us zs ws} hu hw=>by
  unfold yl;rw [hu.length,hw.length];split
  ·exact gen_vals hd hu hw sp
  ·exact .nil
structure CalD (P:Program) (w:World) (K:PySem.W.Frag) (mg:Str->Option Value) (base:Heap) (T:Tb) (x:Str) (j:Nat) (ps ks:List Str) (a b:Nat) (sl:List Sl) (dP:List PV) (D:List PV->Sto->Res PV):Prop where
 ex:∃ f fd dV ds,FnOk P w K mg base (CX1 P w) j f fd ps (spD T D)∧mg x=some (.ref f)∧PySem.W.keepIn K (.ref f)=true∧KBinds K fd ps ks (yl a b sl ds) (yl a b sl dV)∧∀ W:Wd,W.T=T->yj W dP dV
def jr (D:List PV->Sto->Res PV) (a b:Nat) (sl:List Sl) (dP:List PV) (da dk:DA):DE:=fun ρ M=>(da ρ M).bind fun xs M1=>(dk ρ M1).bind fun zs M2=>D (yl a b sl dP xs zs) M2
section
variable {X:Cx} {T:Tb} {ES:St->XK} {x:Str} {j:Nat} {ps ks:List Str} {a b:Nat} {sl:List Sl} {dP:List PV} {D:List PV->Sto->Res PV} {p pos:Pos} {e:Expr} {es:List Expr} {kws:List Keyword} {da dk:DA}
theorem Jh {W:Wd} {dV:List V} {pus:List PV} {vs:List V} {pws:List PV} {zs:List V} (hd:yj W dP dV) (hu:yj W pus vs) (hw:yj W pws zs):yj W (yl a b sl dP pus pws) (yl a b sl dV vs zs):=by
 unfold yl;rw [hu.length,hw.length];split
 ·exact gen_reps hd hu hw sl
 ·rfl
theorem jA:vD (CX1 X.prog X.w) X ES0:=fun pins σ H s e s' I h=>by
 obtain ⟨_,_,_,_,_,_,_,_,_,_,_,_,_,_,q⟩:=h;exact q.elim
theorem jE {P:Program} {w:World} {K:PySem.W.Frag} {mg:Str->Option Value} {base:Heap} {N:List Str} {qual:Str} {scope:Scope} {f:Addr} {cd:Value} {A:Around} {outer:List Env} {s₀:Shared} {H₀:Hp} {E:XK} :
  vD (CX1 P w) (uy (CX1 P w) P w K mg base N qual scope f cd A outer s₀ H₀ E) fun _=>E:=fun pins σ H s e s' I h=>cx_pass pins σ H s e s' I h
theorem run_g {f:Addr} {fd:FuncData} {dV:List V} {ds:List Value} {pins:List (Addr × Obj)} {σ:St} {H:Hp} {s:Shared} {Q:VK} {us ws:List Value} {vs zs:List V} {sp:Sp} (F:FnOk X.prog X.w X.K X.mg X.base (CX1 X.prog X.w) j f fd ps sp) (hr:Room j X.A) (hb:KBinds X.K fd ps ks (yl a b sl ds) (yl a b sl dV)) (hx:vD (CX1 X.prog X.w) X ES)
  (I:Inv X pins σ H s) (r:ym vs us) (rz:ym zs ws) (h:sp (yl a b sl dV vs zs) H Q (ES σ)):wpAny (model X.prog X.w) X.A (call (.ref f) us (ks.zip ws)) (EP X pins σ Q) X.xe s:=by
 have r2:=hb.rel r rz
 have hl:(yl a b sl ds us ws).length=ps.length:=by rw [<- r2.length]; exact F.len _ _ _ _ h
 refine wpAny_call (codeAny_mono (F.run X.A X.stack s H ⟨us,ks.zip ws⟩ (yl a b sl ds us ws) (yl a b sl dV vs zs) Q (ES σ) hr I.env0 (hb.to s us ws I.kIn hl) r2 h) fun r s' hq=>?_)
 match r,hq with
 | .error e,hq=>exact hx pins σ H s e s' I hq
 | .ok (.ret u),hq=>exact I.after hq
theorem jj (C:CalD X.prog X.w X.K X.mg X.base T x j ps ks a b sl dP D) (hr:Room j X.A) (hg:Gl X x) (hx:vD (CX1 X.prog X.w) X ES) (ha:QA X T ES (e :: es) da) (hkw:QK X T ES kws dk)
  (hall:(backToKw pos (keywordEach kws X.env)).all (·.1.isSome)=true:=by rfl) (hks:(backToKw pos (keywordEach kws X.env)).filterMap (·.1)=ks:=by rfl)
  (hdb:(x == ("__debug__":Str))=false:=by decide) (he:starEach (e :: es) X.env=(false,eval e X.env) :: starEach es X.env:=by rfl)
  (hpl:((backTo pos (starEach (e :: es) X.env)).any (·.1) || (backToKw pos (keywordEach kws X.env)).any (·.1.isNone))=false:=by rfl):QE X T ES (.Call (.Name x p) (e :: es) kws pos) (jr D a b sl dP da dk):=⟨by
 obtain ⟨f,fd,dV,ds,F,hm,hk,hb,hdV⟩:=C.ex;rintro pins s σ H Q I ⟨W,ρ,M,k,hh,hs,q⟩;refine wpAny_Call_Name_kw (Yg I hg hm ?_ hdb)
 refine PySem.W.callWith_KW (h₀:=X.base) I.ok.mod.kin hk hall (thn (ha.h pos pins s σ H _ I ⟨W,ρ,M,k,hh,hs,yo.bind (Q1:=fun vs H1=>∃ W1 M1 xs,W1.T=T∧Held W1 M1 H1∧xu W1 ρ σ∧yj W1 xs vs∧yo W1 Rep ((dk ρ M1).bind fun zs M2=>D (yl a b sl dP xs zs) M2) Q (ES σ)) q
   fun W1 M1 xs vs H1 l1 h1 r1 q1=>⟨W1,M1,xs,l1.k.trans k,h1,hs.up l1,r1,q1⟩⟩) fun us s1 hQQ=>?_) hpl he
 obtain ⟨vs,H1,I1,r,W1,M1,xs,k1,h1,hs1,r1,q1⟩:=hQQ;refine thn (hkw.h pos pins s1 σ H1 (fun zs H2=>spD T D (yl a b sl dV vs zs) H2 Q (ES σ)) I1 ⟨W1,ρ,M1,k1,h1,hs1,yo.bind q1 fun W2 M2 zs' zs H2 l2 h2 r2 q2=>⟨W2,_,M2,l2.k.trans k1,h2,Jh (hdV W2 (l2.k.trans k1)) (r1.up l2) r2,q2⟩⟩) fun ws s2 hQQ=>?_;obtain ⟨zs,H2,I2,rz,q2⟩:=hQQ;refine ⟨I2.kIn,?_⟩;rw [hks]
 exact run_g F hr hb hx I2 r rz q2⟩
def xw (c:Nat) (ds:DA):DS:=fun ρ M=>(ds ρ M).st ρ fun vs M1=>if vs.length<=sizeLine then .exc c ρ M1 else .bad
theorem yQ {P:Program} {w:World} {K:PySem.W.Frag} {mg:Str->Option Value} {base:Heap} {N:List Str} {qual:Str} {scope:Scope} {f:Addr} {cd:Value} {A:Around} {outer:List Env} {s₀:Shared} {H₀:Hp} {E:XK}
  {x:Str} {c:Nat} {np cpos pos:Pos} {e:Expr} {es:List Expr} {ds:DA} (hC:Exc K mg x (T.C c)) (hg:Gl (uy (CX1 P w) P w K mg base N qual scope f cd A outer s₀ H₀ E) x) (ha:QA (uy (CX1 P w) P w K mg base N qual scope f cd A outer s₀ H₀ E) T (fun _=>E) (e :: es) ds)
  (hdb:(x == ("__debug__":Str))=false:=by decide)
  (he:starEach (e :: es) (envOfC qual scope s₀.heap.objs.size f cd)=(false,eval e (envOfC qual scope s₀.heap.objs.size f cd)) :: starEach es (envOfC qual scope s₀.heap.objs.size f cd):=by rfl)
  (hpl:(backTo cpos (starEach es (envOfC qual scope s₀.heap.objs.size f cd))).any (·.1)=false:=by rfl) :
  QS (uy (CX1 P w) P w K mg base N qual scope f cd A outer s₀ H₀ E) T (fun _=>E) (.Raise (some (.Call (.Name x np) (e :: es) [] cpos)) none pos) (xw c ds) :=
 ⟨xW (ps_raise hC hg ha.h hdb he hpl) fun D σ H hQQ=>xq hQQ fun W ρ M k hh hs q=>⟨W,ρ,M,k,hh,hs,yK.bind hs q fun W1 M1 xs vs H1 l1 h1 r1 q1=>by
  split at q1
  ·rename_i hz
   have:=q1 W1 σ H1 (.refl W1) h1 (hs.up l1)
   rw [l1.k,k] at this;exact ⟨by rw [r1.length]; exact hz,this⟩
  ·exact q1.elim⟩⟩
structure QJ (X:Cx) (T:Tb) (ES:St->XK) (n:Nat) (es:List Expr) (d:En->Sto->Str->Res Str):Prop where
 h:∀ (out:Str),out.length<=n->PJ X es fun σ H o Q=>o=out∧lft T (fun _ a b=>b=a) ES (fun ρ M=>d ρ M out) σ H Q
theorem pj_imp {t t':TJ} (h:PJ X es t) (f:∀ σ H o Q,t' σ H o Q->t σ H o Q):PJ X es t':=fun pins s σ H o Q I q=>h pins s σ H o Q I (f σ H o Q q)
def jNil:En->Sto->Str->Res Str:=fun _ M out=>.ok out M
def jTxt (x:Str) (d:En->Sto->Str->Res Str):En->Sto->Str->Res Str:=fun ρ M out=>d ρ M (out ++ x)
def jInt (de:DE) (d:En->Sto->Str->Res Str):En->Sto->Str->Res Str:=fun ρ M out=>(de ρ M).bind fun v M1=>match v with
 | .int i=>if xv i=true then d ρ M1 (out ++ Str.ofString (toString i)) else .bad
 | _=>.bad
theorem qj_nil {n:Nat} (hn:n<=sizeLine):QJ X T ES n [] jNil:=⟨fun out ho=>pj_imp pj_nil fun σ H o Q hQQ=>by
 obtain ⟨e,W,ρ,M,k,hh,hs,q⟩:=hQQ;subst e
 exact ⟨Nat.le_trans ho hn,q W H _ (.refl W) hh rfl⟩⟩
theorem str_len (a b:Str):(a ++ b).length=a.length + b.length:=by
 show (a.cps ++ b.cps).size=a.cps.size + b.cps.size;exact Array.size_append
theorem qj_txt {n:Nat} {x:Str} {c:Nat} {cp:Pos} {d:En->Sto->Str->Res Str} (hx:x.length<=2000) (hn:n + 2000<=sizeLine) (hr:QJ X T ES (n + 2000) es d) (hs:evalEach (.Constant (.str x) c cp :: es) X.env=eval (.Constant (.str x) c cp) X.env :: evalEach es X.env:=by rfl):QJ X T ES n (.Constant (.str x) c cp :: es) (jTxt x d) :=
 ⟨fun out ho=>by
  have hl:(out ++ x).length<=n + 2000:=by rw [str_len]; omega
  exact pj_imp (pj_cons (pe_str (X:=X)) (hr.h (out ++ x) hl) hs) fun σ H o Q hQQ=>by
   obtain ⟨e,W,ρ,M,k,hh,hs,q⟩:=hQQ;subst e
   exact ⟨x,rfl,Nat.le_trans hl hn,rfl,W,ρ,M,k,hh,hs,q⟩⟩
theorem Yy {i:Int} (h:xv i=true):i.natAbs.log2 < 1920:=by
 obtain ⟨h1,h2⟩:=yp.mp h
 by_cases h0:i.natAbs=0
 ·rw [h0]; decide
 ·have:i.natAbs < 2 ^ 1920:=Nat.lt_of_le_of_lt (show i.natAbs<=2 ^ 62 by omega) (Nat.pow_lt_pow_right (by decide) (by decide))
  exact (Nat.log2_lt h0).mpr this
theorem qj_int {n:Nat} {de:DE} {cp:Pos} {d:En->Sto->Str->Res Str} (he:QE X T ES e de) (hn:n + 2000<=sizeLine) (hr:QJ X T ES (n + 2000) es d) (hs:evalEach (.FormattedValue e (-1) none cp :: es) X.env=eval (.FormattedValue e (-1) none cp) X.env :: evalEach es X.env:=by rfl):QJ X T ES n (.FormattedValue e (-1) none cp :: es) (jInt de d) :=
 ⟨fun out ho=>fun pins s σ H o Q I hQQ=>by
  obtain ⟨eo,W,ρ,M,k,hh,hsρ,q⟩:=hQQ;subst eo;refine pj_cons (t:=fun σ H o' Q=>∃ (i:Int),xv i=true∧o'=o ++ Str.ofString (toString i)∧lft T (fun _ a b=>b=a) ES (fun ρ M=>d ρ M (o ++ Str.ofString (toString i))) σ H Q) (pe_fmtI he.h) (fun pins s σ H o' Q I ⟨i,hi,eo,hq⟩=>?_) hs pins s σ H o Q I ?_
  ·have hl:(o ++ Str.ofString (toString i)).length<=n + 2000:=by
    rw [str_len]
    have:=int_text_len_1921 (Yy hi)
    omega
   exact (hr.h _ hl) pins s σ H o' Q I ⟨eo,hq⟩
  ·refine ⟨W,ρ,M,k,hh,hsρ,yo.bind q fun W1 M1 v u H1 l1 h1 r1 q1=>?_⟩;split at q1
   ·rename_i i;split at q1
    ·rename_i hi;refine ⟨i,r1,Yy hi,_,rfl,?_,i,hi,rfl,W1,ρ,M1,l1.k.trans k,h1,hsρ.up l1,q1⟩;rw [str_len]
     have:=int_text_len_1921 (Yy hi)
     show o.length + (Str.ofString (toString i)).length<=sizeLine;omega
    ·exact q1.elim
   ·exact q1.elim⟩
def dFstr (d:En->Sto->Str->Res Str):DE:=fun ρ M=>(d ρ M Str.empty).bind fun z M1=>.ok (.str z) M1
theorem qe_fstr {e2:Expr} {d:En->Sto->Str->Res Str} (h:QJ X T ES 0 (e :: e2 :: es) d) (hs:evalEach (e :: e2 :: es) X.env=eval e X.env :: eval e2 X.env :: evalEach es X.env:=by rfl):QE X T ES (.JoinedStr (e :: e2 :: es) pos) (dFstr d) :=
 ⟨jS (pe_fstr (h.h Str.empty (by decide)) hs) fun σ H Q hQQ=>jF hQQ fun W ρ M k hh hs q=>⟨rfl,W,ρ,M,k,hh,hs,yo.bind q fun W1 M1 z u H1 l1 h1 r1 q1=>by
  subst r1
  exact q1 W1 H1 _ (.refl W1) h1 rfl⟩⟩
end
end L3

namespace L3
open PySem L2
abbrev GM:=Sto->PV->List PV->Option (PV × Sto)
def rM (T:Tb) (g:GM):V->List V->Hp->VK->Prop:=fun v vs H Q=>∃ W M x xs z M',W.T=T∧Held W M H∧Rep W x v∧yj W xs vs∧g M x xs=some (z,M')∧∀ W' H' v',W.le W'->Held W' M' H'->Rep W' z v'->Q v' H'
def dMt (g:GM) (do_:DE) (da:DA):DE:=fun ρ M=>(do_ ρ M).bind fun x M1=>match yV M1 x with
 | none=>.bad
 | some _=>(da ρ M1).bind fun xs M2=>match g M2 x xs with
  | some (z,M3)=>.ok z M3
  | none=>.bad
section
variable {X:Cx} {T:Tb} {ES:St->XK} {o e:Expr} {es:List Expr} {name:Str} {apos cpos:Pos} {mid:String} {g:GM} {do_:DE} {da:DA}
theorem mtr_imp {r r':V->List V->Hp->VK->Prop} (h:MtR X mid r) (k:∀ x xs H Q,r' x xs H Q->r x xs H Q):MtR X mid r':=fun pins s σ H x xs v us Q I rx rs q=>h pins s σ H x xs v us Q I rx rs (k _ _ _ _ q)
theorem YS (slot:Slot "list" name mid) (hty:typeOf (.builtin mid)=pure (.type "method_descriptor")) (hm:MtR X mid (rM T g)) (ho:QE X T ES o do_) (ha:QA X T ES (e :: es) da)
  (hbase:attributeBase o name X.env (eval o X.env)=eval o X.env:=by rfl)
  (hfew:((backTo cpos (starEach (e :: es) X.env)).all (fun x=>!x.1) && (backToKw cpos (keywordEach [] X.env)).all (fun x=>x.1.isSome)
   && decide ((e :: es).length + ([]:List Keyword).length + (if ([]:List Keyword).isEmpty then 0 else 1) < 30))=true:=by rfl)
  (hline:(apos.endLine == cpos.line)=true:=by rfl) (hs:starEach (e :: es) X.env=(false,eval e X.env) :: starEach es X.env:=by rfl) (hplain:(backTo cpos (starEach es X.env)).any (·.1)=false:=by rfl) :
  QE X T ES (.Call (.Attribute o name apos) (e :: es) [] cpos) (dMt g do_ da) :=
 ⟨jS (pe_bm PySem.F.plainAttrs_list slot hty hm ho.h ha.h hbase hfew hline hs hplain) fun σ H Q hQQ=>jF hQQ fun W ρ M k hh hs q=>⟨W,ρ,M,k,hh,hs,yo.bind q fun W1 M1 x v H1 l1 h1 r1 q1=>by
  split at q1
  ·exact q1.elim
  ·rename_i ys e1;obtain ⟨a,vs,rfl,ha,_⟩:=xT h1 r1 e1;refine ⟨.inl ⟨rfl,vs,SqL.of ha⟩,W1,ρ,M1,l1.k.trans k,h1,hs.up l1,yo.bind q1 fun W2 M2 xs us H2 l2 h2 r2 q2=>?_⟩;split at q2
   ·rename_i z M3 e2;exact ⟨W2,M2,x,xs,z,M3,l2.k.trans (l1.k.trans k),h2,r1.up l2,r2,e2,q2⟩
   ·exact q2.elim⟩⟩
def cellL (M:Sto):PV->Option (Nat × List PV)
 | .ref i=>(match M.g i with
  | some (.lst xs)=>some (i,xs)
  | _=>none)
 | _=>none
theorem xM {W:Wd} {M:Sto} {H:Hp} {x:PV} {v:V} {i:Nat} {xs:List PV} (hh:Held W M H) (r:Rep W x v) (e:cellL M x=some (i,xs)):∃ a vs,v = .ref a∧W.α i=some a∧M.g i=some (.lst xs)∧H a=some (.lst vs)∧yj W xs vs:=by
 cases x with
 | ref j =>
  have e:(match M.g j with
   | some (.lst xs)=>some (j,xs)
   | _=>none)=some (i,xs):=e
  split at e
  ·rename_i ys e1;cases e;obtain ⟨a,rfl,ea⟩:=r;obtain ⟨b,ob,h1,h2,h3,vs,rfl,rr⟩:=hh.m _ _ e1;rw [ea] at h1;cases h1;exact ⟨a,vs,rfl,ea,e1,h3,rr⟩
  ·cases e
 | _=>cases e
def yR:GM:=fun M x ys=>match cellL M x,ys with
 | some (i,xs),[y]=>if xs.length < sizeLine then some (.non,M.set i (.lst (xs ++ [y]))) else none
 | _,_=>none
theorem uM:MtR X "list.append" (rM T yR):=mtr_imp mt_append fun v vs H Q hQQ=>by
 obtain ⟨W,M,x,ys,z,M',k,hh,rx,ry,e,q⟩:=hQQ;unfold yR at e;split at e
 ·rename_i i xs y e1;split at e
  ·rename_i hz;cases e;obtain ⟨a,ws,rfl,ea,eg,ha,rr⟩:=xM hh rx e1;obtain ⟨u,rfl,ru⟩:=ve ry;refine ⟨a,ws,u,rfl,rfl,ha,by rw [rr.length]; exact hz,q W _ _ (.refl W) (hh.upd eg ea ⟨_,rfl,rr.append ⟨u,[],rfl,ru,rfl⟩⟩) rfl⟩
  ·cases e
 ·cases e
def vQ:GM:=fun M x ys=>match cellL M x,ys with
 | some (i,xs),[.int k]=>(match vt xs with
  | some ns=>if k ∈ ns then some (.non,M.set i (.lst ((ns.erase k).map PV.int))) else none
  | none=>none)
 | _,_=>none
theorem m_remove:MtR X "list.remove" (rM T vQ):=mtr_imp mt_remove fun v vs H Q hQQ=>by
 obtain ⟨W,M,x,ys,z,M',k,hh,rx,ry,e,q⟩:=hQQ;unfold vQ at e;split at e
 ·rename_i i xs kk e1;split at e
  ·rename_i ns e2;split at e
   ·rename_i hz;cases e;obtain ⟨a,ws,rfl,ea,eg,ha,rr⟩:=xM hh rx e1;obtain ⟨n,rfl,rn⟩:=ve ry;have rn:n = .int kk:=rn;subst rn;rw [uP e2] at rr;rw [yj.ints.mp rr] at ha;exact ⟨a,ns,kk,rfl,rfl,ha,hz,q W _ _ (.refl W) (hh.upd eg ea ⟨_,rfl,yj.ints.mpr rfl⟩) rfl⟩
   ·cases e
  ·cases e
 ·cases e
def JF:GM:=fun M x ys=>match cellL M x,ys with
 | some (i,xs),[.int k]=>if 0<=k∧k < xs.length∧k < 2 ^ 62 then (xs[k.toNat]?).map fun y=>(y,M.set i (.lst (xs.eraseIdx k.toNat))) else none
 | _,_=>none
theorem m_popAt:MtR X "list.pop" (rM T JF):=mtr_imp mt_popAt fun v vs H Q hQQ=>by
 obtain ⟨W,M,x,ys,z,M',k,hh,rx,ry,e,q⟩:=hQQ;unfold JF at e;split at e
 ·rename_i i xs kk e1;split at e
  ·rename_i hz
   cases e2:xs[kk.toNat]? with
   | none=>rw [e2] at e; cases e
   | some y =>
    rw [e2] at e;cases e;obtain ⟨a,ws,rfl,ea,eg,ha,rr⟩:=xM hh rx e1;obtain ⟨n,rfl,rn⟩:=ve ry;have rn:n = .int kk:=rn;subst rn;obtain ⟨u,e3,r3⟩:=rr.get e2;have hl:=rr.length;refine ⟨a,ws,kk,kk.toNat,u,rfl,rfl,ha,by omega,by omega,?_,e3,q W _ _ (.refl W) (hh.upd eg ea ⟨_,rfl,rr.erase _⟩) r3⟩;exact seqIndex_of hz.1 (by rw [hl]; exact hz.2.1)
  ·cases e
 ·cases e
def gScr:G2:=fun _ x y=>match x,y with
 | .scr ns,.lst []=>some (.bl (!ns.isEmpty))
 | _,_=>none
theorem o_scr (hT:T.K=X.K) (hu:X.A.units < cLine):OpP X T (compareOp .NotEq) gScr:=vd (op_neL hu) fun v u H Q hQQ=>by
 obtain ⟨W,M,x,y,w,k,hh,rx,ry,e,q⟩:=hQQ;unfold gScr at e;split at e
 ·rename_i ns;cases e;obtain ⟨a,rfl,hq,_⟩:=rx;obtain ⟨b,us,rfl,hb,rr⟩:=ry;cases rr
  have hq:SqL X.K H a (ns.map V.int):=by
   have:=(show Same W.F H from hh.f).seq hq
   rw [k,hT] at this;exact this
  refine ⟨a,b,ns.map V.int,[],rfl,rfl,hq,SqL.of (hh.f _ _ hb),?_,rfl,q W H _ (.refl W) hh ?_⟩
  ·rw [List.all_map];exact List.all_eq_true.mpr fun _ _=>rfl
  ·cases ns with
   | nil=>rfl
   | cons _ _=>rfl
 ·cases e
def gListS:G1:=fun M xs=>match xs with
 | [.scr ns]=>some (.ref M.n,M.new (.lst (ns.map PV.int)))
 | _=>none
theorem b_listS (hT:T.K=X.K):yy X (.type "list") (rC T gListS):=vF uz fun vs H Q hQQ=>by
 obtain ⟨W,M,xs,z,M',k,hh,rx,e,q⟩:=hQQ;unfold gListS at e;split at e
 ·rename_i ns;cases e;obtain ⟨v,rfl,a,rfl,hq,_⟩:=ve rx
  have hq:SqL X.K H a (ns.map V.int):=by
   have:=(show Same W.F H from hh.f).seq hq
   rw [k,hT] at this;exact this
  refine ⟨a,_,rfl,.inl hq,fun l hl=>?_⟩;obtain ⟨W2,l2,h2,r2⟩:=vZ (xs:=ns.map PV.int) hh (yj.ints.mpr rfl) hl;exact q W2 _ _ l2 h2 r2
 ·cases e
structure XRow (T:Tb) (ks:List Nat) (LE k:Nat):Prop where
 x:ExcK T.K (T.C k)
 kk:∀ j ∈ ks,PySem.W.kitOne T.K (.ref (T.C k)) (.ref (T.C j))=some (k == j)
 l:PySem.W.kitOne T.K (.ref (T.C k)) (.ref (T.C LE))=some true
 v:PySem.W.kitOne T.K (.ref (T.C k)) (.type "ValueError")=some true
 m:PySem.W.exmOne T.K (.ref (T.C k)) (.ref (T.C LE))=some true
def dDct:DE:=fun _ M=>.ok (.dct []) M
theorem qe_dct:QE X T ES (.Dict [] [] cpos) dDct:=⟨jS pe_dnewF fun σ H Q hQQ=>jF hQQ fun W ρ M k hh hs q=>fun p o hp=>by
 obtain ⟨l2,h2,f2⟩:=hh.frz (o:=.frz o (.dT [])) hp
 exact q _ _ _ l2 h2 ⟨p,o,rfl,f2⟩⟩
theorem vO {A:Around} {k:Nat} (hr:Room k A):A.units + 100 < cLine:=by have:=hr.un; omega
theorem bt_any:bootBuiltins "any" = some (.builtin "any"):=by decide +kernel
end
end L3

namespace L3
open PySem L2
@[simp] theorem noX_ok {α : Type} {a : α} {M : Sto} : (Res.ok a M).noX = .ok a M := rfl
@[simp] theorem noX_bad {α : Type} : (Res.bad : Res α).noX = .bad := rfl
@[simp] theorem uh {x : PV} {ρ : En} {M : Sto} : dC x ρ M = .ok x M := rfl
@[simp] theorem jC {x : PV} {r : En} {M : Sto} : yg 0 (some x :: r) M = .ok x M := rfl
@[simp] theorem jJ {i : Nat} {o : Option PV} {r : En} {M : Sto} : yg (i + 1) (o :: r) M = yg i r M := rfl
@[simp] theorem jx {ρ : En} {M : Sto} : yh ρ M = .ok [] M := rfl
@[simp] theorem jt {d : DE} {ds : DA} {ρ : En} {M : Sto} : jc d ds ρ M = (d ρ M).bind fun x M1 => (ds ρ M1).bind fun xs M2 => .ok (x :: xs) M2 := rfl
@[simp] theorem yd {g : G2} {da db : DE} {ρ : En} {M : Sto} : dOp g da db ρ M = (da ρ M).bind fun x M1 => (db ρ M1).bind fun y M2 => ofO (g M2 x y) M2 := rfl
@[simp] theorem yx {d : DE} {ρ : En} {M : Sto} : yk d ρ M = (d ρ M).bind fun x M1 => ofO (asB x) M1 := rfl
@[simp] theorem asB_bl {b : Bool} : asB (.bl b) = some b := rfl
@[simp] theorem yH {g : G1} {ds : DA} {ρ : En} {M : Sto} : dCB g ds ρ M = (ds ρ M).bind fun xs M1 => match g M1 xs with
 | some (z,M2)=>.ok z M2
 | none=>.bad:=rfl
@[simp] theorem dIf_eq {t : DT} {da db : DE} {ρ : En} {M : Sto} : dIf t da db ρ M = (t ρ M).bind fun c M1 => if c = true then da ρ M1 else db ρ M1 := rfl
@[simp] theorem dAnd_eq {da db : DT} {ρ : En} {M : Sto} : dAnd da db ρ M = (da ρ M).bind fun c M1 => if c = true then db ρ M1 else .ok false M1 := rfl
@[simp] theorem dOr_eq {da db : DT} {ρ : En} {M : Sto} : dOr da db ρ M = (da ρ M).bind fun c M1 => if c = true then .ok true M1 else db ρ M1 := rfl
@[simp] theorem dNot_eq {da : DT} {ρ : En} {M : Sto} : vB da ρ M = (da ρ M).bind fun c M1 => .ok (!c) M1 := rfl
@[simp] theorem dTru_eq {d : DE} {ρ : En} {M : Sto} : vW d ρ M = (d ρ M).bind fun x M1 => ofO (Yx M1 x) M1 := rfl
@[simp] theorem truP_bl {b : Bool} {M : Sto} : Yx M (.bl b) = some b := rfl
@[simp] theorem dUn_eq {g : Sto -> PV -> Option PV} {d : DE} {ρ : En} {M : Sto} : dUn g d ρ M = (d ρ M).bind fun x M1 => ofO (g M1 x) M1 := rfl
@[simp] theorem gNeg_int {M : Sto} {i : Int} : gNeg M (.int i) = some (.int (-i)) := rfl
@[simp] theorem jY {D : List PV -> Sto -> Res PV} {a b : Nat} {sl : List Sl} {dP : List PV} {da dk : DA} {ρ : En} {M : Sto} : jr D a b sl dP da dk ρ M = (da ρ M).bind fun xs M1 => (dk ρ M1).bind fun zs M2 => D (yl a b sl dP xs zs) M2 := rfl
@[simp] theorem dTup_eq {ds : DA} {ρ : En} {M : Sto} : dTup ds ρ M = (ds ρ M).bind fun xs M1 => if xs.length <= sizeLine then .ok (.tup xs) M1 else .bad := rfl
@[simp] theorem dLst_eq {ds : DA} {ρ : En} {M : Sto} : uX ds ρ M = (ds ρ M).bind fun xs M1 => if xs.length <= sizeLine then .ok (.lst xs) M1 else .bad := rfl
@[simp] theorem dLstN_eq {ds : DA} {ρ : En} {M : Sto} : Xb ds ρ M = (ds ρ M).bind fun xs M1 => if xs.length <= sizeLine then .ok (.ref M1.n) (M1.new (.lst xs)) else .bad := rfl
@[simp] theorem sNext_eq {ρ : En} {M : Sto} : yB ρ M = .nx ρ M := rfl
@[simp] theorem sSeq_eq {d1 d2 : DS} {ρ : En} {M : Sto} : yi d1 d2 ρ M = (d1 ρ M).then d2 := rfl
@[simp] theorem sSet_eq {i : Nat} {d : DE} {ρ : En} {M : Sto} : yt i d ρ M = (d ρ M).st ρ fun v M1 => .nx (ρ.set i (some v)) M1 := rfl
@[simp] theorem sRet_eq {d : DE} {ρ : En} {M : Sto} : yD d ρ M = (d ρ M).st ρ fun v M1 => .rt v M1 := rfl
@[simp] theorem sExpr_eq {d : DE} {ρ : En} {M : Sto} : yq d ρ M = (d ρ M).st ρ fun _ M1 => .nx ρ M1 := rfl
@[simp] theorem sIf_eq {t : DT} {d1 d2 : DS} {ρ : En} {M : Sto} : sIf t d1 d2 ρ M = (t ρ M).st ρ fun c M1 => if c = true then d1 ρ M1 else d2 ρ M1 := rfl
@[simp] theorem sRaise_eq {c : Nat} {ds : DA} {ρ : En} {M : Sto} : xw c ds ρ M = (ds ρ M).st ρ fun vs M1 => if vs.length <= sizeLine then .exc c ρ M1 else .bad := rfl
@[simp] theorem fin_rt {v : PV} {M : Sto} : fin (.rt v M) = .ok v M := rfl
@[simp] theorem fin_nx {ρ : En} {M : Sto} : fin (.nx ρ M) = .ok .non M := rfl
@[simp] theorem fin_exc {c : Nat} {ρ : En} {M : Sto} : fin (.exc c ρ M) = .exc c M := rfl
@[simp] theorem vE {M : Sto} {i j : Int} : xG M (.int i) (.int j) = some (.int (i + j)) := rfl
@[simp] theorem xK {M : Sto} {i j : Int} : xF M (.int i) (.int j) = some (.int (i - j)) := rfl
@[simp] theorem gLt_int {M : Sto} {i j : Int} : gLt M (.int i) (.int j) = some (.bl (decide (i < j))) := rfl
@[simp] theorem gLe_int {M : Sto} {i j : Int} : gLe M (.int i) (.int j) = some (.bl (decide (i <= j))) := rfl
@[simp] theorem gGt_int {M : Sto} {i j : Int} : gGt M (.int i) (.int j) = some (.bl (decide (j < i))) := rfl
@[simp] theorem gGe_int {M : Sto} {i j : Int} : gGe M (.int i) (.int j) = some (.bl (decide (j <= i))) := rfl
theorem xL {M:Sto} {i j:Int} (h:(-(2 ^ 64) < i∧i < 2 ^ 64)∨(-(2 ^ 64) < j∧j < 2 ^ 64)):Xr M (.int i) (.int j)=some (.int (i * j)):=by
 show orG gMulI gRep M (.int i) (.int j)=_;unfold orG
 have:gMulI M (.int i) (.int j)=some (.int (i * j)):=by
  show (if cMul i j=true then _ else _)=_;rw [if_pos];unfold cMul;simp only [Bool.or_eq_true,Bool.and_eq_true,decide_eq_true_eq];exact h
 rw [this]
theorem uf {M:Sto} {i j:Int} (h:0 < j) (h2:j < 1073741824):gDiv M (.int i) (.int j)=some (.int (i / j)):=by
 show (if (decide (0 < j) && decide (j < 1073741824))=true then _ else _)=_;rw [if_pos (by simp only [Bool.and_eq_true,decide_eq_true_eq]; exact ⟨h,h2⟩)]
theorem ud {M:Sto} {i j:Int} (h:0 < j):gMod M (.int i) (.int j)=some (.int (i % j)):=by
 show (if decide (0 < j)=true then _ else _)=_;rw [if_pos (decide_eq_true h)]
theorem gPow_int {M:Sto} {i j:Int} (h:0<=j) (h2:j<=1000000) (h3:i.natAbs < 2 ^ 64):gPow M (.int i) (.int j)=some (.int (i ^ j.toNat)):=by
 show (if (decide (0<=j) && decide (j<=1000000) && decide (i.natAbs < 2 ^ 64))=true then _ else _)=_;rw [if_pos (by simp only [Bool.and_eq_true,decide_eq_true_eq]; exact ⟨⟨h,h2⟩,h3⟩)]
structure Town (M:Sto) (ns:List Int) (c:Int):Prop where
 row:M.g 0=some (.lst (ns.map PV.int))
 tw:M.g 1=some (.lst [.ref 0,.int c])
 ne:ns≠[]
 n:2<=M.n
structure Off (M M':Sto):Prop where
 n:M.n<=M'.n
 g:∀ i,2<=i->i < M.n->M'.g i=M.g i
theorem Off.trans {A B C:Sto} (h:Off A B) (k:Off B C):Off A C:=⟨Nat.le_trans h.n k.n,fun i hi hn=>(k.g i hi (Nat.lt_of_lt_of_le hn h.n)).trans (h.g i hi hn)⟩
theorem yF {M:Sto} {i:Nat} {xs:List PV} (h:M.g i=some (.lst xs)):yV M (.ref i)=some xs:=by
 show (match M.g i with
  | some (.lst xs)=>some xs
  | _=>none)=some xs
 rw [h]
theorem xg {M:Sto} {i:Nat} {xs:List PV} (h:M.g i=some (.lst xs)):uZ M (.ref i)=some xs:=yF h
@[simp] theorem anyP_lst {M : Sto} {xs : List PV} : uZ M (.lst xs) = some xs := rfl
@[simp] theorem anyP_tup {M : Sto} {xs : List PV} : uZ M (.tup xs) = some xs := rfl
@[simp] theorem xc {M : Sto} {xs : List PV} : yV M (.lst xs) = some xs := rfl
theorem vj {M:Sto} {x:PV} {xs:List PV} {i:Int} (h:uZ M x=some xs):gIx M x (.int i)=atI xs i:=by
 show (uZ M x).bind _=_;rw [h];rfl
theorem JK {α:Type} {xs:List α} {i:Int} (h:0<=i) (h2:i < xs.length):atI xs i=xs[i.toNat]?:=by
 unfold atI ixN;rw [if_pos h,if_pos h2];rfl
theorem yJ {M:Sto} {x:PV} {xs:List PV} (h:uZ M x=some xs):yA M x=some (.int xs.length):=by
 unfold yA;rw [h]
@[simp] theorem yP {f : Sto -> PV -> Option PV} {M : Sto} {x : PV} : one f M [x] = match f M x with
  | some z=>some (z,M)
  | none=>none:=rfl
theorem Jj {α:Type} (f0:α->PV) (p:α->Bool) (f:α->PV) {bnd:PV->En->Option En} {r:En} {dt:DT} {de:DE} {M:Sto}:∀ (as:List α),(∀ a ∈ as,∃ ρ,bnd (f0 a) r=some ρ∧dt ρ M = .ok (p a) M∧(p a=true->de ρ M = .ok (f a) M)) ->
  ui bnd r dt de (as.map f0) M = .ok ((as.filter p).map f) M
 | [],_=>rfl
 | a :: as,h=>by
  have ih:=Jj f0 p f as fun b hb=>h b (List.mem_cons_of_mem _ hb);obtain ⟨ρ,e1,e2,e3⟩:=h a List.mem_cons_self;show ui bnd r dt de (f0 a :: as.map f0) M=_;unfold ui;simp only [e1,e2,noX_ok,Res.bind_ok]
  cases hp:p a with
  | false=>simp [hp,ih]
  | true=>simp [hp,ih,e3 hp]
theorem yb {α:Type} (f0:α->PV) (f:α->PV) {bnd:PV->En->Option En} {r:En} {dt:DT} {de:DE} {M:Sto} (as:List α) (h:∀ a ∈ as,∃ ρ,bnd (f0 a) r=some ρ∧dt ρ M = .ok true M∧de ρ M = .ok (f a) M) :
  ui bnd r dt de (as.map f0) M = .ok (as.map f) M:=by
 have:=Jj (bnd:=bnd) (r:=r) (dt:=dt) (de:=de) (M:=M) f0 (fun _=>true) f as fun a ha=>by
  obtain ⟨ρ,h1,h2,h3⟩:=h a ha;exact ⟨ρ,h1,h2,fun _=>h3⟩
 rw [this,List.filter_eq_self.mpr (fun _ _=>rfl)]
theorem jP {di:En->Sto->Res ItP} {bnd:PV->En->Option En} {js:List Nat} {dt:DT} {de:DE} {ρ:En} {M M1 M2:Sto} {xs ys:List PV} (h:di ρ M = .ok (.fix xs) M1) (hl:xs.length < sizeLine) (e:ui bnd (rest js ρ) dt de xs M1 = .ok ys M2):yr di bnd js dt de ρ M = .ok (.lst ys) M2:=by
 unfold yr;rw [h];show (if xD (.fix xs) M1<=sizeLine then _ else _)=_;rw [if_pos (show xD (.fix xs) M1<=sizeLine from hl)];rw [compN_fix (all:=xs) (xs:=xs) (i:=0) (n:=xD (.fix xs) M1) rfl (Nat.lt_succ_self _),e];rfl
@[simp] theorem dIt_lst {d : DE} {ρ : En} {M M1 : Sto} {xs : List PV} (h : d ρ M = .ok (.lst xs) M1) : dIt d ρ M = .ok (.fix xs) M1 := by
 unfold dIt;rw [h];rfl
theorem xx {lo:Int} {n:Nat}:(xl lo n).length=n:=by simp [xl]
theorem vh {g:DG} {db:DS} (I:Nat->En->Sto->Prop):∀ (xs:List PV) (k:Nat) (ρ:En) (M:Sto),I k ρ M->(∀ i x,xs[i]? = some x->∀ ρ M,I (k + i) ρ M->∃ ρ1 ρ' M',g x ρ=some ρ1∧db ρ1 M = .nx ρ' M'∧I (k + i + 1) ρ' M')->∃ ρ' M',Jp g db xs ρ M = .nx ρ' M'∧I (k + xs.length) ρ' M'
 | [],k,ρ,M,h,_=>⟨ρ,M,rfl,h⟩
 | x :: xs,k,ρ,M,h,hs=>by
  obtain ⟨ρ1,ρ2,M2,e1,e2,h2⟩:=hs 0 x rfl ρ M h
  obtain ⟨ρ',M',e,q⟩:=vh I xs (k + 1) ρ2 M2 h2 fun i z hz ρ M hI=>by
   have:=hs (i + 1) z (by simpa using hz) ρ M (by rw [show k + (i + 1)=k + 1 + i by omega]; exact hI)
   rw [show k + (i + 1) + 1=k + 1 + i + 1 by omega] at this;exact this
  refine ⟨ρ',M',?_,by rw [List.length_cons,show k + (xs.length + 1)=k + 1 + xs.length by omega]; exact q⟩;unfold Jp;simp only [e1,e2];exact e
theorem uY {bnd:PV->En->Option En} {r:En} {dt:DT} {de:DE} (I:Nat->List PV->Sto->Prop):∀ (xs:List PV) (k:Nat) (acc:List PV) (M:Sto),I k acc M ->
  (∀ i x,xs[i]? = some x->∀ acc M,I (k + i) acc M->∃ ρ b M1,bnd x r=some ρ∧dt ρ M = .ok b M1∧(b=false->I (k + i + 1) acc M1)∧(b=true->∃ y M2,de ρ M1 = .ok y M2∧I (k + i + 1) (acc ++ [y]) M2)) ->
  ∃ ys M',ui bnd r dt de xs M = .ok ys M'∧I (k + xs.length) (acc ++ ys) M'
 | [],k,acc,M,h,_=>⟨[],M,rfl,by rw [List.append_nil]; exact h⟩
 | x :: xs,k,acc,M,h,hs=>by
  obtain ⟨ρ,b,M1,e1,e2,hf,ht⟩:=hs 0 x rfl acc M h
  have hs':∀ i z,xs[i]? = some z->∀ acc M,I (k + 1 + i) acc M->∃ ρ b M1,bnd z r=some ρ∧dt ρ M = .ok b M1∧(b=false->I (k + 1 + i + 1) acc M1)∧(b=true->∃ y M2,de ρ M1 = .ok y M2∧I (k + 1 + i + 1) (acc ++ [y]) M2):=fun i z hz acc M hI=>by
   have:=hs (i + 1) z (by simpa using hz) acc M (by rw [show k + (i + 1)=k + 1 + i by omega]; exact hI)
   rw [show k + (i + 1) + 1=k + 1 + i + 1 by omega] at this;exact this
  unfold ui;simp only [e1,e2,noX_ok,Res.bind_ok];rw [List.length_cons,show k + (xs.length + 1)=k + 1 + xs.length by omega]
  cases b with
  | false =>
   obtain ⟨ys,M',e,q⟩:=uY I xs (k + 1) acc M1 (hf rfl) hs';exact ⟨ys,M',by simpa using e,q⟩
  | true =>
   obtain ⟨y,M2,e3,h3⟩:=ht rfl;obtain ⟨ys,M',e,q⟩:=uY I xs (k + 1) (acc ++ [y]) M2 h3 hs';refine ⟨y :: ys,M',?_,by simpa using q⟩;simp [e3,e]
theorem uI:∀ (ns:List Int),yZ (ns.map PV.int)=true
 | []=>rfl
 | n :: ns=>by
  show (plain (.int n) && yZ (ns.map PV.int))=true;rw [uI ns];rfl
theorem deep_ints:∀ (ns:List Int),YJ (ns.map PV.int)=true
 | []=>rfl
 | n :: ns=>by
  show (decide (dep (.int n)<=60) && YJ (ns.map PV.int))=true;rw [deep_ints ns];rfl
theorem any_ints (ns:List Int) (k:Int):((ns.map PV.int).any fun z=>eqB z (.int k))=decide (k ∈ ns):=by
 rw [List.any_map,Bool.eq_iff_iff,List.any_eq_true,decide_eq_true_eq];constructor
 ·rintro ⟨x,hx,e⟩;have e:(x == k)=true:=e;rw [<- beq_iff_eq.mp e];exact hx
 ·intro h;exact ⟨k,h,beq_self_eq_true k⟩
theorem xn {neg:Bool} {M:Sto} {x:PV} {k:Int} {ns:List Int} (h:uZ M x=some (ns.map PV.int)):gIn neg M (.int k) x=some (.bl (if neg then !decide (k ∈ ns) else decide (k ∈ ns))):=by
 unfold gIn;rw [h];show (if _ then some (PV.bl (if neg=true then !((ns.map PV.int).any fun z=>eqB z (.int k)) else (ns.map PV.int).any fun z=>eqB z (.int k))) else none)=_;rw [if_pos ⟨rfl,uI ns,deep_ints ns⟩,any_ints]
theorem gAdd_seq {M:Sto} {x y:PV} {xs ys:List PV} (hx:yV M x=some xs) (hy:yV M y=some ys) (h:xs.length + ys.length<=sizeLine):xG M x y=some (.lst (xs ++ ys)):=by
 have e:gCat M x y=some (.lst (xs ++ ys)):=by
  unfold gCat;rw [hx,hy];exact if_pos h
 have e1:YZ M x y=none:=by
  cases x with
  | int _=>cases hx
  | _=>rfl
 show orG YZ (orG gCat gCatT) M x y=_;unfold orG;rw [e1];show orG gCat gCatT M x y=_;unfold orG;rw [e]
def Tru (r:RS):Prop:=∃ M',fin r = .ok (.bl true) M'
section
variable {i:Nat} {d:DE} {c d1:DS} {t:DT} {ρ ρ':En} {M M1:Sto} {v:PV} {g:DG} {F:Nat} {dit:En->Sto->Res ItP} {xs:List PV}
theorem YE (h:d ρ M = .ok v M1) (k:Tru (c (ρ.set i (some v)) M1)):Tru (yi (yt i d) c ρ M):=by
 unfold yi yt;rw [h];exact k
theorem go_asg (h:d ρ M = .ok v M1) (hg:g v ρ=some ρ') (k:Tru (c ρ' M1)):Tru (yi (sAsg d g) c ρ M):=by
 unfold yi sAsg;rw [h]
 show Tru ((match g v ρ with
  | some ρ'=>RS.nx ρ' M1
  | none=>.bad).then c)
 rw [hg];exact k
theorem go_for (h:dit ρ M = .ok (.fix xs) M1) {M2:Sto} (hl:Jp g d1 xs ρ M1 = .nx ρ' M2) (k:Tru (c ρ' M2)):Tru (yi (Jk F dit g d1) c ρ M):=by
 unfold yi;rw [uG h,hl];exact k
theorem go_ret (h:d ρ M = .ok (.bl true) M1):Tru (yD d ρ M):=by
 unfold yD;rw [h];exact ⟨_,rfl⟩
theorem jW {r:RS} (h:d ρ M = .ok v M1) (k:c (ρ.set i (some v)) M1=r):yi (yt i d) c ρ M=r:=by
 unfold yi yt;rw [h];exact k
theorem uK {r:RS} (h:t ρ M = .ok false M1) (k:c ρ M1=r):yi (sIf t d1 yB) c ρ M=r:=by
 unfold yi sIf;rw [h];exact k
theorem Yb (h:t ρ M = .ok false M1):sIf t d1 yB ρ M = .nx ρ M1:=by
 unfold sIf;rw [h];rfl
theorem nx_for {r:RS} (h:dit ρ M = .ok (.fix xs) M1) {M2:Sto} (hl:Jp g d1 xs ρ M1 = .nx ρ' M2) (k:c ρ' M2=r):yi (Jk F dit g d1) c ρ M=r:=by
 unfold yi;rw [uG h,hl];exact k
theorem jT (h:d ρ M = .ok v M1):yD d ρ M = .rt v M1:=by
 unfold yD;rw [h];rfl
theorem nx_leave {d2:DS} {v:PV} {M2:Sto} (h:t ρ M = .ok true M1) (k:d1 ρ M1 = .rt v M2):yi (sIf t d1 d2) c ρ M = .rt v M2:=by
 unfold yi sIf;rw [h];show (if true=true then d1 ρ M1 else d2 ρ M1).then c=_;rw [if_pos rfl,k];rfl
theorem ya {n N:Nat} {pvs:List PV} {ρ:En} {dd:DS} (hn:pvs.length=n) (hρ:pvs.map some ++ List.replicate (N - n) none=ρ) (h:dd ρ M = .rt v M1):yz n N dd pvs M = .ok v M1:=by
 unfold yz;rw [if_pos hn,hρ,h];rfl
theorem yE {r:RS} (h:d ρ M = .ok v M1) (k:c ρ M1=r):yi (yq d) c ρ M=r:=by
 unfold yi yq;rw [h];exact k
end
theorem gSl_lst {M:Sto} {xs:List PV} {lo hi:Option Int}:gSl M (.lst xs) lo hi=some (.lst (Yp xs lo hi)):=rfl
@[simp] theorem dSl_eq {d : DE} {dl dh : En -> Sto -> Res (Option Int)} {ρ : En} {M : Sto} : dSl d dl dh ρ M = (d ρ M).bind fun x M1 => (dl ρ M1).bind fun lo M2 => (dh ρ M2).bind fun hi M3 => ofO (gSl M3 x lo hi) M3 := rfl
@[simp] theorem dON_eq {ρ : En} {M : Sto} : dON ρ M = .ok none M := rfl
@[simp] theorem dOS_eq {d : DE} {ρ : En} {M : Sto} : dOS d ρ M = (d ρ M).bind fun x M1 => match x with
 | .int i=>.ok (some i) M1
 | _=>.bad:=rfl
end L3

namespace Srt
open PySem PySem.W PyProof.Rows
def run {α:Type} (lt:Nat->Nat->Bool):KasT α->α
 | .ret a=>a
 | .ask i j k=>run lt (k (lt i j))
section
variable {r:Nat->Int}
abbrev lo (r:Nat->Int):Nat->Nat->Bool:=fun i j=>decide (r i < r j)
end
end Srt

namespace Srt
open PySem PySem.W PyProof.Rows
def AskP {α:Type} (n:Nat) (R:α->Prop):KasT α->Prop
 | .ret a=>R a
 | .ask i j k=>i < n∧j < n∧∀ b,AskP n R (k b)
section
variable {n:Nat} (h0:0 < n)
include h0
end
def lexB (x y:Int × Int):Bool:=if x.1=y.1 then decide (x.2 < y.2) else decide (x.1 < y.1)
theorem lex_iff {x y:Int × Int}:lexB x y=true↔x.1 < y.1∨(x.1=y.1∧x.2 < y.2):=by
 unfold lexB
 by_cases h:x.1=y.1
 ·rw [if_pos h,decide_eq_true_eq]; omega
 ·rw [if_neg h,decide_eq_true_eq]; omega
theorem rank_le {x y:Int × Int} (h:lexB y x=false):∀ ks:List (Int × Int),(ks.filter fun z=>lexB z x).length<=(ks.filter fun z=>lexB z y).length
 | []=>Nat.le_refl _
 | k :: ks=>by
  have ih:=rank_le h ks;rw [List.filter_cons,List.filter_cons]
  cases h1:lexB k x with
  | false =>
   rw [if_neg (by simp)];split
   ·simp; omega
   ·exact ih
  | true =>
   have h2:lexB k y=true:=by
    have a:=lex_iff.mp h1
    have b:¬ _:=fun z=>by rw [lex_iff.mpr z] at h; cases h
    exact lex_iff.mpr (by omega)
   rw [h2,if_pos rfl,if_pos rfl];simp; exact ih
end Srt

namespace Srt
open PySem PySem.W PyProof.Rows
def T2 (h:Heap) (v:Value) (k:Int × Int):Prop:=∃ a o t u n,v = .ref a∧h.get? a=some o∧o.cls = .type "tuple"∧o.data = .seq #[.int k.1 t,.int k.2 u] n
def All2 (h:Heap):List Value->List (Int × Int)->Prop
 | [],[]=>True
 | v :: vs,k :: ks=>T2 h v k∧All2 h vs ks
 | _,_=>False
section
variable {prog:Program} {w:World} {A:Around} {E:Value->Shared->Prop} {s:Shared}
end
end Srt

namespace L2
open PySem PySem.Spec PyProof.Rows
section
variable {X:Cx}
variable {e st:Expr} {te:TE} {ts:TO} {pos p2:Pos}
end
end L2

namespace L3
open PySem L2
def prP (k:Int × Int):PV:=.tup [.int k.1,.int k.2]
section
variable {X:Cx} {T:Tb} {ES:St->XK} {a st:Expr} {pos p2:Pos} {da ds:DE}
def sFrz (i:Nat) (d:DS):DS:=fun ρ M=>match ρ[i]? with
 | some (some (.ref c))=>(match M.g c with
  | some (.lst xs)=>d (ρ.set i (some (.lst xs))) (M.drop c)
  | _=>.bad)
 | _=>.bad
end
end L3

namespace L3
open PySem L2
open PyProof.Rows (envOfC)
theorem putP_rep {W:Wd} {f:Str} {x:PV} {v:V} (r:Rep W x v):∀ {fs:List (Str × PV)} {vs:List (Str × V)},uD W fs vs->uD W (uq f x fs) (vU f v vs)
 | [],_,e=>by cases e; exact ⟨v,[],rfl,r,rfl⟩
 | p :: fs,_,⟨u,t,e,a,b⟩=>by
  subst e;unfold uq vU
  by_cases h:p.1=f
  ·rw [if_pos (by rw [h]; exact beq_self_eq_true f),if_pos h];exact ⟨v,t,rfl,r,b⟩
  ·rw [if_neg (by simpa using fun z:f=p.1=>h z.symm),if_neg h];exact ⟨u,_,rfl,a,putP_rep r b⟩
def uQ (M:Sto) (k:Nat):PV->Option (Nat × List (Str × PV))
 | .ref i=>(match M.g i with
  | some (.ins c fs)=>if c=k then some (i,fs) else none
  | _=>none)
 | _=>none
theorem JD {W:Wd} {M:Sto} {H:Hp} {k i:Nat} {x:PV} {v:V} {fs:List (Str × PV)} (hh:Held W M H) (r:Rep W x v) (e:uQ M k x=some (i,fs)):∃ a dx vs,v = .ref a∧W.α i=some a∧M.g i=some (.ins k fs)∧H a=some (.ins (W.T.C k) dx vs)∧uD W fs vs:=by
 cases x with
 | ref j =>
  have e:(match M.g j with
   | some (.ins c fs)=>if c=k then some (j,fs) else none
   | _=>none)=some (i,fs):=e
  split at e
  ·rename_i c gs hg;split at e
   ·rename_i hc;cases e;subst hc;obtain ⟨a,rfl,ha⟩:=r;obtain ⟨b,o,h1,h2,h3,dx,vs,rfl,rf⟩:=hh.m _ _ hg;rw [ha] at h1;cases h1;exact ⟨a,dx,vs,rfl,ha,hg,h3,rf⟩
   ·cases e
  ·cases e
 | _=>cases e
def xa (k:Nat) (f:Str) (d:DE):DE:=fun ρ M=>(d ρ M).bind fun x M1=>match uQ M1 k x with
 | some (_,fs)=>ofO (fs.lookup f) M1
 | none=>.bad
def xP (k:Nat) (f:Str) (d do_:DE):DS:=fun ρ M=>(d ρ M).st ρ fun y M1=>(do_ ρ M1).st ρ fun x M2=>match uQ M2 k x with
 | some (i,fs)=>if fs.length < 1000 then .nx ρ (M2.set i (.ins k (uq f y fs))) else .bad
 | none=>.bad
def sFldA (k:Nat) (f:Str) (g:G2) (do_ d:DE):DS:=fun ρ M=>(do_ ρ M).st ρ fun x M1=>match uQ M1 k x with
 | some (_,fs)=>(match fs.lookup f with
  | some v=>(d ρ M1).st ρ fun y M2=>(match g M2 v y with
   | some z=>(match uQ M2 k x with
    | some (i,fs')=>if fs'.length < 1000 then .nx ρ (M2.set i (.ins k (uq f z fs'))) else .bad
    | none=>.bad)
   | none=>.bad)
  | none=>.bad)
 | none=>.bad
section
variable {X:Cx} {T:Tb} {ES:St->XK} {o e:Expr} {es:List Expr} {f m x:Str} {k j:Nat} {pos pos' apos p:Pos} {d do_:DE} {da dk:DA} {ps ks:List Str} {a b:Nat} {sl:List Sl} {dP:List PV} {D:List PV->Sto->Res PV} {kws:List Keyword}
theorem yc (hT:T.K=X.K) (c:Cls X.K (T.C k)) (n:jq X.K (T.C k) f) (he:QE X T ES o d) (hb:attributeBase o f X.env (eval o X.env)=eval o X.env:=by rfl):QE X T ES (.Attribute o f pos) (xa k f d) :=
 ⟨jS (pe_fld he.h hb) fun σ H Q hQQ=>jF hQQ fun W ρ M kT hh hs p=>⟨W,ρ,M,kT,hh,hs,yo.bind p fun W1 M1 x v H1 l1 h1 r1 p1=>by
  split at p1
  ·rename_i i fs e1;obtain ⟨ad,dx,vs,rfl,_,_,h3,rf⟩:=JD h1 r1 e1;rw [l1.k,kT] at h3
   cases e2:fs.lookup f with
   | none=>rw [e2] at p1; exact p1.elim
   | some y =>
    rw [e2] at p1;obtain ⟨u,e3,r3⟩:=rf.get e2;exact ⟨ad,T.C k,dx,vs,u,rfl,h3,c,n,e3,p1 W1 H1 u (.refl W1) h1 r3⟩
  ·exact p1.elim⟩⟩
theorem xU (hT:T.K=X.K) (c:Cls X.K (T.C k)) (n:jq X.K (T.C k) f) (ho:QE X T ES o do_) (he:QE X T ES e d) (hsw:swapsWith e (some (.Attribute o f pos')) pos.line X.env=pure false:=by rfl):QS X T ES (.Assign [.Attribute o f pos'] e pos) (xP k f d do_) :=
 ⟨xW (ps_fld ho.h he.h hsw) fun D σ H hQQ=>xq hQQ fun W ρ M kT hh hs q=>⟨W,ρ,M,kT,hh,hs,yK.bind hs q fun W1 M1 y v H1 l1 h1 r1 q1=>⟨W1,ρ,M1,l1.k.trans kT,h1,hs.up l1,yK.bind (hs.up l1) q1 fun W2 M2 x u H2 l2 h2 r2 q2=>by
  split at q2
  ·rename_i i fs e1;split at q2
   ·rename_i hz;obtain ⟨ad,dx,vs,rfl,ha,hg,h3,rf⟩:=JD h2 r2 e1;have kk:=l2.k.trans (l1.k.trans kT);have h3':=h3;rw [kk] at h3';refine ⟨ad,T.C k,dx,vs,rfl,h3',c,n,by rw [rf.length]; exact hz,?_⟩;have hu:=h2.upd (c':=.ins k (uq f y fs)) (o:=.ins (T.C k) dx (vU f v vs)) hg ha ⟨dx,_,by rw [kk],putP_rep (r1.up l2) rf⟩;exact q2 W2 σ _ (.refl W2) hu ((hs.up l1).up l2)
   ·exact q2.elim
  ·exact q2.elim⟩⟩⟩
theorem qs_flda {op:Operator} {g:G2} {tpos:Pos} (hT:T.K=X.K) (c:Cls X.K (T.C k)) (n:jq X.K (T.C k) f) (ho:QE X T ES o do_) (he:QE X T ES e d) (hop:OpP X T (inplaceOp op) g):QS X T ES (.AugAssign (.Attribute o f tpos) op e pos) (sFldA k f g do_ d) :=
 ⟨xW (ps_fldaug (rd:=rP T g) ho.h he.h hop) fun D σ H hQQ=>xq hQQ fun W ρ M kT hh hs q=>⟨W,ρ,M,kT,hh,hs,yK.bind hs q fun W1 M1 x v H1 l1 h1 r1 q1=>by
  split at q1
  ·rename_i i fs e1;obtain ⟨ad,dx,vs,rfl,ha,hg,h3,rf⟩:=JD h1 r1 e1;have k1:=l1.k.trans kT;rw [k1] at h3;split at q1
   ·rename_i w e2;obtain ⟨u,e3,r3⟩:=rf.get e2;refine ⟨ad,T.C k,dx,vs,u,rfl,h3,c,n,e3,W1,ρ,M1,k1,h1,hs.up l1,yK.bind (hs.up l1) q1 fun W2 M2 y y' H2 l2 h2 r2 q2=>?_⟩;split at q2
    ·rename_i z e4;split at q2
     ·rename_i i2 fs2 e5;split at q2
      ·rename_i hz;have k2:=l2.k.trans k1;refine ⟨W2,M2,w,y,z,k2,h2,r3.up l2,r2,e4,fun W3 H3 z' l3 h3' rz=>?_⟩;obtain ⟨ad2,dx2,vs2,ex,ha2,hg2,h32,rf2⟩:=JD h3' ((r1.up l2).up l3) e5;cases ex;have k3:=l3.k.trans k2;have h32':=h32;rw [k3] at h32';refine ⟨dx2,vs2,h32',by rw [rf2.length]; exact hz,?_⟩;have hu:=h3'.upd (c':=.ins k (uq f z fs2)) (o:=.ins (T.C k) dx2 (vU f z' vs2)) hg2 ha2 ⟨dx2,_,by rw [k3],putP_rep rz rf2⟩;exact q2 W3 σ _ l3 hu (((hs.up l1).up l2).up l3)
      ·exact q2.elim
     ·exact q2.elim
    ·exact q2.elim
   ·exact q1.elim
  ·exact q1.elim⟩⟩
structure MetD (P:Program) (w:World) (K:PySem.W.Frag) (mg:Str->Option Value) (base:Heap) (T:Tb) (k:Nat) (m:Str) (j:Nat) (ps ks:List Str) (a b:Nat) (sl:List Sl) (dP:List PV) (D:List PV->Sto->Res PV):Prop where
 ex:∃ f fd dV ds,FnOk P w K mg base (CX1 P w) j f fd ps (spD T D)∧Meth K (T.C k) m f∧Cls K (T.C k)∧KBinds K fd ps ks (yl a b sl ds) (yl a b sl dV)∧∀ W:Wd,W.T=T->yj W dP dV
def yw (k:Nat) (m:Str) (D:List PV->Sto->Res PV) (a b:Nat) (sl:List Sl) (dP:List PV) (do_:DE) (da dk:DA):DE:=fun ρ M=>(do_ ρ M).bind fun x M0=>match uQ M0 k x with
 | some (_,fs)=>if fs.lookup m=none then (da ρ M0).bind fun xs M1=>(dk ρ M1).bind fun zs M2=>D (yl a b sl dP (x :: xs) zs) M2 else .bad
 | none=>.bad
theorem yY {pl:Sem Bool} (N:MetD X.prog X.w X.K X.mg X.base T k m j ps ks a b sl dP D) (hr:Room j X.A) (hx:vD (CX1 X.prog X.w) X ES) (ho:QE X T ES o do_) (ha:QA X T ES (e :: es) da) (hkw:QK X T ES kws dk)
  (hall:(backToKw pos (keywordEach kws X.env)).all (·.1.isSome)=true:=by rfl) (hks:(backToKw pos (keywordEach kws X.env)).filterMap (·.1)=ks:=by rfl)
  (he:starEach (e :: es) X.env=(false,eval e X.env) :: starEach es X.env:=by rfl)
  (hpl:((backTo pos (starEach (e :: es) X.env)).any (·.1) || (backToKw pos (keywordEach kws X.env)).any (·.1.isNone))=false:=by rfl)
  (ht:eval (.Call (.Attribute o m apos) (e :: es) kws pos) X.env=(do
   let ov <- eval o X.env
   standAt apos.atName
   let (f,first) <- holding [ov] (getMethod ov m pl)
   callWith pos f first (backTo pos (starEach (e :: es) X.env)) (backToKw pos (keywordEach kws X.env))):=by rfl):QE X T ES (.Call (.Attribute o m apos) (e :: es) kws pos) (yw k m D a b sl dP do_ da dk):=⟨by
 obtain ⟨f,fd,dV,ds,F,hm,c,hb,hdV⟩:=N.ex;rintro pins s σ H Q I ⟨W,ρ,M,kT,hh,hs,q⟩
 refine PySem.W.methodCall_KW (pl:=pl) (thn (ho.h pins s σ H (fun v H1=>∃ W1 M1 x i fs,W1.T=T∧Held W1 M1 H1∧xu W1 ρ σ∧Rep W1 x v∧uQ M1 k x=some (i,fs)∧fs.lookup m=none∧yo W1 Rep ((da ρ M1).bind fun xs M1=>(dk ρ M1).bind fun zs M2=>D (yl a b sl dP (x :: xs) zs) M2) Q (ES σ)) I ⟨W,ρ,M,kT,hh,hs,yo.bind q
   fun W1 M1 x v H1 l1 h1 r1 q1=>by
    split at q1
    ·rename_i i fs e1;split at q1
     ·rename_i e2;exact ⟨W1,M1,x,i,fs,l1.k.trans kT,h1,hs.up l1,r1,e1,e2,q1⟩
     ·exact q1.elim
    ·exact q1.elim⟩) fun u s1 hQQ=>?_) ht
 obtain ⟨v,H1,I1,rx,W1,M1,x,i,fs,k1,h1,hs1,r1,e1,e2,q1⟩:=hQQ;obtain ⟨ad,dx,vf,rfl,ha1,hg,h3,rf⟩:=JD h1 r1 e1;obtain rfl:u=Value.ref ad:=rx;rw [k1] at h3;refine getmeth_ok I1 h3 c hm (rf.none e2) ?_
 refine PySem.W.callWith_KW (first:=[.ref ad]) (h₀:=X.base) I.ok.mod.kin hm.kp hall (thn (ha.h pos pins s1 σ H1 (fun vs H2=>∃ W2 M2 xs,W2.T=T∧Held W2 M2 H2∧xu W2 ρ σ∧Rep W2 x (.ref ad)∧yj W2 xs vs∧yo W2 Rep ((dk ρ M2).bind fun zs M3=>D (yl a b sl dP (x :: xs) zs) M3) Q (ES σ)) I1 ⟨W1,ρ,M1,k1,h1,hs1,yo.bind q1
   fun W2 M2 xs vs H2 l2 h2 r2 q2=>⟨W2,M2,xs,l2.k.trans k1,h2,hs1.up l2,r1.up l2,r2,q2⟩⟩) fun us s2 hQQ=>?_) hpl he
 obtain ⟨vs,H2,I2,r,W2,M2,xs,k2,h2,hs2,rx2,r2,q2⟩:=hQQ;refine thn (hkw.h pos pins s2 σ H2 (fun zs H3=>spD T D (yl a b sl dV (.ref ad :: vs) zs) H3 Q (ES σ)) I2 ⟨W2,ρ,M2,k2,h2,hs2,yo.bind q2 fun W3 M3 zs' zs H3 l3 h3 r3 q3=>⟨W3,_,M3,l3.k.trans k2,h3,Jh (hdV W3 (l3.k.trans k2)) (show yj W3 (x :: xs) (.ref ad :: vs) from ⟨_,_,rfl,rx2.up l3,r2.up l3⟩) r3,q3⟩⟩) fun ws s3 hQQ=>?_;obtain ⟨zs,H3,I3,rz,q3⟩:=hQQ;refine ⟨I3.kIn,?_⟩;rw [hks]
 exact run_g (us:=.ref ad :: us) (vs:=.ref ad :: vs) F hr hb hx I3 (.cons rfl r) rz q3⟩
theorem vc {pl:Sem Bool} (N:MetD X.prog X.w X.K X.mg X.base T k m j ps ks a b sl dP D) (hr:Room j X.A) (hx:vD (CX1 X.prog X.w) X ES) (ho:QE X T ES o do_) (hkw:QK X T ES kws dk)
  (hall:(backToKw pos (keywordEach kws X.env)).all (·.1.isSome)=true:=by rfl) (hks:(backToKw pos (keywordEach kws X.env)).filterMap (·.1)=ks:=by rfl)
  (hpl:((backTo pos (starEach [] X.env)).any (·.1) || (backToKw pos (keywordEach kws X.env)).any (·.1.isNone))=false:=by rfl)
  (ht:eval (.Call (.Attribute o m apos) [] kws pos) X.env=(do
   let ov <- eval o X.env
   standAt apos.atName
   let (f,first) <- holding [ov] (getMethod ov m pl)
   callWith pos f first (backTo pos (starEach [] X.env)) (backToKw pos (keywordEach kws X.env))):=by rfl):QE X T ES (.Call (.Attribute o m apos) [] kws pos) (yw k m D a b sl dP do_ yh dk):=⟨by
 obtain ⟨f,fd,dV,ds,F,hm,c,hb,hdV⟩:=N.ex;rintro pins s σ H Q I ⟨W,ρ,M,kT,hh,hs,q⟩
 refine PySem.W.methodCall_KW (pl:=pl) (thn (ho.h pins s σ H (fun v H1=>∃ W1 M1 x i fs,W1.T=T∧Held W1 M1 H1∧xu W1 ρ σ∧Rep W1 x v∧uQ M1 k x=some (i,fs)∧fs.lookup m=none∧yo W1 Rep ((dk ρ M1).bind fun zs M2=>D (yl a b sl dP [x] zs) M2) Q (ES σ)) I ⟨W,ρ,M,kT,hh,hs,yo.bind q
   fun W1 M1 x v H1 l1 h1 r1 q1=>by
    split at q1
    ·rename_i i fs e1;split at q1
     ·rename_i e2;exact ⟨W1,M1,x,i,fs,l1.k.trans kT,h1,hs.up l1,r1,e1,e2,q1⟩
     ·exact q1.elim
    ·exact q1.elim⟩) fun u s1 hQQ=>?_) ht
 obtain ⟨v,H1,I1,rx,W1,M1,x,i,fs,k1,h1,hs1,r1,e1,e2,q1⟩:=hQQ;obtain ⟨ad,dx,vf,rfl,ha1,hg,h3,rf⟩:=JD h1 r1 e1;obtain rfl:u=Value.ref ad:=rx;rw [k1] at h3;refine getmeth_ok I1 h3 c hm (rf.none e2) ?_;refine PySem.W.callWith_KW0 (first:=[.ref ad]) (h₀:=X.base) I.ok.mod.kin hm.kp hall (thn (hkw.h pos pins s1 σ H1 (fun zs H3=>spD T D (yl a b sl dV [.ref ad] zs) H3 Q (ES σ)) I1 ⟨W1,ρ,M1,k1,h1,hs1,yo.bind q1 fun W3 M3 zs' zs H3 l3 h3 r3 q3=>⟨W3,_,M3,l3.k.trans k1,h3,Jh (hdV W3 (l3.k.trans k1)) (show yj W3 [x] [.ref ad] from ⟨_,_,rfl,r1.up l3,rfl⟩) r3,q3⟩⟩) fun ws s3 hQQ=>?_) hpl;obtain ⟨zs,H3,I3,rz,q3⟩:=hQQ;refine ⟨I3.kIn,?_⟩;rw [hks]
 exact run_g (us:=[.ref ad]) (vs:=[.ref ad]) F hr hb hx I3 (.cons rfl .nil) rz q3⟩
structure NewD (P:Program) (w:World) (K:PySem.W.Frag) (mg:Str->Option Value) (base:Heap) (T:Tb) (k:Nat) (x:Str) (j:Nat) (ps ks:List Str) (a b:Nat) (sl:List Sl) (dP:List PV) (D:List PV->Sto->Res PV):Prop where
 ex:∃ f fd dV ds,FnOk P w K mg base (CX1 P w) j f fd ps (spD T D)∧Mk K (T.C k) f∧mg x=some (.ref (T.C k))∧KBinds K fd ps ks (yl a b sl ds) (yl a b sl dV)∧∀ W:Wd,W.T=T->yj W dP dV
def made (k:Nat) (D:List PV->Sto->Res PV) (vs:PV->List PV) (M:Sto):Res PV:=match D (vs (.ref M.n)) (M.new (.ins k [])) with
 | .ok .non M3=>.ok (.ref M.n) M3
 | .ok _ _=>.bad
 | .exc c M3=>.exc c M3
 | .bad=>.bad
def dNew (k:Nat) (D:List PV->Sto->Res PV) (a b:Nat) (sl:List Sl) (dP:List PV) (da dk:DA):DE:=fun ρ M=>(da ρ M).bind fun xs M1=>(dk ρ M1).bind fun zs M2=>made k D (fun x=>yl a b sl dP (x :: xs) zs) M2
theorem run_make_g {f C:Addr} {fd:FuncData} {dV:List V} {ds:List Value} {pins:List (Addr × Obj)} {σ:St} {H:Hp} {s:Shared} {Q:VK} {us ws:List Value} {vs zs:List V} {sp:Sp} (M:Mk X.K C f) (F:FnOk X.prog X.w X.K X.mg X.base (CX1 X.prog X.w) j f fd ps sp) (hr:Room (j + 1) X.A) (hb:KBinds X.K fd ps ks (yl a b sl ds) (yl a b sl dV)) (hx:vD (CX1 X.prog X.w) X ES)
  (I:Inv X pins σ H s) (r:ym vs us) (rz:ym zs ws) (h:∀ x dx,H x=none->H dx=none->dx≠x->sp (yl a b sl dV (.ref x :: vs) zs) (L2.upd (L2.upd H dx (.own x)) x (.ins C dx [])) (fun v H2=>v = .non∧Q (.ref x) H2) (ES σ)) :
  wpAny (model X.prog X.w) X.A (call (.ref C) us (ks.zip ws)) (EP X pins σ Q) X.xe s:=by
 have hq:=h (s.heap.objs.size + 1) s.heap.objs.size (I.hok.fresh (Nat.le_succ _)) (I.hok.fresh (Nat.le_refl _)) (Nat.ne_of_lt (Nat.lt_succ_self _));have I2:=Inv.made (C:=C) I;have r2:=hb.rel (vs:=V.ref (s.heap.objs.size + 1) :: vs) (us:=Value.ref (s.heap.objs.size + 1) :: us) (.cons rfl r) rz
 have hl:(yl a b sl ds (Value.ref (s.heap.objs.size + 1) :: us) ws).length=ps.length:=by
  rw [<- r2.length];exact F.len _ _ _ _ hq
 refine wpAny_call (make_map (f:=f) I.kIn M.makes M.init (beq_iff_eq.mp M.fn) (codeAny_mono (F.run _ X.stack _ _ ⟨Value.ref (s.heap.objs.size + 1) :: us,ks.zip ws⟩ _ _ _ (ES σ) (hr.make C us (ks.zip ws)) (I2.env0.make C us (ks.zip ws)) (hb.to _ (Value.ref (s.heap.objs.size + 1) :: us) ws I2.kIn hl) r2 hq) fun r s' hq'=>?_))
 match r,hq' with
 | .error e,hq'=>exact hx pins σ _ _ e s' I2 hq'
 | .ok (.ret u),hq' =>
  obtain ⟨v,H',I3,rv,ev,q3⟩:=I2.after hq';subst ev;exact ⟨rv,⟨V.ref (s.heap.objs.size + 1),H',I3,rfl,q3⟩⟩
theorem made_post {W:Wd} {M:Sto} {H:Hp} {Q:VK} {E:XK} {xs zs:List PV} {vs us:List V} {dV:List V} (kT:W.T=T) (hh:Held W M H) (hd:∀ W:Wd,W.T=T->yj W dP dV) (rx:yj W xs vs) (rz:yj W zs us) (q:yo W Rep (made k D (fun x=>yl a b sl dP (x :: xs) zs) M) Q E) :
  ∀ x dx,H x=none->H dx=none->dx≠x->spD T D (yl a b sl dV (.ref x :: vs) us) (L2.upd (L2.upd H dx (.own x)) x (.ins (T.C k) dx [])) (fun v H2=>v = .non∧Q (.ref x) H2) E:=by
 intro x dx hx hdx hne;obtain ⟨l1,h1,f1⟩:=hh.frz (l:=dx) (o:=.own x) hdx
 have e2:L2.upd H dx (.own x) x=none:=by rw [jn (fun z=>hne z.symm)]; exact hx
 obtain ⟨l2,h2,a2⟩:=h1.put (l:=x) (o:=.ins (T.C k) dx []) (c:=.ins k []) e2 ⟨dx,[],by rw [l1.k,kT],rfl⟩;have l12:=l1.trans l2;refine ⟨_,yl a b sl dP (.ref M.n :: xs) zs,M.new (.ins k []),l12.k.trans kT,h2,Jh (hd _ (l12.k.trans kT)) ⟨_,_,rfl,⟨x,rfl,a2⟩,rx.up l12⟩ (rz.up l12),?_⟩;unfold made at q
 cases e:D (yl a b sl dP (.ref M.n :: xs) zs) (M.new (.ins k [])) with
 | ok v M3 =>
  simp only [e] at q
  cases v with
  | non=>exact fun W3 H3 u l3 h3 r3=>⟨r3,q W3 H3 (.ref x) (l12.trans l3) h3 ⟨x,rfl,l3.a _ _ a2⟩⟩
  | _=>exact q.elim
 | exc c M3 =>
  simp only [e] at q;intro W3 H3 l3 h3
  have:=q W3 H3 (l12.trans l3) h3
  rw [<- l12.k] at this;exact this
 | bad =>
  simp only [e] at q;exact q.elim
theorem qe_new (N:NewD X.prog X.w X.K X.mg X.base T k x j ps ks a b sl dP D) (hr:Room (j + 1) X.A) (hg:Gl X x) (hx:vD (CX1 X.prog X.w) X ES) (ha:QA X T ES (e :: es) da) (hkw:QK X T ES kws dk)
  (hall:(backToKw pos (keywordEach kws X.env)).all (·.1.isSome)=true:=by rfl) (hks:(backToKw pos (keywordEach kws X.env)).filterMap (·.1)=ks:=by rfl)
  (hdb:(x == ("__debug__":Str))=false:=by decide) (he:starEach (e :: es) X.env=(false,eval e X.env) :: starEach es X.env:=by rfl)
  (hpl:((backTo pos (starEach (e :: es) X.env)).any (·.1) || (backToKw pos (keywordEach kws X.env)).any (·.1.isNone))=false:=by rfl):QE X T ES (.Call (.Name x p) (e :: es) kws pos) (dNew k D a b sl dP da dk):=⟨by
 obtain ⟨f,fd,dV,ds,F,mk,hm,hb,hdV⟩:=N.ex;rintro pins s σ H Q I ⟨W,ρ,M,kT,hh,hs,q⟩;refine wpAny_Call_Name_kw (Yg I hg hm ?_ hdb)
 refine PySem.W.callWith_KW (h₀:=X.base) I.ok.mod.kin mk.kp hall (thn (ha.h pos pins s σ H (fun vs H1=>∃ W1 M1 xs,W1.T=T∧Held W1 M1 H1∧xu W1 ρ σ∧yj W1 xs vs∧yo W1 Rep ((dk ρ M1).bind fun zs M2=>made k D (fun x=>yl a b sl dP (x :: xs) zs) M2) Q (ES σ)) I ⟨W,ρ,M,kT,hh,hs,yo.bind q
   fun W1 M1 xs vs H1 l1 h1 r1 q1=>⟨W1,M1,xs,l1.k.trans kT,h1,hs.up l1,r1,q1⟩⟩) fun us s1 hQQ=>?_) hpl he
 obtain ⟨vs,H1,I1,r,W1,M1,xs,k1,h1,hs1,r1,q1⟩:=hQQ;refine thn (hkw.h pos pins s1 σ H1 (fun zs H2=>∀ x dx,H2 x=none->H2 dx=none->dx≠x->spD T D (yl a b sl dV (.ref x :: vs) zs) (L2.upd (L2.upd H2 dx (.own x)) x (.ins (T.C k) dx [])) (fun v H2=>v = .non∧Q (.ref x) H2) (ES σ)) I1 ⟨W1,ρ,M1,k1,h1,hs1,yo.bind q1 fun W2 M2 zs' zs H2 l2 h2 r2 q2=>made_post (l2.k.trans k1) h2 hdV (r1.up l2) r2 q2⟩) fun ws s2 hQQ=>?_;obtain ⟨zs,H2,I2,rz,q2⟩:=hQQ;refine ⟨I2.kIn,?_⟩;rw [hks]
 exact run_make_g mk F hr hb hx I2 r rz q2⟩
theorem qe_new0 (N:NewD X.prog X.w X.K X.mg X.base T k x j ps ks a b sl dP D) (hr:Room (j + 1) X.A) (hg:Gl X x) (hx:vD (CX1 X.prog X.w) X ES) (hkw:QK X T ES kws dk)
  (hall:(backToKw pos (keywordEach kws X.env)).all (·.1.isSome)=true:=by rfl) (hks:(backToKw pos (keywordEach kws X.env)).filterMap (·.1)=ks:=by rfl)
  (hdb:(x == ("__debug__":Str))=false:=by decide)
  (hpl:((backTo pos (starEach [] X.env)).any (·.1) || (backToKw pos (keywordEach kws X.env)).any (·.1.isNone))=false:=by rfl):QE X T ES (.Call (.Name x p) [] kws pos) (dNew k D a b sl dP yh dk):=⟨by
 obtain ⟨f,fd,dV,ds,F,mk,hm,hb,hdV⟩:=N.ex;rintro pins s σ H Q I ⟨W,ρ,M,kT,hh,hs,q⟩;refine wpAny_Call_Name_kw (Yg I hg hm ?_ hdb);refine PySem.W.callWith_KW0 (h₀:=X.base) I.ok.mod.kin mk.kp hall (thn (hkw.h pos pins s σ H (fun zs H2=>∀ x dx,H2 x=none->H2 dx=none->dx≠x->spD T D (yl a b sl dV [.ref x] zs) (L2.upd (L2.upd H2 dx (.own x)) x (.ins (T.C k) dx [])) (fun v H2=>v = .non∧Q (.ref x) H2) (ES σ)) I ⟨W,ρ,M,kT,hh,hs,yo.bind (show yo W Rep ((dk ρ M).bind fun zs M2=>made k D (fun x=>yl a b sl dP [x] zs) M2) Q (ES σ) from q) fun W2 M2 zs' zs H2 l2 h2 r2 q2=>made_post (vs:=[]) (xs:=[]) (l2.k.trans kT) h2 hdV rfl r2 q2⟩) fun ws s2 hQQ=>?_) hpl;obtain ⟨zs,H2,I2,rz,q2⟩:=hQQ;refine ⟨I2.kIn,?_⟩;rw [hks]
 exact run_make_g (vs:=[]) (us:=[]) mk F hr hb hx I2 .nil rz q2⟩
end
end L3

namespace L3
open PySem L2
end L3

namespace L3
open PySem L2
open PyProof.Rows (tail_any)
def tabOk:List DictEntry->List (Int × Int)->Bool
 | [],[]=>true
 | e :: es,p :: kvs=>Value.isInt p.1 e.key && (e.hash == hashInt p.1) && Value.isInt p.2 e.val && tabOk es kvs
 | _,_=>false
structure TabI (K:PySem.W.Frag) (mg:Str->Option Value) (x:Str) (kvs:List (Int × Int)):Prop where
 ex:∃ a es ep,mg x=some (.ref a)∧K.lookup a=some ⟨.type "dict",none,.dict es ep,#[]⟩∧tabOk es.toList kvs=true
section
variable {X:Cx} {T:Tb} {ES:St->XK} {e:Expr} {x:Str} {k:Nat} {pos p:Pos} {d:DE} {kvs:List (Int × Int)}
def gIsO:G1:=fun M xs=>match xs with
 | [x,.top k]=>(match uQ M k x with
  | some _=>some (.bl true,M)
  | none=>none)
 | _=>none
theorem b_isO (hT:T.K=X.K):yy X (.builtin "isinstance") (rC T gIsO):=by
 intro pins s σ H vs us Q I rv h;obtain ⟨W,M,xs,z,M',k,hh,rx,e,q⟩:=h;unfold gIsO at e;split at e
 ·rename_i x j;split at e
  ·rename_i r e1;cases e;obtain ⟨i,fs⟩:=r;obtain ⟨v,u,rfl,r1,r2⟩:=xY rx;obtain ⟨v',u',rfl,q1,q2⟩:=vals2 rv;have r2:u = .ref (W.T.C j):=r2;subst r2;cases q2;obtain ⟨a,dx,vs,rfl,_,_,h3,_⟩:=JD hh r1 e1;cases q1;obtain ⟨h2,_,_,ho,_⟩:=I.hok _ _ h3;refine PySem.W.isi_call (K:=X.K) (t:=.ref (W.T.C j)) I.kIn (fun M=>?_) (by simp [PySem.W.isIn]) (by intro z; cases z) ⟨.bl _,H,I,rfl,q W H _ (.refl W) hh rfl⟩;obtain ⟨od,hod⟩:=I.hok _ _ h2;exact PySem.W.InstAt.type (od:=some od) ⟨ho,rfl,rfl,hod⟩
  ·cases e
 ·cases e
end
end L3

namespace L3
open PySem L2
structure NoKit (K:PySem.W.Frag) (C:Addr):Prop where
 h:∀ n ∈ xB,PySem.W.kitOne K (.type n) (.ref C)=some false
section
variable {X:Cx} {T:Tb}
end
end L3

namespace L3
open PySem L2
def vG (xs ys:List PV):List PV:=List.zipWith (fun x y=>PV.tup [x,y]) xs ys
theorem XC {xs ys:List PV} {i:Nat} {z:PV} (h:(vG xs ys)[i]? = some z):∃ x y,xs[i]? = some x∧ys[i]? = some y∧z = .tup [x,y]:=by
 unfold vG at h;rw [List.getElem?_zipWith] at h
 cases e1:xs[i]? with
 | none=>rw [e1] at h; cases h
 | some x =>
  cases e2:ys[i]? with
  | none=>rw [e1,e2] at h; cases h
  | some y =>
   rw [e1,e2] at h;cases h;exact ⟨x,y,rfl,rfl,rfl⟩
theorem Yw {xs ys:List PV} {i:Nat} (h:(vG xs ys)[i]? = none):xs.length<=i∨ys.length<=i:=by
 unfold vG at h;rw [List.getElem?_eq_none_iff,List.length_zipWith] at h;omega
def dZip (ds:DA):En->Sto->Res ItP:=fun ρ M=>(ds ρ M).bind fun xs M1=>match xs with
 | [.lst xs,.lst ys]=>.ok (.fix (vG xs ys)) M1
 | [.tup [],.tup _]=>.ok (.fix []) M1
 | _=>.bad
section
variable {X:Cx} {T:Tb} {ES:St->XK} {p pos:Pos} {ds:DA}
theorem qi_zip {l m:Expr} {elts:List Expr} {x1:Nat} {tpos:Pos} (hT:T.K=X.K) (hg:Gl X "zip") (hm:X.mg "zip" = none) (ha:QA X T ES [l,m] ds) (hs:starEach [l,m] X.env=(false,eval l X.env) :: starEach [m] X.env:=by rfl) (hs2:starEach [m] X.env=[(false,eval m X.env)]:=by rfl) :
  QI X T ES (.Tuple elts x1 tpos) (.Call (.Name "zip" p) [l,m] [] pos) (dZip ds) :=
 ⟨pi_imp (pi_zip hg hm ha.h hs hs2) fun σ H R hQQ=>jF hQQ fun W ρ M k hh hs q=>⟨W,ρ,M,k,hh,hs,yo.bind q fun W1 M1 xs vs H1 l1 h1 r1 p1=>by
  split at p1
  ·rename_i xs ys;obtain ⟨u,v,rfl,ru,rv⟩:=xY r1;obtain ⟨a,us,rfl,ha,ra⟩:=ru;obtain ⟨b,ws,rfl,hb,rb⟩:=rv;refine ⟨a,b,rfl,.inl ⟨⟨us,SqL.of (h1.f _ _ ha)⟩,⟨ws,SqL.of (h1.f _ _ hb)⟩,p1 W1 H1 _ (.refl W1) h1 fun W' M' H' le hh' i=>?_⟩⟩;have qa:H' a=some (.lst us):=hh'.f _ _ (le.f _ _ ha);have qb:H' b=some (.lst ws):=hh'.f _ _ (le.f _ _ hb);refine ⟨fun z e=>?_,fun e=>?_⟩
   ·have e:(vG xs ys)[i]? = some z:=Option.some.inj e;obtain ⟨x,y,ex,ey,rfl⟩:=XC e;obtain ⟨u,eu,ru⟩:=ra.get ex;obtain ⟨v,ev,rv⟩:=rb.get ey;refine ⟨⟨us,ws,u,v,SqL.of qa,SqL.of qb,eu,ev⟩,fun t H'' hQQ=>?_⟩;obtain ⟨c,u',v',et,hc,hu,hv,eH⟩:=hQQ;subst et;subst eH;have hu:=hu us (SqL.of qa);have hv:=hv ws (SqL.of qb);rw [eu] at hu;rw [ev] at hv;cases hu;cases hv;exact uu (xs:=[x,y]) hh' (show yj W' _ [u,v] from ⟨_,_,rfl,ru.up0 le,_,_,rfl,rv.up0 le,rfl⟩) hc
   ·have e:(vG xs ys)[i]? = none:=Option.some.inj e;exact ⟨us,ws,SqL.of qa,SqL.of qb,by rw [ra.length,rb.length]; exact Yw e⟩
  ·rename_i ys;obtain ⟨u,v,rfl,ru,rv⟩:=xY r1;obtain ⟨a,us,rfl,ha,ra⟩:=ru;obtain ⟨b,ws,rfl,hb,rb⟩:=rv;cases ra
   have kk:W1.T.K=X.K:=by rw [l1.k,k]; exact hT
   refine ⟨a,b,rfl,.inr ⟨kk ▸ seqT h1.f ha,⟨ws,kk ▸ seqT h1.f hb⟩,p1 W1 H1 _ (.refl W1) h1 fun W' M' H' le hh' i=>?_⟩⟩;refine ⟨fun z e=>?_,fun e=>?_⟩
   ·have e:([]:List PV)[i]? = some z:=Option.some.inj e;simp at e
   ·have:SqT X.K H' a []:=kk ▸ seqT (fun b o q=>hh'.f b o (le.f b o q)) ha
    exact this
  ·exact p1.elim⟩⟩
end
structure ClsD (P:Program) (w:World) (K:PySem.W.Frag) (mg:Str->Option Value) (base:Heap) (T:Tb) (k:Nat) (x m:Str) (j:Nat) (ps ks:List Str) (a b:Nat) (sl:List Sl) (dP:List PV) (D:List PV->Sto->Res PV):Prop where
 ex:∃ f fd dV ds,FnOk P w K mg base (CX1 P w) j f fd ps (spD T D)∧mg x=some (.ref (T.C k))∧PySem.W.readsIn K (T.C k) (.type "type")=true∧PySem.W.findCls K (.ref (T.C k)) (.type "type") m=some (.val (.ref f)) ∧
  PySem.W.specialIn K (.ref (T.C k)) "__getattribute__" = some (some (.builtin "type.__getattribute__"))∧PySem.W.keepIn K (.ref f)=true∧KBinds K fd ps ks (yl a b sl ds) (yl a b sl dV)∧∀ W:Wd,W.T=T->yj W dP dV
section
variable {X:Cx} {T:Tb} {ES:St->XK} {x m:Str} {k j:Nat} {ps ks:List Str} {a b:Nat} {sl:List Sl} {dP:List PV} {D:List PV->Sto->Res PV} {p apos pos:Pos} {e:Expr} {es:List Expr} {kws:List Keyword} {da dk:DA}
end
def tabS (w:World):List DictEntry->List (Str × Int)->Prop
 | [],[]=>True
 | e :: es,p :: kvs=>Value.isStrOf p.1 e.key=true∧e.hash=hashStr w p.1∧Value.isInt p.2 e.val=true∧tabS w es kvs
 | _,_=>False
structure TabS (w:World) (K:PySem.W.Frag) (mg:Str->Option Value) (x:Str) (kvs:List (Str × Int)):Prop where
 ex:∃ a es ep,mg x=some (.ref a)∧K.lookup a=some ⟨.type "dict",none,.dict es ep,#[]⟩∧(a == sysModules)=false∧tabS w es.toList kvs
section
variable {X:Cx} {T:Tb} {ES:St->XK} {e:Expr} {x:Str} {p apos cpos:Pos} {d:DE} {kvs:List (Str × Int)} {te:TE}
end
end L3

namespace L3
open PySem L2
def ux (l:List (List Int × Int)) (k:List Int):Option Int:=(l.find? fun p=>decide (p.1=k)).map (·.2)
def putL (l:List (List Int × Int)) (k:List Int) (v:Int):List (List Int × Int) :=
 if (l.any fun p=>decide (p.1=k))=true then l.map (fun p=>if p.1=k then (p.1,v) else p) else l ++ [(k,v)]
theorem Yi {a b:List Int}:(a.map (Sum.inl:Int->Key)=b.map Sum.inl)↔a=b:=by
 constructor
 ·intro h
  induction a generalizing b with
  | nil=>cases b with
   | nil=>rfl
   | cons _ _=>cases h
  | cons x a ih=>cases b with
   | nil=>cases h
   | cons y b =>
    rw [List.map_cons,List.map_cons] at h
    injection h with h1 h2
    rw [Sum.inl.inj h1,ih h2]
 ·rintro rfl; rfl
theorem dctV_len (l:List (List Int × Int)):(vk l).length=l.length:=List.length_map ..
theorem dctV_get (l:List (List Int × Int)) (k:List Int):Xn (vk l) (k.map Sum.inl)=(ux l k).map V.int:=by
 induction l with
 | nil=>rfl
 | cons p r ih =>
  unfold ux;rw [List.find?_cons]
  by_cases h:p.1=k
  ·rw [decide_eq_true h];exact JN (p:=(p.1.map Sum.inl,V.int p.2)) (Yi.mpr h)
  ·rw [decide_eq_false h];exact (JO (p:=(p.1.map Sum.inl,V.int p.2)) (fun z=>h (Yi.mp z))).trans ih
theorem dctV_put (l:List (List Int × Int)) (k:List Int) (v:Int):vk (putL l k v)=JW (vk l) (k.map Sum.inl) (V.int v):=by
 have ha:((vk l).any fun kv=>decide (kv.1=k.map Sum.inl))=l.any fun p=>decide (p.1=k):=by
  unfold vk;rw [List.any_map];congr 1;funext p;exact decide_eq_decide.mpr Yi
 unfold putL JW;rw [ha];split
 ·unfold vk;rw [List.map_map,List.map_map];apply List.map_congr_left;intro p _
  show (((if p.1=k then (p.1,v) else p).1.map Sum.inl,V.int (if p.1=k then (p.1,v) else p).2):List Key × V)=if p.1.map Sum.inl=k.map Sum.inl then (p.1.map Sum.inl,V.int v) else (p.1.map Sum.inl,V.int p.2)
  by_cases h:p.1=k
  ·rw [if_pos h,if_pos (Yi.mpr h)]
  ·rw [if_neg h,if_neg (fun z=>h (Yi.mp z))]
 ·unfold vk;rw [List.map_append];rfl
theorem kV_ints (ns:List Int):(ns.map (Sum.inl:Int->Key)).map kV=ns.map V.int:=by
 rw [List.map_map];rfl
theorem Held.freezeD {W:Wd} {M:Sto} {H:Hp} {i:Nat} {a:Addr} {l:List (List Int × Int)} (h:Held W M H) (e:M.g i=some (.dct l)) (ea:W.α i=some a) :
  H a=some (.dT (vk l))∧∀ o,W.le (W.frz a (.frz o (.dT (vk l))))∧Held (W.frz a (.frz o (.dT (vk l)))) (M.drop i) (L2.upd H a (.frz o (.dT (vk l)))):=by
 obtain ⟨b,u,g1,g2,g3,g4⟩:=h.m i _ e;rw [ea] at g1;cases g1;have g4:u = .dT (vk l):=g4;subst g4;refine ⟨g3,fun o=>?_⟩;have le:=Wd.le_frz (o:=.frz o (.dT (vk l))) g2;have hd:=h.drop i;refine ⟨le,⟨fun b u q=>?_,fun j c q=>?_,fun j k b c1 c2 q1 q2 e1 e2=>hd.inj j k b c1 c2 q1 q2 e1 e2,h.top,fun b u q=>?_,h.gl⟩⟩
 ·have q:L2.upd W.F a (.frz o (.dT (vk l))) b=some u:=q
  by_cases z:b=a
  ·subst z;rw [jv] at q ⊢;exact q
  ·rw [jn z] at q ⊢;exact h.f b u q
 ·have q:(if j=i then none else M.g j)=some c:=q
  by_cases z:j=i
  ·rw [if_pos z] at q; cases q
  ·rw [if_neg z] at q;obtain ⟨b,u',h1,h2,h3,h4⟩:=h.m j c q;have nb:b≠a:=fun zz=>z (h.inj j i a c _ q e (zz ▸ h1) ea);refine ⟨b,u',h1,?_,by rw [jn nb]; exact h3,h4.up le⟩;show L2.upd W.F a _ b=none;rw [jn nb];exact h2
 ·obtain ⟨h1,h2,h3⟩:=hd.gd b u q;have nb:b≠a:=fun z:b=a=>(h.gd b u q).2.2 i _ e (z ▸ ea);refine ⟨by rw [jn nb]; exact h1,?_,h3⟩;show L2.upd W.F a _ b=none;rw [jn nb];exact h2
def putT (M:Sto) (o:PV) (ks:List PV) (x:PV):Option Sto:=match o,x with
 | .ref i,.int v=>(match M.g i with
  | some (.dct l)=>(match vt ks with
   | some ns=>if ns.length<=sizeLine∧l.length < sizeLine then some (M.set i (.dct (putL l ns v))) else none
   | none=>none)
  | _=>none)
 | _,_=>none
def dDctN:DE:=fun _ M=>.ok (.ref M.n) (M.new (.dct []))
def dFrzD (d:DE):DE:=fun ρ M=>(d ρ M).bind fun x M1=>match x with
 | .ref i=>(match M1.g i with
  | some (.dct l)=>.ok (.dct l) (M1.drop i)
  | _=>.bad)
 | _=>.bad
def sPutT (d do_:DE) (dk:DA):DS:=fun ρ M=>(d ρ M).st ρ fun x M1=>(do_ ρ M1).st ρ fun o M2=>(dk ρ M2).st ρ fun ks M3=>match putT M3 o ks x with
 | some M4=>.nx ρ M4
 | none=>.bad
def getV (l:List (List Int × Int)) (ns:List Int) (z:PV):PV:=match ux l ns with
 | some v=>.int v
 | none=>z
def vM (do_:DE) (dk:DA) (dz:DE):DE:=fun ρ M=>(do_ ρ M).bind fun o M1=>match o with
 | .dct l=>(dk ρ M1).bind fun ks M2=>(match vt ks with
  | some ns=>if ns.length<=sizeLine then (dz ρ M2).bind fun z M3=>.ok (getV l ns z) M3 else .bad
  | none=>.bad)
 | _=>.bad
def vK (l:List (List Int × Int)):List PV:=l.map fun p=>.tup [.tup (p.1.map PV.int),.int p.2]
def dItems (d:DE):En->Sto->Res ItP:=fun ρ M=>(d ρ M).bind fun x M1=>match x with
 | .dct l=>.ok (.fix (vK l)) M1
 | _=>.bad
section
variable {X:Cx} {T:Tb} {ES:St->XK} {e o:Expr} {es:List Expr} {pos p2 kp:Pos} {x1:Nat} {d do_ dz:DE} {dk:DA}
theorem hu1 {A:Around} {k:Nat} (hr:Room k A):A.units + 1 < cLine:=by have:=vO hr; omega
theorem qe_dctN:QE X T ES (.Dict [] [] pos) dDctN:=⟨jS pe_dnewT fun σ H Q hQQ=>jF hQQ fun W ρ M k hh hs q=>fun p hp=>by
 obtain ⟨le,h1,h2⟩:=hh.put (l:=p) (o:=.dT []) (c:=.dct []) hp rfl
 exact q _ _ _ le h1 ⟨p,rfl,h2⟩⟩
theorem qe_dfrz (h:QE X T ES e d):QE X T ES e (dFrzD d):=⟨jS (pe_dfrz h.h) fun σ H Q hQQ=>jF hQQ fun W ρ M k hh hs p=>⟨W,ρ,M,k,hh,hs,yo.bind p fun W1 M1 x v H1 l1 h1 r1 p1=>by
 split at p1
 ·rename_i i;split at p1
  ·rename_i l e;obtain ⟨a,rfl,ea⟩:=r1;obtain ⟨ha,hf⟩:=h1.freezeD e ea;exact ⟨a,_,rfl,ha,fun o=>p1 _ _ _ (hf o).1 (hf o).2 ⟨a,o,rfl,jv⟩⟩
  ·exact p1.elim
 ·exact p1.elim⟩⟩
theorem qs_putT (hu:X.A.units + 1 < cLine) (he:QE X T ES e d) (ho:QE X T ES o do_) (hk:QA X T ES es dk) (hw:swapsWith e (some (.Subscript o (.Tuple es x1 kp) p2)) pos.line X.env=pure false:=by rfl) :
  QS X T ES (.Assign [.Subscript o (.Tuple es x1 kp) p2] e pos) (sPutT d do_ dk) :=
 ⟨xW (ps_dput hu ho.h (pe_tup hk.h) he.h hw) fun D σ H hQQ=>xq hQQ fun W ρ M k hh hs q=>⟨W,ρ,M,k,hh,hs,yK.bind hs q fun W1 M1 x v H1 l1 h1 r1 q1=>by
  have hs1:=hs.up l1;refine ⟨W1,ρ,M1,l1.k.trans k,h1,hs1,yK.bind hs1 q1 fun W2 M2 o' ov H2 l2 h2 r2 q2=>?_⟩;have hs2:=hs1.up l2;refine ⟨W2,ρ,M2,l2.k.trans (l1.k.trans k),h2,hs2,yK.bind hs2 q2 fun W3 M3 ks kv H3 l3 h3 r3 q3=>?_⟩;split at q3
  ·rename_i M4 e4;unfold putT at e4;split at e4
   ·rename_i i z;split at e4
    ·rename_i l e5;split at e4
     ·rename_i ns e6;split at e4
      ·rename_i hc;cases e4;have ek:=uP e6;subst ek;have ev:kv=ns.map V.int:=yj.ints.mp r3;subst ev;obtain ⟨a,rfl,ea⟩:=r2.up l3;obtain ⟨b,ob,g1,g2,g3,g4⟩:=h3.m i _ e5;rw [ea] at g1;cases g1;have g4:ob = .dT (vk l):=g4;subst g4;have rv:v = .int z:=(r1.up l2).up l3;subst rv;refine ⟨by rw [List.length_map]; exact hc.1,fun p hp=>?_⟩;obtain ⟨l4,h4,f4⟩:=h3.frz (o:=.tup (ns.map V.int)) hp;have na:a≠p:=jy g3 hp;refine ⟨a,_,rfl,DPut.t (k:=ns.map Sum.inl) (kvs:=vk l) (by rw [jn na]; exact g3) (by rw [jv,kV_ints]) (by rw [dctV_len]; exact hc.2),?_⟩;exact q3 _ σ _ l4 (h4.upd e5 (l4.a _ _ ea) (c':=.dct (putL l ns z)) (o:=.dT (JW (vk l) (ns.map Sum.inl) (V.int z))) (congrArg HO.dT (dctV_put l ns z).symm)) ((hs2.up l3).up l4)
      ·cases e4
     ·cases e4
    ·cases e4
   ·cases e4
  ·exact q3.elim⟩⟩
theorem getV_rep {W:Wd} {l:List (List Int × Int)} {ns:List Int} {z:PV} {v:V} (r:Rep W z v):Rep W (getV l ns z) ((Xn (vk l) (ns.map Sum.inl)).getD v):=by
 rw [dctV_get];unfold getV
 cases ux l ns with
 | none=>exact r
 | some i=>rfl
theorem JV {f:Expr} {apos cpos:Pos} (hu:X.A.units + 1 < cLine) (ho:QE X T ES o do_) (hk:QA X T ES es dk) (hz:QE X T ES f dz) (m:M2 X o "get" apos (.Tuple es x1 kp) f cpos):QE X T ES (.Call (.Attribute o "get" apos) [.Tuple es x1 kp,f] [] cpos) (vM do_ dk dz) :=
 ⟨jS (pe_dget2 hu ho.h (pe_tup hk.h) hz.h m) fun σ H Q hQQ=>jF hQQ fun W ρ M k hh hs q=>⟨W,ρ,M,k,hh,hs,yo.bind q fun W1 M1 x v H1 l1 h1 r1 q1=>by
  split at q1
  ·rename_i l;obtain ⟨a,ob,rfl,hF⟩:=r1;have hs1:=hs.up l1;refine ⟨a,rfl,.inr ⟨_,.inr ⟨ob,h1.f _ _ hF⟩⟩,W1,ρ,M1,l1.k.trans k,h1,hs1,yo.bind q1 fun W2 M2 ks kv H2 l2 h2 r2 q2=>?_⟩;have hs2:=hs1.up l2;split at q2
   ·rename_i ns e6;split at q2
    ·rename_i hc;have ek:=uP e6;subst ek;have ev:kv=ns.map V.int:=yj.ints.mp r2;subst ev;refine ⟨by rw [List.length_map]; exact hc,fun p hp=>?_⟩;obtain ⟨l3,h3,f3⟩:=h2.frz (o:=.tup (ns.map V.int)) hp;refine ⟨_,ρ,M2,l3.k.trans (l2.k.trans (l1.k.trans k)),h3,hs2.up l3,yo.bind (yo.up q2 l3) fun W4 M4 z zv H4 l4 h4 r4 q4=>?_⟩;exact ⟨_,.inr ⟨vk l,ns.map Sum.inl,p,.inr ⟨ob,h4.f _ _ (l4.f _ _ (l3.f _ _ (l2.f _ _ hF)))⟩,rfl,by rw [kV_ints]; exact h4.f _ _ (l4.f _ _ f3),rfl⟩,q4 W4 H4 _ (.refl W4) h4 (getV_rep r4)⟩
    ·exact q2.elim
   ·exact q2.elim
  ·exact q1.elim⟩⟩
theorem qi_items {elts:List Expr} {y1:Nat} {tpos apos cpos:Pos} (h:QE X T ES e d) (hbase:attributeBase e "items" X.env (eval e X.env)=eval e X.env:=by rfl) (hline:(apos.endLine == cpos.line)=true:=by rfl) :
  QI X T ES (.Tuple elts y1 tpos) (.Call (.Attribute e "items" apos) [] [] cpos) (dItems d) :=
 ⟨pi_imp (pi_items h.h hbase hline) fun σ H R hQQ=>jF hQQ fun W ρ M k hh hs q=>⟨W,ρ,M,k,hh,hs,yo.bind q fun W1 M1 x v H1 l1 h1 r1 p1=>by
  split at p1
  ·rename_i l;obtain ⟨a,o,rfl,ha⟩:=r1;refine ⟨a,o,vk l,rfl,h1.f _ _ ha,p1 W1 H1 _ (.refl W1) h1 fun W' M' H' le hh' i=>?_⟩;have hq:H' a=some (.frz o (.dT (vk l))):=hh'.f _ _ (le.f _ _ ha);refine ⟨fun z e=>?_,fun e=>?_⟩
   ·have e:(vK l)[i]? = some z:=Option.some.inj e;unfold vK at e;rw [List.getElem?_map] at e
    cases e1:l[i]? with
    | none=>rw [e1] at e; cases e
    | some p =>
     rw [e1] at e;cases e;refine ⟨⟨hq,by rw [dctV_len]; exact (List.getElem?_eq_some_iff.mp e1).1⟩,fun v H'' hQQ=>?_⟩;obtain ⟨c,b,kv,rfl,hc,hkv,hb,rfl⟩:=hQQ
     have ekv:kv=(p.1.map Sum.inl,V.int p.2):=by
      unfold vk at hkv;rw [List.getElem?_map,e1] at hkv;cases hkv;rfl
     subst ekv;obtain ⟨W2,l2,h2,f2⟩:=hh'.adopt hb
     have hb2:Rep W2 (.tup (p.1.map PV.int)) (.ref b):=⟨b,_,rfl,SqT.of f2,by rw [kV_ints]; exact yj.ints.mpr rfl⟩
     obtain ⟨W3,l3,h3,r3⟩:=uu (xs:=[.tup (p.1.map PV.int),.int p.2]) h2 (show yj W2 _ [.ref b,.int p.2] from ⟨_,_,rfl,hb2,_,_,rfl,rfl,rfl⟩) hc;exact ⟨W3,l2.trans l3,h3,r3⟩
   ·have e:(vK l)[i]? = none:=Option.some.inj e;unfold vK at e;rw [List.getElem?_map] at e
    cases e1:l[i]? with
    | none=>exact ⟨hq,by rw [dctV_len]; exact List.getElem?_eq_none_iff.mp e1⟩
    | some p=>rw [e1] at e; cases e
  ·exact p1.elim⟩⟩
end
end L3

namespace L2
open PySem PySem.Spec PyProof.Rows
section
variable {X:Cx} {tg:Expr} {pins:List (Addr × Obj)} {σ:St} {H:Hp} {s:Shared}
def Xp (lo:Int) (n:Nat):List V:=(List.range n).map fun i:Nat=>V.int (lo + i)
theorem vals_rng {lo:Int}:∀ {n:Nat} {acc:List Value},acc.length=n->(∀ (j:Nat) (v:Value),acc[j]? = some v->∃ t,v=Value.int (lo + (j:Int) * 1) t)->ym (Xp lo n) acc:=by
 intro n
 induction n with
 | zero =>
  intro acc hl _
  cases acc with
  | nil=>exact .nil
  | cons a l=>cases hl
 | succ n ih =>
  intro acc hl h
  have hne:acc≠[]:=fun z=>by rw [z] at hl; cases hl
  have e:acc=acc.dropLast ++ [acc.getLast hne]:=(List.dropLast_concat_getLast hne).symm
  have hl2:acc.dropLast.length=n:=by rw [List.length_dropLast]; omega
  have e2:Xp lo (n + 1)=Xp lo n ++ [V.int (lo + n)]:=by
   unfold Xp;rw [List.range_succ,List.map_append];rfl
  rw [e,e2];refine ym.append (ih hl2 fun j v hj=>h j v ?_) (.cons ?_ .nil)
  ·rw [e,List.getElem?_append_left (List.getElem?_eq_some_iff.mp hj).1];exact hj
  ·obtain ⟨t,et⟩:=h n (acc.getLast hne) (by rw [List.getLast_eq_getElem]; rw [List.getElem?_eq_getElem (by omega)]; simp only [hl]; rfl);exact ⟨t,by rw [et]; simp⟩
theorem lrng_fin {r:Addr} {lo hi:Int} {t u v:Tok} {Q:VK} (I:Inv X pins σ H s) (hc:X.calm=true) (hr:IsRange s.heap r lo hi 1 t u v) (b:-(2 ^ 62)<=lo∧lo < 2 ^ 62∧-(2 ^ 62)<=hi∧hi < 2 ^ 62) (hn:(hi - lo).toNat<=1000)
  (q:∀ l,H l=none->Q (.ref l) (upd H l (.lst (Xp lo (hi - lo).toNat)))):wpAny (model X.prog X.w) X.A (call (.type "list") [.ref r]) (EP X pins σ Q) X.xe s:=by
 refine call_list_range (n:=(hi - lo).toNat) (I.ok.hd hc) hr (small_one b.1 b.2.1 b.2.2.1 b.2.2.2) (by rw [rangeSize_one]; split <;> omega) (Nat.le_trans hn (by decide)) fun h' tk acc c kp e it=>?_;have hv:ym (Xp lo (hi - lo).toNat) acc.toList:=vals_rng (by rw [Array.length_toList]; exact it.1) fun j v hj=>it.2 j v (by rw [<- Array.getElem?_toList]; exact hj);refine ⟨.ref s.heap.objs.size,_,I.laid (t':=tk) kp (Nat.le_refl _) (show yO X.prog X.w _ h' _ (.lst (Xp lo (hi - lo).toNat)) from ⟨?_,acc.toList,c,hv,?_⟩),rfl,q _ (I.hok.fresh (Nat.le_refl _))⟩
 ·unfold Xp;rw [List.length_map,List.length_range];exact Nat.le_trans hn (by decide)
 ·rw [Array.toArray_toList];exact e
def tLR (ta:TA):TE:=fun σ H Q=>ta σ H fun vs H1=>∃ lo hi:Int,(vs=[.int lo,.int hi]∨(lo=0∧vs=[.int hi]))∧(-(2 ^ 62)<=lo∧lo < 2 ^ 62∧-(2 ^ 62)<=hi∧hi < 2 ^ 62)∧(hi - lo).toNat<=1000∧∀ l,H1 l=none->Q (.ref l) (upd H1 l (.lst (Xp lo (hi - lo).toNat)))
theorem pe_lrng {a:Expr} {es:List Expr} {ta:TA} {p pos p1 pos1:Pos} (hc:X.calm=true) (hg1:Gl X "list") (hm1:X.mg "list" = none) (hb1:bootBuiltins "list" = some (.type "list")) (hg:Gl X "range") (hm:X.mg "range" = none) (ha:PA X (a :: es) ta)
  (hs:starEach (a :: es) X.env=(false,eval a X.env) :: starEach es X.env:=by rfl) (hpl:(backTo pos (starEach es X.env)).any (·.1)=false:=by rfl)
  (hs3:starEach [Expr.Call (.Name "range" p) (a :: es) [] pos] X.env=[(false,eval (.Call (.Name "range" p) (a :: es) [] pos) X.env)]:=by rfl) :
  PE X (.Call (.Name "list" p1) [.Call (.Name "range" p) (a :: es) [] pos] [] pos1) (tLR ta):=by
 intro pins s σ H Q I h;refine wpAny_Call_Name_kw (JC I hg1 hm1 hb1 ?_ (by decide) (by decide));refine PyProof.Rows.callWith_type1 ?_ hs3 rfl;rw [hs3];refine Calls.spliced_cons ?_;refine Call_ (JC I hg hm boot_range (PyProof.Rows.callWith_type1 (thn (ha pos pins s σ H _ I h) fun us s1 hS=>?_) hs hpl));obtain ⟨vs,H1,I1,r1,lo,hi,e,b,hn,q⟩:=hS
 rcases e with rfl | ⟨rfl,rfl⟩
 ·cases r1 with
  | cons r rr =>
   cases rr with
   | cons r' rr =>
    cases rr;obtain ⟨t,rfl⟩:=r;obtain ⟨t',rfl⟩:=r';refine call_range_2 (Calls.spliced_nil ?_);exact lrng_fin (I1.kept (t':=s1.toks + 1) fun b o e=>Heap.get?_push_of_some _ e) hc (IsRange.new ..) b hn q
 ·cases r1 with
  | cons r rr =>
   cases rr;obtain ⟨t,rfl⟩:=r;refine call_range_1 (Calls.spliced_nil ?_);exact lrng_fin (I1.kept (t':=_) fun b o e=>Heap.get?_push_of_some _ e) hc (IsRange.new ..) b hn q
end
end L2

namespace L3
open PySem L2
section
variable {X:Cx} {T:Tb} {ES:St->XK} {a b e tg iter:Expr} {es:List Expr} {p pos:Pos} {d:DE} {ds:DA}
theorem reps_rng {W:Wd} {lo:Int} {n:Nat}:yj W (xl lo n) (Xp lo n):=by
 have e:xl lo n=((List.range n).map fun i:Nat=>lo + (i:Int)).map PV.int:=by unfold xl; rw [List.map_map]; rfl
 have e2:Xp lo n=((List.range n).map fun i:Nat=>lo + (i:Int)).map V.int:=by unfold Xp; rw [List.map_map]; rfl
 rw [e,e2];exact yj.ints.mpr rfl
end
end L3

namespace L3
open PySem L2
section
variable {X:Cx} {T:Tb} {ES:St->XK} {osc sc:Scope} {own fr:List Str} {js:List Nat} {elt target iter a b:Expr} {ifs:List Expr} {pos:Pos} {di:En->Sto->Res ItP} {g:TG} {bnd:PV->En->Option En} {dt:DT} {de da db:DE}
end
end L3

namespace L3
open PySem L2
section
variable {X:Cx} {T:Tb} {ES:St->XK} {a:Expr} {es:List Expr} {p pos:Pos} {ds:DA}
def dLRN (ds:DA):DE:=fun ρ M=>(ds ρ M).bind fun xs M1=>match xs with
 | [.int i,.int j]=>if xv i=true∧xv j=true∧(j - i).toNat<=1000 then .ok (.ref M1.n) (M1.new (.lst (xl i (j - i).toNat))) else .bad
 | [.int j]=>if xv j=true∧j.toNat<=1000 then .ok (.ref M1.n) (M1.new (.lst (xl 0 j.toNat))) else .bad
 | _=>.bad
theorem qe_lrngN {p1 pos1:Pos} (hc:X.calm=true) (hg1:Gl X "list") (hm1:X.mg "list" = none) (hb1:bootBuiltins "list" = some (.type "list")) (hg:Gl X "range") (hm:X.mg "range" = none) (ha:QA X T ES (a :: es) ds)
  (hs:starEach (a :: es) X.env=(false,eval a X.env) :: starEach es X.env:=by rfl) (hpl:(backTo pos (starEach es X.env)).any (·.1)=false:=by rfl)
  (hs3:starEach [Expr.Call (.Name "range" p) (a :: es) [] pos] X.env=[(false,eval (.Call (.Name "range" p) (a :: es) [] pos) X.env)]:=by rfl) :
  QE X T ES (.Call (.Name "list" p1) [.Call (.Name "range" p) (a :: es) [] pos] [] pos1) (dLRN ds) :=
 ⟨jS (pe_lrng hc hg1 hm1 hb1 hg hm ha.h hs hpl hs3) fun σ H Q hS=>jF hS fun W ρ M k hh hs q=>⟨W,ρ,M,k,hh,hs,yo.bind q fun W1 M1 xs vs H1 l1 h1 r1 p1=>by
  split at p1
  ·rename_i i j;split at p1
   ·rename_i hj;obtain ⟨v,u,rfl,r,r'⟩:=xY r1;cases (show v = .int i from r);cases (show u = .int j from r');refine ⟨i,j,.inl rfl,⟨Int.le_of_lt (yp.mp hj.1).1,(yp.mp hj.1).2,Int.le_of_lt (yp.mp hj.2.1).1,(yp.mp hj.2.1).2⟩,hj.2.2,fun l hl=>?_⟩;obtain ⟨W2,l2,h2,r2⟩:=vZ h1 reps_rng hl;exact p1 W2 _ _ l2 h2 r2
   ·exact p1.elim
  ·rename_i j;split at p1
   ·rename_i hj;obtain ⟨v,rfl,r⟩:=ve r1;cases (show v = .int j from r);refine ⟨0,j,.inr ⟨rfl,rfl⟩,⟨by decide,by decide,Int.le_of_lt (yp.mp hj.1).1,(yp.mp hj.1).2⟩,by rw [Int.sub_zero]; exact hj.2,fun l hl=>?_⟩;rw [Int.sub_zero];obtain ⟨W2,l2,h2,r2⟩:=vZ h1 reps_rng hl;exact p1 W2 _ _ l2 h2 r2
   ·exact p1.elim
  ·exact p1.elim⟩⟩
def JE:G1:=fun M xs=>match xs with
 | [x]=>(match iseq M x with
  | some ns=>if ns.length < 64 then some (.ref M.n,M.new (.lst ((yG ns).map PV.int))) else none
  | none=>none)
 | _=>none
theorem b_sortedN:yy X (.builtin "sorted") (rC T JE):=vF Xf fun vs H Q hQQ=>by
 obtain ⟨W,M,xs,z,M',k,hh,rx,e,q⟩:=hQQ;unfold JE at e;split at e
 ·rename_i x;split at e
  ·rename_i ns e1;split at e
   ·rename_i h64;cases e;obtain ⟨v,rfl,r⟩:=ve rx;obtain ⟨a,rfl,ha⟩:=XA hh r e1;refine ⟨a,ns,rfl,SqL.of ha,h64,fun l ms hl hp hs=>?_⟩;rw [XF hp hs];obtain ⟨W2,l2,h2,r2⟩:=vZ (xs:=(yG ns).map PV.int) hh (yj.ints.mpr rfl) hl;exact q W2 _ _ l2 h2 r2
   ·cases e
  ·cases e
 ·cases e
def dZipS (ds:DA):En->Sto->Res ItP:=fun ρ M=>(ds ρ M).bind fun xs M1=>match xs with
 | [.ref j,.lst ys]=>(match M1.g j with
  | some (.lst _)=>.ok (.gen fun M=>(yV M (.ref j)).map fun xs=>vG xs ys) M1
  | _=>.bad)
 | [.lst xs,.lst ys]=>.ok (.fix (vG xs ys)) M1
 | _=>.bad
theorem qi_zipS {l m:Expr} {elts:List Expr} {x1:Nat} {tpos:Pos} (hg:Gl X "zip") (hm:X.mg "zip" = none) (ha:QA X T ES [l,m] ds) (hs:starEach [l,m] X.env=(false,eval l X.env) :: starEach [m] X.env:=by rfl) (hs2:starEach [m] X.env=[(false,eval m X.env)]:=by rfl) :
  QI X T ES (.Tuple elts x1 tpos) (.Call (.Name "zip" p) [l,m] [] pos) (dZipS ds) :=
 ⟨pi_imp (pi_zip hg hm ha.h hs hs2) fun σ H R hQQ=>jF hQQ fun W ρ M k hh hs q=>⟨W,ρ,M,k,hh,hs,yo.bind q fun W1 M1 xs vs H1 l1 h1 r1 p1=>by
  split at p1
  ·rename_i j ys;split at p1
   rotate_left
   ·exact p1.elim
   rename_i zs e1;obtain ⟨u,v,rfl,ru,rv⟩:=xY r1;obtain ⟨a,us,hq,ha,ra⟩:=xT h1 ru (yF e1);subst hq;obtain ⟨b,ws,rfl,hb,rb⟩:=rv;refine ⟨a,b,rfl,.inl ⟨⟨us,SqL.of ha⟩,⟨ws,SqL.of (h1.f _ _ hb)⟩,p1 W1 H1 _ (.refl W1) h1 fun W' M' H' le hh' i=>?_⟩⟩;have qb:H' b=some (.lst ws):=hh'.f _ _ (le.f _ _ hb)
   cases e2:yV M' (.ref j) with
   | none =>
    refine ⟨fun z e=>?_,fun e=>?_⟩
    ·have e:(Option.map (fun xs:List PV=>xs[i]?) ((yV M' (.ref j)).map fun xs=>vG xs ys))=some (some z):=e;rw [e2] at e;cases e
    ·have e:(Option.map (fun xs:List PV=>xs[i]?) ((yV M' (.ref j)).map fun xs=>vG xs ys))=some none:=e;rw [e2] at e;cases e
   | some xs =>
    obtain ⟨a',us',e3,qa,ra'⟩:=xT (v:=.ref a) hh' (ru.up0 le) e2;cases e3;refine ⟨fun z e=>?_,fun e=>?_⟩
    ·have e:(Option.map (fun xs:List PV=>xs[i]?) ((yV M' (.ref j)).map fun xs=>vG xs ys))=some (some z):=e;rw [e2] at e;have e:(vG xs ys)[i]? = some z:=Option.some.inj e;obtain ⟨x,y,ex,ey,rfl⟩:=XC e;obtain ⟨u,eu,ru⟩:=ra'.get ex;obtain ⟨v,ev,rv⟩:=rb.get ey;refine ⟨⟨us',ws,u,v,SqL.of qa,SqL.of qb,eu,ev⟩,fun t H'' hQQ=>?_⟩;obtain ⟨c,u',v',et,hc,hu,hv,eH⟩:=hQQ;subst et;subst eH;have hu:=hu us' (SqL.of qa);have hv:=hv ws (SqL.of qb);rw [eu] at hu;rw [ev] at hv;cases hu;cases hv;exact uu (xs:=[x,y]) hh' (show yj W' _ [u,v] from ⟨_,_,rfl,ru,_,_,rfl,rv.up0 le,rfl⟩) hc
    ·have e:(Option.map (fun xs:List PV=>xs[i]?) ((yV M' (.ref j)).map fun xs=>vG xs ys))=some none:=e;rw [e2] at e;have e:(vG xs ys)[i]? = none:=Option.some.inj e;exact ⟨us',ws,SqL.of qa,SqL.of qb,by rw [ra'.length,rb.length]; exact Yw e⟩
  ·rename_i xs ys;obtain ⟨u,v,rfl,ru,rv⟩:=xY r1;obtain ⟨a,us,rfl,ha,ra⟩:=ru;obtain ⟨b,ws,rfl,hb,rb⟩:=rv;refine ⟨a,b,rfl,.inl ⟨⟨us,SqL.of (h1.f _ _ ha)⟩,⟨ws,SqL.of (h1.f _ _ hb)⟩,p1 W1 H1 _ (.refl W1) h1 fun W' M' H' le hh' i=>?_⟩⟩;have qa:H' a=some (.lst us):=hh'.f _ _ (le.f _ _ ha);have qb:H' b=some (.lst ws):=hh'.f _ _ (le.f _ _ hb);refine ⟨fun z e=>?_,fun e=>?_⟩
   ·have e:(vG xs ys)[i]? = some z:=Option.some.inj e;obtain ⟨x,y,ex,ey,rfl⟩:=XC e;obtain ⟨u,eu,ru⟩:=ra.get ex;obtain ⟨v,ev,rv⟩:=rb.get ey;refine ⟨⟨us,ws,u,v,SqL.of qa,SqL.of qb,eu,ev⟩,fun t H'' hQQ=>?_⟩;obtain ⟨c,u',v',et,hc,hu,hv,eH⟩:=hQQ;subst et;subst eH;have hu:=hu us (SqL.of qa);have hv:=hv ws (SqL.of qb);rw [eu] at hu;rw [ev] at hv;cases hu;cases hv;exact uu (xs:=[x,y]) hh' (show yj W' _ [u,v] from ⟨_,_,rfl,ru.up0 le,_,_,rfl,rv.up0 le,rfl⟩) hc
   ·have e:(vG xs ys)[i]? = none:=Option.some.inj e;exact ⟨us,ws,SqL.of qa,SqL.of qb,by rw [ra.length,rb.length]; exact Yw e⟩
  ·exact p1.elim⟩⟩
end
end L3

set_option maxHeartbeats 4000000


namespace My
open PySem L2 L3
def top (i:Nat):Stmt:=PySem.Challenge.pw_liarclocks_k18_whole_joined.main.body.getD i (.Pass ⟨0,0,0,0⟩)
abbrev tb (K:PySem.W.Frag) (C:Nat->Addr):Tb:=⟨K,C⟩
abbrev s_zbj:Stmt:=top 44
abbrev s_zbk:Stmt:=top 45
abbrev s_zbl:Stmt:=top 46
abbrev s_zbt:Stmt:=top 13
abbrev s_zbm:Stmt:=top 14
abbrev s_zan:Stmt:=top 19
abbrev s_zao:Stmt:=top 20
abbrev s_zai:Stmt:=yW (top 29) 0
abbrev s_zba:Stmt:=top 50
abbrev XU:Stmt:=top 38
abbrev s_zbn:Stmt:=top 21
abbrev s_zav:Stmt:=top 39
abbrev s_zbu:Stmt:=top 17
abbrev XQ:Stmt:=top 18
abbrev XZ:Stmt:=top 23
abbrev s_zbb:Stmt:=yW (top 29) 6
abbrev YQ:Stmt:=yW (top 42) 0
abbrev XT:Stmt:=top 53
abbrev s_zbc:Stmt:=top 22
abbrev s_zbp:Stmt:=yW (top 29) 1
abbrev s_zaw:Stmt:=yW (top 29) 2
abbrev XX:Stmt:=yW (top 42) 1
abbrev XV:Stmt:=yW (top 42) 2
abbrev XY:Stmt:=yW (top 42) 4
abbrev s_zax:Stmt:=top 49
abbrev s_zbq:Stmt:=top 51
abbrev s_zbd:Stmt:=top 54
abbrev s_zay:Stmt:=top 24
abbrev s_zar:Stmt:=top 25
abbrev s_zak:Stmt:=yW (top 42) 3
abbrev s_zaz:Stmt:=top 52
abbrev s_zbe:Stmt:=top 55
abbrev s_zbw:Stmt:=top 16
abbrev s_zbx:Stmt:=top 34
abbrev s_zbr:Stmt:=top 15
abbrev XS:Stmt:=top 35
abbrev s_zbg:Stmt:=top 40
abbrev XR:Stmt:=top 41
abbrev s_zaa:Stmt:=yW (top 42) 6
abbrev s_zas:Stmt:=yW (top 29) 4
abbrev s_zag:Stmt:=yW (top 42) 7
abbrev s_zbv:Stmt:=top 32
abbrev s_zat:Stmt:=top 31
abbrev s_zab:Stmt:=yW (top 42) 8
abbrev s_zal:Stmt:=yW (top 42) 10
abbrev YO:Stmt:=yW (top 42) 9
abbrev s_zam:Stmt:=yW (top 42) 11
abbrev XO:Stmt:=top 56
abbrev s_zbi:Stmt:=top 47
abbrev XW:Stmt:=top 48
abbrev uF:Stmt:=top 57
theorem sc_zbj:FnScope ["_law_script"] ["_law_script"] (jd s_zbj):=⟨rfl,rfl,rfl,by decide +kernel,rfl,by decide +kernel,by decide +kernel⟩
theorem Yz:FnScope ["_law_town_here","_law_many","_law_row","_law_at","_law_cell","_law_mixed"] ["_law_town_here","_law_many"] (jd s_zbk):=⟨rfl,rfl,rfl,by decide +kernel,rfl,by decide +kernel,by decide +kernel⟩
theorem sc_zbl:FnScope ["_law_town_here","_law_some"] ["_law_town_here","_law_some"] (jd s_zbl):=⟨rfl,rfl,rfl,by decide +kernel,rfl,by decide +kernel,by decide +kernel⟩
theorem sc_zbt:FnScope ["thing"] ["thing"] (jd s_zbt):=⟨rfl,rfl,rfl,by decide +kernel,rfl,by decide +kernel,by decide +kernel⟩
theorem sc_zbm:FnScope ["thing","least","most"] ["thing","least","most"] (jd s_zbm):=⟨rfl,rfl,rfl,by decide +kernel,rfl,by decide +kernel,by decide +kernel⟩
theorem sc_zan:FnScope ["thing","least","most"] ["thing","least","most"] (jd s_zan):=⟨rfl,rfl,rfl,by decide +kernel,rfl,by decide +kernel,by decide +kernel⟩
theorem sc_zao:FnScope ["thing"] ["thing"] (jd s_zao):=⟨rfl,rfl,rfl,by decide +kernel,rfl,by decide +kernel,by decide +kernel⟩
theorem sc_zai:FnScope ["self","first","rate"] ["self","first","rate"] (jd s_zai):=⟨rfl,rfl,rfl,by decide +kernel,rfl,by decide +kernel,by decide +kernel⟩
theorem sc_zba:FnScope ["_law_town_here","_law_crew","_law_most","_law_found","_law_house"] ["_law_town_here","_law_crew","_law_most"] (jd s_zba):=⟨rfl,rfl,rfl,by decide +kernel,rfl,by decide +kernel,by decide +kernel⟩
theorem sc_zap:FnScope ["clocks"] ["clocks"] (jd XU):=⟨rfl,rfl,rfl,by decide +kernel,rfl,by decide +kernel,by decide +kernel⟩
theorem sc_zbn:FnScope ["few"] ["few"] (jd s_zbn):=⟨rfl,rfl,rfl,by decide +kernel,rfl,by decide +kernel,by decide +kernel⟩
theorem sc_zav:FnScope ["error"] ["error"] (jd s_zav):=⟨rfl,rfl,rfl,by decide +kernel,rfl,by decide +kernel,by decide +kernel⟩
theorem sc_zbu:FnScope ["thing","houses"] ["thing","houses"] (jd s_zbu):=⟨rfl,rfl,rfl,by decide +kernel,rfl,by decide +kernel,by decide +kernel⟩
theorem sc_zbo:FnScope ["numbers"] ["numbers"] (jd XQ):=⟨rfl,rfl,rfl,by decide +kernel,rfl,by decide +kernel,by decide +kernel⟩
theorem sc_zac:FnScope ["some","houses","most"] ["some","houses","most"] (jd XZ):=⟨rfl,rfl,rfl,by decide +kernel,rfl,by decide +kernel,by decide +kernel⟩
theorem sc_zbb:FnScope ["self","other"] ["self"] (jd s_zbb):=⟨rfl,rfl,rfl,by decide +kernel,rfl,by decide +kernel,by decide +kernel⟩
theorem sc_zad:FnScope ["self","clocks","few","error","liars","waiting"] ["self","clocks","few","error","liars","waiting"] (jd YQ):=⟨rfl,rfl,rfl,by decide +kernel,rfl,by decide +kernel,by decide +kernel⟩
theorem YA:FnScope ["_law_town_here","_law_some","_law_crew","_law_wrong","_law_wait","_law_size","_law_clocks","_law_waits","_law_foes","_law_company_here"] ["_law_town_here","_law_some","_law_crew","_law_wrong","_law_wait"] (jd XT):=⟨rfl,rfl,rfl,by decide +kernel,rfl,by decide +kernel,by decide +kernel⟩
theorem sc_zbc:FnScope ["beat"] ["beat"] (jd s_zbc):=⟨rfl,rfl,rfl,by decide +kernel,rfl,by decide +kernel,by decide +kernel⟩
theorem sc_zbp:FnScope ["self","beat"] ["self","beat"] (jd s_zbp):=⟨rfl,rfl,rfl,by decide +kernel,rfl,by decide +kernel,by decide +kernel⟩
theorem sc_zaw:FnScope ["self","beat"] ["self","beat"] (jd s_zaw):=⟨rfl,rfl,rfl,by decide +kernel,rfl,by decide +kernel,by decide +kernel⟩
theorem sc_zaf:FnScope ["self"] ["self"] (jd XX):=⟨rfl,rfl,rfl,by decide +kernel,rfl,by decide +kernel,by decide +kernel⟩
theorem sc_zaj:FnScope ["self"] ["self"] (jd XV):=⟨rfl,rfl,rfl,by decide +kernel,rfl,by decide +kernel,by decide +kernel⟩
theorem sc_zae:FnScope ["self","beat"] ["self","beat"] (jd XY):=⟨rfl,rfl,rfl,by decide +kernel,rfl,by decide +kernel,by decide +kernel⟩
theorem sc_zax:FnScope ["_law_town_here","_law_most","_law_found"] ["_law_town_here"] (jd s_zax):=⟨rfl,rfl,rfl,by decide +kernel,rfl,by decide +kernel,by decide +kernel⟩
theorem XJ:FnScope ["_law_town_here","_law_crew","_law_foes","_law_worths","_law_found","_law_foe","_law_house","_law_near"] ["_law_town_here","_law_crew","_law_foes","_law_worths"] (jd s_zbq):=⟨rfl,rfl,rfl,by decide +kernel,rfl,by decide +kernel,by decide +kernel⟩
theorem sc_zbd:FnScope ["_law_town_here","_law_size","_law_wrong","_law_found","_law_house","_law_other"] ["_law_town_here","_law_size","_law_wrong"] (jd s_zbd):=⟨rfl,rfl,rfl,by decide +kernel,rfl,by decide +kernel,by decide +kernel⟩
theorem sc_zay:FnScope ["house","houses"] ["house","houses"] (jd s_zay):=⟨rfl,rfl,rfl,by decide +kernel,rfl,by decide +kernel,by decide +kernel⟩
theorem sc_zar:FnScope ["house","houses","liars"] ["house","houses","liars"] (jd s_zar):=⟨rfl,rfl,rfl,by decide +kernel,rfl,by decide +kernel,by decide +kernel⟩
theorem sc_zak:FnScope ["self","house","beat"] ["self","house","beat"] (jd s_zak):=⟨rfl,rfl,rfl,by decide +kernel,rfl,by decide +kernel,by decide +kernel⟩
theorem sc_zaz:FnScope ["_law_worths","_law_some","_law_left_here","_law_turn"] ["_law_worths","_law_some"] (jd s_zaz):=⟨rfl,rfl,rfl,by decide +kernel,rfl,by decide +kernel,by decide +kernel⟩
theorem XM:FnScope ["_law_house","_law_inside","_law_shown","_law_foes","_law_tales","_law_slips_here","_law_found","_law_one","_law_off","_law_own"] ["_law_house","_law_inside","_law_shown","_law_foes","_law_tales","_law_slips_here"] (jd s_zbe):=⟨rfl,rfl,rfl,by decide +kernel,rfl,by decide +kernel,by decide +kernel⟩
theorem sc_zbw:FnScope ["thing"] ["thing"] (jd s_zbw):=⟨rfl,rfl,rfl,by decide +kernel,rfl,by decide +kernel,by decide +kernel⟩
theorem sc_zbx:FnScope ["thing","liars","houses"] ["thing","liars","houses"] (jd s_zbx):=⟨rfl,rfl,rfl,by decide +kernel,rfl,by decide +kernel,by decide +kernel⟩
theorem sc_zbr:FnScope ["thing"] ["thing"] (jd s_zbr):=⟨rfl,rfl,rfl,by decide +kernel,rfl,by decide +kernel,by decide +kernel⟩
theorem sc_zbf:FnScope ["lies","liars","houses"] ["lies","liars","houses"] (jd XS):=⟨rfl,rfl,rfl,by decide +kernel,rfl,by decide +kernel,by decide +kernel⟩
theorem sc_zbg:FnScope ["thing","houses"] ["thing","houses"] (jd s_zbg):=⟨rfl,rfl,rfl,by decide +kernel,rfl,by decide +kernel,by decide +kernel⟩
theorem sc_zbh:FnScope ["offs","error","houses"] ["offs","error","houses"] (jd XR):=⟨rfl,rfl,rfl,by decide +kernel,rfl,by decide +kernel,by decide +kernel⟩
theorem sc_zaa:FnScope ["self","beat","lies","offs"] ["self","beat","lies","offs"] (jd s_zaa):=⟨rfl,rfl,rfl,by decide +kernel,rfl,by decide +kernel,by decide +kernel⟩
theorem sc_zas:FnScope ["self","reading","beat","step"] ["self","reading","beat"] (jd s_zas):=⟨rfl,rfl,rfl,by decide +kernel,rfl,by decide +kernel,by decide +kernel⟩
theorem sc_zag:FnScope ["self","house","reader","beat","lies","offs","shown"] ["self","house","reader","beat","lies","offs"] (jd s_zag):=⟨rfl,rfl,rfl,by decide +kernel,rfl,by decide +kernel,by decide +kernel⟩
theorem sc_zbv:FnScope ["left"] ["left"] (jd s_zbv):=⟨rfl,rfl,rfl,by decide +kernel,rfl,by decide +kernel,by decide +kernel⟩
theorem sc_zat:FnScope ["worths","few"] ["worths","few"] (jd s_zat):=⟨rfl,rfl,rfl,by decide +kernel,rfl,by decide +kernel,by decide +kernel⟩
theorem sc_zab:FnScope ["self","reader","beat","lies","offs","read"] ["self","reader","beat","lies","offs"] (jd s_zab):=⟨rfl,rfl,rfl,by decide +kernel,rfl,by decide +kernel,by decide +kernel⟩
theorem sc_zal:FnScope ["self","house","beat","lies","offs","errors"] ["self","house","beat","lies","offs"] (jd s_zal):=⟨rfl,rfl,rfl,by decide +kernel,rfl,by decide +kernel,by decide +kernel⟩
theorem XN:FnScope ["self","beat","lies","offs","errors","houses","middles","steps"] ["self","beat","lies","offs"] (jd YO):=⟨rfl,rfl,rfl,by decide +kernel,rfl,by decide +kernel,by decide +kernel⟩
theorem sc_zam:FnScope ["self","house"] ["self","house"] (jd s_zam):=⟨rfl,rfl,rfl,by decide +kernel,rfl,by decide +kernel,by decide +kernel⟩
theorem sc_zbs:FnScope ["_law_town_here","_law_company_here","_law_inside","_law_foes","_law_waits","_law_some","_law_house"] ["_law_town_here","_law_company_here","_law_inside","_law_foes","_law_waits","_law_some"] (jd XO):=⟨rfl,rfl,rfl,by decide +kernel,rfl,by decide +kernel,by decide +kernel⟩
theorem sc_zbi:FnScope ["_law_thing"] ["_law_thing"] (jd s_zbi):=⟨rfl,rfl,rfl,by decide +kernel,rfl,by decide +kernel,by decide +kernel⟩
theorem sc_zah:FnScope ["_law_thing"] ["_law_thing"] (jd XW):=⟨rfl,rfl,rfl,by decide +kernel,rfl,by decide +kernel,by decide +kernel⟩
theorem yX:FnScope ["_law_script","_law_town_here","_law_some","_law_crew","_law_wrong","_law_company_here","_law_clocks","_law_foes","_law_waits","_law_inside","_law_beat","_law_turn","_law_near","_law_tales","_law_slips_here","_law_house","_law_shown","_law_due"] ["_law_script"] (jd uF):=⟨rfl,rfl,rfl,by decide +kernel,rfl,by decide +kernel,by decide +kernel⟩
def d_zbj:DS:=(yD (Xb (jc (dIf (yk (dOp gScr (yg 0) (uX yh))) (dCB (gListS) (jc (yg 0) yh)) (Xb (jc (dC (.int 0)) yh))) (jc (dC (.int 0)) yh))))
def D_zbj:List PV->Sto->Res PV:=yz 1 1 d_zbj
def d_zbk:DS:=(yi (yt 2 (dOp gIx (yg 0) (dC (.int 0))))
 (yi (sSetI (dOp xG (dOp gIx (yg 0) (dC (.int 1))) (dC (.int 1))) (yg 0) (dC (.int 1)))
 (yi (yt 3 (dOp gMod (dOp gIx (yg 0) (dC (.int 1))) (dCB (one yA) (jc (yg 2) yh))))
 (yi (yt 4 (dOp gIx (yg 2) (yg 3)))
 (yi (sIf (yk (dOp gGe (yg 4) (dC (.int 1000000000000000000)))) (yi (sSetI (dOp gDiv (yg 4) (yg 1)) (yg 2) (yg 3))
 (yD (dOp gMod (yg 4) (yg 1)))) yB)
 (yi (yt 5 (dOp gMod (dOp xG (yg 4) (dOp Xr (dC (.int 104729)) (dOp gIx (yg 0) (dC (.int 1))))) (dC (.int 4294967291))))
 (yi (yt 5 (dOp gMod (dOp gPow (yg 5) (dC (.int 5))) (dC (.int 4294967279))))
 (yD (dOp gMod (dOp gDiv (dOp gMod (dOp xG (dOp Xr (dOp gDiv (yg 5) (dC (.int 64))) (dC (.int 69621))) (yg 5)) (dC (.int 4294967231))) (dC (.int 8))) (yg 1))))))))))
def yu:List PV->Sto->Res PV:=yz 2 6 d_zbk
def d_zbl:DS:=(yD (dOp gIx (yg 1) (jr yu 2 0 [.p 0,.p 1] [] (jc (yg 0) (jc (dCB (one yA) (jc (yg 1) yh)) yh)) yh)))
def xO:List PV->Sto->Res PV:=yz 2 2 d_zbl
def d_zbt:DS:=(yD (vw (dCB (ue) (jc (yg 0) (jc (dC (.ty "int")) yh))) (dNotV (dCB (ue) (jc (yg 0) (jc (dC (.ty "bool")) yh))))))
def D_zbt:List PV->Sto->Res PV:=yz 1 1 d_zbt
def d_zbm:DS:=(yD (vw (jr D_zbt 1 0 [.p 0] [] (jc (yg 0) yh) yh) (vn gLe gLe (yg 1) (yg 0) (yg 2))))
def um:List PV->Sto->Res PV:=yz 3 3 d_zbm
def d_zan:DS:=(sIf (vB (vW (jr um 3 0 [.p 0,.p 1,.p 2] [] (jc (yg 0) (jc (yg 1) (jc (yg 2) yh))) yh))) (xw 0 (jc (dFstr (jTxt "not a whole number from " (jInt (yg 1) (jTxt " to " (jInt (yg 2) jNil))))) yh)) yB)
def xQ:List PV->Sto->Res PV:=yz 3 3 d_zan
def d_zao:DS:=(yq (jr xQ 3 0 [.p 0,.p 1,.p 2] [] (jc (yg 0) (jc (dUn gNeg (dC (.int 1000000))) (jc (dC (.int 1000000)) yh))) yh))
def D_zao:List PV->Sto->Res PV:=yz 1 1 d_zao
def d_zai:DS:=(yi (yq (jr D_zao 1 0 [.p 0] [] (jc (yg 1) yh) yh))
 (yi (yq (jr xQ 3 0 [.p 0,.p 1,.p 2] [] (jc (yg 2) (jc (dUn gNeg (dC (.int 100))) (jc (dC (.int 100)) yh))) yh))
 (yi (xP 10 "first" (yg 1) (yg 0))
 (yi (xP 10 "rate" (yg 2) (yg 0))
 (xP 10 "turned" (dC (.int 0)) (yg 0))))))
def Xk:List PV->Sto->Res PV:=yz 3 3 d_zai
def uV:DS:=(sIf (dAnd (yk (dOp gLt (dCB (one yA) (jc (yg 3) yh)) (yg 2))) (yk (dOp (eqG false) (jr yu 2 0 [.p 0,.p 1] [] (jc (yg 0) (jc (dC (.int 3)) yh)) yh) (dC (.int 0))))) (yq (dMt yR (yg 3) (jc (yg 4) yh))) yB)
def d_zba:DS:=(yi (yt 3 (Xb yh))
 (yi (Jk 200 (xj (jc (yg 1) yh)) (gN 4) uV)
 (yD (dFrz (yg 3)))))
def D_zba:List PV->Sto->Res PV:=JA (yz 3 5 d_zba)
def d_zap:DS:=(yi (sIf (dOr (vB (vW (dCB (ue) (jc (yg 0) (jc (dC (.ty "list")) yh))))) (vB (yk (vn gLe gLe (dC (.int 1)) (dCB (one yA) (jc (yg 0) yh)) (dC (.int 16)))))) (xw 3 (jc (dC (.str "not a list of 1 to 16 clocks")) yh)) yB)
 (sIf (vB (vW (dCB (one vA) (jc (yr (dIt (yg 0)) xH [] yI (dCB gIsO (jc (yg 0) (jc (dC (.top 10)) yh)))) yh)))) (xw 3 (jc (dC (.str "not clocks alone")) yh)) yB))
def D_zap:List PV->Sto->Res PV:=yz 1 1 d_zap
def d_zbn:DS:=(yq (jr xQ 3 0 [.p 0,.p 1,.p 2] [] (jc (yg 0) (jc (dC (.int 0)) (jc (dC (.int 5)) yh))) yh))
def D_zbn:List PV->Sto->Res PV:=yz 1 1 d_zbn
def d_zav:DS:=(yq (jr xQ 3 0 [.p 0,.p 1,.p 2] [] (jc (yg 0) (jc (dC (.int 0)) (jc (dC (.int 100)) yh))) yh))
def D_zav:List PV->Sto->Res PV:=yz 1 1 d_zav
def d_zbu:DS:=(yD (jr um 3 0 [.p 0,.p 1,.p 2] [] (jc (yg 0) (jc (dC (.int 0)) (jc (dOp xF (yg 1) (dC (.int 1))) yh))) yh))
def xN:List PV->Sto->Res PV:=yz 2 2 d_zbu
def d_zbo:DS:=(yD (dCB (one vA) (jc (yr (dZipS (jc (yg 0) (jc (dSl (yg 0) (dOS (dC (.int 1))) dON) yh))) Xx [] yI (dOp gLt (yg 0) (yg 1))) yh)))
def D_zbo:List PV->Sto->Res PV:=yz 1 1 d_zbo
def Yr:DE:=(jr xN 2 0 [.p 0,.p 1] [] (jc (yg 0) (jc (yg 1) yh)) yh)
def d_zac:DS:=(yi (sIf (dOr (vB (vW (dCB (ue) (jc (yg 0) (jc (dTup (jc (dC (.ty "list")) (jc (dC (.ty "tuple")) yh))) yh))))) (yk (dOp gGt (dCB (one yA) (jc (yg 0) yh)) (yg 2)))) (xw 3 (jc (dC (.str "not a list or tuple of houses, or too many of them")) yh)) yB)
 (sIf (dOr (vB (vW (dCB (one vA) (jc (yr (dIt (yg 0)) xH [1] yI Yr) yh)))) (vB (vW (jr D_zbo 1 0 [.p 0] [] (jc (yg 0) yh) yh)))) (xw 3 (jc (dC (.str "not houses, rising, each once")) yh)) yB))
def Yv:List PV->Sto->Res PV:=yz 3 3 d_zac
def d_zbb:DS:=(yi (yt 1 (dNew 10 Xk 1 2 [.p 0,.k 0,.k 1] [] yh (jc (xa 10 "first" (yg 0)) (jc (xa 10 "rate" (yg 0)) yh))))
 (yi (xP 10 "turned" (xa 10 "turned" (yg 0)) (yg 1))
 (yD (yg 1))))
def Xi:List PV->Sto->Res PV:=yz 1 2 d_zbb
def d_zad:DS:=(yi (yq (jr D_zap 1 0 [.p 0] [] (jc (yg 1) yh) yh))
 (yi (yq (jr D_zbn 1 0 [.p 0] [] (jc (yg 2) yh) yh))
 (yi (yq (jr D_zav 1 0 [.p 0] [] (jc (yg 3) yh) yh))
 (yi (yq (jr Yv 3 0 [.p 0,.p 1,.p 2] [] (jc (yg 4) (jc (dCB (one yA) (jc (yg 1) yh)) (jc (yg 2) yh))) yh))
 (yi (yq (jr Yv 3 0 [.p 0,.p 1,.p 2] [] (jc (yg 5) (jc (dCB (one yA) (jc (yg 1) yh)) (jc (dCB (one yA) (jc (yg 1) yh)) yh))) yh))
 (yi (sIf (vW (dCB (one fAny) (jc (yr (dIt (yg 5)) xH [4] yI (dOp (gIn false) (yg 0) (yg 1))) yh))) (xw 3 (jc (dC (.str "a liar does not wait")) yh)) yB)
 (yi (sIf (yk (dOp gLe (dOp xF (dCB (one yA) (jc (yg 1) yh)) (dCB (one yA) (jc (yg 5) yh))) (dOp Xr (dC (.int 2)) (yg 2)))) (xw 3 (jc (dC (.str "no more than twice few are in")) yh)) yB)
 (yi (xP 11 "clocks" (yr (dIt (yg 1)) xH [] yI (yw 10 "twin" Xi 1 0 [.p 0] [] (yg 0) yh yh)) (yg 0))
 (yi (xP 11 "few" (yg 2) (yg 0))
 (yi (xP 11 "error" (yg 3) (yg 0))
 (yi (xP 11 "liars" (dCB (one fList) (jc (yg 4) yh)) (yg 0))
 (yi (xP 11 "waits" (dCB (gListN) (jc (yg 5) yh)) (yg 0))
 (yi (xP 11 "last_beat" (dC (.int 0)) (yg 0))
 (xP 11 "past" (Xb yh) (yg 0)))))))))))))))
def D_zad:List PV->Sto->Res PV:=yz 6 6 d_zad
def c_zaq_1:DE:=(dNew 10 Xk 1 2 [.p 0,.k 0,.k 1] [] yh (jc (dOp xF (jr yu 2 0 [.p 0,.p 1] [] (jc (yg 1) (jc (dC (.int 4001)) yh)) yh) (dC (.int 2000))) (jc (dOp xF (jr yu 2 0 [.p 0,.p 1] [] (jc (yg 1) (jc (dC (.int 41)) yh)) yh) (dC (.int 20))) yh)))
def d_zaq:DS:=(yi (yt 5 (dOp xG (yg 2) (yg 4)))
 (yi (yt 6 (yr (xj (jc (yg 5) yh)) xH [0] yI c_zaq_1))
 (yi (yt 7 (dLRN (jc (yg 2) (jc (yg 5) yh))))
 (yi (yt 8 (jr D_zba 3 0 [.p 0,.p 1,.p 2] [] (jc (yg 0) (jc (yg 2) (jc (yg 1) yh))) yh))
 (yi (yt 9 (dNew 11 D_zad 2 4 [.p 0,.p 1,.k 0,.k 1,.k 2,.k 3] [] (jc (yg 6) yh) (jc (yg 1) (jc (yg 3) (jc (yg 8) (jc (yg 7) yh))))))
 (yD (dTup (jc (yg 9) (jc (yg 6) (jc (yg 8) (jc (yg 7) yh)))))))))))
def D_zaq:List PV->Sto->Res PV:=yz 5 10 d_zaq
def d_zbc:DS:=(yq (jr xQ 3 0 [.p 0,.p 1,.p 2] [] (jc (yg 0) (jc (dC (.int 0)) (jc (dC (.int 100000)) yh))) yh))
def D_zbc:List PV->Sto->Res PV:=yz 1 1 d_zbc
def d_zbp:DS:=(yi (yq (jr D_zbc 1 0 [.p 0] [] (jc (yg 1) yh) yh))
 (yD (dOp xG (xa 10 "first" (yg 0)) (dOp gDiv (dOp Xr (yg 1) (dOp xG (dC (.int 1000)) (xa 10 "rate" (yg 0)))) (dC (.int 1000))))))
def D_zbp:List PV->Sto->Res PV:=yz 2 2 d_zbp
def d_zaw:DS:=(yD (dOp xG (yw 10 "raw" D_zbp 2 0 [.p 0,.p 1] [] (yg 0) (jc (yg 1) yh) yh) (xa 10 "turned" (yg 0))))
def xE:List PV->Sto->Res PV:=yz 2 2 d_zaw
def d_zaf:DS:=(yD (yr (xj (jc (dCB (one yA) (jc (xa 11 "clocks" (yg 0)) yh)) yh)) xH [0] (yk (dOp (gIn true) (yg 0) (xa 11 "waits" (yg 1)))) (yg 0)))
def xR:List PV->Sto->Res PV:=yz 1 1 d_zaf
def d_zaj:DS:=(yD (yr (dIt (yw 11 "members" xR 1 0 [.p 0] [] (yg 0) yh yh)) xH [0] (yk (dOp (gIn true) (yg 0) (xa 11 "liars" (yg 1)))) (yg 0)))
def vS:List PV->Sto->Res PV:=yz 1 1 d_zaj
def d_zae:DS:=(yD (yr (dIt (yw 11 "honest" vS 1 0 [.p 0] [] (yg 0) yh yh)) xH [1,0] yI (yw 10 "shows" xE 2 0 [.p 0,.p 1] [] (dOp gIx (xa 11 "clocks" (yg 2)) (yg 0)) (jc (yg 1) yh) yh)))
def Xl:List PV->Sto->Res PV:=yz 2 2 d_zae
def d_zax:DS:=(yi (yt 1 (jr xO 2 0 [.p 0,.p 1] [] (jc (yg 0) (jc (uX (jc (dC (.int 3)) (jc (dC (.int 30)) (jc (dC (.int 1000)) (jc (dC (.int 1000001)) yh))))) yh)) yh))
 (yi (yt 2 (jr yu 2 0 [.p 0,.p 1] [] (jc (yg 0) (jc (yg 1) yh)) yh))
 (yD (dIf (yk (dOp (eqG false) (jr yu 2 0 [.p 0,.p 1] [] (jc (yg 0) (jc (dC (.int 2)) yh)) yh) (dC (.int 0)))) (yg 2) (dOp xF (dC (.int 0)) (yg 2))))))
def D_zax:List PV->Sto->Res PV:=yz 1 3 d_zax
def uU:DS:=(sIf (yk (dOp gGt (jr yu 2 0 [.p 0,.p 1] [] (jc (yg 0) (jc (dC (.int 5)) yh)) yh) (dC (.int 0)))) (yi (yt 7 (dOp xF (dOp xG (jr xO 2 0 [.p 0,.p 1] [] (jc (yg 0) (jc (yg 3) yh)) yh) (jr yu 2 0 [.p 0,.p 1] [] (jc (yg 0) (jc (dC (.int 7)) yh)) yh)) (dC (.int 3))))
 (sPutT (dCB (Xu) (jc (dOp xF (dC (.int 0)) (dC (.int 1000000))) (jc (dCB (Xs) (jc (dC (.int 1000000)) (jc (jr xO 2 0 [.p 0,.p 1] [] (jc (yg 0) (jc (uX (jc (yg 7) (jc (yg 7) (jc (jr D_zax 1 0 [.p 0] [] (jc (yg 0) yh) yh) yh)))) yh)) yh) yh))) yh))) (yg 4) (jc (yg 5) (jc (yg 6) yh)))) yB)
def Ym:DS:=(Jk 200 (xj (jc (yg 1) yh)) (gN 6) uU)
def d_zbq:DS:=(yi (yt 4 dDctN)
 (yi (Jk 200 (dIt (yg 2)) (gN 5) Ym)
 (yD (dFrzD (yg 4)))))
def D_zbq:List PV->Sto->Res PV:=JA (yz 4 8 d_zbq)
def Yn:DS:=(sIf (dAnd (yk (dOp (eqG true) (yg 4) (yg 5))) (yk (dOp (eqG false) (jr yu 2 0 [.p 0,.p 1] [] (jc (yg 0) (jc (dC (.int 2)) yh)) yh) (dC (.int 0))))) (sPutT (jr xO 2 0 [.p 0,.p 1] [] (jc (yg 0) (jc (uX (jc (yg 2) (jc (dOp xF (dC (.int 0)) (yg 2)) (jc (dOp xF (jr yu 2 0 [.p 0,.p 1] [] (jc (yg 0) (jc (dOp xG (dOp Xr (dC (.int 2)) (yg 2)) (dC (.int 1))) yh)) yh) (yg 2)) yh)))) yh)) yh) (yg 3) (jc (yg 4) (jc (yg 5) yh))) yB)
def Yo:DS:=(Jk 200 (xj (jc (yg 1) yh)) (gN 5) Yn)
def d_zbd:DS:=(yi (yt 3 dDctN)
 (yi (Jk 200 (xj (jc (yg 1) yh)) (gN 4) Yo)
 (yD (dFrzD (yg 3)))))
def D_zbd:List PV->Sto->Res PV:=JA (yz 3 6 d_zbd)
def d_zay:DS:=(sIf (vB (vW (jr xN 2 0 [.p 0,.p 1] [] (jc (yg 0) (jc (yg 1) yh)) yh))) sBad yB)
def D_zay:List PV->Sto->Res PV:=yz 2 2 d_zay
def d_zar:DS:=(yi (yq (jr D_zay 2 0 [.p 0,.p 1] [] (jc (yg 0) (jc (yg 1) yh)) yh))
 (sIf (yk (dOp (gIn false) (yg 0) (yg 2))) sBad yB))
def Yu:List PV->Sto->Res PV:=yz 3 3 d_zar
def d_zak:DS:=(yi (yq (jr Yu 3 0 [.p 0,.p 1,.p 2] [] (jc (yg 1) (jc (dCB (one yA) (jc (xa 11 "clocks" (yg 0)) yh)) (jc (xa 11 "liars" (yg 0)) yh))) yh))
 (yD (yw 10 "shows" xE 2 0 [.p 0,.p 1] [] (dOp gIx (xa 11 "clocks" (yg 0)) (yg 1)) (jc (yg 2) yh) yh)))
def uA:List PV->Sto->Res PV:=yz 3 3 d_zak
def d_zaz_L1:DS:=(yt 2 (dSl (yg 2) (dOS (dC (.int 1))) (dOS (dOp xF (dCB (one yA) (jc (yg 2) yh)) (dC (.int 1))))))
def d_zaz:DS:=(yi (yt 2 (dCB (one Ji) (jc (yg 0) yh)))
 (yi (Jk 200 (xj (jc (yg 1) yh)) (gN 3) d_zaz_L1)
 (yD (dOp gDiv (dOp xG (dOp gIx (yg 2) (dC (.int 0))) (dOp gIx (yg 2) (dOp xF (dCB (one yA) (jc (yg 2) yh)) (dC (.int 1))))) (dC (.int 2))))))
def Yt:List PV->Sto->Res PV:=JA (yz 2 4 d_zaz)
def d_zbe_L1:DS:=(yi (yt 8 (dIf (yk (dOp (eqG true) (yg 7) (yg 0))) (vM (yg 5) (jc (yg 7) (jc (yg 0) yh)) (dC (.int 0))) (dC (.int 0))))
 (yi (yt 9 (dIf (yk (dOp (gIn false) (yg 7) (yg 3))) (dOp gIx (yg 2) (yg 7)) (dOp xG (dOp gIx (yg 2) (yg 7)) (yg 8))))
 (yq (dMt yR (yg 6) (jc (dIf (yk (dOp (gIn false) (yg 7) (yg 3))) (vM (yg 4) (jc (yg 7) (jc (yg 0) yh)) (yg 9)) (yg 9)) yh)))))
def d_zbe:DS:=(yi (yt 6 (Xb yh))
 (yi (Jk 200 (dIt (yg 1)) (gN 7) d_zbe_L1)
 (yD (dFrz (yg 6)))))
def Ys:List PV->Sto->Res PV:=JA (yz 6 10 d_zbe)
def d_zbw:DS:=(yD (vw (dCB (ue) (jc (yg 0) (jc (dC (.ty "tuple")) yh))) (dOp (eqG false) (dCB (one yA) (jc (yg 0) yh)) (dC (.int 2)))))
def Xg:List PV->Sto->Res PV:=yz 1 1 d_zbw
def d_zbx:DS:=(yi (sIf (dOr (vB (vW (jr Xg 1 0 [.p 0] [] (jc (yg 0) yh) yh))) (dOr (vB (vW (jr xN 2 0 [.p 0,.p 1] [] (jc (dOp gIx (yg 0) (dC (.int 0))) (jc (yg 2) yh)) yh))) (vB (vW (jr xN 2 0 [.p 0,.p 1] [] (jc (dOp gIx (yg 0) (dC (.int 1))) (jc (yg 2) yh)) yh))))) (yD (dC (.bl false))) yB)
 (yD (dOp (gIn false) (dOp gIx (yg 0) (dC (.int 0))) (yg 1))))
def D_zbx:List PV->Sto->Res PV:=yz 3 3 d_zbx
def d_zbr:DS:=(yD (jr um 3 0 [.p 0,.p 1,.p 2] [] (jc (yg 0) (jc (dUn gNeg (dC (.int 1000000))) (jc (dC (.int 1000000)) yh))) yh))
def D_zbr:List PV->Sto->Res PV:=yz 1 1 d_zbr
def c_zbf_1:DE:=(vw (jr D_zbx 3 0 [.p 0,.p 1,.p 2] [] (jc (yg 0) (jc (yg 2) (jc (yg 3) yh))) yh) (jr D_zbr 1 0 [.p 0] [] (jc (yg 1) yh) yh))
def d_zbf:DS:=(yi (sIf (vB (vW (dCB (ue) (jc (yg 0) (jc (dC (.ty "dict")) yh))))) (xw 2 (jc (dC (.str "lies are no dict")) yh)) yB)
 (sIf (vB (vW (dCB (one vA) (jc (yr (dItems (yg 0)) Xx [1,2] yI c_zbf_1) yh)))) (xw 2 (jc (dC (.str "not pairs of a liar and a house, with numbers")) yh)) yB))
def D_zbf:List PV->Sto->Res PV:=yz 3 3 d_zbf
def d_zbg:DS:=(yi (sIf (dOr (vB (vW (jr Xg 1 0 [.p 0] [] (jc (yg 0) yh) yh))) (dOr (vB (vW (jr xN 2 0 [.p 0,.p 1] [] (jc (dOp gIx (yg 0) (dC (.int 0))) (jc (yg 1) yh)) yh))) (vB (vW (jr xN 2 0 [.p 0,.p 1] [] (jc (dOp gIx (yg 0) (dC (.int 1))) (jc (yg 1) yh)) yh))))) (yD (dC (.bl false))) yB)
 (yD (dOp (eqG true) (dOp gIx (yg 0) (dC (.int 0))) (dOp gIx (yg 0) (dC (.int 1))))))
def D_zbg:List PV->Sto->Res PV:=yz 2 2 d_zbg
def c_zbh_1:DE:=(vw (jr D_zbg 2 0 [.p 0,.p 1] [] (jc (yg 0) (jc (yg 2) yh)) yh) (jr um 3 0 [.p 0,.p 1,.p 2] [] (jc (yg 1) (jc (dUn gNeg (yg 3)) (jc (yg 3) yh))) yh))
def d_zbh:DS:=(yi (sIf (vB (vW (dCB (ue) (jc (yg 0) (jc (dC (.ty "dict")) yh))))) (xw 2 (jc (dC (.str "errors are no dict")) yh)) yB)
 (sIf (vB (vW (dCB (one vA) (jc (yr (dItems (yg 0)) Xx [2,1] yI c_zbh_1) yh)))) (xw 2 (jc (dC (.str "not pairs of two unlike houses, with errors as large as told at most")) yh)) yB))
def D_zbh:List PV->Sto->Res PV:=yz 3 3 d_zbh
def d_zaa:DS:=(yi (yq (jr xQ 3 0 [.p 0,.p 1,.p 2] [] (jc (yg 1) (jc (xa 11 "last_beat" (yg 0)) (jc (dC (.int 100000)) yh))) yh))
 (yi (yq (jr D_zbf 3 0 [.p 0,.p 1,.p 2] [] (jc (yg 2) (jc (xa 11 "liars" (yg 0)) (jc (dCB (one yA) (jc (xa 11 "clocks" (yg 0)) yh)) yh))) yh))
 (yq (jr D_zbh 3 0 [.p 0,.p 1,.p 2] [] (jc (yg 3) (jc (xa 11 "error" (yg 0)) (jc (dCB (one yA) (jc (xa 11 "clocks" (yg 0)) yh)) yh))) yh))))
def D_zaa:List PV->Sto->Res PV:=yz 4 4 d_zaa
def d_zas:DS:=(yi (yt 3 (dOp xF (yg 1) (yw 10 "shows" xE 2 0 [.p 0,.p 1] [] (yg 0) (jc (yg 2) yh) yh)))
 (yi (sFldA 10 "turned" YZ (yg 0) (yg 3))
 (yD (yg 3))))
def Js:List PV->Sto->Res PV:=yz 3 4 d_zas
def d_zag:DS:=(yi (yt 6 (yw 10 "shows" xE 2 0 [.p 0,.p 1] [] (dOp gIx (xa 11 "clocks" (yg 0)) (yg 1)) (jc (yg 3) yh) yh))
 (yi (sIf (yk (dOp (gIn false) (yg 1) (xa 11 "liars" (yg 0)))) (yD (vM (yg 4) (jc (yg 1) (jc (yg 2) yh)) (yg 6))) yB)
 (yD (dOp xG (yg 6) (vM (yg 5) (jc (yg 1) (jc (yg 2) yh)) (dC (.int 0)))))))
def D_zag:List PV->Sto->Res PV:=yz 6 7 d_zag
def d_zbv:DS:=(yD (dOp gDiv (dOp xG (dOp gIx (yg 0) (dC (.int 0))) (dOp gIx (yg 0) (dUn gNeg (dC (.int 1))))) (dC (.int 2))))
def D_zbv:List PV->Sto->Res PV:=yz 1 1 d_zbv
def d_zat:DS:=(yD (dSl (dCB (one Ji) (jc (yg 0) yh)) (dOS (yg 1)) (dOS (dOp xF (dCB (one yA) (jc (yg 0) yh)) (yg 1)))))
def D_zat:List PV->Sto->Res PV:=yz 2 2 d_zat
def d_zab:DS:=(yi (yt 5 (yr (dIt (yw 11 "members" xR 1 0 [.p 0] [] (yg 0) yh yh)) xH [1,2,3,4,0] yI (yw 11 "read_of" D_zag 6 0 [.p 0,.p 1,.p 2,.p 3,.p 4,.p 5] [] (yg 5) (jc (yg 0) (jc (yg 1) (jc (yg 2) (jc (yg 3) (jc (yg 4) yh))))) yh)))
 (yD (jr D_zbv 1 0 [.p 0] [] (jc (jr D_zat 2 0 [.p 0,.p 1] [] (jc (yg 5) (jc (xa 11 "few" (yg 0)) yh)) yh) yh) yh)))
def Xm:List PV->Sto->Res PV:=yz 5 6 d_zab
def d_zal:DS:=(yi (yq (jr Yu 3 0 [.p 0,.p 1,.p 2] [] (jc (yg 1) (jc (dCB (one yA) (jc (xa 11 "clocks" (yg 0)) yh)) (jc (xa 11 "liars" (yg 0)) yh))) yh))
 (yi (sIf (yk (dOp (gIn true) (yg 1) (xa 11 "waits" (yg 0)))) (xw 6 (jc (dC (.str "this house is in")) yh)) yB)
 (yi (yt 5 (dIf (yk (dOp gIs (yg 4) (dC .non))) dDct (yg 4)))
 (yi (yq (yw 11 "check_reading" D_zaa 4 0 [.p 0,.p 1,.p 2,.p 3] [] (yg 0) (jc (yg 2) (jc (yg 3) (jc (yg 5) yh))) yh))
 (yi (yq (yw 10 "set_to" Js 3 0 [.p 0,.p 1,.p 2] [] (dOp gIx (xa 11 "clocks" (yg 0)) (yg 1)) (jc (yw 11 "middle_read" Xm 5 0 [.p 0,.p 1,.p 2,.p 3,.p 4] [] (yg 0) (jc (yg 1) (jc (yg 2) (jc (yg 3) (jc (yg 5) yh)))) yh) (jc (yg 2) yh)) yh))
 (yi (yq (dMt vQ (xa 11 "waits" (yg 0)) (jc (yg 1) yh)))
 (xP 11 "last_beat" (yg 2) (yg 0))))))))
def D_zal:List PV->Sto->Res PV:=yz 5 6 d_zal
def d_zau:DS:=(yi (yt 4 (dIf (yk (dOp gIs (yg 3) (dC .non))) dDct (yg 3)))
 (yi (yq (yw 11 "check_reading" D_zaa 4 0 [.p 0,.p 1,.p 2,.p 3] [] (yg 0) (jc (yg 1) (jc (yg 2) (jc (yg 4) yh))) yh))
 (yi (yt 5 (yw 11 "honest" vS 1 0 [.p 0] [] (yg 0) yh yh))
 (yi (yt 6 (yr (dIt (yg 5)) xH [1,2,4,0] yI (yw 11 "middle_read" Xm 5 0 [.p 0,.p 1,.p 2,.p 3,.p 4] [] (yg 4) (jc (yg 0) (jc (yg 1) (jc (yg 2) (jc (yg 3) yh)))) yh)))
 (yi (yt 7 (yr (dZip (jc (yg 5) (jc (yg 6) yh))) Xx [1,0] yI (yw 10 "set_to" Js 3 0 [.p 0,.p 1,.p 2] [] (dOp gIx (xa 11 "clocks" (yg 3)) (yg 0)) (jc (yg 1) (jc (yg 2) yh)) yh)))
 (yi (xP 11 "last_beat" (yg 1) (yg 0))
 (yi (yq (dMt yR (xa 11 "past" (yg 0)) (jc (dTup (jc (yg 1) (jc (dCB (one fList) (jc (yg 7) yh)) yh))) yh)))
 (yD (yg 7)))))))))
def Xj:List PV->Sto->Res PV:=yz 4 8 d_zau
def d_zam:DS:=(yi (yq (jr Yu 3 0 [.p 0,.p 1,.p 2] [] (jc (yg 1) (jc (dCB (one yA) (jc (xa 11 "clocks" (yg 0)) yh)) (jc (xa 11 "liars" (yg 0)) yh))) yh))
 (yi (sIf (yk (dOp (gIn false) (yg 1) (xa 11 "waits" (yg 0)))) (xw 6 (jc (dC (.str "this house waits")) yh)) yB)
 (yi (sIf (yk (dOp gLe (dOp xF (dCB (one yA) (jc (yw 11 "members" xR 1 0 [.p 0] [] (yg 0) yh yh) yh)) (dC (.int 1))) (dOp Xr (dC (.int 2)) (xa 11 "few" (yg 0))))) (xw 6 (jc (dC (.str "too few would be left")) yh)) yB)
 (yq (dMt yR (xa 11 "waits" (yg 0)) (jc (yg 1) yh))))))
def D_zam:List PV->Sto->Res PV:=yz 2 2 d_zam
def d_zbs:DS:=(yi (yt 6 (jr xO 2 0 [.p 0,.p 1] [] (jc (yg 0) (jc (yr (dIt (yg 2)) xH [3] (yk (dOp (gIn true) (yg 0) (yg 1))) (yg 0)) yh)) yh))
 (sIf (yk (dOp gGt (dOp xF (dCB (one yA) (jc (yg 2) yh)) (dC (.int 1))) (dOp Xr (dC (.int 2)) (yg 5)))) (yi (yq (yw 11 "leave" D_zam 2 0 [.p 0,.p 1] [] (yg 1) (jc (yg 6) yh) yh))
 (yi (yq (dMt vQ (yg 2) (jc (yg 6) yh)))
 (yq (dMt yR (yg 4) (jc (yg 6) yh))))) yB))
def Xh:List PV->Sto->Res PV:=yz 6 7 d_zbs
def d_zbi:DS:=(yD (vw (dCB (ue) (jc (yg 0) (jc (dC (.ty "int")) yh))) (dNotV (dCB (ue) (jc (yg 0) (jc (dC (.ty "bool")) yh))))))
def D_zbi:List PV->Sto->Res PV:=yz 1 1 d_zbi
def c_zah_1:DE:=(jr D_zbi 1 0 [.p 0] [] (jc (yg 0) yh) yh)
def d_zah:DS:=(yD (vw (dCB (ue) (jc (yg 0) (jc (dC (.ty "list")) yh))) (dCB (one vA) (jc (yr (dIt (yg 0)) xH [] yI c_zah_1) yh))))
def D_zah:List PV->Sto->Res PV:=yz 1 1 d_zah
def uW:DS:=(yi (yt 10 (dOp xG (yg 10) (jr yu 2 0 [.p 0,.p 1] [] (jc (yg 1) (jc (dC (.int 500)) yh)) yh)))
 (yi (yt 12 (yw 11 "readings" Xl 2 0 [.p 0,.p 1] [] (yg 5) (jc (yg 10) yh) yh))
 (yi (yt 13 (jr D_zbq 4 0 [.p 0,.p 1,.p 2,.p 3] [] (jc (yg 1) (jc (dCB (one yA) (jc (yg 6) yh)) (jc (yg 7) (jc (yg 12) yh)))) yh))
 (yi (yt 14 (jr D_zbd 3 0 [.p 0,.p 1,.p 2] [] (jc (yg 1) (jc (dCB (one yA) (jc (yg 6) yh)) (jc (yg 4) yh))) yh))
 (yi (sIf (dAnd (yk (dOp (eqG true) (yg 8) (uX yh))) (yk (dOp (eqG false) (jr yu 2 0 [.p 0,.p 1] [] (jc (yg 1) (jc (dC (.int 2)) yh)) yh) (dC (.int 0))))) (yi (yt 15 (dMt JF (yg 8) (jc (jr yu 2 0 [.p 0,.p 1] [] (jc (yg 1) (jc (dCB (one yA) (jc (yg 8) yh)) yh)) yh) yh)))
 (yi (yt 16 (yr (xj (jc (dCB (one yA) (jc (yg 6) yh)) yh)) xH [7,10,5,6] yI (dIf (yk (dOp (gIn false) (yg 0) (yg 1))) (yw 10 "shows" xE 2 0 [.p 0,.p 1] [] (dOp gIx (yg 4) (yg 0)) (jc (yg 2) yh) yh) (yw 11 "shows" uA 3 0 [.p 0,.p 1,.p 2] [] (yg 3) (jc (yg 0) (jc (yg 2) yh)) yh))))
 (yi (yt 17 (jr Yt 2 0 [.p 0,.p 1] [] (jc (jr Ys 6 0 [.p 0,.p 1,.p 2,.p 3,.p 4,.p 5] [] (jc (yg 15) (jc (yg 9) (jc (yg 16) (jc (yg 7) (jc (yg 13) (jc (yg 14) yh)))))) yh) (jc (yg 2) yh)) yh))
 (yi (sIf (dOr (yk (dOp gNotN (yw 11 "enter" D_zal 4 1 [.p 0,.p 1,.p 2,.p 3,.k 0] [] (yg 5) (jc (yg 15) (jc (yg 10) (jc (yg 13) yh))) (jc (yg 14) yh)) (dC .non))) (yk (dOp (eqG true) (yw 11 "shows" uA 3 0 [.p 0,.p 1,.p 2] [] (yg 5) (jc (yg 15) (jc (yg 10) yh)) yh) (yg 17)))) (yD (dC (.bl false))) yB)
 (yi (sIf (vB (yk (vn gLe gLe (dOp xF (dCB (Xs) (jc (yg 12) yh)) (yg 4)) (yg 17) (dOp xG (dCB (Xu) (jc (yg 12) yh)) (yg 4))))) (yD (dC (.bl false))) yB)
 (yt 9 (dCB JE (jc (dOp xG (yg 9) (uX (jc (yg 15) yh))) yh)))))))) (sIf (yk (dOp (eqG false) (jr yu 2 0 [.p 0,.p 1] [] (jc (yg 1) (jc (dC (.int 2)) yh)) yh) (dC (.int 0)))) (yq (yw 11 "meet" Xj 3 1 [.p 0,.p 1,.p 2,.k 0] [] (yg 5) (jc (yg 10) (jc (yg 13) yh)) (jc (yg 14) yh))) (yq (jr Xh 6 0 [.p 0,.p 1,.p 2,.p 3,.p 4,.p 5] [] (jc (yg 1) (jc (yg 5) (jc (yg 9) (jc (yg 7) (jc (yg 8) (jc (yg 2) yh)))))) yh))))
 (yi (sIf (dOr (yk (dOp (eqG true) (yw 11 "members" xR 1 0 [.p 0] [] (yg 5) yh yh) (yg 9))) (yk (dOp (eqG true) (yw 11 "honest" vS 1 0 [.p 0] [] (yg 5) yh yh) (yr (dIt (yg 9)) xH [7] (yk (dOp (gIn true) (yg 0) (yg 1))) (yg 0))))) (yD (dC (.bl false))) yB)
 (sIf (yk (dOp (eqG true) (dCB (one yA) (jc (yw 11 "readings" Xl 2 0 [.p 0,.p 1] [] (yg 5) (jc (yg 10) yh) yh) yh)) (dCB (one yA) (jc (yw 11 "honest" vS 1 0 [.p 0] [] (yg 5) yh yh) yh)))) (yD (dC (.bl false))) yB)))))))
def d_law:DS:=(yi (yt 1 (jr D_zbj 1 0 [.p 0] [] (jc (yg 0) yh) yh))
 (yi (yt 2 (jr yu 2 0 [.p 0,.p 1] [] (jc (yg 1) (jc (dC (.int 3)) yh)) yh))
 (yi (yt 3 (dOp xG (dOp xG (dOp Xr (dC (.int 2)) (yg 2)) (dC (.int 1))) (jr yu 2 0 [.p 0,.p 1] [] (jc (yg 1) (jc (dC (.int 3)) yh)) yh)))
 (yi (yt 4 (jr xO 2 0 [.p 0,.p 1] [] (jc (yg 1) (jc (uX (jc (dC (.int 0)) (jc (dC (.int 3)) (jc (dC (.int 50)) yh)))) yh)) yh))
 (yi (sAsg (jr D_zaq 5 0 [.p 0,.p 1,.p 2,.p 3,.p 4] [] (jc (yg 1) (jc (yg 2) (jc (yg 3) (jc (yg 4) (jc (dOp xG (dC (.int 1)) (jr yu 2 0 [.p 0,.p 1] [] (jc (yg 1) (jc (dC (.int 3)) yh)) yh)) yh))))) yh) (gT 4 (gsCons (gN 5) (gsCons (gN 6) (gsCons (gN 7) (gsCons (gN 8) gsNil))))))
 (yi (yt 9 (dLRN (jc (yg 3) yh)))
 (yi (yt 10 (dC (.int 0)))
 (yi (Jk 200 (xj (jc (dC (.int 8)) yh)) (gN 11) uW)
 (yD (jr D_zah 1 0 [.p 0] [] (jc (yw 11 "members" xR 1 0 [.p 0] [] (yg 5) yh yh) yh) yh))))))))))
def Tw (M:Sto):Prop:=∃ ns c,Town M ns c
theorem town_ok (ns:List Int):∃ M,D_zbj [.scr ns] ⟨0,fun _=>none⟩ = .ok (.ref 1) M∧Tw M∧M.n=2:=by
 cases ns with
 | nil=>exact ⟨_,rfl,⟨[0],0,rfl,rfl,by simp,Nat.le_refl _⟩,rfl⟩
 | cons n r=>exact ⟨_,rfl,⟨n :: r,0,rfl,rfl,by simp,Nat.le_refl _⟩,rfl⟩
theorem yS {M:Sto} (T:Tw M) {k:Int} (h1:1<=k) (h2:k < 1073741824):∃ d M',yu [.ref 1,.int k] M = .ok (.int d) M'∧0<=d∧d < k∧Tw M'∧Off M M':=by
 obtain ⟨ns,c,T⟩:=T
 have hl:(0:Int) < (ns.length:Int):=by
  have:ns.length≠0:=fun z=>T.ne (List.eq_nil_of_length_eq_zero z)
  omega
 have e0:yu [.ref 1,.int k] M=fin (d_zbk [some (.ref 1),some (.int k),none,none,none,none] M):=rfl;rw [e0];have a1:=xg T.tw;have a0:=xg T.row
 obtain ⟨M1,eM1⟩:∃ M1,M1=M.set 1 (.lst [.ref 0,.int (c + 1)]):=⟨_,rfl⟩
 have g0:M1.g 0=some (.lst (ns.map PV.int)):=by rw [eM1,Sto.set_ne (by decide)]; exact T.row
 have g1:M1.g 1=some (.lst [.ref 0,.int (c + 1)]):=by rw [eM1,Sto.set_same]
 have gi:∀ i,2<=i->i < M.n->M1.g i=M.g i:=fun i hi _=>by rw [eM1,Sto.set_ne (by omega)]
 have n1:M1.n=M.n:=by rw [eM1]; rfl
 have p1:putI M (.ref 1) (.int 1) (.int (c + 1))=some M1:=by
  show (match M.g 1 with
   | some (.lst xs)=>(ixN xs.length 1).map fun n=>M.set 1 (.lst (xs.set n (.int (c + 1))))
   | _=>none)=_
  rw [T.tw,eM1];rfl
 have at0:0<=(c + 1) % (ns.length:Int):=Int.emod_nonneg _ (by omega);have at1:(c + 1) % (ns.length:Int) < ns.length:=Int.emod_lt_of_pos _ hl
 obtain ⟨at_,eat⟩:∃ a,a=(c + 1) % (ns.length:Int):=⟨_,rfl⟩
 rw [<- eat] at at0 at1
 obtain ⟨cell,ecell⟩:∃ z,ns[at_.toNat]? = some z:=⟨_,List.getElem?_eq_getElem (by omega)⟩
 have b1:=xg g1;have b0:=xg g0;unfold d_zbk
 have s1:dOp gIx (yg 0) (dC (.int 0)) [some (.ref 1),some (.int k),none,none,none,none] M = .ok (.ref 0) M:=by
  simp [vj a1]; rfl
 have ix0:atI (ns.map PV.int) at_=some (.int cell):=by
  rw [JK at0 (by simpa using at1),List.getElem?_map,ecell];rfl
 simp [s1,vj a1,vj b1,vj b0,yJ b0,sSetI,p1,JK,ud hl,<- eat,ix0,dMt]
 by_cases hc:1000000000000000000<=cell
 ·rw [if_pos hc,uf (by omega) h2]
  obtain ⟨M2,eM2⟩:∃ M2,M2=M1.set 0 (.lst ((ns.set at_.toNat (cell / k)).map PV.int)):=⟨_,rfl⟩
  have p2:putI M1 (.ref 0) (.int at_) (.int (cell / k))=some M2:=by
   show (match M1.g 0 with
    | some (.lst xs)=>(ixN xs.length at_).map fun n=>M1.set 0 (.lst (xs.set n (.int (cell / k))))
    | _=>none)=_
   rw [g0,eM2]
   have:ixN (ns.map PV.int).length at_=some at_.toNat:=by
    unfold ixN;rw [if_pos at0,if_pos (by simpa using at1)]
   simp only [this];rw [List.map_set];rfl
  simp [p2,ud (show 0 < k by omega)];refine ⟨_,_,⟨rfl,rfl⟩,Int.emod_nonneg _ (by omega),Int.emod_lt_of_pos _ (by omega),⟨ns.set at_.toNat (cell / k),c + 1,?_,?_,?_,?_⟩,?_,fun i hi hn=>?_⟩
  ·rw [eM2,Sto.set_same]
  ·rw [eM2,Sto.set_ne (by decide)]; exact g1
  ·intro z
   have:=congrArg List.length z
   rw [List.length_set] at this;exact T.ne (List.eq_nil_of_length_eq_zero this)
  ·rw [eM2]; show 2<=M1.n; rw [n1]; exact T.n
  ·rw [eM2]; exact Nat.le_of_eq n1.symm
  ·rw [eM2,Sto.set_ne (by omega)]; exact gi i hi hn
 ·rw [if_neg hc]
  obtain ⟨x,ex⟩:∃ x,x=(cell + 104729 * (c + 1)) % 4294967291:=⟨_,rfl⟩
  have x0:0<=x:=by rw [ex]; exact Int.emod_nonneg _ (by decide)
  have x1:x < 4294967291:=by rw [ex]; exact Int.emod_lt_of_pos _ (by decide)
  obtain ⟨y,ey⟩:∃ y,y=x ^ 5 % 4294967279:=⟨_,rfl⟩
  have y0:0<=y:=by rw [ey]; exact Int.emod_nonneg _ (by decide)
  have y1:y < 4294967279:=by rw [ey]; exact Int.emod_lt_of_pos _ (by decide)
  have ix1:atI [PV.ref 0,PV.int (c + 1)] 1=some (.int (c + 1)):=rfl
  simp [vj b1,ix1,xL (i:=104729) (j:=c + 1) (.inl (by decide)),ud (show (0:Int) < 4294967291 by decide),<- ex,gPow_int (i:=x) (j:=5) (by decide) (by decide) (by omega),ud (show (0:Int) < 4294967279 by decide),<- ey,
   uf (show (0:Int) < 64 by decide) (by decide),xL (i:=y / 64) (j:=69621) (.inr (by decide)),ud (show (0:Int) < 4294967231 by decide),uf (show (0:Int) < 8 by decide) (by decide),ud (show 0 < k by omega)]
  exact ⟨_,_,⟨rfl,rfl⟩,Int.emod_nonneg _ (by omega),Int.emod_lt_of_pos _ (by omega),⟨ns,c + 1,g0,g1,T.ne,by rw [n1]; exact T.n⟩,Nat.le_of_eq n1.symm,gi⟩
theorem Je {M:Sto} (T:Tw M) {xs:List PV} (hne:xs≠[]) (hl:xs.length < 1073741824):∃ x M',xO [.ref 1,.lst xs] M = .ok x M'∧x ∈ xs∧Tw M'∧Off M M':=by
 have h0:xs.length≠0:=fun z=>hne (List.eq_nil_of_length_eq_zero z);obtain ⟨d,M',e,d0,d1,T',o⟩:=yS T (k:=(xs.length:Int)) (by omega) (by omega)
 have hd:d.toNat < xs.length:=by omega
 refine ⟨xs[d.toNat],M',?_,List.getElem_mem hd,T',o⟩;have e0:xO [.ref 1,.lst xs] M=fin (d_zbl [some (.ref 1),some (.lst xs)] M):=rfl;rw [e0];unfold d_zbl;simp [yl,gen,yJ (M:=M) (x:=.lst xs) rfl,e,vj (M:=M') (x:=.lst xs) rfl,JK d0 d1,List.getElem?_eq_getElem hd]
theorem number_ok {M:Sto} (T:Tw M):∃ n M',D_zax [.ref 1] M = .ok (.int n) M'∧-1000000<=n∧n<=1000000∧Tw M'∧Off M M':=by
 obtain ⟨m,M1,e1,hm,T1,o1⟩:=Je T (xs:=[.int 3,.int 30,.int 1000,.int 1000001]) (by simp) (by decide)
 obtain ⟨k,rfl,k1,k2⟩:∃ k:Int,m = .int k∧1<=k∧k<=1000001:=by
  simp only [List.mem_cons,List.mem_nil_iff,or_false] at hm
  rcases hm with rfl | rfl | rfl | rfl
  ·exact ⟨_,rfl,by decide,by decide⟩
  ·exact ⟨_,rfl,by decide,by decide⟩
  ·exact ⟨_,rfl,by decide,by decide⟩
  ·exact ⟨_,rfl,by decide,by decide⟩
 obtain ⟨d,M2,e2,d0,d1,T2,o2⟩:=yS T1 (k:=k) k1 (by omega);obtain ⟨b,M3,e3,b0,b1,T3,o3⟩:=yS T2 (k:=2) (by decide) (by decide);have e0:D_zax [.ref 1] M=fin (d_zax [some (.ref 1),none,none] M):=rfl
 have sz:(4:Nat)<=sizeLine:=by decide
 rw [e0];unfold d_zax
 by_cases hb:b=0
 ·subst hb;have eq:eqG false M3 (.int 0) (.int 0)=some (.bl true):=rfl;simp [yl,gen,sz,e1,e2,e3,eq];exact ⟨_,_,⟨rfl,rfl⟩,by omega,by omega,T3,(o1.trans o2).trans o3⟩
 ·have eq:eqG false M3 (.int b) (.int 0)=some (.bl false):=by
   show some (PV.bl (b == 0))=_;rw [show (b == 0)=false by simpa using hb]
  simp [yl,gen,sz,e1,e2,e3,eq];exact ⟨_,_,⟨rfl,rfl⟩,by omega,by omega,T3,(o1.trans o2).trans o3⟩
theorem liars_ok {M:Sto} (T:Tw M) {crew most:Int} (h0:0<=crew) (h1:crew<=1000) (hm:0<=most):∃ (fs:List Int) (M':Sto),D_zba [.ref 1,.int crew,.int most] M = .ok (.lst (fs.map PV.int)) M'∧(fs.length:Int)<=most∧(∀ f ∈ fs,0<=f∧f < crew)∧fs.Pairwise (· < ·)∧Tw M'∧Off M M':=by
 have hn2:2<=M.n:=by obtain ⟨ns,c,t⟩:=T; exact t.n
 have e0:D_zba [.ref 1,.int crew,.int most] M=(fin (d_zba [some (.ref 1),some (.int crew),some (.int most),none,none] M)).noX:=rfl;have sz:(0:Nat)<=sizeLine:=Nat.zero_le _
 have T0:Tw (M.new (.lst [])):=by
  obtain ⟨ns,c,t⟩:=T;exact ⟨ns,c,by rw [Sto.new_ne (by omega)]; exact t.row,by rw [Sto.new_ne (by omega)]; exact t.tw,t.ne,Nat.le_succ_of_le t.n⟩
 have dr:xj (jc (yg 1) yh) [some (.ref 1),some (.int crew),some (.int most),some (.ref M.n),none] (M.new (.lst [])) = .ok (.fix (xl 0 crew.toNat)) (M.new (.lst [])):=by
  have:xv crew=true:=yp.mpr (by omega)
  simp [xj,this]
 have lp:=vh (g:=gN 4) (db:=uV)
  (fun i ρ M'=>∃ (h:Option PV) (fs:List Int),ρ=[some (.ref 1),some (.int crew),some (.int most),some (.ref M.n),h]∧M'.g M.n=some (.lst (fs.map PV.int))∧Tw M'∧M.n < M'.n∧(∀ j,2<=j->j < M.n->M'.g j=M.g j)∧(fs.length:Int)<=most∧(∀ f ∈ fs,0<=f∧f < i)∧fs.Pairwise (· < ·)∧fs.length<=i)
  (xl 0 crew.toNat) 0 [some (.ref 1),some (.int crew),some (.int most),some (.ref M.n),none] (M.new (.lst []))
  ⟨none,[],rfl,Sto.new_same,T0,Nat.lt_succ_self _,fun j _ hj=>Sto.new_ne (by omega),by simpa using hm,by simp,.nil,Nat.le_refl _⟩ (by
   rintro i x hx ρ M1 ⟨hh,fs,rfl,g1,T1,n1,of1,len1,mem1,pw1,li1⟩;rw [vH] at hx;split at hx
   ·rename_i hi;cases hx;generalize hzi:(0 + (i:Int))=z;obtain ⟨d,M2,ed,d0,d1,T2,o2⟩:=yS T1 (k:=3) (by decide) (by decide)
    have g2:M2.g M.n=some (.lst (fs.map PV.int)):=by rw [o2.g M.n hn2 n1]; exact g1
    have of2:∀ j,2<=j->j < M.n->M2.g j=M.g j:=fun j hj hn=>by rw [o2.g j hj (by omega)]; exact of1 j hj hn
    have n2:M.n < M2.n:=Nat.lt_of_lt_of_le n1 o2.n
    have mem2:∀ f ∈ fs,0<=f∧f < ((0 + i + 1:Nat):Int):=fun f hf=>by have:=mem1 f hf; omega
    have stay1:∃ (h:Option PV) (fs:List Int),[some (.ref 1),some (.int crew),some (.int most),some (.ref M.n),some (PV.int z)]=[some (.ref 1),some (.int crew),some (.int most),some (.ref M.n),h]∧M1.g M.n=some (.lst (fs.map PV.int))∧Tw M1∧M.n < M1.n∧(∀ j,2<=j->j < M.n->M1.g j=M.g j)∧(fs.length:Int)<=most∧(∀ f ∈ fs,0<=f∧f < ((0 + i + 1:Nat):Int))∧fs.Pairwise (· < ·)∧fs.length<=0 + i + 1:=⟨_,fs,rfl,g1,T1,n1,of1,len1,mem2,pw1,by omega⟩
    have lenE:yA M1 (.ref M.n)=some (.int fs.length):=by
     rw [yJ (xg g1),List.length_map]
    by_cases hl:(fs.length:Int) < most
    ·by_cases hd:d=0
     ·subst hd;have eq:eqG false M2 (.int 0) (.int 0)=some (.bl true):=rfl
      have hz:fs.length < sizeLine:=by
       exact Nat.lt_of_le_of_lt (show fs.length<=1000 by omega) (by decide)
      have ap:yR M2 (.ref M.n) [.int z]=some (.non,M2.set M.n (.lst ((fs ++ [z]).map PV.int))):=by
       unfold yR
       have:cellL M2 (.ref M.n)=some (M.n,fs.map PV.int):=by
        show (match M2.g M.n with
         | some (.lst xs)=>some (M.n,xs)
         | _=>none)=_
        rw [g2]
       rw [this];simp [hz]
      refine ⟨_,[some (.ref 1),some (.int crew),some (.int most),some (.ref M.n),some (PV.int z)],M2.set M.n (.lst ((fs ++ [z]).map PV.int)),rfl,?_,_,fs ++ [z],rfl,Sto.set_same,?_,n2,fun j hj hn=>?_,by simp; omega,fun f hf=>?_,?_,by simp; omega⟩
      ·have sq:yV M2 (.ref M.n)=some (fs.map PV.int):=yF g2;simp [uV,yl,gen,gN,lenE,hl,ed,eq,dMt,sq,ap]
      ·obtain ⟨ns,c,t⟩:=T2;exact ⟨ns,c,by rw [Sto.set_ne (by omega)]; exact t.row,by rw [Sto.set_ne (by omega)]; exact t.tw,t.ne,t.n⟩
      ·rw [Sto.set_ne (by omega)];exact of2 j hj hn
      ·rcases List.mem_append.mp hf with hf | hf
       ·exact mem2 f hf
       ·rw [List.mem_singleton.mp hf];omega
      ·refine List.pairwise_append.mpr ⟨pw1,List.pairwise_singleton _ _,fun a ha b hb=>?_⟩;rw [List.mem_singleton.mp hb]
       have:=mem1 a ha
       omega
     ·have eq:eqG false M2 (.int d) (.int 0)=some (.bl false):=by
       show some (PV.bl (d == 0))=_;rw [show (d == 0)=false by simpa using hd]
      refine ⟨_,[some (.ref 1),some (.int crew),some (.int most),some (.ref M.n),some (PV.int z)],M2,rfl,?_,_,fs,rfl,g2,T2,n2,of2,len1,mem2,pw1,by omega⟩;simp [uV,yl,gen,gN,lenE,hl,ed,eq]
    ·refine ⟨_,[some (.ref 1),some (.int crew),some (.int most),some (.ref M.n),some (PV.int z)],M1,rfl,?_,stay1⟩;simp [uV,gN,lenE,hl]
   ·cases hx)
 obtain ⟨ρ',M',e,hh,fs,rfl,g',T',n',of',len',mem',pw',_⟩:=lp;rw [xx] at mem';refine ⟨fs,M'.drop M.n,?_,len',fun f hf=>by have:=mem' f hf; omega,pw',?_,Nat.le_of_lt n',fun i hi hn=>?_⟩
 ·rw [e0];unfold d_zba
  have e1:(Xb yh [some (.ref 1),some (.int crew),some (.int most),none,none] M) = .ok (.ref M.n) (M.new (.lst [])):=by simp [sz]
  simp only [sSeq_eq,sSet_eq,e1,Res.st_ok,RS.then_nx,List.set_cons_succ,List.set_cons_zero];rw [uG dr,e];simp [dFrz,g']
 ·obtain ⟨ns,c,t⟩:=T';exact ⟨ns,c,by show (if 0=M.n then none else M'.g 0)=_; rw [if_neg (by omega)]; exact t.row,by show (if 1=M.n then none else M'.g 1)=_; rw [if_neg (by omega)]; exact t.tw,t.ne,t.n⟩
 ·show (if i=M.n then none else M'.g i)=_;rw [if_neg (by omega)];exact of' i hi hn

def wholeP:PV->Bool
 | .int _=>true
 | _=>false
def inWP (x:PV) (a b:Int):Bool:=match x with
 | .int i=>decide (a<=i) && decide (i<=b)
 | _=>false
def Kd (M:Sto) (x:PV):Prop:=∃ n,Yh M x=some n
theorem isi_kd {M:Sto} {x:PV} {n m:String} (h:Yh M x=some n) (hm:m ∈ xB):ue M [x,.ty m]=some (.bl (sub n m),M):=by
 show (match Yh M x with
  | some n=>if m ∈ xB then some (PV.bl (sub n m),M) else none
  | none=>none)=_
 rw [h];exact if_pos hm
theorem wholeP_kd {M:Sto} {x:PV} {n:String} (h:Yh M x=some n):(sub n "int" && !sub n "bool")=wholeP x:=by
 cases x with
 | ref i =>
  have h:(match M.g i with
   | some (.lst _)=>some "list"
   | _=>none)=some n:=h
  split at h
  ·cases h; rfl
  ·cases h
 | non=>cases h; rfl
 | bl _=>cases h; rfl
 | int _=>cases h; rfl
 | str _=>cases h; rfl
 | tup _=>cases h; rfl
 | lst _=>cases h; rfl
 | dct _=>cases h; rfl
 | _=>cases h
theorem is_whole_eq {M:Sto} {x:PV} (h:Kd M x):D_zbt [x] M = .ok (.bl (wholeP x)) M:=by
 obtain ⟨n,h⟩:=h;have e0:D_zbt [x] M=fin (d_zbt [some x] M):=rfl;rw [e0,<- wholeP_kd h];unfold d_zbt;simp [vw,dNotV,isi_kd h (show "int" ∈ xB by decide),isi_kd h (show "bool" ∈ xB by decide)];cases sub n "int" <;> simp
theorem law_whole_eq {M:Sto} {x:PV} (h:Kd M x):D_zbi [x] M = .ok (.bl (wholeP x)) M:=by
 obtain ⟨n,h⟩:=h;have e0:D_zbi [x] M=fin (d_zbi [some x] M):=rfl;rw [e0,<- wholeP_kd h];unfold d_zbi;simp [vw,dNotV,isi_kd h (show "int" ∈ xB by decide),isi_kd h (show "bool" ∈ xB by decide)];cases sub n "int" <;> simp
theorem vy {M:Sto} {x:PV} {a b:Int} (h:Kd M x):um [x,.int a,.int b] M = .ok (.bl (inWP x a b)) M:=by
 have e0:um [x,.int a,.int b] M=fin (d_zbm [some x,some (.int a),some (.int b)] M):=rfl;rw [e0];unfold d_zbm;simp [yl,gen,is_whole_eq h,vw,vn]
 cases x with
 | int i =>
  simp [wholeP,inWP]
  by_cases h:a<=i <;> simp [h]
 | _=>rfl
theorem is_number_eq {M:Sto} {x:PV} (h:Kd M x):D_zbr [x] M = .ok (.bl (inWP x (-1000000) 1000000)) M:=by
 have e0:D_zbr [x] M=fin (d_zbr [some x] M):=rfl;rw [e0];unfold d_zbr;simp [yl,gen,vy h]
theorem Kd.int {M:Sto} (i:Int):Kd M (.int i):=⟨_,rfl⟩
theorem jD {M:Sto} {x:PV} {a b:Int} (h:Kd M x) (ha:xv a=true) (hb:xv b=true):xQ [x,.int a,.int b] M=if inWP x a b=true then .ok .non M else .exc 0 M:=by
 have e0:xQ [x,.int a,.int b] M=fin (d_zan [some x,some (.int a),some (.int b)] M):=rfl;rw [e0];unfold d_zan;simp [yl,gen,vy h]
 cases inWP x a b with
 | true=>simp
 | false =>
  have sz:(1:Nat)<=sizeLine:=by decide
  simp [dFstr,jTxt,jInt,jNil,ha,hb,sz]
theorem check_few_eq {M:Sto} {x:PV} (h:Kd M x):D_zbn [x] M=if inWP x 0 5=true then .ok .non M else .exc 0 M:=by
 have e0:D_zbn [x] M=fin (d_zbn [some x] M):=rfl;rw [e0];unfold d_zbn;simp [yl,gen,jD h (a:=0) (b:=5) (by decide) (by decide)];cases inWP x 0 5 <;> simp
theorem Xv {M:Sto} {x:PV} (h:Kd M x):D_zao [x] M=if inWP x (-1000000) 1000000=true then .ok .non M else .exc 0 M:=by
 have e0:D_zao [x] M=fin (d_zao [some x] M):=rfl;rw [e0];unfold d_zao;simp [yl,gen,jD h (a:=-1000000) (b:=1000000) (by decide) (by decide)];cases inWP x (-1000000) 1000000 <;> simp
theorem YF {M:Sto} {n m:Int}:eqG false M (.int n) (.int m)=some (.bl (n == m)):=rfl
theorem JB {M:Sto} {n m:Int}:eqG true M (.int n) (.int m)=some (.bl (!(n == m))):=rfl
theorem xS {n:Nat} (h:n<=1000):n < sizeLine:=Nat.lt_of_le_of_lt h (by decide)
theorem fMin_ints {M:Sto} {n:Int} {ns:List Int}:fMin M (.lst ((n :: ns).map PV.int))=some (.int (uB (n :: ns))):=by
 unfold fMin iseq;simp only [xc,Option.bind_some,xC]
theorem fMax_ints {M:Sto} {n:Int} {ns:List Int}:fMax M (.lst ((n :: ns).map PV.int))=some (.int (uC (n :: ns))):=by
 unfold fMax iseq;simp only [xc,Option.bind_some,xC]
theorem gMin_ints {M:Sto} {n:Int} {ns:List Int}:Xs M [.lst ((n :: ns).map PV.int)]=some (.int (uB (n :: ns)),M):=by
 unfold Xs orC;rw [yP,fMin_ints]
theorem gMax_ints {M:Sto} {n:Int} {ns:List Int}:Xu M [.lst ((n :: ns).map PV.int)]=some (.int (uC (n :: ns)),M):=by
 unfold Xu orC;rw [yP,fMax_ints]

theorem Jc {M:Sto} {c:Nat} {x y:Cell}:(M.set c x).set c y=M.set c y:=by
 unfold Sto.set;congr 1;funext j
 by_cases h:j=c <;> simp [h]
structure Ex (M M':Sto):Prop where
 n:M.n<=M'.n
 g:∀ i,i < M.n->M'.g i=M.g i
theorem Ex.trans {A B C:Sto} (h:Ex A B) (k:Ex B C):Ex A C:=⟨Nat.le_trans h.n k.n,fun i hi=>(k.g i (Nat.lt_of_lt_of_le hi h.n)).trans (h.g i hi)⟩
theorem Ex.tw {M M':Sto} (h:Ex M M') (T:Tw M):Tw M':=by
 obtain ⟨ns,c,t⟩:=T
 have:=t.n
 exact ⟨ns,c,by rw [h.g 0 (by omega)]; exact t.row,by rw [h.g 1 (by omega)]; exact t.tw,t.ne,Nat.le_trans t.n h.n⟩
theorem cut_in {xs:List PV} {a b:Int} (h0:0<=a) (h1:a<=b) (h2:b<=xs.length):Yp xs (some a) (some b)=(xs.drop a.toNat).take (b.toNat - a.toNat):=by
 unfold Yp
 have e1:HT.sIx xs.length 0 (some a)=a.toNat:=by
  simp only [HT.sIx];rw [if_neg (by omega)];omega
 have e2:HT.sIx xs.length xs.length (some b)=b.toNat:=by
  simp only [HT.sIx];rw [if_neg (by omega)];omega
 rw [e1,e2]
def vN (ws:List Int) (k:Int):List Int:=((yG ws).drop k.toNat).take (ws.length - 2 * k.toNat)
theorem Yk {M:Sto} {ws:List Int} (h:ws.length < 64):Ji M (.lst (ws.map PV.int))=some (.lst ((yG ws).map PV.int)):=by
 unfold Ji iseq;simp only [xc,Option.bind_some,xC,h,if_true]
theorem deps_ints:∀ ns:List Int,ug (ns.map PV.int)=0
 | []=>rfl
 | _ :: ns=>by
  show 0 + ug (ns.map PV.int)=0;rw [deps_ints ns]
theorem eqT_look {neg:Bool} {M:Sto} {x y z:PV} (hx:look M x=z) (hy:look M y=z) (p:plain z=true) (d:dep z<=60):eqG neg M x y=some (.bl (!neg)):=by
 unfold eqG;rw [hx,hy,if_pos ⟨p,p,d⟩,Yl p];cases neg <;> rfl
theorem uJ (ns:List Int):plain (.lst (ns.map PV.int))=true:=uI ns
theorem YI (ns:List Int):dep (.lst (ns.map PV.int))<=60:=by
 show ug (ns.map PV.int) + 1<=60;rw [deps_ints];decide
theorem go_loop {F:Nat} {dit:En->Sto->Res ItP} {g:DG} {d1 c:DS} {ρ ρ':En} {M M1 M2:Sto} {xs:List PV} (h:dit ρ M = .ok (.fix xs) M1) (hl:Jp g d1 xs ρ M1 = .nx ρ' M2) (k:Tru (c ρ' M2)):Tru (yi (Jk F dit g d1) c ρ M):=go_for h hl k
theorem many_le {u:List Int} {P:Int->Bool} {i:Nat} (h:∀ x ∈ u.take i,P x=true) (hi:i<=u.length):i<=u.countP P:=by
 have h1:(u.take i).countP P=i:=by
  rw [List.countP_eq_length.mpr h,List.length_take];omega
 have h2:=(List.take_sublist i u).countP_le (p:=P);omega
theorem many_ge {u:List Int} {P:Int->Bool} {i:Nat} (h:∀ x ∈ u.drop i,P x=true):u.length - i<=u.countP P:=by
 have h1:(u.drop i).countP P=u.length - i:=by
  rw [List.countP_eq_length.mpr h,List.length_drop]
 have h2:=(List.drop_sublist i u).countP_le (p:=P);omega
theorem many_of {u a b:List Int} {P:Int->Bool} (hp:u.Perm (a ++ b)) (ha:∀ x ∈ a,P x=false):u.countP P<=b.length:=by
 rw [hp.countP_eq,List.countP_append,List.countP_eq_zero.mpr (fun x hx=>by rw [ha x hx]; simp),Nat.zero_add];exact List.countP_le_length
theorem btw {u a b:List Int} {lo hi:Int} (hp:u.Perm (a ++ b)) (hs:u.Pairwise (·<=·)) (hin:∀ x ∈ a,lo<=x∧x<=hi) {i:Nat} (h1:b.length<=i) (h2:i + b.length < u.length) {x:Int} (hx:u[i]? = some x):lo<=x∧x<=hi:=by
 obtain ⟨hi',ex⟩:=List.getElem?_eq_some_iff.mp hx;rw [List.pairwise_iff_getElem] at hs;constructor
 ·apply Int.not_lt.mp;intro hlt
  have c1:=many_le (u:=u) (P:=fun y=>decide (y < lo)) (i:=i + 1) (fun y hy=>by
   obtain ⟨j,hj,e⟩:=List.getElem_of_mem hy;rw [List.length_take] at hj;rw [List.getElem_take] at e;refine decide_eq_true ?_
   by_cases hji:j=i
   ·subst hji; omega
   ·have:=hs j i (by omega) hi' (by omega)
    omega) (by omega)
  have c2:=many_of (P:=fun y=>decide (y < lo)) hp fun y hy=>decide_eq_false (by have:=hin y hy; omega);omega
 ·apply Int.not_lt.mp;intro hlt
  have c1:=many_ge (u:=u) (P:=fun y=>decide (hi < y)) (i:=i) (fun y hy=>by
   obtain ⟨j,hj,e⟩:=List.getElem_of_mem hy;rw [List.length_drop] at hj;rw [List.getElem_drop] at e;refine decide_eq_true ?_
   by_cases hji:j=0
   ·subst hji
    have e':u[i]=y:=by simpa using e
    omega
   ·have:=hs i (i + j) hi' (by omega) (by omega)
    omega)
  have c2:=many_of (P:=fun y=>decide (hi < y)) hp fun y hy=>decide_eq_false (by have:=hin y hy; omega);omega
theorem xM {M:Sto} {i:Nat} {xs:List PV} (h:M.g i=some (.lst xs)):cellL M (.ref i)=some (i,xs):=by
 show (match M.g i with
  | some (.lst xs)=>some (i,xs)
  | _=>none)=_
 rw [h]

theorem ua {M:Sto} {i k:Nat} {fs:List (Str × PV)} (h:M.g i=some (.ins k fs)):uQ M k (.ref i)=some (i,fs):=by
 show (match M.g i with
  | some (.ins c fs)=>if c=k then some (i,fs) else none
  | _=>none)=_
 rw [h];exact if_pos rfl
def hon (n:Nat) (fs:List Int):List Int:=((List.range n).map fun k:Nat=>(0 + (k:Int))).filter fun h=>!decide (h ∈ fs)
theorem uw {n:Nat} {fs:List Int} {h:Int}:h ∈ hon n fs↔(0<=h∧h < n)∧h ∉ fs:=by
 unfold hon;rw [List.mem_filter,List.mem_map];constructor
 ·rintro ⟨⟨k,hk,rfl⟩,h2⟩
  have:=List.mem_range.mp hk
  exact ⟨⟨by omega,by omega⟩,by simpa using h2⟩
 ·rintro ⟨⟨h0,h1⟩,h2⟩;exact ⟨⟨h.toNat,List.mem_range.mpr (by omega),by omega⟩,by simpa using h2⟩
theorem rng_emb (n:Nat):xl 0 n=((List.range n).map fun k:Nat=>(0 + (k:Int))).map PV.int:=by
 unfold xl;rw [List.map_map];rfl
theorem at_ws {ws:List Int} {h:Int} (h0:0<=h) (h1:h < ws.length):atI (ws.map PV.int) h=some (.int (ws.getD h.toNat 0)):=by
 rw [JK h0 (by rw [List.length_map]; exact h1),List.getElem?_map,List.getD_eq_getElem?_getD,List.getElem?_eq_getElem (by omega)];rfl
theorem compN_gen {α:Type} {f:Sto->Option (List PV)} {bnd:PV->En->Option En} {r:En} {dt:DT} {de:DE} {M:Sto} (f0 g:α->PV) (as:List α) (hf:f M=some (as.map f0))
  (hx:∀ a ∈ as,∃ ρ,bnd (f0 a) r=some ρ∧dt ρ M = .ok true M∧de ρ M = .ok (g a) M):∀ (rst:List α) (k:Nat),as.drop k=rst->yL (.gen f) bnd r dt de (rst.length + 1) k M = .ok (rst.map g) M:=by
 intro rst
 induction rst with
 | nil =>
  intro k hk
  have e:nxt (.gen f) M k=some none:=by
   show (f M).map (fun xs=>xs[k]?)=_;rw [hf];show some ((as.map f0)[k]?)=_;rw [List.getElem?_map,List.getElem?_eq_none (by have:=congrArg List.length hk; simp at this; omega)];rfl
  show (match nxt (.gen f) M k with
   | none=>Res.bad
   | some none=>.ok [] M
   | some (some x)=>_)=_
  rw [e];rfl
 | cons a rst ih =>
  intro k hk
  have ea:as[k]? = some a:=by
   have:=congrArg (fun l=>l[0]?) hk
   simpa [List.getElem?_drop] using this
  have e:nxt (.gen f) M k=some (some (f0 a)):=by
   show (f M).map (fun xs=>xs[k]?)=_;rw [hf];show some ((as.map f0)[k]?)=_;rw [List.getElem?_map,ea];rfl
  have hk1:as.drop (k + 1)=rst:=by
   have:=congrArg (List.drop 1) hk
   simpa [List.drop_drop] using this
  obtain ⟨ρ,h1,h2,h3⟩:=hx a (List.mem_of_getElem? ea)
  show (match nxt (.gen f) M k with
   | none=>Res.bad
   | some none=>.ok [] M
   | some (some x)=>match bnd x r with
    | none=>.bad
    | some ρ=>(dt ρ M).noX.bind fun b M1=>if b=true then (de ρ M1).noX.bind fun y M2=>(yL (.gen f) bnd r dt de (rst.length + 1) (k + 1) M2).bind fun ys M3=>.ok (y :: ys) M3 else yL (.gen f) bnd r dt de (rst.length + 1) (k + 1) M1)=_
  rw [e];simp only [h1,h2,h3,noX_ok,Res.bind_ok,if_true,ih (k + 1) hk1];rfl
theorem dComp_gen {α:Type} {di:En->Sto->Res ItP} {f:Sto->Option (List PV)} {bnd:PV->En->Option En} {js:List Nat} {dt:DT} {de:DE} {ρ:En} {M:Sto} (f0 g:α->PV) (as:List α) (hd:di ρ M = .ok (.gen f) M) (hf:f M=some (as.map f0)) (hl:as.length < sizeLine)
  (hx:∀ a ∈ as,∃ ρ',bnd (f0 a) (rest js ρ)=some ρ'∧dt ρ' M = .ok true M∧de ρ' M = .ok (g a) M):yr di bnd js dt de ρ M = .ok (.lst (as.map g)) M:=by
 unfold yr;rw [hd];simp only [Res.bind_ok]
 have hF:xD (.gen f) M=as.length + 1:=by
  show ((f M).getD []).length + 1=_;rw [hf];simp
 rw [hF,if_pos (by omega),compN_gen f0 g as hf hx as 0 rfl];rfl
def hv (ws:List Int) (l:List (List Int × Int)) (h:Int) (k:Nat):Int:=(ux l [(k:Int),h]).getD (ws.getD k 0)
theorem cutI_len {ws:List Int} {k:Int} (k0:0<=k) (hk:2 * k < ws.length):(vN ws k).length=ws.length - 2 * k.toNat:=by
 unfold vN;rw [List.length_take,List.length_drop,(xk ws).length_eq];omega
def mid (ws:List Int) (k:Int):Int:=((vN ws k).getD 0 0 + (vN ws k).getD ((vN ws k).length - 1) 0) / 2
theorem half_way_eq {M:Sto} {ls:List Int} (h:ls≠[]):D_zbv [.lst (ls.map PV.int)] M = .ok (.int ((ls.getD 0 0 + ls.getD (ls.length - 1) 0) / 2)) M:=by
 refine ya (ρ:=[some (.lst (ls.map PV.int))]) rfl rfl ?_;unfold d_zbv;refine jT ?_;have hp:0 < ls.length:=List.length_pos_iff.mpr h;have a0:atI (ls.map PV.int) 0=some (.int (ls.getD 0 0)):=at_ws (by decide) (by omega)
 have a1:atI (ls.map PV.int) (-1)=some (.int (ls.getD (ls.length - 1) 0)):=by
  have e:ls=ls.dropLast ++ [ls.getD (ls.length - 1) 0]:=by
   conv=>lhs; rw [<- List.dropLast_concat_getLast h]
   rw [List.getLast_eq_getElem,List.getD_eq_getElem?_getD,List.getElem?_eq_getElem (by omega)];rfl
  conv=>lhs; rw [e,List.map_append]
  exact atI_last _ _
 have g0:gIx M (.lst (ls.map PV.int)) (.int 0)=some (.int (ls.getD 0 0)):=(vj (x:=.lst (ls.map PV.int)) rfl).trans a0;have g1:gIx M (.lst (ls.map PV.int)) (.int (-1))=some (.int (ls.getD (ls.length - 1) 0)):=(vj (x:=.lst (ls.map PV.int)) rfl).trans a1;simp [g0,g1,uf (show (0:Int) < 2 by decide) (by decide)]
theorem xm {M:Sto} {h n:Int}:xN [.int h,.int n] M = .ok (.bl (inWP (.int h) 0 (n - 1))) M:=by
 refine ya (ρ:=[some (.int h),some (.int n)]) rfl rfl ?_;unfold d_zbu;refine jT ?_;simp only [jY,jt,jC,jJ,jx,uh,yd,Res.bind_ok,xK,jB];exact vy (Kd.int h)
theorem xA {h a b:Int} (h0:a<=h) (h1:h<=b):inWP (.int h) a b=true:=by
 show (decide (a<=h) && decide (h<=b))=true;simp [h0,h1]
def JL (l:List (List Int × Int)) (fs:List Int) (n:Int):Prop:=∀ p ∈ l,∃ f h,p.1=[f,h]∧f ∈ fs∧(0<=f∧f < n)∧(0<=h∧h < n)∧-1000000<=p.2∧p.2<=1000000
theorem is_key_eq {M:Sto} {f h n:Int} {fs:List Int} (hf:f ∈ fs) (f0:0<=f∧f < n) (h0:0<=h∧h < n):D_zbx [.tup [.int f,.int h],.lst (fs.map PV.int),.int n] M = .ok (.bl true) M:=by
 refine ya (ρ:=[some (.tup [.int f,.int h]),some (.lst (fs.map PV.int)),some (.int n)]) rfl rfl ?_;unfold d_zbx;have i0:gIx M (.tup [.int f,.int h]) (.int 0)=some (.int f):=rfl;have i1:gIx M (.tup [.int f,.int h]) (.int 1)=some (.int h):=rfl;have ip:Xg [.tup [.int f,.int h]] M = .ok (.bl true) M:=rfl
 have a1:xN [.int f,.int n] M = .ok (.bl true) M:=by rw [xm,xA f0.1 (by omega)]
 have a2:xN [.int h,.int n] M = .ok (.bl true) M:=by rw [xm,xA h0.1 (by omega)]
 have gi:gIn false M (.int f) (.lst (fs.map PV.int))=some (.bl true):=by
  rw [xn (neg:=false) (M:=M) (x:=.lst (fs.map PV.int)) (k:=f) (ns:=fs) rfl];simp [hf]
 refine uK (M1:=M) ?_ (jT ?_)
 ·simp [yl,gen,i0,i1,ip,a1,a2,Yx]
 ·simp [i0,gi]
theorem check_lies_ok {M:Sto} {l:List (List Int × Int)} {fs:List Int} {n:Int} (h:JL l fs n) (hl:l.length < 1000):D_zbf [.dct l,.lst (fs.map PV.int),.int n] M = .ok .non M:=by
 have e0:D_zbf [.dct l,.lst (fs.map PV.int),.int n] M=fin (d_zbf [some (.dct l),some (.lst (fs.map PV.int)),some (.int n)] M):=rfl;rw [e0];unfold d_zbf;have q1:ue M [.dct l,.ty "dict"]=some (.bl true,M):=rfl
 have q2:yr (dItems (yg 0)) Xx [1,2] yI c_zbf_1 [some (.dct l),some (.lst (fs.map PV.int)),some (.int n)] M = .ok (.lst (l.map fun _=>.bl true)) M:=by
  refine jP (xs:=vK l) (M1:=M) rfl (by unfold vK; rw [List.length_map]; exact xS (by omega)) ?_;unfold vK
  refine yb (fun p:List Int × Int=>PV.tup [.tup (p.1.map PV.int),.int p.2]) (fun _=>.bl true) _ fun p hp=>⟨[some (.tup (p.1.map PV.int)),some (.int p.2),some (.lst (fs.map PV.int)),some (.int n)],rfl,rfl,?_⟩
  obtain ⟨f,k,e,hf,f0,k0,v0,v1⟩:=h p hp
  have b1:D_zbr [.int p.2] M = .ok (.bl true) M:=by rw [is_number_eq (Kd.int _),xA v0 v1]
  unfold c_zbf_1;rw [e];show vw _ _ [some (.tup [.int f,.int k]),some (.int p.2),some (.lst (fs.map PV.int)),some (.int n)] M=_;simp [yl,gen,vw,is_key_eq hf f0 k0,b1,Yx]
 have q3:vA M (.lst (l.map fun _=>PV.bl true))=some (.bl true):=by
  have e1:(l.map fun _=>PV.bl true)=(l.map fun _=>true).map PV.bl:=by rw [List.map_map]; rfl
  unfold vA YN;rw [e1];simp only [xc,Option.bind_some,yT]
  have:(l.map fun _=>true).all id=true:=by simp
  rw [this]
 simp [q1,q2,q3,Yx]

theorem getL_mem {l:List (List Int × Int)} {k:List Int} {v:Int} (h:ux l k=some v):(k,v) ∈ l:=by
 unfold ux at h;obtain ⟨p,hp,rfl⟩:=Option.map_eq_some_iff.mp h;have h1:=List.find?_some hp;have h2:=List.mem_of_find?_eq_some hp
 have h1:p.1=k:=by simpa using h1
 rw [<- h1];exact h2
theorem compN_live {j:Nat} {bnd:PV->En->Option En} {r:En} {dt:DT} {de:DE}:∀ (n k:Nat) (M:Sto),yL (.live j) bnd r dt de n k M=yL (.gen fun M=>yV M (.ref j)) bnd r dt de n k M:=by
 intro n
 induction n with
 | zero=>intro k M; rfl
 | succ n ih =>
  intro k M;unfold yL;simp only [ih];rfl
theorem dComp_live {α:Type} {j:Nat} {di:En->Sto->Res ItP} {bnd:PV->En->Option En} {js:List Nat} {dt:DT} {de:DE} {ρ:En} {M:Sto} (f0 g:α->PV) (as:List α) (hd:di ρ M = .ok (.live j) M) (hf:M.g j=some (.lst (as.map f0))) (hl:as.length < sizeLine)
  (hx:∀ a ∈ as,∃ ρ',bnd (f0 a) (L3.rest js ρ)=some ρ'∧dt ρ' M = .ok true M∧de ρ' M = .ok (g a) M):yr di bnd js dt de ρ M = .ok (.lst (as.map g)) M:=by
 have h1:=dComp_gen (di:=fun _ M=>.ok (.gen fun M=>yV M (.ref j)) M) (js:=js) (ρ:=ρ) f0 g as rfl (yF hf) hl hx;unfold yr at h1 ⊢;rw [hd];simp only [Res.bind_ok] at h1 ⊢;rw [show xD (.live j) M=xD (.gen fun M=>yV M (.ref j)) M from rfl,compN_live];exact h1
theorem cut1 (fs:List Int):Yp (fs.map PV.int) (some 1) none=(fs.drop 1).map PV.int:=by
 cases fs with
 | nil=>rfl
 | cons a r =>
  unfold Yp
  have e1:HT.sIx ((a :: r).map PV.int).length 0 (some 1)=1:=by
   unfold HT.sIx;simp
  have e2:HT.sIx ((a :: r).map PV.int).length ((a :: r).map PV.int).length none=((a :: r).map PV.int).length:=rfl;rw [e1,e2,List.map_drop,List.take_of_length_le];rw [List.length_drop];exact Nat.le_refl _
theorem is_rising_ok {M:Sto} {fs:List Int} (h:fs.Pairwise (· < ·)) (hl:fs.length<=40):D_zbo [.lst (fs.map PV.int)] M = .ok (.bl true) M:=by
 refine ya (ρ:=[some (.lst (fs.map PV.int))]) rfl rfl ?_;unfold d_zbo;refine jT ?_
 have gs:gSl M (.lst (fs.map PV.int)) (some 1) none=some (.lst ((fs.drop 1).map PV.int)):=by
  show some (PV.lst (Yp (fs.map PV.int) (some 1) none))=_;rw [cut1]
 have q2:yr (dZipS (jc (yg 0) (jc (dSl (yg 0) (dOS (dC (.int 1))) dON) yh))) Xx [] yI (dOp gLt (yg 0) (yg 1)) [some (.lst (fs.map PV.int))] M = .ok (.lst ((fs.zip (fs.drop 1)).map fun _=>.bl true)) M:=by
  refine jP (xs:=(fs.zip (fs.drop 1)).map fun p=>PV.tup [.int p.1,.int p.2]) (M1:=M) ?_ (by rw [List.length_map,List.length_zip]; exact xS (by omega)) ?_
  ·have e3:dSl (yg 0) (dOS (dC (.int 1))) dON [some (.lst (fs.map PV.int))] M = .ok (.lst ((fs.drop 1).map PV.int)) M:=by
    show ofO (gSl M (.lst (fs.map PV.int)) (some 1) none) M=_;rw [gs];rfl
   unfold dZipS;simp only [jt,jC,e3,jx,Res.bind_ok];congr 2;unfold vG;rw [List.zipWith_map];unfold List.zip;rw [List.map_zipWith]
  ·refine yb (fun p:Int × Int=>PV.tup [.int p.1,.int p.2]) (fun _=>.bl true) _ fun p hp=>⟨[some (.int p.1),some (.int p.2)],rfl,rfl,?_⟩
   have lt:p.1 < p.2:=by
    obtain ⟨k,hk⟩:=List.getElem?_of_mem hp;rw [List.getElem?_zip_eq_some] at hk;obtain ⟨k1,k2⟩:=hk;rw [List.getElem?_drop] at k2;obtain ⟨l1,e1⟩:=List.getElem?_eq_some_iff.mp k1;obtain ⟨l2,e2⟩:=List.getElem?_eq_some_iff.mp k2;rw [<- e1,<- e2];exact List.pairwise_iff_getElem.mp h k (1 + k) l1 l2 (by omega)
   have gl:gLt M (.int p.1) (.int p.2)=some (.bl true):=by
    show some (PV.bl (decide (p.1 < p.2)))=_;rw [decide_eq_true lt]
   simp only [yd,jC,jJ,Res.bind_ok,gl,jB]
 have q3:vA M (.lst ((fs.zip (fs.drop 1)).map fun _=>PV.bl true))=some (.bl true):=by
  have e1:((fs.zip (fs.drop 1)).map fun _=>PV.bl true)=((fs.zip (fs.drop 1)).map fun _=>true).map PV.bl:=by rw [List.map_map]; rfl
  unfold vA YN;rw [e1];simp only [xc,Option.bind_some,yT]
  have:((fs.zip (fs.drop 1)).map fun _=>true).all id=true:=by simp
  rw [this]
 simp only [yH,jt,q2,jx,Res.bind_ok,one,q3,Option.map_some]
theorem XG {M:Sto} {fs:List Int} {n s:Int} (h:fs.Pairwise (· < ·)) (hb:∀ f ∈ fs,0<=f∧f < n) (hl:(fs.length:Int)<=s) (s5:s<=40):Yv [.lst (fs.map PV.int),.int n,.int s] M = .ok .non M:=by
 show fin (d_zac [some (.lst (fs.map PV.int)),some (.int n),some (.int s)] M)=_;unfold d_zac;have q1:ue M [.lst (fs.map PV.int),.tup [.ty "list",.ty "tuple"]]=some (.bl true,M):=rfl
 have hlen:yA M (.lst (fs.map PV.int))=some (.int fs.length):=by rw [yJ (x:=.lst (fs.map PV.int)) rfl,List.length_map]
 have hg:gGt M (.int fs.length) (.int s)=some (.bl false):=by
  show some (PV.bl (decide (s < (fs.length:Int))))=_;rw [decide_eq_false (by omega)]
 have q2:yr (dIt (yg 0)) xH [1] yI Yr [some (.lst (fs.map PV.int)),some (.int n),some (.int s)] M = .ok (.lst (fs.map fun _=>.bl true)) M:=by
  refine jP (xs:=fs.map PV.int) (M1:=M) rfl (by rw [List.length_map]; exact xS (by omega)) ?_
  refine yb PV.int (fun _=>.bl true) _ fun f hf=>⟨[some (.int f),some (.int n)],rfl,rfl,?_⟩
  obtain ⟨f0,f1⟩:=hb f hf;unfold Yr;simp only [jY,jt,jC,jJ,jx,Res.bind_ok];rw [show xN (yl 2 0 [Sl.p 0,Sl.p 1] [] [PV.int f,PV.int n] []) M=_ from xm,xA f0 (by omega)]
 have q3:vA M (.lst (fs.map fun _=>PV.bl true))=some (.bl true):=by
  have e1:(fs.map fun _=>PV.bl true)=(fs.map fun _=>true).map PV.bl:=by rw [List.map_map]; rfl
  unfold vA YN;rw [e1];simp only [xc,Option.bind_some,yT]
  have:(fs.map fun _=>true).all id=true:=by simp
  rw [this]
 have s2:(2:Nat)<=sizeLine:=by decide
 simp [yl,gen,q1,hlen,hg,q2,q3,Yx,is_rising_ok h (by omega),s2]
theorem is_rising_ref {M:Sto} {j:Nat} {fs:List Int} (hj:M.g j=some (.lst (fs.map PV.int))) (h:fs.Pairwise (· < ·)) (hl:fs.length<=40):D_zbo [.ref j] M = .ok (.bl true) M:=by
 refine ya (ρ:=[some (.ref j)]) rfl rfl ?_;unfold d_zbo;refine jT ?_
 have gs:gSl M (.ref j) (some 1) none=some (.lst ((fs.drop 1).map PV.int)):=by
  show (yV M (.ref j)).map (fun xs=>PV.lst (Yp xs (some 1) none))=_;rw [yF hj];show some (PV.lst (Yp (fs.map PV.int) (some 1) none))=_;rw [cut1]
 have q2:yr (dZipS (jc (yg 0) (jc (dSl (yg 0) (dOS (dC (.int 1))) dON) yh))) Xx [] yI (dOp gLt (yg 0) (yg 1)) [some (.ref j)] M = .ok (.lst ((fs.zip (fs.drop 1)).map fun _=>.bl true)) M:=by
  refine dComp_gen (f:=fun M=>(yV M (.ref j)).map fun xs=>vG xs ((fs.drop 1).map PV.int)) (fun p:Int × Int=>PV.tup [.int p.1,.int p.2]) (fun _=>.bl true) (fs.zip (fs.drop 1)) ?_ ?_ (by rw [List.length_zip]; exact xS (by omega)) fun p hp=>⟨[some (.int p.1),some (.int p.2)],rfl,rfl,?_⟩
  ·have e3:dSl (yg 0) (dOS (dC (.int 1))) dON [some (.ref j)] M = .ok (.lst ((fs.drop 1).map PV.int)) M:=by
    show ofO (gSl M (.ref j) (some 1) none) M=_;rw [gs];rfl
   unfold dZipS;simp only [jt,jC,e3,jx,Res.bind_ok,hj]
  ·show (yV M (.ref j)).map (fun xs=>vG xs ((fs.drop 1).map PV.int))=_;rw [yF hj];show some (vG (fs.map PV.int) ((fs.drop 1).map PV.int))=_;unfold vG;rw [List.zipWith_map];unfold List.zip;rw [List.map_zipWith]
  ·have lt:p.1 < p.2:=by
    obtain ⟨k,hk⟩:=List.getElem?_of_mem hp;rw [List.getElem?_zip_eq_some] at hk;obtain ⟨k1,k2⟩:=hk;rw [List.getElem?_drop] at k2;obtain ⟨l1,e1⟩:=List.getElem?_eq_some_iff.mp k1;obtain ⟨l2,e2⟩:=List.getElem?_eq_some_iff.mp k2;rw [<- e1,<- e2];exact List.pairwise_iff_getElem.mp h k (1 + k) l1 l2 (by omega)
   have gl:gLt M (.int p.1) (.int p.2)=some (.bl true):=by
    show some (PV.bl (decide (p.1 < p.2)))=_;rw [decide_eq_true lt]
   simp only [yd,jC,jJ,Res.bind_ok,gl,jB]
 have q3:vA M (.lst ((fs.zip (fs.drop 1)).map fun _=>PV.bl true))=some (.bl true):=by
  have e1:((fs.zip (fs.drop 1)).map fun _=>PV.bl true)=((fs.zip (fs.drop 1)).map fun _=>true).map PV.bl:=by rw [List.map_map]; rfl
  unfold vA YN;rw [e1];simp only [xc,Option.bind_some,yT]
  have:((fs.zip (fs.drop 1)).map fun _=>true).all id=true:=by simp
  rw [this]
 simp only [yH,jt,q2,jx,Res.bind_ok,one,q3,Option.map_some]
theorem uO {M:Sto} {j:Nat} {xs:List PV} {d:DE} {ρ:En} (h:M.g j=some (.lst xs)) (e:d ρ M = .ok (.ref j) M):dIt d ρ M = .ok (.live j) M:=by
 unfold dIt
 have e2:itOf M (.ref j)=some (.live j):=by
  show (match M.g j with
   | some (.lst _)=>some (ItP.live j)
   | _=>none)=_
  rw [h]
 simp only [e,Res.bind_ok,e2,jB]
theorem kd_ref {M:Sto} {j:Nat} {xs:List PV} (h:M.g j=some (.lst xs)):Yh M (.ref j)=some "list":=by
 show (match M.g j with
  | some (.lst _)=>some "list"
  | _=>none)=_
 rw [h]
theorem Xo {M:Sto} {j:Nat} {fs:List Int} {n s:Int} (hj:M.g j=some (.lst (fs.map PV.int))) (h:fs.Pairwise (· < ·)) (hb:∀ f ∈ fs,0<=f∧f < n) (hl:(fs.length:Int)<=s) (s5:s<=40):Yv [.ref j,.int n,.int s] M = .ok .non M:=by
 show fin (d_zac [some (.ref j),some (.int n),some (.int s)] M)=_;unfold d_zac
 have q1:ue M [.ref j,.tup [.ty "list",.ty "tuple"]]=some (.bl true,M):=by
  unfold ue;simp only [kd_ref hj];rfl
 have hlen:yA M (.ref j)=some (.int fs.length):=by rw [yJ (xg hj),List.length_map]
 have hg:gGt M (.int fs.length) (.int s)=some (.bl false):=by
  show some (PV.bl (decide (s < (fs.length:Int))))=_;rw [decide_eq_false (by omega)]
 have q2:yr (dIt (yg 0)) xH [1] yI Yr [some (.ref j),some (.int n),some (.int s)] M = .ok (.lst (fs.map fun _=>.bl true)) M:=by
  refine dComp_live (j:=j) PV.int (fun _=>.bl true) fs (uO hj rfl) hj (xS (by omega)) fun f hf=>⟨[some (.int f),some (.int n)],rfl,rfl,?_⟩
  obtain ⟨f0,f1⟩:=hb f hf;unfold Yr;simp only [jY,jt,jC,jJ,jx,Res.bind_ok];rw [show xN (yl 2 0 [Sl.p 0,Sl.p 1] [] [PV.int f,PV.int n] []) M=_ from xm,xA f0 (by omega)]
 have q3:vA M (.lst (fs.map fun _=>PV.bl true))=some (.bl true):=by
  have e1:(fs.map fun _=>PV.bl true)=(fs.map fun _=>true).map PV.bl:=by rw [List.map_map]; rfl
  unfold vA YN;rw [e1];simp only [xc,Option.bind_some,yT]
  have:(fs.map fun _=>true).all id=true:=by simp
  rw [this]
 have s2:(2:Nat)<=sizeLine:=by decide
 simp [yl,gen,q1,hlen,hg,q2,q3,Yx,is_rising_ref hj h (by omega),s2]

structure LI (M0:Sto) (fs:List Int) (crew:Int) (L:Nat) (M:Sto):Prop where
 ex:∃ l,M.g M0.n=some (.dct l)∧JL l fs crew∧l.length<=L
 tw:Tw M
 n:M0.n < M.n
 off:∀ j,2<=j->j < M0.n->M.g j=M0.g j
theorem LI.step {M0 M M':Sto} {fs:List Int} {crew:Int} {L:Nat} (h:LI M0 fs crew L M) (h2:2<=M0.n) (T:Tw M') (o:Off M M'):LI M0 fs crew L M':=by
 obtain ⟨l,e,p,q⟩:=h.ex;exact ⟨⟨l,by rw [o.g M0.n h2 h.n]; exact e,p,q⟩,T,Nat.lt_of_lt_of_le h.n o.n,fun j hj hn=>by rw [o.g j hj (Nat.lt_trans hn h.n)]; exact h.off j hj hn⟩
theorem putL_mem {l:List (List Int × Int)} {k:List Int} {v:Int} {p:List Int × Int} (h:p ∈ putL l k v):p ∈ l∨p=(k,v):=by
 unfold putL at h;split at h
 ·obtain ⟨q,hq,rfl⟩:=List.mem_map.mp h
  by_cases z:q.1=k
  ·rw [if_pos z,z]; exact .inr rfl
  ·rw [if_neg z]; exact .inl hq
 ·rcases List.mem_append.mp h with h | h
  ·exact .inl h
  ·exact .inr (List.mem_singleton.mp h)
theorem putL_len (l:List (List Int × Int)) (k:List Int) (v:Int):(putL l k v).length<=l.length + 1:=by
 unfold putL;split
 ·rw [List.length_map]; omega
 ·rw [List.length_append]; exact Nat.le_refl _
theorem LI.put {M0 M:Sto} {fs:List Int} {crew:Int} {L:Nat} {f h v:Int} (t:LI M0 fs crew L M) (h2:2<=M0.n) (hL:L < 1000) (hf:f ∈ fs) (f0:0<=f∧f < crew) (k0:0<=h∧h < crew) (v0:-1000000<=v∧v<=1000000) :
  ∃ M',putT M (.ref M0.n) [.int f,.int h] (.int v)=some M'∧LI M0 fs crew (L + 1) M':=by
 obtain ⟨l,e,p,q⟩:=t.ex
 have s2:(2:Nat)<=sizeLine:=by decide
 have hl:l.length < sizeLine:=xS (by omega);refine ⟨M.set M0.n (.dct (putL l [f,h] v)),?_,⟨⟨_,Sto.set_same,fun r hr=>?_,by have:=putL_len l [f,h] v; omega⟩,?_,t.n,fun j hj hn=>?_⟩⟩
 ·unfold putT;have e6:vt [PV.int f,.int h]=some [f,h]:=rfl;simp only [e,e6,List.length_cons,List.length_nil,s2,hl,and_self,if_true]
 ·rcases putL_mem hr with hr | rfl
  ·exact p r hr
  ·exact ⟨f,h,rfl,hf,f0,k0,v0⟩
 ·obtain ⟨ns,c,w⟩:=t.tw;exact ⟨ns,c,by rw [Sto.set_ne (by omega)]; exact w.row,by rw [Sto.set_ne (by omega)]; exact w.tw,w.ne,w.n⟩
 ·rw [Sto.set_ne (by omega)];exact t.off j hj hn
theorem lies_step {M0 M:Sto} {fs bs:List Int} {crew f h:Int} {L:Nat} {near:Option PV} (t:LI M0 fs crew L M) (h2:2<=M0.n) (hL:L < 1000) (hf:f ∈ fs) (f0:0<=f∧f < crew) (k0:0<=h∧h < crew) (hb:bs≠[]) (hbl:bs.length<=40) :
  ∃ near' M',uU [some (.ref 1),some (.int crew),some (.lst (fs.map PV.int)),some (.lst (bs.map PV.int)),some (.ref M0.n),some (.int f),some (.int h),near] M = .nx [some (.ref 1),some (.int crew),some (.lst (fs.map PV.int)),some (.lst (bs.map PV.int)),some (.ref M0.n),some (.int f),some (.int h),near'] M'∧LI M0 fs crew (L + 1) M':=by
 obtain ⟨F,hF⟩:∃ F,F=PV.lst (fs.map PV.int):=⟨_,rfl⟩
 obtain ⟨B,hB⟩:∃ B,B=PV.lst (bs.map PV.int):=⟨_,rfl⟩
 rw [<- hF,<- hB];obtain ⟨d5,M1,e1,a0,a1,T1,o1⟩:=yS t.tw (k:=5) (by decide) (by decide);have t1:=t.step h2 T1 o1
 have s3:(3:Nat)<=sizeLine:=by decide
 by_cases hd:0 < d5
 ·obtain ⟨x,M2,e2,hx,T2,o2⟩:=Je T1 (xs:=bs.map PV.int) (by simpa using hb) (by rw [List.length_map]; omega);obtain ⟨b,_,rfl⟩:=List.mem_map.mp hx;obtain ⟨d7,M3,e3,_,_,T3,o3⟩:=yS T2 (k:=7) (by decide) (by decide);obtain ⟨nn,M4,e4,_,_,T4,o4⟩:=number_ok T3;obtain ⟨y,M5,e5,hy,T5,o5⟩:=Je T4 (xs:=[.int (b + d7 - 3),.int (b + d7 - 3),.int nn]) (by simp) (show 3 < 1073741824 by decide)
  obtain ⟨yv,rfl⟩:∃ yv,y = .int yv:=by
   simp only [List.mem_cons,List.mem_nil_iff,or_false] at hy
   rcases hy with rfl | rfl | rfl <;> exact ⟨_,rfl⟩
  have t5:=(((t1.step h2 T2 o2).step h2 T3 o3).step h2 T4 o4).step h2 T5 o5
  obtain ⟨u,hu⟩:∃ u,u=(if yv < 1000000 then yv else 1000000:Int):=⟨_,rfl⟩
  obtain ⟨v,hv⟩:∃ v,v=(if u > -1000000 then u else -1000000:Int):=⟨_,rfl⟩
  have vb:-1000000<=v∧v<=1000000:=by
   rw [hv,hu]
   repeat' split
   all_goals omega
  obtain ⟨M6,e6,t6⟩:=t5.put h2 hL hf f0 k0 vb
  have gg:gGt M1 (.int d5) (.int 0)=some (.bl true):=by
   show some (PV.bl (decide ((0:Int) < d5)))=_;rw [decide_eq_true hd]
  have gm:Xs M5 [.int 1000000,.int yv]=some (.int u,M5):=by
   rw [hu];rfl
  have gx:Xu M5 [.int (-1000000),.int u]=some (.int v,M5):=by
   rw [hv];rfl
  have e2:xO [.ref 1,B] M1 = .ok (.int b) M2:=by rw [hB]; exact e2
  refine ⟨some (.int (b + d7 - 3)),M6,?_,t6⟩;unfold uU sIf
  have et:yk (dOp gGt (jr yu 2 0 [.p 0,.p 1] [] (jc (yg 0) (jc (dC (.int 5)) yh)) yh) (dC (.int 0))) [some (.ref 1),some (.int crew),some F,some B,some (.ref M0.n),some (.int f),some (.int h),near] M = .ok true M1:=by
   simp [yl,gen,e1,gg]
  rw [et];simp only [Res.st_ok,if_true];refine jW (v:=.int (b + d7 - 3)) (M1:=M3) (by simp [yl,gen,e2,e3]) ?_;simp only [List.set_cons_succ,List.set_cons_zero];unfold sPutT
  have ev:dCB (Xu) (jc (dOp xF (dC (.int 0)) (dC (.int 1000000))) (jc (dCB (Xs) (jc (dC (.int 1000000)) (jc (jr xO 2 0 [.p 0,.p 1] [] (jc (yg 0) (jc (uX (jc (yg 7) (jc (yg 7) (jc (jr D_zax 1 0 [.p 0] [] (jc (yg 0) yh) yh) yh)))) yh)) yh) yh))) yh)) [some (.ref 1),some (.int crew),some F,some B,some (.ref M0.n),some (.int f),some (.int h),some (.int (b + d7 - 3))] M3 = .ok (.int v) M5:=by
   simp [yl,gen,e4,e5,s3,gm,gx]
  rw [ev];simp only [Res.st_ok];have eo:yg 4 [some (.ref 1),some (.int crew),some F,some B,some (.ref M0.n),some (.int f),some (.int h),some (.int (b + d7 - 3))] M5 = .ok (.ref M0.n) M5:=rfl;have ek:jc (yg 5) (jc (yg 6) yh) [some (.ref 1),some (.int crew),some F,some B,some (.ref M0.n),some (.int f),some (.int h),some (.int (b + d7 - 3))] M5 = .ok [.int f,.int h] M5:=rfl;rw [eo];simp only [Res.st_ok];rw [ek];simp only [Res.st_ok,e6]
 ·have gg:gGt M1 (.int d5) (.int 0)=some (.bl false):=by
   show some (PV.bl (decide ((0:Int) < d5)))=_;rw [decide_eq_false hd]
  refine ⟨near,M1,?_,⟨?_,t1.tw,t1.n,t1.off⟩⟩
  ·unfold uU sIf
   have et:yk (dOp gGt (jr yu 2 0 [.p 0,.p 1] [] (jc (yg 0) (jc (dC (.int 5)) yh)) yh) (dC (.int 0))) [some (.ref 1),some (.int crew),some F,some B,some (.ref M0.n),some (.int f),some (.int h),near] M = .ok false M1:=by
    simp [yl,gen,e1,gg]
   rw [et];rfl
  ·obtain ⟨l,e,p,q⟩:=t1.ex;exact ⟨l,e,p,by omega⟩
theorem lies_row {M0 M:Sto} {fs bs:List Int} {crew f:Int} {L:Nat} {x y:Option PV} (t:LI M0 fs crew L M) (h2:2<=M0.n) (c0:0<=crew) (hL:L + crew.toNat < 1000) (hf:f ∈ fs) (f0:0<=f∧f < crew) (hb:bs≠[]) (hbl:bs.length<=40) :
  ∃ x' y' M',Ym [some (.ref 1),some (.int crew),some (.lst (fs.map PV.int)),some (.lst (bs.map PV.int)),some (.ref M0.n),some (.int f),x,y] M = .nx [some (.ref 1),some (.int crew),some (.lst (fs.map PV.int)),some (.lst (bs.map PV.int)),some (.ref M0.n),some (.int f),x',y'] M'∧LI M0 fs crew (L + crew.toNat) M':=by
 obtain ⟨ρ',M',el,x',y',e',t'⟩:=vh (g:=gN 6) (db:=uU) (fun i ρ M'=>∃ x' y',ρ=[some (.ref 1),some (.int crew),some (.lst (fs.map PV.int)),some (.lst (bs.map PV.int)),some (.ref M0.n),some (.int f),x',y']∧LI M0 fs crew (L + i) M') (xl 0 crew.toNat) 0 [some (.ref 1),some (.int crew),some (.lst (fs.map PV.int)),some (.lst (bs.map PV.int)),some (.ref M0.n),some (.int f),x,y] M
  ⟨x,y,rfl,t⟩ (by
   rintro i z hz ρ M1 ⟨x1,y1,rfl,t1⟩;rw [vH] at hz;split at hz
   ·rename_i hi;cases hz;rw [Nat.zero_add] at t1;obtain ⟨n',M2,e2,t2⟩:=lies_step (near:=y1) (h:=0 + (i:Int)) t1 h2 (by omega) hf f0 ⟨by omega,by omega⟩ hb hbl;exact ⟨_,_,M2,rfl,e2,_,_,rfl,by rw [Nat.zero_add]; exact t2⟩
   ·cases hz)
 subst e';rw [xx,Nat.zero_add] at t';refine ⟨x',y',M',?_,t'⟩;unfold Ym;have hs:xv crew=true:=yp.mpr ⟨by omega,by omega⟩
 have er:xj (jc (yg 1) yh) [some (.ref 1),some (.int crew),some (.lst (fs.map PV.int)),some (.lst (bs.map PV.int)),some (.ref M0.n),some (.int f),x,y] M = .ok (.fix (xl 0 crew.toNat)) M:=by
  simp [xj,hs]
 rw [uG er];exact el
theorem lies_ok {M:Sto} (T:Tw M) {crew:Int} {fs bs:List Int} (h0:0<=crew) (h1:crew<=16) (hf:∀ f ∈ fs,0<=f∧f < crew) (hfl:fs.length<=16) (hb:bs≠[]) (hbl:bs.length<=40) :
  ∃ l M',D_zbq [.ref 1,.int crew,.lst (fs.map PV.int),.lst (bs.map PV.int)] M = .ok (.dct l) M'∧JL l fs crew∧l.length < 1000∧Tw M'∧Off M M':=by
 have hn2:2<=M.n:=by obtain ⟨ns,c,t⟩:=T; exact t.n
 have T0:Tw (M.new (.dct [])):=by
  obtain ⟨ns,c,t⟩:=T;exact ⟨ns,c,by rw [Sto.new_ne (by omega)]; exact t.row,by rw [Sto.new_ne (by omega)]; exact t.tw,t.ne,Nat.le_succ_of_le t.n⟩
 have t0:LI M fs crew 0 (M.new (.dct [])):=⟨⟨[],Sto.new_same,fun p hp=>(by cases hp),Nat.le_refl _⟩,T0,Nat.lt_succ_self _,fun j _ hj=>Sto.new_ne (by omega)⟩
 obtain ⟨ρ',M',el,x',y',z',e',t'⟩:=vh (g:=gN 5) (db:=Ym) (fun i ρ M'=>∃ x' y' z',ρ=[some (.ref 1),some (.int crew),some (.lst (fs.map PV.int)),some (.lst (bs.map PV.int)),some (.ref M.n),x',y',z']∧LI M fs crew (i * crew.toNat) M') (fs.map PV.int) 0 [some (.ref 1),some (.int crew),some (.lst (fs.map PV.int)),some (.lst (bs.map PV.int)),some (.ref M.n),none,none,none] (M.new (.dct []))
  ⟨none,none,none,rfl,by rw [Nat.zero_mul]; exact t0⟩ (by
   rintro i z hz ρ M1 ⟨x1,y1,z1,rfl,t1⟩;rw [List.getElem?_map] at hz
   cases e:fs[i]? with
   | none=>rw [e] at hz; cases hz
   | some f =>
    rw [e] at hz;cases hz;have hi:=(List.getElem?_eq_some_iff.mp e).1;have hm:=List.mem_of_getElem? e;rw [Nat.zero_add] at t1;have hle:i * crew.toNat<=16 * 16:=Nat.mul_le_mul (by omega) (by omega);obtain ⟨x2,y2,M2,e2,t2⟩:=lies_row (x:=y1) (y:=z1) t1 hn2 h0 (by omega) hm (hf f hm) hb hbl
    exact ⟨_,_,M2,rfl,e2,_,_,_,rfl,by rw [Nat.zero_add,Nat.succ_mul]; exact t2⟩)
 subst e';obtain ⟨l,g1,p1,q1⟩:=t'.ex;have hle:(0 + (fs.map PV.int).length) * crew.toNat<=16 * 16:=Nat.mul_le_mul (by rw [List.length_map]; omega) (by omega);refine ⟨l,M'.drop M.n,?_,p1,by omega,?_,⟨Nat.le_of_lt t'.n,fun j hj hn=>?_⟩⟩
 ·have e0:D_zbq [.ref 1,.int crew,.lst (fs.map PV.int),.lst (bs.map PV.int)] M=(fin (d_zbq [some (.ref 1),some (.int crew),some (.lst (fs.map PV.int)),some (.lst (bs.map PV.int)),none,none,none,none] M)).noX:=rfl;rw [e0]
  have e:d_zbq [some (.ref 1),some (.int crew),some (.lst (fs.map PV.int)),some (.lst (bs.map PV.int)),none,none,none,none] M = .rt (.dct l) (M'.drop M.n):=by
   unfold d_zbq;refine jW (v:=.ref M.n) (M1:=M.new (.dct [])) rfl ?_;simp only [List.set_cons_succ,List.set_cons_zero];refine nx_for (xs:=fs.map PV.int) (M1:=M.new (.dct [])) rfl el ?_;refine jT ?_;unfold dFrzD;have ev:yg 4 [some (.ref 1),some (.int crew),some (.lst (fs.map PV.int)),some (.lst (bs.map PV.int)),some (.ref M.n),x',y',z'] M' = .ok (.ref M.n) M':=rfl;rw [ev];simp only [Res.bind_ok,g1]
  rw [e];rfl
 ·obtain ⟨ns,c,t⟩:=t'.tw;have dn:∀ k,k < 2->(M'.drop M.n).g k=M'.g k:=fun k hk=>if_neg (by omega);exact ⟨ns,c,by rw [dn 0 (by omega)]; exact t.row,by rw [dn 1 (by omega)]; exact t.tw,t.ne,t.n⟩
 ·have:(M'.drop M.n).g j=M'.g j:=if_neg (by omega)
  rw [this];exact t'.off j hj hn

theorem bad_le {α:Type} {P:α->Bool} {fs:List Int}:∀ {ps:List α} (i:Nat),(∀ (k:Nat) (p:α),ps[k]? = some p->((i + k:Nat):Int) ∉ fs->P p=true)->(ps.filter fun p=>!P p).length<=(fs.filter fun f=>decide ((i:Int)<=f)).length
 | [],i,_=>Nat.zero_le _
 | p :: ps,i,h=>by
  have ih:=bad_le (P:=P) (fs:=fs) (ps:=ps) (i + 1) fun k q hk hn=>h (k + 1) q (by simpa using hk) (by rw [show i + (k + 1)=i + 1 + k by omega]; exact hn)
  have mono:∀ l:List Int,(l.filter fun f=>decide (((i + 1:Nat):Int)<=f)).length<=(l.filter fun f=>decide ((i:Int)<=f)).length:=fun l=>by
   induction l with
   | nil=>exact Nat.le_refl _
   | cons a l ih =>
    rw [List.filter_cons,List.filter_cons]
    by_cases h1:((i + 1:Nat):Int)<=a
    ·rw [decide_eq_true h1,decide_eq_true (show (i:Int)<=a by omega)];simpa using ih
    ·rw [decide_eq_false h1,if_neg (by simp)];split
     ·exact Nat.le_succ_of_le ih
     ·exact ih
  have more:∀ l:List Int,(i:Int) ∈ l->(l.filter fun f=>decide (((i + 1:Nat):Int)<=f)).length + 1<=(l.filter fun f=>decide ((i:Int)<=f)).length:=fun l hm=>by
   induction l with
   | nil=>cases hm
   | cons a l ih =>
    rw [List.filter_cons,List.filter_cons]
    by_cases ha:a=(i:Int)
    ·rw [decide_eq_false (show ¬ ((i + 1:Nat):Int)<=a by omega),decide_eq_true (show (i:Int)<=a by omega)]
     have:=mono l
     simpa using this
    ·have hm:(i:Int) ∈ l:=by
      rcases List.mem_cons.mp hm with z | z
      ·exact absurd z.symm ha
      ·exact z
     have ih:=ih hm
     by_cases h1:((i + 1:Nat):Int)<=a
     ·rw [decide_eq_true h1,decide_eq_true (show (i:Int)<=a by omega)];simpa using ih
     ·rw [decide_eq_false h1,decide_eq_false (show ¬ (i:Int)<=a by omega)];simpa using ih
  rw [List.filter_cons]
  cases hp:P p with
  | true=>exact Nat.le_trans (by simpa using ih) (mono fs)
  | false =>
   have hm:(i:Int) ∈ fs:=by
    by_cases hm:(i:Int) ∈ fs
    ·exact hm
    ·have:=h 0 p rfl hm
     rw [hp] at this;cases this
   have:=more fs hm
   simp;omega
theorem bad_all {α:Type} {P:α->Bool} {fs:List Int} {ps:List α} (h:∀ (k:Nat) (p:α),ps[k]? = some p->(k:Int) ∉ fs->P p=true):(ps.filter fun p=>!P p).length<=fs.length:=by
 have:=bad_le (P:=P) (fs:=fs) (ps:=ps) 0 fun k p hk hn=>h k p hk (by simpa using hn)
 exact Nat.le_trans this (List.length_filter_le _ _)
theorem mid_ends {u:List Int} {s:Int} (s0:0<=s) (h:2 * s < u.length):mid u s=((yG u).getD s.toNat 0 + (yG u).getD (u.length - 1 - s.toNat) 0) / 2:=by
 have hl:=(xk u).length_eq;unfold mid;rw [cutI_len s0 h]
 have a1:(vN u s).getD 0 0=(yG u).getD s.toNat 0:=by
  unfold vN;rw [List.getD_eq_getElem?_getD,List.getD_eq_getElem?_getD,List.getElem?_take_of_lt (by omega),List.getElem?_drop,Nat.add_zero]
 have a2:(vN u s).getD (u.length - 2 * s.toNat - 1) 0=(yG u).getD (u.length - 1 - s.toNat) 0:=by
  unfold vN;rw [List.getD_eq_getElem?_getD,List.getD_eq_getElem?_getD,List.getElem?_take_of_lt (by omega),List.getElem?_drop,show s.toNat + (u.length - 2 * s.toNat - 1)=u.length - 1 - s.toNat by omega]
 rw [a1,a2]
theorem cut_step {S:List Int} {q:Nat} (h:2 * (q + 1)<=S.length):((((S.drop q).take (S.length - 2 * q)).drop 1).take ((S.length - 2 * q) - 1 - 1))=(S.drop (q + 1)).take (S.length - 2 * (q + 1)):=by
 rw [List.drop_take,List.drop_drop,List.take_take];congr 1;omega
theorem middle_law {M:Sto} {us:List Int} {s:Int} (h40:us.length<=40) (s0:0<=s) (hs:2 * s < us.length):Yt [.lst (us.map PV.int),.int s] M = .ok (.int (mid us s)) M:=by
 have hsl:(yG us).length=us.length:=(xk us).length_eq
 obtain ⟨ρ',M',el,x3,e',em⟩:=vh (g:=gN 3) (db:=d_zaz_L1) (fun q ρ M'=>∃ x3,ρ=[some (.lst (us.map PV.int)),some (.int s),some (.lst ((((yG us).drop q).take ((yG us).length - 2 * q)).map PV.int)),x3]∧M'=M) (xl 0 s.toNat) 0 [some (.lst (us.map PV.int)),some (.int s),some (.lst ((yG us).map PV.int)),none] M
  ⟨none,by rw [List.drop_zero,Nat.mul_zero,Nat.sub_zero,List.take_length],rfl⟩ (by
   rintro q z hz ρ M1 ⟨x3,rfl,rfl⟩;rw [vH] at hz;split at hz
   ·rename_i hq;rw [Nat.zero_add];refine ⟨_,_,_,rfl,?_,some z,rfl,rfl⟩
    obtain ⟨L,hL⟩:∃ L,L=((yG us).drop q).take ((yG us).length - 2 * q):=⟨_,rfl⟩
    have lL:L.length=(yG us).length - 2 * q:=by rw [hL,List.length_take,List.length_drop]; omega
    rw [<- hL];unfold d_zaz_L1
    have hl:∀ M,yA M (.lst (L.map PV.int))=some (.int L.length):=fun M=>by rw [yJ (x:=.lst (L.map PV.int)) rfl,List.length_map]
    have e:dSl (yg 2) (dOS (dC (.int 1))) (dOS (dOp xF (dCB (one yA) (jc (yg 2) yh)) (dC (.int 1)))) [some (.lst (us.map PV.int)),some (.int s),some (.lst (L.map PV.int)),some z] M1 = .ok (.lst ((((yG us).drop (q + 1)).take ((yG us).length - 2 * (q + 1))).map PV.int)) M1:=by
     simp only [dSl_eq,dOS_eq,uh,yd,yH,jt,jJ,jC,jx,Res.bind_ok,yP,hl,xK,jB,gSl_lst];rw [cut_in (by decide) (by omega) (by rw [List.length_map]; omega),<- List.map_drop,<- List.map_take,<- cut_step (q:=q) (S:=yG us) (by omega),<- hL];congr 4;omega
    show yt 2 _ [some (.lst (us.map PV.int)),some (.int s),some (.lst (L.map PV.int)),some z] M1=_;unfold yt;rw [e];rfl
   ·cases hz)
 subst em;subst e';rw [xx,Nat.zero_add] at el;have e0:Yt [.lst (us.map PV.int),.int s] M'=(fin (d_zaz [some (.lst (us.map PV.int)),some (.int s),none,none] M')).noX:=rfl;rw [e0]
 have e:d_zaz [some (.lst (us.map PV.int)),some (.int s),none,none] M' = .rt (.int (mid us s)) M':=by
  unfold d_zaz;refine jW (v:=.lst ((yG us).map PV.int)) (M1:=M') (by simp [Yk (M:=M') (ws:=us) (by omega)]) ?_;simp only [List.set_cons_succ,List.set_cons_zero];have hsm:xv s=true:=yp.mpr ⟨by omega,by omega⟩;refine nx_for (xs:=xl 0 s.toNat) (M1:=M') (by simp [xj,hsm]) el ?_;refine jT ?_
  have ec:((yG us).drop s.toNat).take ((yG us).length - 2 * s.toNat)=vN us s:=by unfold vN; rw [hsl]
  rw [ec];have lc:=cutI_len (ws:=us) s0 hs
  have hl:yA M' (.lst ((vN us s).map PV.int))=some (.int (vN us s).length):=by rw [yJ (x:=.lst ((vN us s).map PV.int)) rfl,List.length_map]
  have a0:atI ((vN us s).map PV.int) 0=some (.int ((vN us s).getD 0 0)):=at_ws (by decide) (by omega)
  have a1:atI ((vN us s).map PV.int) ((vN us s).length - 1)=some (.int ((vN us s).getD ((vN us s).length - 1) 0)):=by
   rw [at_ws (by omega) (by omega)];congr 3;omega
  simp only [yd,jJ,jC,uh,yH,jt,jx,Res.bind_ok,yP,hl,xK,jB,vj (x:=.lst ((vN us s).map PV.int)) rfl,a0,a1,vE,uf (M:=M') (j:=2) (by decide) (by decide)];rfl
 rw [e];rfl

theorem jR {M M1 M2:Sto} {i c a b:Nat} {fl:List (Str × PV)} {nm:Str} {D:List PV->Sto->Res PV} {sl:List Sl} {dP xs zs:List PV} {do_:DE} {da dk:DA} {ρ:En} (ho:do_ ρ M = .ok (.ref i) M) (hi:M.g i=some (.ins c fl)) (hn:fl.lookup nm=none) (ha:da ρ M = .ok xs M1) (hk:dk ρ M1 = .ok zs M2) :
  yw c nm D a b sl dP do_ da dk ρ M=D (yl a b sl dP (.ref i :: xs) zs) M2:=by
 unfold yw;rw [ho];simp only [Res.bind_ok,ua hi,hn,if_true];rw [ha];simp only [Res.bind_ok];rw [hk];simp only [Res.bind_ok]
theorem jU {M:Sto} {i c:Nat} {fl:List (Str × PV)} {x:Str} {v:PV} {d:DE} {ρ:En} (ho:d ρ M = .ok (.ref i) M) (hi:M.g i=some (.ins c fl)) (hx:fl.lookup x=some v):xa c x d ρ M = .ok v M:=by
 unfold xa;rw [ho];simp only [Res.bind_ok,ua hi,hx,jB]
theorem vV {M Ma:Sto} {i k:Nat} {fs0:List (Str × PV)} {f:Str} {v:PV} {d do_:DE} {c:DS} {ρ:En} {r:RS} (hd:d ρ M = .ok v Ma) (ho:do_ ρ Ma = .ok (.ref i) Ma) (hg:Ma.g i=some (.ins k fs0)) (hl:fs0.length < 1000) (hc:c ρ (Ma.set i (.ins k (uq f v fs0)))=r):yi (xP k f d do_) c ρ M=r:=by
 unfold yi xP;rw [hd];simp only [Res.st_ok];rw [ho];simp only [Res.st_ok,ua hg,hl,if_true];exact hc
theorem nx_fldL {M Ma:Sto} {i k:Nat} {fs0:List (Str × PV)} {f:Str} {v:PV} {d do_:DE} {ρ:En} (hd:d ρ M = .ok v Ma) (ho:do_ ρ Ma = .ok (.ref i) Ma) (hg:Ma.g i=some (.ins k fs0)) (hl:fs0.length < 1000):xP k f d do_ ρ M = .nx ρ (Ma.set i (.ins k (uq f v fs0))):=by
 unfold xP;rw [hd];simp only [Res.st_ok];rw [ho];simp only [Res.st_ok,ua hg,hl,if_true]
theorem new_set {M:Sto} {c d:Cell}:(M.new c).set M.n d=M.new d:=by
 unfold Sto.new Sto.set;congr 1;funext j
 by_cases h:j=M.n
 ·rw [if_pos h,if_pos h]
 ·rw [if_neg h,if_neg h];exact if_neg h
structure Ck where
 f:Int
 r:Int
 t:Int
def ckF (q:Ck):List (Str × PV):=[("first",.int q.f),("rate",.int q.r),("turned",.int q.t)]
def Ck.at (q:Ck) (b:Int):Int:=q.f + b * (1000 + q.r) / 1000 + q.t
def Ck.to (q:Ck) (x b:Int):Ck:=⟨q.f,q.r,q.t + (x - q.at b)⟩
theorem Ck.at_to (q:Ck) (x b:Int):(q.to x b).at b=x:=by
 show q.f + b * (1000 + q.r) / 1000 + (q.t + (x - (q.f + b * (1000 + q.r) / 1000 + q.t)))=x;omega
theorem check_beat_ok {M:Sto} {b:Int} (b0:0<=b) (b1:b<=100000):D_zbc [.int b] M = .ok .non M:=by
 show fin (d_zbc [some (.int b)] M)=_;unfold d_zbc;simp [yl,gen,jD (M:=M) (a:=0) (b:=100000) (Kd.int b) (by decide) (by decide),xA b0 b1]
theorem raw_eq {M:Sto} {c:Nat} {q:Ck} {b:Int} (h:M.g c=some (.ins 10 (ckF q))) (b0:0<=b) (b1:b<=100000):D_zbp [.ref c,.int b] M = .ok (.int (q.f + b * (1000 + q.r) / 1000)) M:=by
 refine ya (ρ:=[some (.ref c),some (.int b)]) rfl rfl ?_;unfold d_zbp;refine yE (v:=.non) (M1:=M) (by simp only [jY,jt,jJ,jC,jx,Res.bind_ok]; exact check_beat_ok b0 b1) ?_;refine jT ?_;have f1:=jU (x:="first") (v:=.int q.f) (d:=yg 0) (ρ:=[some (.ref c),some (.int b)]) rfl h rfl;have f2:=jU (x:="rate") (v:=.int q.r) (d:=yg 0) (ρ:=[some (.ref c),some (.int b)]) rfl h rfl;simp only [yd,f1,f2,uh,jJ,jC,Res.bind_ok,vE,jB,xL (M:=M) (i:=b) (j:=1000 + q.r) (.inl ⟨by omega,by omega⟩),uf (M:=M) (i:=b * (1000 + q.r)) (j:=1000) (by decide) (by decide)]
theorem uE {M:Sto} {c:Nat} {q:Ck} {b:Int} (h:M.g c=some (.ins 10 (ckF q))) (b0:0<=b) (b1:b<=100000):xE [.ref c,.int b] M = .ok (.int (q.at b)) M:=by
 refine ya (ρ:=[some (.ref c),some (.int b)]) rfl rfl ?_;unfold d_zaw;refine jT ?_;have f1:=jU (x:="turned") (v:=.int q.t) (d:=yg 0) (ρ:=[some (.ref c),some (.int b)]) rfl h rfl;have m1:=jR (nm:="raw") (D:=D_zbp) (a:=2) (b:=0) (sl:=[.p 0,.p 1]) (dP:=[]) (do_:=yg 0) (da:=jc (yg 1) yh) (dk:=yh) (ρ:=[some (.ref c),some (.int b)]) (xs:=[.int b]) (zs:=[]) (M1:=M) (M2:=M) rfl h rfl rfl rfl;simp only [yd,m1,f1,Res.bind_ok];rw [show D_zbp (yl 2 0 [Sl.p 0,Sl.p 1] [] [PV.ref c,.int b] []) M=_ from raw_eq h b0 b1];simp only [Res.bind_ok,f1,vE,jB];rfl
theorem set_to_eq {M:Sto} {c:Nat} {q:Ck} {b x:Int} (h:M.g c=some (.ins 10 (ckF q))) (b0:0<=b) (b1:b<=100000):Js [.ref c,.int x,.int b] M = .ok (.int (x - q.at b)) (M.set c (.ins 10 (ckF (q.to x b)))):=by
 refine ya (ρ:=[some (.ref c),some (.int x),some (.int b),none]) rfl rfl ?_;unfold d_zas;refine jW (v:=.int (x - q.at b)) (M1:=M) ?_ ?_
 ·have m1:=jR (nm:="shows") (D:=xE) (a:=2) (b:=0) (sl:=[.p 0,.p 1]) (dP:=[]) (do_:=yg 0) (da:=jc (yg 2) yh) (dk:=yh) (ρ:=[some (.ref c),some (.int x),some (.int b),none]) (xs:=[.int b]) (zs:=[]) (M1:=M) (M2:=M) rfl h rfl rfl rfl;simp only [yd,m1,jJ,jC,Res.bind_ok];rw [show xE (yl 2 0 [Sl.p 0,Sl.p 1] [] [PV.ref c,.int b] []) M=_ from uE h b0 b1];simp only [Res.bind_ok,xK,jB]
 simp only [List.set_cons_succ,List.set_cons_zero]
 have e:sFldA 10 "turned" YZ (yg 0) (yg 3) [some (.ref c),some (.int x),some (.int b),some (.int (x - q.at b))] M = .nx [some (.ref c),some (.int x),some (.int b),some (.int (x - q.at b))] (M.set c (.ins 10 (ckF (q.to x b)))):=by
  unfold sFldA;simp only [jC,jJ,Res.st_ok,ua h,show (ckF q).lookup ("turned":Str)=some (.int q.t) from rfl,show YZ M (.int q.t) (.int (x - q.at b))=some (.int (q.t + (x - q.at b))) from rfl,show (ckF q).length < 1000 from (show 3 < 1000 by decide),if_true];rfl
 unfold yi;rw [e];exact jT rfl
theorem ck_init {M:Sto} {c:Nat} {f r:Int} (h:M.g c=some (.ins 10 [])) (f0:-1000000<=f) (f1:f<=1000000) (r0:-100<=r) (r1:r<=100):Xk [.ref c,.int f,.int r] M = .ok .non (M.set c (.ins 10 (ckF ⟨f,r,0⟩))):=by
 show fin (d_zai [some (.ref c),some (.int f),some (.int r)] M)=_;unfold d_zai
 have e:∀ {x:RS},x = .nx [some (.ref c),some (.int f),some (.int r)] (M.set c (.ins 10 (ckF ⟨f,r,0⟩)))->fin x = .ok .non (M.set c (.ins 10 (ckF ⟨f,r,0⟩))):=fun h=>by rw [h]; rfl
 refine e ?_;refine yE (v:=.non) (M1:=M) (by simp only [jY,jt,jJ,jC,jx,Res.bind_ok]; show D_zao [.int f] M=_; rw [Xv (Kd.int f),if_pos (xA f0 f1)]) ?_;refine yE (v:=.non) (M1:=M) (by simp only [jY,jt,jJ,jC,jx,uh,dUn_eq,gNeg_int,jB,Res.bind_ok]; show xQ [.int r,.int (-100),.int 100] M=_; rw [jD (Kd.int r) (by decide) (by decide),if_pos (xA r0 r1)]) ?_;refine vV (v:=.int f) (Ma:=M) (i:=c) rfl rfl h (by decide) ?_;refine vV (v:=.int r) (Ma:=M.set c (.ins 10 (uq "first" (.int f) []))) (i:=c) rfl rfl Sto.set_same (show 1 < 1000 by decide) ?_;rw [Jc];rw [nx_fldL (v:=.int 0) (Ma:=M.set c (.ins 10 (uq "rate" (.int r) (uq "first" (.int f) [])))) (i:=c) rfl rfl Sto.set_same (show 2 < 1000 by decide),Jc];rfl
theorem ck_new {M:Sto} {f r:Int} (f0:-1000000<=f) (f1:f<=1000000) (r0:-100<=r) (r1:r<=100):made 10 Xk (fun x=>[x,.int f,.int r]) M = .ok (.ref M.n) (M.new (.ins 10 (ckF ⟨f,r,0⟩))):=by
 unfold made;rw [ck_init (M:=M.new (.ins 10 [])) Sto.new_same f0 f1 r0 r1,new_set]
theorem twin_eq {M:Sto} {c:Nat} {q:Ck} (h:M.g c=some (.ins 10 (ckF q))) (hc:c < M.n) (f0:-1000000<=q.f) (f1:q.f<=1000000) (r0:-100<=q.r) (r1:q.r<=100):Xi [.ref c] M = .ok (.ref M.n) (M.new (.ins 10 (ckF q))):=by
 refine ya (ρ:=[some (.ref c),none]) rfl rfl ?_;unfold d_zbb;have g1:=jU (x:="first") (v:=.int q.f) (d:=yg 0) (ρ:=[some (.ref c),none]) rfl h rfl;have g2:=jU (x:="rate") (v:=.int q.r) (d:=yg 0) (ρ:=[some (.ref c),none]) rfl h rfl;refine jW (v:=.ref M.n) (M1:=M.new (.ins 10 (ckF ⟨q.f,q.r,0⟩))) ?_ ?_
 ·unfold dNew;simp only [jt,jx,g1,g2,Res.bind_ok];exact ck_new f0 f1 r0 r1
 simp only [List.set_cons_succ,List.set_cons_zero];have g3:xa 10 "turned" (yg 0) [some (.ref c),some (.ref M.n)] (M.new (.ins 10 (ckF ⟨q.f,q.r,0⟩))) = .ok (.int q.t) (M.new (.ins 10 (ckF ⟨q.f,q.r,0⟩))):=jU rfl (by rw [Sto.new_ne (by omega)]; exact h) rfl;refine vV (v:=.int q.t) (Ma:=M.new (.ins 10 (ckF ⟨q.f,q.r,0⟩))) (i:=M.n) g3 rfl Sto.new_same (show 3 < 1000 by decide) ?_;rw [new_set];exact jT rfl

def coF (i n:Nat) (s w:Int) (fs:List Int) (b:Int):List (Str × PV):=[("clocks",.lst ((List.range n).map fun k=>PV.ref (i + 1 + k))),("few",.int s),("error",.int w),("liars",.lst (fs.map PV.int)),("waits",.ref (i + 1 + n)),("last_beat",.int b),("past",.ref (i + 2 + n))]
structure Cp (M:Sto) (i:Nat) (ks:List Ck) (s w:Int) (fs ws:List Int) (b:Int) (ps:List PV):Prop where
 co:M.g i=some (.ins 11 (coF i ks.length s w fs b))
 wa:M.g (i + 1 + ks.length)=some (.lst (ws.map PV.int))
 pa:M.g (i + 2 + ks.length)=some (.lst ps)
 ck:∀ k q,ks[k]? = some q->M.g (i + 1 + k)=some (.ins 10 (ckF q))
 lo:2<=i
 hi:i + 2 + ks.length < M.n
theorem Cp.off {M M':Sto} {i:Nat} {ks:List Ck} {s w b:Int} {fs ws:List Int} {ps:List PV} (h:Cp M i ks s w fs ws b ps) (o:Off M M'):Cp M' i ks s w fs ws b ps:=by
 have lo:=h.lo;have hi:=h.hi;refine ⟨?_,?_,?_,fun k q hk=>?_,lo,Nat.lt_of_lt_of_le hi o.n⟩
 ·rw [o.g i lo (by omega)]; exact h.co
 ·rw [o.g _ (by omega) (by omega)]; exact h.wa
 ·rw [o.g _ (by omega) hi]; exact h.pa
 ·have:=(List.getElem?_eq_some_iff.mp hk).1
  rw [o.g _ (by omega) (by omega)]; exact h.ck k q hk
def GoodC (q:Ck):Prop:=(-1000000<=q.f∧q.f<=1000000)∧-100<=q.r∧q.r<=100
structure Cs (M:Sto) (cs:List Nat) (ks:List Ck):Prop where
 len:cs.length=ks.length
 at_:∀ (k:Nat) (q:Ck),ks[k]? = some q->∃ c,cs[k]? = some c∧c < M.n∧M.g c=some (.ins 10 (ckF q))
theorem Xw {M:Sto} {cs:List Nat} {ks:List Ck} (h:Cs M cs ks) (h1:1<=ks.length) (h2:ks.length<=16):D_zap [.lst (cs.map PV.ref)] M = .ok .non M:=by
 show fin (d_zap [some (.lst (cs.map PV.ref))] M)=_;unfold d_zap
 obtain ⟨L,hL⟩:∃ L,L=PV.lst (cs.map PV.ref):=⟨_,rfl⟩
 have q1:ue M [L,.ty "list"]=some (.bl true,M):=by rw [hL]; rfl
 have hlen:yA M L=some (.int ks.length):=by rw [hL,yJ (x:=.lst (cs.map PV.ref)) rfl,List.length_map,h.len]
 have g1:gLe M (.int 1) (.int ks.length)=some (.bl true):=by
  show some (PV.bl (decide ((1:Int)<=ks.length)))=_;rw [decide_eq_true (by omega)]
 have g2:gLe M (.int ks.length) (.int 16)=some (.bl true):=by
  show some (PV.bl (decide ((ks.length:Int)<=16)))=_;rw [decide_eq_true (by omega)]
 have q2:yr (dIt (yg 0)) xH [] yI (dCB gIsO (jc (yg 0) (jc (dC (.top 10)) yh))) [some L] M = .ok (.lst (cs.map fun _=>.bl true)) M:=by
  refine jP (xs:=cs.map PV.ref) (M1:=M) (by rw [hL]; rfl) (by rw [List.length_map,h.len]; exact xS (by omega)) ?_
  refine yb PV.ref (fun _=>.bl true) _ fun c hc=>⟨[some (.ref c)],rfl,rfl,?_⟩
  obtain ⟨k,hk,ek⟩:=List.getElem_of_mem hc;obtain ⟨c',e1,_,e2⟩:=h.at_ k _ (List.getElem?_eq_getElem (by rw [<- h.len]; exact hk));rw [List.getElem?_eq_getElem hk,ek] at e1;cases e1
  have gi:gIsO M [.ref c,.top 10]=some (.bl true,M):=by
   show (match uQ M 10 (.ref c) with
    | some _=>some (PV.bl true,M)
    | none=>none)=_
   rw [ua e2]
  simp [gi]
 have q3:vA M (.lst (cs.map fun _=>PV.bl true))=some (.bl true):=by
  have e1:(cs.map fun _=>PV.bl true)=(cs.map fun _=>true).map PV.bl:=by rw [List.map_map]; rfl
  unfold vA YN;rw [e1];simp only [xc,Option.bind_some,yT]
  have:(cs.map fun _=>true).all id=true:=by simp
  rw [this]
 rw [<- hL];simp [q1,hlen,g1,g2,q2,q3,Yx,vn]
theorem twins_ok {M:Sto} {cs:List Nat} {ks:List Ck} (h:Cs M cs ks) (hg:∀ q ∈ ks,GoodC q) :
  ∃ M',ui xH [] yI (yw 10 "twin" Xi 1 0 [.p 0] [] (yg 0) yh yh) (cs.map PV.ref) M = .ok ((List.range ks.length).map fun k=>PV.ref (M.n + k)) M'∧M'.n=M.n + ks.length∧(∀ k q,ks[k]? = some q->M'.g (M.n + k)=some (.ins 10 (ckF q)))∧∀ j,j < M.n->M'.g j=M.g j:=by
 obtain ⟨ys,M',e,ey,en,ec,eo⟩:=uY (bnd:=xH) (r:=[]) (dt:=yI) (de:=yw 10 "twin" Xi 1 0 [.p 0] [] (yg 0) yh yh)
  (fun i acc M'=>acc=(List.range i).map (fun k=>PV.ref (M.n + k))∧M'.n=M.n + i∧(∀ k q,k < i->ks[k]? = some q->M'.g (M.n + k)=some (.ins 10 (ckF q)))∧∀ j,j < M.n->M'.g j=M.g j) (cs.map PV.ref) 0 [] M ⟨rfl,rfl,fun k q hk=>absurd hk (Nat.not_lt_zero _),fun _ _=>rfl⟩ (by
   rintro i x hx acc M1 ⟨rfl,n1,c1,o1⟩;rw [Nat.zero_add] at n1 c1 ⊢;rw [List.getElem?_map] at hx
   cases e:cs[i]? with
   | none=>rw [e] at hx; cases hx
   | some c =>
    rw [e] at hx;cases hx;have hi:=(List.getElem?_eq_some_iff.mp e).1
    have hik:i < ks.length:=by rw [<- h.len]; exact hi
    have eq:ks[i]? = some ks[i]:=List.getElem?_eq_getElem hik;obtain ⟨c',e1,hc,e2⟩:=h.at_ i _ eq;rw [e] at e1;cases e1;have hg1:=hg _ (List.getElem_mem hik)
    have e3:M1.g c=some (.ins 10 (ckF ks[i])):=by rw [o1 c hc]; exact e2
    refine ⟨[some (.ref c)],true,M1,rfl,rfl,(fun z=>by cases z),fun _=>⟨.ref M1.n,M1.new (.ins 10 (ckF ks[i])),?_,?_,?_,fun k q hk hq=>?_,fun j hj=>?_⟩⟩
    ·rw [jR (xs:=[]) (zs:=[]) (M1:=M1) (M2:=M1) rfl e3 rfl rfl rfl];exact twin_eq e3 (by omega) hg1.1.1 hg1.1.2 hg1.2.1 hg1.2.2
    ·rw [n1,List.range_succ,List.map_append];rfl
    ·show M1.n + 1=_;omega
    ·by_cases hki:k=i
     ·subst hki;rw [eq] at hq;cases hq;rw [<- n1];exact Sto.new_same
     ·rw [Sto.new_ne (by omega)];exact c1 k q (by omega) hq
    ·rw [Sto.new_ne (by omega)]
     exact o1 j hj)
 rw [List.nil_append] at ey;subst ey;rw [List.length_map,h.len,Nat.zero_add] at e en ec;exact ⟨M',e,en,fun k q hq=>ec k q (List.getElem?_eq_some_iff.mp hq).1 hq,eo⟩
theorem co_init_w {M:Sto} {i:Nat} {cs:List Nat} {ks:List Ck} {s w:Int} {fs ws:List Int} {Z:PV} (hi:M.g i=some (.ins 11 [])) (hin:M.n=i + 1) (i2:2<=i) (h:Cs M cs ks) (hg:∀ q ∈ ks,GoodC q) (h1:1<=ks.length) (h2:ks.length<=16) (s0:0<=s) (s5:s<=5) (w0:0<=w) (w1:w<=100)
  (hf:fs.Pairwise (· < ·)) (fb:∀ f ∈ fs,0<=f∧f < ks.length) (fl:(fs.length:Int)<=s) (en:2 * s < (ks.length:Int) - ws.length) (hlw:yA M Z=some (.int ws.length)) (c5:Yv [Z,.int ks.length,.int ks.length] M = .ok .non M) (fl2:∀ M':Sto,(∀ k,k < i->M'.g k=M.g k)->uZ M' Z=some (ws.map PV.int))
  (q2:∀ F,F=PV.lst (fs.map PV.int)->∀ L,yr (dIt (yg 5)) xH [4] yI (dOp (gIn false) (yg 0) (yg 1)) [some (.ref i),some L,some (.int s),some (.int w),some F,some Z] M = .ok (.lst (ws.map fun _=>.bl false)) M) :
  ∃ M',D_zad [.ref i,.lst (cs.map PV.ref),.int s,.int w,.lst (fs.map PV.int),Z] M = .ok .non M'∧Cp M' i ks s w fs ws 0 []∧M'.n=i + 3 + ks.length∧∀ j,j < i->M'.g j=M.g j:=by
 obtain ⟨M1,e1,n1,c1,o1⟩:=twins_ok h hg
 obtain ⟨L,hL⟩:∃ L,L=PV.lst (cs.map PV.ref):=⟨_,rfl⟩
 obtain ⟨F,hF⟩:∃ F,F=PV.lst (fs.map PV.int):=⟨_,rfl⟩
 obtain ⟨R,hR⟩:∃ R,R=PV.lst ((List.range ks.length).map fun k=>PV.ref (M.n + k)):=⟨_,rfl⟩
 have gi:M1.g i=some (.ins 11 []):=by rw [o1 i (by omega)]; exact hi
 obtain ⟨F4,hF4⟩:∃ F4:List (Str × PV),F4=([("clocks",R),("few",.int s),("error",.int w),("liars",F)]:List (Str × PV)):=⟨_,rfl⟩
 obtain ⟨F6,hF6⟩:∃ F6:List (Str × PV),F6=([("clocks",R),("few",.int s),("error",.int w),("liars",F),("waits",.ref M1.n),("last_beat",.int 0)]:List (Str × PV)):=⟨_,rfl⟩
 obtain ⟨M2,hM2⟩:∃ M2,M2=(M1.set i (.ins 11 F4)).new (.lst (ws.map PV.int)):=⟨_,rfl⟩
 have n2:M2.n=M1.n + 1:=by rw [hM2]; rfl
 obtain ⟨M2',hM2'⟩:∃ M2',M2'=(M2.set i (.ins 11 F6)).new (.lst []):=⟨_,rfl⟩
 have n2':M2'.n=M1.n + 2:=by rw [hM2']; show M2.n + 1=_; omega
 obtain ⟨M3,hM3⟩:∃ M3,M3=M2'.set i (.ins 11 (F6 ++ ([("past",.ref (M1.n + 1))]:List (Str × PV)))):=⟨_,rfl⟩
 have g2':∀ k,k≠i->k≠M1.n->k≠M1.n + 1->M3.g k=M1.g k:=fun k z1 z2 z3=>by
  rw [hM3,Sto.set_ne z1,hM2',Sto.new_ne (show k≠(M2.set i (.ins 11 F6)).n from (show k≠M2.n by omega)),Sto.set_ne z1,hM2,Sto.new_ne (show k≠(M1.set i (.ins 11 F4)).n from z2),Sto.set_ne z1]
 refine ⟨M3,?_,⟨?_,?_,?_,fun k q hk=>?_,i2,?_⟩,?_,fun j hj=>?_⟩
 ·show fin (d_zad [some (.ref i),some (.lst (cs.map PV.ref)),some (.int s),some (.int w),some (.lst (fs.map PV.int)),some Z] M)=_;rw [<- hL,<- hF]
  have c1:D_zap [L] M = .ok .non M:=by rw [hL]; exact Xw h h1 h2
  have c2:D_zbn [.int s] M = .ok .non M:=by rw [check_few_eq (Kd.int s),xA s0 s5]; rfl
  have c3:D_zav [.int w] M = .ok .non M:=by
   show fin (d_zav [some (.int w)] M)=_;unfold d_zav;simp [yl,gen,jD (M:=M) (a:=0) (b:=100) (Kd.int w) (by decide) (by decide),xA w0 w1]
  have hlen:yA M L=some (.int ks.length):=by rw [hL,yJ (x:=.lst (cs.map PV.ref)) rfl,List.length_map,h.len]
  have c4:Yv [F,.int ks.length,.int s] M = .ok .non M:=by rw [hF]; exact XG hf fb fl (by omega)
  have q2:=q2 F hF L
  have q3:fAny M (.lst (ws.map fun _=>PV.bl false))=some (.bl false):=by
   have e1:(ws.map fun _=>PV.bl false)=(ws.map fun _=>false).map PV.bl:=by rw [List.map_map]; rfl
   unfold fAny YN;rw [e1];simp only [xc,Option.bind_some,yT]
   have:(ws.map fun _=>false).any id=false:=by simp
   rw [this]
  have g6:gLe M (.int (ks.length - ws.length)) (.int (2 * s))=some (.bl false):=by
   show some (PV.bl (decide ((ks.length:Int) - ws.length<=2 * s)))=_;rw [decide_eq_false (by omega)]
  have q4:yr (dIt (yg 1)) xH [] yI (yw 10 "twin" Xi 1 0 [.p 0] [] (yg 0) yh yh) [some (.ref i),some L,some (.int s),some (.int w),some F,some Z] M = .ok R M1:=by
   rw [hR];exact jP (xs:=cs.map PV.ref) (M1:=M) (by rw [hL]; rfl) (by rw [List.length_map,h.len]; exact xS (by omega)) e1
  have fl1:∀ M,fList M F=some F:=fun M=>by rw [hF]; rfl
  have hl1:∀ M,dCB (one fList) (jc (yg 4) yh) [some (.ref i),some L,some (.int s),some (.int w),some F,some Z] M = .ok F M:=fun M=>by simp [fl1]
  have gl:gListN (M1.set i (.ins 11 F4)) [Z]=some (.ref M1.n,M2):=by
   have ga:=fl2 (M1.set i (.ins 11 F4)) fun k hk=>by rw [Sto.set_ne (by omega),o1 k (by omega)]
   show (match uZ (M1.set i (.ins 11 F4)) Z with
    | some ys=>some (PV.ref (M1.set i (.ins 11 F4)).n,(M1.set i (.ins 11 F4)).new (.lst ys))
    | none=>none)=_
   rw [ga,hM2];rfl
  have hl2:dCB gListN (jc (yg 5) yh) [some (.ref i),some L,some (.int s),some (.int w),some F,some Z] (M1.set i (.ins 11 F4)) = .ok (.ref M1.n) M2:=by simp [gl]
  have e:d_zad [some (.ref i),some L,some (.int s),some (.int w),some F,some Z] M = .nx [some (.ref i),some L,some (.int s),some (.int w),some F,some Z] M3:=by
   unfold d_zad;refine yE (v:=.non) (M1:=M) (by simpa [yl,gen] using c1) ?_;refine yE (v:=.non) (M1:=M) (by simpa [yl,gen] using c2) ?_;refine yE (v:=.non) (M1:=M) (by simpa [yl,gen] using c3) ?_;refine yE (v:=.non) (M1:=M) (by simpa [yl,gen,hlen] using c4) ?_;refine yE (v:=.non) (M1:=M) (by simpa [yl,gen,hlen] using c5) ?_
   refine uK (M1:=M) (by
    unfold vW;simp only [yH,jt,jx,q2,Res.bind_ok,yP,q3]
    rfl) ?_
   refine uK (M1:=M) (by simp [hlen,hlw,g6,xL (M:=M) (i:=2) (j:=s) (.inl (by decide))]) ?_;refine vV (v:=R) (Ma:=M1) (i:=i) q4 rfl gi (by decide) ?_;refine vV (v:=.int s) (Ma:=M1.set i _) (i:=i) rfl rfl Sto.set_same (show 1 < 1000 by decide) ?_;rw [Jc];refine vV (v:=.int w) (Ma:=M1.set i _) (i:=i) rfl rfl Sto.set_same (show 2 < 1000 by decide) ?_;rw [Jc];refine vV (v:=F) (Ma:=M1.set i _) (i:=i) (hl1 _) rfl Sto.set_same (show 3 < 1000 by decide) ?_;rw [Jc]
   have ef4:uq "liars" F (uq "error" (.int w) (uq "few" (.int s) (uq "clocks" R [])))=F4:=by rw [hF4]; rfl
   rw [ef4]
   have gi1:M2.g i=some (.ins 11 F4):=by
    rw [hM2,Sto.new_ne (show i≠(M1.set i (.ins 11 F4)).n from (show i≠M1.n by omega))];exact Sto.set_same
   refine vV (v:=.ref M1.n) (Ma:=M2) (i:=i) hl2 rfl gi1 (by rw [hF4]; exact (show 4 < 1000 by decide)) ?_;refine vV (v:=.int 0) (Ma:=M2.set i _) (i:=i) rfl rfl Sto.set_same (by rw [hF4]; exact (show 5 < 1000 by decide)) ?_;rw [Jc]
   have ef:uq "last_beat" (.int 0) (uq "waits" (.ref M1.n) F4)=F6:=by rw [hF4,hF6]; rfl
   rw [ef]
   have gi2:M2'.g i=some (.ins 11 F6):=by
    rw [hM2',Sto.new_ne (show i≠(M2.set i (.ins 11 F6)).n from (show i≠M2.n by omega))];exact Sto.set_same
   rw [nx_fldL (v:=.ref (M1.n + 1)) (Ma:=M2') (i:=i) (by rw [hM2',<- n2]; rfl) rfl gi2 (by rw [hF6]; exact (show 6 < 1000 by decide)),hM3,hF6];rfl
  rw [e];rfl
 ·rw [hM3,Sto.set_same,hF6,hR,hF];unfold coF;rw [n1,hin,show i + 1 + ks.length + 1=i + 2 + ks.length by omega];rfl
 ·have e:i + 1 + ks.length=M1.n:=by omega
  rw [e,hM3,Sto.set_ne (by omega),hM2',Sto.new_ne (show M1.n≠(M2.set i (.ins 11 F6)).n from (show M1.n≠M2.n by omega)),Sto.set_ne (by omega),hM2];exact Sto.new_same
 ·have e:i + 2 + ks.length=(M2.set i (.ins 11 F6)).n:=by show _=M2.n; omega
  rw [e,hM3,Sto.set_ne (show (M2.set i (.ins 11 F6)).n≠i from (show M2.n≠i by omega)),hM2'];exact Sto.new_same
 ·have hk':=(List.getElem?_eq_some_iff.mp hk).1;rw [g2' _ (by omega) (by omega) (by omega),<- hin];exact c1 k q hk
 ·rw [hM3];show _ < M2'.n;omega
 ·rw [hM3];show M2'.n=_;omega
 ·rw [g2' j (by omega) (by omega) (by omega)];exact o1 j (by omega)

def c0K:Ck:=⟨0,0,0⟩
def xt (n:Nat) (ws fs:List Int):List Int:=(hon n ws).filter fun h=>!decide (h ∈ fs)
theorem Yd {n:Nat} {ws fs:List Int} {h:Int}:h ∈ xt n ws fs↔((0<=h∧h < n)∧h ∉ ws)∧h ∉ fs:=by
 unfold xt;rw [List.mem_filter,uw];simp
theorem vP (n:Nat) (ws:List Int):(hon n ws).length<=n:=by
 unfold hon;exact Nat.le_trans (List.length_filter_le _ _) (by rw [List.length_map,List.length_range]; exact Nat.le_refl _)
theorem Yj (n:Nat) (ws fs:List Int):(xt n ws fs).length<=n:=Nat.le_trans (List.length_filter_le _ _) (vP n ws)
theorem honW_nd (n:Nat) (ws fs:List Int):(xt n ws fs).Nodup:=by
 unfold xt hon;refine List.Nodup.sublist List.filter_sublist (List.Nodup.sublist List.filter_sublist ?_);unfold List.Nodup;rw [List.pairwise_map];exact List.Pairwise.imp (fun h e=>h (by omega)) (show (List.range n).Nodup from List.nodup_range)
def rd (ks:List Ck) (b h:Int):Int:=(ks.getD h.toNat c0K).at b
def rds (ks:List Ck) (ws fs:List Int) (b:Int):List Int:=(xt ks.length ws fs).map (rd ks b)
section
variable {M:Sto} {i:Nat} {ks:List Ck} {s w lb:Int} {fs ws:List Int} {ps:List PV}
theorem Cp.len (t:Cp M i ks s w fs ws lb ps):yA M (.lst ((List.range ks.length).map fun k=>PV.ref (i + 1 + k)))=some (.int ks.length):=by
 rw [yJ (x:=.lst _) rfl,List.length_map,List.length_range]
theorem Cp.at_ (t:Cp M i ks s w fs ws lb ps) {h:Int} (h0:0<=h) (h1:h < ks.length):gIx M (.lst ((List.range ks.length).map fun k=>PV.ref (i + 1 + k))) (.int h)=some (.ref (i + 1 + h.toNat))∧M.g (i + 1 + h.toNat)=some (.ins 10 (ckF (ks.getD h.toNat c0K))):=by
 constructor
 ·rw [vj (x:=.lst _) rfl,JK h0 (by rw [List.length_map,List.length_range]; exact h1),List.getElem?_map,List.getElem?_range (by omega)];rfl
 ·refine t.ck h.toNat _ ?_;rw [List.getD_eq_getElem?_getD,List.getElem?_eq_getElem (by omega)];rfl
theorem vI (t:Cp M i ks s w fs ws lb ps) (hn:ks.length<=40):xR [.ref i] M = .ok (.lst ((hon ks.length ws).map PV.int)) M:=by
 refine ya (ρ:=[some (.ref i)]) rfl rfl ?_;unfold d_zaf;refine jT ?_;have f1:=jU (x:="clocks") (d:=yg 0) (ρ:=[some (.ref i)]) rfl t.co rfl;refine jP (xs:=xl 0 ks.length) (M1:=M) ?_ (by rw [xx]; exact xS (by omega)) ?_
 ·have hs:xv (ks.length:Int)=true:=yp.mpr ⟨by omega,by omega⟩;unfold xj;simp only [jt,yH,f1,jx,Res.bind_ok,one,t.len,Option.map_some,hs,if_true,Int.toNat_natCast]
 ·rw [rng_emb]
  refine Jj PV.int (fun x=>!decide (x ∈ ws)) PV.int _ fun x hx=>⟨[some (.int x),some (.ref i)],rfl,?_,fun _=>rfl⟩
  have gi:gIn true M (.int x) (.ref (i + 1 + ks.length))=some (.bl (!decide (x ∈ ws))):=xn (neg:=true) (M:=M) (x:=.ref (i + 1 + ks.length)) (k:=x) (ns:=ws) (xg t.wa);have f2:=jU (x:="waits") (d:=yg 1) (ρ:=[some (.int x),some (.ref i)]) rfl t.co rfl;simp only [yx,yd,jC,Res.bind_ok,f2,gi,jB];rfl
theorem honest_c (t:Cp M i ks s w fs ws lb ps) (hn:ks.length<=40):vS [.ref i] M = .ok (.lst ((xt ks.length ws fs).map PV.int)) M:=by
 refine ya (ρ:=[some (.ref i)]) rfl rfl ?_;unfold d_zaj;refine jT ?_;have hh:=vP ks.length ws;refine jP (xs:=(hon ks.length ws).map PV.int) (M1:=M) ?_ (by rw [List.length_map]; exact xS (by omega)) ?_
 ·unfold dIt;rw [jR (xs:=[]) (zs:=[]) (M1:=M) (M2:=M) rfl t.co rfl rfl rfl];show ((xR [.ref i] M).bind fun x M1=>ofO (itOf M1 x) M1)=_;rw [vI t hn];rfl
 ·refine Jj PV.int (fun x=>!decide (x ∈ fs)) PV.int _ fun x hx=>⟨[some (.int x),some (.ref i)],rfl,?_,fun _=>rfl⟩
  have gi:gIn true M (.int x) (.lst (fs.map PV.int))=some (.bl (!decide (x ∈ fs))):=xn (neg:=true) (M:=M) (x:=.lst (fs.map PV.int)) (k:=x) (ns:=fs) rfl;have f2:=jU (x:="liars") (d:=yg 1) (ρ:=[some (.int x),some (.ref i)]) rfl t.co rfl;simp only [yx,yd,jC,Res.bind_ok,f2,gi,jB];rfl
theorem YR {b:Int} (t:Cp M i ks s w fs ws lb ps) (hn:ks.length<=40) (b0:0<=b) (b1:b<=100000):Xl [.ref i,.int b] M = .ok (.lst ((rds ks ws fs b).map PV.int)) M:=by
 refine ya (ρ:=[some (.ref i),some (.int b)]) rfl rfl ?_;unfold d_zae;refine jT ?_;have hh:=Yj ks.length ws fs;refine jP (xs:=(xt ks.length ws fs).map PV.int) (M1:=M) ?_ (by rw [List.length_map]; exact xS (by omega)) ?_
 ·unfold dIt;rw [jR (xs:=[]) (zs:=[]) (M1:=M) (M2:=M) rfl t.co rfl rfl rfl];show ((vS [.ref i] M).bind fun x M1=>ofO (itOf M1 x) M1)=_;rw [honest_c t hn];rfl
 ·unfold rds;rw [List.map_map]
  refine yb PV.int (fun x=>.int (rd ks b x)) _ fun x hx=>⟨[some (.int x),some (.int b),some (.ref i)],rfl,rfl,?_⟩
  obtain ⟨⟨⟨x0,x1⟩,_⟩,_⟩:=Yd.mp hx;obtain ⟨a1,a2⟩:=t.at_ x0 x1;have f2:=jU (x:="clocks") (d:=yg 2) (ρ:=[some (.int x),some (.int b),some (.ref i)]) rfl t.co rfl;rw [jR (i:=i + 1 + x.toNat) (xs:=[.int b]) (zs:=[]) (M1:=M) (M2:=M) (by simp only [yd,f2,jC,Res.bind_ok,a1,jB]) a2 rfl rfl rfl];exact uE a2 b0 b1
def Ja (l:List (List Int × Int)) (w n:Int):Prop:=∀ p ∈ l,∃ f h,p.1=[f,h]∧(0<=f∧f < n)∧(0<=h∧h < n)∧f≠h∧-w<=p.2∧p.2<=w
theorem off_key_eq {f h n:Int} (f0:0<=f∧f < n) (h0:0<=h∧h < n) (ne:f≠h):D_zbg [.tup [.int f,.int h],.int n] M = .ok (.bl true) M:=by
 refine ya (ρ:=[some (.tup [.int f,.int h]),some (.int n)]) rfl rfl ?_;unfold d_zbg;have i0:gIx M (.tup [.int f,.int h]) (.int 0)=some (.int f):=rfl;have i1:gIx M (.tup [.int f,.int h]) (.int 1)=some (.int h):=rfl;have ip:Xg [.tup [.int f,.int h]] M = .ok (.bl true) M:=rfl
 have a1:xN [.int f,.int n] M = .ok (.bl true) M:=by rw [xm,xA f0.1 (by omega)]
 have a2:xN [.int h,.int n] M = .ok (.bl true) M:=by rw [xm,xA h0.1 (by omega)]
 have g1:eqG true M (.int f) (.int h)=some (.bl true):=by
  rw [JB];simp [ne]
 refine uK (M1:=M) (by simp [yl,gen,ip,i0,i1,a1,a2,Yx]) ?_;exact jT (by simp [i0,i1,g1])
theorem check_offs_ok {l:List (List Int × Int)} {n:Int} (h:Ja l w n) (hl:l.length < 1000):D_zbh [.dct l,.int w,.int n] M = .ok .non M:=by
 show fin (d_zbh [some (.dct l),some (.int w),some (.int n)] M)=_;unfold d_zbh;have q1:ue M [.dct l,.ty "dict"]=some (.bl true,M):=rfl
 have q2:yr (dItems (yg 0)) Xx [2,1] yI c_zbh_1 [some (.dct l),some (.int w),some (.int n)] M = .ok (.lst (l.map fun _=>.bl true)) M:=by
  refine jP (xs:=vK l) (M1:=M) rfl (by unfold vK; rw [List.length_map]; exact xS (by omega)) ?_;unfold vK
  refine yb (fun p:List Int × Int=>PV.tup [.tup (p.1.map PV.int),.int p.2]) (fun _=>.bl true) _ fun p hp=>⟨[some (.tup (p.1.map PV.int)),some (.int p.2),some (.int n),some (.int w)],rfl,rfl,?_⟩
  obtain ⟨f,k,e,f0,k0,ne,v0,v1⟩:=h p hp
  have b1:um [.int p.2,.int (-w),.int w] M = .ok (.bl true) M:=by rw [vy (Kd.int _),xA v0 v1]
  unfold c_zbh_1;rw [e];show vw _ _ [some (.tup [.int f,.int k]),some (.int p.2),some (.int n),some (.int w)] M=_;simp [yl,gen,vw,off_key_eq f0 k0 ne,b1,Yx]
 have q3:vA M (.lst (l.map fun _=>PV.bl true))=some (.bl true):=by
  have e1:(l.map fun _=>PV.bl true)=(l.map fun _=>true).map PV.bl:=by rw [List.map_map]; rfl
  unfold vA YN;rw [e1];simp only [xc,Option.bind_some,yT]
  have:(l.map fun _=>true).all id=true:=by simp
  rw [this]
 simp [q1,q2,q3,Yx]
theorem uk {b:Int} {l o:List (List Int × Int)} (t:Cp M i ks s w fs ws lb ps) (l0:0<=lb) (b0:lb<=b) (b1:b<=100000) (hl:JL l fs ks.length) (hl2:l.length < 1000) (ho:Ja o w ks.length) (ho2:o.length < 1000):D_zaa [.ref i,.int b,.dct l,.dct o] M = .ok .non M:=by
 show fin (d_zaa [some (.ref i),some (.int b),some (.dct l),some (.dct o)] M)=_;unfold d_zaa;have f1:=jU (x:="last_beat") (d:=yg 0) (ρ:=[some (.ref i),some (.int b),some (.dct l),some (.dct o)]) rfl t.co rfl;have f2:=jU (x:="liars") (d:=yg 0) (ρ:=[some (.ref i),some (.int b),some (.dct l),some (.dct o)]) rfl t.co rfl;have f3:=jU (x:="clocks") (d:=yg 0) (ρ:=[some (.ref i),some (.int b),some (.dct l),some (.dct o)]) rfl t.co rfl;have f4:=jU (x:="error") (d:=yg 0) (ρ:=[some (.ref i),some (.int b),some (.dct l),some (.dct o)]) rfl t.co rfl
 have e:∀ {x:RS},x = .nx [some (.ref i),some (.int b),some (.dct l),some (.dct o)] M->fin x = .ok .non M:=fun h=>by rw [h]; rfl
 refine e ?_;refine yE (v:=.non) (M1:=M) ?_ (yE (v:=.non) (M1:=M) ?_ ?_)
 ·simp only [jY,jt,f1,jJ,jC,uh,jx,Res.bind_ok];show xQ [.int b,.int lb,.int 100000] M=_;rw [jD (Kd.int b) (yp.mpr ⟨by omega,by omega⟩) (by decide),if_pos (xA b0 b1)]
 ·simp only [jY,jt,f2,f3,yH,jJ,jC,jx,Res.bind_ok,yP,t.len];exact check_lies_ok hl hl2
 ·unfold yq;have c:D_zbh (yl 3 0 [Sl.p 0,Sl.p 1,Sl.p 2] [] [PV.dct o,.int w,.int ks.length] []) M = .ok .non M:=check_offs_ok ho ho2;simp only [jY,jt,f3,f4,yH,jJ,jC,jx,Res.bind_ok,yP,t.len];rw [c];rfl
def rdv (ks:List Ck) (fs:List Int) (b:Int) (l o:List (List Int × Int)) (r h:Int):Int:=if h ∈ fs then (ux l [h,r]).getD (rd ks b h) else rd ks b h + (ux o [h,r]).getD 0
def rdL (ks:List Ck) (ws fs:List Int) (b:Int) (l o:List (List Int × Int)) (r:Int):List Int:=(hon ks.length ws).map (rdv ks fs b l o r)
theorem read_of_eq {b r h:Int} {l o:List (List Int × Int)} (t:Cp M i ks s w fs ws lb ps) (h0:0<=h) (h1:h < ks.length) (b0:0<=b) (b1:b<=100000):D_zag [.ref i,.int h,.int r,.int b,.dct l,.dct o] M = .ok (.int (rdv ks fs b l o r h)) M:=by
 refine ya (ρ:=[some (.ref i),some (.int h),some (.int r),some (.int b),some (.dct l),some (.dct o),none]) rfl rfl ?_;unfold d_zag;obtain ⟨a1,a2⟩:=t.at_ h0 h1;have f1:=jU (x:="clocks") (d:=yg 0) (ρ:=[some (.ref i),some (.int h),some (.int r),some (.int b),some (.dct l),some (.dct o),none]) rfl t.co rfl;refine jW (v:=.int (rd ks b h)) (M1:=M) ?_ ?_
 ·rw [jR (i:=i + 1 + h.toNat) (xs:=[.int b]) (zs:=[]) (M1:=M) (M2:=M) (by simp only [yd,f1,jC,jJ,Res.bind_ok,a1,jB]) a2 rfl rfl rfl];exact uE a2 b0 b1
 simp only [List.set_cons_succ,List.set_cons_zero]
 have s2:(2:Nat)<=sizeLine:=by decide
 have ei:vt [PV.int h,.int r]=some [h,r]:=rfl;have f2:=jU (x:="liars") (d:=yg 0) (ρ:=[some (.ref i),some (.int h),some (.int r),some (.int b),some (.dct l),some (.dct o),some (.int (rd ks b h))]) rfl t.co rfl;have gi:gIn false M (.int h) (.lst (fs.map PV.int))=some (.bl (decide (h ∈ fs))):=xn (neg:=false) (M:=M) (x:=.lst (fs.map PV.int)) (k:=h) (ns:=fs) rfl
 have gt:∀ (m:List (List Int × Int)) (z:Int),getV m [h,r] (.int z) = .int ((ux m [h,r]).getD z):=fun m z=>by
  unfold getV;cases ux m [h,r] <;> rfl
 by_cases hf:h ∈ fs
 ·refine nx_leave (M1:=M) (by simp only [yx,yd,f2,jC,jJ,Res.bind_ok,gi,hf,decide_true,jB]; rfl) ?_;refine jT ?_;unfold vM;simp only [jC,jJ,jt,jx,Res.bind_ok,ei,List.length_cons,List.length_nil,s2,if_true,gt];unfold rdv;rw [if_pos hf]
 ·refine uK (M1:=M) (by simp only [yx,yd,f2,jC,jJ,Res.bind_ok,gi,hf,decide_false,jB]; rfl) ?_;refine jT ?_;unfold vM;simp only [yd,jC,jJ,jt,jx,uh,Res.bind_ok,ei,List.length_cons,List.length_nil,s2,if_true,gt,vE,jB];unfold rdv;rw [if_neg hf]
theorem ends_eq {us:List Int} {k:Int} (h40:us.length<=40) (k0:0<=k) (hk:2 * k < us.length):D_zat [.lst (us.map PV.int),.int k] M = .ok (.lst ((vN us k).map PV.int)) M:=by
 have hsl:(yG us).length=us.length:=(xk us).length_eq
 have lenE:yA M (.lst (us.map PV.int))=some (.int us.length):=by rw [yJ (M:=M) (x:=.lst (us.map PV.int)) rfl,List.length_map]
 refine ya (ρ:=[some (.lst (us.map PV.int)),some (.int k)]) rfl rfl ?_;unfold d_zat;refine jT ?_;simp only [dSl_eq,yH,jt,jC,jJ,jx,Res.bind_ok,yP,Yk (M:=M) (ws:=us) (by omega),dOS_eq,yd,lenE,xK,jB,gSl_lst];rw [cut_in k0 (by omega) (by rw [List.length_map]; omega),<- List.map_drop,<- List.map_take];unfold vN;rw [show ((us.length:Int) - k).toNat - k.toNat=us.length - 2 * k.toNat by omega]
theorem uL {b r:Int} {l o:List (List Int × Int)} (t:Cp M i ks s w fs ws lb ps) (hn:ks.length<=40) (b0:0<=b) (b1:b<=100000) (s0:0<=s) (hs:2 * s < (hon ks.length ws).length):Xm [.ref i,.int r,.int b,.dct l,.dct o] M = .ok (.int (mid (rdL ks ws fs b l o r) s)) M:=by
 refine ya (ρ:=[some (.ref i),some (.int r),some (.int b),some (.dct l),some (.dct o),none]) rfl rfl ?_;unfold d_zab;have hh:=vP ks.length ws;refine jW (v:=.lst ((rdL ks ws fs b l o r).map PV.int)) (M1:=M) ?_ ?_
 ·refine jP (xs:=(hon ks.length ws).map PV.int) (M1:=M) ?_ (by rw [List.length_map]; exact xS (by omega)) ?_
  ·unfold dIt;rw [jR (xs:=[]) (zs:=[]) (M1:=M) (M2:=M) rfl t.co rfl rfl rfl];show ((xR [.ref i] M).bind fun x M1=>ofO (itOf M1 x) M1)=_;rw [vI t hn];rfl
  ·unfold rdL;rw [List.map_map]
   refine yb PV.int (fun x=>.int (rdv ks fs b l o r x)) _ fun x hx=>⟨[some (.int x),some (.int r),some (.int b),some (.dct l),some (.dct o),some (.ref i)],rfl,rfl,?_⟩
   obtain ⟨⟨x0,x1⟩,_⟩:=uw.mp hx;rw [jR (xs:=[.int x,.int r,.int b,.dct l,.dct o]) (zs:=[]) (M1:=M) (M2:=M) rfl t.co rfl rfl rfl];exact read_of_eq t x0 x1 b0 b1
 simp only [List.set_cons_succ,List.set_cons_zero];refine jT ?_;have hlL:(rdL ks ws fs b l o r).length=(hon ks.length ws).length:=List.length_map ..;have f1:=jU (x:="few") (d:=yg 0) (ρ:=[some (.ref i),some (.int r),some (.int b),some (.dct l),some (.dct o),some (.lst ((rdL ks ws fs b l o r).map PV.int))]) rfl t.co rfl;simp only [jY,jt,f1,jC,jJ,jx,Res.bind_ok];rw [show D_zat (yl 2 0 [Sl.p 0,Sl.p 1] [] [PV.lst ((rdL ks ws fs b l o r).map PV.int),.int s] []) M=_ from ends_eq (by omega) s0 (by omega)];simp only [Res.bind_ok];have hc:=cutI_len (ws:=rdL ks ws fs b l o r) s0 (by omega);exact half_way_eq (fun z=>by rw [z] at hc; simp at hc; omega)
end

def upK (ks:List Ck) (S:List Int) (m:Int->Int) (b:Int):List Ck:=(List.range ks.length).map fun k:Nat=>if (k:Int) ∈ S then (ks.getD k c0K).to (m k) b else ks.getD k c0K
theorem ye (ks:List Ck) (S:List Int) (m:Int->Int) (b:Int):(upK ks S m b).length=ks.length:=by
 unfold upK;rw [List.length_map,List.length_range]
theorem Jt {ks:List Ck} {S:List Int} {m:Int->Int} {b:Int} {k:Nat} (h:k < ks.length):(upK ks S m b)[k]? = some (if (k:Int) ∈ S then (ks.getD k c0K).to (m k) b else ks.getD k c0K):=by
 unfold upK;rw [List.getElem?_map,List.getElem?_range h];rfl
theorem upK_nil {ks:List Ck} {m:Int->Int} {b:Int}:upK ks [] m b=ks:=by
 refine List.ext_getElem? fun k=>?_
 by_cases h:k < ks.length
 ·rw [Jt h,if_neg (by simp),List.getD_eq_getElem?_getD,List.getElem?_eq_getElem h];rfl
 ·rw [List.getElem?_eq_none (by rw [ye]; omega),List.getElem?_eq_none (by omega)]
theorem set_all {M:Sto} {i:Nat} {ks:List Ck} {s w lb b:Int} {fs ws:List Int} {ps:List PV} (t:Cp M i ks s w fs ws lb ps) (b0:0<=b) (b1:b<=100000) (m:Int->Int) (H:List Int) (hH:∀ h ∈ H,0<=h∧h < ks.length) (nd:H.Nodup) :
  ∃ M',ui Xx [some (.int b),some (.ref i)] yI (yw 10 "set_to" Js 3 0 [.p 0,.p 1,.p 2] [] (dOp gIx (xa 11 "clocks" (yg 3)) (yg 0)) (jc (yg 1) (jc (yg 2) yh)) yh) (H.map fun h=>PV.tup [.int h,.int (m h)]) M = .ok (H.map fun h=>PV.int (m h - rd ks b h)) M'∧Cp M' i (upK ks H m b) s w fs ws lb ps∧M'.n=M.n∧∀ j,(j < i∨i + ks.length < j)->M'.g j=M.g j:=by
 obtain ⟨ys,M',e,ey,et,en,eo⟩:=uY (bnd:=Xx) (r:=[some (.int b),some (.ref i)]) (dt:=yI) (de:=yw 10 "set_to" Js 3 0 [.p 0,.p 1,.p 2] [] (dOp gIx (xa 11 "clocks" (yg 3)) (yg 0)) (jc (yg 1) (jc (yg 2) yh)) yh)
  (fun q acc M'=>acc=(H.take q).map (fun h=>PV.int (m h - rd ks b h))∧Cp M' i (upK ks (H.take q) m b) s w fs ws lb ps∧M'.n=M.n∧∀ j,(j < i∨i + ks.length < j)->M'.g j=M.g j) (H.map fun h=>PV.tup [.int h,.int (m h)]) 0 [] M ⟨rfl,by rw [List.take_zero,upK_nil]; exact t,rfl,fun _ _=>rfl⟩ (by
   rintro q x hx acc M1 ⟨rfl,t1,n1,o1⟩;rw [Nat.zero_add] at t1 ⊢;rw [List.getElem?_map] at hx
   cases e:H[q]? with
   | none=>rw [e] at hx; cases hx
   | some h =>
    rw [e] at hx;cases hx;have hm:=List.mem_of_getElem? e;obtain ⟨h0,h1⟩:=hH h hm
    have htk:H.take (q + 1)=H.take q ++ [h]:=by rw [List.take_succ,e]; rfl
    have hnot:h ∉ H.take q:=fun hin=>by
     have hs:(H.take (q + 1)).Nodup:=nd.sublist (List.take_sublist _ _);rw [htk] at hs;exact (List.nodup_append.mp hs).2.2 h hin h (List.mem_singleton_self h) rfl
    have hlt:h.toNat < ks.length:=by omega
    obtain ⟨a1,a2⟩:=t1.at_ h0 (by rw [ye]; exact h1)
    have ek:(upK ks (H.take q) m b).getD h.toNat c0K=ks.getD h.toNat c0K:=by
     rw [List.getD_eq_getElem?_getD,Jt hlt,Int.toNat_of_nonneg h0,if_neg hnot];rfl
    rw [ek] at a2;rw [ye] at a1;have f1:=jU (x:="clocks") (d:=yg 3) (ρ:=[some (.int h),some (.int (m h)),some (.int b),some (.ref i)]) rfl t1.co rfl;rw [ye] at f1
    have e3:yw 10 "set_to" Js 3 0 [.p 0,.p 1,.p 2] [] (dOp gIx (xa 11 "clocks" (yg 3)) (yg 0)) (jc (yg 1) (jc (yg 2) yh)) yh [some (.int h),some (.int (m h)),some (.int b),some (.ref i)] M1 = .ok (.int (m h - rd ks b h)) (M1.set (i + 1 + h.toNat) (.ins 10 (ckF ((ks.getD h.toNat c0K).to (m h) b)))):=by
     rw [jR (i:=i + 1 + h.toNat) (xs:=[.int (m h),.int b]) (zs:=[]) (M1:=M1) (M2:=M1) (by simp only [yd,f1,jC,Res.bind_ok,a1,jB]) a2 rfl rfl rfl];exact set_to_eq a2 b0 b1
    refine ⟨[some (.int h),some (.int (m h)),some (.int b),some (.ref i)],true,M1,rfl,rfl,(fun z=>by cases z),fun _=>⟨_,_,e3,?_,⟨?_,?_,?_,fun k c hk=>?_,t.lo,?_⟩,n1,fun j hj=>?_⟩⟩
    ·rw [htk,List.map_append];rfl
    ·rw [Sto.set_ne (by omega),ye]
     have:=t1.co
     rw [ye] at this;exact this
    ·rw [ye,Sto.set_ne (by omega)]
     have:=t1.wa
     rw [ye] at this;exact this
    ·rw [ye,Sto.set_ne (by omega)]
     have:=t1.pa
     rw [ye] at this;exact this
    ·have hk':=(List.getElem?_eq_some_iff.mp hk).1;rw [ye] at hk';rw [Jt hk'] at hk;cases hk
     by_cases z:k=h.toNat
     ·subst z;rw [Sto.set_same,Int.toNat_of_nonneg h0,if_pos (by rw [htk]; exact List.mem_append_right _ (List.mem_singleton_self h))]
     ·have:((k:Int) ∈ H.take (q + 1))↔(k:Int) ∈ H.take q:=by
       rw [htk,List.mem_append,List.mem_singleton];exact ⟨fun y=>y.elim id fun y=>absurd y (by omega),.inl⟩
      rw [Sto.set_ne (by omega),t1.ck k _ (Jt hk')];simp only [this]
    ·show _ < M1.n;rw [ye]
     have:=t1.hi
     rw [ye] at this;exact this
    ·rw [Sto.set_ne (by omega)]
     exact o1 j hj)
 rw [List.nil_append] at ey;rw [List.length_map,Nat.zero_add,List.take_length] at ey et;subst ey;exact ⟨M',e,et,en,eo⟩

theorem meet_c {M:Sto} {i:Nat} {ks:List Ck} {s w lb b:Int} {fs ws:List Int} {ps:List PV} {l o:List (List Int × Int)} {O:PV} (t:Cp M i ks s w fs ws lb ps) (hn:ks.length<=40) (l0:0<=lb) (b0:lb<=b) (b1:b<=100000) (s0:0<=s) (hs:2 * s < (hon ks.length ws).length) (hl:JL l fs ks.length) (hl2:l.length < 1000) (ho:Ja o w ks.length) (ho2:o.length < 1000) (hp:ps.length < 1000) (hO:O = .dct o∨(O = .non∧o=[])) :
  ∃ M',Xj [.ref i,.int b,.dct l,O] M = .ok (.lst ((xt ks.length ws fs).map fun h=>PV.int (mid (rdL ks ws fs b l o h) s - rd ks b h))) M'∧Cp M' i (upK ks (xt ks.length ws fs) (fun h=>mid (rdL ks ws fs b l o h) s) b) s w fs ws b (ps ++ [.tup [.int b,.lst ((xt ks.length ws fs).map fun h=>PV.int (mid (rdL ks ws fs b l o h) s - rd ks b h))]])∧M'.n=M.n∧∀ j,(j < i∨i + 2 + ks.length < j)->M'.g j=M.g j:=by
 have hh:=Yj ks.length ws fs
 obtain ⟨H,hH⟩:∃ H,H=xt ks.length ws fs:=⟨_,rfl⟩
 obtain ⟨m,hm⟩:∃ m:Int->Int,m=fun h=>mid (rdL ks ws fs b l o h) s:=⟨_,rfl⟩
 have hHb:∀ h ∈ H,0<=h∧h < ks.length:=fun h hx=>(Yd.mp (hH ▸ hx)).1.1;obtain ⟨M1,e1,t1,n1,o1⟩:=set_all t (by omega) b1 m H hHb (hH ▸ honW_nd _ _ _)
 obtain ⟨St,hSt⟩:∃ St,St=H.map fun h=>PV.int (m h - rd ks b h):=⟨_,rfl⟩
 rw [<- hSt] at e1
 have e0:(xt ks.length ws fs).map (fun h=>PV.int (mid (rdL ks ws fs b l o h) s - rd ks b h))=St:=by rw [hSt,hH,hm]
 rw [e0,<- hH,<- hm]
 obtain ⟨M2,hM2⟩:∃ M2,M2=M1.set i (.ins 11 (coF i ks.length s w fs b)):=⟨_,rfl⟩
 obtain ⟨M3,hM3⟩:∃ M3,M3=M2.set (i + 2 + ks.length) (.lst (ps ++ [.tup [.int b,.lst St]])):=⟨_,rfl⟩
 have c1:=t1.co;rw [ye] at c1;have p1:=t1.pa;rw [ye] at p1
 have g2:M2.g i=some (.ins 11 (coF i ks.length s w fs b)):=by rw [hM2]; exact Sto.set_same
 have p2:M2.g (i + 2 + ks.length)=some (.lst ps):=by rw [hM2,Sto.set_ne (by omega)]; exact p1
 obtain ⟨Md,hMd⟩:∃ Md,Md=H.map fun h=>PV.int (m h):=⟨_,rfl⟩
 refine ⟨M3,?_,⟨?_,?_,?_,fun k q hk=>?_,t.lo,?_⟩,?_,fun j hj=>?_⟩
 ·refine ya (ρ:=[some (.ref i),some (.int b),some (.dct l),some O,none,none,none,none]) rfl rfl ?_;unfold d_zau;refine jW (v:=.dct o) (M1:=M) ?_ ?_
  ·rcases hO with rfl | ⟨rfl,rfl⟩ <;> rfl
  simp only [List.set_cons_succ,List.set_cons_zero];refine yE (v:=.non) (M1:=M) ?_ ?_
  ·rw [jR (xs:=[.int b,.dct l,.dct o]) (zs:=[]) (M1:=M) (M2:=M) rfl t.co rfl rfl rfl];exact uk t l0 b0 b1 hl hl2 ho ho2
  refine jW (v:=.lst (H.map PV.int)) (M1:=M) ?_ ?_
  ·rw [jR (xs:=[]) (zs:=[]) (M1:=M) (M2:=M) rfl t.co rfl rfl rfl,hH];exact honest_c t hn
  simp only [List.set_cons_succ,List.set_cons_zero];refine jW (v:=.lst Md) (M1:=M) ?_ ?_
  ·rw [hMd];refine jP (xs:=H.map PV.int) (M1:=M) rfl (by rw [List.length_map,hH]; exact xS (by omega)) ?_
   refine yb PV.int (fun h=>PV.int (m h)) _ fun h hx=>⟨[some (.int h),some (.int b),some (.dct l),some (.dct o),some (.ref i)],rfl,rfl,?_⟩
   rw [jR (xs:=[.int h,.int b,.dct l,.dct o]) (zs:=[]) (M1:=M) (M2:=M) rfl t.co rfl rfl rfl,hm];exact uL t hn (by omega) b1 s0 hs
  simp only [List.set_cons_succ,List.set_cons_zero];refine jW (v:=.lst St) (M1:=M1) ?_ ?_
  ·refine jP (xs:=H.map fun h=>PV.tup [.int h,.int (m h)]) (M1:=M) ?_ (by rw [List.length_map,hH]; exact xS (by omega)) e1;unfold dZip;simp only [jt,jJ,jC,jx,Res.bind_ok];congr 2;rw [hMd];unfold vG;rw [List.zipWith_map,List.zipWith_self]
  simp only [List.set_cons_succ,List.set_cons_zero];refine vV (v:=.int b) (Ma:=M1) (i:=i) rfl rfl c1 (show 7 < 1000 by decide) ?_;have ep:uq "last_beat" (.int b) (coF i ks.length s w fs lb)=coF i ks.length s w fs b:=rfl;rw [ep,<- hM2];refine yE (v:=.non) (M1:=M3) ?_ (jT rfl);have f1:=jU (x:="past") (d:=yg 0) (ρ:=[some (.ref i),some (.int b),some (.dct l),some O,some (.dct o),some (.lst (H.map PV.int)),some (.lst Md),some (.lst St)]) rfl g2 rfl
  have s2:(2:Nat)<=sizeLine:=by decide
  have ga:yR M2 (.ref (i + 2 + ks.length)) [.tup [.int b,.lst St]]=some (.non,M3):=by
   unfold yR;rw [xM p2];show (if ps.length < sizeLine then _ else _)=_;rw [if_pos (xS (by omega)),hM3]
  have fl:fList M2 (.lst St)=some (.lst St):=rfl;unfold dMt;simp only [f1,Res.bind_ok,jt,dTup_eq,yH,jJ,jC,jx,yP,fl,List.length_cons,List.length_nil,s2,if_true,yF p2,ga]
 ·rw [ye,hM3,Sto.set_ne (by omega)];exact g2
 ·rw [ye,hM3,Sto.set_ne (by omega),hM2,Sto.set_ne (by omega)]
  have:=t1.wa
  rw [ye] at this;exact this
 ·rw [ye,hM3];exact Sto.set_same
 ·have hk':=(List.getElem?_eq_some_iff.mp hk).1;rw [ye] at hk';rw [hM3,Sto.set_ne (by omega),hM2,Sto.set_ne (by omega)];exact t1.ck k q hk
 ·rw [ye,hM3,hM2];show _ < M1.n
  have:=t1.hi
  rw [ye] at this;exact this
 ·rw [hM3,hM2];exact n1
 ·rw [hM3,Sto.set_ne (by omega),hM2,Sto.set_ne (by omega)];exact o1 j (by omega)

structure LJ (M0:Sto) (P:List Int × Int->Prop) (L:Nat) (M:Sto):Prop where
 ex:∃ l,M.g M0.n=some (.dct l)∧(∀ p ∈ l,P p)∧l.length<=L
 tw:Tw M
 n:M0.n < M.n
 off:∀ j,2<=j->j < M0.n->M.g j=M0.g j
theorem LJ.step {M0 M M':Sto} {P:List Int × Int->Prop} {L:Nat} (h:LJ M0 P L M) (h2:2<=M0.n) (T:Tw M') (o:Off M M'):LJ M0 P L M':=by
 obtain ⟨l,e,p,q⟩:=h.ex;exact ⟨⟨l,by rw [o.g M0.n h2 h.n]; exact e,p,q⟩,T,Nat.lt_of_lt_of_le h.n o.n,fun j hj hn=>by rw [o.g j hj (Nat.lt_trans hn h.n)]; exact h.off j hj hn⟩
theorem LJ.more {M0 M:Sto} {P:List Int × Int->Prop} {L:Nat} (h:LJ M0 P L M):LJ M0 P (L + 1) M:=by
 obtain ⟨l,e,p,q⟩:=h.ex;exact ⟨⟨l,e,p,by omega⟩,h.tw,h.n,h.off⟩
theorem LJ.put {M0 M:Sto} {P:List Int × Int->Prop} {L:Nat} {f h v:Int} (t:LJ M0 P L M) (h2:2<=M0.n) (hL:L < 1000) (hp:P ([f,h],v)) :
  ∃ M',putT M (.ref M0.n) [.int f,.int h] (.int v)=some M'∧LJ M0 P (L + 1) M':=by
 obtain ⟨l,e,p,q⟩:=t.ex
 have s2:(2:Nat)<=sizeLine:=by decide
 have hl:l.length < sizeLine:=xS (by omega);refine ⟨M.set M0.n (.dct (putL l [f,h] v)),?_,⟨⟨_,Sto.set_same,fun r hr=>?_,by have:=putL_len l [f,h] v; omega⟩,?_,t.n,fun j hj hn=>?_⟩⟩
 ·unfold putT;have e6:vt [PV.int f,.int h]=some [f,h]:=rfl;simp only [e,e6,List.length_cons,List.length_nil,s2,hl,and_self,if_true]
 ·rcases putL_mem hr with hr | rfl
  ·exact p r hr
  ·exact hp
 ·obtain ⟨ns,c,w⟩:=t.tw;exact ⟨ns,c,by rw [Sto.set_ne (by omega)]; exact w.row,by rw [Sto.set_ne (by omega)]; exact w.tw,w.ne,w.n⟩
 ·rw [Sto.set_ne (by omega)];exact t.off j hj hn
def OffP (w n:Int) (p:List Int × Int):Prop:=∃ f h,p.1=[f,h]∧(0<=f∧f < n)∧(0<=h∧h < n)∧f≠h∧-w<=p.2∧p.2<=w
theorem slip_step {M0 M:Sto} {w n f h:Int} {L:Nat} (t:LJ M0 (OffP w n) L M) (h2:2<=M0.n) (hL:L < 1000) (w0:0<=w) (w1:w<=100) (f0:0<=f∧f < n) (k0:0<=h∧h < n) :
  ∃ M',Yn [some (.ref 1),some (.int n),some (.int w),some (.ref M0.n),some (.int f),some (.int h)] M = .nx [some (.ref 1),some (.int n),some (.int w),some (.ref M0.n),some (.int f),some (.int h)] M'∧LJ M0 (OffP w n) (L + 1) M':=by
 unfold Yn
 by_cases hfh:f=h
 ·have g1:eqG true M (.int f) (.int h)=some (.bl false):=by
   rw [JB];simp [hfh]
  exact ⟨M,Yb (by simp [g1]),t.more⟩
 ·have g1:eqG true M (.int f) (.int h)=some (.bl true):=by
   rw [JB];simp [hfh]
  obtain ⟨d,M1,e1,a0,a1,T1,o1⟩:=yS t.tw (k:=2) (by decide) (by decide);have t1:=t.step h2 T1 o1
  by_cases hd:d=0
  ·have g2:eqG false M1 (.int d) (.int 0)=some (.bl true):=by
    rw [YF];simp [hd]
   obtain ⟨x,M2,e2,x0,x1,T2,o2⟩:=yS T1 (k:=2 * w + 1) (by omega) (by omega);obtain ⟨y,M3,e3,hy,T3,o3⟩:=Je T2 (xs:=[.int w,.int (0 - w),.int (x - w)]) (by simp) (show 3 < 1073741824 by decide)
   obtain ⟨v,rfl,v0,v1⟩:∃ v,y = .int v∧-w<=v∧v<=w:=by
    simp only [List.mem_cons,List.mem_nil_iff,or_false] at hy
    rcases hy with rfl | rfl | rfl
    ·exact ⟨_,rfl,by omega,by omega⟩
    ·exact ⟨_,rfl,by omega,by omega⟩
    ·exact ⟨_,rfl,by omega,by omega⟩
   have t3:=(t1.step h2 T2 o2).step h2 T3 o3;obtain ⟨M4,e4,t4⟩:=t3.put h2 hL (f:=f) (h:=h) (v:=v) ⟨f,h,rfl,f0,k0,hfh,v0,v1⟩;refine ⟨M4,?_,t4⟩
   have s3:(3:Nat)<=sizeLine:=by decide
   have et:dAnd (yk (dOp (eqG true) (yg 4) (yg 5))) (yk (dOp (eqG false) (jr yu 2 0 [.p 0,.p 1] [] (jc (yg 0) (jc (dC (.int 2)) yh)) yh) (dC (.int 0)))) [some (.ref 1),some (.int n),some (.int w),some (.ref M0.n),some (.int f),some (.int h)] M = .ok true M1:=by
    simp [yl,gen,g1,e1,g2]
   unfold sIf;rw [et];simp only [Res.st_ok,if_true];unfold sPutT
   have ev:jr xO 2 0 [.p 0,.p 1] [] (jc (yg 0) (jc (uX (jc (yg 2) (jc (dOp xF (dC (.int 0)) (yg 2)) (jc (dOp xF (jr yu 2 0 [.p 0,.p 1] [] (jc (yg 0) (jc (dOp xG (dOp Xr (dC (.int 2)) (yg 2)) (dC (.int 1))) yh)) yh) (yg 2)) yh)))) yh)) yh [some (.ref 1),some (.int n),some (.int w),some (.ref M0.n),some (.int f),some (.int h)] M1 = .ok (.int v) M3:=by
    have e3':xO [.ref 1,.lst [.int w,.int (-w),.int (x - w)]] M2 = .ok (.int v) M3:=by rw [<- e3,Int.zero_sub]
    simp [yl,gen,xL (M:=M1) (i:=2) (j:=w) (.inl (by decide)),e2,s3,e3']
   rw [ev];simp only [Res.st_ok];have eo:yg 3 [some (.ref 1),some (.int n),some (.int w),some (.ref M0.n),some (.int f),some (.int h)] M3 = .ok (.ref M0.n) M3:=rfl;have ek:jc (yg 4) (jc (yg 5) yh) [some (.ref 1),some (.int n),some (.int w),some (.ref M0.n),some (.int f),some (.int h)] M3 = .ok [.int f,.int h] M3:=rfl;rw [eo];simp only [Res.st_ok];rw [ek];simp only [Res.st_ok,e4]
  ·have g2:eqG false M1 (.int d) (.int 0)=some (.bl false):=by
    rw [YF];simp [hd]
   exact ⟨M1,Yb (by simp [yl,gen,g1,e1,g2]),t1.more⟩
theorem slip_row {M0 M:Sto} {w n f:Int} {L:Nat} {x:Option PV} (t:LJ M0 (OffP w n) L M) (h2:2<=M0.n) (n0:0<=n) (hL:L + n.toNat < 1000) (w0:0<=w) (w1:w<=100) (f0:0<=f∧f < n) :
  ∃ x' M',Yo [some (.ref 1),some (.int n),some (.int w),some (.ref M0.n),some (.int f),x] M = .nx [some (.ref 1),some (.int n),some (.int w),some (.ref M0.n),some (.int f),x'] M'∧LJ M0 (OffP w n) (L + n.toNat) M':=by
 obtain ⟨ρ',M',el,x',e',t'⟩:=vh (g:=gN 5) (db:=Yn) (fun i ρ M'=>∃ x',ρ=[some (.ref 1),some (.int n),some (.int w),some (.ref M0.n),some (.int f),x']∧LJ M0 (OffP w n) (L + i) M') (xl 0 n.toNat) 0 [some (.ref 1),some (.int n),some (.int w),some (.ref M0.n),some (.int f),x] M
  ⟨x,rfl,t⟩ (by
   rintro i z hz ρ M1 ⟨x1,rfl,t1⟩;rw [vH] at hz;split at hz
   ·rename_i hi;cases hz;rw [Nat.zero_add] at t1;obtain ⟨M2,e2,t2⟩:=slip_step (h:=0 + (i:Int)) t1 h2 (by omega) w0 w1 f0 ⟨by omega,by omega⟩;exact ⟨_,_,M2,rfl,e2,_,rfl,by rw [Nat.zero_add]; exact t2⟩
   ·cases hz)
 subst e';rw [xx,Nat.zero_add] at t';refine ⟨x',M',?_,t'⟩;unfold Yo;have hs:xv n=true:=yp.mpr ⟨by omega,by omega⟩
 have er:xj (jc (yg 1) yh) [some (.ref 1),some (.int n),some (.int w),some (.ref M0.n),some (.int f),x] M = .ok (.fix (xl 0 n.toNat)) M:=by
  simp [xj,hs]
 rw [uG er];exact el
theorem slips_ok {M:Sto} (T:Tw M) {n w:Int} (n0:0<=n) (n1:n<=16) (w0:0<=w) (w1:w<=100) :
  ∃ l M',D_zbd [.ref 1,.int n,.int w] M = .ok (.dct l) M'∧Ja l w n∧l.length < 1000∧Tw M'∧Off M M':=by
 have hn2:2<=M.n:=by obtain ⟨ns,c,t⟩:=T; exact t.n
 have T0:Tw (M.new (.dct [])):=by
  obtain ⟨ns,c,t⟩:=T;exact ⟨ns,c,by rw [Sto.new_ne (by omega)]; exact t.row,by rw [Sto.new_ne (by omega)]; exact t.tw,t.ne,Nat.le_succ_of_le t.n⟩
 have t0:LJ M (OffP w n) 0 (M.new (.dct [])):=⟨⟨[],Sto.new_same,fun p hp=>(by cases hp),Nat.le_refl _⟩,T0,Nat.lt_succ_self _,fun j _ hj=>Sto.new_ne (by omega)⟩
 obtain ⟨ρ',M',el,x',y',e',t'⟩:=vh (g:=gN 4) (db:=Yo) (fun i ρ M'=>∃ x' y',ρ=[some (.ref 1),some (.int n),some (.int w),some (.ref M.n),x',y']∧LJ M (OffP w n) (i * n.toNat) M') (xl 0 n.toNat) 0 [some (.ref 1),some (.int n),some (.int w),some (.ref M.n),none,none] (M.new (.dct []))
  ⟨none,none,rfl,by rw [Nat.zero_mul]; exact t0⟩ (by
   rintro i z hz ρ M1 ⟨x1,y1,rfl,t1⟩;rw [vH] at hz;split at hz
   ·rename_i hi;cases hz;rw [Nat.zero_add] at t1;have hle:i * n.toNat<=16 * 16:=Nat.mul_le_mul (by omega) (by omega);obtain ⟨y2,M2,e2,t2⟩:=slip_row (f:=0 + (i:Int)) (x:=y1) t1 hn2 n0 (by omega) w0 w1 ⟨by omega,by omega⟩;exact ⟨_,_,M2,rfl,e2,_,_,rfl,by rw [Nat.zero_add,Nat.succ_mul]; exact t2⟩
   ·cases hz)
 subst e';obtain ⟨l,g1,p1,q1⟩:=t'.ex;have hle:(0 + (xl 0 n.toNat).length) * n.toNat<=16 * 16:=Nat.mul_le_mul (by rw [xx]; omega) (by omega);have hs:xv n=true:=yp.mpr ⟨by omega,by omega⟩;refine ⟨l,M'.drop M.n,?_,p1,by omega,?_,⟨Nat.le_of_lt t'.n,fun j hj hn=>?_⟩⟩
 ·have e0:D_zbd [.ref 1,.int n,.int w] M=(fin (d_zbd [some (.ref 1),some (.int n),some (.int w),none,none,none] M)).noX:=rfl;rw [e0]
  have e:d_zbd [some (.ref 1),some (.int n),some (.int w),none,none,none] M = .rt (.dct l) (M'.drop M.n):=by
   unfold d_zbd;refine jW (v:=.ref M.n) (M1:=M.new (.dct [])) rfl ?_;simp only [List.set_cons_succ,List.set_cons_zero];refine nx_for (xs:=xl 0 n.toNat) (M1:=M.new (.dct [])) (by simp [xj,hs]) el ?_;refine jT ?_;unfold dFrzD;have ev:yg 3 [some (.ref 1),some (.int n),some (.int w),some (.ref M.n),x',y'] M' = .ok (.ref M.n) M':=rfl;rw [ev];simp only [Res.bind_ok,g1]
  rw [e];rfl
 ·obtain ⟨ns,c,t⟩:=t'.tw;have dn:∀ k,k < 2->(M'.drop M.n).g k=M'.g k:=fun k hk=>if_neg (by omega);exact ⟨ns,c,by rw [dn 0 (by omega)]; exact t.row,by rw [dn 1 (by omega)]; exact t.tw,t.ne,t.n⟩
 ·have:(M'.drop M.n).g j=M'.g j:=if_neg (by omega)
  rw [this];exact t'.off j hj hn
theorem Cs.off {M M':Sto} {cs:List Nat} {ks:List Ck} (h:Cs M cs ks) (lo:∀ c ∈ cs,2<=c) (o:Off M M'):Cs M' cs ks:=⟨h.len,fun k q hq=>by
 obtain ⟨c,e1,hc,e2⟩:=h.at_ k q hq
 exact ⟨c,e1,Nat.lt_of_lt_of_le hc o.n,by rw [o.g c (lo c (List.mem_of_getElem? e1)) hc]; exact e2⟩⟩
theorem Cs.push {M:Sto} {cs:List Nat} {ks:List Ck} {q:Ck} (h:Cs M cs ks):Cs (M.new (.ins 10 (ckF q))) (cs ++ [M.n]) (ks ++ [q]):=⟨by rw [List.length_append,List.length_append,h.len]; rfl,fun k p hp=>by
 by_cases hk:k < ks.length
 ·rw [List.getElem?_append_left hk] at hp;obtain ⟨c,e1,hc,e2⟩:=h.at_ k p hp;exact ⟨c,by rw [List.getElem?_append_left (by rw [h.len]; exact hk)]; exact e1,Nat.lt_succ_of_lt hc,by rw [Sto.new_ne (by omega)]; exact e2⟩
 ·have hk2:k=ks.length:=by
   have:=(List.getElem?_eq_some_iff.mp hp).1
   rw [List.length_append] at this;simp at this;omega
  subst hk2;rw [List.getElem?_append_right (Nat.le_refl _),Nat.sub_self] at hp;cases hp;refine ⟨M.n,?_,Nat.lt_succ_self _,Sto.new_same⟩;rw [<- h.len,List.getElem?_append_right (Nat.le_refl _),Nat.sub_self]
  rfl⟩
theorem tw_new {M:Sto} {c:Cell} (T:Tw M):Tw (M.new c):=by
 obtain ⟨ns,d,t⟩:=T;exact ⟨ns,d,by rw [Sto.new_ne (by have:=t.n; omega)]; exact t.row,by rw [Sto.new_ne (by have:=t.n; omega)]; exact t.tw,t.ne,Nat.le_succ_of_le t.n⟩
def rgI (lo:Int) (n:Nat):List Int:=(List.range n).map fun k:Nat=>lo + (k:Int)
theorem rngP_rgI (lo:Int) (n:Nat):xl lo n=(rgI lo n).map PV.int:=by
 unfold xl rgI;rw [List.map_map];rfl
theorem Yc {lo x:Int} {n:Nat}:x ∈ rgI lo n↔lo<=x∧x < lo + n:=by
 unfold rgI;rw [List.mem_map];constructor
 ·rintro ⟨k,hk,rfl⟩
  have:=List.mem_range.mp hk
  omega
 ·rintro ⟨a,b⟩;exact ⟨(x - lo).toNat,List.mem_range.mpr (by omega),by omega⟩
theorem rgI_rise (lo:Int) (n:Nat):(rgI lo n).Pairwise (· < ·):=by
 unfold rgI;rw [List.pairwise_map];exact List.Pairwise.imp (fun h=>by omega) (List.pairwise_lt_range)
theorem rgI_len (lo:Int) (n:Nat):(rgI lo n).length=n:=by
 unfold rgI;rw [List.length_map,List.length_range]
def Fresh (q:Ck):Prop:=(-2000<=q.f∧q.f<=2000)∧(-20<=q.r∧q.r<=20)∧q.t=0
theorem company_w {M:Sto} (T:Tw M) {s crew w wait:Int} (s0:0<=s) (s5:s<=5) (w0:0<=w) (w1:w<=100) (t0:0<=wait) (hs:2 * s < crew) (hc:crew + wait<=16) :
  ∃ i jL cs ks fs M',D_zaq [.ref 1,.int s,.int crew,.int w,.int wait] M = .ok (.tup [.ref i,.lst (cs.map PV.ref),.lst (fs.map PV.int),.ref jL]) M'∧Cp M' i ks s w fs (rgI crew wait.toNat) 0 []∧M'.g jL=some (.lst ((rgI crew wait.toNat).map PV.int))∧(2<=jL∧jL < i)∧M'.n=i + 3 + ks.length∧Cs M' cs ks∧(∀ c ∈ cs,2<=c∧c < i)∧((ks.length:Int)=crew + wait)∧(∀ q ∈ ks,Fresh q)∧(fs.length:Int)<=s∧(∀ f ∈ fs,0<=f∧f < crew)∧fs.Pairwise (· < ·)∧Tw M':=by
 obtain ⟨ys,M1,e1,cs,ks,rfl,c1,lo1,l1,g1,T1⟩:=uY (bnd:=xH) (r:=[some (.ref 1)]) (dt:=yI) (de:=c_zaq_1)
  (fun i acc M'=>∃ (cs:List Nat) (ks:List Ck),acc=cs.map PV.ref∧Cs M' cs ks∧(∀ c ∈ cs,2<=c)∧ks.length=i∧(∀ q ∈ ks,Fresh q)∧Tw M') (xl 0 (crew + wait).toNat) 0 [] M ⟨[],[],rfl,⟨rfl,fun k q hq=>by cases hq⟩,(fun c hc=>by cases hc),rfl,(fun q hq=>by cases hq),T⟩ (by
   rintro i x hx acc Ma ⟨cs,ks,rfl,ca,la,na,ga,Ta⟩;obtain ⟨f,Mb,eb,f0,f1,Tb,ob⟩:=yS Ta (k:=4001) (by decide) (by decide);obtain ⟨r,Mc,ec,r0,r1,Tc,oc⟩:=yS Tb (k:=41) (by decide) (by decide);have cc:=(ca.off la ob).off la oc
   have hn:2<=Mc.n:=by obtain ⟨ns,c,t⟩:=Tc; exact t.n
   refine ⟨_,true,Ma,rfl,rfl,(fun z=>by cases z),fun _=>⟨.ref Mc.n,Mc.new (.ins 10 (ckF ⟨f - 2000,r - 20,0⟩)),?_,cs ++ [Mc.n],ks ++ [⟨f - 2000,r - 20,0⟩],by simp,cc.push,fun c hc=>?_,by simp; omega,fun q hq=>?_,tw_new Tc⟩⟩
   ·unfold c_zaq_1 dNew
    have ed:jc (dOp xF (jr yu 2 0 [.p 0,.p 1] [] (jc (yg 1) (jc (dC (.int 4001)) yh)) yh) (dC (.int 2000))) (jc (dOp xF (jr yu 2 0 [.p 0,.p 1] [] (jc (yg 1) (jc (dC (.int 41)) yh)) yh) (dC (.int 20))) yh) [some x,some (.ref 1)] Ma = .ok [.int (f - 2000),.int (r - 20)] Mc:=by
     simp [yl,gen,eb,ec]
    show ((yh [some x,some (.ref 1)] Ma).bind _)=_;simp only [jx,Res.bind_ok];rw [ed];simp only [Res.bind_ok];exact ck_new (by omega) (by omega) (by omega) (by omega)
   ·rcases List.mem_append.mp hc with hc | hc
    ·exact la c hc
    ·rw [List.mem_singleton.mp hc];exact hn
   ·rcases List.mem_append.mp hq with hq | hq
    ·exact ga q hq
    ·rw [List.mem_singleton.mp hq]
     exact ⟨⟨by show -2000<=f - 2000; omega,by show f - 2000<=2000; omega⟩,⟨by show -20<=r - 20; omega,by show r - 20<=20; omega⟩,rfl⟩)
 rw [xx,Nat.zero_add] at l1
 obtain ⟨jL,hjL⟩:∃ jL,jL=M1.n:=⟨_,rfl⟩
 obtain ⟨M1',hM1'⟩:∃ M1',M1'=M1.new (.lst ((rgI crew wait.toNat).map PV.int)):=⟨_,rfl⟩
 have n1':M1'.n=jL + 1:=by rw [hM1',hjL]; rfl
 have j2:2<=jL:=by obtain ⟨ns,c,t⟩:=T1; rw [hjL]; exact t.n
 have c1':Cs M1' cs ks:=⟨c1.len,fun k q hq=>by
  obtain ⟨c,a,b,d⟩:=c1.at_ k q hq
  exact ⟨c,a,by omega,by rw [hM1',Sto.new_ne (by omega)]; exact d⟩⟩
 have T1':Tw M1':=by rw [hM1']; exact tw_new T1
 have gL1:M1'.g jL=some (.lst ((rgI crew wait.toNat).map PV.int)):=by rw [hM1',hjL]; exact Sto.new_same
 obtain ⟨fs,M2,e2,f0,fb,fr,T2,o2⟩:=liars_ok T1' (crew:=crew) (most:=s) (by omega) (by omega) s0;have o2n:=o2.n;have c2:=c1'.off lo1 o2
 have gL2:M2.g jL=some (.lst ((rgI crew wait.toNat).map PV.int)):=by rw [o2.g jL j2 (by omega)]; exact gL1
 have h2:2<=M2.n:=by obtain ⟨ns,c,t⟩:=T2; exact t.n
 have c3:Cs (M2.new (.ins 11 [])) cs ks:=⟨c2.len,fun k q hq=>by
  obtain ⟨c,a,b,d⟩:=c2.at_ k q hq
  exact ⟨c,a,Nat.lt_succ_of_lt b,by rw [Sto.new_ne (by omega)]; exact d⟩⟩
 have gL3:(M2.new (.ins 11 [])).g jL=some (.lst ((rgI crew wait.toNat).map PV.int)):=by rw [Sto.new_ne (by omega)]; exact gL2
 have hil:=rgI_len crew wait.toNat
 obtain ⟨M3,e3,t3,n3,o3⟩:=co_init_w (M:=M2.new (.ins 11 [])) (i:=M2.n) (cs:=cs) (ks:=ks) (s:=s) (w:=w) (fs:=fs) (ws:=rgI crew wait.toNat) (Z:=.ref jL) Sto.new_same rfl h2 c3 (fun q hq=>by
  have:=g1 q hq
  exact ⟨⟨by have:=this.1.1; omega,by have:=this.1.2; omega⟩,by have:=this.2.1.1; omega,by have:=this.2.1.2; omega⟩) (by omega) (by omega) s0 s5 w0 w1 fr (fun f hf=>⟨(fb f hf).1,by have:=(fb f hf).2; omega⟩) f0 (by omega) (by rw [yJ (xg gL3),List.length_map]) (Xo gL3 (rgI_rise _ _) (fun f hf=>by have:=Yc.mp hf; omega) (by omega) (by omega)) (fun M' hk=>xg (by rw [hk jL (by omega)]; exact gL3)) (fun F hF L=>by
   refine dComp_live (j:=jL) PV.int (fun _=>.bl false) (rgI crew wait.toNat) (uO gL3 rfl) gL3 (xS (by omega)) fun x hx=>⟨[some (.int x),some F],rfl,rfl,?_⟩
   have gi:gIn false (M2.new (.ins 11 [])) (.int x) F=some (.bl (decide (x ∈ fs))):=by rw [hF]; exact xn (neg:=false) (x:=.lst (fs.map PV.int)) (k:=x) (ns:=fs) rfl
   have hx2:x ∉ fs:=fun h=>by have:=Yc.mp hx; have:=fb x h; omega
   simp [gi,hx2])
 have T3:Tw M3:=by
  obtain ⟨ns,c,t⟩:=tw_new (c:=.ins 11 []) T2;exact ⟨ns,c,by rw [o3 0 (by omega)]; exact t.row,by rw [o3 1 (by omega)]; exact t.tw,t.ne,by omega⟩
 have hclt:∀ c ∈ cs,2<=c∧c < M2.n:=fun c hc=>by
  obtain ⟨k,hk,ek⟩:=List.getElem_of_mem hc;obtain ⟨c',e1,b,_⟩:=c2.at_ k _ (List.getElem?_eq_getElem (by rw [<- c2.len]; exact hk));rw [List.getElem?_eq_getElem hk,ek] at e1;cases e1;exact ⟨lo1 c hc,b⟩
 have c4:Cs M3 cs ks:=⟨c3.len,fun k q hq=>by
  obtain ⟨c,a,b,d⟩:=c3.at_ k q hq;have hc:=(hclt c (List.mem_of_getElem? a)).2
  exact ⟨c,a,by omega,by rw [o3 c hc]; exact d⟩⟩
 refine ⟨M2.n,jL,cs,ks,fs,M3,?_,t3,by rw [o3 jL (by omega)]; exact gL3,⟨j2,by omega⟩,n3,c4,hclt,by omega,g1,f0,fb,fr,T3⟩;refine ya (ρ:=[some (.ref 1),some (.int s),some (.int crew),some (.int w),some (.int wait),none,none,none,none,none]) rfl rfl ?_;unfold d_zaq
 obtain ⟨C,hC⟩:∃ C,C=PV.lst (cs.map PV.ref):=⟨_,rfl⟩
 obtain ⟨F,hF⟩:∃ F,F=PV.lst (fs.map PV.int):=⟨_,rfl⟩
 rw [<- hF] at e2;rw [<- hC,<- hF] at e3;rw [<- hC,<- hF];refine jW (v:=.int (crew + wait)) (M1:=M) (by simp) ?_;simp only [List.set_cons_succ,List.set_cons_zero];refine jW (v:=C) (M1:=M1) ?_ ?_
 ·rw [hC];refine jP (xs:=xl 0 (crew + wait).toNat) (M1:=M) ?_ (by rw [xx]; exact xS (by omega)) e1
  have:xv (crew + wait)=true:=yp.mpr (by omega)
  simp [xj,this]
 simp only [List.set_cons_succ,List.set_cons_zero];refine jW (v:=.ref jL) (M1:=M1') ?_ ?_
 ·have h1:xv crew=true:=yp.mpr (by omega);have h2:xv (crew + wait)=true:=yp.mpr (by omega)
  have h3:(crew + wait - crew).toNat<=1000:=by omega
  unfold dLRN;simp only [jt,jC,jJ,jx,Res.bind_ok,h1,h2,h3,and_self,if_true];rw [hM1',hjL,show (crew + wait - crew)=wait by omega,rngP_rgI]
 simp only [List.set_cons_succ,List.set_cons_zero];refine jW (v:=F) (M1:=M2) (by simpa [yl,gen] using e2) ?_;simp only [List.set_cons_succ,List.set_cons_zero];refine jW (v:=.ref M2.n) (M1:=M3) ?_ ?_
 ·unfold dNew;simp only [jt,jx,jC,jJ,Res.bind_ok];unfold made;rw [show D_zad (yl 2 4 [Sl.p 0,Sl.p 1,Sl.k 0,Sl.k 1,Sl.k 2,Sl.k 3] [] [PV.ref M2.n,C] [.int s,.int w,F,.ref jL]) (M2.new (.ins 11 []))=_ from e3]
 simp only [List.set_cons_succ,List.set_cons_zero];refine jT ?_
 have s4:(4:Nat)<=sizeLine:=by decide
 simp [s4]

theorem few_in {n:Nat} (ws fs:List Int):((hon n ws).filter fun h=>!(!decide (h ∈ fs))).length<=fs.length:=by
 have h1:(hon n ws).Sublist ((List.range n).map fun k:Nat=>(0 + (k:Int))):=List.filter_sublist;have h2:=(h1.filter fun h=>!(!decide (h ∈ fs))).length_le;refine Nat.le_trans h2 ?_;refine bad_all (P:=fun h:Int=>!decide (h ∈ fs)) fun k p hk hn=>?_;obtain ⟨_,ek⟩:=List.getElem?_eq_some_iff.mp hk;rw [List.getElem_map,List.getElem_range,Int.zero_add] at ek;subst ek;simp [hn]
theorem rd_split (ks:List Ck) (ws fs:List Int) (b:Int) (l o:List (List Int × Int)) (r:Int):∃ bl:List Int,(rdL ks ws fs b l o r).Perm ((xt ks.length ws fs).map (fun h=>rd ks b h + (ux o [h,r]).getD 0) ++ bl)∧bl.length<=fs.length:=by
 refine ⟨((hon ks.length ws).filter fun h=>!(!decide (h ∈ fs))).map (rdv ks fs b l o r),?_,by rw [List.length_map]; exact few_in ws fs⟩;have p:=((List.filter_append_perm (fun h:Int=>!decide (h ∈ fs)) (hon ks.length ws)).symm).map (rdv ks fs b l o r);rw [List.map_append] at p
 have e:((hon ks.length ws).filter fun h:Int=>!decide (h ∈ fs)).map (rdv ks fs b l o r)=(xt ks.length ws fs).map fun h=>rd ks b h + (ux o [h,r]).getD 0:=by
  refine List.map_congr_left fun h hh=>?_
  have hf:h ∉ fs:=by simpa using (List.mem_filter.mp hh).2
  unfold rdv;rw [if_neg hf]
 rw [e] at p;exact p
theorem upK_rd {ks:List Ck} {S:List Int} {m:Int->Int} {b h:Int} (h0:0<=h) (h1:h < ks.length) (hS:h ∈ S):rd (upK ks S m b) b h=m h:=by
 unfold rd;rw [List.getD_eq_getElem?_getD,Jt (by omega),Int.toNat_of_nonneg h0,if_pos hS,Option.getD_some,Ck.at_to]
theorem Jg {n:Nat} {ws fs:List Int}:(hon n ws).length<=(xt n ws fs).length + fs.length:=by
 have h1:=few_in (n:=n) ws fs;have h2:=(List.filter_append_perm (fun h:Int=>!decide (h ∈ fs)) (hon n ws)).length_eq;rw [List.length_append] at h2;unfold xt;omega
theorem min_ne {M:Sto} {ws:List Int} (h:ws≠[]):Xs M [.lst (ws.map PV.int)]=some (.int (uB ws),M):=by
 cases ws with
 | nil=>exact absurd rfl h
 | cons a l=>exact gMin_ints
theorem max_ne {M:Sto} {ws:List Int} (h:ws≠[]):Xu M [.lst (ws.map PV.int)]=some (.int (uC ws),M):=by
 cases ws with
 | nil=>exact absurd rfl h
 | cons a l=>exact gMax_ints
theorem JI {M:Sto} {h:Int} {n:Nat} {fs:List Int} (h0:0<=h) (h1:h < n) (h2:h ∉ fs):Yu [.int h,.int n,.lst (fs.map PV.int)] M = .ok .non M:=by
 have gi:gIn false M (.int h) (.lst (fs.map PV.int))=some (.bl (decide (h ∈ fs))):=xn (neg:=false) (M:=M) (x:=.lst (fs.map PV.int)) (k:=h) (ns:=fs) rfl;rw [decide_eq_false h2] at gi
 have c1:D_zay [.int h,.int n] M = .ok .non M:=by
  show fin (d_zay [some (.int h),some (.int n)] M)=_;unfold d_zay;have q:=xm (M:=M) (h:=h) (n:=n);rw [xA h0 (by omega)] at q;simp [yl,gen,q]
 show fin (d_zar [some (.int h),some (.int n),some (.lst (fs.map PV.int))] M)=_
 obtain ⟨F,hF⟩:∃ F,F=PV.lst (fs.map PV.int):=⟨_,rfl⟩
 rw [<- hF] at gi ⊢
 have e:d_zar [some (.int h),some (.int n),some F] M = .nx [some (.int h),some (.int n),some F] M:=by
  unfold d_zar;refine yE (v:=.non) (M1:=M) (by simpa [yl,gen] using c1) ?_;exact Yb (by simp [gi])
 rw [e];rfl
section
variable {M:Sto} {i:Nat} {ks:List Ck} {s w lb b:Int} {fs ws:List Int} {ps:List PV}
theorem shows_c {h:Int} (t:Cp M i ks s w fs ws lb ps) (h0:0<=h) (h1:h < ks.length) (h2:h ∉ fs) (b0:0<=b) (b1:b<=100000):uA [.ref i,.int h,.int b] M = .ok (.int (rd ks b h)) M:=by
 refine ya (ρ:=[some (.ref i),some (.int h),some (.int b)]) rfl rfl ?_;unfold d_zak;have f1:=jU (x:="clocks") (d:=yg 0) (ρ:=[some (.ref i),some (.int h),some (.int b)]) rfl t.co rfl;have f2:=jU (x:="liars") (d:=yg 0) (ρ:=[some (.ref i),some (.int h),some (.int b)]) rfl t.co rfl;obtain ⟨a1,a2⟩:=t.at_ h0 h1;refine yE (v:=.non) (M1:=M) ?_ ?_
 ·simp only [jY,jt,yH,jJ,jC,f1,f2,jx,Res.bind_ok,yP,t.len];exact JI h0 h1 h2
 ·refine jT ?_;rw [jR (i:=i + 1 + h.toNat) (xs:=[.int b]) (zs:=[]) (M1:=M) (M2:=M) (by simp only [yd,f1,jC,jJ,Res.bind_ok,a1,jB]) a2 rfl rfl rfl];exact uE a2 b0 b1
theorem in_waits {neg:Bool} {h:Int} (t:Cp M i ks s w fs ws lb ps):gIn neg M (.int h) (.ref (i + 1 + ks.length))=some (.bl (if neg then !decide (h ∈ ws) else decide (h ∈ ws))):=by
 rw [xn (neg:=neg) (M:=M) (x:=.ref (i + 1 + ks.length)) (k:=h) (ns:=ws) (xg t.wa)]
theorem up_one {h:Int} {m:Int->Int} {k:Nat} (hk:k < ks.length):(upK ks [h] m b)[k]? = some (if (k:Int)=h then (ks.getD k c0K).to (m k) b else ks.getD k c0K):=by
 rw [Jt hk];congr 1
 by_cases z:(k:Int)=h
 ·rw [if_pos z,if_pos (by rw [z]; exact List.mem_singleton_self h)]
 ·rw [if_neg z,if_neg (fun y=>z (List.mem_singleton.mp y))]
theorem xC (ns:List Int):vt (ns.map PV.int)=some ns:=by
 induction ns with
 | nil=>rfl
 | cons a l ih =>
  show (vt (l.map PV.int)).map (fun ns=>a :: ns)=_;rw [ih];rfl
theorem enter_c {h:Int} {l o:List (List Int × Int)} (t:Cp M i ks s w fs ws lb ps) (hn:ks.length<=40) (l0:0<=lb) (b0:lb<=b) (b1:b<=100000) (s0:0<=s) (hs:2 * s < (hon ks.length ws).length) (hl:JL l fs ks.length) (hl2:l.length < 1000) (ho:Ja o w ks.length) (ho2:o.length < 1000) (h0:0<=h) (h1:h < ks.length) (h2:h ∉ fs) (hw:h ∈ ws) :
  ∃ M',D_zal [.ref i,.int h,.int b,.dct l,.dct o] M = .ok .non M'∧Cp M' i (upK ks [h] (fun r=>mid (rdL ks ws fs b l o r) s) b) s w fs (ws.erase h) b ps∧M'.n=M.n∧∀ j,(j < i∨i + 2 + ks.length < j)->M'.g j=M.g j:=by
 obtain ⟨x,hx⟩:∃ x,x=mid (rdL ks ws fs b l o h) s:=⟨_,rfl⟩
 obtain ⟨a1,a2⟩:=t.at_ h0 h1
 obtain ⟨M1,hM1⟩:∃ M1,M1=M.set (i + 1 + h.toNat) (.ins 10 (ckF ((ks.getD h.toNat c0K).to x b))):=⟨_,rfl⟩
 obtain ⟨M2,hM2⟩:∃ M2,M2=M1.set (i + 1 + ks.length) (.lst ((ws.erase h).map PV.int)):=⟨_,rfl⟩
 obtain ⟨M3,hM3⟩:∃ M3,M3=M2.set i (.ins 11 (coF i ks.length s w fs b)):=⟨_,rfl⟩
 have c1:M1.g i=some (.ins 11 (coF i ks.length s w fs lb)):=by rw [hM1,Sto.set_ne (by omega)]; exact t.co
 have w1:M1.g (i + 1 + ks.length)=some (.lst (ws.map PV.int)):=by rw [hM1,Sto.set_ne (by omega)]; exact t.wa
 have c2:M2.g i=some (.ins 11 (coF i ks.length s w fs lb)):=by rw [hM2,Sto.set_ne (by omega)]; exact c1
 refine ⟨M3,?_,⟨?_,?_,?_,fun k q hk=>?_,t.lo,?_⟩,by rw [hM3,hM2,hM1]; rfl,fun j hj=>?_⟩
 ·show fin (d_zal [some (.ref i),some (.int h),some (.int b),some (.dct l),some (.dct o),none] M)=_;have f1:=jU (x:="clocks") (d:=yg 0) (ρ:=[some (.ref i),some (.int h),some (.int b),some (.dct l),some (.dct o),none]) rfl t.co rfl;have f2:=jU (x:="liars") (d:=yg 0) (ρ:=[some (.ref i),some (.int h),some (.int b),some (.dct l),some (.dct o),none]) rfl t.co rfl;have f3:=jU (x:="waits") (d:=yg 0) (ρ:=[some (.ref i),some (.int h),some (.int b),some (.dct l),some (.dct o),none]) rfl t.co rfl;have f4:=jU (x:="clocks") (d:=yg 0) (ρ:=[some (.ref i),some (.int h),some (.int b),some (.dct l),some (.dct o),some (.dct o)]) rfl t.co rfl;have f5:=jU (x:="waits") (d:=yg 0) (ρ:=[some (.ref i),some (.int h),some (.int b),some (.dct l),some (.dct o),some (.dct o)]) rfl c1 rfl;have gw:=in_waits (neg:=true) (h:=h) t;rw [decide_eq_true hw] at gw
  have e:d_zal [some (.ref i),some (.int h),some (.int b),some (.dct l),some (.dct o),none] M = .nx [some (.ref i),some (.int h),some (.int b),some (.dct l),some (.dct o),some (.dct o)] M3:=by
   unfold d_zal;refine yE (v:=.non) (M1:=M) ?_ ?_
   ·simp only [jY,jt,yH,jJ,jC,f1,f2,jx,Res.bind_ok,yP,t.len];exact JI h0 h1 h2
   refine uK (M1:=M) ?_ ?_
   ·simp only [yx,yd,jJ,jC,Res.bind_ok,f3,gw,jB];rfl
   refine jW (v:=.dct o) (M1:=M) rfl ?_;simp only [List.set_cons_succ,List.set_cons_zero];refine yE (v:=.non) (M1:=M) ?_ ?_
   ·rw [jR (xs:=[.int b,.dct l,.dct o]) (zs:=[]) (M1:=M) (M2:=M) rfl t.co rfl rfl rfl];exact uk t l0 b0 b1 hl hl2 ho ho2
   have em:yw 11 "middle_read" Xm 5 0 [.p 0,.p 1,.p 2,.p 3,.p 4] [] (yg 0) (jc (yg 1) (jc (yg 2) (jc (yg 3) (jc (yg 5) yh)))) yh [some (.ref i),some (.int h),some (.int b),some (.dct l),some (.dct o),some (.dct o)] M = .ok (.int x) M:=by
    rw [jR (xs:=[.int h,.int b,.dct l,.dct o]) (zs:=[]) (M1:=M) (M2:=M) rfl t.co rfl rfl rfl,hx];exact uL t hn (by omega) b1 s0 hs
   refine yE (v:=.int (x - (ks.getD h.toNat c0K).at b)) (M1:=M1) ?_ ?_
   ·rw [jR (i:=i + 1 + h.toNat) (xs:=[.int x,.int b]) (zs:=[]) (M1:=M) (M2:=M) (by simp only [yd,f4,jC,jJ,Res.bind_ok,a1,jB]) a2 rfl (by simp only [jt,em,jJ,jC,jx,Res.bind_ok]) rfl,hM1];exact set_to_eq a2 (by omega) b1
   refine yE (v:=.non) (M1:=M2) ?_ ?_
   ·have gr:vQ M1 (.ref (i + 1 + ks.length)) [.int h]=some (.non,M2):=by
     unfold vQ;rw [xM w1];simp only [xC,if_pos hw];rw [hM2]
    unfold dMt;simp only [f5,Res.bind_ok,jt,jJ,jC,jx,yF w1,gr]
   rw [nx_fldL (v:=.int b) (Ma:=M2) (i:=i) rfl rfl c2 (show 7 < 1000 by decide),hM3];rfl
  rw [e];rfl
 ·rw [ye,hM3];exact Sto.set_same
 ·rw [ye,hM3,Sto.set_ne (by omega),hM2];exact Sto.set_same
 ·rw [ye,hM3,Sto.set_ne (by omega),hM2,Sto.set_ne (by omega),hM1,Sto.set_ne (by omega)];exact t.pa
 ·have hk':=(List.getElem?_eq_some_iff.mp hk).1;rw [ye] at hk';rw [up_one hk'] at hk;cases hk;rw [hM3,Sto.set_ne (by omega),hM2,Sto.set_ne (by omega),hM1]
  by_cases z:(k:Int)=h
  ·subst z;rw [if_pos rfl,Int.toNat_natCast,Sto.set_same,hx]
  ·rw [if_neg z,Sto.set_ne (by omega)];refine t.ck k _ ?_;rw [List.getD_eq_getElem?_getD,List.getElem?_eq_getElem hk'];rfl
 ·rw [ye,hM3,hM2,hM1];exact t.hi
 ·rw [hM3,Sto.set_ne (by omega),hM2,Sto.set_ne (by omega),hM1,Sto.set_ne (by omega)]
theorem leave_c {h:Int} (t:Cp M i ks s w fs ws lb ps) (hn:ks.length<=40) (hwl:ws.length<=40) (h0:0<=h) (h1:h < ks.length) (h2:h ∉ fs) (hw:h ∉ ws) (hm:2 * s < (hon ks.length ws).length - 1) :
  D_zam [.ref i,.int h] M = .ok .non (M.set (i + 1 + ks.length) (.lst ((ws ++ [h]).map PV.int)))∧Cp (M.set (i + 1 + ks.length) (.lst ((ws ++ [h]).map PV.int))) i ks s w fs (ws ++ [h]) lb ps:=by
 constructor
 ·show fin (d_zam [some (.ref i),some (.int h)] M)=_;have f1:=jU (x:="clocks") (d:=yg 0) (ρ:=[some (.ref i),some (.int h)]) rfl t.co rfl;have f2:=jU (x:="liars") (d:=yg 0) (ρ:=[some (.ref i),some (.int h)]) rfl t.co rfl;have f3:=jU (x:="waits") (d:=yg 0) (ρ:=[some (.ref i),some (.int h)]) rfl t.co rfl;have f4:=jU (x:="few") (d:=yg 0) (ρ:=[some (.ref i),some (.int h)]) rfl t.co rfl;have gw:=in_waits (neg:=false) (h:=h) t;rw [decide_eq_false hw] at gw
  have em:yw 11 "members" xR 1 0 [.p 0] [] (yg 0) yh yh [some (.ref i),some (.int h)] M = .ok (.lst ((hon ks.length ws).map PV.int)) M:=by
   rw [jR (xs:=[]) (zs:=[]) (M1:=M) (M2:=M) rfl t.co rfl rfl rfl];exact vI t hn
  have hlen:yA M (.lst ((hon ks.length ws).map PV.int))=some (.int (hon ks.length ws).length):=by rw [yJ (x:=.lst _) rfl,List.length_map]
  have gl:gLe M (.int ((hon ks.length ws).length - 1)) (.int (2 * s))=some (.bl false):=by
   show some (PV.bl (decide (((hon ks.length ws).length:Int) - 1<=2 * s)))=_;rw [decide_eq_false (by omega)]
  have ga:yR M (.ref (i + 1 + ks.length)) [.int h]=some (.non,M.set (i + 1 + ks.length) (.lst ((ws ++ [h]).map PV.int))):=by
   unfold yR;rw [xM t.wa];show (if (ws.map PV.int).length < sizeLine then _ else _)=_;rw [if_pos (xS (by rw [List.length_map]; omega)),List.map_append];rfl
  have e:d_zam [some (.ref i),some (.int h)] M = .nx [some (.ref i),some (.int h)] (M.set (i + 1 + ks.length) (.lst ((ws ++ [h]).map PV.int))):=by
   unfold d_zam;refine yE (v:=.non) (M1:=M) ?_ ?_
   ·simp only [jY,jt,yH,jJ,jC,f1,f2,jx,Res.bind_ok,yP,t.len];exact JI h0 h1 h2
   refine uK (M1:=M) ?_ ?_
   ·simp only [yx,yd,jJ,jC,Res.bind_ok,f3,gw,jB];rfl
   obtain ⟨A,hA⟩:∃ A,A=PV.lst ((hon ks.length ws).map PV.int):=⟨_,rfl⟩
   rw [<- hA] at em hlen;refine uK (M1:=M) ?_ ?_
   ·simp only [yx,yd,yH,jt,em,jx,Res.bind_ok,yP,hlen,uh,xK,jB,f4,xL (M:=M) (i:=2) (j:=s) (.inl (by decide)),gl];rfl
   unfold yq dMt;simp only [f3,Res.bind_ok,jt,jJ,jC,jx,yF t.wa,ga];rfl
  rw [e];rfl
 ·refine ⟨by rw [Sto.set_ne (by omega)]; exact t.co,Sto.set_same,by rw [Sto.set_ne (by omega)]; exact t.pa,fun k q hk=>?_,t.lo,t.hi⟩;have hk':=(List.getElem?_eq_some_iff.mp hk).1;rw [Sto.set_ne (by omega)];exact t.ck k q hk
theorem due_in {n r:Int} {l o:List (List Int × Int)} (ho:Ja o w n) (w0:0<=w) (s0:0<=s) (hb:(fs.length:Int)<=s) (hn:2 * s < (hon ks.length ws).length):uB (rds ks ws fs b) - w<=mid (rdL ks ws fs b l o r) s∧mid (rdL ks ws fs b l o r) s<=uC (rds ks ws fs b) + w:=by
 obtain ⟨bl,p,q⟩:=rd_split ks ws fs b l o r;have hm:=Jg (n:=ks.length) (ws:=ws) (fs:=fs)
 have hne:rds ks ws fs b≠[]:=fun z=>by
  have:(rds ks ws fs b).length=(xt ks.length ws fs).length:=List.length_map ..
  rw [z] at this;simp at this;omega
 have hll:(rdL ks ws fs b l o r).length=(hon ks.length ws).length:=List.length_map ..
 have hin:∀ x ∈ (xt ks.length ws fs).map (fun h=>rd ks b h + (ux o [h,r]).getD 0),uB (rds ks ws fs b) - w<=x∧x<=uC (rds ks ws fs b) + w:=fun x hx=>by
  obtain ⟨h,hh,rfl⟩:=List.mem_map.mp hx;have hx:rd ks b h ∈ rds ks ws fs b:=List.mem_map_of_mem hh;have m1:=(minI_mem hne).2 _ hx;have m2:=(maxI_mem hne).2 _ hx
  cases e:ux o [h,r] with
  | none=>exact ⟨by show _<=_ + (0:Int); omega,by show _ + (0:Int)<=_; omega⟩
  | some v =>
   obtain ⟨_,_,_,_,_,_,v0,v1⟩:=ho _ (getL_mem e);dsimp only at v0 v1;exact ⟨by show _<=_ + v; omega,by show _ + v<=_; omega⟩
 have hp:=(xk (rdL ks ws fs b l o r)).trans p
 have hsl:(yG (rdL ks ws fs b l o r)).length=(hon ks.length ws).length:=by rw [(xk _).length_eq,hll]
 have at_:∀ k,bl.length<=k->k + bl.length < (hon ks.length ws).length->uB (rds ks ws fs b) - w<=(yG (rdL ks ws fs b l o r)).getD k 0∧(yG (rdL ks ws fs b l o r)).getD k 0<=uC (rds ks ws fs b) + w:=fun k k1 k2=>by
  have e:(yG (rdL ks ws fs b l o r))[k]? = some ((yG (rdL ks ws fs b l o r)).getD k 0):=by
   rw [List.getD_eq_getElem?_getD,List.getElem?_eq_getElem (by omega)];rfl
  exact btw hp (uo _) hin k1 (by omega) e
 rw [mid_ends s0 (by omega)];have p1:=at_ s.toNat (by omega) (by omega);have p2:=at_ ((rdL ks ws fs b l o r).length - 1 - s.toNat) (by omega) (by omega);omega
end

theorem loop_live {j:Nat} {xs:List PV} {g:DG} {db:DS} (I:Nat->En->Sto->Prop) (hI:∀ k ρ M,I k ρ M->M.g j=some (.lst xs)) (hs:∀ i x,xs[i]? = some x->∀ ρ M,I i ρ M->∃ ρ1 ρ' M',g x ρ=some ρ1∧db ρ1 M = .nx ρ' M'∧I (i + 1) ρ' M'):∀ (n k:Nat) (ρ:En) (M:Sto),k<=xs.length->xs.length - k < n->I k ρ M->∃ ρ' M',vg (.live j) g db n k ρ M = .nx ρ' M'∧I xs.length ρ' M':=by
 intro n
 induction n with
 | zero=>intro k ρ M _ h; exact absurd h (Nat.not_lt_zero _)
 | succ n ih =>
  intro k ρ M hk hn h;have en:nxt (.live j) M k=some (xs[k]?):=JZ (yF (hI k ρ M h))
  by_cases hlt:k < xs.length
  ·have ex:xs[k]? = some xs[k]:=List.getElem?_eq_getElem hlt;obtain ⟨ρ1,ρ2,M2,e1,e2,h2⟩:=hs k _ ex ρ M h;obtain ⟨ρ3,M3,e3,h3⟩:=ih (k + 1) ρ2 M2 hlt (by omega) h2;refine ⟨ρ3,M3,?_,h3⟩;unfold vg;rw [en,ex];simp only [e1,e2];exact e3
  ·have ek:k=xs.length:=by omega
   subst ek;refine ⟨ρ,M,?_,h⟩;unfold vg;rw [en,List.getElem?_eq_none (Nat.le_refl _)]
theorem nx_loop {F:Nat} {dit:En->Sto->Res ItP} {g:DG} {d1 c:DS} {ρ ρ':En} {M M1 M2:Sto} {j:Nat} {r:RS} (h:dit ρ M = .ok (.live j) M1) (hl:vg (.live j) g d1 F 0 ρ M1 = .nx ρ' M2) (k:c ρ' M2=r):yi (Jk F dit g d1) c ρ M=r:=by
 unfold yi Jk;rw [h]
 show (match vg (.live j) g d1 F 0 ρ M1 with
  | .nx ρ1 M1=>c ρ1 M1
  | r=>r)=r
 rw [hl];exact k
theorem Xe {α:Type} (f0:α->PV) (p:α->Bool) (f:α->PV) {c:Nat} {bnd:PV->En->Option En} {r:En} {dt:DT} {de:DE} {M:Sto} {all:List α} (hc:M.g c=some (.lst (all.map f0))) (h:∀ a ∈ all,∃ ρ,bnd (f0 a) r=some ρ∧dt ρ M = .ok (p a) M∧(p a=true->de ρ M = .ok (f a) M)):∀ (n i:Nat) (as:List α),all.drop i=as->as.length < n->yL (.live c) bnd r dt de n i M = .ok ((as.filter p).map f) M
 | 0,_,_,_,hl=>absurd hl (Nat.not_lt_zero _)
 | n + 1,i,as,e,hl=>by
  have hn:nxt (.live c) M i=some ((all.map f0)[i]?):=JZ (yF hc)
  have hd:(all.drop i)[0]? = all[i]?:=by rw [List.getElem?_drop,Nat.add_zero]
  cases as with
  | nil =>
   have:all[i]? = none:=by rw [<- hd,e]; rfl
   unfold yL;rw [hn,List.getElem?_map,this];rfl
  | cons a as =>
   have ha:all[i]? = some a:=by rw [<- hd,e]; rfl
   have e':all.drop (i + 1)=as:=by
    rw [<- List.drop_drop,e];rfl
   have ih:=Xe f0 p f hc h n (i + 1) as e' (by simpa using hl);obtain ⟨ρ,e1,e2,e3⟩:=h a (List.mem_of_getElem? ha);unfold yL;rw [hn,List.getElem?_map,ha];simp only [Option.map_some,e1,e2,noX_ok,Res.bind_ok]
   cases hp:p a with
   | false=>simp [hp,ih]
   | true=>simp [hp,ih,e3 hp]
theorem Xc {α:Type} (f0:α->PV) (p:α->Bool) (f:α->PV) {c:Nat} {di:En->Sto->Res ItP} {bnd:PV->En->Option En} {js:List Nat} {dt:DT} {de:DE} {ρ:En} {M M1:Sto} {all:List α} (h:di ρ M = .ok (.live c) M1) (hc:M1.g c=some (.lst (all.map f0))) (hl:all.length < sizeLine) (hs:∀ a ∈ all,∃ ρ',bnd (f0 a) (L3.rest js ρ)=some ρ'∧dt ρ' M1 = .ok (p a) M1∧(p a=true->de ρ' M1 = .ok (f a) M1)):yr di bnd js dt de ρ M = .ok (.lst ((all.filter p).map f)) M1:=by
 unfold yr;rw [h]
 have hf:xD (.live c) M1=all.length + 1:=by
  show ((yV M1 (.ref c)).getD []).length + 1=_;rw [yF hc];simp
 show (if xD (.live c) M1<=sizeLine then _ else _)=_;rw [hf,if_pos (show all.length + 1<=sizeLine from hl),Xe f0 p f hc hs (all.length + 1) 0 all rfl (Nat.lt_succ_self _)];rfl
theorem reads_w {M:Sto} {h b:Int} {n jI:Nat} {us:List Int} {ks:List Ck} {fs:List Int} {l o:List (List Int × Int)} {w:Int} (hjI:M.g jI=some (.lst (us.map PV.int))) (hjn:jI < M.n) (ul:us.length<=40) (ub:∀ u ∈ us,0<=u∧u < n) (ho:Ja o w n) :
  ∃ M',Ys [.int h,.ref jI,.lst (((List.range n).map fun k:Nat=>rd ks b (k:Int)).map PV.int),.lst (fs.map PV.int),.dct l,.dct o] M = .ok (.lst ((us.map (rdv ks fs b l o h)).map PV.int)) M'∧M.n<=M'.n∧∀ j,j < M.n->M'.g j=M.g j:=by
 obtain ⟨R,hR⟩:∃ R,R=PV.ref jI:=⟨_,rfl⟩
 obtain ⟨S,hS⟩:∃ S,S=PV.lst (((List.range n).map fun k:Nat=>rd ks b (k:Int)).map PV.int):=⟨_,rfl⟩
 obtain ⟨F,hF⟩:∃ F,F=PV.lst (fs.map PV.int):=⟨_,rfl⟩
 have gj:(M.new (.lst [])).g jI=some (.lst (us.map PV.int)):=by rw [Sto.new_ne (by omega)]; exact hjI
 obtain ⟨ρ',M',el,x7,x8,x9,e',g',n',o'⟩:=loop_live (j:=jI) (xs:=us.map PV.int) (g:=gN 7) (db:=d_zbe_L1) (fun q ρ M'=>∃ x7 x8 x9,ρ=[some (.int h),some R,some S,some F,some (.dct l),some (.dct o),some (.ref M.n),x7,x8,x9]∧M'.g M.n=some (.lst (((us.take q).map (rdv ks fs b l o h)).map PV.int))∧M'.n=M.n + 1∧∀ j,j < M.n->M'.g j=M.g j) (by
   rintro k ρ M1 ⟨_,_,_,_,_,_,o1⟩;rw [o1 jI hjn]
   exact hjI) (by
   rintro q z hz ρ M1 ⟨x7,x8,x9,rfl,g1,n1,o1⟩;rw [List.getElem?_map] at hz
   cases ez:us[q]? with
   | none=>rw [ez] at hz; cases hz
   | some k =>
    rw [ez] at hz;cases hz;have hk:=ub k (List.mem_of_getElem? ez);have hq:=(List.getElem?_eq_some_iff.mp ez).1
    have s2:(2:Nat)<=sizeLine:=by decide
    have ei:vt [PV.int k,.int h]=some [k,h]:=rfl
    have gt:∀ (m:List (List Int × Int)) (z:Int),getV m [k,h] (.int z) = .int ((ux m [k,h]).getD z):=fun m z=>by
     unfold getV;cases ux m [k,h] <;> rfl
    have gs:gIx M1 S (.int k)=some (.int (rd ks b k)):=by
     rw [hS,vj (x:=.lst _) rfl,JK hk.1 (by rw [List.length_map,List.length_map,List.length_range]; omega),List.getElem?_map,List.getElem?_map,List.getElem?_range (by omega)];show some (PV.int (rd ks b ((k.toNat:Nat):Int)))=_;rw [Int.toNat_of_nonneg hk.1]
    have gi:gIn false M1 (.int k) F=some (.bl (decide (k ∈ fs))):=by rw [hF]; exact xn (neg:=false) (M:=M1) (x:=.lst (fs.map PV.int)) (k:=k) (ns:=fs) rfl
    -- what is off
    obtain ⟨v8,h8⟩:∃ v8,v8=(ux o [k,h]).getD 0:=⟨_,rfl⟩
    have e8:dIf (yk (dOp (eqG true) (yg 7) (yg 0))) (vM (yg 5) (jc (yg 7) (jc (yg 0) yh)) (dC (.int 0))) (dC (.int 0)) [some (.int h),some R,some S,some F,some (.dct l),some (.dct o),some (.ref M.n),some (.int k),x8,x9] M1 = .ok (.int v8) M1:=by
     by_cases hkh:k=h
     ·have gn:eqG true M1 (.int k) (.int h)=some (.bl false):=by
       rw [JB];simp [hkh]
      have hv:v8=0:=by
       rw [h8]
       cases e:ux o [k,h] with
       | none=>rfl
       | some v =>
        obtain ⟨f',h',e1,_,_,ne,_⟩:=ho _ (getL_mem e);cases e1;exact absurd hkh ne
      unfold dIf;simp only [yx,yd,jJ,jC,Res.bind_ok,gn,jB,show asB (PV.bl false)=some false from rfl,Bool.false_eq_true,if_false,uh,hv]
     ·have gn:eqG true M1 (.int k) (.int h)=some (.bl true):=by
       rw [JB];simp [hkh]
      unfold dIf vM;simp only [yx,yd,jJ,jC,Res.bind_ok,gn,jB,show asB (PV.bl true)=some true from rfl,if_true,jt,jx,ei,List.length_cons,List.length_nil,s2,uh,gt,h8]
    obtain ⟨v9,h9⟩:∃ v9,v9=(if k ∈ fs then rd ks b k else rd ks b k + v8):=⟨_,rfl⟩
    have e9:dIf (yk (dOp (gIn false) (yg 7) (yg 3))) (dOp gIx (yg 2) (yg 7)) (dOp xG (dOp gIx (yg 2) (yg 7)) (yg 8)) [some (.int h),some R,some S,some F,some (.dct l),some (.dct o),some (.ref M.n),some (.int k),some (.int v8),x9] M1 = .ok (.int v9) M1:=by
     unfold dIf
     by_cases hf:k ∈ fs
     ·simp only [yx,yd,jJ,jC,Res.bind_ok,gi,hf,decide_true,jB,show asB (PV.bl true)=some true from rfl,if_true,gs,h9]
     ·simp only [yx,yd,jJ,jC,Res.bind_ok,gi,hf,decide_false,jB,show asB (PV.bl false)=some false from rfl,Bool.false_eq_true,if_false,gs,vE,h9]
    have e10:dIf (yk (dOp (gIn false) (yg 7) (yg 3))) (vM (yg 4) (jc (yg 7) (jc (yg 0) yh)) (yg 9)) (yg 9) [some (.int h),some R,some S,some F,some (.dct l),some (.dct o),some (.ref M.n),some (.int k),some (.int v8),some (.int v9)] M1 = .ok (.int (rdv ks fs b l o h k)) M1:=by
     unfold dIf vM rdv
     by_cases hf:k ∈ fs
     ·rw [if_pos hf] at h9;simp only [yx,yd,jJ,jC,Res.bind_ok,gi,hf,decide_true,jB,show asB (PV.bl true)=some true from rfl,if_true,jt,jx,ei,List.length_cons,List.length_nil,s2,gt,h9]
     ·rw [if_neg hf,h8] at h9;simp only [yx,yd,jJ,jC,Res.bind_ok,gi,hf,decide_false,jB,show asB (PV.bl false)=some false from rfl,Bool.false_eq_true,if_false,h9]
    have htk:us.take (q + 1)=us.take q ++ [k]:=by rw [List.take_succ,ez]; rfl
    refine ⟨_,[some (.int h),some R,some S,some F,some (.dct l),some (.dct o),some (.ref M.n),some (.int k),some (.int v8),some (.int v9)],M1.set M.n (.lst (((us.take q).map (rdv ks fs b l o h)).map PV.int ++ [.int (rdv ks fs b l o h k)])),rfl,?_,_,_,_,rfl,?_,n1,fun j hj=>by rw [Sto.set_ne (by omega)]; exact o1 j hj⟩
    ·unfold d_zbe_L1;refine jW (v:=.int v8) (M1:=M1) e8 ?_;simp only [List.set_cons_succ,List.set_cons_zero];refine jW (v:=.int v9) (M1:=M1) e9 ?_;simp only [List.set_cons_succ,List.set_cons_zero]
     have ga:yR M1 (.ref M.n) [.int (rdv ks fs b l o h k)]=some (.non,M1.set M.n (.lst (((us.take q).map (rdv ks fs b l o h)).map PV.int ++ [.int (rdv ks fs b l o h k)]))):=by
      unfold yR;rw [xM g1];show (if (((us.take q).map (rdv ks fs b l o h)).map PV.int).length < sizeLine then _ else _)=_;rw [if_pos (xS (by rw [List.length_map,List.length_map,List.length_take]; omega))]
     unfold yq dMt;simp only [jJ,jC,Res.bind_ok,jt,e10,jx,yF g1,ga];rfl
    ·rw [Sto.set_same,htk,List.map_append,List.map_append]
     rfl) 200 0 [some (.int h),some R,some S,some F,some (.dct l),some (.dct o),some (.ref M.n),none,none,none] (M.new (.lst [])) (Nat.zero_le _) (by rw [List.length_map]; omega) ⟨none,none,none,rfl,Sto.new_same,rfl,fun j hj=>Sto.new_ne (by omega)⟩
 subst e';rw [List.length_map,List.take_length] at g'
 refine ⟨M'.drop M.n,?_,by show M.n<=M'.n; omega,fun j hj=>by
  have:(M'.drop M.n).g j=M'.g j:=if_neg (by omega)
  rw [this]
  exact o' j hj⟩
 rw [<- hR,<- hS,<- hF];have e0:Ys [.int h,R,S,F,.dct l,.dct o] M=(fin (d_zbe [some (.int h),some R,some S,some F,some (.dct l),some (.dct o),none,none,none,none] M)).noX:=rfl;rw [e0]
 have e:d_zbe [some (.int h),some R,some S,some F,some (.dct l),some (.dct o),none,none,none,none] M = .rt (.lst ((us.map (rdv ks fs b l o h)).map PV.int)) (M'.drop M.n):=by
  unfold d_zbe;refine jW (v:=.ref M.n) (M1:=M.new (.lst [])) rfl ?_;simp only [List.set_cons_succ,List.set_cons_zero];refine nx_loop (j:=jI) (M1:=M.new (.lst [])) ?_ el ?_
  ·exact uO gj (by rw [hR]; rfl)
  refine jT ?_;unfold dFrz;have ev:yg 6 [some (.int h),some R,some S,some F,some (.dct l),some (.dct o),some (.ref M.n),x7,x8,x9] M' = .ok (.ref M.n) M':=rfl;rw [ev];simp only [Res.bind_ok,g']
 rw [e];rfl
theorem hon_rise (n:Nat) (ws:List Int):(hon n ws).Pairwise (· < ·):=by
 unfold hon;refine List.Pairwise.filter _ ?_;rw [List.pairwise_map]
 exact List.pairwise_lt_range.imp fun h=>by omega
theorem hon_nd (n:Nat) (ws:List Int):(hon n ws).Nodup:=(hon_rise n ws).imp fun h e=>by omega
theorem hon_perm {n:Nat} {ws:List Int} {h:Int} (h0:0<=h) (h1:h < n) (nd:ws.Nodup) (hw:h ∈ ws):(hon n (ws.erase h)).Perm (hon n ws ++ [h]):=by
 refine (List.perm_ext_iff_of_nodup (hon_nd _ _) ?_).mpr fun a=>?_
 ·refine List.nodup_append.mpr ⟨hon_nd _ _,by simp,?_⟩;intro a ha b hb z;rw [List.mem_singleton.mp hb] at z;subst z;exact (uw.mp ha).2 hw
 ·rw [uw,List.mem_append,uw,List.mem_singleton,nd.mem_erase_iff]
  by_cases z:a=h
  ·subst z;simp [h0,h1]
  ·simp [z]
theorem hon_join {n:Nat} {ws:List Int} {h:Int} (h0:0<=h) (h1:h < n) (nd:ws.Nodup) (hw:h ∈ ws):yG (hon n ws ++ [h])=hon n (ws.erase h):=(XF (hon_perm h0 h1 nd hw) ((hon_rise _ _).imp fun h=>Int.le_of_lt h)).symm
theorem hon_leave {n:Nat} {ws:List Int} {h:Int}:(hon n ws).erase h=hon n (ws ++ [h]):=by
 rw [(hon_nd n ws).erase_eq_filter];unfold hon;rw [List.filter_filter];refine List.filter_congr fun x _=>?_
 by_cases z:x=h
 ·subst z;simp
 ·simp [z]
theorem erase_at {ws:List Int} {k:Nat} {h:Int} (nd:ws.Nodup) (e:ws[k]? = some h):ws.eraseIdx k=ws.erase h:=by
 obtain ⟨hk,e⟩:=List.getElem?_eq_some_iff.mp e;exact (List.erase_eq_eraseIdx_of_idxOf (by rw [<- e]; exact nd.idxOf_getElem k hk)).symm

structure K18 (M:Sto) (i jL jI:Nat) (ks k0:List Ck) (cs:List Nat) (s w:Int) (fs ws vs:List Int) (lb:Int) (ps:List PV):Prop where
 cp:Cp M i ks s w fs ws lb ps
 ol:Cs M cs k0
 cl:∀ c ∈ cs,2<=c∧c < i∧c≠jL
 ln:k0.length=ks.length
 lf:∀ f ∈ fs,ks.getD f.toNat c0K=k0.getD f.toNat c0K
 wl:M.g jL=some (.lst (vs.map PV.int))
 jl:2<=jL∧jL < i
 ji:M.g jI=some (.lst ((hon ks.length ws).map PV.int))
 jb:i + 2 + ks.length < jI∧jI < M.n
 nd:ws.Nodup
 wb:∀ h ∈ ws,(0<=h∧h < ks.length)∧h ∉ fs
 big:2 * s < (hon ks.length ws).length
 tw:Tw M
section
variable {M M':Sto} {i jL jI:Nat} {ks k0:List Ck} {cs:List Nat} {s w lb b:Int} {fs ws vs:List Int} {ps:List PV}
theorem K18.keep (K:K18 M i jL jI ks k0 cs s w fs ws vs lb ps) (hn:M.n<=M'.n) (hg:∀ j,2<=j->j < M.n->M'.g j=M.g j) (T:Tw M'):K18 M' i jL jI ks k0 cs s w fs ws vs lb ps:=by
 have hi:=K.cp.hi;have lo:=K.cp.lo;have jl:=K.jl;have jb:=K.jb;refine ⟨K.cp.off ⟨hn,hg⟩,⟨K.ol.len,fun k q hq=>?_⟩,K.cl,K.ln,K.lf,by rw [hg jL jl.1 (by omega)]; exact K.wl,K.jl,by rw [hg jI (by omega) jb.2]; exact K.ji,⟨jb.1,Nat.lt_of_lt_of_le jb.2 hn⟩,K.nd,K.wb,K.big,T⟩;obtain ⟨c,a1,a2,a3⟩:=K.ol.at_ k q hq;exact ⟨c,a1,Nat.lt_of_lt_of_le a2 hn,by rw [hg c (K.cl c (List.mem_of_getElem? a1)).1 a2]; exact a3⟩
theorem K18.off (K:K18 M i jL jI ks k0 cs s w fs ws vs lb ps) (o:Off M M') (T:Tw M'):K18 M' i jL jI ks k0 cs s w fs ws vs lb ps:=K.keep o.n o.g T
theorem K18.setL {us:List Int} (K:K18 M i jL jI ks k0 cs s w fs ws vs lb ps):K18 (M.set jL (.lst (us.map PV.int))) i jL jI ks k0 cs s w fs ws us lb ps:=by
 have hi:=K.cp.hi;have jl:=K.jl;have jb:=K.jb;have c:=K.cp;refine ⟨⟨by rw [Sto.set_ne (by omega)]; exact c.co,by rw [Sto.set_ne (by omega)]; exact c.wa,by rw [Sto.set_ne (by omega)]; exact c.pa,fun k q hk=>by rw [Sto.set_ne (by omega)]; exact c.ck k q hk,c.lo,c.hi⟩,⟨K.ol.len,fun k q hq=>?_⟩,K.cl,K.ln,K.lf,Sto.set_same,K.jl,by rw [Sto.set_ne (by omega)]; exact K.ji,K.jb,K.nd,K.wb,K.big,?_⟩
 ·obtain ⟨c,a1,a2,a3⟩:=K.ol.at_ k q hq;exact ⟨c,a1,a2,by rw [Sto.set_ne (K.cl c (List.mem_of_getElem? a1)).2.2]; exact a3⟩
 ·obtain ⟨ns,c,t⟩:=K.tw;exact ⟨ns,c,by rw [Sto.set_ne (by omega)]; exact t.row,by rw [Sto.set_ne (by omega)]; exact t.tw,t.ne,t.n⟩
theorem K18.co {ks':List Ck} {ws':List Int} {b:Int} {ps':List PV} (K:K18 M i jL jI ks k0 cs s w fs ws vs lb ps) (c:Cp M' i ks' s w fs ws' b ps') (hl:ks'.length=ks.length) (hn:M'.n=M.n) (hg:∀ j,(j < i∨i + 2 + ks.length < j)->j≠jI->M'.g j=M.g j) (lf:∀ f ∈ fs,ks'.getD f.toNat c0K=ks.getD f.toNat c0K) (ji:M'.g jI=some (.lst ((hon ks.length ws').map PV.int))) (nd:ws'.Nodup) (wb:∀ h ∈ ws',(0<=h∧h < ks.length)∧h ∉ fs) (big:2 * s < (hon ks.length ws').length):K18 M' i jL jI ks' k0 cs s w fs ws' vs b ps':=by
 have jl:=K.jl;have jb:=K.jb;have lo:=K.cp.lo;refine ⟨c,⟨K.ol.len,fun k q hq=>?_⟩,K.cl,by rw [hl]; exact K.ln,fun f hf=>(lf f hf).trans (K.lf f hf),by rw [hg jL (.inl jl.2) (by omega)]; exact K.wl,K.jl,by rw [hl]; exact ji,⟨by rw [hl]; exact jb.1,by rw [hn]; exact jb.2⟩,nd,by rw [hl]; exact wb,by rw [hl]; exact big,?_⟩
 ·obtain ⟨c,a1,a2,a3⟩:=K.ol.at_ k q hq;have hc:=(K.cl c (List.mem_of_getElem? a1)).2.1;exact ⟨c,a1,by rw [hn]; exact a2,by rw [hg c (.inl hc) (by omega)]; exact a3⟩
 ·obtain ⟨ns,c,t⟩:=K.tw;exact ⟨ns,c,by rw [hg 0 (.inl (by omega)) (by omega)]; exact t.row,by rw [hg 1 (.inl (by omega)) (by omega)]; exact t.tw,t.ne,by rw [hn]; exact t.n⟩
theorem K18.shown (K:K18 M i jL jI ks k0 cs s w fs ws vs lb ps) (hn:ks.length<=40) (fb:∀ f ∈ fs,0<=f∧f < ks.length) (b0:0<=b) (b1:b<=100000) {ρ:En} (e6:yg 6 ρ M = .ok (.lst (cs.map PV.ref)) M) (hr:L3.rest [7,10,5,6] ρ=[some (.lst (fs.map PV.int)),some (.int b),some (.ref i),some (.lst (cs.map PV.ref))]) :
  yr (xj (jc (dCB (one yA) (jc (yg 6) yh)) yh)) xH [7,10,5,6] yI (dIf (yk (dOp (gIn false) (yg 0) (yg 1))) (yw 10 "shows" xE 2 0 [.p 0,.p 1] [] (dOp gIx (yg 4) (yg 0)) (jc (yg 2) yh) yh) (yw 11 "shows" uA 3 0 [.p 0,.p 1,.p 2] [] (yg 3) (jc (yg 0) (jc (yg 2) yh)) yh)) ρ M = .ok (.lst (((List.range ks.length).map fun k:Nat=>rd ks b (k:Int)).map PV.int)) M:=by
 have hcl:cs.length=ks.length:=K.ol.len.trans K.ln
 have hlen:yA M (.lst (cs.map PV.ref))=some (.int ks.length):=by rw [yJ (x:=.lst (cs.map PV.ref)) rfl,List.length_map,hcl]
 refine jP (xs:=xl 0 ks.length) (M1:=M) ?_ (by rw [xx]; exact xS (by omega)) ?_
 ·have hs:xv (ks.length:Int)=true:=yp.mpr ⟨by omega,by omega⟩;unfold xj;simp only [jt,yH,e6,jx,Res.bind_ok,yP,hlen,hs,if_true,Int.toNat_natCast]
 ·rw [hr];have er:xl 0 ks.length=(List.range ks.length).map fun k:Nat=>PV.int (0 + (k:Int)):=rfl;rw [er,List.map_map]
  obtain ⟨F,hF⟩:∃ F,F=PV.lst (fs.map PV.int):=⟨_,rfl⟩
  obtain ⟨C,hC⟩:∃ C,C=PV.lst (cs.map PV.ref):=⟨_,rfl⟩
  rw [<- hF,<- hC]
  refine yb (fun k:Nat=>PV.int (0 + (k:Int))) (PV.int ∘ fun k:Nat=>rd ks b (k:Int)) _ fun k hk=>⟨[some (.int (0 + (k:Int))),some F,some (.int b),some (.ref i),some C],rfl,rfl,?_⟩
  have hk:=List.mem_range.mp hk;rw [Int.zero_add]
  have gi:gIn false M (.int (k:Int)) F=some (.bl (decide ((k:Int) ∈ fs))):=by rw [hF]; exact xn (neg:=false) (M:=M) (x:=.lst (fs.map PV.int)) (k:=(k:Int)) (ns:=fs) rfl
  unfold dIf
  by_cases hf:(k:Int) ∈ fs
  ·have et:yk (dOp (gIn false) (yg 0) (yg 1)) [some (.int (k:Int)),some F,some (.int b),some (.ref i),some C] M = .ok true M:=by
    simp only [yx,yd,jC,jJ,Res.bind_ok,gi,hf,decide_true,jB];rfl
   rw [et];simp only [Res.bind_ok];obtain ⟨c,a1,a2,a3⟩:=K.ol.at_ k (k0.getD k c0K) (by rw [List.getD_eq_getElem?_getD,List.getElem?_eq_getElem (by rw [K.ln]; exact hk)]; rfl)
   have gx:gIx M C (.int (k:Int))=some (.ref c):=by
    rw [hC,vj (x:=.lst _) rfl,JK (by omega) (by rw [List.length_map]; omega),List.getElem?_map,Int.toNat_natCast,a1];rfl
   show yw 10 "shows" xE 2 0 [.p 0,.p 1] [] (dOp gIx (yg 4) (yg 0)) (jc (yg 2) yh) yh [some (.int (k:Int)),some F,some (.int b),some (.ref i),some C] M=_;rw [jR (i:=c) (xs:=[.int b]) (zs:=[]) (M1:=M) (M2:=M) (by simp only [yd,jC,jJ,Res.bind_ok,gx,jB]) a3 rfl rfl rfl];have e2:xE (yl 2 0 [Sl.p 0,Sl.p 1] [] [PV.ref c,.int b] []) M = .ok (.int ((k0.getD k c0K).at b)) M:=uE a3 b0 b1;rw [e2];have e3:=K.lf _ hf;rw [Int.toNat_natCast] at e3;rw [<- e3];rfl
  ·have et:yk (dOp (gIn false) (yg 0) (yg 1)) [some (.int (k:Int)),some F,some (.int b),some (.ref i),some C] M = .ok false M:=by
    simp only [yx,yd,jC,jJ,Res.bind_ok,gi,hf,decide_false,jB];rfl
   rw [et];simp only [Res.bind_ok];show yw 11 "shows" uA 3 0 [.p 0,.p 1,.p 2] [] (yg 3) (jc (yg 0) (jc (yg 2) yh)) yh [some (.int (k:Int)),some F,some (.int b),some (.ref i),some C] M=_;rw [jR (i:=i) (xs:=[.int (k:Int),.int b]) (zs:=[]) (M1:=M) (M2:=M) rfl K.cp.co rfl rfl rfl];exact shows_c K.cp (by omega) (by omega) hf b0 b1
theorem left_w (K:K18 M i jL jI ks k0 cs s w fs ws ws lb ps) (hn:ks.length<=40) (hwl:ws.length<=40) (s0:0<=s) (fl:(fs.length:Int)<=s) :
  ∃ ws' M',Xh [.ref 1,.ref i,.ref jI,.lst (fs.map PV.int),.ref jL,.int s] M = .ok .non M'∧K18 M' i jL jI ks k0 cs s w fs ws' ws' lb ps∧ws'.length<=ws.length + 1:=by
 have hhl:=vP ks.length ws;have hb:=K.big;have hmany:=Jg (n:=ks.length) (ws:=ws) (fs:=fs);have hwl2:=Yj ks.length ws fs
 have hne:xt ks.length ws fs≠[]:=fun z=>by rw [z] at hmany; simp at hmany; omega
 obtain ⟨x,M1,e1,hx,T1,o1⟩:=Je K.tw (xs:=(xt ks.length ws fs).map PV.int) (by simpa using hne) (by rw [List.length_map]; omega);obtain ⟨h,hh,rfl⟩:=List.mem_map.mp hx;obtain ⟨⟨⟨h0,h1⟩,hw⟩,hf⟩:=Yd.mp hh;have K1:=K.off o1 T1
 obtain ⟨F,hF⟩:∃ F,F=PV.lst (fs.map PV.int):=⟨_,rfl⟩
 have ec:yr (dIt (yg 2)) xH [3] (yk (dOp (gIn true) (yg 0) (yg 1))) (yg 0) [some (.ref 1),some (.ref i),some (.ref jI),some F,some (.ref jL),some (.int s),none] M = .ok (.lst ((xt ks.length ws fs).map PV.int)) M:=by
  unfold xt
  refine Xc PV.int (fun x=>!decide (x ∈ fs)) PV.int (c:=jI) (uO K.ji rfl) K.ji (xS (by omega)) fun x hx=>⟨[some (.int x),some F],rfl,?_,fun _=>rfl⟩
  have gi:gIn true M (.int x) F=some (.bl (!decide (x ∈ fs))):=by rw [hF]; exact xn (neg:=true) (M:=M) (x:=.lst (fs.map PV.int)) (k:=x) (ns:=fs) rfl
  simp only [yx,yd,jC,jJ,Res.bind_ok,gi,jB];rfl
 have hlen:yA M1 (.ref jI)=some (.int (hon ks.length ws).length):=by rw [yJ (xg K1.ji),List.length_map]
 obtain ⟨A,hA⟩:∃ A,A=PV.lst ((xt ks.length ws fs).map PV.int):=⟨_,rfl⟩
 rw [<- hA] at ec e1;rw [<- hF]
 by_cases hgo:2 * s < (hon ks.length ws).length - 1
 ·obtain ⟨e2,c2⟩:=leave_c K1.cp hn hwl h0 h1 hf hw hgo
  obtain ⟨M2,hM2⟩:∃ M2,M2=M1.set (i + 1 + ks.length) (.lst ((ws ++ [h]).map PV.int)):=⟨_,rfl⟩
  rw [<- hM2] at e2 c2;have jb:=K.jb;have jl:=K.jl
  have i2:M2.g jI=some (.lst ((hon ks.length ws).map PV.int)):=by rw [hM2,Sto.set_ne (by omega)]; exact K1.ji
  obtain ⟨M3,hM3⟩:∃ M3,M3=M2.set jI (.lst (((hon ks.length ws).erase h).map PV.int)):=⟨_,rfl⟩
  obtain ⟨M4,hM4⟩:∃ M4,M4=M3.set jL (.lst ((ws ++ [h]).map PV.int)):=⟨_,rfl⟩
  have l2:M3.g jL=some (.lst (ws.map PV.int)):=by rw [hM3,Sto.set_ne (by omega),hM2,Sto.set_ne (by omega)]; exact K1.wl
  have hmem:h ∈ hon ks.length ws:=uw.mpr ⟨⟨h0,h1⟩,hw⟩
  have hel:((hon ks.length (ws ++ [h])).length:Int)=(hon ks.length ws).length - 1:=by
   rw [<- hon_leave,List.length_erase_of_mem hmem]
   have:0 < (hon ks.length ws).length:=List.length_pos_of_mem hmem
   omega
  have c3:Cp M3 i ks s w fs (ws ++ [h]) lb ps:=by
   rw [hM3]
   exact ⟨by rw [Sto.set_ne (by omega)]; exact c2.co,by rw [Sto.set_ne (by omega)]; exact c2.wa,by rw [Sto.set_ne (by omega)]; exact c2.pa,fun k q hk=>by
    have hk':=(List.getElem?_eq_some_iff.mp hk).1;rw [Sto.set_ne (by omega)]
    exact c2.ck k q hk,c2.lo,c2.hi⟩
  have K3:K18 M3 i jL jI ks k0 cs s w fs (ws ++ [h]) ws lb ps:=K1.co c3 rfl (by rw [hM3,hM2]; rfl) (fun j hj hji=>by rw [hM3,Sto.set_ne hji,hM2,Sto.set_ne (by omega)]) (fun f _=>rfl) (by rw [hM3,Sto.set_same,hon_leave]) (by
   refine List.nodup_append.mpr ⟨K.nd,by simp,?_⟩;intro a ha b hb z;rw [List.mem_singleton.mp hb] at z;subst z
   exact hw ha) (fun a ha=>by
   rcases List.mem_append.mp ha with ha | ha
   ·exact K.wb a ha
   ·rw [List.mem_singleton.mp ha]
    exact ⟨⟨h0,h1⟩,hf⟩) (by omega)
  refine ⟨ws ++ [h],M4,?_,by rw [hM4]; exact K3.setL,by rw [List.length_append]; exact Nat.le_refl _⟩;show fin (d_zbs [some (.ref 1),some (.ref i),some (.ref jI),some F,some (.ref jL),some (.int s),none] M)=_
  have gg:gGt M1 (.int ((hon ks.length ws).length - 1)) (.int (2 * s))=some (.bl true):=by
   show some (PV.bl (decide (2 * s < ((hon ks.length ws).length:Int) - 1)))=_;rw [decide_eq_true (by omega)]
  have e:d_zbs [some (.ref 1),some (.ref i),some (.ref jI),some F,some (.ref jL),some (.int s),none] M = .nx [some (.ref 1),some (.ref i),some (.ref jI),some F,some (.ref jL),some (.int s),some (.int h)] M4:=by
   unfold d_zbs;refine jW (v:=.int h) (M1:=M1) ?_ ?_
   ·simp only [jY,jt,jC,ec,jx,Res.bind_ok];exact e1
   simp only [List.set_cons_succ,List.set_cons_zero];unfold sIf
   have et:yk (dOp gGt (dOp xF (dCB (one yA) (jc (yg 2) yh)) (dC (.int 1))) (dOp Xr (dC (.int 2)) (yg 5))) [some (.ref 1),some (.ref i),some (.ref jI),some F,some (.ref jL),some (.int s),some (.int h)] M1 = .ok true M1:=by
    simp only [yx,yd,yH,jt,jC,jJ,jx,Res.bind_ok,yP,hlen,uh,xK,jB,xL (M:=M1) (i:=2) (j:=s) (.inl (by decide)),gg];rfl
   rw [et];simp only [Res.st_ok,if_true];refine yE (v:=.non) (M1:=M2) ?_ ?_
   ·rw [jR (i:=i) (xs:=[.int h]) (zs:=[]) (M1:=M1) (M2:=M1) rfl K1.cp.co rfl rfl rfl];exact e2
   refine yE (v:=.non) (M1:=M3) ?_ ?_
   ·have gr:vQ M2 (.ref jI) [.int h]=some (.non,M3):=by
     unfold vQ;rw [xM i2];simp only [xC,if_pos hmem];rw [hM3]
    unfold dMt;simp only [Res.bind_ok,jt,jJ,jC,jx,yF i2,gr]
   have ga:yR M3 (.ref jL) [.int h]=some (.non,M4):=by
    unfold yR;rw [xM l2];show (if (ws.map PV.int).length < sizeLine then _ else _)=_;rw [if_pos (xS (by rw [List.length_map]; omega)),hM4,List.map_append];rfl
   unfold yq dMt;simp only [Res.bind_ok,jt,jJ,jC,jx,yF l2,ga];rfl
  rw [e];rfl
 ·refine ⟨ws,M1,?_,K1,by omega⟩;show fin (d_zbs [some (.ref 1),some (.ref i),some (.ref jI),some F,some (.ref jL),some (.int s),none] M)=_
  have gg:gGt M1 (.int ((hon ks.length ws).length - 1)) (.int (2 * s))=some (.bl false):=by
   show some (PV.bl (decide (2 * s < ((hon ks.length ws).length:Int) - 1)))=_;rw [decide_eq_false (by omega)]
  have e:d_zbs [some (.ref 1),some (.ref i),some (.ref jI),some F,some (.ref jL),some (.int s),none] M = .nx [some (.ref 1),some (.ref i),some (.ref jI),some F,some (.ref jL),some (.int s),some (.int h)] M1:=by
   unfold d_zbs;refine jW (v:=.int h) (M1:=M1) ?_ ?_
   ·simp only [jY,jt,jC,ec,jx,Res.bind_ok];exact e1
   simp only [List.set_cons_succ,List.set_cons_zero];refine Yb ?_;simp only [yx,yd,yH,jt,jC,jJ,jx,Res.bind_ok,yP,hlen,uh,xK,jB,xL (M:=M1) (i:=2) (j:=s) (.inl (by decide)),gg];rfl
  rw [e];rfl
end

theorem xy {d:DE} {ρ:En} {M M1:Sto} {b:Bool} (h:d ρ M = .ok (.bl b) M1):yk d ρ M = .ok b M1:=by
 rw [yx,h];rfl
theorem or_no {t1 t2:DT} {ρ:En} {M M1 M2:Sto} (h1:t1 ρ M = .ok false M1) (h2:t2 ρ M1 = .ok false M2):dOr t1 t2 ρ M = .ok false M2:=by
 unfold dOr;rw [h1];exact h2
theorem vm {g:G2} {da db:DE} {ρ:En} {M M1 M2:Sto} {x y z:PV} (h1:da ρ M = .ok x M1) (h2:db ρ M1 = .ok y M2) (h3:g M2 x y=some z):dOp g da db ρ M = .ok z M2:=by
 rw [yd,h1];simp only [Res.bind_ok];rw [h2];simp only [Res.bind_ok];rw [h3];rfl
theorem nx_br {t:DT} {A B c:DS} {ρ ρ':En} {M M1 M2:Sto} {bb:Bool} {r:RS} (h:t ρ M = .ok bb M1) (hb:(if bb=true then A else B) ρ M1 = .nx ρ' M2) (k:c ρ' M2=r):yi (sIf t A B) c ρ M=r:=by
 unfold yi sIf;rw [h]
 have e:(Res.ok bb M1).st ρ (fun b M1=>if b=true then A ρ M1 else B ρ M1) = .nx ρ' M2:=by
  rw [<- hb];cases bb <;> rfl
 rw [e];exact k
section
variable {M:Sto} {i jL jI:Nat} {ks k0:List Ck} {cs:List Nat} {s w lb b:Int} {fs ws vs:List Int} {ps:List PV}
theorem chk18 (K:K18 M i jL jI ks k0 cs s w fs ws vs lb ps) (hn:ks.length<=40) (b0:0<=b) (b1:b<=100000) {ρ:En} (e5:yg 5 ρ M = .ok (.ref i) M) (e9:yg 9 ρ M = .ok (.ref jI) M) (e10:yg 10 ρ M = .ok (.int b) M) (hr:L3.rest [7] ρ=[some (.lst (fs.map PV.int))]) :
  (yi (sIf (dOr (yk (dOp (eqG true) (yw 11 "members" xR 1 0 [.p 0] [] (yg 5) yh yh) (yg 9))) (yk (dOp (eqG true) (yw 11 "honest" vS 1 0 [.p 0] [] (yg 5) yh yh) (yr (dIt (yg 9)) xH [7] (yk (dOp (gIn true) (yg 0) (yg 1))) (yg 0))))) (yD (dC (.bl false))) yB)
 (sIf (yk (dOp (eqG true) (dCB (one yA) (jc (yw 11 "readings" Xl 2 0 [.p 0,.p 1] [] (yg 5) (jc (yg 10) yh) yh) yh)) (dCB (one yA) (jc (yw 11 "honest" vS 1 0 [.p 0] [] (yg 5) yh yh) yh)))) (yD (dC (.bl false))) yB)) ρ M = .nx ρ M:=by
 have hhl:=vP ks.length ws
 have m1:yw 11 "members" xR 1 0 [.p 0] [] (yg 5) yh yh ρ M = .ok (.lst ((hon ks.length ws).map PV.int)) M:=by
  rw [jR (xs:=[]) (zs:=[]) (M1:=M) (M2:=M) e5 K.cp.co rfl rfl rfl];exact vI K.cp hn
 have m2:yw 11 "honest" vS 1 0 [.p 0] [] (yg 5) yh yh ρ M = .ok (.lst ((xt ks.length ws fs).map PV.int)) M:=by
  rw [jR (xs:=[]) (zs:=[]) (M1:=M) (M2:=M) e5 K.cp.co rfl rfl rfl];exact honest_c K.cp hn
 have m3:yw 11 "readings" Xl 2 0 [.p 0,.p 1] [] (yg 5) (jc (yg 10) yh) yh ρ M = .ok (.lst ((rds ks ws fs b).map PV.int)) M:=by
  rw [jR (xs:=[.int b]) (zs:=[]) (M1:=M) (M2:=M) e5 K.cp.co rfl (by simp only [jt,e10,jx,Res.bind_ok]) rfl];exact YR K.cp hn b0 b1
 have ec:yr (dIt (yg 9)) xH [7] (yk (dOp (gIn true) (yg 0) (yg 1))) (yg 0) ρ M = .ok (.lst ((xt ks.length ws fs).map PV.int)) M:=by
  obtain ⟨F,hF⟩:∃ F,F=PV.lst (fs.map PV.int):=⟨_,rfl⟩
  unfold xt
  refine Xc PV.int (fun x=>!decide (x ∈ fs)) PV.int (c:=jI) (uO K.ji e9) K.ji (xS (by omega)) fun x hx=>⟨[some (.int x),some F],by rw [hr,hF]; rfl,?_,fun _=>rfl⟩
  have gi:gIn true M (.int x) F=some (.bl (!decide (x ∈ fs))):=by rw [hF]; exact xn (neg:=true) (M:=M) (x:=.lst (fs.map PV.int)) (k:=x) (ns:=fs) rfl
  simp only [yx,yd,jC,jJ,Res.bind_ok,gi,jB];rfl
 refine uK (M1:=M) (or_no (xy (vm m1 e9 ?_)) (xy (vm m2 ec ?_))) (Yb (xy ?_))
 ·exact eqT_look (neg:=true) (z:=.lst ((hon ks.length ws).map PV.int)) rfl (look_lst K.ji) (uJ _) (YI _)
 ·exact eqT_look (neg:=true) rfl rfl (uJ _) (YI _)
 ·have l1:yA M (.lst ((rds ks ws fs b).map PV.int))=some (.int (xt ks.length ws fs).length):=by
   rw [yJ (x:=.lst _) rfl,List.length_map];unfold rds;rw [List.length_map]
  have l2:yA M (.lst ((xt ks.length ws fs).map PV.int))=some (.int (xt ks.length ws fs).length):=by rw [yJ (x:=.lst _) rfl,List.length_map]
  refine vm (M1:=M) (x:=.int (xt ks.length ws fs).length) (y:=.int (xt ks.length ws fs).length) ?_ ?_ (by rw [JB]; simp)
  ·simp only [yH,jt,m3,jx,Res.bind_ok,yP,l1]
  ·simp only [yH,jt,m2,jx,Res.bind_ok,yP,l2]
theorem upK_lf {S:List Int} {m:Int->Int} (fb:∀ f ∈ fs,0<=f∧f < ks.length) (hS:∀ f ∈ fs,f ∉ S):∀ f ∈ fs,(upK ks S m b).getD f.toNat c0K=ks.getD f.toNat c0K:=fun f hf=>by
 obtain ⟨f0,f1⟩:=fb f hf;rw [List.getD_eq_getElem?_getD,Jt (by omega),Int.toNat_of_nonneg f0,if_neg (hS f hf)];rfl
theorem join18 {l o:List (List Int × Int)} {x0 x3 x11 x15 x16 x17:Option PV} (K:K18 M i jL jI ks k0 cs s w fs ws ws lb ps) (hn:ks.length<=40) (s0:0<=s) (w0:0<=w) (fl:(fs.length:Int)<=s) (fb:∀ f ∈ fs,0<=f∧f < ks.length) (l0:0<=lb) (b0:lb<=b) (b1:b<=100000) (hl:JL l fs ks.length) (hl2:l.length < 1000) (ho:Ja o w ks.length) (ho2:o.length < 1000) (hws:ws≠[]) (hwl:ws.length<=40) :
  ∃ y15 y16 y17 jI' ks' ws' M',(yi (yt 15 (dMt JF (yg 8) (jc (jr yu 2 0 [.p 0,.p 1] [] (jc (yg 1) (jc (dCB (one yA) (jc (yg 8) yh)) yh)) yh) yh)))
 (yi (yt 16 (yr (xj (jc (dCB (one yA) (jc (yg 6) yh)) yh)) xH [7,10,5,6] yI (dIf (yk (dOp (gIn false) (yg 0) (yg 1))) (yw 10 "shows" xE 2 0 [.p 0,.p 1] [] (dOp gIx (yg 4) (yg 0)) (jc (yg 2) yh) yh) (yw 11 "shows" uA 3 0 [.p 0,.p 1,.p 2] [] (yg 3) (jc (yg 0) (jc (yg 2) yh)) yh))))
 (yi (yt 17 (jr Yt 2 0 [.p 0,.p 1] [] (jc (jr Ys 6 0 [.p 0,.p 1,.p 2,.p 3,.p 4,.p 5] [] (jc (yg 15) (jc (yg 9) (jc (yg 16) (jc (yg 7) (jc (yg 13) (jc (yg 14) yh)))))) yh) (jc (yg 2) yh)) yh))
 (yi (sIf (dOr (yk (dOp gNotN (yw 11 "enter" D_zal 4 1 [.p 0,.p 1,.p 2,.p 3,.k 0] [] (yg 5) (jc (yg 15) (jc (yg 10) (jc (yg 13) yh))) (jc (yg 14) yh)) (dC .non))) (yk (dOp (eqG true) (yw 11 "shows" uA 3 0 [.p 0,.p 1,.p 2] [] (yg 5) (jc (yg 15) (jc (yg 10) yh)) yh) (yg 17)))) (yD (dC (.bl false))) yB)
 (yi (sIf (vB (yk (vn gLe gLe (dOp xF (dCB (Xs) (jc (yg 12) yh)) (yg 4)) (yg 17) (dOp xG (dCB (Xu) (jc (yg 12) yh)) (yg 4))))) (yD (dC (.bl false))) yB)
 (yt 9 (dCB JE (jc (dOp xG (yg 9) (uX (jc (yg 15) yh))) yh)))))))) [x0,some (.ref 1),some (.int s),x3,some (.int w),some (.ref i),some (.lst (cs.map PV.ref)),some (.lst (fs.map PV.int)),some (.ref jL),some (.ref jI),some (.int b),x11,some (.lst ((rds ks ws fs b).map PV.int)),some (.dct l),some (.dct o),x15,x16,x17] M = .nx [x0,some (.ref 1),some (.int s),x3,some (.int w),some (.ref i),some (.lst (cs.map PV.ref)),some (.lst (fs.map PV.int)),some (.ref jL),some (.ref jI'),some (.int b),x11,some (.lst ((rds ks ws fs b).map PV.int)),some (.dct l),some (.dct o),y15,y16,y17] M' ∧
   K18 M' i jL jI' ks' k0 cs s w fs ws' ws' b ps∧ks'.length=ks.length∧ws'.length<=ws.length:=by
 have hhl:=vP ks.length ws;have hbig:=K.big;have hmany:=Jg (n:=ks.length) (ws:=ws) (fs:=fs);have hrl:(rds ks ws fs b).length=(xt ks.length ws fs).length:=List.length_map ..
 have hrn:rds ks ws fs b≠[]:=fun z=>by rw [z] at hrl; simp at hrl; omega
 have hwpos:0 < ws.length:=List.length_pos_iff.mpr hws;obtain ⟨e,M1,e1,q0,q1,T1,o1⟩:=yS K.tw (k:=ws.length) (by omega) (by omega);have K1:=K.off o1 T1
 have he:e.toNat < ws.length:=by omega
 obtain ⟨h,hh⟩:∃ h,ws[e.toNat]? = some h:=⟨_,List.getElem?_eq_getElem he⟩
 have hm:=List.mem_of_getElem? hh;obtain ⟨⟨h0,h1⟩,hf⟩:=K.wb h hm
 obtain ⟨M2,hM2⟩:∃ M2,M2=M1.set jL (.lst ((ws.erase h).map PV.int)):=⟨_,rfl⟩
 have K2:K18 M2 i jL jI ks k0 cs s w fs ws (ws.erase h) lb ps:=by rw [hM2]; exact K1.setL
 have gp:JF M1 (.ref jL) [.int e]=some (.int h,M2):=by
  unfold JF;rw [xM K1.wl];show (if 0<=e∧e < ((ws.map PV.int).length:Nat)∧e < 2 ^ 62 then _ else _)=_;rw [if_pos ⟨q0,by rw [List.length_map]; omega,by omega⟩,List.getElem?_map,hh];show some (PV.int h,M1.set jL (.lst ((ws.map PV.int).eraseIdx e.toNat)))=_;rw [hM2,<- erase_at K.nd hh,List.eraseIdx_eq_take_drop_succ,List.eraseIdx_eq_take_drop_succ,List.map_append,List.map_take,List.map_drop]
 have jb:=K2.jb;obtain ⟨M3,e3,n3,g3⟩:=reads_w (M:=M2) (h:=h) (b:=b) (n:=ks.length) (ks:=ks) (fs:=fs) (l:=l) (o:=o) (w:=w) K2.ji jb.2 (by omega) (fun u hu=>(uw.mp hu).1) ho
 have K3:K18 M3 i jL jI ks k0 cs s w fs ws (ws.erase h) lb ps:=K2.keep n3 (fun j _ hj=>g3 j hj) (by
  obtain ⟨ns,c,t⟩:=K2.tw
  have:=t.n
  exact ⟨ns,c,by rw [g3 0 (by omega)]; exact t.row,by rw [g3 1 (by omega)]; exact t.tw,t.ne,by omega⟩)
 obtain ⟨x,hx⟩:∃ x,x=mid (rdL ks ws fs b l o h) s:=⟨_,rfl⟩
 have e4:=middle_law (M:=M3) (us:=(hon ks.length ws).map (rdv ks fs b l o h)) (s:=s) (by rw [List.length_map]; omega) s0 (by rw [List.length_map]; omega)
 have e4:Yt [.lst (((hon ks.length ws).map (rdv ks fs b l o h)).map PV.int),.int s] M3 = .ok (.int x) M3:=by rw [hx]; exact e4
 obtain ⟨M5,e5,c5,n5,g5⟩:=enter_c K3.cp hn l0 b0 b1 s0 hbig hl hl2 ho ho2 h0 h1 hf hm
 obtain ⟨ks',hks'⟩:∃ ks',ks'=upK ks [h] (fun r=>mid (rdL ks ws fs b l o r) s) b:=⟨_,rfl⟩
 rw [<- hks'] at c5
 have lks:ks'.length=ks.length:=by rw [hks',ye]
 have hpl:(hon ks.length (ws.erase h)).length=(hon ks.length ws).length + 1:=by rw [(hon_perm h0 h1 K.nd hm).length_eq,List.length_append]; rfl
 have i5:M5.g jI=some (.lst ((hon ks.length ws).map PV.int)):=by rw [g5 jI (.inr jb.1)]; exact K3.ji
 obtain ⟨M6,hM6⟩:∃ M6,M6=M5.new (.lst ((hon ks.length (ws.erase h)).map PV.int)):=⟨_,rfl⟩
 have jb3:=K3.jb;have jl:=K.jl;have lo:=K.cp.lo
 have K6:K18 M6 i jL M5.n ks' k0 cs s w fs (ws.erase h) (ws.erase h) b ps:=by
  have hi5:=c5.hi;rw [lks] at hi5
  have up:∀ j,j < M5.n->M6.g j=M5.g j:=fun j hj=>by rw [hM6]; exact Sto.new_ne (by omega)
  refine ⟨⟨by rw [up _ (by omega)]; exact c5.co,by rw [up _ (by omega)]; exact c5.wa,by rw [up _ (by omega)]; exact c5.pa,fun k q hk=>?_,c5.lo,by rw [hM6,lks]; show _ < M5.n + 1; omega⟩,⟨K.ol.len,fun k q hq=>?_⟩,K.cl,by rw [lks]; exact K.ln,fun f hf'=>?_,?_,K.jl,by rw [hM6,lks]; exact Sto.new_same,⟨by rw [lks]; omega,by rw [hM6]; exact Nat.lt_succ_self _⟩,K.nd.erase _,fun a ha=>?_,by rw [lks]; omega,?_⟩
  ·have hk':=(List.getElem?_eq_some_iff.mp hk).1;rw [up _ (by omega)];exact c5.ck k q hk
  ·obtain ⟨c,a1,a2,a3⟩:=K3.ol.at_ k q hq;have hc:=(K.cl c (List.mem_of_getElem? a1)).2.1;exact ⟨c,a1,by rw [hM6]; show c < M5.n + 1; omega,by rw [up c (by omega),g5 c (.inl hc)]; exact a3⟩
  ·rw [hks',upK_lf fb (fun f hf'' z=>hf (by rw [<- List.mem_singleton.mp z]; exact hf'')) f hf'];exact K.lf f hf'
  ·rw [up jL (by omega),g5 jL (.inl jl.2)];exact K3.wl
  ·rw [lks];exact K.wb a (List.mem_of_mem_erase ha)
  ·obtain ⟨ns,c,t⟩:=K3.tw;exact ⟨ns,c,by rw [up 0 (by omega),g5 0 (.inl (by omega))]; exact t.row,by rw [up 1 (by omega),g5 1 (.inl (by omega))]; exact t.tw,t.ne,by rw [hM6]; show 2<=M5.n + 1; have:=t.n; omega⟩
 have sh:rd ks' b h=x:=by rw [hks',upK_rd h0 h1 (List.mem_singleton_self h),hx]
 have es:=shows_c c5 (h:=h) (b:=b) h0 (by rw [lks]; exact h1) hf (by omega) b1;rw [sh] at es;have dn:=due_in (ks:=ks) (ws:=ws) (fs:=fs) (b:=b) (l:=l) (r:=h) ho w0 s0 fl hbig;rw [<- hx] at dn
 obtain ⟨Ac,hAc⟩:∃ A,A=PV.lst (cs.map PV.ref):=⟨_,rfl⟩
 obtain ⟨F,hF⟩:∃ A,A=PV.lst (fs.map PV.int):=⟨_,rfl⟩
 obtain ⟨Nr,hNr⟩:∃ A,A=PV.lst ((rds ks ws fs b).map PV.int):=⟨_,rfl⟩
 obtain ⟨Sh,hSh⟩:∃ A,A=PV.lst (((List.range ks.length).map fun k:Nat=>rd ks b (k:Int)).map PV.int):=⟨_,rfl⟩
 refine ⟨some (.int h),some Sh,some (.int x),M5.n,ks',ws.erase h,M6,?_,K6,lks,List.length_erase_le⟩
 have hlen:yA M (.ref jL)=some (.int ws.length):=by rw [yJ (xg K.wl),List.length_map]
 rw [<- hAc,<- hF,<- hNr];refine jW (v:=.int h) (M1:=M2) ?_ ?_
 ·have ed:jr yu 2 0 [.p 0,.p 1] [] (jc (yg 1) (jc (dCB (one yA) (jc (yg 8) yh)) yh)) yh [x0,some (.ref 1),some (.int s),x3,some (.int w),some (.ref i),some Ac,some F,some (.ref jL),some (.ref jI),some (.int b),x11,some Nr,some (.dct l),some (.dct o),x15,x16,x17] M = .ok (.int e) M1:=by
   simp only [jY,jt,jC,jJ,yH,jx,Res.bind_ok,yP,hlen];exact e1
  unfold dMt;simp only [jJ,jC,Res.bind_ok,yF K.wl,jt,ed,jx,gp]
 simp only [List.set_cons_succ,List.set_cons_zero];refine jW (v:=Sh) (M1:=M2) ?_ ?_
 ·rw [hSh];exact K2.shown hn fb (by omega) b1 (by rw [hAc]; rfl) (by rw [hAc,hF]; rfl)
 simp only [List.set_cons_succ,List.set_cons_zero];refine jW (v:=.int x) (M1:=M3) ?_ ?_
 ·simp only [jY,jt,jC,jJ,jx,Res.bind_ok];rw [<- hSh,<- hF] at e3;rw [show Ys (yl 6 0 [Sl.p 0,Sl.p 1,Sl.p 2,Sl.p 3,Sl.p 4,Sl.p 5] [] [PV.int h,.ref jI,Sh,F,.dct l,.dct o] []) M2=_ from e3];simp only [Res.bind_ok];exact e4
 simp only [List.set_cons_succ,List.set_cons_zero];refine uK (M1:=M5) ?_ ?_
 ·refine or_no (M1:=M5) (xy (vm (x:=.non) (y:=.non) (M1:=M5) ?_ rfl rfl)) (xy (vm (x:=.int x) (y:=.int x) (M1:=M5) ?_ rfl (by rw [JB]; simp)))
  ·rw [jR (xs:=[.int h,.int b,.dct l]) (zs:=[.dct o]) (M1:=M3) (M2:=M3) rfl K3.cp.co rfl rfl rfl];exact e5
  ·rw [jR (xs:=[.int h,.int b]) (zs:=[]) (M1:=M5) (M2:=M5) rfl c5.co rfl rfl rfl];exact es
 refine uK (M1:=M5) ?_ ?_
 ·have mn:Xs M5 [Nr]=some (.int (uB (rds ks ws fs b)),M5):=by rw [hNr]; exact min_ne hrn
  have mx:Xu M5 [Nr]=some (.int (uC (rds ks ws fs b)),M5):=by rw [hNr]; exact max_ne hrn
  have g1:gLe M5 (.int (uB (rds ks ws fs b) - w)) (.int x)=some (.bl true):=by
   show some (PV.bl (decide (_<=x)))=_;rw [decide_eq_true dn.1]
  have g2:gLe M5 (.int x) (.int (uC (rds ks ws fs b) + w))=some (.bl true):=by
   show some (PV.bl (decide (x<=_)))=_;rw [decide_eq_true dn.2]
  unfold vB
  have ec:vn gLe gLe (dOp xF (dCB (Xs) (jc (yg 12) yh)) (yg 4)) (yg 17) (dOp xG (dCB (Xu) (jc (yg 12) yh)) (yg 4)) [x0,some (.ref 1),some (.int s),x3,some (.int w),some (.ref i),some Ac,some F,some (.ref jL),some (.ref jI),some (.int b),x11,some Nr,some (.dct l),some (.dct o),some (.int h),some Sh,some (.int x)] M5 = .ok (.bl true) M5:=by
   unfold vn;simp only [yd,yH,jt,jJ,jC,jx,Res.bind_ok,mn,mx,xK,vE,jB,g1,g2]
  rw [xy ec];rfl
 have ecat:dOp xG (yg 9) (uX (jc (yg 15) yh)) [x0,some (.ref 1),some (.int s),x3,some (.int w),some (.ref i),some Ac,some F,some (.ref jL),some (.ref jI),some (.int b),x11,some Nr,some (.dct l),some (.dct o),some (.int h),some Sh,some (.int x)] M5 = .ok (.lst ((hon ks.length ws ++ [h]).map PV.int)) M5:=by
  refine vm (x:=.ref jI) (y:=.lst [.int h]) rfl rfl ?_;rw [gAdd_seq (yF i5) (show yV M5 (.lst [PV.int h])=some [.int h] from rfl) (by rw [List.length_map]; exact Nat.le_of_lt (xS (show (hon ks.length ws).length + 1<=1000 by omega))),List.map_append];rfl
 have gs:JE M5 [.lst ((hon ks.length ws ++ [h]).map PV.int)]=some (.ref M5.n,M6):=by
  have ei:iseq M5 (.lst ((hon ks.length ws ++ [h]).map PV.int))=some (hon ks.length ws ++ [h]):=xC _;unfold JE;simp only [ei];rw [if_pos (by rw [List.length_append]; show (hon ks.length ws).length + 1 < 64; omega),hon_join h0 h1 K.nd hm,hM6]
 obtain ⟨Ct,hCt⟩:∃ A,A=PV.lst ((hon ks.length ws ++ [h]).map PV.int):=⟨_,rfl⟩
 rw [<- hCt] at ecat gs;unfold yt;simp only [yH,jt,ecat,jx,Res.bind_ok,gs];rfl
end

theorem hon_in {n k:Nat} {c:Int} (c0:0<=c) (h:(n:Int)=c + k):hon n (rgI c k)=rgI 0 c.toNat:=by
 have e:n=c.toNat + k:=by omega
 subst e;unfold hon;rw [List.range_add,List.map_append,List.filter_append];rw [List.filter_eq_self.mpr,List.filter_eq_nil_iff.mpr,List.append_nil]
 ·rfl
 ·intro x hx;rw [List.map_map] at hx;obtain ⟨j,hj,rfl⟩:=List.mem_map.mp hx;have hj:=List.mem_range.mp hj
  have:(0 + ((c.toNat + j:Nat):Int)) ∈ rgI c k:=Yc.mpr (by omega)
  simpa using this
 ·intro x hx;obtain ⟨j,hj,rfl⟩:=List.mem_map.mp hx;have hj:=List.mem_range.mp hj
  have:(0 + (j:Int)) ∉ rgI c k:=fun z=>by have:=Yc.mp z; omega
  simpa using this

theorem turn18 {M:Sto} {i jL jI:Nat} {ks k0:List Ck} {cs:List Nat} {s w lb bt:Int} {fs ws:List Int} {ps:List PV} {x0 x3 x11 x12 x13 x14 x15 x16 x17:Option PV} (K:K18 M i jL jI ks k0 cs s w fs ws ws lb ps) (hn:ks.length<=16) (s0:0<=s) (w0:0<=w) (w1:w<=100) (fl:(fs.length:Int)<=s) (s5:s<=5) (fb:∀ f ∈ fs,0<=f∧f < ks.length) (l0:0<=lb) (b0:lb<=bt) (b1:bt<=90000) (hwl:ws.length<=30) (hp:ps.length < 900) :
  ∃ y12 y13 y14 y15 y16 y17 jI' ks' ws' lb' b' ps' M',uW [x0,some (.ref 1),some (.int s),x3,some (.int w),some (.ref i),some (.lst (cs.map PV.ref)),some (.lst (fs.map PV.int)),some (.ref jL),some (.ref jI),some (.int bt),x11,x12,x13,x14,x15,x16,x17] M = .nx [x0,some (.ref 1),some (.int s),x3,some (.int w),some (.ref i),some (.lst (cs.map PV.ref)),some (.lst (fs.map PV.int)),some (.ref jL),some (.ref jI'),some (.int b'),x11,y12,y13,y14,y15,y16,y17] M' ∧
   K18 M' i jL jI' ks' k0 cs s w fs ws' ws' lb' ps'∧ks'.length=ks.length∧0<=lb'∧lb'<=b'∧b'<=bt + 500∧ws'.length<=ws.length + 1∧ps'.length<=ps.length + 1:=by
 have hhl:=vP ks.length ws;have hbig:=K.big;have hmany:=Jg (n:=ks.length) (ws:=ws) (fs:=fs);have hwl2:=Yj ks.length ws fs;obtain ⟨d,M1,e1,d0,d1,T1,o1⟩:=yS K.tw (k:=500) (by decide) (by decide);have K1:=K.off o1 T1
 obtain ⟨b,hb⟩:∃ b,b=bt + d:=⟨_,rfl⟩
 have hrl:(rds ks ws fs b).length=(xt ks.length ws fs).length:=List.length_map ..
 have hrn:rds ks ws fs b≠[]:=fun z=>by rw [z] at hrl; simp at hrl; omega
 have er:=YR K1.cp (b:=b) (by omega) (by omega) (by omega);obtain ⟨l,M2,e2,hl,hl2,T2,o2⟩:=lies_ok T1 (crew:=ks.length) (fs:=fs) (bs:=rds ks ws fs b) (by omega) (by omega) fb (by omega) hrn (by omega);have K2:=K1.off o2 T2;obtain ⟨o,M3,e3,ho,ho2,T3,o3⟩:=slips_ok T2 (n:=ks.length) (w:=w) (by omega) (by omega) w0 w1;have K3:=K2.off o3 T3;have hcl:cs.length=ks.length:=K.ol.len.trans K.ln
 obtain ⟨Ac,hAc⟩:∃ A,A=PV.lst (cs.map PV.ref):=⟨_,rfl⟩
 obtain ⟨F,hF⟩:∃ A,A=PV.lst (fs.map PV.int):=⟨_,rfl⟩
 obtain ⟨Nr,hNr⟩:∃ A,A=PV.lst ((rds ks ws fs b).map PV.int):=⟨_,rfl⟩
 have hlen:∀ M,yA M Ac=some (.int ks.length):=fun M=>by rw [hAc,yJ (x:=.lst (cs.map PV.ref)) rfl,List.length_map,hcl]
 -- all but the branch
 have go:∀ {y12 y13 y14 y15 y16 y17:Option PV} {jI':Nat} {ks':List Ck} {ws':List Int} {lb':Int} {ps':List PV} {M':Sto},
   K18 M' i jL jI' ks' k0 cs s w fs ws' ws' lb' ps'->ks'.length=ks.length->0<=lb'->lb'<=b->ws'.length<=ws.length + 1->ps'.length<=ps.length + 1 ->
   (∀ c r,c [x0,some (.ref 1),some (.int s),x3,some (.int w),some (.ref i),some Ac,some F,some (.ref jL),some (.ref jI'),some (.int b),x11,y12,y13,y14,y15,y16,y17] M'=r->yi (sIf (dAnd (yk (dOp (eqG true) (yg 8) (uX yh))) (yk (dOp (eqG false) (jr yu 2 0 [.p 0,.p 1] [] (jc (yg 1) (jc (dC (.int 2)) yh)) yh) (dC (.int 0))))) (yi (yt 15 (dMt JF (yg 8) (jc (jr yu 2 0 [.p 0,.p 1] [] (jc (yg 1) (jc (dCB (one yA) (jc (yg 8) yh)) yh)) yh) yh)))
 (yi (yt 16 (yr (xj (jc (dCB (one yA) (jc (yg 6) yh)) yh)) xH [7,10,5,6] yI (dIf (yk (dOp (gIn false) (yg 0) (yg 1))) (yw 10 "shows" xE 2 0 [.p 0,.p 1] [] (dOp gIx (yg 4) (yg 0)) (jc (yg 2) yh) yh) (yw 11 "shows" uA 3 0 [.p 0,.p 1,.p 2] [] (yg 3) (jc (yg 0) (jc (yg 2) yh)) yh))))
 (yi (yt 17 (jr Yt 2 0 [.p 0,.p 1] [] (jc (jr Ys 6 0 [.p 0,.p 1,.p 2,.p 3,.p 4,.p 5] [] (jc (yg 15) (jc (yg 9) (jc (yg 16) (jc (yg 7) (jc (yg 13) (jc (yg 14) yh)))))) yh) (jc (yg 2) yh)) yh))
 (yi (sIf (dOr (yk (dOp gNotN (yw 11 "enter" D_zal 4 1 [.p 0,.p 1,.p 2,.p 3,.k 0] [] (yg 5) (jc (yg 15) (jc (yg 10) (jc (yg 13) yh))) (jc (yg 14) yh)) (dC .non))) (yk (dOp (eqG true) (yw 11 "shows" uA 3 0 [.p 0,.p 1,.p 2] [] (yg 5) (jc (yg 15) (jc (yg 10) yh)) yh) (yg 17)))) (yD (dC (.bl false))) yB)
 (yi (sIf (vB (yk (vn gLe gLe (dOp xF (dCB (Xs) (jc (yg 12) yh)) (yg 4)) (yg 17) (dOp xG (dCB (Xu) (jc (yg 12) yh)) (yg 4))))) (yD (dC (.bl false))) yB)
 (yt 9 (dCB JE (jc (dOp xG (yg 9) (uX (jc (yg 15) yh))) yh)))))))) (sIf (yk (dOp (eqG false) (jr yu 2 0 [.p 0,.p 1] [] (jc (yg 1) (jc (dC (.int 2)) yh)) yh) (dC (.int 0)))) (yq (yw 11 "meet" Xj 3 1 [.p 0,.p 1,.p 2,.k 0] [] (yg 5) (jc (yg 10) (jc (yg 13) yh)) (jc (yg 14) yh))) (yq (jr Xh 6 0 [.p 0,.p 1,.p 2,.p 3,.p 4,.p 5] [] (jc (yg 1) (jc (yg 5) (jc (yg 9) (jc (yg 7) (jc (yg 8) (jc (yg 2) yh)))))) yh)))) c [x0,some (.ref 1),some (.int s),x3,some (.int w),some (.ref i),some Ac,some F,some (.ref jL),some (.ref jI),some (.int b),x11,some Nr,some (.dct l),some (.dct o),x15,x16,x17] M3=r) ->
   ∃ y12 y13 y14 y15 y16 y17 jI' ks' ws' lb' b' ps' M',uW [x0,some (.ref 1),some (.int s),x3,some (.int w),some (.ref i),some Ac,some F,some (.ref jL),some (.ref jI),some (.int bt),x11,x12,x13,x14,x15,x16,x17] M = .nx [x0,some (.ref 1),some (.int s),x3,some (.int w),some (.ref i),some Ac,some F,some (.ref jL),some (.ref jI'),some (.int b'),x11,y12,y13,y14,y15,y16,y17] M' ∧
   K18 M' i jL jI' ks' k0 cs s w fs ws' ws' lb' ps'∧ks'.length=ks.length∧0<=lb'∧lb'<=b'∧b'<=bt + 500∧ws'.length<=ws.length + 1∧ps'.length<=ps.length + 1:=by
  intro y12 y13 y14 y15 y16 y17 jI' ks' ws' lb' ps' M' K' lks l0' lb' wl' pl' br;refine ⟨y12,y13,y14,y15,y16,y17,jI',ks',ws',_,b,_,M',?_,K',lks,l0',lb',by omega,wl',pl'⟩;unfold uW;refine jW (v:=.int b) (M1:=M1) (by simp [yl,gen,e1,hb]) ?_;simp only [List.set_cons_succ,List.set_cons_zero];refine jW (v:=Nr) (M1:=M1) ?_ ?_
  ·rw [jR (xs:=[.int b]) (zs:=[]) (M1:=M1) (M2:=M1) rfl K1.cp.co rfl rfl rfl,hNr];exact er
  simp only [List.set_cons_succ,List.set_cons_zero];refine jW (v:=.dct l) (M1:=M2) ?_ ?_
  ·simp only [jY,jt,jC,jJ,yH,jx,Res.bind_ok,yP,hlen];rw [<- hF,<- hNr] at e2;exact e2
  simp only [List.set_cons_succ,List.set_cons_zero];refine jW (v:=.dct o) (M1:=M3) ?_ ?_
  ·simp only [jY,jt,jC,jJ,yH,jx,Res.bind_ok,yP,hlen];exact e3
  simp only [List.set_cons_succ,List.set_cons_zero];refine br _ _ ?_;exact chk18 K' (by omega) (by omega) (by omega) rfl rfl rfl (by rw [hF]; rfl)
 rw [<- hAc,<- hF]
 -- the second road: a meeting,or a leaving
 have road2:∀ (M4:Sto) (K4:K18 M4 i jL jI ks k0 cs s w fs ws ws lb ps),∃ jI' ks' ws' lb' ps' M',(sIf (yk (dOp (eqG false) (jr yu 2 0 [.p 0,.p 1] [] (jc (yg 1) (jc (dC (.int 2)) yh)) yh) (dC (.int 0)))) (yq (yw 11 "meet" Xj 3 1 [.p 0,.p 1,.p 2,.k 0] [] (yg 5) (jc (yg 10) (jc (yg 13) yh)) (jc (yg 14) yh))) (yq (jr Xh 6 0 [.p 0,.p 1,.p 2,.p 3,.p 4,.p 5] [] (jc (yg 1) (jc (yg 5) (jc (yg 9) (jc (yg 7) (jc (yg 8) (jc (yg 2) yh)))))) yh))) [x0,some (.ref 1),some (.int s),x3,some (.int w),some (.ref i),some Ac,some F,some (.ref jL),some (.ref jI),some (.int b),x11,some Nr,some (.dct l),some (.dct o),x15,x16,x17] M4 = .nx [x0,some (.ref 1),some (.int s),x3,some (.int w),some (.ref i),some Ac,some F,some (.ref jL),some (.ref jI'),some (.int b),x11,some Nr,some (.dct l),some (.dct o),x15,x16,x17] M' ∧
   K18 M' i jL jI' ks' k0 cs s w fs ws' ws' lb' ps'∧ks'.length=ks.length∧0<=lb'∧lb'<=b∧ws'.length<=ws.length + 1∧ps'.length<=ps.length + 1:=by
  intro M4 K4;obtain ⟨q,M5,e5,q0,q1,T5,o5⟩:=yS K4.tw (k:=2) (by decide) (by decide);have K5:=K4.off o5 T5
  by_cases hq:q=0
  ·obtain ⟨M6,e6,c6,n6,g6⟩:=meet_c K5.cp (b:=b) (l:=l) (o:=o) (O:=.dct o) (by omega) l0 (by omega) (by omega) s0 hbig hl hl2 ho ho2 (by omega) (.inl rfl);have jb:=K.jb;refine ⟨jI,_,ws,b,_,M6,?_,K5.co c6 (ye _ _ _ _) n6 (fun j hj _=>g6 j hj) (upK_lf fb fun f hf z=>(Yd.mp z).2 hf) (by rw [g6 jI (.inr jb.1)]; exact K5.ji) K.nd K.wb hbig,ye _ _ _ _,by omega,by omega,by omega,by rw [List.length_append]; exact Nat.le_refl _⟩;unfold sIf;have et:yk (dOp (eqG false) (jr yu 2 0 [.p 0,.p 1] [] (jc (yg 1) (jc (dC (.int 2)) yh)) yh) (dC (.int 0))) [x0,some (.ref 1),some (.int s),x3,some (.int w),some (.ref i),some Ac,some F,some (.ref jL),some (.ref jI),some (.int b),x11,some Nr,some (.dct l),some (.dct o),x15,x16,x17] M4 = .ok true M5:=xy (vm (x:=.int q) (y:=.int 0) (M1:=M5) (by simpa [yl,gen] using e5) rfl (by rw [YF,hq]; rfl));rw [et];simp only [Res.st_ok,if_true];unfold yq
   rw [jR (xs:=[.int b,.dct l]) (zs:=[.dct o]) (M1:=M5) (M2:=M5) rfl K5.cp.co rfl rfl rfl];rw [show Xj (yl 3 1 [Sl.p 0,Sl.p 1,Sl.p 2,Sl.k 0] [] [PV.ref i,.int b,.dct l] [.dct o]) M5=_ from e6];rfl
  ·obtain ⟨ws',M6,e6,K6,wl'⟩:=left_w K5 (by omega) (by omega) s0 fl;refine ⟨jI,ks,ws',lb,ps,M6,?_,K6,rfl,l0,by omega,wl',by omega⟩;unfold sIf;have et:yk (dOp (eqG false) (jr yu 2 0 [.p 0,.p 1] [] (jc (yg 1) (jc (dC (.int 2)) yh)) yh) (dC (.int 0))) [x0,some (.ref 1),some (.int s),x3,some (.int w),some (.ref i),some Ac,some F,some (.ref jL),some (.ref jI),some (.int b),x11,some Nr,some (.dct l),some (.dct o),x15,x16,x17] M4 = .ok false M5:=xy (vm (x:=.int q) (y:=.int 0) (M1:=M5) (by simpa [yl,gen] using e5) rfl (by rw [YF]; simp [hq]));rw [et];simp only [Res.st_ok];show yq _ _ M5=_;unfold yq;simp only [jY,jt,jC,jJ,jx,Res.bind_ok];rw [<- hF] at e6;rw [show Xh (yl 6 0 [Sl.p 0,Sl.p 1,Sl.p 2,Sl.p 3,Sl.p 4,Sl.p 5] [] [PV.ref 1,.ref i,.ref jI,F,.ref jL,.int s] []) M5=_ from e6];rfl
 have look3:look M3 (.ref jL) = .lst (ws.map PV.int):=look_lst K3.wl
 by_cases hws:ws=[]
 ·obtain ⟨jI',ks',ws',lb',ps',M',er',K',lks,l0',lbb,wl',pl'⟩:=road2 M3 K3;refine go (y12:=some Nr) (y13:=some (.dct l)) (y14:=some (.dct o)) (y15:=x15) (y16:=x16) (y17:=x17) K' lks l0' lbb wl' pl' fun c r hc=>?_;refine nx_br (bb:=false) (M1:=M3) ?_ er' hc;unfold dAnd;have t1:yk (dOp (eqG true) (yg 8) (uX yh)) [x0,some (.ref 1),some (.int s),x3,some (.int w),some (.ref i),some Ac,some F,some (.ref jL),some (.ref jI),some (.int b),x11,some Nr,some (.dct l),some (.dct o),x15,x16,x17] M3 = .ok false M3:=xy (vm (x:=.ref jL) (y:=.lst []) rfl rfl (eqT_look (neg:=true) (z:=.lst []) (by rw [look3,hws]; rfl) rfl rfl (by decide)));rw [t1];rfl
 ·have t1:yk (dOp (eqG true) (yg 8) (uX yh)) [x0,some (.ref 1),some (.int s),x3,some (.int w),some (.ref i),some Ac,some F,some (.ref jL),some (.ref jI),some (.int b),x11,some Nr,some (.dct l),some (.dct o),x15,x16,x17] M3 = .ok true M3:=by
   refine xy (vm (x:=.ref jL) (y:=.lst []) rfl rfl ?_);unfold eqG;rw [look3,if_pos ⟨uJ ws,rfl,YI ws⟩]
   cases ws with
   | nil=>exact absurd rfl hws
   | cons a l=>rfl
  obtain ⟨q,M4,e4,q0,q1,T4,o4⟩:=yS T3 (k:=2) (by decide) (by decide);have K4:=K3.off o4 T4
  by_cases hq:q=0
  ·obtain ⟨y15,y16,y17,jI',ks',ws',M',ej,K',lks,wl'⟩:=join18 (b:=b) (l:=l) (o:=o) (x0:=x0) (x3:=x3) (x11:=x11) (x15:=x15) (x16:=x16) (x17:=x17) K4 (by omega) s0 w0 fl fb l0 (by omega) (by omega) hl hl2 ho ho2 hws (by omega);rw [<- hAc,<- hF,<- hNr] at ej;refine go (y12:=some Nr) (y13:=some (.dct l)) (y14:=some (.dct o)) (y15:=y15) (y16:=y16) (y17:=y17) K' lks (by omega) (Int.le_refl _) (by omega) (by omega) fun c r hc=>?_;refine nx_br (bb:=true) (M1:=M4) ?_ ej hc;unfold dAnd;rw [t1];exact xy (vm (x:=.int q) (y:=.int 0) (M1:=M4) (by simpa [yl,gen] using e4) rfl (by rw [YF,hq]; rfl))
  ·obtain ⟨jI',ks',ws',lb',ps',M',er',K',lks,l0',lbb,wl',pl'⟩:=road2 M4 K4;refine go (y12:=some Nr) (y13:=some (.dct l)) (y14:=some (.dct o)) (y15:=x15) (y16:=x16) (y17:=x17) K' lks l0' lbb wl' pl' fun c r hc=>?_;refine nx_br (bb:=false) (M1:=M4) ?_ er' hc;unfold dAnd;rw [t1];exact xy (vm (x:=.int q) (y:=.int 0) (M1:=M4) (by simpa [yl,gen] using e4) rfl (by rw [YF]; simp [hq]))
theorem whole_lst {M:Sto} {us:List Int} (hl:us.length<=40):D_zah [.lst (us.map PV.int)] M = .ok (.bl true) M:=by
 refine ya (ρ:=[some (.lst (us.map PV.int))]) rfl rfl ?_;unfold d_zah;refine jT ?_;have q1:ue M [.lst (us.map PV.int),.ty "list"]=some (.bl true,M):=rfl
 have q2:yr (dIt (yg 0)) xH [] yI c_zah_1 [some (.lst (us.map PV.int))] M = .ok (.lst (us.map fun _=>.bl true)) M:=by
  refine jP (xs:=us.map PV.int) (M1:=M) rfl (by rw [List.length_map]; exact xS (by omega)) ?_
  refine yb PV.int (fun _=>.bl true) us fun x hx=>⟨[some (.int x)],rfl,rfl,?_⟩
  unfold c_zah_1;simp only [jY,jt,jC,jx,Res.bind_ok];exact law_whole_eq (Kd.int x)
 have q3:vA M (.lst (us.map fun _=>PV.bl true))=some (.bl true):=by
  have e1:(us.map fun _=>PV.bl true)=(us.map fun _=>true).map PV.bl:=by rw [List.map_map]; rfl
  unfold vA YN;rw [e1];simp only [xc,Option.bind_some,yT]
  have:(us.map fun _=>true).all id=true:=by simp
  rw [this]
 unfold vw;simp only [yH,jt,jC,uh,jx,Res.bind_ok,q1,q2,q3,yP]
theorem law_true (ns:List Int) (hl:ns.length<=63):∃ M',yz 1 18 d_law [.scr ns] ⟨0,fun _=>none⟩ = .ok (.bl true) M':=by
 show Tru (d_law [some (.scr ns),none,none,none,none,none,none,none,none,none,none,none,none,none,none,none,none,none] ⟨0,fun _=>none⟩);obtain ⟨M1,e1,T1,n1⟩:=town_ok ns;obtain ⟨s,M2,e2,s0,s3,T2,o2⟩:=yS T1 (k:=3) (by decide) (by decide);obtain ⟨d,M3,e3,d0,d3,T3,o3⟩:=yS T2 (k:=3) (by decide) (by decide)
 obtain ⟨c,hc⟩:∃ c,c=2 * s + 1 + d:=⟨_,rfl⟩
 obtain ⟨x,M4,e4,hx,T4,o4⟩:=Je T3 (xs:=[.int 0,.int 3,.int 50]) (by simp) (show 3 < 1073741824 by decide)
 obtain ⟨w,rfl,w0,w1⟩:∃ w,x = .int w∧0<=w∧w<=100:=by
  simp only [List.mem_cons,List.mem_nil_iff,or_false] at hx
  rcases hx with rfl | rfl | rfl
  ·exact ⟨0,rfl,by omega,by omega⟩
  ·exact ⟨3,rfl,by omega,by omega⟩
  ·exact ⟨50,rfl,by omega,by omega⟩
 obtain ⟨v,M5,e5,v0,v3,T5,o5⟩:=yS T4 (k:=3) (by decide) (by decide);obtain ⟨i,jL,cs,ks,fs,M6,e6,c6,gL,jl,n6,ol,hcl,hln,hfr,fl,fb,frise,T6⟩:=company_w T5 (s:=s) (crew:=c) (w:=w) (wait:=1 + v) s0 (by omega) w0 w1 (by omega) (by omega) (by omega);have hone:hon ks.length (rgI c (1 + v).toNat)=rgI 0 c.toNat:=hon_in (by omega) (by omega);have hrg:=rgI_len 0 c.toNat;have hrw:=rgI_len c (1 + v).toNat
 obtain ⟨M7,hM7⟩:∃ M7,M7=M6.new (.lst ((hon ks.length (rgI c (1 + v).toNat)).map PV.int)):=⟨_,rfl⟩
 have up:∀ j,j < M6.n->M7.g j=M6.g j:=fun j hj=>by rw [hM7]; exact Sto.new_ne (by omega)
 have hi6:=c6.hi;have lo:=c6.lo
 have K7:K18 M7 i jL M6.n ks ks cs s w fs (rgI c (1 + v).toNat) (rgI c (1 + v).toNat) 0 []:=by
  refine ⟨⟨by rw [up _ (by omega)]; exact c6.co,by rw [up _ (by omega)]; exact c6.wa,by rw [up _ (by omega)]; exact c6.pa,fun k q hk=>?_,c6.lo,by rw [hM7]; show _ < M6.n + 1; omega⟩,⟨ol.len,fun k q hq=>?_⟩,fun c' hc'=>⟨(hcl c' hc').1,(hcl c' hc').2,fun z=>?_⟩,rfl,fun _ _=>rfl,by rw [up jL (by omega)]; exact gL,jl,by rw [hM7]; exact Sto.new_same,⟨by omega,by rw [hM7]; exact Nat.lt_succ_self _⟩,(rgI_rise _ _).imp fun h e=>by omega,fun h hh=>?_,by rw [hone,hrg]; omega,by rw [hM7]; exact tw_new T6⟩
  ·have hk':=(List.getElem?_eq_some_iff.mp hk).1;rw [up _ (by omega)];exact c6.ck k q hk
  ·obtain ⟨c',a1,a2,a3⟩:=ol.at_ k q hq;exact ⟨c',a1,by rw [hM7]; show c' < M6.n + 1; omega,by rw [up c' a2]; exact a3⟩
  ·obtain ⟨k,hk,ek⟩:=List.getElem_of_mem hc';obtain ⟨c'',a1,_,a3⟩:=ol.at_ k _ (List.getElem?_eq_getElem (by rw [<- ol.len]; exact hk));rw [List.getElem?_eq_getElem hk,ek] at a1;cases a1;rw [z,gL] at a3;cases a3
  ·have:=Yc.mp hh
   exact ⟨by omega,fun hf=>by have:=fb h hf; omega⟩
 unfold d_law;refine YE (v:=.ref 1) (M1:=M1) (by simpa [yl,gen] using e1) ?_;simp only [List.set_cons_succ,List.set_cons_zero];refine YE (v:=.int s) (M1:=M2) (by simpa [yl,gen] using e2) ?_;simp only [List.set_cons_succ,List.set_cons_zero];refine YE (v:=.int c) (M1:=M3) (by simp [yl,gen,e3,hc,xL (M:=M2) (i:=2) (j:=s) (.inl (by decide))]) ?_;simp only [List.set_cons_succ,List.set_cons_zero]
 have s3':(3:Nat)<=sizeLine:=by decide
 refine YE (v:=.int w) (M1:=M4) (by simp [yl,gen,s3',e4]) ?_;simp only [List.set_cons_succ,List.set_cons_zero]
 obtain ⟨Ac,hAc⟩:∃ A,A=PV.lst (cs.map PV.ref):=⟨_,rfl⟩
 obtain ⟨F,hF⟩:∃ A,A=PV.lst (fs.map PV.int):=⟨_,rfl⟩
 rw [<- hAc,<- hF] at e6;refine go_asg (v:=.tup [.ref i,Ac,F,.ref jL]) (M1:=M6) (ρ':=[some (.scr ns),some (.ref 1),some (.int s),some (.int c),some (.int w),some (.ref i),some Ac,some F,some (.ref jL),none,none,none,none,none,none,none,none,none]) ?_ rfl ?_
 ·simp [yl,gen,e5,e6]
 refine YE (v:=.ref M6.n) (M1:=M7) ?_ ?_
 ·have h1:xv c=true:=yp.mpr (by omega)
  have h3:c.toNat<=1000:=by omega
  unfold dLRN;simp only [jt,jC,jJ,jx,Res.bind_ok,h1,h3,and_self,if_true];rw [hM7,hone,rngP_rgI]
 simp only [List.set_cons_succ,List.set_cons_zero];refine YE (v:=.int 0) (M1:=M7) rfl ?_;simp only [List.set_cons_succ,List.set_cons_zero]
 obtain ⟨ρ',M8,e8,x11,x12,x13,x14,x15,x16,x17,jI,ks',ws',lb,bt,ps,hρ,K8,lks,_,_,_,_,_⟩:=vh (g:=gN 11) (db:=uW)
  (fun q ρ M=>∃ x11 x12 x13 x14 x15 x16 x17 jI ks' ws' lb bt ps,ρ=[some (.scr ns),some (.ref 1),some (.int s),some (.int c),some (.int w),some (.ref i),some Ac,some F,some (.ref jL),some (.ref jI),some (.int bt),x11,x12,x13,x14,x15,x16,x17]∧K18 M i jL jI ks' ks cs s w fs ws' ws' lb ps∧ks'.length=ks.length∧0<=lb∧lb<=bt∧bt<=500 * (q:Int)∧ws'.length<=(1 + v).toNat + q∧ps.length<=q)
  (xl 0 8) 0 [some (.scr ns),some (.ref 1),some (.int s),some (.int c),some (.int w),some (.ref i),some Ac,some F,some (.ref jL),some (.ref M6.n),some (.int 0),none,none,none,none,none,none,none] M7
  ⟨none,none,none,none,none,none,none,M6.n,ks,_,0,0,[],rfl,K7,rfl,by omega,by omega,by omega,by rw [hrw]; omega,Nat.zero_le _⟩ (by
   rintro q z hz ρ M ⟨x11,x12,x13,x14,x15,x16,x17,jI,ks',ws',lb,bt,ps,rfl,K,lks,l0,l1,l2,l3,l4⟩
   have hq:q < 8:=by
    have:=(List.getElem?_eq_some_iff.mp hz).1
    rw [xx] at this;exact this
   rw [Nat.zero_add] at l2 l3 l4 ⊢;obtain ⟨y12,y13,y14,y15,y16,y17,jI',ks'',ws'',lb',b',ps',M',ex,K',lk',m0,m1,m2,m3,m4⟩:=turn18 (x0:=some (.scr ns)) (x3:=some (.int c)) (x11:=some z) (x12:=x12) (x13:=x13) (x14:=x14) (x15:=x15) (x16:=x16) (x17:=x17) K (by omega) s0 w0 w1 fl (by omega) (fun f hf=>by have:=fb f hf; omega) l0 l1 (by omega) (by omega) (by omega);rw [<- hAc,<- hF] at ex
   exact ⟨_,_,M',rfl,ex,some z,y12,y13,y14,y15,y16,y17,jI',ks'',ws'',lb',b',ps',rfl,K',by omega,m0,m1,by omega,by omega,by omega⟩)
 subst hρ;refine go_loop (M1:=M7) (xs:=xl 0 8) rfl e8 ?_;refine go_ret (M1:=M8) ?_;have hhl:=vP ks'.length ws';simp only [jY,jt,jx];rw [jR (xs:=[]) (zs:=[]) (M1:=M8) (M2:=M8) rfl K8.cp.co rfl rfl rfl];rw [show xR (yl 1 0 [Sl.p 0] [] [PV.ref i] []) M8=_ from vI K8.cp (by omega)];simp only [Res.bind_ok];exact whole_lst (by omega)

section
variable {P:Program} {w:World} {K:PySem.W.Frag} {mg:Str->Option Value} {base:Heap} {C:Nat->Addr} {f:Addr} {fd:FuncData}
theorem ok_zbj (F:Fun K "_law_town" "_law_town" s_zbj f fd) (N_list:mg "list" = none):FnOk P w K mg base (CX1 P w) 1 f fd ["_law_script"] (spD (tb K C) D_zbj) :=
 have hT:(tb K C).K=K:=rfl
 jN F sc_zbj fun cdv A outer s H E hr=>(jg (jw (JU (ja (YT (jZ (o_scr hT (hu0 hr)) (qv 0) (Jw je) (jX _)) (Jd (b_listS hT) rfl N_list vC (ja (qv 0) je)) (JU (ja jp je))) (ja jp je)))))
theorem ok_zbk (F:Fun K "_law_draw" "_law_draw" s_zbk f fd) (N_len:mg "len" = none):FnOk P w K mg base (CX1 P w) 1 f fd ["_law_town_here","_law_many"] (spD (tb K C) yu) :=
 have hT:(tb K C).K=K:=rfl
 jN F Yz fun cdv A outer s H E hr=>(jf (jG (i:=2) Yz.nd rfl (Or.inl rfl) (xf (vi hT) (qv 0) jp (fun _ _=>rfl)))
   (jf (qs_setI (jz (xJ hT) (xf (vi hT) (qv 0) jp (fun _ _=>rfl)) jp) (qv 0) jp)
   (jf (jG (i:=3) Yz.nd rfl (Or.inl rfl) (jz (o_mod) (xf (vi hT) (qv 0) jp (fun _ _=>rfl)) (jm (yU hT) rfl N_len yC (ja (qv 2) je))))
   (jf (jG (i:=4) Yz.nd rfl (Or.inl rfl) (xf (vi hT) (qv 2) (qv 3) (fun _ _=>rfl)))
   (jf (yN (jZ (o_ge) (qv 4) jp (jX _)) (jf (qs_setI (jz (o_div) (qv 4) (qv 1)) (qv 2) (qv 3))
   (jg (jw (jz (o_mod) (qv 4) (qv 1))))) jK)
   (jf (jG (i:=5) Yz.nd rfl (Or.inl rfl) (jz (o_mod) (jz (xJ hT) (qv 4) (jz (YU) jp (xf (vi hT) (qv 0) jp (fun _ _=>rfl)))) jp))
   (jf (jG (i:=5) Yz.nd rfl (Or.inl rfl) (jz (o_mod) (jz (o_pow) (qv 5) jp) jp))
   (jg (jw (jz (o_mod) (jz (o_div) (jz (o_mod) (jz (xJ hT) (jz (YU) (jz (o_div) (qv 5) jp) jp) (qv 5)) jp) jp) (qv 1)))))))))))
theorem ok_zbl (F:Fun K "_law_pick" "_law_pick" s_zbl f fd) (Q_zbk:CalD P w K mg base (tb K C) "_law_draw" 1 ["_law_town_here","_law_many"] [] 2 0 [.p 0,.p 1] [] yu) (N_len:mg "len" = none):FnOk P w K mg base (CX1 P w) 2 f fd ["_law_town_here","_law_some"] (spD (tb K C) xO) :=
 have hT:(tb K C).K=K:=rfl
 jN F sc_zbl fun cdv A outer s H E hr=>(jg (jw (xf (vi hT) (qv 1) (jj Q_zbk (hr.mono (by decide)) rfl jE (ja (qv 0) (ja (jm (yU hT) rfl N_len yC (ja (qv 1) je)) je)) jh) (fun _ _=>rfl))))
theorem ok_zbt (F:Fun K "is_whole" "is_whole" s_zbt f fd) (N_bool:mg "bool" = none) (N_int:mg "int" = none) (N_isinstance:mg "isinstance" = none):FnOk P w K mg base (CX1 P w) 1 f fd ["thing"] (spD (tb K C) D_zbt) :=
 have hT:(tb K C).K=K:=rfl
 jN F sc_zbt fun cdv A outer s H E hr=>(jg (jw (Jx (jm (Jr hT) rfl N_isinstance jM (ja (qv 0) (ja (q_ty rfl N_int bt_int) je))) (Jv (qe_not (jm (Jr hT) rfl N_isinstance jM (ja (qv 0) (ja (q_ty rfl N_bool bt_bool) je))))))))
theorem ok_zbm (F:Fun K "is_within" "is_within" s_zbm f fd) (Q_zbt:CalD P w K mg base (tb K C) "is_whole" 1 ["thing"] [] 1 0 [.p 0] [] D_zbt):FnOk P w K mg base (CX1 P w) 2 f fd ["thing","least","most"] (spD (tb K C) um) :=
 have hT:(tb K C).K=K:=rfl
 jN F sc_zbm fun cdv A outer s H E hr=>(jg (jw (Jx (jj Q_zbt (hr.mono (by decide)) rfl jE (ja (qv 0) je) jh) (Jv (qe_chain (o_le) (o_le) (qv 1) (qv 0) (qv 2))))))
theorem ok_zan (F:Fun K "check_within" "check_within" s_zan f fd) (X_BadNumber:Exc K mg "BadNumber" (C 0)) (Q_zbm:CalD P w K mg base (tb K C) "is_within" 2 ["thing","least","most"] [] 3 0 [.p 0,.p 1,.p 2] [] um):FnOk P w K mg base (CX1 P w) 3 f fd ["thing","least","most"] (spD (tb K C) xQ) :=
 have hT:(tb K C).K=K:=rfl
 jN F sc_zan fun cdv A outer s H E hr=>(jg (yN (xb (xh hT (jj Q_zbm (hr.mono (by decide)) rfl jE (ja (qv 0) (ja (qv 1) (ja (qv 2) je))) jh))) (jg (yQ X_BadNumber rfl (ja (qe_fstr (qj_txt (by decide +kernel) (by decide) (qj_int (qv 1) (by decide) (qj_txt (by decide +kernel) (by decide) (qj_int (qv 2) (by decide) (qj_nil (by decide))))))) je))) jK))
theorem ok_zao (F:Fun K "check_number" "check_number" s_zao f fd) {t_FARTHEST:Tok} (C_FARTHEST:mg "FARTHEST" = some (.int 1000000 t_FARTHEST)) (Q_zan:CalD P w K mg base (tb K C) "check_within" 3 ["thing","least","most"] [] 3 0 [.p 0,.p 1,.p 2] [] xQ):FnOk P w K mg base (CX1 P w) 4 f fd ["thing"] (spD (tb K C) D_zao) :=
 have hT:(tb K C).K=K:=rfl
 jN F sc_zao fun cdv A outer s H E hr=>(jg (jQ (jj Q_zan (hr.mono (by decide)) rfl jE (ja (qv 0) (ja (qe_neg (xV rfl C_FARTHEST)) (ja (xV rfl C_FARTHEST) je))) jh)))
theorem ok_zai (F:Fun K "__init__" "Clock.__init__" s_zai f fd) {t_MOST_RATE:Tok} (C_MOST_RATE:mg "MOST_RATE" = some (.int 100 t_MOST_RATE)) (nf_Clock_first:jq K (C 10) "first") (nf_Clock_rate:jq K (C 10) "rate") (nf_Clock_turned:jq K (C 10) "turned") (Q_zao:CalD P w K mg base (tb K C) "check_number" 4 ["thing"] [] 1 0 [.p 0] [] D_zao) (Q_zan:CalD P w K mg base (tb K C) "check_within" 3 ["thing","least","most"] [] 3 0 [.p 0,.p 1,.p 2] [] xQ) (cl_Clock:Cls K (C 10)):FnOk P w K mg base (CX1 P w) 5 f fd ["self","first","rate"] (spD (tb K C) Xk) :=
 have hT:(tb K C).K=K:=rfl
 jN F sc_zai fun cdv A outer s H E hr=>(jf (jQ (jj Q_zao (hr.mono (by decide)) rfl jE (ja (qv 1) je) jh))
   (jf (jQ (jj Q_zan (hr.mono (by decide)) rfl jE (ja (qv 2) (ja (qe_neg (xV rfl C_MOST_RATE)) (ja (xV rfl C_MOST_RATE) je))) jh))
   (jf (xU hT cl_Clock nf_Clock_first (qv 0) (qv 1))
   (jf (xU hT cl_Clock nf_Clock_rate (qv 0) (qv 2))
   (jg (xU hT cl_Clock nf_Clock_turned (qv 0) jp))))))
theorem ok_zba (F:Fun K "_law_liars" "_law_liars" s_zba f fd) (Q_zbk:CalD P w K mg base (tb K C) "_law_draw" 1 ["_law_town_here","_law_many"] [] 2 0 [.p 0,.p 1] [] yu) (N_len:mg "len" = none) (N_range:mg "range" = none):FnOk P w K mg base (CX1 P w) 2 f fd ["_law_town_here","_law_crew","_law_most"] (spD (tb K C) D_zba) :=
 have hT:(tb K C).K=K:=rfl
 uT (den_0 F sc_zba fun cdv A outer s H E hr=>(jf (jG (i:=3) sc_zba.nd rfl (Or.inl rfl) (JU je))
   (jf (uH 200 PassesOwn.never rfl (vx rfl N_range (ja (qv 1) je)) (xz (i:=4) sc_zba.nd rfl (Or.inl rfl)) (jg (yN (QW.qt (qw_and (jZ (o_lt) (jm (yU hT) rfl N_len yC (ja (qv 3) je)) (qv 2) (jX _)) (qw_and1 (jZ (o_eq hT hr.units) (jj Q_zbk (hr.mono (by decide)) rfl jA (ja (qv 0) (ja jp je)) jh) jp (jX _))))) (jg (jQ (YS PySem.F.slot_list_append PySem.F.type_list_append uM (qv 3) (ja (qv 4) je)))) jK)))
   (jg (jw (qe_frz (qv 3)))))))
theorem ok_zap (F:Fun K "check_clocks" "check_clocks" XU f fd) {t_MOST_HOUSES:Tok} (C_MOST_HOUSES:mg "MOST_HOUSES" = some (.int 16 t_MOST_HOUSES)) (X_BadHouses:Exc K mg "BadHouses" (C 3)) (N_all:mg "all" = none) (N_isinstance:mg "isinstance" = none) (N_len:mg "len" = none) (N_list:mg "list" = none) (A_Clock:mg "Clock" = some (.ref (C 10))):FnOk P w K mg base (CX1 P w) 1 f fd ["clocks"] (spD (tb K C) D_zap) :=
 have hT:(tb K C).K=K:=rfl
 jN F sc_zap fun cdv A outer s H E hr=>(jf (yN (QW.qt (JQ (xb (xh hT (jm (Jr hT) rfl N_isinstance jM (ja (qv 0) (ja (q_ty rfl N_list vC) je))))) (Ju (xb (qt_chain (o_le) (o_le) jp (jm (yU hT) rfl N_len yC (ja (qv 0) je)) (xV rfl C_MOST_HOUSES)))))) (jg (yQ X_BadHouses rfl (ja vY je))) jK)
   (jg (yN (xb (xh hT (jm (b_all rfl) rfl N_all YM (ja (xp (osc:=(jd XU)) (own:=["clock"]) (fr:=[]) (js:=[]) vR rfl rfl (by exact ⟨rfl,by decide +kernel,by decide +kernel,by decide +kernel,by decide +kernel,by decide +kernel⟩) rfl (xo (qv 0)) (fun _ _ _=>(jO (i:=0) (show List.Nodup (["clock"]:List Str) from by decide +kernel) rfl (Or.inl rfl))) (fun _ _ _=>xi) (fun _ _ _=>(jm (b_isO hT) rfl N_isinstance jM (ja (qv 0) (ja (q_gcls (k:=10) rfl A_Clock) je))))) je)))) (jg (yQ X_BadHouses rfl (ja vY je))) jK)))
theorem ok_zbn (F:Fun K "check_few" "check_few" s_zbn f fd) {t_MOST_FEW:Tok} (C_MOST_FEW:mg "MOST_FEW" = some (.int 5 t_MOST_FEW)) (Q_zan:CalD P w K mg base (tb K C) "check_within" 3 ["thing","least","most"] [] 3 0 [.p 0,.p 1,.p 2] [] xQ):FnOk P w K mg base (CX1 P w) 4 f fd ["few"] (spD (tb K C) D_zbn) :=
 have hT:(tb K C).K=K:=rfl
 jN F sc_zbn fun cdv A outer s H E hr=>(jg (jQ (jj Q_zan (hr.mono (by decide)) rfl jE (ja (qv 0) (ja jp (ja (xV rfl C_MOST_FEW) je))) jh)))
theorem ok_zav (F:Fun K "check_error" "check_error" s_zav f fd) {t_MOST_ERROR:Tok} (C_MOST_ERROR:mg "MOST_ERROR" = some (.int 100 t_MOST_ERROR)) (Q_zan:CalD P w K mg base (tb K C) "check_within" 3 ["thing","least","most"] [] 3 0 [.p 0,.p 1,.p 2] [] xQ):FnOk P w K mg base (CX1 P w) 4 f fd ["error"] (spD (tb K C) D_zav) :=
 have hT:(tb K C).K=K:=rfl
 jN F sc_zav fun cdv A outer s H E hr=>(jg (jQ (jj Q_zan (hr.mono (by decide)) rfl jE (ja (qv 0) (ja jp (ja (xV rfl C_MOST_ERROR) je))) jh)))
theorem ok_zbu (F:Fun K "is_house" "is_house" s_zbu f fd) (Q_zbm:CalD P w K mg base (tb K C) "is_within" 2 ["thing","least","most"] [] 3 0 [.p 0,.p 1,.p 2] [] um):FnOk P w K mg base (CX1 P w) 3 f fd ["thing","houses"] (spD (tb K C) xN) :=
 have hT:(tb K C).K=K:=rfl
 jN F sc_zbu fun cdv A outer s H E hr=>(jg (jw (jj Q_zbm (hr.mono (by decide)) rfl jE (ja (qv 0) (ja jp (ja (jz (vp) (qv 1) jp) je))) jh)))
theorem ok_zbo (F:Fun K "is_rising" "is_rising" XQ f fd) (N_all:mg "all" = none) (N_zip:mg "zip" = none):FnOk P w K mg base (CX1 P w) 1 f fd ["numbers"] (spD (tb K C) D_zbo) :=
 have hT:(tb K C).K=K:=rfl
 jN F sc_zbo fun cdv A outer s H E hr=>(jg (jw (jm (b_all rfl) rfl N_all YM (ja (xp (osc:=(jd XQ)) (own:=["ahead","number"]) (fr:=[]) (js:=[]) (bnd_2 (T:=tb K C)) rfl rfl (by exact ⟨rfl,by decide +kernel,by decide +kernel,by decide +kernel,by decide +kernel,by decide +kernel⟩) rfl (qi_zipS rfl N_zip (ja (qv 0) (ja (qe_slice hT (qv 0) (JS jp) qo_none) je))) (fun _ _ _=>(show PG _ _ (gTup K 2 (uR (vv 0) (uR (vv 1) gNil))) from (pg_tup rfl (xI (jO (i:=0) (show List.Nodup (["ahead","number"]:List Str) from by decide +kernel) rfl (Or.inl rfl)) (xI (jO (i:=1) (show List.Nodup (["ahead","number"]:List Str) from by decide +kernel) rfl (Or.inl rfl)) JX))))) (fun _ _ _=>xi) (fun _ _ _=>(qe_cmp (o_lt) (qv 0) (qv 1) (jX _)))) je))))
theorem ok_zac (F:Fun K "check_some_houses" "check_some_houses" XZ f fd) (X_BadHouses:Exc K mg "BadHouses" (C 3)) (Q_zbu:CalD P w K mg base (tb K C) "is_house" 3 ["thing","houses"] [] 2 0 [.p 0,.p 1] [] xN) (Q_zbo:CalD P w K mg base (tb K C) "is_rising" 1 ["numbers"] [] 1 0 [.p 0] [] D_zbo) (N_all:mg "all" = none) (N_isinstance:mg "isinstance" = none) (N_len:mg "len" = none) (N_list:mg "list" = none) (N_tuple:mg "tuple" = none):FnOk P w K mg base (CX1 P w) 4 f fd ["some","houses","most"] (spD (tb K C) Yv) :=
 have hT:(tb K C).K=K:=rfl
 jN F sc_zac fun cdv A outer s H E hr=>(jf (yN (QW.qt (JQ (xb (xh hT (jm (Jr hT) rfl N_isinstance jM (ja (qv 0) (ja (qe_tup (ja (q_ty rfl N_list vC) (ja (q_ty rfl N_tuple bt_tuple) je))) je))))) (Ju (jZ (o_gt) (jm (yU hT) rfl N_len yC (ja (qv 0) je)) (qv 2) (jX _))))) (jg (yQ X_BadHouses rfl (ja vY je))) jK)
   (jg (yN (QW.qt (JQ (xb (xh hT (jm (b_all rfl) rfl N_all YM (ja (xp (osc:=(jd XZ)) (own:=["house"]) (fr:=["houses"]) (js:=[1]) vR rfl rfl (by exact ⟨rfl,by decide +kernel,by decide +kernel,by decide +kernel,by decide +kernel,by decide +kernel⟩) rfl (xo (qv 0)) (fun _ _ _=>(jO (i:=0) (show List.Nodup (["house","houses"]:List Str) from by decide +kernel) rfl (Or.inl rfl))) (fun _ _ _=>xi) (fun _ _ _=>(jj Q_zbu (hr.mono (by decide)) rfl jA (ja (qv 0) (ja (qv 1) je)) jh))) je)))) (Ju (xb (xh hT (jj Q_zbo (hr.mono (by decide)) rfl jE (ja (qv 0) je) jh)))))) (jg (yQ X_BadHouses rfl (ja vY je))) jK)))
theorem ok_zbb (F:Fun K "twin" "Clock.twin" s_zbb f fd) (nf_Clock_first:jq K (C 10) "first") (nf_Clock_rate:jq K (C 10) "rate") (nf_Clock_turned:jq K (C 10) "turned") (Q_zai_1_first_rate:NewD P w K mg base (tb K C) 10 "Clock" 5 ["self","first","rate"] ["first","rate"] 1 2 [.p 0,.k 0,.k 1] [] Xk) (cl_Clock:Cls K (C 10)):FnOk P w K mg base (CX1 P w) 7 f fd ["self"] (spD (tb K C) Xi) :=
 have hT:(tb K C).K=K:=rfl
 jN F sc_zbb fun cdv A outer s H E hr=>(jf (jG (i:=1) sc_zbb.nd rfl (Or.inl rfl) (qe_new0 Q_zai_1_first_rate (hr.mono (by decide)) rfl jE (xZ (yc hT cl_Clock nf_Clock_first (qv 0)) (xZ (yc hT cl_Clock nf_Clock_rate (qv 0)) jh))))
   (jf (xU hT cl_Clock nf_Clock_turned (qv 1) (yc hT cl_Clock nf_Clock_turned (qv 0)))
   (jg (jw (qv 1)))))
theorem ok_zad (F:Fun K "__init__" "Company.__init__" YQ f fd) (X_BadHouses:Exc K mg "BadHouses" (C 3)) (nf_Company_clocks:jq K (C 11) "clocks") (nf_Company_error:jq K (C 11) "error") (nf_Company_few:jq K (C 11) "few") (nf_Company_last_beat:jq K (C 11) "last_beat") (nf_Company_liars:jq K (C 11) "liars") (nf_Company_past:jq K (C 11) "past") (nf_Company_waits:jq K (C 11) "waits") (Q_zap:CalD P w K mg base (tb K C) "check_clocks" 1 ["clocks"] [] 1 0 [.p 0] [] D_zap) (Q_zav:CalD P w K mg base (tb K C) "check_error" 4 ["error"] [] 1 0 [.p 0] [] D_zav) (Q_zbn:CalD P w K mg base (tb K C) "check_few" 4 ["few"] [] 1 0 [.p 0] [] D_zbn) (Q_zac:CalD P w K mg base (tb K C) "check_some_houses" 4 ["some","houses","most"] [] 3 0 [.p 0,.p 1,.p 2] [] Yv) (Q_zbb:MetD P w K mg base (tb K C) 10 "twin" 7 ["self"] [] 1 0 [.p 0] [] Xi) (N_any:mg "any" = none) (N_len:mg "len" = none) (N_list:mg "list" = none) (cl_Company:Cls K (C 11)):FnOk P w K mg base (CX1 P w) 8 f fd ["self","clocks","few","error","liars","waiting"] (spD (tb K C) D_zad) :=
 have hT:(tb K C).K=K:=rfl
 jN F sc_zad fun cdv A outer s H E hr=>(jf (jQ (jj Q_zap (hr.mono (by decide)) rfl jE (ja (qv 1) je) jh))
   (jf (jQ (jj Q_zbn (hr.mono (by decide)) rfl jE (ja (qv 2) je) jh))
   (jf (jQ (jj Q_zav (hr.mono (by decide)) rfl jE (ja (qv 3) je) jh))
   (jf (jQ (jj Q_zac (hr.mono (by decide)) rfl jE (ja (qv 4) (ja (jm (yU hT) rfl N_len yC (ja (qv 1) je)) (ja (qv 2) je))) jh))
   (jf (jQ (jj Q_zac (hr.mono (by decide)) rfl jE (ja (qv 5) (ja (jm (yU hT) rfl N_len yC (ja (qv 1) je)) (ja (jm (yU hT) rfl N_len yC (ja (qv 1) je)) je))) jh))
   (jf (yN (xh hT (jm (b_any rfl) rfl N_any bt_any (ja (xp (osc:=(jd YQ)) (own:=["house"]) (fr:=["liars"]) (js:=[4]) vR rfl rfl (by exact ⟨rfl,by decide +kernel,by decide +kernel,by decide +kernel,by decide +kernel,by decide +kernel⟩) rfl (xo (qv 5)) (fun _ _ _=>(jO (i:=0) (show List.Nodup (["house","liars"]:List Str) from by decide +kernel) rfl (Or.inl rfl))) (fun _ _ _=>xi) (fun _ _ _=>(qe_cmp (o_in hT (vO hr)) (qv 0) (qv 1) (by with_unfolding_all rfl)))) je))) (jg (yQ X_BadHouses rfl (ja vY je))) jK)
   (jf (yN (jZ (o_le) (jz (vp) (jm (yU hT) rfl N_len yC (ja (qv 1) je)) (jm (yU hT) rfl N_len yC (ja (qv 5) je))) (jz (YU) jp (qv 2)) (jX _)) (jg (yQ X_BadHouses rfl (ja vY je))) jK)
   (jf (xU hT cl_Company nf_Company_clocks (qv 0) (xp (osc:=(jd YQ)) (own:=["clock"]) (fr:=[]) (js:=[]) vR rfl rfl (by exact ⟨rfl,by decide +kernel,by decide +kernel,by decide +kernel,by decide +kernel,by decide +kernel⟩) rfl (xo (qv 1)) (fun _ _ _=>(jO (i:=0) (show List.Nodup (["clock"]:List Str) from by decide +kernel) rfl (Or.inl rfl))) (fun _ _ _=>xi) (fun _ _ _=>(vc Q_zbb (hr.mono (by decide)) jA (qv 0) jh))))
   (jf (xU hT cl_Company nf_Company_few (qv 0) (qv 2))
   (jf (xU hT cl_Company nf_Company_error (qv 0) (qv 3))
   (jf (xU hT cl_Company nf_Company_liars (qv 0) (Jd (b_list hT) rfl N_list vC (ja (qv 4) je)))
   (jf (xU hT cl_Company nf_Company_waits (qv 0) (Jd (b_listN hT) rfl N_list vC (ja (qv 5) je)))
   (jf (xU hT cl_Company nf_Company_last_beat (qv 0) jp)
   (jg (xU hT cl_Company nf_Company_past (qv 0) (JU je))))))))))))))))
theorem ok_zaq (F:Fun K "_law_company" "_law_company" XT f fd) (Q_zbk:CalD P w K mg base (tb K C) "_law_draw" 1 ["_law_town_here","_law_many"] [] 2 0 [.p 0,.p 1] [] yu) (Q_zba:CalD P w K mg base (tb K C) "_law_liars" 2 ["_law_town_here","_law_crew","_law_most"] [] 3 0 [.p 0,.p 1,.p 2] [] D_zba) (Q_zai_1_first_rate:NewD P w K mg base (tb K C) 10 "Clock" 5 ["self","first","rate"] ["first","rate"] 1 2 [.p 0,.k 0,.k 1] [] Xk) (Q_zad_2_few_error_liars_waiting:NewD P w K mg base (tb K C) 11 "Company" 8 ["self","clocks","few","error","liars","waiting"] ["few","error","liars","waiting"] 2 4 [.p 0,.p 1,.k 0,.k 1,.k 2,.k 3] [] D_zad) (N_list:mg "list" = none) (N_range:mg "range" = none):FnOk P w K mg base (CX1 P w) 10 f fd ["_law_town_here","_law_some","_law_crew","_law_wrong","_law_wait"] (spD (tb K C) D_zaq) :=
 have hT:(tb K C).K=K:=rfl
 jN F YA fun cdv A outer s H E hr=>(jf (jG (i:=5) YA.nd rfl (Or.inl rfl) (jz (xJ hT) (qv 2) (qv 4)))
   (jf (JR (i:=6) (osc:=(jd XT)) (own:=["_law_k"]) (fr:=["_law_town_here"]) (js:=[0]) vR rfl rfl (by exact ⟨rfl,by decide +kernel,by decide +kernel,by decide +kernel,by decide +kernel,by decide +kernel⟩) rfl YA.nd rfl rfl (vx rfl N_range (ja (qv 5) je)) (fun _ _ _=>(jO (i:=0) (show List.Nodup (["_law_k","_law_town_here"]:List Str) from by decide +kernel) rfl (Or.inl rfl))) (fun _ _ _=>xi) (fun _ _ _=>(qe_new0 Q_zai_1_first_rate (hr.mono (by decide)) rfl jA (xZ (jz (vp) (jj Q_zbk (hr.mono (by decide)) rfl jA (ja (qv 1) (ja jp je)) jh) jp) (xZ (jz (vp) (jj Q_zbk (hr.mono (by decide)) rfl jA (ja (qv 1) (ja jp je)) jh) jp) jh)))) rfl)
   (jf (jG (i:=7) YA.nd rfl (Or.inl rfl) (qe_lrngN rfl rfl N_list vC rfl N_range (ja (qv 2) (ja (qv 5) je))))
   (jf (jG (i:=8) YA.nd rfl (Or.inl rfl) (jj Q_zba (hr.mono (by decide)) rfl jE (ja (qv 0) (ja (qv 2) (ja (qv 1) je))) jh))
   (jf (jG (i:=9) YA.nd rfl (Or.inl rfl) (qe_new Q_zad_2_few_error_liars_waiting (hr.mono (by decide)) rfl jE (ja (qv 6) je) (xZ (qv 1) (xZ (qv 3) (xZ (qv 8) (xZ (qv 7) jh))))))
   (jg (jw (qe_tup (ja (qv 9) (ja (qv 6) (ja (qv 8) (ja (qv 7) je))))))))))))
theorem ok_zbc (F:Fun K "check_beat" "check_beat" s_zbc f fd) {t_LAST_BEAT:Tok} (C_LAST_BEAT:mg "LAST_BEAT" = some (.int 100000 t_LAST_BEAT)) (Q_zan:CalD P w K mg base (tb K C) "check_within" 3 ["thing","least","most"] [] 3 0 [.p 0,.p 1,.p 2] [] xQ):FnOk P w K mg base (CX1 P w) 4 f fd ["beat"] (spD (tb K C) D_zbc) :=
 have hT:(tb K C).K=K:=rfl
 jN F sc_zbc fun cdv A outer s H E hr=>(jg (jQ (jj Q_zan (hr.mono (by decide)) rfl jE (ja (qv 0) (ja jp (ja (xV rfl C_LAST_BEAT) je))) jh)))
theorem ok_zbp (F:Fun K "raw" "Clock.raw" s_zbp f fd) {t_PARTS:Tok} (C_PARTS:mg "PARTS" = some (.int 1000 t_PARTS)) (nf_Clock_first:jq K (C 10) "first") (nf_Clock_rate:jq K (C 10) "rate") (Q_zbc:CalD P w K mg base (tb K C) "check_beat" 4 ["beat"] [] 1 0 [.p 0] [] D_zbc) (cl_Clock:Cls K (C 10)):FnOk P w K mg base (CX1 P w) 5 f fd ["self","beat"] (spD (tb K C) D_zbp) :=
 have hT:(tb K C).K=K:=rfl
 jN F sc_zbp fun cdv A outer s H E hr=>(jf (jQ (jj Q_zbc (hr.mono (by decide)) rfl jE (ja (qv 1) je) jh))
   (jg (jw (jz (xJ hT) (yc hT cl_Clock nf_Clock_first (qv 0)) (jz (o_div) (jz (YU) (qv 1) (jz (xJ hT) (xV rfl C_PARTS) (yc hT cl_Clock nf_Clock_rate (qv 0)))) (xV rfl C_PARTS))))))
theorem ok_zaw (F:Fun K "shows" "Clock.shows" s_zaw f fd) (nf_Clock_turned:jq K (C 10) "turned") (Q_zbp:MetD P w K mg base (tb K C) 10 "raw" 5 ["self","beat"] [] 2 0 [.p 0,.p 1] [] D_zbp) (cl_Clock:Cls K (C 10)):FnOk P w K mg base (CX1 P w) 6 f fd ["self","beat"] (spD (tb K C) xE) :=
 have hT:(tb K C).K=K:=rfl
 jN F sc_zaw fun cdv A outer s H E hr=>(jg (jw (jz (xJ hT) (yY Q_zbp (hr.mono (by decide)) jE (qv 0) (ja (qv 1) je) jh) (yc hT cl_Clock nf_Clock_turned (qv 0)))))
theorem ok_zaf (F:Fun K "members" "Company.members" XX f fd) (nf_Company_clocks:jq K (C 11) "clocks") (nf_Company_waits:jq K (C 11) "waits") (N_len:mg "len" = none) (N_range:mg "range" = none) (cl_Company:Cls K (C 11)):FnOk P w K mg base (CX1 P w) 1 f fd ["self"] (spD (tb K C) xR) :=
 have hT:(tb K C).K=K:=rfl
 jN F sc_zaf fun cdv A outer s H E hr=>(jg (jw (xp (osc:=(jd XX)) (own:=["house"]) (fr:=["self"]) (js:=[0]) vR rfl rfl (by exact ⟨rfl,by decide +kernel,by decide +kernel,by decide +kernel,by decide +kernel,by decide +kernel⟩) rfl (vx rfl N_range (ja (jm (yU hT) rfl N_len yC (ja (yc hT cl_Company nf_Company_clocks (qv 0)) je)) je)) (fun _ _ _=>(jO (i:=0) (show List.Nodup (["house","self"]:List Str) from by decide +kernel) rfl (Or.inl rfl))) (fun _ _ _=>(Xy (jZ (JY hT (vO hr)) (qv 0) (yc hT cl_Company nf_Company_waits (qv 1)) (by with_unfolding_all rfl)))) (fun _ _ _=>(qv 0)))))
theorem ok_zaj (F:Fun K "honest" "Company.honest" XV f fd) (nf_Company_liars:jq K (C 11) "liars") (Q_zaf:MetD P w K mg base (tb K C) 11 "members" 1 ["self"] [] 1 0 [.p 0] [] xR) (cl_Company:Cls K (C 11)):FnOk P w K mg base (CX1 P w) 2 f fd ["self"] (spD (tb K C) vS) :=
 have hT:(tb K C).K=K:=rfl
 jN F sc_zaj fun cdv A outer s H E hr=>(jg (jw (xp (osc:=(jd XV)) (own:=["house"]) (fr:=["self"]) (js:=[0]) vR rfl rfl (by exact ⟨rfl,by decide +kernel,by decide +kernel,by decide +kernel,by decide +kernel,by decide +kernel⟩) rfl (xo (vc Q_zaf (hr.mono (by decide)) jE (qv 0) jh)) (fun _ _ _=>(jO (i:=0) (show List.Nodup (["house","self"]:List Str) from by decide +kernel) rfl (Or.inl rfl))) (fun _ _ _=>(Xy (jZ (JY hT (vO hr)) (qv 0) (yc hT cl_Company nf_Company_liars (qv 1)) (by with_unfolding_all rfl)))) (fun _ _ _=>(qv 0)))))
theorem ok_zae (F:Fun K "readings" "Company.readings" XY f fd) (nf_Company_clocks:jq K (C 11) "clocks") (Q_zaw:MetD P w K mg base (tb K C) 10 "shows" 6 ["self","beat"] [] 2 0 [.p 0,.p 1] [] xE) (Q_zaj:MetD P w K mg base (tb K C) 11 "honest" 2 ["self"] [] 1 0 [.p 0] [] vS) (cl_Company:Cls K (C 11)):FnOk P w K mg base (CX1 P w) 7 f fd ["self","beat"] (spD (tb K C) Xl) :=
 have hT:(tb K C).K=K:=rfl
 jN F sc_zae fun cdv A outer s H E hr=>(jg (jw (xp (osc:=(jd XY)) (own:=["house"]) (fr:=["beat","self"]) (js:=[1,0]) vR rfl rfl (by exact ⟨rfl,by decide +kernel,by decide +kernel,by decide +kernel,by decide +kernel,by decide +kernel⟩) rfl (xo (vc Q_zaj (hr.mono (by decide)) jE (qv 0) jh)) (fun _ _ _=>(jO (i:=0) (show List.Nodup (["house","beat","self"]:List Str) from by decide +kernel) rfl (Or.inl rfl))) (fun _ _ _=>xi) (fun _ _ _=>(yY Q_zaw (hr.mono (by decide)) jA (xf (vi hT) (yc hT cl_Company nf_Company_clocks (qv 2)) (qv 0) (fun _ _=>rfl)) (ja (qv 1) je) jh)))))
theorem ok_zax (F:Fun K "_law_number" "_law_number" s_zax f fd) (Q_zbk:CalD P w K mg base (tb K C) "_law_draw" 1 ["_law_town_here","_law_many"] [] 2 0 [.p 0,.p 1] [] yu) (Q_zbl:CalD P w K mg base (tb K C) "_law_pick" 2 ["_law_town_here","_law_some"] [] 2 0 [.p 0,.p 1] [] xO):FnOk P w K mg base (CX1 P w) 3 f fd ["_law_town_here"] (spD (tb K C) D_zax) :=
 have hT:(tb K C).K=K:=rfl
 jN F sc_zax fun cdv A outer s H E hr=>(jf (jG (i:=1) sc_zax.nd rfl (Or.inl rfl) (jj Q_zbl (hr.mono (by decide)) rfl jE (ja (qv 0) (ja (Jw (ja jp (ja jp (ja jp (ja jp je))))) je)) jh))
   (jf (jG (i:=2) sc_zax.nd rfl (Or.inl rfl) (jj Q_zbk (hr.mono (by decide)) rfl jE (ja (qv 0) (ja (qv 1) je)) jh))
   (jg (jw (YT (jZ (o_eq hT hr.units) (jj Q_zbk (hr.mono (by decide)) rfl jE (ja (qv 0) (ja jp je)) jh) jp (jX _)) (qv 2) (jz (vp) jp (qv 2)))))))
theorem ok_zbq (F:Fun K "_law_lies" "_law_lies" s_zbq f fd) (Q_zbk:CalD P w K mg base (tb K C) "_law_draw" 1 ["_law_town_here","_law_many"] [] 2 0 [.p 0,.p 1] [] yu) (Q_zax:CalD P w K mg base (tb K C) "_law_number" 3 ["_law_town_here"] [] 1 0 [.p 0] [] D_zax) (Q_zbl:CalD P w K mg base (tb K C) "_law_pick" 2 ["_law_town_here","_law_some"] [] 2 0 [.p 0,.p 1] [] xO) (N_max:mg "max" = none) (N_min:mg "min" = none) (N_range:mg "range" = none):FnOk P w K mg base (CX1 P w) 4 f fd ["_law_town_here","_law_crew","_law_foes","_law_worths"] (spD (tb K C) D_zbq) :=
 have hT:(tb K C).K=K:=rfl
 uT (den_0 F XJ fun cdv A outer s H E hr=>(jf (jG (i:=4) XJ.nd rfl (Or.inl rfl) qe_dctN)
   (jf (uH 200 PassesOwn.never rfl (xo (qv 2)) (xz (i:=5) XJ.nd rfl (Or.inl rfl)) (jg (uH 200 PassesOwn.never rfl (vx rfl N_range (ja (qv 1) je)) (xz (i:=6) XJ.nd rfl (Or.inl rfl)) (jg (yN (jZ (o_gt) (jj Q_zbk (hr.mono (by decide)) rfl jA (ja (qv 0) (ja jp je)) jh) jp (jX _)) (jf (jG (i:=7) XJ.nd rfl (Or.inl rfl) (jz (vp) (jz (xJ hT) (jj Q_zbl (hr.mono (by decide)) rfl jA (ja (qv 0) (ja (qv 3) je)) jh) (jj Q_zbk (hr.mono (by decide)) rfl jA (ja (qv 0) (ja jp je)) jh)) jp))
   (jg (qs_putT (hu1 hr) (jm (b_max rfl) rfl N_max bt_max (ja (jz (vp) jp jp) (ja (jm (b_min rfl) rfl N_min bt_min (ja jp (ja (jj Q_zbl (hr.mono (by decide)) rfl jA (ja (qv 0) (ja (Jw (ja (qv 7) (ja (qv 7) (ja (jj Q_zax (hr.mono (by decide)) rfl jA (ja (qv 0) je) jh) je)))) je)) jh) je))) je))) (qv 4) (ja (qv 5) (ja (qv 6) je))))) jK)))))
   (jg (jw (qe_dfrz (qv 4)))))))
theorem ok_zbd (F:Fun K "_law_slips" "_law_slips" s_zbd f fd) (Q_zbk:CalD P w K mg base (tb K C) "_law_draw" 1 ["_law_town_here","_law_many"] [] 2 0 [.p 0,.p 1] [] yu) (Q_zbl:CalD P w K mg base (tb K C) "_law_pick" 2 ["_law_town_here","_law_some"] [] 2 0 [.p 0,.p 1] [] xO) (N_range:mg "range" = none):FnOk P w K mg base (CX1 P w) 3 f fd ["_law_town_here","_law_size","_law_wrong"] (spD (tb K C) D_zbd) :=
 have hT:(tb K C).K=K:=rfl
 uT (den_0 F sc_zbd fun cdv A outer s H E hr=>(jf (jG (i:=3) sc_zbd.nd rfl (Or.inl rfl) qe_dctN)
   (jf (uH 200 PassesOwn.never rfl (vx rfl N_range (ja (qv 1) je)) (xz (i:=4) sc_zbd.nd rfl (Or.inl rfl)) (jg (uH 200 PassesOwn.never rfl (vx rfl N_range (ja (qv 1) je)) (xz (i:=5) sc_zbd.nd rfl (Or.inl rfl)) (jg (yN (QW.qt (qw_and (jZ (o_ne hT hr.units) (qv 4) (qv 5) (jX _)) (qw_and1 (jZ (o_eq hT hr.units) (jj Q_zbk (hr.mono (by decide)) rfl jA (ja (qv 0) (ja jp je)) jh) jp (jX _))))) (jg (qs_putT (hu1 hr) (jj Q_zbl (hr.mono (by decide)) rfl jA (ja (qv 0) (ja (Jw (ja (qv 2) (ja (jz (vp) jp (qv 2)) (ja (jz (vp) (jj Q_zbk (hr.mono (by decide)) rfl jA (ja (qv 0) (ja (jz (xJ hT) (jz (YU) jp (qv 2)) jp) je)) jh) (qv 2)) je)))) je)) jh) (qv 3) (ja (qv 4) (ja (qv 5) je)))) jK)))))
   (jg (jw (qe_dfrz (qv 3)))))))
theorem ok_zay (F:Fun K "check_house" "check_house" s_zay f fd) (Q_zbu:CalD P w K mg base (tb K C) "is_house" 3 ["thing","houses"] [] 2 0 [.p 0,.p 1] [] xN):FnOk P w K mg base (CX1 P w) 4 f fd ["house","houses"] (spD (tb K C) D_zay) :=
 have hT:(tb K C).K=K:=rfl
 jN F sc_zay fun cdv A outer s H E hr=>(jg (yN (xb (xh hT (jj Q_zbu (hr.mono (by decide)) rfl jE (ja (qv 0) (ja (qv 1) je)) jh))) (jg qs_never) jK))
theorem ok_zar (F:Fun K "check_honest" "check_honest" s_zar f fd) (Q_zay:CalD P w K mg base (tb K C) "check_house" 4 ["house","houses"] [] 2 0 [.p 0,.p 1] [] D_zay):FnOk P w K mg base (CX1 P w) 5 f fd ["house","houses","liars"] (spD (tb K C) Yu) :=
 have hT:(tb K C).K=K:=rfl
 jN F sc_zar fun cdv A outer s H E hr=>(jf (jQ (jj Q_zay (hr.mono (by decide)) rfl jE (ja (qv 0) (ja (qv 1) je)) jh))
   (jg (yN (jZ (o_in hT (vO hr)) (qv 0) (qv 2) (by with_unfolding_all rfl)) (jg qs_never) jK)))
theorem ok_zak (F:Fun K "shows" "Company.shows" s_zak f fd) (nf_Company_clocks:jq K (C 11) "clocks") (nf_Company_liars:jq K (C 11) "liars") (Q_zar:CalD P w K mg base (tb K C) "check_honest" 5 ["house","houses","liars"] [] 3 0 [.p 0,.p 1,.p 2] [] Yu) (Q_zaw:MetD P w K mg base (tb K C) 10 "shows" 6 ["self","beat"] [] 2 0 [.p 0,.p 1] [] xE) (N_len:mg "len" = none) (cl_Company:Cls K (C 11)):FnOk P w K mg base (CX1 P w) 7 f fd ["self","house","beat"] (spD (tb K C) uA) :=
 have hT:(tb K C).K=K:=rfl
 jN F sc_zak fun cdv A outer s H E hr=>(jf (jQ (jj Q_zar (hr.mono (by decide)) rfl jE (ja (qv 1) (ja (jm (yU hT) rfl N_len yC (ja (yc hT cl_Company nf_Company_clocks (qv 0)) je)) (ja (yc hT cl_Company nf_Company_liars (qv 0)) je))) jh))
   (jg (jw (yY Q_zaw (hr.mono (by decide)) jE (xf (vi hT) (yc hT cl_Company nf_Company_clocks (qv 0)) (qv 1) (fun _ _=>rfl)) (ja (qv 2) je) jh))))
theorem ok_zaz (F:Fun K "_law_middle" "_law_middle" s_zaz f fd) (N_len:mg "len" = none) (N_range:mg "range" = none) (N_sorted:mg "sorted" = none):FnOk P w K mg base (CX1 P w) 1 f fd ["_law_worths","_law_some"] (spD (tb K C) Yt) :=
 have hT:(tb K C).K=K:=rfl
 uT (den_0 F sc_zaz fun cdv A outer s H E hr=>(jf (jG (i:=2) sc_zaz.nd rfl (Or.inl rfl) (jm (b_sorted) rfl N_sorted YL (ja (qv 0) je)))
   (jf (uH 200 PassesOwn.never rfl (vx rfl N_range (ja (qv 1) je)) (xz (i:=3) sc_zaz.nd rfl (Or.inl rfl)) (jg (jG (i:=2) sc_zaz.nd rfl (Or.inl rfl) (qe_slice hT (qv 2) (JS jp) (JS (jz (vp) (jm (yU hT) rfl N_len yC (ja (qv 2) je)) jp))))))
   (jg (jw (jz (o_div) (jz (xJ hT) (xf (vi hT) (qv 2) jp (fun _ _=>rfl)) (xf (vi hT) (qv 2) (jz (vp) (jm (yU hT) rfl N_len yC (ja (qv 2) je)) jp) (fun _ _=>rfl))) jp))))))
theorem ok_zbe (F:Fun K "_law_reads" "_law_reads" s_zbe f fd) :FnOk P w K mg base (CX1 P w) 1 f fd ["_law_house","_law_inside","_law_shown","_law_foes","_law_tales","_law_slips_here"] (spD (tb K C) Ys) :=
 have hT:(tb K C).K=K:=rfl
 uT (den_0 F XM fun cdv A outer s H E hr=>(jf (jG (i:=6) XM.nd rfl (Or.inl rfl) (JU je))
   (jf (uH 200 PassesOwn.never rfl (xo (qv 1)) (xz (i:=7) XM.nd rfl (Or.inl rfl)) (jf (jG (i:=8) XM.nd rfl (Or.inl rfl) (YT (jZ (o_ne hT hr.units) (qv 7) (qv 0) (jX _)) (JV (hu1 hr) (qv 5) (ja (qv 7) (ja (qv 0) je)) jp ⟨rfl,rfl,rfl,rfl⟩) jp))
   (jf (jG (i:=9) XM.nd rfl (Or.inl rfl) (YT (jZ (o_in hT (vO hr)) (qv 7) (qv 3) (by with_unfolding_all rfl)) (xf (vi hT) (qv 2) (qv 7) (fun _ _=>rfl)) (jz (xJ hT) (xf (vi hT) (qv 2) (qv 7) (fun _ _=>rfl)) (qv 8))))
   (jg (jQ (YS PySem.F.slot_list_append PySem.F.type_list_append uM (qv 6) (ja (YT (jZ (o_in hT (vO hr)) (qv 7) (qv 3) (by with_unfolding_all rfl)) (JV (hu1 hr) (qv 4) (ja (qv 7) (ja (qv 0) je)) (qv 9) ⟨rfl,rfl,rfl,rfl⟩) (qv 9)) je)))))))
   (jg (jw (qe_frz (qv 6)))))))
theorem ok_zbw (F:Fun K "is_pair" "is_pair" s_zbw f fd) (N_isinstance:mg "isinstance" = none) (N_len:mg "len" = none) (N_tuple:mg "tuple" = none):FnOk P w K mg base (CX1 P w) 1 f fd ["thing"] (spD (tb K C) Xg) :=
 have hT:(tb K C).K=K:=rfl
 jN F sc_zbw fun cdv A outer s H E hr=>(jg (jw (Jx (jm (Jr hT) rfl N_isinstance jM (ja (qv 0) (ja (q_ty rfl N_tuple bt_tuple) je))) (Jv (qe_cmp (o_eq hT hr.units) (jm (yU hT) rfl N_len yC (ja (qv 0) je)) jp (jX _))))))
theorem ok_zbx (F:Fun K "is_key" "is_key" s_zbx f fd) (Q_zbu:CalD P w K mg base (tb K C) "is_house" 3 ["thing","houses"] [] 2 0 [.p 0,.p 1] [] xN) (Q_zbw:CalD P w K mg base (tb K C) "is_pair" 1 ["thing"] [] 1 0 [.p 0] [] Xg):FnOk P w K mg base (CX1 P w) 4 f fd ["thing","liars","houses"] (spD (tb K C) D_zbx) :=
 have hT:(tb K C).K=K:=rfl
 jN F sc_zbx fun cdv A outer s H E hr=>(jf (yN (QW.qt (JQ (xb (xh hT (jj Q_zbw (hr.mono (by decide)) rfl jE (ja (qv 0) je) jh))) (JQ (xb (xh hT (jj Q_zbu (hr.mono (by decide)) rfl jE (ja (xf (vi hT) (qv 0) jp (fun _ _=>rfl)) (ja (qv 2) je)) jh))) (Ju (xb (xh hT (jj Q_zbu (hr.mono (by decide)) rfl jE (ja (xf (vi hT) (qv 0) jp (fun _ _=>rfl)) (ja (qv 2) je)) jh))))))) (jg (jw q_bl)) jK)
   (jg (jw (qe_cmp (o_in hT (vO hr)) (xf (vi hT) (qv 0) jp (fun _ _=>rfl)) (qv 1) (by with_unfolding_all rfl)))))
theorem ok_zbr (F:Fun K "is_number" "is_number" s_zbr f fd) {t_FARTHEST:Tok} (C_FARTHEST:mg "FARTHEST" = some (.int 1000000 t_FARTHEST)) (Q_zbm:CalD P w K mg base (tb K C) "is_within" 2 ["thing","least","most"] [] 3 0 [.p 0,.p 1,.p 2] [] um):FnOk P w K mg base (CX1 P w) 3 f fd ["thing"] (spD (tb K C) D_zbr) :=
 have hT:(tb K C).K=K:=rfl
 jN F sc_zbr fun cdv A outer s H E hr=>(jg (jw (jj Q_zbm (hr.mono (by decide)) rfl jE (ja (qv 0) (ja (qe_neg (xV rfl C_FARTHEST)) (ja (xV rfl C_FARTHEST) je))) jh)))
theorem ok_zbf (F:Fun K "check_lies" "check_lies" XS f fd) (X_BadLies:Exc K mg "BadLies" (C 2)) (Q_zbx:CalD P w K mg base (tb K C) "is_key" 4 ["thing","liars","houses"] [] 3 0 [.p 0,.p 1,.p 2] [] D_zbx) (Q_zbr:CalD P w K mg base (tb K C) "is_number" 3 ["thing"] [] 1 0 [.p 0] [] D_zbr) (N_all:mg "all" = none) (N_dict:mg "dict" = none) (N_isinstance:mg "isinstance" = none):FnOk P w K mg base (CX1 P w) 5 f fd ["lies","liars","houses"] (spD (tb K C) D_zbf) :=
 have hT:(tb K C).K=K:=rfl
 jN F sc_zbf fun cdv A outer s H E hr=>(jf (yN (xb (xh hT (jm (Jr hT) rfl N_isinstance jM (ja (qv 0) (ja (q_ty rfl N_dict bt_dict) je))))) (jg (yQ X_BadLies rfl (ja vY je))) jK)
   (jg (yN (xb (xh hT (jm (b_all rfl) rfl N_all YM (ja (xp (osc:=(jd XS)) (own:=["key","told"]) (fr:=["liars","houses"]) (js:=[1,2]) (bnd_2 (T:=tb K C)) rfl rfl (by exact ⟨rfl,by decide +kernel,by decide +kernel,by decide +kernel,by decide +kernel,by decide +kernel⟩) rfl (qi_items (qv 0)) (fun _ _ _=>(show PG _ _ (gTup K 2 (uR (vv 0) (uR (vv 1) gNil))) from (pg_tup rfl (xI (jO (i:=0) (show List.Nodup (["key","told","liars","houses"]:List Str) from by decide +kernel) rfl (Or.inl rfl)) (xI (jO (i:=1) (show List.Nodup (["key","told","liars","houses"]:List Str) from by decide +kernel) rfl (Or.inl rfl)) JX))))) (fun _ _ _=>xi) (fun _ _ _=>(Jx (jj Q_zbx (hr.mono (by decide)) rfl jA (ja (qv 0) (ja (qv 2) (ja (qv 3) je))) jh) (Jv (jj Q_zbr (hr.mono (by decide)) rfl jA (ja (qv 1) je) jh))))) je)))) (jg (yQ X_BadLies rfl (ja vY je))) jK)))
theorem ok_zbg (F:Fun K "is_off_key" "is_off_key" s_zbg f fd) (Q_zbu:CalD P w K mg base (tb K C) "is_house" 3 ["thing","houses"] [] 2 0 [.p 0,.p 1] [] xN) (Q_zbw:CalD P w K mg base (tb K C) "is_pair" 1 ["thing"] [] 1 0 [.p 0] [] Xg):FnOk P w K mg base (CX1 P w) 4 f fd ["thing","houses"] (spD (tb K C) D_zbg) :=
 have hT:(tb K C).K=K:=rfl
 jN F sc_zbg fun cdv A outer s H E hr=>(jf (yN (QW.qt (JQ (xb (xh hT (jj Q_zbw (hr.mono (by decide)) rfl jE (ja (qv 0) je) jh))) (JQ (xb (xh hT (jj Q_zbu (hr.mono (by decide)) rfl jE (ja (xf (vi hT) (qv 0) jp (fun _ _=>rfl)) (ja (qv 1) je)) jh))) (Ju (xb (xh hT (jj Q_zbu (hr.mono (by decide)) rfl jE (ja (xf (vi hT) (qv 0) jp (fun _ _=>rfl)) (ja (qv 1) je)) jh))))))) (jg (jw q_bl)) jK)
   (jg (jw (qe_cmp (o_ne hT hr.units) (xf (vi hT) (qv 0) jp (fun _ _=>rfl)) (xf (vi hT) (qv 0) jp (fun _ _=>rfl)) (jX _)))))
theorem ok_zbh (F:Fun K "check_offs" "check_offs" XR f fd) (X_BadLies:Exc K mg "BadLies" (C 2)) (Q_zbg:CalD P w K mg base (tb K C) "is_off_key" 4 ["thing","houses"] [] 2 0 [.p 0,.p 1] [] D_zbg) (Q_zbm:CalD P w K mg base (tb K C) "is_within" 2 ["thing","least","most"] [] 3 0 [.p 0,.p 1,.p 2] [] um) (N_all:mg "all" = none) (N_dict:mg "dict" = none) (N_isinstance:mg "isinstance" = none):FnOk P w K mg base (CX1 P w) 5 f fd ["offs","error","houses"] (spD (tb K C) D_zbh) :=
 have hT:(tb K C).K=K:=rfl
 jN F sc_zbh fun cdv A outer s H E hr=>(jf (yN (xb (xh hT (jm (Jr hT) rfl N_isinstance jM (ja (qv 0) (ja (q_ty rfl N_dict bt_dict) je))))) (jg (yQ X_BadLies rfl (ja vY je))) jK)
   (jg (yN (xb (xh hT (jm (b_all rfl) rfl N_all YM (ja (xp (osc:=(jd XR)) (own:=["key","off"]) (fr:=["houses","error"]) (js:=[2,1]) (bnd_2 (T:=tb K C)) rfl rfl (by exact ⟨rfl,by decide +kernel,by decide +kernel,by decide +kernel,by decide +kernel,by decide +kernel⟩) rfl (qi_items (qv 0)) (fun _ _ _=>(show PG _ _ (gTup K 2 (uR (vv 0) (uR (vv 1) gNil))) from (pg_tup rfl (xI (jO (i:=0) (show List.Nodup (["key","off","houses","error"]:List Str) from by decide +kernel) rfl (Or.inl rfl)) (xI (jO (i:=1) (show List.Nodup (["key","off","houses","error"]:List Str) from by decide +kernel) rfl (Or.inl rfl)) JX))))) (fun _ _ _=>xi) (fun _ _ _=>(Jx (jj Q_zbg (hr.mono (by decide)) rfl jA (ja (qv 0) (ja (qv 2) je)) jh) (Jv (jj Q_zbm (hr.mono (by decide)) rfl jA (ja (qv 1) (ja (qe_neg (qv 3)) (ja (qv 3) je))) jh))))) je)))) (jg (yQ X_BadLies rfl (ja vY je))) jK)))
theorem ok_zaa (F:Fun K "check_reading" "Company.check_reading" s_zaa f fd) {t_LAST_BEAT:Tok} (C_LAST_BEAT:mg "LAST_BEAT" = some (.int 100000 t_LAST_BEAT)) (nf_Company_clocks:jq K (C 11) "clocks") (nf_Company_error:jq K (C 11) "error") (nf_Company_last_beat:jq K (C 11) "last_beat") (nf_Company_liars:jq K (C 11) "liars") (Q_zbf:CalD P w K mg base (tb K C) "check_lies" 5 ["lies","liars","houses"] [] 3 0 [.p 0,.p 1,.p 2] [] D_zbf) (Q_zbh:CalD P w K mg base (tb K C) "check_offs" 5 ["offs","error","houses"] [] 3 0 [.p 0,.p 1,.p 2] [] D_zbh) (Q_zan:CalD P w K mg base (tb K C) "check_within" 3 ["thing","least","most"] [] 3 0 [.p 0,.p 1,.p 2] [] xQ) (N_len:mg "len" = none) (cl_Company:Cls K (C 11)):FnOk P w K mg base (CX1 P w) 6 f fd ["self","beat","lies","offs"] (spD (tb K C) D_zaa) :=
 have hT:(tb K C).K=K:=rfl
 jN F sc_zaa fun cdv A outer s H E hr=>(jf (jQ (jj Q_zan (hr.mono (by decide)) rfl jE (ja (qv 1) (ja (yc hT cl_Company nf_Company_last_beat (qv 0)) (ja (xV rfl C_LAST_BEAT) je))) jh))
   (jf (jQ (jj Q_zbf (hr.mono (by decide)) rfl jE (ja (qv 2) (ja (yc hT cl_Company nf_Company_liars (qv 0)) (ja (jm (yU hT) rfl N_len yC (ja (yc hT cl_Company nf_Company_clocks (qv 0)) je)) je))) jh))
   (jg (jQ (jj Q_zbh (hr.mono (by decide)) rfl jE (ja (qv 3) (ja (yc hT cl_Company nf_Company_error (qv 0)) (ja (jm (yU hT) rfl N_len yC (ja (yc hT cl_Company nf_Company_clocks (qv 0)) je)) je))) jh)))))
theorem ok_zas (F:Fun K "set_to" "Clock.set_to" s_zas f fd) (nf_Clock_turned:jq K (C 10) "turned") (Q_zaw:MetD P w K mg base (tb K C) 10 "shows" 6 ["self","beat"] [] 2 0 [.p 0,.p 1] [] xE) (cl_Clock:Cls K (C 10)):FnOk P w K mg base (CX1 P w) 7 f fd ["self","reading","beat"] (spD (tb K C) Js) :=
 have hT:(tb K C).K=K:=rfl
 jN F sc_zas fun cdv A outer s H E hr=>(jf (jG (i:=3) sc_zas.nd rfl (Or.inl rfl) (jz (vp) (qv 1) (yY Q_zaw (hr.mono (by decide)) jE (qv 0) (ja (qv 2) je) jh)))
   (jf (qs_flda hT cl_Clock nf_Clock_turned (qv 0) (qv 3) o_iadd)
   (jg (jw (qv 3)))))
theorem ok_zag (F:Fun K "read_of" "Company.read_of" s_zag f fd) (nf_Company_clocks:jq K (C 11) "clocks") (nf_Company_liars:jq K (C 11) "liars") (Q_zaw:MetD P w K mg base (tb K C) 10 "shows" 6 ["self","beat"] [] 2 0 [.p 0,.p 1] [] xE) (cl_Company:Cls K (C 11)):FnOk P w K mg base (CX1 P w) 7 f fd ["self","house","reader","beat","lies","offs"] (spD (tb K C) D_zag) :=
 have hT:(tb K C).K=K:=rfl
 jN F sc_zag fun cdv A outer s H E hr=>(jf (jG (i:=6) sc_zag.nd rfl (Or.inl rfl) (yY Q_zaw (hr.mono (by decide)) jE (xf (vi hT) (yc hT cl_Company nf_Company_clocks (qv 0)) (qv 1) (fun _ _=>rfl)) (ja (qv 3) je) jh))
   (jf (yN (jZ (o_in hT (vO hr)) (qv 1) (yc hT cl_Company nf_Company_liars (qv 0)) (by with_unfolding_all rfl)) (jg (jw (JV (hu1 hr) (qv 4) (ja (qv 1) (ja (qv 2) je)) (qv 6) ⟨rfl,rfl,rfl,rfl⟩))) jK)
   (jg (jw (jz (xJ hT) (qv 6) (JV (hu1 hr) (qv 5) (ja (qv 1) (ja (qv 2) je)) jp ⟨rfl,rfl,rfl,rfl⟩))))))
theorem ok_zbv (F:Fun K "half_way" "half_way" s_zbv f fd) :FnOk P w K mg base (CX1 P w) 1 f fd ["left"] (spD (tb K C) D_zbv) :=
 have hT:(tb K C).K=K:=rfl
 jN F sc_zbv fun cdv A outer s H E hr=>(jg (jw (jz (o_div) (jz (xJ hT) (xf (vi hT) (qv 0) jp (fun _ _=>rfl)) (xf (vi hT) (qv 0) (qe_neg jp) (fun _ _=>rfl))) jp)))
theorem ok_zat (F:Fun K "without_ends" "without_ends" s_zat f fd) (N_len:mg "len" = none) (N_sorted:mg "sorted" = none):FnOk P w K mg base (CX1 P w) 1 f fd ["worths","few"] (spD (tb K C) D_zat) :=
 have hT:(tb K C).K=K:=rfl
 jN F sc_zat fun cdv A outer s H E hr=>(jg (jw (qe_slice hT (jm (b_sorted) rfl N_sorted YL (ja (qv 0) je)) (JS (qv 1)) (JS (jz (vp) (jm (yU hT) rfl N_len yC (ja (qv 0) je)) (qv 1))))))
theorem ok_zab (F:Fun K "middle_read" "Company.middle_read" s_zab f fd) (nf_Company_few:jq K (C 11) "few") (Q_zbv:CalD P w K mg base (tb K C) "half_way" 1 ["left"] [] 1 0 [.p 0] [] D_zbv) (Q_zat:CalD P w K mg base (tb K C) "without_ends" 1 ["worths","few"] [] 2 0 [.p 0,.p 1] [] D_zat) (Q_zaf:MetD P w K mg base (tb K C) 11 "members" 1 ["self"] [] 1 0 [.p 0] [] xR) (Q_zag:MetD P w K mg base (tb K C) 11 "read_of" 7 ["self","house","reader","beat","lies","offs"] [] 6 0 [.p 0,.p 1,.p 2,.p 3,.p 4,.p 5] [] D_zag) (cl_Company:Cls K (C 11)):FnOk P w K mg base (CX1 P w) 8 f fd ["self","reader","beat","lies","offs"] (spD (tb K C) Xm) :=
 have hT:(tb K C).K=K:=rfl
 jN F sc_zab fun cdv A outer s H E hr=>(jf (JR (i:=5) (osc:=(jd s_zab)) (own:=["house"]) (fr:=["reader","beat","lies","offs","self"]) (js:=[1,2,3,4,0]) vR rfl rfl (by exact ⟨rfl,by decide +kernel,by decide +kernel,by decide +kernel,by decide +kernel,by decide +kernel⟩) rfl sc_zab.nd rfl rfl (xo (vc Q_zaf (hr.mono (by decide)) jE (qv 0) jh)) (fun _ _ _=>(jO (i:=0) (show List.Nodup (["house","reader","beat","lies","offs","self"]:List Str) from by decide +kernel) rfl (Or.inl rfl))) (fun _ _ _=>xi) (fun _ _ _=>(yY Q_zag (hr.mono (by decide)) jA (qv 5) (ja (qv 0) (ja (qv 1) (ja (qv 2) (ja (qv 3) (ja (qv 4) je))))) jh)) rfl)
   (jg (jw (jj Q_zbv (hr.mono (by decide)) rfl jE (ja (jj Q_zat (hr.mono (by decide)) rfl jE (ja (qv 5) (ja (yc hT cl_Company nf_Company_few (qv 0)) je)) jh) je) jh))))
theorem ok_zal (F:Fun K "enter" "Company.enter" s_zal f fd) (X_NotNow:Exc K mg "NotNow" (C 6)) (nf_Company_clocks:jq K (C 11) "clocks") (nf_Company_last_beat:jq K (C 11) "last_beat") (nf_Company_liars:jq K (C 11) "liars") (nf_Company_waits:jq K (C 11) "waits") (Q_zar:CalD P w K mg base (tb K C) "check_honest" 5 ["house","houses","liars"] [] 3 0 [.p 0,.p 1,.p 2] [] Yu) (Q_zas:MetD P w K mg base (tb K C) 10 "set_to" 7 ["self","reading","beat"] [] 3 0 [.p 0,.p 1,.p 2] [] Js) (Q_zaa:MetD P w K mg base (tb K C) 11 "check_reading" 6 ["self","beat","lies","offs"] [] 4 0 [.p 0,.p 1,.p 2,.p 3] [] D_zaa) (Q_zab:MetD P w K mg base (tb K C) 11 "middle_read" 8 ["self","reader","beat","lies","offs"] [] 5 0 [.p 0,.p 1,.p 2,.p 3,.p 4] [] Xm) (N_len:mg "len" = none) (cl_Company:Cls K (C 11)):FnOk P w K mg base (CX1 P w) 9 f fd ["self","house","beat","lies","offs"] (spD (tb K C) D_zal) :=
 have hT:(tb K C).K=K:=rfl
 jN F sc_zal fun cdv A outer s H E hr=>(jf (jQ (jj Q_zar (hr.mono (by decide)) rfl jE (ja (qv 1) (ja (jm (yU hT) rfl N_len yC (ja (yc hT cl_Company nf_Company_clocks (qv 0)) je)) (ja (yc hT cl_Company nf_Company_liars (qv 0)) je))) jh))
   (jf (yN (jZ (JY hT (vO hr)) (qv 1) (yc hT cl_Company nf_Company_waits (qv 0)) (by with_unfolding_all rfl)) (jg (yQ X_NotNow rfl (ja vY je))) jK)
   (jf (jG (i:=5) sc_zal.nd rfl (Or.inl rfl) (YT (jZ (o_is) (qv 4) q_non (jX _)) qe_dct (qv 4)))
   (jf (jQ (yY Q_zaa (hr.mono (by decide)) jE (qv 0) (ja (qv 2) (ja (qv 3) (ja (qv 5) je))) jh))
   (jf (jQ (yY Q_zas (hr.mono (by decide)) jE (xf (vi hT) (yc hT cl_Company nf_Company_clocks (qv 0)) (qv 1) (fun _ _=>rfl)) (ja (yY Q_zab (hr.mono (by decide)) jE (qv 0) (ja (qv 1) (ja (qv 2) (ja (qv 3) (ja (qv 5) je)))) jh) (ja (qv 2) je)) jh))
   (jf (jQ (YS PySem.F.slot_list_remove PySem.F.type_list_remove m_remove (yc hT cl_Company nf_Company_waits (qv 0)) (ja (qv 1) je)))
   (jg (xU hT cl_Company nf_Company_last_beat (qv 0) (qv 2)))))))))
theorem ok_zau (F:Fun K "meet" "Company.meet" YO f fd) (nf_Company_clocks:jq K (C 11) "clocks") (nf_Company_last_beat:jq K (C 11) "last_beat") (nf_Company_past:jq K (C 11) "past") (Q_zas:MetD P w K mg base (tb K C) 10 "set_to" 7 ["self","reading","beat"] [] 3 0 [.p 0,.p 1,.p 2] [] Js) (Q_zaa:MetD P w K mg base (tb K C) 11 "check_reading" 6 ["self","beat","lies","offs"] [] 4 0 [.p 0,.p 1,.p 2,.p 3] [] D_zaa) (Q_zaj:MetD P w K mg base (tb K C) 11 "honest" 2 ["self"] [] 1 0 [.p 0] [] vS) (Q_zab:MetD P w K mg base (tb K C) 11 "middle_read" 8 ["self","reader","beat","lies","offs"] [] 5 0 [.p 0,.p 1,.p 2,.p 3,.p 4] [] Xm) (N_list:mg "list" = none) (N_zip:mg "zip" = none) (cl_Company:Cls K (C 11)):FnOk P w K mg base (CX1 P w) 9 f fd ["self","beat","lies","offs"] (spD (tb K C) Xj) :=
 have hT:(tb K C).K=K:=rfl
 jN F XN fun cdv A outer s H E hr=>(jf (jG (i:=4) XN.nd rfl (Or.inr rfl) (YT (jZ (o_is) (qv 3) q_non (jX _)) qe_dct (qv 3)))
   (jf (jQ (yY Q_zaa (hr.mono (by decide)) jE (qv 0) (ja (qv 1) (ja (qv 2) (ja (qv 4) je))) jh))
   (jf (jG (i:=5) XN.nd rfl (Or.inl rfl) (vc Q_zaj (hr.mono (by decide)) jE (qv 0) jh))
   (jf (JR (i:=6) (osc:=(jd YO)) (own:=["house"]) (fr:=["beat","lies","errors","self"]) (js:=[1,2,4,0]) vR rfl rfl (by exact ⟨rfl,by decide +kernel,by decide +kernel,by decide +kernel,by decide +kernel,by decide +kernel⟩) rfl XN.nd rfl rfl (xo (qv 5)) (fun _ _ _=>(jO (i:=0) (show List.Nodup (["house","beat","lies","errors","self"]:List Str) from by decide +kernel) rfl (Or.inl rfl))) (fun _ _ _=>xi) (fun _ _ _=>(yY Q_zab (hr.mono (by decide)) jA (qv 4) (ja (qv 0) (ja (qv 1) (ja (qv 2) (ja (qv 3) je)))) jh)) rfl)
   (jf (JR (i:=7) (osc:=(jd YO)) (own:=["house","reading"]) (fr:=["beat","self"]) (js:=[1,0]) (bnd_2 (T:=tb K C)) rfl rfl (by exact ⟨rfl,by decide +kernel,by decide +kernel,by decide +kernel,by decide +kernel,by decide +kernel⟩) rfl XN.nd rfl rfl (qi_zip hT rfl N_zip (ja (qv 5) (ja (qv 6) je))) (fun _ _ _=>(show PG _ _ (gTup K 2 (uR (vv 0) (uR (vv 1) gNil))) from (pg_tup rfl (xI (jO (i:=0) (show List.Nodup (["house","reading","beat","self"]:List Str) from by decide +kernel) rfl (Or.inl rfl)) (xI (jO (i:=1) (show List.Nodup (["house","reading","beat","self"]:List Str) from by decide +kernel) rfl (Or.inl rfl)) JX))))) (fun _ _ _=>xi) (fun _ _ _=>(yY Q_zas (hr.mono (by decide)) jA (xf (vi hT) (yc hT cl_Company nf_Company_clocks (qv 3)) (qv 0) (fun _ _=>rfl)) (ja (qv 1) (ja (qv 2) je)) jh)) rfl)
   (jf (xU hT cl_Company nf_Company_last_beat (qv 0) (qv 1))
   (jf (jQ (YS PySem.F.slot_list_append PySem.F.type_list_append uM (yc hT cl_Company nf_Company_past (qv 0)) (ja (qe_tup (ja (qv 1) (ja (Jd (b_list hT) rfl N_list vC (ja (qv 7) je)) je))) je)))
   (jg (jw (qv 7))))))))))
theorem ok_zam (F:Fun K "leave" "Company.leave" s_zam f fd) (X_NotNow:Exc K mg "NotNow" (C 6)) (nf_Company_clocks:jq K (C 11) "clocks") (nf_Company_few:jq K (C 11) "few") (nf_Company_liars:jq K (C 11) "liars") (nf_Company_waits:jq K (C 11) "waits") (Q_zar:CalD P w K mg base (tb K C) "check_honest" 5 ["house","houses","liars"] [] 3 0 [.p 0,.p 1,.p 2] [] Yu) (Q_zaf:MetD P w K mg base (tb K C) 11 "members" 1 ["self"] [] 1 0 [.p 0] [] xR) (N_len:mg "len" = none) (cl_Company:Cls K (C 11)):FnOk P w K mg base (CX1 P w) 6 f fd ["self","house"] (spD (tb K C) D_zam) :=
 have hT:(tb K C).K=K:=rfl
 jN F sc_zam fun cdv A outer s H E hr=>(jf (jQ (jj Q_zar (hr.mono (by decide)) rfl jE (ja (qv 1) (ja (jm (yU hT) rfl N_len yC (ja (yc hT cl_Company nf_Company_clocks (qv 0)) je)) (ja (yc hT cl_Company nf_Company_liars (qv 0)) je))) jh))
   (jf (yN (jZ (o_in hT (vO hr)) (qv 1) (yc hT cl_Company nf_Company_waits (qv 0)) (by with_unfolding_all rfl)) (jg (yQ X_NotNow rfl (ja vY je))) jK)
   (jf (yN (jZ (o_le) (jz (vp) (jm (yU hT) rfl N_len yC (ja (vc Q_zaf (hr.mono (by decide)) jE (qv 0) jh) je)) jp) (jz (YU) jp (yc hT cl_Company nf_Company_few (qv 0))) (jX _)) (jg (yQ X_NotNow rfl (ja vY je))) jK)
   (jg (jQ (YS PySem.F.slot_list_append PySem.F.type_list_append uM (yc hT cl_Company nf_Company_waits (qv 0)) (ja (qv 1) je)))))))
theorem ok_zbs (F:Fun K "_law_left" "_law_left" XO f fd) (Q_zbl:CalD P w K mg base (tb K C) "_law_pick" 2 ["_law_town_here","_law_some"] [] 2 0 [.p 0,.p 1] [] xO) (Q_zam:MetD P w K mg base (tb K C) 11 "leave" 6 ["self","house"] [] 2 0 [.p 0,.p 1] [] D_zam) (N_len:mg "len" = none):FnOk P w K mg base (CX1 P w) 7 f fd ["_law_town_here","_law_company_here","_law_inside","_law_foes","_law_waits","_law_some"] (spD (tb K C) Xh) :=
 have hT:(tb K C).K=K:=rfl
 jN F sc_zbs fun cdv A outer s H E hr=>(jf (jG (i:=6) sc_zbs.nd rfl (Or.inl rfl) (jj Q_zbl (hr.mono (by decide)) rfl jE (ja (qv 0) (ja (xp (osc:=(jd XO)) (own:=["_law_one"]) (fr:=["_law_foes"]) (js:=[3]) vR rfl rfl (by exact ⟨rfl,by decide +kernel,by decide +kernel,by decide +kernel,by decide +kernel,by decide +kernel⟩) rfl (xo (qv 2)) (fun _ _ _=>(jO (i:=0) (show List.Nodup (["_law_one","_law_foes"]:List Str) from by decide +kernel) rfl (Or.inl rfl))) (fun _ _ _=>(Xy (jZ (JY hT (vO hr)) (qv 0) (qv 1) (by with_unfolding_all rfl)))) (fun _ _ _=>(qv 0))) je)) jh))
   (jg (yN (jZ (o_gt) (jz (vp) (jm (yU hT) rfl N_len yC (ja (qv 2) je)) jp) (jz (YU) jp (qv 5)) (jX _)) (jf (jQ (yY Q_zam (hr.mono (by decide)) jE (qv 1) (ja (qv 6) je) jh))
   (jf (jQ (YS PySem.F.slot_list_remove PySem.F.type_list_remove m_remove (qv 2) (ja (qv 6) je)))
   (jg (jQ (YS PySem.F.slot_list_append PySem.F.type_list_append uM (qv 4) (ja (qv 6) je)))))) jK)))
theorem ok_zbi (F:Fun K "_law_whole" "_law_whole" s_zbi f fd) (N_bool:mg "bool" = none) (N_int:mg "int" = none) (N_isinstance:mg "isinstance" = none):FnOk P w K mg base (CX1 P w) 1 f fd ["_law_thing"] (spD (tb K C) D_zbi) :=
 have hT:(tb K C).K=K:=rfl
 jN F sc_zbi fun cdv A outer s H E hr=>(jg (jw (Jx (jm (Jr hT) rfl N_isinstance jM (ja (qv 0) (ja (q_ty rfl N_int bt_int) je))) (Jv (qe_not (jm (Jr hT) rfl N_isinstance jM (ja (qv 0) (ja (q_ty rfl N_bool bt_bool) je))))))))
theorem ok_zah (F:Fun K "_law_whole_list" "_law_whole_list" XW f fd) (Q_zbi:CalD P w K mg base (tb K C) "_law_whole" 1 ["_law_thing"] [] 1 0 [.p 0] [] D_zbi) (N_all:mg "all" = none) (N_isinstance:mg "isinstance" = none) (N_list:mg "list" = none):FnOk P w K mg base (CX1 P w) 2 f fd ["_law_thing"] (spD (tb K C) D_zah) :=
 have hT:(tb K C).K=K:=rfl
 jN F sc_zah fun cdv A outer s H E hr=>(jg (jw (Jx (jm (Jr hT) rfl N_isinstance jM (ja (qv 0) (ja (q_ty rfl N_list vC) je))) (Jv (jm (b_all rfl) rfl N_all YM (ja (xp (osc:=(jd XW)) (own:=["_law_one"]) (fr:=[]) (js:=[]) vR rfl rfl (by exact ⟨rfl,by decide +kernel,by decide +kernel,by decide +kernel,by decide +kernel,by decide +kernel⟩) rfl (xo (qv 0)) (fun _ _ _=>(jO (i:=0) (show List.Nodup (["_law_one"]:List Str) from by decide +kernel) rfl (Or.inl rfl))) (fun _ _ _=>xi) (fun _ _ _=>(jj Q_zbi (hr.mono (by decide)) rfl jA (ja (qv 0) je) jh))) je))))))
theorem ok_law (F:Fun K "law" "law" uF f fd) (Q_zaq:CalD P w K mg base (tb K C) "_law_company" 10 ["_law_town_here","_law_some","_law_crew","_law_wrong","_law_wait"] [] 5 0 [.p 0,.p 1,.p 2,.p 3,.p 4] [] D_zaq) (Q_zbk:CalD P w K mg base (tb K C) "_law_draw" 1 ["_law_town_here","_law_many"] [] 2 0 [.p 0,.p 1] [] yu) (Q_zbs:CalD P w K mg base (tb K C) "_law_left" 7 ["_law_town_here","_law_company_here","_law_inside","_law_foes","_law_waits","_law_some"] [] 6 0 [.p 0,.p 1,.p 2,.p 3,.p 4,.p 5] [] Xh) (Q_zbq:CalD P w K mg base (tb K C) "_law_lies" 4 ["_law_town_here","_law_crew","_law_foes","_law_worths"] [] 4 0 [.p 0,.p 1,.p 2,.p 3] [] D_zbq) (Q_zaz:CalD P w K mg base (tb K C) "_law_middle" 1 ["_law_worths","_law_some"] [] 2 0 [.p 0,.p 1] [] Yt) (Q_zbl:CalD P w K mg base (tb K C) "_law_pick" 2 ["_law_town_here","_law_some"] [] 2 0 [.p 0,.p 1] [] xO) (Q_zbe:CalD P w K mg base (tb K C) "_law_reads" 1 ["_law_house","_law_inside","_law_shown","_law_foes","_law_tales","_law_slips_here"] [] 6 0 [.p 0,.p 1,.p 2,.p 3,.p 4,.p 5] [] Ys) (Q_zbd:CalD P w K mg base (tb K C) "_law_slips" 3 ["_law_town_here","_law_size","_law_wrong"] [] 3 0 [.p 0,.p 1,.p 2] [] D_zbd) (Q_zbj:CalD P w K mg base (tb K C) "_law_town" 1 ["_law_script"] [] 1 0 [.p 0] [] D_zbj) (Q_zah:CalD P w K mg base (tb K C) "_law_whole_list" 2 ["_law_thing"] [] 1 0 [.p 0] [] D_zah) (Q_zaw:MetD P w K mg base (tb K C) 10 "shows" 6 ["self","beat"] [] 2 0 [.p 0,.p 1] [] xE) (Q_zal_4_offs:MetD P w K mg base (tb K C) 11 "enter" 9 ["self","house","beat","lies","offs"] ["offs"] 4 1 [.p 0,.p 1,.p 2,.p 3,.k 0] [] D_zal) (Q_zaj:MetD P w K mg base (tb K C) 11 "honest" 2 ["self"] [] 1 0 [.p 0] [] vS) (Q_zau_3_offs:MetD P w K mg base (tb K C) 11 "meet" 9 ["self","beat","lies","offs"] ["offs"] 3 1 [.p 0,.p 1,.p 2,.k 0] [] Xj) (Q_zaf:MetD P w K mg base (tb K C) 11 "members" 1 ["self"] [] 1 0 [.p 0] [] xR) (Q_zae:MetD P w K mg base (tb K C) 11 "readings" 7 ["self","beat"] [] 2 0 [.p 0,.p 1] [] Xl) (Q_zak:MetD P w K mg base (tb K C) 11 "shows" 7 ["self","house","beat"] [] 3 0 [.p 0,.p 1,.p 2] [] uA) (N_len:mg "len" = none) (N_list:mg "list" = none) (N_max:mg "max" = none) (N_min:mg "min" = none) (N_range:mg "range" = none) (N_sorted:mg "sorted" = none):FnOk P w K mg base CX0 11 f fd ["_law_script"] (spOk (tb K C) (yz 1 18 d_law)) :=
 have hT:(tb K C).K=K:=rfl
 den_0 F yX fun cdv A outer s H E hr=>(jf (jG (i:=1) yX.nd rfl (Or.inl rfl) (jj Q_zbj (hr.mono (by decide)) rfl jA (ja (qv 0) je) jh))
   (jf (jG (i:=2) yX.nd rfl (Or.inl rfl) (jj Q_zbk (hr.mono (by decide)) rfl jA (ja (qv 1) (ja jp je)) jh))
   (jf (jG (i:=3) yX.nd rfl (Or.inl rfl) (jz (xJ hT) (jz (xJ hT) (jz (YU) jp (qv 2)) jp) (jj Q_zbk (hr.mono (by decide)) rfl jA (ja (qv 1) (ja jp je)) jh)))
   (jf (jG (i:=4) yX.nd rfl (Or.inl rfl) (jj Q_zbl (hr.mono (by decide)) rfl jA (ja (qv 1) (ja (Jw (ja jp (ja jp (ja jp je)))) je)) jh))
   (jf (qs_asg (jj Q_zaq (hr.mono (by decide)) rfl jA (ja (qv 1) (ja (qv 2) (ja (qv 3) (ja (qv 4) (ja (jz (xJ hT) jp (jj Q_zbk (hr.mono (by decide)) rfl jA (ja (qv 1) (ja jp je)) jh)) je))))) jh) (qg_tup hT rfl (JT (xz (i:=5) yX.nd rfl (Or.inr rfl)) (JT (xz (i:=6) yX.nd rfl (Or.inr rfl)) (JT (xz (i:=7) yX.nd rfl (Or.inr rfl)) (JT (xz (i:=8) yX.nd rfl (Or.inl rfl)) qgs_nil))))))
   (jf (jG (i:=9) yX.nd rfl (Or.inl rfl) (qe_lrngN rfl rfl N_list vC rfl N_range (ja (qv 3) je)))
   (jf (jG (i:=10) yX.nd rfl (Or.inr rfl) jp)
   (jf (uH 200 PassesOwn.never rfl (vx rfl N_range (ja jp je)) (xz (i:=11) yX.nd rfl (Or.inl rfl)) (jf (jG (i:=10) yX.nd rfl (Or.inr rfl) (jz (xJ hT) (qv 10) (jj Q_zbk (hr.mono (by decide)) rfl jA (ja (qv 1) (ja jp je)) jh)))
   (jf (jG (i:=12) yX.nd rfl (Or.inl rfl) (yY Q_zae (hr.mono (by decide)) jA (qv 5) (ja (qv 10) je) jh))
   (jf (jG (i:=13) yX.nd rfl (Or.inl rfl) (jj Q_zbq (hr.mono (by decide)) rfl jA (ja (qv 1) (ja (jm (yU hT) rfl N_len yC (ja (qv 6) je)) (ja (qv 7) (ja (qv 12) je)))) jh))
   (jf (jG (i:=14) yX.nd rfl (Or.inl rfl) (jj Q_zbd (hr.mono (by decide)) rfl jA (ja (qv 1) (ja (jm (yU hT) rfl N_len yC (ja (qv 6) je)) (ja (qv 4) je))) jh))
   (jf (yN (QW.qt (qw_and (jZ (o_ne hT hr.units) (qv 8) (Jw je) (jX _)) (qw_and1 (jZ (o_eq hT hr.units) (jj Q_zbk (hr.mono (by decide)) rfl jA (ja (qv 1) (ja jp je)) jh) jp (jX _))))) (jf (jG (i:=15) yX.nd rfl (Or.inl rfl) (YS PySem.F.slot_list_pop PySem.F.type_list_pop m_popAt (qv 8) (ja (jj Q_zbk (hr.mono (by decide)) rfl jA (ja (qv 1) (ja (jm (yU hT) rfl N_len yC (ja (qv 8) je)) je)) jh) je)))
   (jf (JR (i:=16) (osc:=(jd uF)) (own:=["_law_k"]) (fr:=["_law_foes","_law_beat","_law_company_here","_law_clocks"]) (js:=[7,10,5,6]) vR rfl rfl (by exact ⟨rfl,by decide +kernel,by decide +kernel,by decide +kernel,by decide +kernel,by decide +kernel⟩) rfl yX.nd rfl rfl (vx rfl N_range (ja (jm (yU hT) rfl N_len yC (ja (qv 6) je)) je)) (fun _ _ _=>(jO (i:=0) (show List.Nodup (["_law_k","_law_foes","_law_beat","_law_company_here","_law_clocks"]:List Str) from by decide +kernel) rfl (Or.inl rfl))) (fun _ _ _=>xi) (fun _ _ _=>(YT (jZ (o_in hT (vO hr)) (qv 0) (qv 1) (by with_unfolding_all rfl)) (yY Q_zaw (hr.mono (by decide)) jA (xf (vi hT) (qv 4) (qv 0) (fun _ _=>rfl)) (ja (qv 2) je) jh) (yY Q_zak (hr.mono (by decide)) jA (qv 3) (ja (qv 0) (ja (qv 2) je)) jh))) rfl)
   (jf (jG (i:=17) yX.nd rfl (Or.inl rfl) (jj Q_zaz (hr.mono (by decide)) rfl jA (ja (jj Q_zbe (hr.mono (by decide)) rfl jA (ja (qv 15) (ja (qv 9) (ja (qv 16) (ja (qv 7) (ja (qv 13) (ja (qv 14) je)))))) jh) (ja (qv 2) je)) jh))
   (jf (yN (QW.qt (JQ (jZ (o_notN) (yY Q_zal_4_offs (hr.mono (by decide)) jA (qv 5) (ja (qv 15) (ja (qv 10) (ja (qv 13) je))) (xZ (qv 14) jh)) q_non (jX _)) (Ju (jZ (o_ne hT hr.units) (yY Q_zak (hr.mono (by decide)) jA (qv 5) (ja (qv 15) (ja (qv 10) je)) jh) (qv 17) (jX _))))) (jg (jw q_bl)) jK)
   (jf (yN (xb (qt_chain (o_le) (o_le) (jz (vp) (jm (b_min rfl) rfl N_min bt_min (ja (qv 12) je)) (qv 4)) (qv 17) (jz (xJ hT) (jm (b_max rfl) rfl N_max bt_max (ja (qv 12) je)) (qv 4)))) (jg (jw q_bl)) jK)
   (jg (jG (i:=9) yX.nd rfl (Or.inl rfl) (jm (b_sortedN) rfl N_sorted YL (ja (jz (xJ hT) (qv 9) (Jw (ja (qv 15) je))) je))))))))) (jg (yN (jZ (o_eq hT hr.units) (jj Q_zbk (hr.mono (by decide)) rfl jA (ja (qv 1) (ja jp je)) jh) jp (jX _)) (jg (jQ (yY Q_zau_3_offs (hr.mono (by decide)) jA (qv 5) (ja (qv 10) (ja (qv 13) je)) (xZ (qv 14) jh)))) (jg (jQ (jj Q_zbs (hr.mono (by decide)) rfl jA (ja (qv 1) (ja (qv 5) (ja (qv 9) (ja (qv 7) (ja (qv 8) (ja (qv 2) je)))))) jh))))))
   (jf (yN (QW.qt (JQ (jZ (o_ne hT hr.units) (vc Q_zaf (hr.mono (by decide)) jA (qv 5) jh) (qv 9) (jX _)) (Ju (jZ (o_ne hT hr.units) (vc Q_zaj (hr.mono (by decide)) jA (qv 5) jh) (xp (osc:=(jd uF)) (own:=["_law_one"]) (fr:=["_law_foes"]) (js:=[7]) vR rfl rfl (by exact ⟨rfl,by decide +kernel,by decide +kernel,by decide +kernel,by decide +kernel,by decide +kernel⟩) rfl (xo (qv 9)) (fun _ _ _=>(jO (i:=0) (show List.Nodup (["_law_one","_law_foes"]:List Str) from by decide +kernel) rfl (Or.inl rfl))) (fun _ _ _=>(Xy (jZ (JY hT (vO hr)) (qv 0) (qv 1) (by with_unfolding_all rfl)))) (fun _ _ _=>(qv 0))) (jX _))))) (jg (jw q_bl)) jK)
   (jg (yN (jZ (o_ne hT hr.units) (jm (yU hT) rfl N_len yC (ja (yY Q_zae (hr.mono (by decide)) jA (qv 5) (ja (qv 10) je) jh) je)) (jm (yU hT) rfl N_len yC (ja (vc Q_zaj (hr.mono (by decide)) jA (qv 5) jh) je)) (jX _)) (jg (jw q_bl)) jK)))))))))
   (jg (jw (jj Q_zah (hr.mono (by decide)) rfl jA (ja (vc Q_zaf (hr.mono (by decide)) jA (qv 5) jh) je) jh)))))))))))
end
theorem ln0 {α:Type}:∀ {us:List α},us.length=0->us=[]
 | [],_=>rfl
theorem ln1 {α:Type} {us:List α} (h:us.length=1):∃ u0,us=[u0]:=by
 cases us with
 | nil=>cases h
 | cons x0 us=>exact ⟨x0,by rw [ln0 (Nat.succ.inj h)]⟩
theorem ln2 {α:Type} {us:List α} (h:us.length=2):∃ u0 u1,us=[u0,u1]:=by
 cases us with
 | nil=>cases h
 | cons x0 us=>obtain ⟨v0,e⟩:=ln1 (Nat.succ.inj h); exact ⟨x0,v0,by rw [e]⟩
theorem ln3 {α:Type} {us:List α} (h:us.length=3):∃ u0 u1 u2,us=[u0,u1,u2]:=by
 cases us with
 | nil=>cases h
 | cons x0 us=>obtain ⟨v0,v1,e⟩:=ln2 (Nat.succ.inj h); exact ⟨x0,v0,v1,by rw [e]⟩
theorem ln4 {α:Type} {us:List α} (h:us.length=4):∃ u0 u1 u2 u3,us=[u0,u1,u2,u3]:=by
 cases us with
 | nil=>cases h
 | cons x0 us=>obtain ⟨v0,v1,v2,e⟩:=ln3 (Nat.succ.inj h); exact ⟨x0,v0,v1,v2,by rw [e]⟩
theorem ln5 {α:Type} {us:List α} (h:us.length=5):∃ u0 u1 u2 u3 u4,us=[u0,u1,u2,u3,u4]:=by
 cases us with
 | nil=>cases h
 | cons x0 us=>obtain ⟨v0,v1,v2,v3,e⟩:=ln4 (Nat.succ.inj h); exact ⟨x0,v0,v1,v2,v3,by rw [e]⟩
theorem ln6 {α:Type} {us:List α} (h:us.length=6):∃ u0 u1 u2 u3 u4 u5,us=[u0,u1,u2,u3,u4,u5]:=by
 cases us with
 | nil=>cases h
 | cons x0 us=>obtain ⟨v0,v1,v2,v3,v4,e⟩:=ln5 (Nat.succ.inj h); exact ⟨x0,v0,v1,v2,v3,v4,by rw [e]⟩
def S0:Sto:=⟨0,fun _=>none⟩
def sp_law (K:PySem.W.Frag):Sp:=fun vs H Q _=>∃ (a:Addr) (ns:List Int),vs=[.ref a]∧SqL K H a (ns.map V.int)∧ns.length<=63∧∀ H',Q (.bl true) H'
theorem law_sp {P:Program} {w:World} {K:PySem.W.Frag} {mg:Str->Option Value} {base:Heap} {C:Nat->Addr} {f:Addr} {fd:FuncData} (h:FnOk P w K mg base CX0 11 f fd ["_law_script"] (spOk (tb K C) (yz 1 18 d_law))):FnOk P w K mg base CX0 11 f fd ["_law_script"] (sp_law K):=h.imp fun vs H Q E ⟨a,ns,e,hq,hl,q⟩=>by
 subst e;obtain ⟨M',e⟩:=law_true ns hl;exact ⟨⟨tb K C,H,fun _=>none,fun _=>none⟩,[.scr ns],S0,.bl true,M',rfl,⟨fun _ _ e=>e,(fun _ _ e=>nomatch e),(fun _ _ _ _ _ e=>nomatch e),fun _ _=>rfl,(fun _ _ e=>nomatch e),(fun _ _ e=>nomatch e)⟩,⟨.ref a,[],rfl,⟨a,rfl,hq,hl⟩,rfl⟩,e,fun W' H' u _ _ r=>by cases r; exact q H'⟩
theorem all_mk {l:PySem.W.OpenLaw} {w:World} {K:PySem.W.Frag} {h:Heap} {mg:Str->Option Value} {fa:Addr} (X:K.In h) (G:h.Ns mainGlobals mg) (hfa:mg "law" = some (.ref fa))
  {c_Clock:Addr}
  {c_Company:Addr}
  {f_zbj:Addr} {od_zbj an_zbj:Option Addr} {sl_zbj:Array (Option Value)} {oc_zbj kV_zbj dc_zbj pm_zbj cd_zbj ct_zbj:Value}
  {f_zbk:Addr} {od_zbk an_zbk:Option Addr} {sl_zbk:Array (Option Value)} {oc_zbk kV_zbk dc_zbk pm_zbk cd_zbk ct_zbk:Value}
  {f_zbl:Addr} {od_zbl an_zbl:Option Addr} {sl_zbl:Array (Option Value)} {oc_zbl kV_zbl dc_zbl pm_zbl cd_zbl ct_zbl:Value}
  {f_zbt:Addr} {od_zbt an_zbt:Option Addr} {sl_zbt:Array (Option Value)} {oc_zbt kV_zbt dc_zbt pm_zbt cd_zbt ct_zbt:Value}
  {f_zbm:Addr} {od_zbm an_zbm:Option Addr} {sl_zbm:Array (Option Value)} {oc_zbm kV_zbm dc_zbm pm_zbm cd_zbm ct_zbm:Value}
  {f_zan:Addr} {od_zan an_zan:Option Addr} {sl_zan:Array (Option Value)} {oc_zan kV_zan dc_zan pm_zan cd_zan ct_zan:Value}
  {f_zao:Addr} {od_zao an_zao:Option Addr} {sl_zao:Array (Option Value)} {oc_zao kV_zao dc_zao pm_zao cd_zao ct_zao:Value}
  {f_zai:Addr} {od_zai an_zai:Option Addr} {sl_zai:Array (Option Value)} {oc_zai  dc_zai pm_zai cd_zai ct_zai:Value}
  {kd_zai:Addr}
  {tt_zai_first:Tok}
  {tt_zai_rate:Tok}
  {f_zba:Addr} {od_zba an_zba:Option Addr} {sl_zba:Array (Option Value)} {oc_zba kV_zba dc_zba pm_zba cd_zba ct_zba:Value}
  {f_zap:Addr} {od_zap an_zap:Option Addr} {sl_zap:Array (Option Value)} {oc_zap kV_zap dc_zap pm_zap cd_zap ct_zap:Value}
  {f_zbn:Addr} {od_zbn an_zbn:Option Addr} {sl_zbn:Array (Option Value)} {oc_zbn kV_zbn dc_zbn pm_zbn cd_zbn ct_zbn:Value}
  {f_zav:Addr} {od_zav an_zav:Option Addr} {sl_zav:Array (Option Value)} {oc_zav kV_zav dc_zav pm_zav cd_zav ct_zav:Value}
  {f_zbu:Addr} {od_zbu an_zbu:Option Addr} {sl_zbu:Array (Option Value)} {oc_zbu kV_zbu dc_zbu pm_zbu cd_zbu ct_zbu:Value}
  {f_zbo:Addr} {od_zbo an_zbo:Option Addr} {sl_zbo:Array (Option Value)} {oc_zbo kV_zbo dc_zbo pm_zbo cd_zbo ct_zbo:Value}
  {f_zac:Addr} {od_zac an_zac:Option Addr} {sl_zac:Array (Option Value)} {oc_zac kV_zac dc_zac pm_zac cd_zac ct_zac:Value}
  {f_zbb:Addr} {od_zbb an_zbb:Option Addr} {sl_zbb:Array (Option Value)} {oc_zbb kV_zbb dc_zbb pm_zbb cd_zbb ct_zbb:Value}
  {f_zad:Addr} {od_zad an_zad:Option Addr} {sl_zad:Array (Option Value)} {oc_zad  dc_zad pm_zad cd_zad ct_zad:Value}
  {kd_zad:Addr}
  {tt_zad_error:Tok}
  {tu_zad_liars:Addr} {tq_zad_liars:Option Addr} {tn_zad_liars:Nat} {ts_zad_liars:Array (Option Value)}
  {tu_zad_waiting:Addr} {tq_zad_waiting:Option Addr} {tn_zad_waiting:Nat} {ts_zad_waiting:Array (Option Value)}
  {f_zaq:Addr} {od_zaq an_zaq:Option Addr} {sl_zaq:Array (Option Value)} {oc_zaq kV_zaq dc_zaq pm_zaq cd_zaq ct_zaq:Value}
  {f_zbc:Addr} {od_zbc an_zbc:Option Addr} {sl_zbc:Array (Option Value)} {oc_zbc kV_zbc dc_zbc pm_zbc cd_zbc ct_zbc:Value}
  {f_zbp:Addr} {od_zbp an_zbp:Option Addr} {sl_zbp:Array (Option Value)} {oc_zbp kV_zbp dc_zbp pm_zbp cd_zbp ct_zbp:Value}
  {f_zaw:Addr} {od_zaw an_zaw:Option Addr} {sl_zaw:Array (Option Value)} {oc_zaw kV_zaw dc_zaw pm_zaw cd_zaw ct_zaw:Value}
  {f_zaf:Addr} {od_zaf an_zaf:Option Addr} {sl_zaf:Array (Option Value)} {oc_zaf kV_zaf dc_zaf pm_zaf cd_zaf ct_zaf:Value}
  {f_zaj:Addr} {od_zaj an_zaj:Option Addr} {sl_zaj:Array (Option Value)} {oc_zaj kV_zaj dc_zaj pm_zaj cd_zaj ct_zaj:Value}
  {f_zae:Addr} {od_zae an_zae:Option Addr} {sl_zae:Array (Option Value)} {oc_zae kV_zae dc_zae pm_zae cd_zae ct_zae:Value}
  {f_zax:Addr} {od_zax an_zax:Option Addr} {sl_zax:Array (Option Value)} {oc_zax kV_zax dc_zax pm_zax cd_zax ct_zax:Value}
  {f_zbq:Addr} {od_zbq an_zbq:Option Addr} {sl_zbq:Array (Option Value)} {oc_zbq kV_zbq dc_zbq pm_zbq cd_zbq ct_zbq:Value}
  {f_zbd:Addr} {od_zbd an_zbd:Option Addr} {sl_zbd:Array (Option Value)} {oc_zbd kV_zbd dc_zbd pm_zbd cd_zbd ct_zbd:Value}
  {f_zay:Addr} {od_zay an_zay:Option Addr} {sl_zay:Array (Option Value)} {oc_zay kV_zay dc_zay pm_zay cd_zay ct_zay:Value}
  {f_zar:Addr} {od_zar an_zar:Option Addr} {sl_zar:Array (Option Value)} {oc_zar kV_zar dc_zar pm_zar cd_zar ct_zar:Value}
  {f_zak:Addr} {od_zak an_zak:Option Addr} {sl_zak:Array (Option Value)} {oc_zak kV_zak dc_zak pm_zak cd_zak ct_zak:Value}
  {f_zaz:Addr} {od_zaz an_zaz:Option Addr} {sl_zaz:Array (Option Value)} {oc_zaz kV_zaz dc_zaz pm_zaz cd_zaz ct_zaz:Value}
  {f_zbe:Addr} {od_zbe an_zbe:Option Addr} {sl_zbe:Array (Option Value)} {oc_zbe kV_zbe dc_zbe pm_zbe cd_zbe ct_zbe:Value}
  {f_zbw:Addr} {od_zbw an_zbw:Option Addr} {sl_zbw:Array (Option Value)} {oc_zbw kV_zbw dc_zbw pm_zbw cd_zbw ct_zbw:Value}
  {f_zbx:Addr} {od_zbx an_zbx:Option Addr} {sl_zbx:Array (Option Value)} {oc_zbx kV_zbx dc_zbx pm_zbx cd_zbx ct_zbx:Value}
  {f_zbr:Addr} {od_zbr an_zbr:Option Addr} {sl_zbr:Array (Option Value)} {oc_zbr kV_zbr dc_zbr pm_zbr cd_zbr ct_zbr:Value}
  {f_zbf:Addr} {od_zbf an_zbf:Option Addr} {sl_zbf:Array (Option Value)} {oc_zbf kV_zbf dc_zbf pm_zbf cd_zbf ct_zbf:Value}
  {f_zbg:Addr} {od_zbg an_zbg:Option Addr} {sl_zbg:Array (Option Value)} {oc_zbg kV_zbg dc_zbg pm_zbg cd_zbg ct_zbg:Value}
  {f_zbh:Addr} {od_zbh an_zbh:Option Addr} {sl_zbh:Array (Option Value)} {oc_zbh kV_zbh dc_zbh pm_zbh cd_zbh ct_zbh:Value}
  {f_zaa:Addr} {od_zaa an_zaa:Option Addr} {sl_zaa:Array (Option Value)} {oc_zaa kV_zaa dc_zaa pm_zaa cd_zaa ct_zaa:Value}
  {f_zas:Addr} {od_zas an_zas:Option Addr} {sl_zas:Array (Option Value)} {oc_zas kV_zas dc_zas pm_zas cd_zas ct_zas:Value}
  {f_zag:Addr} {od_zag an_zag:Option Addr} {sl_zag:Array (Option Value)} {oc_zag kV_zag dc_zag pm_zag cd_zag ct_zag:Value}
  {f_zbv:Addr} {od_zbv an_zbv:Option Addr} {sl_zbv:Array (Option Value)} {oc_zbv kV_zbv dc_zbv pm_zbv cd_zbv ct_zbv:Value}
  {f_zat:Addr} {od_zat an_zat:Option Addr} {sl_zat:Array (Option Value)} {oc_zat kV_zat dc_zat pm_zat cd_zat ct_zat:Value}
  {f_zab:Addr} {od_zab an_zab:Option Addr} {sl_zab:Array (Option Value)} {oc_zab kV_zab dc_zab pm_zab cd_zab ct_zab:Value}
  {f_zal:Addr} {od_zal an_zal:Option Addr} {sl_zal:Array (Option Value)} {oc_zal  dc_zal pm_zal cd_zal ct_zal:Value}
  {kd_zal:Addr}
  
  {f_zau:Addr} {od_zau an_zau:Option Addr} {sl_zau:Array (Option Value)} {oc_zau  dc_zau pm_zau cd_zau ct_zau:Value}
  {kd_zau:Addr}
  
  {f_zam:Addr} {od_zam an_zam:Option Addr} {sl_zam:Array (Option Value)} {oc_zam kV_zam dc_zam pm_zam cd_zam ct_zam:Value}
  {f_zbs:Addr} {od_zbs an_zbs:Option Addr} {sl_zbs:Array (Option Value)} {oc_zbs kV_zbs dc_zbs pm_zbs cd_zbs ct_zbs:Value}
  {f_zbi:Addr} {od_zbi an_zbi:Option Addr} {sl_zbi:Array (Option Value)} {oc_zbi kV_zbi dc_zbi pm_zbi cd_zbi ct_zbi:Value}
  {f_zah:Addr} {od_zah an_zah:Option Addr} {sl_zah:Array (Option Value)} {oc_zah kV_zah dc_zah pm_zah cd_zah ct_zah:Value}
  {f_law:Addr} {od_law an_law:Option Addr} {sl_law:Array (Option Value)} {oc_law kV_law dc_law pm_law cd_law ct_law:Value}
  {t_FARTHEST:Tok}
  {t_LAST_BEAT:Tok}
  {t_MOST_ERROR:Tok}
  {t_MOST_FEW:Tok}
  {t_MOST_HOUSES:Tok}
  {t_MOST_RATE:Tok}
  {t_PARTS:Tok}
  {c_BadNumber:Addr}
  {c_BadLies:Addr}
  {c_BadHouses:Addr}
  {c_NoHouse:Addr}
  {c_NotNow:Addr}
  {c_LiarError:Addr}
  (a_Clock:PySem.W.nsIn K mainGlobals "Clock" = some (some (.ref c_Clock)))
  (o_Clock_pg:PySem.W.plainGet K c_Clock Str.empty=true)
  (o_Clock_hd:PySem.W.hasDictIn K c_Clock=true)
  (o_Clock_po:PySem.W.plainOver K c_Clock=true)
  (o_Clock_sa:PySem.W.findIn K (.ref c_Clock) "__setattr__" = some (some (.builtin "object.__setattr__")))
  (o_Clock_mk:PySem.W.makesIn K c_Clock=true)
  (o_Clock_kp:PySem.W.keepIn K (.ref c_Clock)=true)
  (o_Clock_n_first:PySem.W.findIn K (.ref c_Clock) "first" = some none)
  (o_Clock_n_rate:PySem.W.findIn K (.ref c_Clock) "rate" = some none)
  (o_Clock_n_turned:PySem.W.findIn K (.ref c_Clock) "turned" = some none)
  (a_Company:PySem.W.nsIn K mainGlobals "Company" = some (some (.ref c_Company)))
  (o_Company_pg:PySem.W.plainGet K c_Company Str.empty=true)
  (o_Company_hd:PySem.W.hasDictIn K c_Company=true)
  (o_Company_po:PySem.W.plainOver K c_Company=true)
  (o_Company_sa:PySem.W.findIn K (.ref c_Company) "__setattr__" = some (some (.builtin "object.__setattr__")))
  (o_Company_mk:PySem.W.makesIn K c_Company=true)
  (o_Company_kp:PySem.W.keepIn K (.ref c_Company)=true)
  (o_Company_n_clocks:PySem.W.findIn K (.ref c_Company) "clocks" = some none)
  (o_Company_n_error:PySem.W.findIn K (.ref c_Company) "error" = some none)
  (o_Company_n_few:PySem.W.findIn K (.ref c_Company) "few" = some none)
  (o_Company_n_last_beat:PySem.W.findIn K (.ref c_Company) "last_beat" = some none)
  (o_Company_n_liars:PySem.W.findIn K (.ref c_Company) "liars" = some none)
  (o_Company_n_past:PySem.W.findIn K (.ref c_Company) "past" = some none)
  (o_Company_n_waits:PySem.W.findIn K (.ref c_Company) "waits" = some none)
  (a_zbj:PySem.W.nsIn K mainGlobals "_law_town" = some (some (.ref f_zbj)))
  (l_zbj:K.lookup f_zbj=some ⟨oc_zbj,od_zbj,.func (PySem.W.fnOf "_law_town" "_law_town" (jo s_zbj) (jk s_zbj) (jd s_zbj) .none kV_zbj dc_zbj pm_zbj an_zbj cd_zbj ct_zbj),sl_zbj⟩)
  (c_zbj:PySem.W.codeIn K cd_zbj "_law_town" = true)
  (k_zbj:PySem.W.keepIn K (.ref f_zbj)=true)
  (a_zbk:PySem.W.nsIn K mainGlobals "_law_draw" = some (some (.ref f_zbk)))
  (l_zbk:K.lookup f_zbk=some ⟨oc_zbk,od_zbk,.func (PySem.W.fnOf "_law_draw" "_law_draw" (jo s_zbk) (jk s_zbk) (jd s_zbk) .none kV_zbk dc_zbk pm_zbk an_zbk cd_zbk ct_zbk),sl_zbk⟩)
  (c_zbk:PySem.W.codeIn K cd_zbk "_law_draw" = true)
  (k_zbk:PySem.W.keepIn K (.ref f_zbk)=true)
  (a_zbl:PySem.W.nsIn K mainGlobals "_law_pick" = some (some (.ref f_zbl)))
  (l_zbl:K.lookup f_zbl=some ⟨oc_zbl,od_zbl,.func (PySem.W.fnOf "_law_pick" "_law_pick" (jo s_zbl) (jk s_zbl) (jd s_zbl) .none kV_zbl dc_zbl pm_zbl an_zbl cd_zbl ct_zbl),sl_zbl⟩)
  (c_zbl:PySem.W.codeIn K cd_zbl "_law_pick" = true)
  (k_zbl:PySem.W.keepIn K (.ref f_zbl)=true)
  (a_zbt:PySem.W.nsIn K mainGlobals "is_whole" = some (some (.ref f_zbt)))
  (l_zbt:K.lookup f_zbt=some ⟨oc_zbt,od_zbt,.func (PySem.W.fnOf "is_whole" "is_whole" (jo s_zbt) (jk s_zbt) (jd s_zbt) .none kV_zbt dc_zbt pm_zbt an_zbt cd_zbt ct_zbt),sl_zbt⟩)
  (c_zbt:PySem.W.codeIn K cd_zbt "is_whole" = true)
  (k_zbt:PySem.W.keepIn K (.ref f_zbt)=true)
  (a_zbm:PySem.W.nsIn K mainGlobals "is_within" = some (some (.ref f_zbm)))
  (l_zbm:K.lookup f_zbm=some ⟨oc_zbm,od_zbm,.func (PySem.W.fnOf "is_within" "is_within" (jo s_zbm) (jk s_zbm) (jd s_zbm) .none kV_zbm dc_zbm pm_zbm an_zbm cd_zbm ct_zbm),sl_zbm⟩)
  (c_zbm:PySem.W.codeIn K cd_zbm "is_within" = true)
  (k_zbm:PySem.W.keepIn K (.ref f_zbm)=true)
  (a_zan:PySem.W.nsIn K mainGlobals "check_within" = some (some (.ref f_zan)))
  (l_zan:K.lookup f_zan=some ⟨oc_zan,od_zan,.func (PySem.W.fnOf "check_within" "check_within" (jo s_zan) (jk s_zan) (jd s_zan) .none kV_zan dc_zan pm_zan an_zan cd_zan ct_zan),sl_zan⟩)
  (c_zan:PySem.W.codeIn K cd_zan "check_within" = true)
  (k_zan:PySem.W.keepIn K (.ref f_zan)=true)
  (a_zao:PySem.W.nsIn K mainGlobals "check_number" = some (some (.ref f_zao)))
  (l_zao:K.lookup f_zao=some ⟨oc_zao,od_zao,.func (PySem.W.fnOf "check_number" "check_number" (jo s_zao) (jk s_zao) (jd s_zao) .none kV_zao dc_zao pm_zao an_zao cd_zao ct_zao),sl_zao⟩)
  (c_zao:PySem.W.codeIn K cd_zao "check_number" = true)
  (k_zao:PySem.W.keepIn K (.ref f_zao)=true)
  (a_zai:PySem.W.findIn K (.ref c_Clock) "__init__" = some (some (.ref f_zai)))
  (i_zai:PySem.W.isFn K (.ref f_zai)=true)
  (l_zai:K.lookup f_zai=some ⟨oc_zai,od_zai,.func (PySem.W.fnOf "__init__" "Clock.__init__" (jo s_zai) (jk s_zai) (jd s_zai) .none (.ref kd_zai) dc_zai pm_zai an_zai cd_zai ct_zai),sl_zai⟩)
  (c_zai:PySem.W.codeIn K cd_zai "Clock.__init__" = true)
  (k_zai:PySem.W.keepIn K (.ref f_zai)=true)
  (kd_zai_first:PySem.W.nsIn K kd_zai "first" = some (some (.int 0 tt_zai_first)))
  (kd_zai_rate:PySem.W.nsIn K kd_zai "rate" = some (some (.int 0 tt_zai_rate)))
  (a_zba:PySem.W.nsIn K mainGlobals "_law_liars" = some (some (.ref f_zba)))
  (l_zba:K.lookup f_zba=some ⟨oc_zba,od_zba,.func (PySem.W.fnOf "_law_liars" "_law_liars" (jo s_zba) (jk s_zba) (jd s_zba) .none kV_zba dc_zba pm_zba an_zba cd_zba ct_zba),sl_zba⟩)
  (c_zba:PySem.W.codeIn K cd_zba "_law_liars" = true)
  (k_zba:PySem.W.keepIn K (.ref f_zba)=true)
  (a_zap:PySem.W.nsIn K mainGlobals "check_clocks" = some (some (.ref f_zap)))
  (l_zap:K.lookup f_zap=some ⟨oc_zap,od_zap,.func (PySem.W.fnOf "check_clocks" "check_clocks" (jo XU) (jk XU) (jd XU) .none kV_zap dc_zap pm_zap an_zap cd_zap ct_zap),sl_zap⟩)
  (c_zap:PySem.W.codeIn K cd_zap "check_clocks" = true)
  (k_zap:PySem.W.keepIn K (.ref f_zap)=true)
  (a_zbn:PySem.W.nsIn K mainGlobals "check_few" = some (some (.ref f_zbn)))
  (l_zbn:K.lookup f_zbn=some ⟨oc_zbn,od_zbn,.func (PySem.W.fnOf "check_few" "check_few" (jo s_zbn) (jk s_zbn) (jd s_zbn) .none kV_zbn dc_zbn pm_zbn an_zbn cd_zbn ct_zbn),sl_zbn⟩)
  (c_zbn:PySem.W.codeIn K cd_zbn "check_few" = true)
  (k_zbn:PySem.W.keepIn K (.ref f_zbn)=true)
  (a_zav:PySem.W.nsIn K mainGlobals "check_error" = some (some (.ref f_zav)))
  (l_zav:K.lookup f_zav=some ⟨oc_zav,od_zav,.func (PySem.W.fnOf "check_error" "check_error" (jo s_zav) (jk s_zav) (jd s_zav) .none kV_zav dc_zav pm_zav an_zav cd_zav ct_zav),sl_zav⟩)
  (c_zav:PySem.W.codeIn K cd_zav "check_error" = true)
  (k_zav:PySem.W.keepIn K (.ref f_zav)=true)
  (a_zbu:PySem.W.nsIn K mainGlobals "is_house" = some (some (.ref f_zbu)))
  (l_zbu:K.lookup f_zbu=some ⟨oc_zbu,od_zbu,.func (PySem.W.fnOf "is_house" "is_house" (jo s_zbu) (jk s_zbu) (jd s_zbu) .none kV_zbu dc_zbu pm_zbu an_zbu cd_zbu ct_zbu),sl_zbu⟩)
  (c_zbu:PySem.W.codeIn K cd_zbu "is_house" = true)
  (k_zbu:PySem.W.keepIn K (.ref f_zbu)=true)
  (a_zbo:PySem.W.nsIn K mainGlobals "is_rising" = some (some (.ref f_zbo)))
  (l_zbo:K.lookup f_zbo=some ⟨oc_zbo,od_zbo,.func (PySem.W.fnOf "is_rising" "is_rising" (jo XQ) (jk XQ) (jd XQ) .none kV_zbo dc_zbo pm_zbo an_zbo cd_zbo ct_zbo),sl_zbo⟩)
  (c_zbo:PySem.W.codeIn K cd_zbo "is_rising" = true)
  (k_zbo:PySem.W.keepIn K (.ref f_zbo)=true)
  (a_zac:PySem.W.nsIn K mainGlobals "check_some_houses" = some (some (.ref f_zac)))
  (l_zac:K.lookup f_zac=some ⟨oc_zac,od_zac,.func (PySem.W.fnOf "check_some_houses" "check_some_houses" (jo XZ) (jk XZ) (jd XZ) .none kV_zac dc_zac pm_zac an_zac cd_zac ct_zac),sl_zac⟩)
  (c_zac:PySem.W.codeIn K cd_zac "check_some_houses" = true)
  (k_zac:PySem.W.keepIn K (.ref f_zac)=true)
  (a_zbb:PySem.W.findIn K (.ref c_Clock) "twin" = some (some (.ref f_zbb)))
  (i_zbb:PySem.W.isFn K (.ref f_zbb)=true)
  (l_zbb:K.lookup f_zbb=some ⟨oc_zbb,od_zbb,.func (PySem.W.fnOf "twin" "Clock.twin" (jo s_zbb) (jk s_zbb) (jd s_zbb) .none kV_zbb dc_zbb pm_zbb an_zbb cd_zbb ct_zbb),sl_zbb⟩)
  (c_zbb:PySem.W.codeIn K cd_zbb "Clock.twin" = true)
  (k_zbb:PySem.W.keepIn K (.ref f_zbb)=true)
  (a_zad:PySem.W.findIn K (.ref c_Company) "__init__" = some (some (.ref f_zad)))
  (i_zad:PySem.W.isFn K (.ref f_zad)=true)
  (l_zad:K.lookup f_zad=some ⟨oc_zad,od_zad,.func (PySem.W.fnOf "__init__" "Company.__init__" (jo YQ) (jk YQ) (jd YQ) .none (.ref kd_zad) dc_zad pm_zad an_zad cd_zad ct_zad),sl_zad⟩)
  (c_zad:PySem.W.codeIn K cd_zad "Company.__init__" = true)
  (k_zad:PySem.W.keepIn K (.ref f_zad)=true)
  (kd_zad_error:PySem.W.nsIn K kd_zad "error" = some (some (.int 0 tt_zad_error)))
  (kd_zad_liars:PySem.W.nsIn K kd_zad "liars" = some (some (.ref tu_zad_liars)))
  (tu_zad_liars_o:K.lookup tu_zad_liars=some ⟨.type "tuple",tq_zad_liars,.seq #[] tn_zad_liars,ts_zad_liars⟩)
  (kd_zad_waiting:PySem.W.nsIn K kd_zad "waiting" = some (some (.ref tu_zad_waiting)))
  (tu_zad_waiting_o:K.lookup tu_zad_waiting=some ⟨.type "tuple",tq_zad_waiting,.seq #[] tn_zad_waiting,ts_zad_waiting⟩)
  (a_zaq:PySem.W.nsIn K mainGlobals "_law_company" = some (some (.ref f_zaq)))
  (l_zaq:K.lookup f_zaq=some ⟨oc_zaq,od_zaq,.func (PySem.W.fnOf "_law_company" "_law_company" (jo XT) (jk XT) (jd XT) .none kV_zaq dc_zaq pm_zaq an_zaq cd_zaq ct_zaq),sl_zaq⟩)
  (c_zaq:PySem.W.codeIn K cd_zaq "_law_company" = true)
  (k_zaq:PySem.W.keepIn K (.ref f_zaq)=true)
  (a_zbc:PySem.W.nsIn K mainGlobals "check_beat" = some (some (.ref f_zbc)))
  (l_zbc:K.lookup f_zbc=some ⟨oc_zbc,od_zbc,.func (PySem.W.fnOf "check_beat" "check_beat" (jo s_zbc) (jk s_zbc) (jd s_zbc) .none kV_zbc dc_zbc pm_zbc an_zbc cd_zbc ct_zbc),sl_zbc⟩)
  (c_zbc:PySem.W.codeIn K cd_zbc "check_beat" = true)
  (k_zbc:PySem.W.keepIn K (.ref f_zbc)=true)
  (a_zbp:PySem.W.findIn K (.ref c_Clock) "raw" = some (some (.ref f_zbp)))
  (i_zbp:PySem.W.isFn K (.ref f_zbp)=true)
  (l_zbp:K.lookup f_zbp=some ⟨oc_zbp,od_zbp,.func (PySem.W.fnOf "raw" "Clock.raw" (jo s_zbp) (jk s_zbp) (jd s_zbp) .none kV_zbp dc_zbp pm_zbp an_zbp cd_zbp ct_zbp),sl_zbp⟩)
  (c_zbp:PySem.W.codeIn K cd_zbp "Clock.raw" = true)
  (k_zbp:PySem.W.keepIn K (.ref f_zbp)=true)
  (a_zaw:PySem.W.findIn K (.ref c_Clock) "shows" = some (some (.ref f_zaw)))
  (i_zaw:PySem.W.isFn K (.ref f_zaw)=true)
  (l_zaw:K.lookup f_zaw=some ⟨oc_zaw,od_zaw,.func (PySem.W.fnOf "shows" "Clock.shows" (jo s_zaw) (jk s_zaw) (jd s_zaw) .none kV_zaw dc_zaw pm_zaw an_zaw cd_zaw ct_zaw),sl_zaw⟩)
  (c_zaw:PySem.W.codeIn K cd_zaw "Clock.shows" = true)
  (k_zaw:PySem.W.keepIn K (.ref f_zaw)=true)
  (a_zaf:PySem.W.findIn K (.ref c_Company) "members" = some (some (.ref f_zaf)))
  (i_zaf:PySem.W.isFn K (.ref f_zaf)=true)
  (l_zaf:K.lookup f_zaf=some ⟨oc_zaf,od_zaf,.func (PySem.W.fnOf "members" "Company.members" (jo XX) (jk XX) (jd XX) .none kV_zaf dc_zaf pm_zaf an_zaf cd_zaf ct_zaf),sl_zaf⟩)
  (c_zaf:PySem.W.codeIn K cd_zaf "Company.members" = true)
  (k_zaf:PySem.W.keepIn K (.ref f_zaf)=true)
  (a_zaj:PySem.W.findIn K (.ref c_Company) "honest" = some (some (.ref f_zaj)))
  (i_zaj:PySem.W.isFn K (.ref f_zaj)=true)
  (l_zaj:K.lookup f_zaj=some ⟨oc_zaj,od_zaj,.func (PySem.W.fnOf "honest" "Company.honest" (jo XV) (jk XV) (jd XV) .none kV_zaj dc_zaj pm_zaj an_zaj cd_zaj ct_zaj),sl_zaj⟩)
  (c_zaj:PySem.W.codeIn K cd_zaj "Company.honest" = true)
  (k_zaj:PySem.W.keepIn K (.ref f_zaj)=true)
  (a_zae:PySem.W.findIn K (.ref c_Company) "readings" = some (some (.ref f_zae)))
  (i_zae:PySem.W.isFn K (.ref f_zae)=true)
  (l_zae:K.lookup f_zae=some ⟨oc_zae,od_zae,.func (PySem.W.fnOf "readings" "Company.readings" (jo XY) (jk XY) (jd XY) .none kV_zae dc_zae pm_zae an_zae cd_zae ct_zae),sl_zae⟩)
  (c_zae:PySem.W.codeIn K cd_zae "Company.readings" = true)
  (k_zae:PySem.W.keepIn K (.ref f_zae)=true)
  (a_zax:PySem.W.nsIn K mainGlobals "_law_number" = some (some (.ref f_zax)))
  (l_zax:K.lookup f_zax=some ⟨oc_zax,od_zax,.func (PySem.W.fnOf "_law_number" "_law_number" (jo s_zax) (jk s_zax) (jd s_zax) .none kV_zax dc_zax pm_zax an_zax cd_zax ct_zax),sl_zax⟩)
  (c_zax:PySem.W.codeIn K cd_zax "_law_number" = true)
  (k_zax:PySem.W.keepIn K (.ref f_zax)=true)
  (a_zbq:PySem.W.nsIn K mainGlobals "_law_lies" = some (some (.ref f_zbq)))
  (l_zbq:K.lookup f_zbq=some ⟨oc_zbq,od_zbq,.func (PySem.W.fnOf "_law_lies" "_law_lies" (jo s_zbq) (jk s_zbq) (jd s_zbq) .none kV_zbq dc_zbq pm_zbq an_zbq cd_zbq ct_zbq),sl_zbq⟩)
  (c_zbq:PySem.W.codeIn K cd_zbq "_law_lies" = true)
  (k_zbq:PySem.W.keepIn K (.ref f_zbq)=true)
  (a_zbd:PySem.W.nsIn K mainGlobals "_law_slips" = some (some (.ref f_zbd)))
  (l_zbd:K.lookup f_zbd=some ⟨oc_zbd,od_zbd,.func (PySem.W.fnOf "_law_slips" "_law_slips" (jo s_zbd) (jk s_zbd) (jd s_zbd) .none kV_zbd dc_zbd pm_zbd an_zbd cd_zbd ct_zbd),sl_zbd⟩)
  (c_zbd:PySem.W.codeIn K cd_zbd "_law_slips" = true)
  (k_zbd:PySem.W.keepIn K (.ref f_zbd)=true)
  (a_zay:PySem.W.nsIn K mainGlobals "check_house" = some (some (.ref f_zay)))
  (l_zay:K.lookup f_zay=some ⟨oc_zay,od_zay,.func (PySem.W.fnOf "check_house" "check_house" (jo s_zay) (jk s_zay) (jd s_zay) .none kV_zay dc_zay pm_zay an_zay cd_zay ct_zay),sl_zay⟩)
  (c_zay:PySem.W.codeIn K cd_zay "check_house" = true)
  (k_zay:PySem.W.keepIn K (.ref f_zay)=true)
  (a_zar:PySem.W.nsIn K mainGlobals "check_honest" = some (some (.ref f_zar)))
  (l_zar:K.lookup f_zar=some ⟨oc_zar,od_zar,.func (PySem.W.fnOf "check_honest" "check_honest" (jo s_zar) (jk s_zar) (jd s_zar) .none kV_zar dc_zar pm_zar an_zar cd_zar ct_zar),sl_zar⟩)
  (c_zar:PySem.W.codeIn K cd_zar "check_honest" = true)
  (k_zar:PySem.W.keepIn K (.ref f_zar)=true)
  (a_zak:PySem.W.findIn K (.ref c_Company) "shows" = some (some (.ref f_zak)))
  (i_zak:PySem.W.isFn K (.ref f_zak)=true)
  (l_zak:K.lookup f_zak=some ⟨oc_zak,od_zak,.func (PySem.W.fnOf "shows" "Company.shows" (jo s_zak) (jk s_zak) (jd s_zak) .none kV_zak dc_zak pm_zak an_zak cd_zak ct_zak),sl_zak⟩)
  (c_zak:PySem.W.codeIn K cd_zak "Company.shows" = true)
  (k_zak:PySem.W.keepIn K (.ref f_zak)=true)
  (a_zaz:PySem.W.nsIn K mainGlobals "_law_middle" = some (some (.ref f_zaz)))
  (l_zaz:K.lookup f_zaz=some ⟨oc_zaz,od_zaz,.func (PySem.W.fnOf "_law_middle" "_law_middle" (jo s_zaz) (jk s_zaz) (jd s_zaz) .none kV_zaz dc_zaz pm_zaz an_zaz cd_zaz ct_zaz),sl_zaz⟩)
  (c_zaz:PySem.W.codeIn K cd_zaz "_law_middle" = true)
  (k_zaz:PySem.W.keepIn K (.ref f_zaz)=true)
  (a_zbe:PySem.W.nsIn K mainGlobals "_law_reads" = some (some (.ref f_zbe)))
  (l_zbe:K.lookup f_zbe=some ⟨oc_zbe,od_zbe,.func (PySem.W.fnOf "_law_reads" "_law_reads" (jo s_zbe) (jk s_zbe) (jd s_zbe) .none kV_zbe dc_zbe pm_zbe an_zbe cd_zbe ct_zbe),sl_zbe⟩)
  (c_zbe:PySem.W.codeIn K cd_zbe "_law_reads" = true)
  (k_zbe:PySem.W.keepIn K (.ref f_zbe)=true)
  (a_zbw:PySem.W.nsIn K mainGlobals "is_pair" = some (some (.ref f_zbw)))
  (l_zbw:K.lookup f_zbw=some ⟨oc_zbw,od_zbw,.func (PySem.W.fnOf "is_pair" "is_pair" (jo s_zbw) (jk s_zbw) (jd s_zbw) .none kV_zbw dc_zbw pm_zbw an_zbw cd_zbw ct_zbw),sl_zbw⟩)
  (c_zbw:PySem.W.codeIn K cd_zbw "is_pair" = true)
  (k_zbw:PySem.W.keepIn K (.ref f_zbw)=true)
  (a_zbx:PySem.W.nsIn K mainGlobals "is_key" = some (some (.ref f_zbx)))
  (l_zbx:K.lookup f_zbx=some ⟨oc_zbx,od_zbx,.func (PySem.W.fnOf "is_key" "is_key" (jo s_zbx) (jk s_zbx) (jd s_zbx) .none kV_zbx dc_zbx pm_zbx an_zbx cd_zbx ct_zbx),sl_zbx⟩)
  (c_zbx:PySem.W.codeIn K cd_zbx "is_key" = true)
  (k_zbx:PySem.W.keepIn K (.ref f_zbx)=true)
  (a_zbr:PySem.W.nsIn K mainGlobals "is_number" = some (some (.ref f_zbr)))
  (l_zbr:K.lookup f_zbr=some ⟨oc_zbr,od_zbr,.func (PySem.W.fnOf "is_number" "is_number" (jo s_zbr) (jk s_zbr) (jd s_zbr) .none kV_zbr dc_zbr pm_zbr an_zbr cd_zbr ct_zbr),sl_zbr⟩)
  (c_zbr:PySem.W.codeIn K cd_zbr "is_number" = true)
  (k_zbr:PySem.W.keepIn K (.ref f_zbr)=true)
  (a_zbf:PySem.W.nsIn K mainGlobals "check_lies" = some (some (.ref f_zbf)))
  (l_zbf:K.lookup f_zbf=some ⟨oc_zbf,od_zbf,.func (PySem.W.fnOf "check_lies" "check_lies" (jo XS) (jk XS) (jd XS) .none kV_zbf dc_zbf pm_zbf an_zbf cd_zbf ct_zbf),sl_zbf⟩)
  (c_zbf:PySem.W.codeIn K cd_zbf "check_lies" = true)
  (k_zbf:PySem.W.keepIn K (.ref f_zbf)=true)
  (a_zbg:PySem.W.nsIn K mainGlobals "is_off_key" = some (some (.ref f_zbg)))
  (l_zbg:K.lookup f_zbg=some ⟨oc_zbg,od_zbg,.func (PySem.W.fnOf "is_off_key" "is_off_key" (jo s_zbg) (jk s_zbg) (jd s_zbg) .none kV_zbg dc_zbg pm_zbg an_zbg cd_zbg ct_zbg),sl_zbg⟩)
  (c_zbg:PySem.W.codeIn K cd_zbg "is_off_key" = true)
  (k_zbg:PySem.W.keepIn K (.ref f_zbg)=true)
  (a_zbh:PySem.W.nsIn K mainGlobals "check_offs" = some (some (.ref f_zbh)))
  (l_zbh:K.lookup f_zbh=some ⟨oc_zbh,od_zbh,.func (PySem.W.fnOf "check_offs" "check_offs" (jo XR) (jk XR) (jd XR) .none kV_zbh dc_zbh pm_zbh an_zbh cd_zbh ct_zbh),sl_zbh⟩)
  (c_zbh:PySem.W.codeIn K cd_zbh "check_offs" = true)
  (k_zbh:PySem.W.keepIn K (.ref f_zbh)=true)
  (a_zaa:PySem.W.findIn K (.ref c_Company) "check_reading" = some (some (.ref f_zaa)))
  (i_zaa:PySem.W.isFn K (.ref f_zaa)=true)
  (l_zaa:K.lookup f_zaa=some ⟨oc_zaa,od_zaa,.func (PySem.W.fnOf "check_reading" "Company.check_reading" (jo s_zaa) (jk s_zaa) (jd s_zaa) .none kV_zaa dc_zaa pm_zaa an_zaa cd_zaa ct_zaa),sl_zaa⟩)
  (c_zaa:PySem.W.codeIn K cd_zaa "Company.check_reading" = true)
  (k_zaa:PySem.W.keepIn K (.ref f_zaa)=true)
  (a_zas:PySem.W.findIn K (.ref c_Clock) "set_to" = some (some (.ref f_zas)))
  (i_zas:PySem.W.isFn K (.ref f_zas)=true)
  (l_zas:K.lookup f_zas=some ⟨oc_zas,od_zas,.func (PySem.W.fnOf "set_to" "Clock.set_to" (jo s_zas) (jk s_zas) (jd s_zas) .none kV_zas dc_zas pm_zas an_zas cd_zas ct_zas),sl_zas⟩)
  (c_zas:PySem.W.codeIn K cd_zas "Clock.set_to" = true)
  (k_zas:PySem.W.keepIn K (.ref f_zas)=true)
  (a_zag:PySem.W.findIn K (.ref c_Company) "read_of" = some (some (.ref f_zag)))
  (i_zag:PySem.W.isFn K (.ref f_zag)=true)
  (l_zag:K.lookup f_zag=some ⟨oc_zag,od_zag,.func (PySem.W.fnOf "read_of" "Company.read_of" (jo s_zag) (jk s_zag) (jd s_zag) .none kV_zag dc_zag pm_zag an_zag cd_zag ct_zag),sl_zag⟩)
  (c_zag:PySem.W.codeIn K cd_zag "Company.read_of" = true)
  (k_zag:PySem.W.keepIn K (.ref f_zag)=true)
  (a_zbv:PySem.W.nsIn K mainGlobals "half_way" = some (some (.ref f_zbv)))
  (l_zbv:K.lookup f_zbv=some ⟨oc_zbv,od_zbv,.func (PySem.W.fnOf "half_way" "half_way" (jo s_zbv) (jk s_zbv) (jd s_zbv) .none kV_zbv dc_zbv pm_zbv an_zbv cd_zbv ct_zbv),sl_zbv⟩)
  (c_zbv:PySem.W.codeIn K cd_zbv "half_way" = true)
  (k_zbv:PySem.W.keepIn K (.ref f_zbv)=true)
  (a_zat:PySem.W.nsIn K mainGlobals "without_ends" = some (some (.ref f_zat)))
  (l_zat:K.lookup f_zat=some ⟨oc_zat,od_zat,.func (PySem.W.fnOf "without_ends" "without_ends" (jo s_zat) (jk s_zat) (jd s_zat) .none kV_zat dc_zat pm_zat an_zat cd_zat ct_zat),sl_zat⟩)
  (c_zat:PySem.W.codeIn K cd_zat "without_ends" = true)
  (k_zat:PySem.W.keepIn K (.ref f_zat)=true)
  (a_zab:PySem.W.findIn K (.ref c_Company) "middle_read" = some (some (.ref f_zab)))
  (i_zab:PySem.W.isFn K (.ref f_zab)=true)
  (l_zab:K.lookup f_zab=some ⟨oc_zab,od_zab,.func (PySem.W.fnOf "middle_read" "Company.middle_read" (jo s_zab) (jk s_zab) (jd s_zab) .none kV_zab dc_zab pm_zab an_zab cd_zab ct_zab),sl_zab⟩)
  (c_zab:PySem.W.codeIn K cd_zab "Company.middle_read" = true)
  (k_zab:PySem.W.keepIn K (.ref f_zab)=true)
  (a_zal:PySem.W.findIn K (.ref c_Company) "enter" = some (some (.ref f_zal)))
  (i_zal:PySem.W.isFn K (.ref f_zal)=true)
  (l_zal:K.lookup f_zal=some ⟨oc_zal,od_zal,.func (PySem.W.fnOf "enter" "Company.enter" (jo s_zal) (jk s_zal) (jd s_zal) .none (.ref kd_zal) dc_zal pm_zal an_zal cd_zal ct_zal),sl_zal⟩)
  (c_zal:PySem.W.codeIn K cd_zal "Company.enter" = true)
  (k_zal:PySem.W.keepIn K (.ref f_zal)=true)
  (kd_zal_offs:PySem.W.nsIn K kd_zal "offs" = some (some .none))
  (a_zau:PySem.W.findIn K (.ref c_Company) "meet" = some (some (.ref f_zau)))
  (i_zau:PySem.W.isFn K (.ref f_zau)=true)
  (l_zau:K.lookup f_zau=some ⟨oc_zau,od_zau,.func (PySem.W.fnOf "meet" "Company.meet" (jo YO) (jk YO) (jd YO) .none (.ref kd_zau) dc_zau pm_zau an_zau cd_zau ct_zau),sl_zau⟩)
  (c_zau:PySem.W.codeIn K cd_zau "Company.meet" = true)
  (k_zau:PySem.W.keepIn K (.ref f_zau)=true)
  (kd_zau_offs:PySem.W.nsIn K kd_zau "offs" = some (some .none))
  (a_zam:PySem.W.findIn K (.ref c_Company) "leave" = some (some (.ref f_zam)))
  (i_zam:PySem.W.isFn K (.ref f_zam)=true)
  (l_zam:K.lookup f_zam=some ⟨oc_zam,od_zam,.func (PySem.W.fnOf "leave" "Company.leave" (jo s_zam) (jk s_zam) (jd s_zam) .none kV_zam dc_zam pm_zam an_zam cd_zam ct_zam),sl_zam⟩)
  (c_zam:PySem.W.codeIn K cd_zam "Company.leave" = true)
  (k_zam:PySem.W.keepIn K (.ref f_zam)=true)
  (a_zbs:PySem.W.nsIn K mainGlobals "_law_left" = some (some (.ref f_zbs)))
  (l_zbs:K.lookup f_zbs=some ⟨oc_zbs,od_zbs,.func (PySem.W.fnOf "_law_left" "_law_left" (jo XO) (jk XO) (jd XO) .none kV_zbs dc_zbs pm_zbs an_zbs cd_zbs ct_zbs),sl_zbs⟩)
  (c_zbs:PySem.W.codeIn K cd_zbs "_law_left" = true)
  (k_zbs:PySem.W.keepIn K (.ref f_zbs)=true)
  (a_zbi:PySem.W.nsIn K mainGlobals "_law_whole" = some (some (.ref f_zbi)))
  (l_zbi:K.lookup f_zbi=some ⟨oc_zbi,od_zbi,.func (PySem.W.fnOf "_law_whole" "_law_whole" (jo s_zbi) (jk s_zbi) (jd s_zbi) .none kV_zbi dc_zbi pm_zbi an_zbi cd_zbi ct_zbi),sl_zbi⟩)
  (c_zbi:PySem.W.codeIn K cd_zbi "_law_whole" = true)
  (k_zbi:PySem.W.keepIn K (.ref f_zbi)=true)
  (a_zah:PySem.W.nsIn K mainGlobals "_law_whole_list" = some (some (.ref f_zah)))
  (l_zah:K.lookup f_zah=some ⟨oc_zah,od_zah,.func (PySem.W.fnOf "_law_whole_list" "_law_whole_list" (jo XW) (jk XW) (jd XW) .none kV_zah dc_zah pm_zah an_zah cd_zah ct_zah),sl_zah⟩)
  (c_zah:PySem.W.codeIn K cd_zah "_law_whole_list" = true)
  (k_zah:PySem.W.keepIn K (.ref f_zah)=true)
  (a_law:PySem.W.nsIn K mainGlobals "law" = some (some (.ref f_law)))
  (l_law:K.lookup f_law=some ⟨oc_law,od_law,.func (PySem.W.fnOf "law" "law" (jo uF) (jk uF) (jd uF) .none kV_law dc_law pm_law an_law cd_law ct_law),sl_law⟩)
  (c_law:PySem.W.codeIn K cd_law "law" = true)
  (k_law:PySem.W.keepIn K (.ref f_law)=true)
  (n_FARTHEST:PySem.W.nsIn K mainGlobals "FARTHEST" = some (some (.int 1000000 t_FARTHEST)))
  (n_LAST_BEAT:PySem.W.nsIn K mainGlobals "LAST_BEAT" = some (some (.int 100000 t_LAST_BEAT)))
  (n_MOST_ERROR:PySem.W.nsIn K mainGlobals "MOST_ERROR" = some (some (.int 100 t_MOST_ERROR)))
  (n_MOST_FEW:PySem.W.nsIn K mainGlobals "MOST_FEW" = some (some (.int 5 t_MOST_FEW)))
  (n_MOST_HOUSES:PySem.W.nsIn K mainGlobals "MOST_HOUSES" = some (some (.int 16 t_MOST_HOUSES)))
  (n_MOST_RATE:PySem.W.nsIn K mainGlobals "MOST_RATE" = some (some (.int 100 t_MOST_RATE)))
  (n_PARTS:PySem.W.nsIn K mainGlobals "PARTS" = some (some (.int 1000 t_PARTS)))
  (a_BadNumber:PySem.W.nsIn K mainGlobals "BadNumber" = some (some (.ref c_BadNumber)))
  (a_BadLies:PySem.W.nsIn K mainGlobals "BadLies" = some (some (.ref c_BadLies)))
  (a_BadHouses:PySem.W.nsIn K mainGlobals "BadHouses" = some (some (.ref c_BadHouses)))
  (a_NoHouse:PySem.W.nsIn K mainGlobals "NoHouse" = some (some (.ref c_NoHouse)))
  (a_NotNow:PySem.W.nsIn K mainGlobals "NotNow" = some (some (.ref c_NotNow)))
  (a_LiarError:PySem.W.nsIn K mainGlobals "LiarError" = some (some (.ref c_LiarError)))
  (e_BadHouses:PySem.W.excIn K c_BadHouses bmVE "ValueError.__new__" = true)
  (e_BadLies:PySem.W.excIn K c_BadLies bmVE "ValueError.__new__" = true)
  (e_BadNumber:PySem.W.excIn K c_BadNumber bmVE "ValueError.__new__" = true)
  (e_NotNow:PySem.W.excIn K c_NotNow bmVE "ValueError.__new__" = true)
  (z_all:PySem.W.nsIn K mainGlobals "all" = some none)
  (z_any:PySem.W.nsIn K mainGlobals "any" = some none)
  (z_bool:PySem.W.nsIn K mainGlobals "bool" = some none)
  (z_dict:PySem.W.nsIn K mainGlobals "dict" = some none)
  (z_int:PySem.W.nsIn K mainGlobals "int" = some none)
  (z_isinstance:PySem.W.nsIn K mainGlobals "isinstance" = some none)
  (z_len:PySem.W.nsIn K mainGlobals "len" = some none)
  (z_list:PySem.W.nsIn K mainGlobals "list" = some none)
  (z_max:PySem.W.nsIn K mainGlobals "max" = some none)
  (z_min:PySem.W.nsIn K mainGlobals "min" = some none)
  (z_range:PySem.W.nsIn K mainGlobals "range" = some none)
  (z_sorted:PySem.W.nsIn K mainGlobals "sorted" = some none)
  (z_tuple:PySem.W.nsIn K mainGlobals "tuple" = some none)
  (z_zip:PySem.W.nsIn K mainGlobals "zip" = some none) :
  ∃ fd:FuncData,(∀ (s:Shared) (v:Value),BindsTo s fd ⟨[v],[]⟩ [("_law_script",v)])∧∀ base:Heap,K.In base->base.Ns mainGlobals mg->FnOk l.prog w K mg base CX0 11 fa fd ["_law_script"] (sp_law K):=by
 have e:=hfa.symm.trans (PySem.W.mg_of X G a_law);cases e
 let C:Nat->Addr:=fun k=>([c_BadNumber,0,c_BadLies,c_BadHouses,c_NoHouse,0,c_NotNow,0,0,c_LiarError,c_Clock,c_Company]:List Addr).getD k 0
 have N_all:=PySem.W.mg_none_of X G z_all;have N_any:=PySem.W.mg_none_of X G z_any;have N_bool:=PySem.W.mg_none_of X G z_bool;have N_dict:=PySem.W.mg_none_of X G z_dict;have N_int:=PySem.W.mg_none_of X G z_int;have N_isinstance:=PySem.W.mg_none_of X G z_isinstance;have N_len:=PySem.W.mg_none_of X G z_len;have N_list:=PySem.W.mg_none_of X G z_list;have N_max:=PySem.W.mg_none_of X G z_max;have N_min:=PySem.W.mg_none_of X G z_min;have N_range:=PySem.W.mg_none_of X G z_range;have N_sorted:=PySem.W.mg_none_of X G z_sorted;have N_tuple:=PySem.W.mg_none_of X G z_tuple;have N_zip:=PySem.W.mg_none_of X G z_zip;have C_FARTHEST:=PySem.W.mg_of X G n_FARTHEST;have C_LAST_BEAT:=PySem.W.mg_of X G n_LAST_BEAT;have C_MOST_ERROR:=PySem.W.mg_of X G n_MOST_ERROR;have C_MOST_FEW:=PySem.W.mg_of X G n_MOST_FEW;have C_MOST_HOUSES:=PySem.W.mg_of X G n_MOST_HOUSES;have C_MOST_RATE:=PySem.W.mg_of X G n_MOST_RATE;have C_PARTS:=PySem.W.mg_of X G n_PARTS
 have A_BadNumber:mg "BadNumber" = some (.ref (C 0)):=PySem.W.mg_of X G a_BadNumber;have A_BadLies:mg "BadLies" = some (.ref (C 2)):=PySem.W.mg_of X G a_BadLies;have A_BadHouses:mg "BadHouses" = some (.ref (C 3)):=PySem.W.mg_of X G a_BadHouses;have A_NoHouse:mg "NoHouse" = some (.ref (C 4)):=PySem.W.mg_of X G a_NoHouse;have A_NotNow:mg "NotNow" = some (.ref (C 6)):=PySem.W.mg_of X G a_NotNow;have A_LiarError:mg "LiarError" = some (.ref (C 9)):=PySem.W.mg_of X G a_LiarError;have A_Clock:mg "Clock" = some (.ref (C 10)):=PySem.W.mg_of X G a_Clock
 have cl_Clock:Cls K (C 10):=⟨o_Clock_pg,o_Clock_hd,o_Clock_po,o_Clock_sa⟩
 have nf_Clock_first:jq K (C 10) "first":=o_Clock_n_first;have nf_Clock_rate:jq K (C 10) "rate":=o_Clock_n_rate;have nf_Clock_turned:jq K (C 10) "turned":=o_Clock_n_turned;have A_Company:mg "Company" = some (.ref (C 11)):=PySem.W.mg_of X G a_Company
 have cl_Company:Cls K (C 11):=⟨o_Company_pg,o_Company_hd,o_Company_po,o_Company_sa⟩
 have nf_Company_clocks:jq K (C 11) "clocks":=o_Company_n_clocks;have nf_Company_error:jq K (C 11) "error":=o_Company_n_error;have nf_Company_few:jq K (C 11) "few":=o_Company_n_few;have nf_Company_last_beat:jq K (C 11) "last_beat":=o_Company_n_last_beat;have nf_Company_liars:jq K (C 11) "liars":=o_Company_n_liars;have nf_Company_past:jq K (C 11) "past":=o_Company_n_past;have nf_Company_waits:jq K (C 11) "waits":=o_Company_n_waits
 have X_BadHouses:Exc K mg "BadHouses" (C 3):=⟨A_BadHouses,e_BadHouses⟩
 have X_BadLies:Exc K mg "BadLies" (C 2):=⟨A_BadLies,e_BadLies⟩
 have X_BadNumber:Exc K mg "BadNumber" (C 0):=⟨A_BadNumber,e_BadNumber⟩
 have X_NotNow:Exc K mg "NotNow" (C 6):=⟨A_NotNow,e_NotNow⟩
 have F_zbj:=ju (st:=s_zbj) l_zbj c_zbj k_zbj;have F_zbk:=ju (st:=s_zbk) l_zbk c_zbk k_zbk;have F_zbl:=ju (st:=s_zbl) l_zbl c_zbl k_zbl;have F_zbt:=ju (st:=s_zbt) l_zbt c_zbt k_zbt;have F_zbm:=ju (st:=s_zbm) l_zbm c_zbm k_zbm;have F_zan:=ju (st:=s_zan) l_zan c_zan k_zan;have F_zao:=ju (st:=s_zao) l_zao c_zao k_zao;have F_zai:=ju (st:=s_zai) l_zai c_zai k_zai;have F_zba:=ju (st:=s_zba) l_zba c_zba k_zba;have F_zap:=ju (st:=XU) l_zap c_zap k_zap;have F_zbn:=ju (st:=s_zbn) l_zbn c_zbn k_zbn;have F_zav:=ju (st:=s_zav) l_zav c_zav k_zav;have F_zbu:=ju (st:=s_zbu) l_zbu c_zbu k_zbu;have F_zbo:=ju (st:=XQ) l_zbo c_zbo k_zbo;have F_zac:=ju (st:=XZ) l_zac c_zac k_zac;have F_zbb:=ju (st:=s_zbb) l_zbb c_zbb k_zbb;have F_zad:=ju (st:=YQ) l_zad c_zad k_zad;have F_zaq:=ju (st:=XT) l_zaq c_zaq k_zaq;have F_zbc:=ju (st:=s_zbc) l_zbc c_zbc k_zbc;have F_zbp:=ju (st:=s_zbp) l_zbp c_zbp k_zbp
 have F_zaw:=ju (st:=s_zaw) l_zaw c_zaw k_zaw;have F_zaf:=ju (st:=XX) l_zaf c_zaf k_zaf;have F_zaj:=ju (st:=XV) l_zaj c_zaj k_zaj;have F_zae:=ju (st:=XY) l_zae c_zae k_zae;have F_zax:=ju (st:=s_zax) l_zax c_zax k_zax;have F_zbq:=ju (st:=s_zbq) l_zbq c_zbq k_zbq;have F_zbd:=ju (st:=s_zbd) l_zbd c_zbd k_zbd;have F_zay:=ju (st:=s_zay) l_zay c_zay k_zay;have F_zar:=ju (st:=s_zar) l_zar c_zar k_zar;have F_zak:=ju (st:=s_zak) l_zak c_zak k_zak;have F_zaz:=ju (st:=s_zaz) l_zaz c_zaz k_zaz;have F_zbe:=ju (st:=s_zbe) l_zbe c_zbe k_zbe;have F_zbw:=ju (st:=s_zbw) l_zbw c_zbw k_zbw;have F_zbx:=ju (st:=s_zbx) l_zbx c_zbx k_zbx;have F_zbr:=ju (st:=s_zbr) l_zbr c_zbr k_zbr;have F_zbf:=ju (st:=XS) l_zbf c_zbf k_zbf;have F_zbg:=ju (st:=s_zbg) l_zbg c_zbg k_zbg;have F_zbh:=ju (st:=XR) l_zbh c_zbh k_zbh;have F_zaa:=ju (st:=s_zaa) l_zaa c_zaa k_zaa;have F_zas:=ju (st:=s_zas) l_zas c_zas k_zas
 have F_zag:=ju (st:=s_zag) l_zag c_zag k_zag;have F_zbv:=ju (st:=s_zbv) l_zbv c_zbv k_zbv;have F_zat:=ju (st:=s_zat) l_zat c_zat k_zat;have F_zab:=ju (st:=s_zab) l_zab c_zab k_zab;have F_zal:=ju (st:=s_zal) l_zal c_zal k_zal;have F_zau:=ju (st:=YO) l_zau c_zau k_zau;have F_zam:=ju (st:=s_zam) l_zam c_zam k_zam;have F_zbs:=ju (st:=XO) l_zbs c_zbs k_zbs;have F_zbi:=ju (st:=s_zbi) l_zbi c_zbi k_zbi;have F_zah:=ju (st:=XW) l_zah c_zah k_zah;have F_law:=ju (st:=uF) l_law c_law k_law;refine ⟨PySem.W.fnOf "law" "law" (jo uF) (jk uF) (jd uF) .none kV_law dc_law pm_law an_law cd_law ct_law,fun s v=>.of_eq rfl,fun base _ _=>?_⟩;have ok_zbj_:=ok_zbj (P:=l.prog) (w:=w) (mg:=mg) (base:=base) (C:=C) F_zbj N_list
 have Q_zbj:CalD l.prog w K mg base (tb K C) "_law_town" 1 ["_law_script"] [] 1 0 [.p 0] [] D_zbj:=⟨f_zbj,_,[],[],ok_zbj_,PySem.W.mg_of X G a_zbj,k_zbj,jH (dV:=[]) (ds:=[]) .nil (fun s us ws KX h1 h2=>by obtain ⟨u0,rfl⟩:=ln1 h1; obtain rfl:=ln0 h2; exact .of_eq rfl),fun W hW=>rfl⟩
 have ok_zbk_:=ok_zbk (P:=l.prog) (w:=w) (mg:=mg) (base:=base) (C:=C) F_zbk N_len
 have Q_zbk:CalD l.prog w K mg base (tb K C) "_law_draw" 1 ["_law_town_here","_law_many"] [] 2 0 [.p 0,.p 1] [] yu:=⟨f_zbk,_,[],[],ok_zbk_,PySem.W.mg_of X G a_zbk,k_zbk,jH (dV:=[]) (ds:=[]) .nil (fun s us ws KX h1 h2=>by obtain ⟨u0,u1,rfl⟩:=ln2 h1; obtain rfl:=ln0 h2; exact .of_eq rfl),fun W hW=>rfl⟩
 have ok_zbl_:=ok_zbl (P:=l.prog) (w:=w) (mg:=mg) (base:=base) (C:=C) F_zbl Q_zbk N_len
 have Q_zbl:CalD l.prog w K mg base (tb K C) "_law_pick" 2 ["_law_town_here","_law_some"] [] 2 0 [.p 0,.p 1] [] xO:=⟨f_zbl,_,[],[],ok_zbl_,PySem.W.mg_of X G a_zbl,k_zbl,jH (dV:=[]) (ds:=[]) .nil (fun s us ws KX h1 h2=>by obtain ⟨u0,u1,rfl⟩:=ln2 h1; obtain rfl:=ln0 h2; exact .of_eq rfl),fun W hW=>rfl⟩
 have ok_zbt_:=ok_zbt (P:=l.prog) (w:=w) (mg:=mg) (base:=base) (C:=C) F_zbt N_bool N_int N_isinstance
 have Q_zbt:CalD l.prog w K mg base (tb K C) "is_whole" 1 ["thing"] [] 1 0 [.p 0] [] D_zbt:=⟨f_zbt,_,[],[],ok_zbt_,PySem.W.mg_of X G a_zbt,k_zbt,jH (dV:=[]) (ds:=[]) .nil (fun s us ws KX h1 h2=>by obtain ⟨u0,rfl⟩:=ln1 h1; obtain rfl:=ln0 h2; exact .of_eq rfl),fun W hW=>rfl⟩
 have ok_zbm_:=ok_zbm (P:=l.prog) (w:=w) (mg:=mg) (base:=base) (C:=C) F_zbm Q_zbt
 have Q_zbm:CalD l.prog w K mg base (tb K C) "is_within" 2 ["thing","least","most"] [] 3 0 [.p 0,.p 1,.p 2] [] um:=⟨f_zbm,_,[],[],ok_zbm_,PySem.W.mg_of X G a_zbm,k_zbm,jH (dV:=[]) (ds:=[]) .nil (fun s us ws KX h1 h2=>by obtain ⟨u0,u1,u2,rfl⟩:=ln3 h1; obtain rfl:=ln0 h2; exact .of_eq rfl),fun W hW=>rfl⟩
 have ok_zan_:=ok_zan (P:=l.prog) (w:=w) (mg:=mg) (base:=base) (C:=C) F_zan X_BadNumber Q_zbm
 have Q_zan:CalD l.prog w K mg base (tb K C) "check_within" 3 ["thing","least","most"] [] 3 0 [.p 0,.p 1,.p 2] [] xQ:=⟨f_zan,_,[],[],ok_zan_,PySem.W.mg_of X G a_zan,k_zan,jH (dV:=[]) (ds:=[]) .nil (fun s us ws KX h1 h2=>by obtain ⟨u0,u1,u2,rfl⟩:=ln3 h1; obtain rfl:=ln0 h2; exact .of_eq rfl),fun W hW=>rfl⟩
 have ok_zao_:=ok_zao (P:=l.prog) (w:=w) (mg:=mg) (base:=base) (C:=C) F_zao C_FARTHEST Q_zan
 have Q_zao:CalD l.prog w K mg base (tb K C) "check_number" 4 ["thing"] [] 1 0 [.p 0] [] D_zao:=⟨f_zao,_,[],[],ok_zao_,PySem.W.mg_of X G a_zao,k_zao,jH (dV:=[]) (ds:=[]) .nil (fun s us ws KX h1 h2=>by obtain ⟨u0,rfl⟩:=ln1 h1; obtain rfl:=ln0 h2; exact .of_eq rfl),fun W hW=>rfl⟩
 have ok_zai_:=ok_zai (P:=l.prog) (w:=w) (mg:=mg) (base:=base) (C:=C) F_zai C_MOST_RATE nf_Clock_first nf_Clock_rate nf_Clock_turned Q_zao Q_zan cl_Clock
 have Q_zai_1_first_rate:NewD l.prog w K mg base (tb K C) 10 "Clock" 5 ["self","first","rate"] ["first","rate"] 1 2 [.p 0,.k 0,.k 1] [] Xk:=⟨f_zai,_,[],[],ok_zai_,⟨o_Clock_mk,a_zai,i_zai,o_Clock_kp⟩,A_Clock,jH (dV:=[]) (ds:=[]) .nil (fun s us ws KX h1 h2=>by obtain ⟨u0,rfl⟩:=ln1 h1; obtain ⟨w0,w1,rfl⟩:=ln2 h2; exact .of_eq rfl),fun W hW=>rfl⟩
 have ok_zba_:=ok_zba (P:=l.prog) (w:=w) (mg:=mg) (base:=base) (C:=C) F_zba Q_zbk N_len N_range
 have Q_zba:CalD l.prog w K mg base (tb K C) "_law_liars" 2 ["_law_town_here","_law_crew","_law_most"] [] 3 0 [.p 0,.p 1,.p 2] [] D_zba:=⟨f_zba,_,[],[],ok_zba_,PySem.W.mg_of X G a_zba,k_zba,jH (dV:=[]) (ds:=[]) .nil (fun s us ws KX h1 h2=>by obtain ⟨u0,u1,u2,rfl⟩:=ln3 h1; obtain rfl:=ln0 h2; exact .of_eq rfl),fun W hW=>rfl⟩
 have ok_zap_:=ok_zap (P:=l.prog) (w:=w) (mg:=mg) (base:=base) (C:=C) F_zap C_MOST_HOUSES X_BadHouses N_all N_isinstance N_len N_list A_Clock
 have Q_zap:CalD l.prog w K mg base (tb K C) "check_clocks" 1 ["clocks"] [] 1 0 [.p 0] [] D_zap:=⟨f_zap,_,[],[],ok_zap_,PySem.W.mg_of X G a_zap,k_zap,jH (dV:=[]) (ds:=[]) .nil (fun s us ws KX h1 h2=>by obtain ⟨u0,rfl⟩:=ln1 h1; obtain rfl:=ln0 h2; exact .of_eq rfl),fun W hW=>rfl⟩
 have ok_zbn_:=ok_zbn (P:=l.prog) (w:=w) (mg:=mg) (base:=base) (C:=C) F_zbn C_MOST_FEW Q_zan
 have Q_zbn:CalD l.prog w K mg base (tb K C) "check_few" 4 ["few"] [] 1 0 [.p 0] [] D_zbn:=⟨f_zbn,_,[],[],ok_zbn_,PySem.W.mg_of X G a_zbn,k_zbn,jH (dV:=[]) (ds:=[]) .nil (fun s us ws KX h1 h2=>by obtain ⟨u0,rfl⟩:=ln1 h1; obtain rfl:=ln0 h2; exact .of_eq rfl),fun W hW=>rfl⟩
 have ok_zav_:=ok_zav (P:=l.prog) (w:=w) (mg:=mg) (base:=base) (C:=C) F_zav C_MOST_ERROR Q_zan
 have Q_zav:CalD l.prog w K mg base (tb K C) "check_error" 4 ["error"] [] 1 0 [.p 0] [] D_zav:=⟨f_zav,_,[],[],ok_zav_,PySem.W.mg_of X G a_zav,k_zav,jH (dV:=[]) (ds:=[]) .nil (fun s us ws KX h1 h2=>by obtain ⟨u0,rfl⟩:=ln1 h1; obtain rfl:=ln0 h2; exact .of_eq rfl),fun W hW=>rfl⟩
 have ok_zbu_:=ok_zbu (P:=l.prog) (w:=w) (mg:=mg) (base:=base) (C:=C) F_zbu Q_zbm
 have Q_zbu:CalD l.prog w K mg base (tb K C) "is_house" 3 ["thing","houses"] [] 2 0 [.p 0,.p 1] [] xN:=⟨f_zbu,_,[],[],ok_zbu_,PySem.W.mg_of X G a_zbu,k_zbu,jH (dV:=[]) (ds:=[]) .nil (fun s us ws KX h1 h2=>by obtain ⟨u0,u1,rfl⟩:=ln2 h1; obtain rfl:=ln0 h2; exact .of_eq rfl),fun W hW=>rfl⟩
 have ok_zbo_:=ok_zbo (P:=l.prog) (w:=w) (mg:=mg) (base:=base) (C:=C) F_zbo N_all N_zip
 have Q_zbo:CalD l.prog w K mg base (tb K C) "is_rising" 1 ["numbers"] [] 1 0 [.p 0] [] D_zbo:=⟨f_zbo,_,[],[],ok_zbo_,PySem.W.mg_of X G a_zbo,k_zbo,jH (dV:=[]) (ds:=[]) .nil (fun s us ws KX h1 h2=>by obtain ⟨u0,rfl⟩:=ln1 h1; obtain rfl:=ln0 h2; exact .of_eq rfl),fun W hW=>rfl⟩
 have ok_zac_:=ok_zac (P:=l.prog) (w:=w) (mg:=mg) (base:=base) (C:=C) F_zac X_BadHouses Q_zbu Q_zbo N_all N_isinstance N_len N_list N_tuple
 have Q_zac:CalD l.prog w K mg base (tb K C) "check_some_houses" 4 ["some","houses","most"] [] 3 0 [.p 0,.p 1,.p 2] [] Yv:=⟨f_zac,_,[],[],ok_zac_,PySem.W.mg_of X G a_zac,k_zac,jH (dV:=[]) (ds:=[]) .nil (fun s us ws KX h1 h2=>by obtain ⟨u0,u1,u2,rfl⟩:=ln3 h1; obtain rfl:=ln0 h2; exact .of_eq rfl),fun W hW=>rfl⟩
 have ok_zbb_:=ok_zbb (P:=l.prog) (w:=w) (mg:=mg) (base:=base) (C:=C) F_zbb nf_Clock_first nf_Clock_rate nf_Clock_turned Q_zai_1_first_rate cl_Clock
 have Q_zbb:MetD l.prog w K mg base (tb K C) 10 "twin" 7 ["self"] [] 1 0 [.p 0] [] Xi:=⟨f_zbb,_,[],[],ok_zbb_,⟨a_zbb,i_zbb,k_zbb⟩,cl_Clock,jH (dV:=[]) (ds:=[]) .nil (fun s us ws KX h1 h2=>by obtain ⟨u0,rfl⟩:=ln1 h1; obtain rfl:=ln0 h2; exact .of_eq rfl),fun W hW=>rfl⟩
 have ok_zad_:=ok_zad (P:=l.prog) (w:=w) (mg:=mg) (base:=base) (C:=C) F_zad X_BadHouses nf_Company_clocks nf_Company_error nf_Company_few nf_Company_last_beat nf_Company_liars nf_Company_past nf_Company_waits Q_zap Q_zav Q_zbn Q_zac Q_zbb N_any N_len N_list cl_Company
 have Q_zad_2_few_error_liars_waiting:NewD l.prog w K mg base (tb K C) 11 "Company" 8 ["self","clocks","few","error","liars","waiting"] ["few","error","liars","waiting"] 2 4 [.p 0,.p 1,.k 0,.k 1,.k 2,.k 3] [] D_zad:=⟨f_zad,_,[],[],ok_zad_,⟨o_Company_mk,a_zad,i_zad,o_Company_kp⟩,A_Company,jH (dV:=[]) (ds:=[]) .nil (fun s us ws KX h1 h2=>by obtain ⟨u0,u1,rfl⟩:=ln2 h1; obtain ⟨w0,w1,w2,w3,rfl⟩:=ln4 h2; exact .of_eq rfl),fun W hW=>rfl⟩
 have ok_zaq_:=ok_zaq (P:=l.prog) (w:=w) (mg:=mg) (base:=base) (C:=C) F_zaq Q_zbk Q_zba Q_zai_1_first_rate Q_zad_2_few_error_liars_waiting N_list N_range
 have Q_zaq:CalD l.prog w K mg base (tb K C) "_law_company" 10 ["_law_town_here","_law_some","_law_crew","_law_wrong","_law_wait"] [] 5 0 [.p 0,.p 1,.p 2,.p 3,.p 4] [] D_zaq:=⟨f_zaq,_,[],[],ok_zaq_,PySem.W.mg_of X G a_zaq,k_zaq,jH (dV:=[]) (ds:=[]) .nil (fun s us ws KX h1 h2=>by obtain ⟨u0,u1,u2,u3,u4,rfl⟩:=ln5 h1; obtain rfl:=ln0 h2; exact .of_eq rfl),fun W hW=>rfl⟩
 have ok_zbc_:=ok_zbc (P:=l.prog) (w:=w) (mg:=mg) (base:=base) (C:=C) F_zbc C_LAST_BEAT Q_zan
 have Q_zbc:CalD l.prog w K mg base (tb K C) "check_beat" 4 ["beat"] [] 1 0 [.p 0] [] D_zbc:=⟨f_zbc,_,[],[],ok_zbc_,PySem.W.mg_of X G a_zbc,k_zbc,jH (dV:=[]) (ds:=[]) .nil (fun s us ws KX h1 h2=>by obtain ⟨u0,rfl⟩:=ln1 h1; obtain rfl:=ln0 h2; exact .of_eq rfl),fun W hW=>rfl⟩
 have ok_zbp_:=ok_zbp (P:=l.prog) (w:=w) (mg:=mg) (base:=base) (C:=C) F_zbp C_PARTS nf_Clock_first nf_Clock_rate Q_zbc cl_Clock
 have Q_zbp:MetD l.prog w K mg base (tb K C) 10 "raw" 5 ["self","beat"] [] 2 0 [.p 0,.p 1] [] D_zbp:=⟨f_zbp,_,[],[],ok_zbp_,⟨a_zbp,i_zbp,k_zbp⟩,cl_Clock,jH (dV:=[]) (ds:=[]) .nil (fun s us ws KX h1 h2=>by obtain ⟨u0,u1,rfl⟩:=ln2 h1; obtain rfl:=ln0 h2; exact .of_eq rfl),fun W hW=>rfl⟩
 have ok_zaw_:=ok_zaw (P:=l.prog) (w:=w) (mg:=mg) (base:=base) (C:=C) F_zaw nf_Clock_turned Q_zbp cl_Clock
 have Q_zaw:MetD l.prog w K mg base (tb K C) 10 "shows" 6 ["self","beat"] [] 2 0 [.p 0,.p 1] [] xE:=⟨f_zaw,_,[],[],ok_zaw_,⟨a_zaw,i_zaw,k_zaw⟩,cl_Clock,jH (dV:=[]) (ds:=[]) .nil (fun s us ws KX h1 h2=>by obtain ⟨u0,u1,rfl⟩:=ln2 h1; obtain rfl:=ln0 h2; exact .of_eq rfl),fun W hW=>rfl⟩
 have ok_zaf_:=ok_zaf (P:=l.prog) (w:=w) (mg:=mg) (base:=base) (C:=C) F_zaf nf_Company_clocks nf_Company_waits N_len N_range cl_Company
 have Q_zaf:MetD l.prog w K mg base (tb K C) 11 "members" 1 ["self"] [] 1 0 [.p 0] [] xR:=⟨f_zaf,_,[],[],ok_zaf_,⟨a_zaf,i_zaf,k_zaf⟩,cl_Company,jH (dV:=[]) (ds:=[]) .nil (fun s us ws KX h1 h2=>by obtain ⟨u0,rfl⟩:=ln1 h1; obtain rfl:=ln0 h2; exact .of_eq rfl),fun W hW=>rfl⟩
 have ok_zaj_:=ok_zaj (P:=l.prog) (w:=w) (mg:=mg) (base:=base) (C:=C) F_zaj nf_Company_liars Q_zaf cl_Company
 have Q_zaj:MetD l.prog w K mg base (tb K C) 11 "honest" 2 ["self"] [] 1 0 [.p 0] [] vS:=⟨f_zaj,_,[],[],ok_zaj_,⟨a_zaj,i_zaj,k_zaj⟩,cl_Company,jH (dV:=[]) (ds:=[]) .nil (fun s us ws KX h1 h2=>by obtain ⟨u0,rfl⟩:=ln1 h1; obtain rfl:=ln0 h2; exact .of_eq rfl),fun W hW=>rfl⟩
 have ok_zae_:=ok_zae (P:=l.prog) (w:=w) (mg:=mg) (base:=base) (C:=C) F_zae nf_Company_clocks Q_zaw Q_zaj cl_Company
 have Q_zae:MetD l.prog w K mg base (tb K C) 11 "readings" 7 ["self","beat"] [] 2 0 [.p 0,.p 1] [] Xl:=⟨f_zae,_,[],[],ok_zae_,⟨a_zae,i_zae,k_zae⟩,cl_Company,jH (dV:=[]) (ds:=[]) .nil (fun s us ws KX h1 h2=>by obtain ⟨u0,u1,rfl⟩:=ln2 h1; obtain rfl:=ln0 h2; exact .of_eq rfl),fun W hW=>rfl⟩
 have ok_zax_:=ok_zax (P:=l.prog) (w:=w) (mg:=mg) (base:=base) (C:=C) F_zax Q_zbk Q_zbl
 have Q_zax:CalD l.prog w K mg base (tb K C) "_law_number" 3 ["_law_town_here"] [] 1 0 [.p 0] [] D_zax:=⟨f_zax,_,[],[],ok_zax_,PySem.W.mg_of X G a_zax,k_zax,jH (dV:=[]) (ds:=[]) .nil (fun s us ws KX h1 h2=>by obtain ⟨u0,rfl⟩:=ln1 h1; obtain rfl:=ln0 h2; exact .of_eq rfl),fun W hW=>rfl⟩
 have ok_zbq_:=ok_zbq (P:=l.prog) (w:=w) (mg:=mg) (base:=base) (C:=C) F_zbq Q_zbk Q_zax Q_zbl N_max N_min N_range
 have Q_zbq:CalD l.prog w K mg base (tb K C) "_law_lies" 4 ["_law_town_here","_law_crew","_law_foes","_law_worths"] [] 4 0 [.p 0,.p 1,.p 2,.p 3] [] D_zbq:=⟨f_zbq,_,[],[],ok_zbq_,PySem.W.mg_of X G a_zbq,k_zbq,jH (dV:=[]) (ds:=[]) .nil (fun s us ws KX h1 h2=>by obtain ⟨u0,u1,u2,u3,rfl⟩:=ln4 h1; obtain rfl:=ln0 h2; exact .of_eq rfl),fun W hW=>rfl⟩
 have ok_zbd_:=ok_zbd (P:=l.prog) (w:=w) (mg:=mg) (base:=base) (C:=C) F_zbd Q_zbk Q_zbl N_range
 have Q_zbd:CalD l.prog w K mg base (tb K C) "_law_slips" 3 ["_law_town_here","_law_size","_law_wrong"] [] 3 0 [.p 0,.p 1,.p 2] [] D_zbd:=⟨f_zbd,_,[],[],ok_zbd_,PySem.W.mg_of X G a_zbd,k_zbd,jH (dV:=[]) (ds:=[]) .nil (fun s us ws KX h1 h2=>by obtain ⟨u0,u1,u2,rfl⟩:=ln3 h1; obtain rfl:=ln0 h2; exact .of_eq rfl),fun W hW=>rfl⟩
 have ok_zay_:=ok_zay (P:=l.prog) (w:=w) (mg:=mg) (base:=base) (C:=C) F_zay Q_zbu
 have Q_zay:CalD l.prog w K mg base (tb K C) "check_house" 4 ["house","houses"] [] 2 0 [.p 0,.p 1] [] D_zay:=⟨f_zay,_,[],[],ok_zay_,PySem.W.mg_of X G a_zay,k_zay,jH (dV:=[]) (ds:=[]) .nil (fun s us ws KX h1 h2=>by obtain ⟨u0,u1,rfl⟩:=ln2 h1; obtain rfl:=ln0 h2; exact .of_eq rfl),fun W hW=>rfl⟩
 have ok_zar_:=ok_zar (P:=l.prog) (w:=w) (mg:=mg) (base:=base) (C:=C) F_zar Q_zay
 have Q_zar:CalD l.prog w K mg base (tb K C) "check_honest" 5 ["house","houses","liars"] [] 3 0 [.p 0,.p 1,.p 2] [] Yu:=⟨f_zar,_,[],[],ok_zar_,PySem.W.mg_of X G a_zar,k_zar,jH (dV:=[]) (ds:=[]) .nil (fun s us ws KX h1 h2=>by obtain ⟨u0,u1,u2,rfl⟩:=ln3 h1; obtain rfl:=ln0 h2; exact .of_eq rfl),fun W hW=>rfl⟩
 have ok_zak_:=ok_zak (P:=l.prog) (w:=w) (mg:=mg) (base:=base) (C:=C) F_zak nf_Company_clocks nf_Company_liars Q_zar Q_zaw N_len cl_Company
 have Q_zak:MetD l.prog w K mg base (tb K C) 11 "shows" 7 ["self","house","beat"] [] 3 0 [.p 0,.p 1,.p 2] [] uA:=⟨f_zak,_,[],[],ok_zak_,⟨a_zak,i_zak,k_zak⟩,cl_Company,jH (dV:=[]) (ds:=[]) .nil (fun s us ws KX h1 h2=>by obtain ⟨u0,u1,u2,rfl⟩:=ln3 h1; obtain rfl:=ln0 h2; exact .of_eq rfl),fun W hW=>rfl⟩
 have ok_zaz_:=ok_zaz (P:=l.prog) (w:=w) (mg:=mg) (base:=base) (C:=C) F_zaz N_len N_range N_sorted
 have Q_zaz:CalD l.prog w K mg base (tb K C) "_law_middle" 1 ["_law_worths","_law_some"] [] 2 0 [.p 0,.p 1] [] Yt:=⟨f_zaz,_,[],[],ok_zaz_,PySem.W.mg_of X G a_zaz,k_zaz,jH (dV:=[]) (ds:=[]) .nil (fun s us ws KX h1 h2=>by obtain ⟨u0,u1,rfl⟩:=ln2 h1; obtain rfl:=ln0 h2; exact .of_eq rfl),fun W hW=>rfl⟩
 have ok_zbe_:=ok_zbe (P:=l.prog) (w:=w) (mg:=mg) (base:=base) (C:=C) F_zbe 
 have Q_zbe:CalD l.prog w K mg base (tb K C) "_law_reads" 1 ["_law_house","_law_inside","_law_shown","_law_foes","_law_tales","_law_slips_here"] [] 6 0 [.p 0,.p 1,.p 2,.p 3,.p 4,.p 5] [] Ys:=⟨f_zbe,_,[],[],ok_zbe_,PySem.W.mg_of X G a_zbe,k_zbe,jH (dV:=[]) (ds:=[]) .nil (fun s us ws KX h1 h2=>by obtain ⟨u0,u1,u2,u3,u4,u5,rfl⟩:=ln6 h1; obtain rfl:=ln0 h2; exact .of_eq rfl),fun W hW=>rfl⟩
 have ok_zbw_:=ok_zbw (P:=l.prog) (w:=w) (mg:=mg) (base:=base) (C:=C) F_zbw N_isinstance N_len N_tuple
 have Q_zbw:CalD l.prog w K mg base (tb K C) "is_pair" 1 ["thing"] [] 1 0 [.p 0] [] Xg:=⟨f_zbw,_,[],[],ok_zbw_,PySem.W.mg_of X G a_zbw,k_zbw,jH (dV:=[]) (ds:=[]) .nil (fun s us ws KX h1 h2=>by obtain ⟨u0,rfl⟩:=ln1 h1; obtain rfl:=ln0 h2; exact .of_eq rfl),fun W hW=>rfl⟩
 have ok_zbx_:=ok_zbx (P:=l.prog) (w:=w) (mg:=mg) (base:=base) (C:=C) F_zbx Q_zbu Q_zbw
 have Q_zbx:CalD l.prog w K mg base (tb K C) "is_key" 4 ["thing","liars","houses"] [] 3 0 [.p 0,.p 1,.p 2] [] D_zbx:=⟨f_zbx,_,[],[],ok_zbx_,PySem.W.mg_of X G a_zbx,k_zbx,jH (dV:=[]) (ds:=[]) .nil (fun s us ws KX h1 h2=>by obtain ⟨u0,u1,u2,rfl⟩:=ln3 h1; obtain rfl:=ln0 h2; exact .of_eq rfl),fun W hW=>rfl⟩
 have ok_zbr_:=ok_zbr (P:=l.prog) (w:=w) (mg:=mg) (base:=base) (C:=C) F_zbr C_FARTHEST Q_zbm
 have Q_zbr:CalD l.prog w K mg base (tb K C) "is_number" 3 ["thing"] [] 1 0 [.p 0] [] D_zbr:=⟨f_zbr,_,[],[],ok_zbr_,PySem.W.mg_of X G a_zbr,k_zbr,jH (dV:=[]) (ds:=[]) .nil (fun s us ws KX h1 h2=>by obtain ⟨u0,rfl⟩:=ln1 h1; obtain rfl:=ln0 h2; exact .of_eq rfl),fun W hW=>rfl⟩
 have ok_zbf_:=ok_zbf (P:=l.prog) (w:=w) (mg:=mg) (base:=base) (C:=C) F_zbf X_BadLies Q_zbx Q_zbr N_all N_dict N_isinstance
 have Q_zbf:CalD l.prog w K mg base (tb K C) "check_lies" 5 ["lies","liars","houses"] [] 3 0 [.p 0,.p 1,.p 2] [] D_zbf:=⟨f_zbf,_,[],[],ok_zbf_,PySem.W.mg_of X G a_zbf,k_zbf,jH (dV:=[]) (ds:=[]) .nil (fun s us ws KX h1 h2=>by obtain ⟨u0,u1,u2,rfl⟩:=ln3 h1; obtain rfl:=ln0 h2; exact .of_eq rfl),fun W hW=>rfl⟩
 have ok_zbg_:=ok_zbg (P:=l.prog) (w:=w) (mg:=mg) (base:=base) (C:=C) F_zbg Q_zbu Q_zbw
 have Q_zbg:CalD l.prog w K mg base (tb K C) "is_off_key" 4 ["thing","houses"] [] 2 0 [.p 0,.p 1] [] D_zbg:=⟨f_zbg,_,[],[],ok_zbg_,PySem.W.mg_of X G a_zbg,k_zbg,jH (dV:=[]) (ds:=[]) .nil (fun s us ws KX h1 h2=>by obtain ⟨u0,u1,rfl⟩:=ln2 h1; obtain rfl:=ln0 h2; exact .of_eq rfl),fun W hW=>rfl⟩
 have ok_zbh_:=ok_zbh (P:=l.prog) (w:=w) (mg:=mg) (base:=base) (C:=C) F_zbh X_BadLies Q_zbg Q_zbm N_all N_dict N_isinstance
 have Q_zbh:CalD l.prog w K mg base (tb K C) "check_offs" 5 ["offs","error","houses"] [] 3 0 [.p 0,.p 1,.p 2] [] D_zbh:=⟨f_zbh,_,[],[],ok_zbh_,PySem.W.mg_of X G a_zbh,k_zbh,jH (dV:=[]) (ds:=[]) .nil (fun s us ws KX h1 h2=>by obtain ⟨u0,u1,u2,rfl⟩:=ln3 h1; obtain rfl:=ln0 h2; exact .of_eq rfl),fun W hW=>rfl⟩
 have ok_zaa_:=ok_zaa (P:=l.prog) (w:=w) (mg:=mg) (base:=base) (C:=C) F_zaa C_LAST_BEAT nf_Company_clocks nf_Company_error nf_Company_last_beat nf_Company_liars Q_zbf Q_zbh Q_zan N_len cl_Company
 have Q_zaa:MetD l.prog w K mg base (tb K C) 11 "check_reading" 6 ["self","beat","lies","offs"] [] 4 0 [.p 0,.p 1,.p 2,.p 3] [] D_zaa:=⟨f_zaa,_,[],[],ok_zaa_,⟨a_zaa,i_zaa,k_zaa⟩,cl_Company,jH (dV:=[]) (ds:=[]) .nil (fun s us ws KX h1 h2=>by obtain ⟨u0,u1,u2,u3,rfl⟩:=ln4 h1; obtain rfl:=ln0 h2; exact .of_eq rfl),fun W hW=>rfl⟩
 have ok_zas_:=ok_zas (P:=l.prog) (w:=w) (mg:=mg) (base:=base) (C:=C) F_zas nf_Clock_turned Q_zaw cl_Clock
 have Q_zas:MetD l.prog w K mg base (tb K C) 10 "set_to" 7 ["self","reading","beat"] [] 3 0 [.p 0,.p 1,.p 2] [] Js:=⟨f_zas,_,[],[],ok_zas_,⟨a_zas,i_zas,k_zas⟩,cl_Clock,jH (dV:=[]) (ds:=[]) .nil (fun s us ws KX h1 h2=>by obtain ⟨u0,u1,u2,rfl⟩:=ln3 h1; obtain rfl:=ln0 h2; exact .of_eq rfl),fun W hW=>rfl⟩
 have ok_zag_:=ok_zag (P:=l.prog) (w:=w) (mg:=mg) (base:=base) (C:=C) F_zag nf_Company_clocks nf_Company_liars Q_zaw cl_Company
 have Q_zag:MetD l.prog w K mg base (tb K C) 11 "read_of" 7 ["self","house","reader","beat","lies","offs"] [] 6 0 [.p 0,.p 1,.p 2,.p 3,.p 4,.p 5] [] D_zag:=⟨f_zag,_,[],[],ok_zag_,⟨a_zag,i_zag,k_zag⟩,cl_Company,jH (dV:=[]) (ds:=[]) .nil (fun s us ws KX h1 h2=>by obtain ⟨u0,u1,u2,u3,u4,u5,rfl⟩:=ln6 h1; obtain rfl:=ln0 h2; exact .of_eq rfl),fun W hW=>rfl⟩
 have ok_zbv_:=ok_zbv (P:=l.prog) (w:=w) (mg:=mg) (base:=base) (C:=C) F_zbv 
 have Q_zbv:CalD l.prog w K mg base (tb K C) "half_way" 1 ["left"] [] 1 0 [.p 0] [] D_zbv:=⟨f_zbv,_,[],[],ok_zbv_,PySem.W.mg_of X G a_zbv,k_zbv,jH (dV:=[]) (ds:=[]) .nil (fun s us ws KX h1 h2=>by obtain ⟨u0,rfl⟩:=ln1 h1; obtain rfl:=ln0 h2; exact .of_eq rfl),fun W hW=>rfl⟩
 have ok_zat_:=ok_zat (P:=l.prog) (w:=w) (mg:=mg) (base:=base) (C:=C) F_zat N_len N_sorted
 have Q_zat:CalD l.prog w K mg base (tb K C) "without_ends" 1 ["worths","few"] [] 2 0 [.p 0,.p 1] [] D_zat:=⟨f_zat,_,[],[],ok_zat_,PySem.W.mg_of X G a_zat,k_zat,jH (dV:=[]) (ds:=[]) .nil (fun s us ws KX h1 h2=>by obtain ⟨u0,u1,rfl⟩:=ln2 h1; obtain rfl:=ln0 h2; exact .of_eq rfl),fun W hW=>rfl⟩
 have ok_zab_:=ok_zab (P:=l.prog) (w:=w) (mg:=mg) (base:=base) (C:=C) F_zab nf_Company_few Q_zbv Q_zat Q_zaf Q_zag cl_Company
 have Q_zab:MetD l.prog w K mg base (tb K C) 11 "middle_read" 8 ["self","reader","beat","lies","offs"] [] 5 0 [.p 0,.p 1,.p 2,.p 3,.p 4] [] Xm:=⟨f_zab,_,[],[],ok_zab_,⟨a_zab,i_zab,k_zab⟩,cl_Company,jH (dV:=[]) (ds:=[]) .nil (fun s us ws KX h1 h2=>by obtain ⟨u0,u1,u2,u3,u4,rfl⟩:=ln5 h1; obtain rfl:=ln0 h2; exact .of_eq rfl),fun W hW=>rfl⟩
 have ok_zal_:=ok_zal (P:=l.prog) (w:=w) (mg:=mg) (base:=base) (C:=C) F_zal X_NotNow nf_Company_clocks nf_Company_last_beat nf_Company_liars nf_Company_waits Q_zar Q_zas Q_zaa Q_zab N_len cl_Company
 have Q_zal_4_offs:MetD l.prog w K mg base (tb K C) 11 "enter" 9 ["self","house","beat","lies","offs"] ["offs"] 4 1 [.p 0,.p 1,.p 2,.p 3,.k 0] [] D_zal:=⟨f_zal,_,[],[],ok_zal_,⟨a_zal,i_zal,k_zal⟩,cl_Company,jH (dV:=[]) (ds:=[]) .nil (fun s us ws KX h1 h2=>by obtain ⟨u0,u1,u2,u3,rfl⟩:=ln4 h1; obtain ⟨w0,rfl⟩:=ln1 h2; exact .of_eq rfl),fun W hW=>rfl⟩
 have ok_zau_:=ok_zau (P:=l.prog) (w:=w) (mg:=mg) (base:=base) (C:=C) F_zau nf_Company_clocks nf_Company_last_beat nf_Company_past Q_zas Q_zaa Q_zaj Q_zab N_list N_zip cl_Company
 have Q_zau_3_offs:MetD l.prog w K mg base (tb K C) 11 "meet" 9 ["self","beat","lies","offs"] ["offs"] 3 1 [.p 0,.p 1,.p 2,.k 0] [] Xj:=⟨f_zau,_,[],[],ok_zau_,⟨a_zau,i_zau,k_zau⟩,cl_Company,jH (dV:=[]) (ds:=[]) .nil (fun s us ws KX h1 h2=>by obtain ⟨u0,u1,u2,rfl⟩:=ln3 h1; obtain ⟨w0,rfl⟩:=ln1 h2; exact .of_eq rfl),fun W hW=>rfl⟩
 have ok_zam_:=ok_zam (P:=l.prog) (w:=w) (mg:=mg) (base:=base) (C:=C) F_zam X_NotNow nf_Company_clocks nf_Company_few nf_Company_liars nf_Company_waits Q_zar Q_zaf N_len cl_Company
 have Q_zam:MetD l.prog w K mg base (tb K C) 11 "leave" 6 ["self","house"] [] 2 0 [.p 0,.p 1] [] D_zam:=⟨f_zam,_,[],[],ok_zam_,⟨a_zam,i_zam,k_zam⟩,cl_Company,jH (dV:=[]) (ds:=[]) .nil (fun s us ws KX h1 h2=>by obtain ⟨u0,u1,rfl⟩:=ln2 h1; obtain rfl:=ln0 h2; exact .of_eq rfl),fun W hW=>rfl⟩
 have ok_zbs_:=ok_zbs (P:=l.prog) (w:=w) (mg:=mg) (base:=base) (C:=C) F_zbs Q_zbl Q_zam N_len
 have Q_zbs:CalD l.prog w K mg base (tb K C) "_law_left" 7 ["_law_town_here","_law_company_here","_law_inside","_law_foes","_law_waits","_law_some"] [] 6 0 [.p 0,.p 1,.p 2,.p 3,.p 4,.p 5] [] Xh:=⟨f_zbs,_,[],[],ok_zbs_,PySem.W.mg_of X G a_zbs,k_zbs,jH (dV:=[]) (ds:=[]) .nil (fun s us ws KX h1 h2=>by obtain ⟨u0,u1,u2,u3,u4,u5,rfl⟩:=ln6 h1; obtain rfl:=ln0 h2; exact .of_eq rfl),fun W hW=>rfl⟩
 have ok_zbi_:=ok_zbi (P:=l.prog) (w:=w) (mg:=mg) (base:=base) (C:=C) F_zbi N_bool N_int N_isinstance
 have Q_zbi:CalD l.prog w K mg base (tb K C) "_law_whole" 1 ["_law_thing"] [] 1 0 [.p 0] [] D_zbi:=⟨f_zbi,_,[],[],ok_zbi_,PySem.W.mg_of X G a_zbi,k_zbi,jH (dV:=[]) (ds:=[]) .nil (fun s us ws KX h1 h2=>by obtain ⟨u0,rfl⟩:=ln1 h1; obtain rfl:=ln0 h2; exact .of_eq rfl),fun W hW=>rfl⟩
 have ok_zah_:=ok_zah (P:=l.prog) (w:=w) (mg:=mg) (base:=base) (C:=C) F_zah Q_zbi N_all N_isinstance N_list
 have Q_zah:CalD l.prog w K mg base (tb K C) "_law_whole_list" 2 ["_law_thing"] [] 1 0 [.p 0] [] D_zah:=⟨f_zah,_,[],[],ok_zah_,PySem.W.mg_of X G a_zah,k_zah,jH (dV:=[]) (ds:=[]) .nil (fun s us ws KX h1 h2=>by obtain ⟨u0,rfl⟩:=ln1 h1; obtain rfl:=ln0 h2; exact .of_eq rfl),fun W hW=>rfl⟩
 exact law_sp (C:=C) (ok_law F_law Q_zaq Q_zbk Q_zbs Q_zbq Q_zaz Q_zbl Q_zbe Q_zbd Q_zbj Q_zah Q_zaw Q_zal_4_offs Q_zaj Q_zau_3_offs Q_zaf Q_zae Q_zak N_len N_list N_max N_min N_range N_sorted)
theorem walk {l:PySem.W.OpenLaw} {q:Program} {loose:List Str} {XP:(Str->Option Value)->Heap->Prop} {YP:World->Heap->Prop} {d:DefRec} {K:Params->PySem.W.Frag} (hn:l.most=some 63) (hdf:d.params.defaults=[])
  (hY:∀ (w:World) (h:Heap),YP w h->(K w.params).In h)
  (F:∀ (w:World) (mg:Str->Option Value) (fa:Addr) (h:Heap),(K w.params).In h->h.Ns mainGlobals mg->mg d.name=some (.ref fa) ->
   ∃ fd:FuncData,(∀ (s:Shared) (u:Value),BindsTo s fd ⟨[u],[]⟩ [("_law_script",u)])∧∀ base:Heap,(K w.params).In base->base.Ns mainGlobals mg->FnOk l.prog w (K w.params) mg base CX0 11 fa fd ["_law_script"] (sp_law (K w.params))) :
  PySem.W.WalkO q loose XP YP l.row.toRowW d [] (fun f vs=>PySem.call f vs) :=
 L2.walk_of (n:=63) (k:=11) (x:="_law_script") (CX:=fun _=>CX0) (sp:=fun w=>sp_law (K w.params)) hn (by decide) hdf ⟨rfl,by decide,by decide⟩ hY F (fun _ _ a ns hl _ hS=>⟨a,ns,rfl,hS,hl,fun _=>rfl⟩) fun _ _ _ _ _ z=>z
theorem walk_x {q:Program} {loose:List Str} {XP:(Str->Option Value)->Heap->Prop} {K:Params->PySem.W.Frag} {as:List Addr} {n t:Nat} {r:PySem.W.RowW} {d:DefRec} {kwd:List (Str × Expr)} {run:Value->List Value->Sem Value} (e:∀ P:Params,as=(K P).map fun p=>p.1)
  (h:PySem.W.WalkO q loose XP (fun w h=>(K w.params).In h) r d kwd run):PySem.W.WalkX q loose XP (PySem.W.X.obsZ as) (PySem.W.X.valZ K n t) r d kwd run :=
 fun w s₀ s₁ mg mb G y a o pm cd doc dV kV ho hd hc hD hm hg args vals as' L hpre hlay hrd hwl hlo=>h w s₀ s₁ mg mb G (fun a o q=>L.keeps a o ((PySem.W.X.z_facts e y).2.1 a o q)) a o pm cd doc dV kV ho hd hc hD hm hg args vals as' hpre hlay hrd hwl hlo
end My
open PySem PySem.W PyProof.Rows
set_option maxRecDepth 100000 in
set_option maxHeartbeats 0 in
theorem PySem.Challenge.cw_liarclocks_k18_whole_joined_holds : PySem.Challenge.rw_liarclocks_k18_whole_joined.Holds := by
 w_on; o_law; refine PySem.W.holds_openX (q := MH.wr.view_945) (loose := [PySem.Str.ofString "Clock", PySem.Str.ofString "Company"]) (Xt := fun s => PySem.W.xlAt MH.wr.view_945 [] s && PySem.W.recOk (PySem.W.RowW.records (PySem.W.OpenRow.toRowW (PySem.W.OpenLaw.row PySem.Challenge.rw_liarclocks_k18_whole_joined))) s) (XP := PySem.W.XL MH.wr.view_945 []) (Yf := PySem.W.X.obsZ MH.as0) (Ya := PySem.W.X.valZ MH.wr.heap_463 491 835) MH.le_ok (fun s e => PySem.W.xl_of s (Bool.and_eq_true_iff.mp e).1) PySem.W.XL.keeps (by rfl) (by rfl) (by rfl) (fun s e => PySem.W.recFacts_of (Bool.and_eq_true_iff.mp e).2) (by rfl) (by first | assumption | decide +kernel) (by decide +kernel) ⟨rfl, rfl, rfl, rfl, rfl, by decide +kernel⟩ ?hw ?hc; (case hw => w_witness2)
 k_fill
 refine My.walk_x MH.as_eq (My.walk (l := PySem.Challenge.rw_liarclocks_k18_whole_joined) rfl rfl (fun w h Y => Y) ?F)
 case F =>
  intro w mg fa h KX G hmg
  refine' My.all_mk KX G hmg ?a_Clock ?o_Clock_pg ?o_Clock_hd ?o_Clock_po ?o_Clock_sa ?o_Clock_mk ?o_Clock_kp ?o_Clock_n_first ?o_Clock_n_rate ?o_Clock_n_turned ?a_Company ?o_Company_pg ?o_Company_hd ?o_Company_po ?o_Company_sa ?o_Company_mk ?o_Company_kp ?o_Company_n_clocks ?o_Company_n_error ?o_Company_n_few ?o_Company_n_last_beat ?o_Company_n_liars ?o_Company_n_past ?o_Company_n_waits ?a_zbj ?l_zbj ?c_zbj ?k_zbj ?a_zbk ?l_zbk ?c_zbk ?k_zbk ?a_zbl ?l_zbl ?c_zbl ?k_zbl ?a_zbt ?l_zbt ?c_zbt ?k_zbt ?a_zbm ?l_zbm ?c_zbm ?k_zbm ?a_zan ?l_zan ?c_zan ?k_zan ?a_zao ?l_zao ?c_zao ?k_zao ?a_zai ?i_zai ?l_zai ?c_zai ?k_zai ?kd_zai_first ?kd_zai_rate ?a_zba ?l_zba ?c_zba ?k_zba ?a_zap ?l_zap ?c_zap ?k_zap ?a_zbn ?l_zbn ?c_zbn ?k_zbn ?a_zav ?l_zav ?c_zav ?k_zav ?a_zbu ?l_zbu ?c_zbu ?k_zbu ?a_zbo ?l_zbo ?c_zbo ?k_zbo ?a_zac ?l_zac ?c_zac ?k_zac ?a_zbb ?i_zbb ?l_zbb ?c_zbb ?k_zbb ?a_zad ?i_zad ?l_zad ?c_zad ?k_zad ?kd_zad_error ?kd_zad_liars ?tu_zad_liars_o ?kd_zad_waiting ?tu_zad_waiting_o ?a_zaq ?l_zaq ?c_zaq ?k_zaq ?a_zbc ?l_zbc ?c_zbc ?k_zbc ?a_zbp ?i_zbp ?l_zbp ?c_zbp ?k_zbp ?a_zaw ?i_zaw ?l_zaw ?c_zaw ?k_zaw ?a_zaf ?i_zaf ?l_zaf ?c_zaf ?k_zaf ?a_zaj ?i_zaj ?l_zaj ?c_zaj ?k_zaj ?a_zae ?i_zae ?l_zae ?c_zae ?k_zae ?a_zax ?l_zax ?c_zax ?k_zax ?a_zbq ?l_zbq ?c_zbq ?k_zbq ?a_zbd ?l_zbd ?c_zbd ?k_zbd ?a_zay ?l_zay ?c_zay ?k_zay ?a_zar ?l_zar ?c_zar ?k_zar ?a_zak ?i_zak ?l_zak ?c_zak ?k_zak ?a_zaz ?l_zaz ?c_zaz ?k_zaz ?a_zbe ?l_zbe ?c_zbe ?k_zbe ?a_zbw ?l_zbw ?c_zbw ?k_zbw ?a_zbx ?l_zbx ?c_zbx ?k_zbx ?a_zbr ?l_zbr ?c_zbr ?k_zbr ?a_zbf ?l_zbf ?c_zbf ?k_zbf ?a_zbg ?l_zbg ?c_zbg ?k_zbg ?a_zbh ?l_zbh ?c_zbh ?k_zbh ?a_zaa ?i_zaa ?l_zaa ?c_zaa ?k_zaa ?a_zas ?i_zas ?l_zas ?c_zas ?k_zas ?a_zag ?i_zag ?l_zag ?c_zag ?k_zag ?a_zbv ?l_zbv ?c_zbv ?k_zbv ?a_zat ?l_zat ?c_zat ?k_zat ?a_zab ?i_zab ?l_zab ?c_zab ?k_zab ?a_zal ?i_zal ?l_zal ?c_zal ?k_zal ?kd_zal_offs ?a_zau ?i_zau ?l_zau ?c_zau ?k_zau ?kd_zau_offs ?a_zam ?i_zam ?l_zam ?c_zam ?k_zam ?a_zbs ?l_zbs ?c_zbs ?k_zbs ?a_zbi ?l_zbi ?c_zbi ?k_zbi ?a_zah ?l_zah ?c_zah ?k_zah ?a_law ?l_law ?c_law ?k_law ?n_FARTHEST ?n_LAST_BEAT ?n_MOST_ERROR ?n_MOST_FEW ?n_MOST_HOUSES ?n_MOST_RATE ?n_PARTS ?a_BadNumber ?a_BadLies ?a_BadHouses ?a_NoHouse ?a_NotNow ?a_LiarError ?e_BadHouses ?e_BadLies ?e_BadNumber ?e_NotNow ?z_all ?z_any ?z_bool ?z_dict ?z_int ?z_isinstance ?z_len ?z_list ?z_max ?z_min ?z_range ?z_sorted ?z_tuple ?z_zip
  (case a_Clock => k_is)
  (case o_Clock_pg => k_is)
  (case o_Clock_hd => k_is)
  (case o_Clock_po => k_is)
  (case o_Clock_sa => k_is)
  (case o_Clock_mk => k_is)
  (case o_Clock_kp => k_is)
  (case o_Clock_n_first => k_is)
  (case o_Clock_n_rate => k_is)
  (case o_Clock_n_turned => k_is)
  (case a_Company => k_is)
  (case o_Company_pg => k_is)
  (case o_Company_hd => k_is)
  (case o_Company_po => k_is)
  (case o_Company_sa => k_is)
  (case o_Company_mk => k_is)
  (case o_Company_kp => k_is)
  (case o_Company_n_clocks => k_is)
  (case o_Company_n_error => k_is)
  (case o_Company_n_few => k_is)
  (case o_Company_n_last_beat => k_is)
  (case o_Company_n_liars => k_is)
  (case o_Company_n_past => k_is)
  (case o_Company_n_waits => k_is)
  (case a_zbj => k_is)
  (case l_zbj => k_is)
  (case c_zbj => k_is)
  (case k_zbj => k_is)
  (case a_zbk => k_is)
  (case l_zbk => k_is)
  (case c_zbk => k_is)
  (case k_zbk => k_is)
  (case a_zbl => k_is)
  (case l_zbl => k_is)
  (case c_zbl => k_is)
  (case k_zbl => k_is)
  (case a_zbt => k_is)
  (case l_zbt => k_is)
  (case c_zbt => k_is)
  (case k_zbt => k_is)
  (case a_zbm => k_is)
  (case l_zbm => k_is)
  (case c_zbm => k_is)
  (case k_zbm => k_is)
  (case a_zan => k_is)
  (case l_zan => k_is)
  (case c_zan => k_is)
  (case k_zan => k_is)
  (case a_zao => k_is)
  (case l_zao => k_is)
  (case c_zao => k_is)
  (case k_zao => k_is)
  (case a_zai => k_is)
  (case i_zai => k_is)
  (case l_zai => k_is)
  (case c_zai => k_is)
  (case k_zai => k_is)
  (case kd_zai_first => k_is)
  (case kd_zai_rate => k_is)
  (case a_zba => k_is)
  (case l_zba => k_is)
  (case c_zba => k_is)
  (case k_zba => k_is)
  (case a_zap => k_is)
  (case l_zap => k_is)
  (case c_zap => k_is)
  (case k_zap => k_is)
  (case a_zbn => k_is)
  (case l_zbn => k_is)
  (case c_zbn => k_is)
  (case k_zbn => k_is)
  (case a_zav => k_is)
  (case l_zav => k_is)
  (case c_zav => k_is)
  (case k_zav => k_is)
  (case a_zbu => k_is)
  (case l_zbu => k_is)
  (case c_zbu => k_is)
  (case k_zbu => k_is)
  (case a_zbo => k_is)
  (case l_zbo => k_is)
  (case c_zbo => k_is)
  (case k_zbo => k_is)
  (case a_zac => k_is)
  (case l_zac => k_is)
  (case c_zac => k_is)
  (case k_zac => k_is)
  (case a_zbb => k_is)
  (case i_zbb => k_is)
  (case l_zbb => k_is)
  (case c_zbb => k_is)
  (case k_zbb => k_is)
  (case a_zad => k_is)
  (case i_zad => k_is)
  (case l_zad => k_is)
  (case c_zad => k_is)
  (case k_zad => k_is)
  (case kd_zad_error => k_is)
  (case kd_zad_liars => k_is)
  (case tu_zad_liars_o => k_is)
  (case kd_zad_waiting => k_is)
  (case tu_zad_waiting_o => k_is)
  (case a_zaq => k_is)
  (case l_zaq => k_is)
  (case c_zaq => k_is)
  (case k_zaq => k_is)
  (case a_zbc => k_is)
  (case l_zbc => k_is)
  (case c_zbc => k_is)
  (case k_zbc => k_is)
  (case a_zbp => k_is)
  (case i_zbp => k_is)
  (case l_zbp => k_is)
  (case c_zbp => k_is)
  (case k_zbp => k_is)
  (case a_zaw => k_is)
  (case i_zaw => k_is)
  (case l_zaw => k_is)
  (case c_zaw => k_is)
  (case k_zaw => k_is)
  (case a_zaf => k_is)
  (case i_zaf => k_is)
  (case l_zaf => k_is)
  (case c_zaf => k_is)
  (case k_zaf => k_is)
  (case a_zaj => k_is)
  (case i_zaj => k_is)
  (case l_zaj => k_is)
  (case c_zaj => k_is)
  (case k_zaj => k_is)
  (case a_zae => k_is)
  (case i_zae => k_is)
  (case l_zae => k_is)
  (case c_zae => k_is)
  (case k_zae => k_is)
  (case a_zax => k_is)
  (case l_zax => k_is)
  (case c_zax => k_is)
  (case k_zax => k_is)
  (case a_zbq => k_is)
  (case l_zbq => k_is)
  (case c_zbq => k_is)
  (case k_zbq => k_is)
  (case a_zbd => k_is)
  (case l_zbd => k_is)
  (case c_zbd => k_is)
  (case k_zbd => k_is)
  (case a_zay => k_is)
  (case l_zay => k_is)
  (case c_zay => k_is)
  (case k_zay => k_is)
  (case a_zar => k_is)
  (case l_zar => k_is)
  (case c_zar => k_is)
  (case k_zar => k_is)
  (case a_zak => k_is)
  (case i_zak => k_is)
  (case l_zak => k_is)
  (case c_zak => k_is)
  (case k_zak => k_is)
  (case a_zaz => k_is)
  (case l_zaz => k_is)
  (case c_zaz => k_is)
  (case k_zaz => k_is)
  (case a_zbe => k_is)
  (case l_zbe => k_is)
  (case c_zbe => k_is)
  (case k_zbe => k_is)
  (case a_zbw => k_is)
  (case l_zbw => k_is)
  (case c_zbw => k_is)
  (case k_zbw => k_is)
  (case a_zbx => k_is)
  (case l_zbx => k_is)
  (case c_zbx => k_is)
  (case k_zbx => k_is)
  (case a_zbr => k_is)
  (case l_zbr => k_is)
  (case c_zbr => k_is)
  (case k_zbr => k_is)
  (case a_zbf => k_is)
  (case l_zbf => k_is)
  (case c_zbf => k_is)
  (case k_zbf => k_is)
  (case a_zbg => k_is)
  (case l_zbg => k_is)
  (case c_zbg => k_is)
  (case k_zbg => k_is)
  (case a_zbh => k_is)
  (case l_zbh => k_is)
  (case c_zbh => k_is)
  (case k_zbh => k_is)
  (case a_zaa => k_is)
  (case i_zaa => k_is)
  (case l_zaa => k_is)
  (case c_zaa => k_is)
  (case k_zaa => k_is)
  (case a_zas => k_is)
  (case i_zas => k_is)
  (case l_zas => k_is)
  (case c_zas => k_is)
  (case k_zas => k_is)
  (case a_zag => k_is)
  (case i_zag => k_is)
  (case l_zag => k_is)
  (case c_zag => k_is)
  (case k_zag => k_is)
  (case a_zbv => k_is)
  (case l_zbv => k_is)
  (case c_zbv => k_is)
  (case k_zbv => k_is)
  (case a_zat => k_is)
  (case l_zat => k_is)
  (case c_zat => k_is)
  (case k_zat => k_is)
  (case a_zab => k_is)
  (case i_zab => k_is)
  (case l_zab => k_is)
  (case c_zab => k_is)
  (case k_zab => k_is)
  (case a_zal => k_is)
  (case i_zal => k_is)
  (case l_zal => k_is)
  (case c_zal => k_is)
  (case k_zal => k_is)
  (case kd_zal_offs => k_is)
  (case a_zau => k_is)
  (case i_zau => k_is)
  (case l_zau => k_is)
  (case c_zau => k_is)
  (case k_zau => k_is)
  (case kd_zau_offs => k_is)
  (case a_zam => k_is)
  (case i_zam => k_is)
  (case l_zam => k_is)
  (case c_zam => k_is)
  (case k_zam => k_is)
  (case a_zbs => k_is)
  (case l_zbs => k_is)
  (case c_zbs => k_is)
  (case k_zbs => k_is)
  (case a_zbi => k_is)
  (case l_zbi => k_is)
  (case c_zbi => k_is)
  (case k_zbi => k_is)
  (case a_zah => k_is)
  (case l_zah => k_is)
  (case c_zah => k_is)
  (case k_zah => k_is)
  (case a_law => k_is)
  (case l_law => k_is)
  (case c_law => k_is)
  (case k_law => k_is)
  (case n_FARTHEST => k_is)
  (case n_LAST_BEAT => k_is)
  (case n_MOST_ERROR => k_is)
  (case n_MOST_FEW => k_is)
  (case n_MOST_HOUSES => k_is)
  (case n_MOST_RATE => k_is)
  (case n_PARTS => k_is)
  (case a_BadNumber => k_is)
  (case a_BadLies => k_is)
  (case a_BadHouses => k_is)
  (case a_NoHouse => k_is)
  (case a_NotNow => k_is)
  (case a_LiarError => k_is)
  (case e_BadHouses => k_exc)
  (case e_BadLies => k_exc)
  (case e_BadNumber => k_exc)
  (case e_NotNow => k_exc)
  (case z_all => k_is)
  (case z_any => k_is)
  (case z_bool => k_is)
  (case z_dict => k_is)
  (case z_int => k_is)
  (case z_isinstance => k_is)
  (case z_len => k_is)
  (case z_list => k_is)
  (case z_max => k_is)
  (case z_min => k_is)
  (case z_range => k_is)
  (case z_sorted => k_is)
  (case z_tuple => k_is)
  (case z_zip => k_is)
