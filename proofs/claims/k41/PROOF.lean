import PyProof.Rows.All
import Wide.All
import OpenK.AllK
import Wide.FinOn
import Lean
import PyProof.EqAt
import PyProof.EqKinds
import PyProof.TupleCall
import PySem.Challenge.RW_liarclocks_k41_whole_in_time
set_option Elab.async false
set_option linter.all false
set_option maxRecDepth 100000
set_option maxHeartbeats 4000000
namespace MH
open PySem PySem.W
def goT (tb : String → Option Builtin) (p : Program) (w : World) (n₀ : Nat) (ann : Option Value) : Nat → SharedT → Thread → Option SharedT
  | 0, _, _ => none
  | m + 1, s, th => match through th with
    | true => some s
    | false => match stepOk n₀ ann th with
      | false => none
      | true => match stepT (denote tb) p w s th with
        | some (s', th') => goT tb p w n₀ ann m s' th'
        | none => none
theorem jir {tb : String → Option Builtin} {p : Program} {w : World} {n₀ : Nat} {ann : Option Value} {m : Nat} : ∀ {s r : SharedT} {th : Thread}, goT tb p w n₀ ann m s th = some r → topRun tb p w n₀ ann m s.abs th = some r.abs := by
  induction m with
  | zero => intro s r th h; cases h
  | succ m ih =>
    intro s r th h
    unfold goT at h
    unfold topRun
    cases he : through th with
    | true => rw [he] at h; cases h; rfl
    | false =>
      rw [he] at h
      cases hk : stepOk n₀ ann th with
      | false => rw [hk] at h; cases h
      | true =>
        rw [hk] at h
        cases hs : stepT (denote tb) p w s th with
        | none => rw [hs] at h; cases h
        | some x => obtain ⟨s₂, t₂⟩ := x; rw [hs] at h; dsimp only; rw [stepT_spec hs]; exact ih h
def toTree (l : List Obj) : BT × Nat := l.foldl (fun t o => (t.1.ins t.2 o, t.2 + 1)) (.nil, 0)
def jcp (h : Heap) (d : Drawn) (k : Nat) (os : OsState) : SharedT := ⟨(toTree h.objs.toList).1, h.objs.toList.length, h.life, #[], d, k, os⟩
def jeD (p q : Program) (loose : List Str) (lv : List (Str × WData)) (R : WRecords) (as : List Addr) (h₀ : Heap) (s : Shared) :=
  ((staticsOk (importedModules p.main.body) h₀ s.heap && namesBound p s.heap && gensDone s && laidKept h₀ s.heap), openSeen q loose (importedModules p.main.body) (fun s => xlAt q lv s && recOk R s) true s, PySem.W.X.obsZ as s)
def E (p q : Program) (loose : List Str) (lv : List (Str × WData)) (R : WRecords) (as : List Addr) (m₀ : Nat) (ann : Option Value) (M : Nat) (h₀ : Heap) (d : Drawn) (k : Nat) (w : World) (os : OsState) :=
  (goT treeTable p w m₀ ann M (jcp h₀ d k os) (topStub p)).map fun s => jeD p q loose lv R as h₀ s.abs
def sz (h : Heap) : Bool × Nat × Option Value := (h.isNs mainGlobals && (#[] : Array GenState).size == 0, h.objs.size, h.nsMap mainGlobals "__annotations__")
theorem le_add {M N : Nat} (le : Nat.ble M N = true) : M + (N - M) = N := Nat.add_sub_cancel' (Nat.le_of_ble_eq_true le)
theorem left {p q p' q' : Program} {loose loose' : List Str} {lv : List (Str × WData)} {R : WRecords} {as : List Addr} {N m₀ M : Nat} {ann : Option Value} {Ya : World → List (Option Obj) × Nat × Nat} {E2 : _} {sz2 : _} (hE : @E = E2) (hS : @sz = sz2) (hp : p = p') (hq : q = q') (hl : loose = loose')
    (o1 : opening p = plainProg p.main.scope.names) (hN : Nat.ble 600 N = true) (o2 : ∀ s, fenceModules? p s = some s) (habs : ∀ (P : Params) d k os, (jcp (boot_heap P) d k os).abs = ⟨boot_heap P, #[], d, k, os⟩)
    (size : ∀ P : Params, sz2 (boot_heap P) = (true, m₀, ann)) (le : Nat.ble M N = true)
    (run : ∀ (w : World) (os : OsState), E2 p' q' loose' lv R as m₀ ann M (boot_heap w.params) boot_drawn boot_toks w os = some (true, openGood q' loose', Ya w)) :
    LeftO p q loose (fun s => xlAt q lv s && recOk R s) (PySem.W.X.obsZ as) Ya N := fun w => by
  subst hE hS hp hq hl
  obtain ⟨⟨h, gs, d, k, os⟩, e, e'⟩ := Option.map_eq_some_iff.mp (boot_open o1 hN o2 w)
  obtain ⟨rfl, rfl, rfl, rfl⟩ : h = boot_heap w.params ∧ gs = #[] ∧ d = boot_drawn ∧ k = boot_toks := by simpa using e'
  obtain ⟨z1, z2, z3⟩ : _ ∧ _ ∧ _ := by simpa only [sz, Prod.mk.injEq] using size w.params
  obtain ⟨s₁, r, l⟩ := Option.map_eq_some_iff.mp (run w os)
  obtain ⟨l1, l2, l3⟩ : _ ∧ _ ∧ _ := by simpa only [jeD, Prod.mk.injEq] using l
  have r := jir r
  rw [habs] at r
  have r := topRun_mono (N - M) _ _ _ _ r
  rw [le_add le] at r
  have t : topFrom treeTable p w N ⟨boot_heap w.params, #[], boot_drawn, boot_toks, os⟩ = some s₁.abs := by
    unfold topFrom
    dsimp only
    rw [z1, z2, z3, r]
    show (match staticsOk (importedModules p.main.body) (boot_heap w.params) s₁.abs.heap && namesBound p s₁.abs.heap && gensDone s₁.abs && laidKept (boot_heap w.params) s₁.abs.heap with | true => _ | false => _) = _
    rw [l1]
  unfold openEnds
  rw [e]
  show (topFrom treeTable p w N _).map _ = _
  rw [t]
  show some (_, _) = _
  rw [l2, l3]
theorem hide {α : Sort _} {a b : α} (h : a = b) : a = b := h
theorem two {P : World → Prop} (row : String) (hf : ∀ w : World, P (w.withFollow row false)) (ht : ∀ w : World, P (w.withFollow row true)) (w : World) : P w := byRow2 row hf ht w
theorem jeq (P : Params) (d : Drawn) (k : Nat) (os : OsState) : (jcp (boot_heap P) d k os).abs = ⟨boot_heap P, #[], d, k, os⟩ := by kernel_rfl
end MH
lay_quick MH.E MH.sz PySem.Challenge.pw_liarclocks_k41_whole_in_time
section
open PySem PySem.W PySem.W.X PySem.W.ZRun
local macro_rules
  | `(tactic| refine $f $args*) => do
    let is (a : Lean.Syntax) (n : Lean.Name) : Bool := a.isOfKind `Lean.Parser.Term.syntheticHole && a[1].getId.eraseMacroScopes == n
    unless args.any (fun a => is a.raw `hl) do Lean.Macro.throwUnsupported
    let as : Array Lean.Syntax := args.map fun a => if is a.raw `hl then (Lean.mkIdent `hl).raw else if is a.raw `hc then (Lean.mkIdent `hc).raw else a.raw
    let t : Lean.TSyntax `term := ⟨Lean.mkNode `Lean.Parser.Term.app #[f.raw, Lean.mkNullNode as]⟩
    `(tactic| refine $t)
set_option maxHeartbeats 0 in
/-- only to have the kit write out the kept heap and the view; it is used nowhere -/
theorem MH.wr (hl : ∀ {q : Program} {loose : List Str} {Xt : Shared → Bool} {Yf : Shared → List (Option Obj) × Nat × Nat} {Ya : World → List (Option Obj) × Nat × Nat} {N : Nat}, LeftO PySem.Challenge.pw_liarclocks_k41_whole_in_time q loose Xt Yf Ya N) (hc : ∀ {q : Program} {loose : List Str} {XP : (Str → Option Value) → Heap → Prop} {Yf : Shared → List (Option Obj) × Nat × Nat} {Ya : World → List (Option Obj) × Nat × Nat} {r : RowW} {d : DefRec} {kwd : List (Str × Expr)} {run : Value → List Value → Sem Value}, WalkX q loose XP Yf Ya r d kwd run) : PySem.Challenge.rw_liarclocks_k41_whole_in_time.Holds := by
  w_on; o_law; z_head; (case hw => w_witness2)
end
namespace MH
open PySem PySem.W
noncomputable def as0 : List Addr := [0, 1, 2, 3, 4, 5, 6, 7, 8, 9, 10, 11, 12, 13, 14, 15, 22, 23, 24, 25, 28, 35, 36, 37, 40, 47, 48, 49, 52, 59, 60, 61, 62, 63, 64, 65, 66, 67, 68, 71, 78, 79, 80, 83, 90, 91, 92, 95, 96, 97, 98, 99, 100, 101, 102, 103, 104, 105, 106, 107, 108, 109, 110, 111, 112, 113, 114, 115, 116, 117, 118, 119, 120, 121, 122, 123, 124, 125, 126, 127, 128, 129, 130, 131, 132, 133, 134, 135, 136, 137, 138, 139, 140, 141, 142, 143, 144, 145, 146, 147, 148, 149, 150, 151, 152, 153, 154, 155, 156, 157, 158, 159, 160, 161, 162, 163, 164, 165, 166, 167, 168, 169, 170, 171, 172, 173, 174, 182, 183, 184, 185, 186, 187, 188, 189, 190, 191, 192, 193, 194, 195, 196, 197, 198, 199, 200, 210, 211, 212, 213, 214, 215, 216, 217, 218, 219, 220, 221, 222, 223, 224, 225, 226, 227, 228, 229, 230, 231, 232, 233, 234, 235, 236, 237, 238, 239, 240, 241, 242, 243, 244, 245, 246, 247, 248, 249, 250, 251, 252, 253, 254, 255, 256, 257, 258, 259, 260, 261, 262, 263, 264, 265, 266, 267, 268, 269, 270, 271, 272, 273, 276, 283, 284, 285, 286, 287, 288, 289, 290, 291, 292, 293, 294, 295, 296, 297, 298, 299, 300, 301, 302, 303, 304, 305, 306, 307, 308, 309, 310, 311, 312, 313, 314, 315, 316, 317, 318, 319, 320, 321, 322, 323, 324, 325, 326, 327, 328, 329, 330, 331, 332, 333, 334, 335, 336, 337, 338, 339, 340, 341, 342, 343, 344, 345, 346, 347, 348, 349, 350, 351, 352, 353, 354, 355, 358, 365, 366, 367, 368, 369, 370, 371, 372, 373, 374, 375, 376, 377, 378, 379, 380, 381, 382, 383, 384, 385, 386, 387, 388, 389, 390, 391, 392, 393, 394, 395, 396, 397, 398, 399, 400, 401, 402, 403, 404, 405, 406, 407, 408, 409, 410, 411, 412, 413, 414, 415, 416, 417, 418, 419, 420, 421, 422, 423, 424, 425, 428, 429, 430, 431, 432, 433, 434, 435, 436, 437, 438, 439, 440, 441, 442, 443, 444, 445, 446, 447, 448, 449, 450, 451, 452, 453, 454, 455, 456, 457, 458, 459, 460, 461, 462, 463, 464, 465, 466, 467, 468, 469, 470, 471, 472]
noncomputable def q0 : Program := PySem.W.view PySem.W.Fast.tw8250244555025529557 [1,2,3,4,5,6,8,9,10,11,12,13,14,15,16,17,18,19,21,22,23,24,25,26,28,29,30,32,33,34,35,36,37,38]
noncomputable def lo0 : List Str := [⟨⟨[80, 117, 108, 115, 101]⟩⟩, ⟨⟨[84, 105, 109, 101, 100, 80, 117, 108, 115, 101]⟩⟩]
def Ok (w : World) : Prop := ∀ os : OsState, PySem.W.Fast.tw6129207837983636007 PySem.W.Fast.tw8250244555025529557 q0 lo0 [] (PySem.W.RowW.records (PySem.W.OpenRow.toRowW (PySem.W.OpenLaw.row PySem.Challenge.rw_liarclocks_k41_whole_in_time))) as0 11 (some (PySem.Value.ref 6)) 7582 (boot_heap w.params) boot_drawn boot_toks w os = some (true, openGood q0 lo0, PySem.W.X.valZ MH.wr.heap_429 473 806 w)
theorem ok (w : World) : Ok w := fun os => by kernel_rfl
theorem q_eq : MH.wr.view_884 = q0 := Eq.trans (b := PySem.W.view PySem.Challenge.pw_liarclocks_k41_whole_in_time [1,2,3,4,5,6,8,9,10,11,12,13,14,15,16,17,18,19,21,22,23,24,25,26,28,29,30,32,33,34,35,36,37,38]) (by kernel_rfl) (congrArg (fun p => PySem.W.view p [1,2,3,4,5,6,8,9,10,11,12,13,14,15,16,17,18,19,21,22,23,24,25,26,28,29,30,32,33,34,35,36,37,38]) PySem.W.Fast.te8250244555025529557)
theorem lo_eq : ([PySem.Str.ofString "Pulse", PySem.Str.ofString "TimedPulse"] : List Str) = lo0 := by kernel_rfl
theorem le_ok : LeftO PySem.Challenge.pw_liarclocks_k41_whole_in_time MH.wr.view_884 [PySem.Str.ofString "Pulse", PySem.Str.ofString "TimedPulse"] (fun s => xlAt MH.wr.view_884 [] s && recOk (PySem.W.RowW.records (PySem.W.OpenRow.toRowW (PySem.W.OpenLaw.row PySem.Challenge.rw_liarclocks_k41_whole_in_time))) s) (PySem.W.X.obsZ as0) (PySem.W.X.valZ MH.wr.heap_429 473 806) 7582 :=
  left PySem.W.Fast.te6129207837983636007 PySem.W.Fast.te9778236028270751511 PySem.W.Fast.te8250244555025529557 q_eq lo_eq (by kernel_rfl) (by decide) (fun s => by kernel_rfl) jeq (fun P => by kernel_rfl) (by decide) ok
theorem as_eq (P : Params) : as0 = (MH.wr.heap_429 P).map fun p => p.1 := by kernel_rfl
end MH
set_option Elab.async false
set_option linter.all false
set_option maxRecDepth 100000
namespace L2
open PySem PySem.Spec PyProof.Rows

abbrev Key:=Sum Int Str
def VP:Key->Value->Bool
  | .inl k,v=>Value.isInt k v
  | .inr x,v=>Value.isStrOf x v
def keyH (w:World):Key->Int
  | .inl k=>hashInt k
  | .inr x=>hashStr w x
theorem yc:∀ {k:Key} {v:Value},VP k v=true->(∃ i t,k=Sum.inl i∧v=Value.int i t)∨(∃ x t,k=Sum.inr x∧v=Value.str x t)
  | .inl i,v,h=>by
    obtain ⟨t,e⟩:=Value.isInt_shape (k:=i) (v:=v) h
    exact .inl ⟨i,t,rfl,e⟩
  | .inr x,v,h=>by
    obtain ⟨t,e⟩:=Value.isStrOf_shape (x:=x) (v:=v) h
    exact .inr ⟨x,t,rfl,e⟩
theorem jdS (i:Int) (t:Tok):VP (.inl i) (.int i t)=true:=by simp [VP,Value.isInt]
theorem jdR (x:Str) (t:Tok):VP (.inr x) (.str x t)=true:=by simp [VP,Value.isStrOf]
theorem key_ll (a b:Int):decide ((Sum.inl a:Key)=Sum.inl b)=(a == b):=by
  by_cases e:a=b
  · subst e; simp
  · have h:¬ (Sum.inl a:Key)=Sum.inl b:=fun q=>e (Sum.inl.inj q)
    rw [decide_eq_false h]
    exact (beq_eq_false_iff_ne.mpr e).symm
theorem key_rr (a b:Str):decide ((Sum.inr a:Key)=Sum.inr b)=decide (a=b):=by
  by_cases e:a=b
  · subst e; simp
  · have h:¬ (Sum.inr a:Key)=Sum.inr b:=fun q=>e (Sum.inr.inj q)
    rw [decide_eq_false h,decide_eq_false e]
theorem key_lr (a:Int) (b:Str):decide ((Sum.inl a:Key)=Sum.inr b)=false:=decide_eq_false (fun q=>nomatch q)
theorem key_rl (a:Str) (b:Int):decide ((Sum.inr a:Key)=Sum.inl b)=false:=decide_eq_false (fun q=>nomatch q)

def yk (prog:Program) (w:World):PySem.KeyKind prog w Key where
  is:=VP
  hash:=keyH w
  inj:=fun v a b ha hb=>by
    rcases yc ha with ⟨i,t,rfl,rfl⟩ | ⟨x,t,rfl,rfl⟩
    · rcases yc hb with ⟨j,u,rfl,e⟩ | ⟨y,u,rfl,e⟩
      · injection e with e1 _; rw [e1]
      · exact nomatch e
    · rcases yc hb with ⟨j,u,rfl,e⟩ | ⟨y,u,rfl,e⟩
      · exact nomatch e
      · injection e with e1 _; rw [e1]
  byValue:=fun k v h=>by
    rcases yc h with ⟨i,t,rfl,rfl⟩ | ⟨x,t,rfl,rfl⟩ <;> rfl
  pyHash:=fun hv h=>by
    rcases yc hv with ⟨i,t,rfl,rfl⟩ | ⟨x,t,rfl,rfl⟩
    · exact wpAny_pyHash_int h
    · exact wpAny_pyHash_str h
  eqBool:=fun hu hv h=>by
    rcases yc hu with ⟨i,t,rfl,rfl⟩ | ⟨x,t,rfl,rfl⟩
    · rcases yc hv with ⟨j,u,rfl,rfl⟩ | ⟨y,u,rfl,rfl⟩
      · rw [key_ll] at h; exact wpAny_eqBool_int h
      · rw [key_lr] at h; exact SeqAt.EqAt.int_str i t y u _ _ _ _ h
    · rcases yc hv with ⟨j,u,rfl,rfl⟩ | ⟨y,u,rfl,rfl⟩
      · rw [key_rl] at h; exact SeqAt.EqAt.str_int x t j u _ _ _ _ h
      · rw [key_rr] at h; exact wpAny_eqBool_str h
  «strs»:=fun k x t v h=>by
    rcases yc h with ⟨i,u,rfl,e⟩ | ⟨y,u,rfl,e⟩
    · exact nomatch e
    · injection e with e1 _
      subst e1
      cases v <;> rfl

theorem jaQ (prog:Program) (w:World) (i:Int) (t:Tok):(yk prog w).is (.inl i) (.int i t)=true:=jdS i t
theorem jaP (prog:Program) (w:World) (x:Str) (t:Tok):(yk prog w).is (.inr x) (.str x t)=true:=jdR x t
end L2

namespace L2
open PySem PySem.Spec PyProof.Rows

inductive V where
  | non | bl (b:Bool) | int (i:Int) | str (x:Str) | byt (b:Array UInt8) | flt (b:UInt64) | ref (a:Addr) | ty (n:String)
  deriving DecidableEq

def yl:V->Value->Prop
  | .non,u=>u=Value.none
  | .bl b,u=>u=Value.bool b
  | .int i,u=>∃ t,u=Value.int i t
  | .str x,u=>∃ t,u=Value.str x t
  | .byt b,u=>∃ t,u=Value.bytes b t
  | .flt b,u=>∃ t,u=Value.float b t
  | .ref a,u=>u=Value.ref a
  | .ty n,u=>u=Value.type n

abbrev yj:List V->List Value->Prop:=Paired yl
theorem yj.length {xs:List V} {us:List Value} (r:yj xs us):xs.length=us.length:=Paired.length r
theorem yj.get:∀ {xs:List V} {us:List Value} {i:Nat} {x:V},yj xs us->xs[i]? = some x->∃ u,us[i]? = some u∧yl x u
  | _,_,_,_,.nil,e=>by simp at e
  | _,_,0,_,.cons r _,e=>by simp at e; subst e; exact ⟨_,rfl,r⟩
  | _,_,i + 1,x,.cons _ t,e=>by
    obtain ⟨u,h1,h2⟩:=yj.get (i:=i) (x:=x) t (by simpa using e)
    exact ⟨u,by simpa using h1,h2⟩
theorem yj.set {x:V} {u:Value} (r:yl x u):∀ {xs:List V} {us:List Value} (i:Nat),yj xs us->yj (xs.set i x) (us.set i u)
  | _,_,_,.nil=>.nil
  | _,_,0,.cons _ t=>.cons r t
  | _,_,i + 1,.cons q t=>.cons q (yj.set r i t)
theorem yj.append {xs ys:List V} {us ws:List Value} (h:yj xs us) (s:yj ys ws):yj (xs ++ ys) (us ++ ws):=by
  induction h with
  | nil=>exact s
  | cons r t ih=>exact .cons r ih
theorem yj.take:∀ {xs:List V} {us:List Value} (n:Nat),yj xs us->yj (xs.take n) (us.take n)
  | _,_,0,_=>.nil
  | _,_,_ + 1,.nil=>.nil
  | _,_,n + 1,.cons r t=>.cons r (yj.take n t)
theorem yj.drop:∀ {xs:List V} {us:List Value} (n:Nat),yj xs us->yj (xs.drop n) (us.drop n)
  | _,_,0,r=>r
  | _,_,_ + 1,.nil=>.nil
  | _,_,n + 1,.cons _ t=>yj.drop n t
theorem yj.none_of:∀ {xs:List V} {us:List Value} {i:Nat},yj xs us->xs[i]? = none->us[i]? = none:=fun {xs us i} r e=>by
  have h1:=r.length
  have h2:xs.length<=i:=List.getElem?_eq_none_iff.mp e
  exact List.getElem?_eq_none_iff.mpr (by omega)

def uL:Option V->Option Value->Prop
  | some v,some u=>yl v u
  | none,none=>True
  | _,_=>False
def KV {κ:Type}:List (κ × V)->List (κ × Value)->Prop:=Paired fun (p:κ × V) (q:κ × Value)=>p.1=q.1∧yl p.2 q.2

def kV:Key->V
  | .inl i=>.int i
  | .inr x=>.str x

inductive HO where
    | lst (xs:List V)
    | tup (xs:List V)
    | dK (kvs:List (Key × V)) | dT (kvs:List (List Key × V))
    | set (S:Int->Bool) (n:Nat)
    | ins (C dx:Addr) (fs:List (Str × V))
    | own (x:Addr)
    | xd (fs:List (Str × V))
    | met (f x:Addr)
    | rng (lo hi:Int)
    | frz (o:Obj) (u:HO)
    | tbl (ps:Array Value)
    | ext (φ:Heap->Prop)

abbrev Hp:=Addr->Option HO
def upd (H:Hp) (a:Addr) (o:HO):Hp:=fun b=>if b=a then some o else H b
theorem jv {H:Hp} {a:Addr} {o:HO}:upd H a o a=some o:=by unfold upd; rw [if_pos rfl]
theorem jm {H:Hp} {a b:Addr} {o:HO} (h:b≠a):upd H a o b=H b:=by unfold upd; rw [if_neg h]
theorem jhe {H:Hp} {a:Addr} {o u:HO}:upd (upd H a o) a u=upd H a u:=by
  funext b; unfold upd; split <;> rfl
theorem jiW {H:Hp} {a b:Addr} {o u:HO} (h:H a=some o) (h':H b=some u) (d:o≠u):a≠b:=by
  intro e; subst e; rw [h] at h'; exact d (Option.some.inj h')
theorem jy {H:Hp} {a b:Addr} {o:HO} (h:H a=some o) (h':H b=none):a≠b:=by
  intro e; subst e; rw [h] at h'; cases h'

section
variable (P:Program) (w:World)
def yE (H:Hp) (h:Heap) (a:Addr):HO->Prop
  | .lst xs=>xs.length<=sizeLine∧∃ (its:List Value) (n:Nat),yj xs its∧h.get? a=some { cls:=.type "list",data:=.seq its.toArray n }
  | .tup xs=>xs.length<=sizeLine∧∃ its:List Value,yj xs its∧IsTup h a its.toArray
  | .dK kvs=>kvs.length<=sizeLine∧(a == sysModules)=false∧∃ vs,KV kvs vs∧h.DictOf (yk P w) a vs
  | .dT kvs=>kvs.length<=sizeLine∧(a == sysModules)=false∧∃ xs:List (List Key × Addr × Value),
      Paired (fun (p:List Key × V) (q:List Key × Addr × Value)=>p.1=q.1∧H q.2.1=some (.tup (p.1.map kV))∧yl p.2 q.2.2) kvs xs ∧
      ∃ o es ep,h.get? a=some o∧o.ExactDict∧o.data = .dict es ep∧es.toList=xs.map (entryOfKey (tupleKind (yk P w)))∧(xs.map (·.1)).Nodup
  | .set S n=>h.SetOf (intKind P w) a S n
  | .ins C dx fs=>H dx=some (.own a)∧fs.length<=1000∧dx≠a∧h.get? a=some (PySem.W.instObj C dx) ∧
      ∃ mA,h.Ns1 dx mA∧(∀ f,uL (fs.lookup f) (mA f))∧PySem.Within mA (fs.map (·.1))
  | .own _=>∃ o,h.get? a=some o
  | .xd fs=>∃ mA,h.Ns1 a mA∧∀ f,uL (fs.lookup f) (mA f)
  | .rng lo hi=>∃ t u v,h.get? a=some { cls:=.type "range",data:=.fields #[.int lo t,.int hi u,.int 1 v] }
  | .frz o u=>h.get? a=some o∧yE H h a u
  | .tbl ps=>h.get? a=some { cls:=.none,data:=.fields ps }
  | .met f x=>h.get? a=some (PySem.W.methodObj (.ref f) (.ref x))
  | .ext φ=>φ h∧(∃ o,h.get? a=some o)∧∀ h1 h2:Heap,φ h1->(∀ o,h1.get? a=some o->h2.get? a=some o)->φ h2
def HOk (H:Hp) (h:Heap):Prop:=∀ a o,H a=some o->yE P w H h a o
end

section
variable {P:Program} {w:World} {H H':Hp} {h h':Heap} {a:Addr} {o:HO}
theorem yE.lt (x:yE P w H h a o):a < h.objs.size:=by
  cases o with
  | lst xs=>obtain ⟨_,_,_,_,e⟩:=x; exact Heap.lt_size e
  | tup xs=>obtain ⟨_,_,_,p⟩:=x; exact p.lt
  | dK kvs=>obtain ⟨_,_,_,_,o,_,_,e,_⟩:=x; exact Heap.lt_size e
  | dT kvs=>obtain ⟨_,_,_,_,o,_,_,e,_⟩:=x; exact Heap.lt_size e
  | set S n=>obtain ⟨o,_,_,_,e,_⟩:=x; exact Heap.lt_size e
  | ins C dx fs=>obtain ⟨_,_,_,e,_⟩:=x; exact Heap.lt_size e
  | own y=>obtain ⟨_,e⟩:=x; exact Heap.lt_size e
  | xd fs=>obtain ⟨_,⟨_,_,_,e,_⟩,_⟩:=x; exact Heap.lt_size e
  | rng lo hi=>obtain ⟨_,_,_,e⟩:=x; exact Heap.lt_size e
  | frz ob u=>obtain ⟨e,_⟩:=x; exact Heap.lt_size e
  | tbl ps=>exact Heap.lt_size (show h.get? a=some _ from x)
  | met f y=>exact Heap.lt_size (show h.get? a=some _ from x)
  | ext φ=>obtain ⟨_,⟨_,e⟩,_⟩:=x; exact Heap.lt_size e
theorem Paired.mapP {α β:Type} {F G:α->β->Prop} {l₁:List α} {l₂:List β} (h:Paired F l₁ l₂) (f:∀ a b,F a b->G a b):Paired G l₁ l₂:=by
  induction h with
  | nil=>exact .nil
  | cons r t ih=>exact .cons (f _ _ r) ih
theorem yE.stay (x:yE P w H h a o) (k:∀ b u,(b=a∨H b=some (.own a))->h.get? b=some u->h'.get? b=some u)
    (ho:∀ b,H b=some (.own a)->H' b=some (.own a)) (ht:∀ b xs,H b=some (.tup xs)->H' b=some (.tup xs)):yE P w H' h' a o:=by
  induction o with
  | lst xs=>obtain ⟨z,its,n,r,e⟩:=x; exact ⟨z,its,n,r,k _ _ (.inl rfl) e⟩
  | tup xs=>obtain ⟨z,its,r,ob,e,c⟩:=x; exact ⟨z,its,r,ob,k _ _ (.inl rfl) e,c⟩
  | dK kvs=>obtain ⟨z,y,vs,r,ob,es,ep,e,c⟩:=x; exact ⟨z,y,vs,r,ob,es,ep,k _ _ (.inl rfl) e,c⟩
  | dT kvs =>
    obtain ⟨z,y,xs,r,ob,es,ep,e,c⟩:=x
    exact ⟨z,y,xs,Paired.mapP r fun p q z=>⟨z.1,ht _ _ z.2.1,z.2.2⟩,ob,es,ep,k _ _ (.inl rfl) e,c⟩
  | set S n=>obtain ⟨ob,es,ep,t,e,c⟩:=x; exact ⟨ob,es,ep,t,k _ _ (.inl rfl) e,c⟩
  | ins C dx fs =>
    obtain ⟨d,z,ne,e,mA,⟨od,es,ep,e2,c⟩,r⟩:=x
    exact ⟨ho _ d,z,ne,k _ _ (.inl rfl) e,mA,⟨od,es,ep,k _ _ (.inr d) e2,c⟩,r⟩
  | own y=>obtain ⟨ob,e⟩:=x; exact ⟨ob,k _ _ (.inl rfl) e⟩
  | xd fs=>obtain ⟨mA,⟨od,es,ep,e,c⟩,r⟩:=x; exact ⟨mA,⟨od,es,ep,k _ _ (.inl rfl) e,c⟩,r⟩
  | rng lo hi=>obtain ⟨t,u,v,e⟩:=x; exact ⟨t,u,v,k _ _ (.inl rfl) e⟩
  | frz ob u ih=>obtain ⟨e,q⟩:=x; exact ⟨k _ _ (.inl rfl) e,ih q⟩
  | tbl ps =>
    have e:h.get? a=some { cls:=.none,data:=.fields ps }:=x
    show h'.get? a=some { cls:=.none,data:=.fields ps }
    exact k a _ (.inl rfl) e
  | met f y =>
    have e:h.get? a=some (PySem.W.methodObj (.ref f) (.ref y)):=x
    show h'.get? a=some (PySem.W.methodObj (.ref f) (.ref y))
    exact k a _ (.inl rfl) e
  | ext φ=>obtain ⟨p,⟨o,e⟩,st⟩:=x; exact ⟨st _ _ p fun o q=>k _ _ (.inl rfl) q,⟨o,k _ _ (.inl rfl) e⟩,st⟩
theorem HOk.lt (x:HOk P w H h) (e:H a=some o):a < h.objs.size:=(x a o e).lt
theorem HOk.fresh (x:HOk P w H h) (e:h.objs.size<=a):H a=none:=by
  cases q:H a with
  | none=>rfl
  | some u=>exact absurd (Nat.lt_of_lt_of_le (x.lt q) e) (Nat.lt_irrefl _)
theorem HOk.kept (x:HOk P w H h) (k:∀ b u,h.get? b=some u->h'.get? b=some u):HOk P w H h':=fun a o e =>
  (x a o e).stay (fun b u _ q=>k b u q) (fun _ q=>q) fun _ _ q=>q
theorem HOk.laid (x:HOk P w H h) (k:∀ b u,h.get? b=some u->h'.get? b=some u) (hp:h.objs.size<=a) (new:yE P w (upd H a o) h' a o):HOk P w (upd H a o) h':=fun b u e=>by
  have hn:=x.fresh hp
  by_cases hb:b=a
  · subst hb; rw [jv] at e; cases e; exact new
  · rw [jm hb] at e
    exact (x b u e).stay (fun c v _ q=>k c v q) (fun c q=>by rw [jm (jy q hn)]; exact q) fun c xs q=>by rw [jm (jy q hn)]; exact q
end

def Rd (H:Hp) (a:Addr) (u:HO):Prop:=H a=some u∨∃ o,H a=some (.frz o u)
theorem Rd.ok {P:Program} {w:World} {H:Hp} {h:Heap} {a:Addr} {u:HO} (r:Rd H a u) (x:HOk P w H h):yE P w H h a u:=by
  rcases r with r | ⟨o,r⟩
  · exact x a u r
  · obtain ⟨_,q⟩:=x a _ r
    exact q
def Mut:Option HO->Prop
  | some (.lst _)=>True
  | some (.dK _)=>True
  | some (.dT _)=>True
  | some (.set _ _)=>True
  | some (.ins _ _ _)=>True
  | some (.ext _)=>True
  | _=>False
section
variable {P:Program} {w:World} {H:Hp} {h h':Heap} {x e:Addr} {o':HO}
theorem HOk.write (ok:HOk P w H h) (mu:Mut (H x)) (he:e=x∨H e=some (.own x)) (k:∀ b u,b≠e->h.get? b=some u->h'.get? b=some u) (heo:∃ u,h'.get? e=some u)
    (new:yE P w (upd H x o') h' x o'):HOk P w (upd H x o') h':=fun b u q=>by
  have nown:∀ c y,H c=some (.own y)->c≠x:=fun c y r z=>by subst z; rw [r] at mu; exact mu
  have ntup:∀ c xs,H c=some (.tup xs)->c≠x:=fun c xs r z=>by subst z; rw [r] at mu; exact mu
  by_cases hb:b=x
  · subst hb; rw [jv] at q; cases q; exact new
  · rw [jm hb] at q
    by_cases hbe:b=e
    · have q':H b=some (.own x):=by
        rcases he with z | z
        · exact absurd (hbe.trans z) hb
        · rw [hbe]; exact z
      rw [q] at q'; cases q'
      obtain ⟨v,hv⟩:=heo
      exact ⟨v,by rw [hbe]; exact hv⟩
    · refine (ok b u q).stay (fun c v hc r=>k c v ?_ r) (fun c r=>by rw [jm (nown c b r)]; exact r) fun c xs r=>by rw [jm (ntup c xs r)]; exact r
      rcases hc with rfl | hc
      · exact hbe
      · rintro rfl
        rcases he with z | z
        · exact nown c b hc z
        · rw [hc] at z; cases z; exact hb rfl
end

structure Un (fs ex:List Addr) (H H':Hp) (h h':Heap):Prop where
  keep:∀ b o,h.get? b=some o->H b=none->b ∉ fs->b ∉ ex->h'.get? b=some o
  slot:∀ b o,h.get? b=some o->H b=none->b ∈ fs->b ∉ ex->∃ sl,h'.get? b=some { o with slots:=sl }
  free:∀ b o,h.get? b=some o->H b=none->b ∉ ex->H' b=none
  there:∀ b o,h.get? b=some o->b ∉ ex->∃ o',h'.get? b=some o'
  tups:∀ b xs,H b=some (.tup xs)->H' b=some (.tup xs)
  frzs:∀ b o u,H b=some (.frz o u)->H' b=some (.frz o u)
  tbls:∀ b ps,H b=some (.tbl ps)->∃ more,H' b=some (.tbl (ps ++ more))
section
variable {fs fs' ex ex':List Addr} {H H1 H2:Hp} {h h1 h2 h':Heap} {a x e:Addr} {o:HO}
theorem Un.any (u:Un fs ex H H1 h h1) {b:Addr} {ob:Obj} (q:h.get? b=some ob) (n:H b=none) (hx:b ∉ ex):∃ sl,h1.get? b=some { ob with slots:=sl }:=by
  by_cases hb:b ∈ fs
  · exact u.slot b ob q n hb hx
  · exact ⟨ob.slots,u.keep b ob q n hb hx⟩
theorem Un.trans (a:Un fs ex H H1 h h1) (b:Un fs ex H1 H2 h1 h2):Un fs ex H H2 h h2 where
  keep:=fun c ob q n hc hx=>b.keep c ob (a.keep c ob q n hc hx) (a.free c ob q n hx) hc hx
  slot:=fun c ob q n hc hx=>by
    obtain ⟨sl,e1⟩:=a.slot c ob q n hc hx
    obtain ⟨sl',e2⟩:=b.slot c _ e1 (a.free c ob q n hx) hc hx
    exact ⟨sl',e2⟩
  free:=fun c ob q n hx=>by
    obtain ⟨o',e1⟩:=a.there c ob q hx
    exact b.free c o' e1 (a.free c ob q n hx) hx
  there:=fun c ob q hx=>by
    obtain ⟨o',e1⟩:=a.there c ob q hx
    exact b.there c o' e1 hx
  tups:=fun c xs q=>b.tups c xs (a.tups c xs q)
  frzs:=fun c ob xs q=>b.frzs c ob xs (a.frzs c ob xs q)
  tbls:=fun c ps q=>by
    obtain ⟨m1,e1⟩:=a.tbls c ps q
    obtain ⟨m2,e2⟩:=b.tbls c _ e1
    exact ⟨m1 ++ m2,by rw [e2,Array.append_assoc]⟩
theorem Un.kept (k:∀ b u,h.get? b=some u->h'.get? b=some u):Un fs ex H H h h' :=
  ⟨fun b ob q _ _ _=>k b ob q,fun b ob q _ _ _=>⟨ob.slots,k b ob q⟩,fun _ _ _ n _=>n,fun b ob q _=>⟨ob,k b ob q⟩,fun _ _ q=>q,fun _ _ _ q=>q,fun _ ps q=>⟨#[],by rw [q]; simp⟩⟩
theorem Un.refl:Un fs ex H H h h:=Un.kept fun _ _ q=>q
theorem Un.laid (k:∀ b u,h.get? b=some u->h'.get? b=some u) (hp:h.objs.size<=a) (hn:H a=none):Un fs ex H (upd H a o) h h' where
  keep:=fun b u q _ _ _=>k b u q
  slot:=fun b u q _ _ _=>⟨u.slots,k b u q⟩
  free:=fun b u q n _=>by rw [jm (Nat.ne_of_lt (Nat.lt_of_lt_of_le (Heap.lt_size q) hp))]; exact n
  there:=fun b u q _=>⟨u,k b u q⟩
  tups:=fun b xs q=>by rw [jm (jy q hn)]; exact q
  frzs:=fun b u xs q=>by rw [jm (jy q hn)]; exact q
  tbls:=fun b ps q=>⟨#[],by rw [jm (jy q hn),q]; simp⟩
theorem Un.write (mu:Mut (H x)) (he:e=x∨H e=some (.own x)) (k:∀ b u,b≠e->h.get? b=some u->h'.get? b=some u) (heo:∃ u,h'.get? e=some u):Un fs ex H (upd H x o) h h':=by
  have hx:∀ b,H b=none->b≠x:=fun b n z=>by subst z; rw [n] at mu; exact mu
  have hb:∀ b,H b=none->b≠e:=fun b n z=>by
    subst z
    rcases he with r | r
    · exact hx b n r
    · rw [n] at r; cases r
  have hm:∀ b u,H b=some u->¬ Mut (some u)->b≠x:=fun b u q nm z=>by subst z; rw [q] at mu; exact nm mu
  refine ⟨fun b u q n _ _=>k b u (hb b n) q,fun b u q n _ _=>⟨u.slots,k b u (hb b n) q⟩,fun b u q n _=>by rw [jm (hx b n)]; exact n,fun b u q _=>?_,
    fun b xs q=>by rw [jm (hm b _ q fun z=>z)]; exact q,fun b u xs q=>by rw [jm (hm b _ q fun z=>z)]; exact q,fun b ps q=>⟨#[],by rw [jm (hm b _ q fun z=>z),q]; simp⟩⟩
  by_cases hbe:b=e
  · subst hbe; exact heo
  · exact ⟨u,k b u hbe q⟩
end

def trk (h:Heap) (H:Hp):List Addr:=(List.range h.objs.size).filter fun a=>(H a).isSome
def UZ (h:Heap) (H:Hp):Heap:=PySem.W.hideAll h (trk h H)
theorem jdV (h:Heap) (H:Hp):(UZ h H).objs.size=h.objs.size:=PySem.W.hideAll_size _ _
theorem jfZ {h:Heap} {H:Hp} {b:Addr} {o:Obj} (e:h.get? b=some o) (n:H b=none):(UZ h H).get? b=some o :=
  PySem.W.hideAll_get _ e fun hm=>by
    have q:(H b).isSome=true:=(List.mem_filter.mp hm).2
    rw [n] at q; simp at q
theorem jhX {h:Heap} {H:Hp} {b:Addr} {o:Obj} (e:(UZ h H).get? b=some o):h.get? b=some o∧H b=none:=by
  have e':h.get? b=some o:=PySem.W.of_hideAll (trk h H) e
  refine ⟨e',?_⟩
  cases q:H b with
  | none=>rfl
  | some x =>
    have hm:b ∈ trk h H:=List.mem_filter.mpr ⟨List.mem_range.mpr (Heap.lt_size e'),by simp [q]⟩
    have z:(UZ h H).get? b=none:=PySem.W.hideAll_none (trk h H) hm
    rw [z] at e; cases e

def jiP (g h:Heap) (L:Addr):List (Addr × Obj):=(List.range h.objs.size).filterMap fun a=>if a=L∨(g.get? a).isSome=true then none else (h.get? a).map fun o=>(a,o)
def rest (g h:Heap) (L d:Addr):List (Addr × Obj):=(jiP g h L).filter fun p=>decide (p.1≠d)
end L2

namespace L2
open PySem PySem.Spec PyProof.Rows

structure Mod (K:PySem.W.Frag) (mg:Str->Option Value) (base:Heap):Prop where
  kin:K.In base
  glob:base.Ns mainGlobals mg
  blt:∃ mb,base.Ns builtinsNs mb∧∀ x:Str,x≠"__name__"->mb x=bootBuiltins x
  nolimit:base.NoLimit

structure Cx where
  prog:Program
  w:World
  K:PySem.W.Frag
  mg:Str->Option Value
  base:Heap
  A:Around
  N:List Str
  s₀:Shared
  H₀:Hp
  env:Env
  outer:List Env
  stack:List Env
  ex:List Addr
  fn:Str->Bool
  calm:Bool
  pn:List (Addr × Obj)
  xe:Value->Shared->Prop
def frs (l:List Env):List Addr:=l.filterMap (·.frame)
abbrev Cx.fs (X:Cx):List Addr:=frs X.outer

def Vis (sc:Scope) (x:Str):Prop:=sc.names.lookup x=some .local∨sc.names.lookup x=some .cell∨sc.names.lookup x=some .free
def Loc (sc:Scope) (x:Str):Prop:=sc.names.lookup x=some .local∨sc.names.lookup x=some .cell
def Look (env:Env) (h:Heap) (m:Str->Option Value) (x:Str) (u:Value):Prop :=
  (env.kindOf x=some .local∧m x=some u)∨((env.kindOf x=some .cell∨env.kindOf x=some .free)∧∃ c,env.cells.lookup x=some c∧h.IsCell c (some u))

structure Cx.Ok (X:Cx):Prop where
  mod:Mod X.K X.mg X.base
  kind:X.env.scope.kind = .function
  glob:X.env.globals=mainGlobals
  blt:X.env.builtins=builtinsNs
  above:X.s₀.heap.objs.size<=X.env.locals
  inj:∀ x y c,X.env.cells.lookup x=some c->X.env.cells.lookup y=some c->x=y
  has:∀ x,(X.env.kindOf x=some .cell∨X.env.kindOf x=some .free)->∃ c,X.env.cells.lookup x=some c
  cab:∀ x c,X.fn x=true->X.env.cells.lookup x=some c->X.s₀.heap.objs.size<=c
  hd:X.calm=true->X.A.handled=none
  frames:X.A.frames=some X.stack
  stk:X.stack=X.outer∨(X.stack=X.env :: X.outer∧X.env.frame=some X.env.locals)
  exf:∀ b ∈ X.ex,b≠X.env.locals∧∀ x c,X.env.cells.lookup x=some c->c≠b
  bs:∀ b o,X.base.get? b=some o->X.s₀.heap.get? b=some o∧X.H₀ b=none
  bsz:X.base.objs.size<=X.s₀.heap.objs.size
  noex:∀ b o,X.base.get? b=some o->b ∉ X.ex
  exfs:∀ b ∈ X.ex,b ∉ X.fs
  funs:X.s₀.heap.FunFrames X.base X.outer
  frf:∀ b ∈ X.fs,X.H₀ b=none

structure Inv (X:Cx) (pins:List (Addr × Obj)) (σ:List (Option V)) (H:Hp) (s:Shared):Prop where
  ok:X.Ok
  os:s.os=X.s₀.os
  bare:AllBare s.gens
  base:Un X.fs X.ex X.H₀ H X.s₀.heap s.heap
  loc:∃ m,s.heap.Ns X.env.locals m∧∀ (i:Nat) (x:Str) (v:V),X.N[i]? = some x->σ[i]? = some (some v)->Vis X.env.scope x->∃ u,yl v u∧Look X.env s.heap m x u
  cell:∀ x c,X.env.cells.lookup x=some c->∃ v,s.heap.IsCell c v
  free:H X.env.locals=none
  freeC:∀ x c,X.env.cells.lookup x=some c->H c=none
  pin:∀ p ∈ X.pn ++ pins,s.heap.get? p.1=some p.2∧H p.1=none∧p.1≠X.env.locals∧p.1 ∉ X.fs∧∀ v,p.2.data≠.cell v
  hok:HOk X.prog X.w H s.heap
  len:σ.length=X.N.length

section
variable {X:Cx} {pins:List (Addr × Obj)} {σ:List (Option V)} {H H':Hp} {s:Shared} {h':Heap}

theorem Cx.Ok.nofr (ok:X.Ok) {b:Addr} {o:Obj} (e:X.base.get? b=some o):b ∉ X.fs:=fun hb=>by
  have:=(ok.funs.mem hb).1
  rw [e] at this; cases this
theorem Inv.bs (I:Inv X pins σ H s):∀ b o,X.base.get? b=some o->s.heap.get? b=some o∧H b=none:=fun b o e =>
  ⟨I.base.keep b o (I.ok.bs b o e).1 (I.ok.bs b o e).2 (I.ok.nofr e) (I.ok.noex b o e),I.base.free b o (I.ok.bs b o e).1 (I.ok.bs b o e).2 (I.ok.noex b o e)⟩
theorem Inv.bk (I:Inv X pins σ H s):∀ b o,X.base.get? b=some o->s.heap.get? b=some o:=fun b o e=>(I.bs b o e).1
theorem Inv.mod (I:Inv X pins σ H s):Mod X.K X.mg X.base:=I.ok.mod
theorem Inv.kIn (I:Inv X pins σ H s):X.K.In s.heap:=I.ok.mod.kin.keeps I.bk
theorem Inv.lt (I:Inv X pins σ H s):X.env.locals < s.heap.objs.size:=let ⟨_,hn,_⟩:=I.loc; hn.lt
theorem Inv.sz (I:Inv X pins σ H s):X.s₀.heap.objs.size<=s.heap.objs.size:=Nat.le_trans I.ok.above (Nat.le_of_lt I.lt)
theorem Inv.nofs (I:Inv X pins σ H s) {a:Addr} (h:s.heap.objs.size<=a):a ∉ X.fs:=fun hb=>by
  obtain ⟨_,o,ho,_⟩:=I.ok.funs.mem hb
  exact absurd (Nat.lt_of_lt_of_le (Heap.lt_size ho) (Nat.le_trans I.sz h)) (Nat.lt_irrefl _)
theorem Inv.cne (I:Inv X pins σ H s):∀ x c,X.env.cells.lookup x=some c->c≠X.env.locals:=fun x c e z=>by
  obtain ⟨v,o,ho,hd⟩:=I.cell x c e
  obtain ⟨m,⟨o',es,ep,ho',hd',_⟩,_⟩:=I.loc
  rw [z,ho'] at ho; cases ho; rw [hd'] at hd; cases hd
theorem Inv.funs (I:Inv X pins σ H s):s.heap.FunFrames X.base X.outer:=by
  have all:∀ (l:List Env),(∀ b ∈ frs l,b ∈ X.fs)->X.s₀.heap.FunFrames X.base l->s.heap.FunFrames X.base l:=by
    intro l
    induction l with
    | nil=>intro _ _; trivial
    | cons env r ih =>
      intro hs hl
      obtain ⟨hk,⟨L,o,hf,hn,ho,hd⟩,hr⟩:=hl
      have hL:L ∈ X.fs:=hs L (by unfold frs; rw [List.filterMap_cons,hf]; exact List.mem_cons_self)
      obtain ⟨sl,e⟩:=I.base.slot L o ho (I.ok.frf L hL) hL fun z=>I.ok.exfs L z hL
      exact ⟨hk,⟨L,_,hf,hn,e,hd⟩,ih (fun b hb=>hs b (by unfold frs; rw [List.filterMap_cons,hf]; exact List.mem_cons_of_mem _ hb)) hr⟩
  exact all X.outer (fun _ hb=>hb) I.ok.funs

theorem Inv.stack (I:Inv X pins σ H s):s.heap.FunFrames X.base X.stack:=by
  rcases I.ok.stk with e | ⟨e,hf⟩
  · rw [e]; exact I.funs
  · rw [e]
    obtain ⟨m,hn,_⟩:=I.loc
    refine .cons (by rw [I.ok.kind]; decide) hf hn ?_ I.funs
    exact Heap.get?_none_of_le (Nat.le_trans I.ok.bsz I.ok.above)
theorem Inv.stkSub (I:Inv X pins σ H s):∀ b ∈ frs X.stack,b ∈ X.env.locals :: X.fs:=fun b hb=>by
  rcases I.ok.stk with e | ⟨e,hf⟩
  · rw [e] at hb; exact List.mem_cons_of_mem _ hb
  · rw [e] at hb
    unfold frs at hb
    rw [List.filterMap_cons,hf] at hb
    exact hb
theorem Inv.stkFree (I:Inv X pins σ H s):∀ b ∈ frs X.stack,H b=none:=fun b hb=>by
  rcases List.mem_cons.mp (I.stkSub b hb) with e | hb
  · rw [e]; exact I.free
  · obtain ⟨_,o,ho,_⟩:=I.ok.funs.mem hb
    exact I.base.free b o ho (I.ok.frf b hb) fun z=>I.ok.exfs b z hb

theorem Inv.step {g':Array GenState} {t':Nat} {d':Drawn} {ch:List Addr} (I:Inv X pins σ H s)
    (hch:∀ b ∈ ch,(b ∈ X.ex∨X.s₀.heap.objs.size<=b)∧b≠X.env.locals∧(∀ x c,X.env.cells.lookup x=some c->c≠b)∧∀ p ∈ X.pn ++ pins,p.1≠b)
    (keep:∀ b o,b≠X.env.locals->b ∉ X.fs->b ∉ ch->s.heap.get? b=some o->H b=none->h'.get? b=some o)
    (slot:∀ b o,b≠X.env.locals->b ∈ X.fs->b ∉ ch->s.heap.get? b=some o->H b=none->∃ sl,h'.get? b=some { o with slots:=sl }) (free:∀ b o,b ∉ ch->s.heap.get? b=some o->H b=none->H' b=none)
    (there:∀ b o,b ∉ ch->s.heap.get? b=some o->∃ o',h'.get? b=some o')
    (tups:∀ b xs,H b=some (.tup xs)->H' b=some (.tup xs)) (frzs:∀ b o u,H b=some (.frz o u)->H' b=some (.frz o u)) (tbls:∀ b ps,H b=some (.tbl ps)->∃ more,H' b=some (.tbl (ps ++ more)))
    (ns:∀ m,s.heap.Ns X.env.locals m->h'.Ns X.env.locals m) (hok:HOk X.prog X.w H' h') (hg:AllBare g') :
    Inv X pins σ H' { s with heap:=h',gens:=g',drawn:=d',toks:=t' }:=by
  have neL:∀ b o,X.s₀.heap.get? b=some o->b≠X.env.locals:=fun b o e=>Nat.ne_of_lt (Nat.lt_of_lt_of_le (Heap.lt_size e) I.ok.above)
  have neC:∀ b o,X.s₀.heap.get? b=some o->b ∉ X.ex->b ∉ ch:=fun b o e hx hb=>by
    rcases (hch b hb).1 with z | z
    · exact hx z
    · exact absurd (Nat.lt_of_lt_of_le (Heap.lt_size e) z) (Nat.lt_irrefl _)
  have cellK:∀ x c,X.env.cells.lookup x=some c->∀ v,s.heap.IsCell c v->h'.IsCell c v:=fun x c e v hQQ=>by
    obtain ⟨o,ho,hd⟩:=hQQ
    have nch:c ∉ ch:=fun z=>(hch c z).2.2.1 x c e rfl
    by_cases hc:c ∈ X.fs
    · obtain ⟨sl,q⟩:=slot c o (I.cne x c e) hc nch ho (I.freeC x c e)
      exact ⟨_,q,hd⟩
    · exact ⟨o,keep c o (I.cne x c e) hc nch ho (I.freeC x c e),hd⟩
  refine ⟨I.ok,I.os,hg,⟨fun b o e n hb hx=>?_,fun b o e n hb hx=>?_,fun b o e n hx=>?_,fun b o e hx=>?_,fun b xs e=>tups b xs (I.base.tups b xs e),fun b o xs e=>frzs b o xs (I.base.frzs b o xs e),fun b ps e=>?_⟩,?_,fun x c e=>?_,?_,fun x c e=>?_,fun p hp=>?_,hok,I.len⟩
  · exact keep b o (neL b o e) hb (neC b o e hx) (I.base.keep b o e n hb hx) (I.base.free b o e n hx)
  · obtain ⟨sl,e1⟩:=I.base.slot b o e n hb hx
    obtain ⟨sl',e2⟩:=slot b _ (neL b o e) hb (neC b o e hx) e1 (I.base.free b o e n hx)
    exact ⟨sl',e2⟩
  · obtain ⟨o',e1⟩:=I.base.there b o e hx
    exact free b o' (neC b o e hx) e1 (I.base.free b o e n hx)
  · obtain ⟨o',e1⟩:=I.base.there b o e hx
    exact there b o' (neC b o e hx) e1
  · obtain ⟨m1,e1⟩:=I.base.tbls b ps e
    obtain ⟨m2,e2⟩:=tbls b _ e1
    exact ⟨m1 ++ m2,by rw [e2,Array.append_assoc]⟩
  · obtain ⟨m,hn,hl⟩:=I.loc
    refine ⟨m,ns m hn,fun i x v e1 e2 e3=>?_⟩
    obtain ⟨u,r,l⟩:=hl i x v e1 e2 e3
    refine ⟨u,r,?_⟩
    rcases l with l | ⟨k,c,e,z⟩
    · exact .inl l
    · exact .inr ⟨k,c,e,cellK x c e _ z⟩
  · obtain ⟨v,z⟩:=I.cell x c e
    exact ⟨v,cellK x c e v z⟩
  · obtain ⟨m,⟨o,_,_,ho,_⟩,_⟩:=I.loc
    exact free _ o (fun z=>(hch _ z).2.1 rfl) ho I.free
  · obtain ⟨v,o,ho,hd⟩:=I.cell x c e
    exact free c o (fun z=>(hch c z).2.2.1 x c e rfl) ho (I.freeC x c e)
  · obtain ⟨e,n,ne,nf,d⟩:=I.pin p hp
    have nch:p.1 ∉ ch:=fun z=>(hch p.1 z).2.2.2 p hp rfl
    exact ⟨keep p.1 p.2 ne nf nch e n,free p.1 p.2 nch e n,ne,nf,d⟩
theorem Inv.un {t':Nat} (I:Inv X pins σ H s) (u:Un X.fs [] H H' s.heap h') (hok:HOk X.prog X.w H' h'):Inv X pins σ H' { s with heap:=h',toks:=t' }:=by
  obtain ⟨m,⟨o,es,ep,ho,r⟩,_⟩:=id I.loc
  obtain ⟨sl,hL⟩:=u.any ho I.free (by simp)
  exact I.step (g':=s.gens) (d':=s.drawn) (ch:=[]) (fun _ z=>nomatch z) (fun b o _ hb _ e n=>u.keep b o e n hb (by simp)) (fun b o _ hb _ e n=>u.slot b o e n hb (by simp)) (fun b o _ e n=>u.free b o e n (by simp)) (fun b o _ e=>u.there b o e (by simp)) u.tups u.frzs u.tbls (fun m' hm=>by
    obtain ⟨o',es',ep',ho',r'⟩:=hm
    rw [ho] at ho'; cases ho'
    exact ⟨_,es',ep',hL,r'⟩) hok I.bare
theorem Inv.call {g':Array GenState} {t':Nat} {d':Drawn} {ch:List Addr} (I:Inv X pins σ H s) (u:Un (frs X.stack) ch H H' s.heap h') (hok:HOk X.prog X.w H' h') (hg:AllBare g')
    (hch:∀ b ∈ ch,(b ∈ X.ex∨X.s₀.heap.objs.size<=b)∧b≠X.env.locals∧(∀ x c,X.env.cells.lookup x=some c->c≠b)∧∀ p ∈ X.pn ++ pins,p.1≠b) :
    Inv X pins σ H' { s with heap:=h',gens:=g',drawn:=d',toks:=t' }:=by
  obtain ⟨m,⟨o,es,ep,ho,r⟩,_⟩:=id I.loc
  obtain ⟨sl,hL⟩:=u.any ho I.free fun z=>(hch _ z).2.1 rfl
  exact I.step (ch:=ch) hch (fun b o hL hb hc e n=>u.keep b o e n (fun z=>(List.mem_cons.mp (I.stkSub b z)).elim hL hb) hc) (fun b o _ _ hc e n=>u.any e n hc) (fun b o hc e n=>u.free b o e n hc) (fun b o hc e=>u.there b o e hc) u.tups u.frzs u.tbls (fun m' hm=>by
    obtain ⟨o',es',ep',ho',r'⟩:=hm
    rw [ho] at ho'; cases ho'
    exact ⟨_,es',ep',hL,r'⟩) hok hg
theorem Inv.turned {t':Nat} {it:Addr} (I:Inv X pins σ H s) (k:∀ b o,b≠it->s.heap.get? b=some o->h'.get? b=some o) (hn:H it=none) (hL:it≠X.env.locals)
    (h1:it ∈ X.ex∨X.s₀.heap.objs.size<=it) (h2:∀ x c,X.env.cells.lookup x=some c->c≠it) (h3:∀ p ∈ X.pn ++ pins,p.1≠it):Inv X pins σ H { s with heap:=h',toks:=t' }:=by
  have nit:∀ b u,H b=some u->b≠it:=fun b u e z=>by rw [z,hn] at e; cases e
  refine I.step (g':=s.gens) (d':=s.drawn) (ch:=[it]) (fun b hb=>?_) (fun b o _ _ hc e _=>k b o (fun z=>hc (by simp [z])) e) (fun b o _ _ hc e _=>⟨o.slots,k b o (fun z=>hc (by simp [z])) e⟩) (fun _ _ _ _ n=>n)
    (fun b o hc e=>⟨o,k b o (fun z=>hc (by simp [z])) e⟩) (fun _ _ e=>e) (fun _ _ _ e=>e) (fun b ps e=>⟨#[],by rw [e]; simp⟩) (fun m hm=>?_) (fun b u e=>?_) I.bare
  · have e:b=it:=by simpa using hb
    subst e
    exact ⟨h1,hL,h2,h3⟩
  · obtain ⟨o,es,ep,ho,r⟩:=hm
    exact ⟨o,es,ep,k _ o (Ne.symm hL) ho,r⟩
  · refine (I.hok b u e).stay (fun c v hc q=>k c v ?_ q) (fun _ q=>q) fun _ _ q=>q
    rcases hc with z | z
    · rw [z]; exact nit b u e
    · exact nit c _ z
theorem Inv.tok (I:Inv X pins σ H s) (t:Nat):Inv X pins σ H { s with toks:=t }:=I.un (h':=s.heap) (t':=t) Un.refl I.hok
theorem Inv.kept {t':Nat} (I:Inv X pins σ H s) (k:∀ b u,s.heap.get? b=some u->h'.get? b=some u):Inv X pins σ H { s with heap:=h',toks:=t' }:=I.un (Un.kept k) (I.hok.kept k)
theorem Inv.laid {a:Addr} {o:HO} {t':Nat} (I:Inv X pins σ H s) (k:∀ b u,s.heap.get? b=some u->h'.get? b=some u) (hp:s.heap.objs.size<=a) (new:yE X.prog X.w (upd H a o) h' a o) :
    Inv X pins σ (upd H a o) { s with heap:=h',toks:=t' }:=I.un (Un.laid k hp (I.hok.fresh hp)) (I.hok.laid k hp new)
theorem Inv.write {x e:Addr} {o:HO} {t':Nat} (I:Inv X pins σ H s) (mu:Mut (H x)) (he:e=x∨H e=some (.own x)) (k:∀ b u,b≠e->s.heap.get? b=some u->h'.get? b=some u) (heo:∃ u,h'.get? e=some u)
    (new:yE X.prog X.w (upd H x o) h' x o):Inv X pins σ (upd H x o) { s with heap:=h',toks:=t' }:=I.un (Un.write mu he k heo) (I.hok.write mu he k heo new)
theorem Inv.weak {σ':List (Option V)} (I:Inv X pins σ H s) (hl:σ'.length=σ.length) (w:∀ (i:Nat) v,σ'[i]? = some (some v)->σ[i]? = some (some v)):Inv X pins σ' H s :=
  ⟨I.ok,I.os,I.bare,I.base,let ⟨m,hn,hl'⟩:=I.loc; ⟨m,hn,fun i x v e1 e2 e3=>hl' i x v e1 (w i v e2) e3⟩,I.cell,I.free,I.freeC,I.pin,I.hok,hl.trans I.len⟩
theorem Inv.pins_of {pins':List (Addr × Obj)} (I:Inv X pins σ H s) (h:∀ p ∈ pins',s.heap.get? p.1=some p.2∧H p.1=none∧p.1≠X.env.locals∧p.1 ∉ X.fs∧∀ v,p.2.data≠.cell v):Inv X pins' σ H s :=
  ⟨I.ok,I.os,I.bare,I.base,I.loc,I.cell,I.free,I.freeC,fun p hp=>(List.mem_append.mp hp).elim (fun z=>I.pin p (List.mem_append_left _ z)) (h p),I.hok,I.len⟩

theorem jaM {N:List Str} (hN:N.Nodup) {i j:Nat} {x:Str} (a:N[i]? = some x) (b:N[j]? = some x):i=j:=by
  obtain ⟨h1,e1⟩:=List.getElem?_eq_some_iff.mp a
  obtain ⟨h2,e2⟩:=List.getElem?_eq_some_iff.mp b
  exact (List.getElem_inj hN).mp (e1.trans e2.symm)

theorem XT {M:Model} {A:Around} {E:Value->Shared->Prop} {i:Nat} {x:Str} {v:V} {u:Value} {Q:Unit->Shared->Prop} (I:Inv X pins σ H s) (hN:X.N.Nodup) (hi:X.N[i]? = some x) (hx:Loc X.env.scope x) (r:yl v u)
    (h:∀ s',Inv X pins (σ.set i (some v)) H s'->(∃ a,Heap.SameBut a s.heap s'.heap∧(a=X.env.locals∨X.env.cells.lookup x=some a))->Q () s') (hf:X.fn x=true∨X.env.scope.names.lookup x=some .local:=by first | exact .inl rfl | exact .inr rfl | assumption):wpAny M A (storeName X.env x u) Q E s:=by
  obtain ⟨m,hn,hl⟩:=id I.loc
  have hcls:(X.env.scope.kind == .class || (X.env.scope.kind == .module && X.env.locals != X.env.globals))=false:=by rw [I.ok.kind]; rfl
  have hiσ:i < σ.length:=by rw [I.len]; exact (List.getElem?_eq_some_iff.mp hi).1
  have cne:=I.cne
  have tracked:∀ {a:Addr} {h':Heap},(∃ o,s.heap.get? a=some o∧H a=none)->Heap.SameBut a s.heap h'->HOk X.prog X.w H h':=fun {a h'} ha hs b ob e=>by
    obtain ⟨_,_,hfree⟩:=ha
    refine (I.hok b ob e).stay (fun c w' hc q=>(hs.2 c ?_).trans q) (fun _ q=>q) fun _ _ q=>q
    rintro rfl
    rcases hc with rfl | hc
    · rw [hfree] at e; cases e
    · rw [hfree] at hc; cases hc
  rcases hx with hk | hk
  · refine wpAny_storeName_local hk hn (fun h' hn' hs=>?_) hcls
    obtain ⟨oL,_,_,hoL,_⟩:=id hn
    refine h _ ⟨I.ok,I.os,I.bare,⟨fun b o e n hb hx=>?_,fun b o e n hb hx=>?_,I.base.free,fun b o e hx=>?_,I.base.tups,I.base.frzs,I.base.tbls⟩,⟨_,hn',fun j y v' e1 e2 e3=>?_⟩,fun y c e=>?_,I.free,I.freeC,fun p hp=>?_,tracked ⟨oL,hoL,I.free⟩ hs,by simpa using I.len⟩ ⟨_,hs,.inl rfl⟩
    · exact (hs.2 b (Nat.ne_of_lt (Nat.lt_of_lt_of_le (Heap.lt_size e) I.ok.above))).trans (I.base.keep b o e n hb hx)
    · obtain ⟨sl,e1⟩:=I.base.slot b o e n hb hx
      exact ⟨sl,(hs.2 b (Nat.ne_of_lt (Nat.lt_of_lt_of_le (Heap.lt_size e) I.ok.above))).trans e1⟩
    · obtain ⟨o',e1⟩:=I.base.there b o e hx
      exact ⟨o',(hs.2 b (Nat.ne_of_lt (Nat.lt_of_lt_of_le (Heap.lt_size e) I.ok.above))).trans e1⟩
    · by_cases hj:j=i
      · subst hj
        rw [hi] at e1; cases e1
        rw [List.getElem?_set_self hiσ] at e2
        cases e2
        exact ⟨u,r,.inl ⟨hk,by simp⟩⟩
      · rw [List.getElem?_set_ne (Ne.symm hj)] at e2
        obtain ⟨u',r',q⟩:=hl j y v' e1 e2 e3
        refine ⟨u',r',?_⟩
        rcases q with ⟨k,e⟩ | ⟨k,c,e,z⟩
        · refine .inl ⟨k,?_⟩
          have:y≠x:=fun e=>hj (jaM hN e1 (e ▸ hi))
          simp [this,e]
        · exact .inr ⟨k,c,e,z.sameBut hs (cne y c e)⟩
    · obtain ⟨w',z⟩:=I.cell y c e
      exact ⟨w',z.sameBut hs (cne y c e)⟩
    · obtain ⟨e,n,ne,nf,d⟩:=I.pin p hp
      exact ⟨(hs.2 p.1 ne).trans e,n,ne,nf,d⟩
  · have hfn:X.fn x=true:=by
      rcases hf with z | z
      · exact z
      · rw [z] at hk; cases hk
    obtain ⟨c,hc⟩:=I.ok.has x (.inl hk)
    obtain ⟨w',z⟩:=I.cell x c hc
    refine wpAny_storeName_cell I.ok.kind hk hc z (fun h' hc' hs=>?_)
    obtain ⟨oc,hoc,hocd⟩:=id z
    refine h { s with heap:=h' } ⟨I.ok,I.os,I.bare,⟨fun b o e n hb hx=>?_,fun b o e n hb hx=>?_,I.base.free,fun b o e hx=>?_,I.base.tups,I.base.frzs,I.base.tbls⟩,⟨m,hn.sameBut hs (Ne.symm (cne x c hc)),fun j y v' e1 e2 e3=>?_⟩,fun y c' e=>?_,I.free,I.freeC,fun p hp=>?_,tracked ⟨oc,hoc,I.freeC x c hc⟩ hs,by simpa using I.len⟩ ⟨c,hs,.inr hc⟩
    · exact (hs.2 b (Nat.ne_of_lt (Nat.lt_of_lt_of_le (Heap.lt_size e) (I.ok.cab x c hfn hc)))).trans (I.base.keep b o e n hb hx)
    · obtain ⟨sl,e1⟩:=I.base.slot b o e n hb hx
      exact ⟨sl,(hs.2 b (Nat.ne_of_lt (Nat.lt_of_lt_of_le (Heap.lt_size e) (I.ok.cab x c hfn hc)))).trans e1⟩
    · obtain ⟨o',e1⟩:=I.base.there b o e hx
      exact ⟨o',(hs.2 b (Nat.ne_of_lt (Nat.lt_of_lt_of_le (Heap.lt_size e) (I.ok.cab x c hfn hc)))).trans e1⟩
    · by_cases hj:j=i
      · subst hj
        rw [hi] at e1; cases e1
        rw [List.getElem?_set_self hiσ] at e2
        cases e2
        exact ⟨u,r,.inr ⟨.inl hk,c,hc,hc'⟩⟩
      · rw [List.getElem?_set_ne (Ne.symm hj)] at e2
        obtain ⟨u',r',q⟩:=hl j y v' e1 e2 e3
        refine ⟨u',r',?_⟩
        rcases q with q | ⟨k,c',e,z'⟩
        · exact .inl q
        · refine .inr ⟨k,c',e,z'.sameBut hs ?_⟩
          rintro rfl
          exact hj (jaM hN e1 (I.ok.inj _ _ _ e hc ▸ hi))
    · by_cases hcc:c'=c
      · subst hcc; exact ⟨_,hc'⟩
      · obtain ⟨w2,z2⟩:=I.cell y c' e
        exact ⟨w2,z2.sameBut hs hcc⟩
    · obtain ⟨e,n,ne,nf,d⟩:=I.pin p hp
      refine ⟨(hs.2 p.1 ?_).trans e,n,ne,nf,d⟩
      intro q
      rw [q,hoc] at e
      have q':oc=p.2:=Option.some.inj e
      exact d w' (by rw [<- q']; exact hocd)
theorem Yz {M:Model} {A:Around} {E:Value->Shared->Prop} {i:Nat} {x:Str} {v:V} {u:Value} {Q:Unit->Shared->Prop} (I:Inv X pins σ H s) (hN:X.N.Nodup) (hi:X.N[i]? = some x) (hx:Loc X.env.scope x) (r:yl v u)
    (h:∀ s',Inv X pins (σ.set i (some v)) H s'->Q () s') (hf:X.fn x=true∨X.env.scope.names.lookup x=some .local:=by first | exact .inl rfl | exact .inr rfl | assumption):wpAny M A (storeName X.env x u) Q E s :=
  XT I hN hi hx r (fun s' I' _=>h s' I') hf
theorem Inv.call' {s':Shared} {ch:List Addr} (I:Inv X pins σ H s) (ho:s'.os=s.os) (u:Un (frs X.stack) ch H H' s.heap s'.heap) (hok:HOk X.prog X.w H' s'.heap) (hg:AllBare s'.gens)
    (hch:∀ b ∈ ch,(b ∈ X.ex∨X.s₀.heap.objs.size<=b)∧b≠X.env.locals∧(∀ x c,X.env.cells.lookup x=some c->c≠b)∧∀ p ∈ X.pn ++ pins,p.1≠b):Inv X pins σ H' s':=by
  obtain ⟨h',g',d',t',o'⟩:=s'
  have e:o'=s.os:=ho
  subst e
  exact I.call (g':=g') (t':=t') (d':=d') u hok hg hch
end

abbrev XK:=Value->Option Addr->Hp->Prop
abbrev St:=List (Option V)
abbrev VK:=V->Hp->Prop
abbrev TE:=St->Hp->VK->Prop
abbrev TT:=St->Hp->(Bool->Hp->Prop)->Prop
abbrev TA:=St->Hp->(List V->Hp->Prop)->Prop
structure Ends where
  nx:St->Hp->Prop
  rt:VK
  bk:St->Hp->Prop:=fun _ _=>False
  ct:St->Hp->Prop:=fun _ _=>False
abbrev TS:=Ends->St->Hp->Prop

def EP (X:Cx) (pins:List (Addr × Obj)) (σ:St) (Q:VK) (u:Value) (s':Shared):Prop:=∃ v H',Inv X pins σ H' s'∧yl v u∧Q v H'
def TP (X:Cx) (pins:List (Addr × Obj)) (σ:St) (Q:Bool->Hp->Prop) (b:Bool) (s':Shared):Prop:=∃ H',Inv X pins σ H' s'∧Q b H'
def AP (X:Cx) (pins:List (Addr × Obj)) (σ:St) (Q:List V->Hp->Prop) (us:List Value) (s':Shared):Prop:=∃ vs H',Inv X pins σ H' s'∧yj vs us∧Q vs H'
def SP (X:Cx) (pins:List (Addr × Obj)) (D:Ends) (f:Flow) (s':Shared):Prop :=
  match f with
  | .next=>∃ σ' H',Inv X pins σ' H' s'∧D.nx σ' H'
  | .brk=>∃ σ' H',Inv X pins σ' H' s'∧D.bk σ' H'
  | .cont=>∃ σ' H',Inv X pins σ' H' s'∧D.ct σ' H'
  | .ret u=>∃ v σ' H',Inv X pins σ' H' s'∧yl v u∧D.rt v H'

def PE (X:Cx) (e:Expr) (t:TE):Prop :=
  ∀ (pins:List (Addr × Obj)) (s:Shared) (σ:St) (H:Hp) (Q:VK),Inv X pins σ H s->t σ H Q->wpAny (model X.prog X.w) X.A (eval e X.env) (EP X pins σ Q) X.xe s
def PT (X:Cx) (e:Expr) (t:TT):Prop :=
  ∀ (pins:List (Addr × Obj)) (s:Shared) (σ:St) (H:Hp) (Q:Bool->Hp->Prop),Inv X pins σ H s->t σ H Q->wpAny (model X.prog X.w) X.A (isTrue e X.env (eval e X.env)) (TP X pins σ Q) X.xe s
def PW (X:Cx) (e:Expr) (t:TT):Prop :=
  ∀ (whole:Sem Value) (pins:List (Addr × Obj)) (s:Shared) (σ:St) (H:Hp) (Q:Bool->Hp->Prop),Inv X pins σ H s->t σ H Q->wpAny (model X.prog X.w) X.A (isTrue e X.env whole) (TP X pins σ Q) X.xe s
theorem PW.pt {X:Cx} {e:Expr} {t:TT} (h:PW X e t):PT X e t:=h _
def PA (X:Cx) (es:List Expr) (t:TA):Prop :=
  ∀ (pos:Pos) (pins:List (Addr × Obj)) (s:Shared) (σ:St) (H:Hp) (Q:List V->Hp->Prop),Inv X pins σ H s->t σ H Q->wpAny (model X.prog X.w) X.A (spliced (backTo pos (starEach es X.env))) (AP X pins σ Q) X.xe s
def PS (X:Cx) (st:Stmt) (t:TS):Prop :=
  ∀ (pins:List (Addr × Obj)) (s:Shared) (σ:St) (H:Hp) (D:Ends),Inv X pins σ H s->t D σ H->wpAny (model X.prog X.w) X.A (exec st X.env) (SP X pins D) X.xe s
def PSs (X:Cx) (st:List Stmt) (t:TS):Prop :=
  ∀ (pins:List (Addr × Obj)) (s:Shared) (σ:St) (H:Hp) (D:Ends),Inv X pins σ H s->t D σ H->wpAny (model X.prog X.w) X.A (execs st X.env) (SP X pins D) X.xe s
theorem thn {α:Type} {t:Sem α} {Q Q':α->Shared->Prop} {M:Model} {A:Around} {E:Value->Shared->Prop} {s:Shared} (h:wpAny M A t Q E s) (hQ:∀ a s,Q a s->Q' a s):wpAny M A t Q' E s:=wpAny_mono h hQ fun _ _ x=>x
end L2

namespace L2
open PySem PySem.Spec PyProof.Rows
section
variable {X:Cx}

def tVar (i:Nat):TE:=fun σ H Q=>∃ v,σ[i]? = some (some v)∧Q v H
def tC (v:V):TE:=fun _ H Q=>Q v H
theorem pe_var {i:Nat} {x:Str} {pos:Pos} (hN:X.N[i]? = some x) (hv:Vis X.env.scope x) (hd:(x == ("__debug__":Str))=false:=by decide) (hcd:(x == ("__classdict__":Str))=false:=by decide):PE X (.Name x pos) (tVar i):=by
  intro pins s σ H Q I h
  obtain ⟨v,e,h⟩:=h
  obtain ⟨m,hn,hl⟩:=I.loc
  obtain ⟨u,r,l⟩:=hl i x v hN e hv
  have fin:EP X pins σ Q u s:=⟨v,H,I,r,h⟩
  rcases l with ⟨hk,hm⟩ | ⟨hk,c,hc,hcell⟩
  · exact wpAny_Name (wpAny_loadName_local I.ok.kind hk hn hm fin) hd
  · rcases hk with hk | hk
    · exact wpAny_Name (wpAny_loadName_cell I.ok.kind hk hc hcell fin) hd
    · exact wpAny_Name (wpAny_loadName_free I.ok.kind hk hc hcell fin hcd) hd
theorem pe_int {i j pos}:PE X (.Constant (.int i) j pos) (tC (.int i)):=fun _ _ _ H _ I h=>wpAny_Constant_int ⟨.int i,H,I.tok _,⟨_,rfl⟩,h⟩
theorem pe_bl {b j pos}:PE X (.Constant (.bool b) j pos) (tC (.bl b)):=fun _ _ _ H _ I h=>Constant_bool ⟨.bl b,H,I,rfl,h⟩
theorem pe_non {j pos}:PE X (.Constant .none j pos) (tC .non):=fun _ _ _ H _ I h=>Constant_none ⟨.non,H,I,rfl,h⟩
theorem jfm {x j pos}:PE X (.Constant (.str x) j pos) (tC (.str x)):=fun _ _ _ H _ I h=>Calls.Constant_str ⟨.str x,H,I.tok _,⟨_,rfl⟩,h⟩

def Gl (X:Cx) (x:Str):Prop:=X.env.kindOf x=some .globalImplicit
theorem Yt {E:Value->Shared->Prop} {pins:List (Addr × Obj)} {s:Shared} {σ:St} {H:Hp} {x:Str} {u:Value} {pos:Pos} {Q:Value->Shared->Prop} (I:Inv X pins σ H s) (hg:Gl X x) (hm:X.mg x=some u) (h:Q u s)
    (hd:(x == ("__debug__":Str))=false:=by decide):wpAny (model X.prog X.w) X.A (eval (.Name x pos) X.env) Q E s :=
  Calls.Name_function_global I.ok.kind hg (Calls.loadGlobal_global (by rw [I.ok.glob]; exact I.mod.glob.keeps I.bk) hm h) hd
theorem JR {E:Value->Shared->Prop} {pins:List (Addr × Obj)} {s:Shared} {σ:St} {H:Hp} {x:Str} {u:Value} {pos:Pos} {Q:Value->Shared->Prop} (I:Inv X pins σ H s) (hg:Gl X x) (hm:X.mg x=none) (hv:bootBuiltins x=some u) (h:Q u s)
    (hn:x≠"__name__":=by decide) (hd:(x == ("__debug__":Str))=false:=by decide):wpAny (model X.prog X.w) X.A (eval (.Name x pos) X.env) Q E s:=by
  obtain ⟨mb,h1,h2⟩:=I.mod.blt
  exact Calls.Name_function_global I.ok.kind hg (Calls.loadGlobal_builtin (by rw [I.ok.glob]; exact I.mod.glob.keeps I.bk) hm (by rw [I.ok.blt]; exact h1.keeps I.bk) ((h2 x hn).trans hv) h) hd
theorem jcM {x:Str} {v:V} {u:Value} {pos:Pos} (hg:Gl X x) (hm:X.mg x=some u) (r:yl v u) (hd:(x == ("__debug__":Str))=false:=by decide):PE X (.Name x pos) (tC v) :=
  fun _ _ _ H _ I h=>Yt I hg hm ⟨v,H,I,r,h⟩ hd
theorem jhR {x:Str} {v:V} {u:Value} {pos:Pos} (hg:Gl X x) (hm:X.mg x=none) (hv:bootBuiltins x=some u) (r:yl v u) (hn:x≠"__name__":=by decide) (hd:(x == ("__debug__":Str))=false:=by decide):PE X (.Name x pos) (tC v) :=
  fun _ _ _ H _ I h=>JR I hg hm hv ⟨v,H,I,r,h⟩ hn hd

variable {a b:Expr} {ta tb:TE} {pos:Pos}
def PC (X:Cx) (op:CmpOp) (a b:Expr) (t:TE):Prop :=
  ∀ (pins:List (Addr × Obj)) (s:Shared) (σ:St) (H:Hp) (Q:VK),Inv X pins σ H s->t σ H Q ->
    wpAny (model X.prog X.w) X.A (eval a X.env) (fun v s₁=>wpAny (model X.prog X.w) X.A (eval b X.env) (fun u s₂=>wpAny (model X.prog X.w) X.A (compareOp op v u) (EP X pins σ Q) X.xe s₂) X.xe s₁) X.xe s
theorem jaN (b:Expr) {op:CmpOp} (h:op≠.In) (h2:op≠.NotIn):behindInMarks op b=false:=by
  have e1:(op == CmpOp.In)=false:=by cases op <;> first | rfl | exact absurd rfl h
  have e2:(op == CmpOp.NotIn)=false:=by cases op <;> first | rfl | exact absurd rfl h2
  cases b <;> simp [behindInMarks,e1,e2]
def tB (t:TE):TT:=fun σ H Q=>t σ H fun x H1=>∃ c,x = .bl c∧Q c H1
theorem pe_cmp {op:CmpOp} {t:TE} (h:PC X op a b t) (h1:behindInMarks op b=false:=by first | exact jaN _ (by decide) (by decide) | rfl):PE X (.Compare a [op] [b] pos) t:=fun pins s σ H Q I hw=>wpAny_Compare1 (h pins s σ H Q I hw) h1
theorem pt_cmp {op:CmpOp} {t:TE} (h:PC X op a b t) (h1:behindInMarks op b=false:=by first | exact jaN _ (by decide) (by decide) | rfl):PT X (.Compare a [op] [b] pos) (tB t):=by
  intro pins s σ H Q I hw
  refine wpAny_isTrue_Compare1 (thn (h pins s σ H _ I hw) fun v s1 h1=>thn h1 fun u s2 h2=>thn h2 fun c s3 hQQ=>?_) h1
  obtain ⟨x,H1,I1,r1,q1⟩:=hQQ
  obtain ⟨d,rfl,q⟩:=q1
  cases r1
  exact wpAny_truthy_bool ⟨H1,I1,q⟩
variable {tA tB':TT} {rest:List Expr}
def tAnd (t u:TT):TT:=fun σ H Q=>t σ H fun c H1=>if c=true then u σ H1 Q else Q false H1
def tOr (t u:TT):TT:=fun σ H Q=>t σ H fun c H1=>if c=true then Q true H1 else u σ H1 Q
def tNot (t:TT):TT:=fun σ H Q=>t σ H fun c H1=>Q (!c) H1
theorem jhB (ha:PT X a tA):PW X (.BoolOp .And [a] pos) tA:=by
  intro wh pins s σ H Q I h
  refine isTrue_and (thn (ha pins s σ H Q I h) fun c s1 e=>?_)
  cases c with
  | true=>exact isTrue_and_nil e
  | false=>exact e
theorem pw_or1 (ha:PT X a tA):PW X (.BoolOp .Or [a] pos) tA:=by
  intro wh pins s σ H Q I h
  refine isTrue_or (thn (ha pins s σ H Q I h) fun c s1 e=>?_)
  cases c with
  | false=>exact isTrue_or_nil e
  | true=>exact e
theorem pw_and (ha:PT X a tA) (hb:PW X (.BoolOp .And (b :: rest) pos) tB'):PW X (.BoolOp .And (a :: b :: rest) pos) (tAnd tA tB'):=by
  intro wh pins s σ H Q I h
  refine isTrue_and (thn (ha pins s σ H _ I h) fun c s1 hQQ=>?_)
  obtain ⟨H1,I1,q1⟩:=hQQ
  cases c with
  | true=>exact hb wh pins s1 σ H1 Q I1 q1
  | false=>exact ⟨H1,I1,q1⟩
theorem pw_or (ha:PT X a tA) (hb:PW X (.BoolOp .Or (b :: rest) pos) tB'):PW X (.BoolOp .Or (a :: b :: rest) pos) (tOr tA tB'):=by
  intro wh pins s σ H Q I h
  refine isTrue_or (thn (ha pins s σ H _ I h) fun c s1 hQQ=>?_)
  obtain ⟨H1,I1,q1⟩:=hQQ
  cases c with
  | true=>exact ⟨H1,I1,q1⟩
  | false=>exact hb wh pins s1 σ H1 Q I1 q1
theorem pt_not (ha:PT X a tA):PT X (.UnaryOp .Not a pos) (tNot tA):=by
  intro pins s σ H Q I h
  exact isTrue_not (ha pins s σ H (fun c H1=>Q (!c) H1) I h)
def tAndV (ta tb:TE):TE:=fun σ H Q=>ta σ H fun x H1=>∃ c,x = .bl c∧if c=true then tb σ H1 Q else Q (.bl false) H1
def tNotV (ta:TE):TE:=fun σ H Q=>ta σ H fun x H1=>∃ c,x = .bl c∧Q (.bl (!c)) H1
theorem pe_one {op} {t:TE} (h:PE X a t):PE X (.BoolOp op [a] pos) t:=fun pins s σ H Q I hw=>BoolOp_one (h pins s σ H Q I hw)
theorem pe_and (ha:PE X a ta) (hb:PE X (.BoolOp .And (b :: rest) pos) tb):PE X (.BoolOp .And (a :: b :: rest) pos) (tAndV ta tb):=by
  intro pins s σ H Q I h
  refine BoolOp_and (thn (ha pins s σ H _ I h) fun v s1 hQQ=>?_)
  obtain ⟨x,H1,I1,r1,q1⟩:=hQQ
  obtain ⟨c,rfl,q1⟩:=q1
  cases r1
  refine wpAny_truthy_bool ?_
  cases c with
  | true=>exact hb pins s1 σ H1 Q I1 q1
  | false=>exact ⟨.bl false,H1,I1,rfl,q1⟩
theorem pe_not (ha:PE X a ta):PE X (.UnaryOp .Not a pos) (tNotV ta):=by
  intro pins s σ H Q I h
  refine UnaryOp_ (thn (ha pins s σ H _ I h) fun v s1 hQQ=>?_)
  obtain ⟨x,H1,I1,r1,q1⟩:=hQQ
  obtain ⟨c,rfl,q1⟩:=q1
  cases r1
  exact not_of (wpAny_truthy_bool ⟨.bl (!c),H1,I1,rfl,q1⟩)
def tIf (t:TT) (ta tb:TE):TE:=fun σ H Q=>t σ H fun c H1=>if c=true then ta σ H1 Q else tb σ H1 Q
theorem jfp {c:Expr} (hc:PT X c tA) (ha:PE X a ta) (hb:PE X b tb):PE X (.IfExp c a b pos) (tIf tA ta tb):=by
  intro pins s σ H Q I h
  refine wpAny_IfExp (thn (hc pins s σ H _ I h) fun d s1 hQQ=>?_)
  obtain ⟨H1,I1,q1⟩:=hQQ
  cases d with
  | true=>exact ha pins s1 σ H1 Q I1 q1
  | false=>exact hb pins s1 σ H1 Q I1 q1
end
end L2

namespace L2
open PySem PySem.Spec PyProof.Rows

def SqL (K:PySem.W.Frag) (H:Hp) (a:Addr) (xs:List V):Prop :=
  Rd H a (.lst xs) ∨
    ∃ (o:Obj) (its:Array Value) (n:Nat),K.lookup a=some o∧o.cls = .type "list"∧o.dict=none∧o.data = .seq its n∧its.size<=sizeLine∧yj xs its.toList
def SqT (K:PySem.W.Frag) (H:Hp) (a:Addr) (xs:List V):Prop :=
  Rd H a (.tup xs) ∨
    ∃ (o:Obj) (its:Array Value) (n:Nat),K.lookup a=some o∧o.cls = .type "tuple"∧o.data = .seq its n∧its.size<=sizeLine∧yj xs its.toList
def absV:Value->Option V
  | .none=>some .non
  | .bool b=>some (.bl b)
  | .int i _=>some (.int i)
  | .str x _=>some (.str x)
  | .bytes b _=>some (.byt b)
  | .float b _=>some (.flt b)
  | .ref a=>some (.ref a)
  | .type n=>some (.ty n)
  | _=>none
theorem yl.abs {x:V} {u:Value} (r:yl x u):absV u=some x:=by
  cases x with
  | non=>cases r; rfl
  | bl _=>cases r; rfl
  | int _=>obtain ⟨t,rfl⟩:=r; rfl
  | str _=>obtain ⟨t,rfl⟩:=r; rfl
  | byt _=>obtain ⟨t,rfl⟩:=r; rfl
  | flt _=>obtain ⟨t,rfl⟩:=r; rfl
  | ref _=>cases r; rfl
  | ty _=>cases r; rfl
theorem yl.inj {x y:V} {u:Value} (r:yl x u) (q:yl y u):x=y:=Option.some.inj (r.abs.symm.trans q.abs)
theorem yj.inj {xs ys:List V} {us:List Value} (h:yj xs us) (h':yj ys us):xs=ys:=by
  induction h generalizing ys with
  | nil=>cases h'; rfl
  | cons r t ih =>
    cases h' with
    | cons r' t'=>rw [r.inj r',ih t']
section
variable {X:Cx} {pins:List (Addr × Obj)} {σ:St} {H:Hp} {s:Shared} {a:Addr} {xs ys:List V}
theorem SqL.of {K:PySem.W.Frag} (h:H a=some (.lst xs)):SqL K H a xs:=.inl (.inl h)
theorem SqT.of {K:PySem.W.Frag} (h:H a=some (.tup xs)):SqT K H a xs:=.inl (.inl h)
theorem Inv.list (I:Inv X pins σ H s) (h:SqL X.K H a xs):∃ its:List Value,yj xs its∧PlainL s.heap a its.toArray∧xs.length<=sizeLine:=by
  rcases h with h | ⟨o,its,n,hk,hc,hd,hs,hz,r⟩
  · obtain ⟨z,its,n,r,e⟩:=h.ok I.hok
    exact ⟨its,r,⟨_,n,e,rfl,rfl,rfl⟩,z⟩
  · refine ⟨its.toList,r,⟨o,n,I.kIn a o hk,hc,hd,by simpa using hs⟩,?_⟩
    have e:=r.length
    simp only [Array.length_toList] at e
    omega
theorem Inv.tuple (I:Inv X pins σ H s) (h:SqT X.K H a xs):∃ its:List Value,yj xs its∧IsTup s.heap a its.toArray∧xs.length<=sizeLine:=by
  rcases h with h | ⟨o,its,n,hk,hc,hs,hz,r⟩
  · obtain ⟨z,its,r,p⟩:=h.ok I.hok
    exact ⟨its,r,p,z⟩
  · refine ⟨its.toList,r,⟨o,I.kIn a o hk,hc,n,by simpa using hs⟩,?_⟩
    have e:=r.length
    simp only [Array.length_toList] at e
    omega
theorem Inv.list_inj (I:Inv X pins σ H s) (h:SqL X.K H a xs) (h':SqL X.K H a ys):xs=ys:=by
  obtain ⟨its,r,⟨o,n,e,_,_,d⟩,_⟩:=I.list h
  obtain ⟨its',r',⟨o',n',e',_,_,d'⟩,_⟩:=I.list h'
  rw [e] at e'; cases e'
  rw [d] at d'
  injection d' with d1 _
  have:its=its':=by simpa using congrArg Array.toList d1
  subst this
  exact r.inj r'
theorem Inv.tuple_inj (I:Inv X pins σ H s) (h:SqT X.K H a xs) (h':SqT X.K H a ys):xs=ys:=by
  obtain ⟨its,r,⟨o,e,_,n,d⟩,_⟩:=I.tuple h
  obtain ⟨its',r',⟨o',e',_,n',d'⟩,_⟩:=I.tuple h'
  rw [e] at e'; cases e'
  rw [d] at d'
  injection d' with d1 _
  have:its=its':=by simpa using congrArg Array.toList d1
  subst this
  exact r.inj r'
end

abbrev Cx.wish (X:Cx) (E:Value->Shared->Prop):Cx:={ X with xe:=E }
abbrev Cx.nox (X:Cx):Cx:=X.wish fun _ _=>False
theorem Cx.Ok.wish {X:Cx} (ok:X.Ok) (E:Value->Shared->Prop):(X.wish E).Ok :=
  ⟨ok.mod,ok.kind,ok.glob,ok.blt,ok.above,ok.inj,ok.has,ok.cab,ok.hd,ok.frames,ok.stk,ok.exf,ok.bs,ok.bsz,ok.noex,ok.exfs,ok.funs,ok.frf⟩
theorem Cx.Ok.unwish {X:Cx} {E:Value->Shared->Prop} (ok:(X.wish E).Ok):X.Ok :=
  ⟨ok.mod,ok.kind,ok.glob,ok.blt,ok.above,ok.inj,ok.has,ok.cab,ok.hd,ok.frames,ok.stk,ok.exf,ok.bs,ok.bsz,ok.noex,ok.exfs,ok.funs,ok.frf⟩
section
variable {X:Cx} {pins:List (Addr × Obj)} {σ:St} {H:Hp} {s:Shared} {E:Value->Shared->Prop}
theorem Inv.wish (I:Inv X pins σ H s) (E:Value->Shared->Prop):Inv (X.wish E) pins σ H s:=⟨I.ok.wish E,I.os,I.bare,I.base,I.loc,I.cell,I.free,I.freeC,I.pin,I.hok,I.len⟩
theorem Inv.unwish (I:Inv (X.wish E) pins σ H s):Inv X pins σ H s:=⟨I.ok.unwish,I.os,I.bare,I.base,I.loc,I.cell,I.free,I.freeC,I.pin,I.hok,I.len⟩
theorem SP.unwish {D:Ends} {f:Flow} {s':Shared} (h:SP (X.wish E) pins D f s'):SP X pins D f s':=by
  cases f with
  | next=>obtain ⟨σ',H',I,q⟩:=h; exact ⟨σ',H',I.unwish,q⟩
  | brk=>obtain ⟨σ',H',I,q⟩:=h; exact ⟨σ',H',I.unwish,q⟩
  | cont=>obtain ⟨σ',H',I,q⟩:=h; exact ⟨σ',H',I.unwish,q⟩
  | ret u=>obtain ⟨v,σ',H',I,r,q⟩:=h; exact ⟨v,σ',H',I.unwish,r,q⟩
theorem PSs.nox {st:List Stmt} {t:TS} (h:PSs X.nox st t):PSs X st t:=fun pins s σ H D I hw =>
  wpAny_mono (h pins s σ H D (I.wish _) hw) (fun _ _ q=>q.unwish) fun _ _ z=>False.elim z
end

section
variable {X:Cx} {st:Stmt} {rest:List Stmt} {t u:TS} {e:Expr} {te:TE} {pos:Pos}
def tNext:TS:=fun D σ H=>D.nx σ H
def tSeq (t u:TS):TS:=fun D σ H=>t { D with nx:=u D } σ H
theorem jhF:PSs X [] tNext:=fun _ _ σ H _ I h=>wpAny_execs_nil ⟨σ,H,I,h⟩
theorem jfa (h1:PS X st t) (h2:PSs X rest u):PSs X (st :: rest) (tSeq t u):=by
  intro pins s σ H D I h
  refine wpAny_execs_cons (thn (h1 pins s σ H { D with nx:=u D } I h) fun f s1 q=>?_)
  cases f with
  | next =>
    obtain ⟨σ',H',I',q⟩:=q
    exact h2 pins s1 σ' H' D I' q
  | ret v=>exact q
  | brk=>exact q
  | cont=>exact q
theorem jhE (h1:PS X st t):PSs X [st] t:=by
  intro pins s σ H D I h
  refine wpAny_execs_cons (thn (h1 pins s σ H D I h) fun f s1 q=>?_)
  cases f with
  | next=>exact wpAny_execs_nil q
  | ret v=>exact q
  | brk=>exact q
  | cont=>exact q
theorem Inv.quiet {pins:List (Addr × Obj)} {σ:St} {H:Hp} {s:Shared} (I:Inv X pins σ H s):interactive X.env=false:=by simp [interactive,I.ok.kind]
def tDrop (te:TE):TS:=fun D σ H=>te σ H fun _ H1=>D.nx σ H1
theorem jhG (he:PE X e te) (hs:swapsWith e none pos.line X.env=pure false:=by rfl):PS X (.Expr e pos) (tDrop te):=by
  intro pins s σ H D I h
  exact wpAny_Expr_any (thn (he pins s σ H _ I h) fun v s1 ⟨x,H1,I1,r1,q1⟩=>⟨σ,H1,I1,q1⟩) I.quiet hs
def tRet (te:TE):TS:=fun D σ H=>te σ H D.rt
theorem ps_ret (he:PE X e te):PS X (.Return (some e) pos) (tRet te):=by
  intro pins s σ H D I h
  exact wpAny_Return_some (thn (he pins s σ H _ I h) fun v s1 ⟨x,H1,I1,r1,q1⟩=>⟨x,σ,H1,I1,r1,q1⟩)
def tIfS (c:TT) (t u:TS):TS:=fun D σ H=>c σ H fun b H1=>if b=true then t D σ H1 else u D σ H1
theorem ps_if {c:Expr} {a b:List Stmt} {tc:TT} (hc:PT X c tc) (ha:PSs X a t) (hb:PSs X b u):PS X (.If c a b pos) (tIfS tc t u):=by
  intro pins s σ H D I h
  refine wpAny_If (thn (hc pins s σ H _ I h) fun d s1 hQQ=>?_)
  obtain ⟨H1,I1,q1⟩:=hQQ
  cases d with
  | true=>exact ha pins s1 σ H1 D I1 q1
  | false=>exact hb pins s1 σ H1 D I1 q1
def tNever:TS:=fun _ _ _=>False
theorem jfd:PS X st tNever:=fun _ _ _ _ _ _ h=>h.elim
end

abbrev TG:=V->St->Hp->(St->Hp->Prop)->Prop
abbrev TGs:=List V->St->Hp->(St->Hp->Prop)->Prop
def PG (X:Cx) (target:Expr) (t:TG):Prop :=
  ∀ (pins:List (Addr × Obj)) (s:Shared) (σ:St) (H:Hp) (v:V) (u:Value) (Q:St->Hp->Prop),Inv X pins σ H s->yl v u->t v σ H Q ->
    wpAny (model X.prog X.w) X.A (assign target X.env u) (fun _ s'=>∃ σ' H',Inv X pins σ' H' s'∧Q σ' H') X.xe s
def PGs (X:Cx) (ts:List Expr) (t:TGs):Prop :=
  ∀ (pins:List (Addr × Obj)) (s:Shared) (σ:St) (H:Hp) (vs:List V) (us:List Value) (Q:St->Hp->Prop),Inv X pins σ H s->yj vs us->t vs σ H Q ->
    wpAny (model X.prog X.w) X.A (assignInOrder ((assignEach ts X.env).map (·.2)) us) (fun _ s'=>∃ σ' H',Inv X pins σ' H' s'∧Q σ' H') X.xe s
abbrev TSet:=V->V->V->Hp->(Hp->Prop)->Prop
def PSet (X:Cx) (t:TSet):Prop :=
  ∀ (pins:List (Addr × Obj)) (s:Shared) (σ:St) (H:Hp) (o i v:V) (ov iv u:Value) (Q:Hp->Prop),Inv X pins σ H s->yl o ov->yl i iv->yl v u->t o i v H Q ->
    wpAny (model X.prog X.w) X.A (setItem ov iv u) (fun _ s'=>∃ H',Inv X pins σ H' s'∧Q H') X.xe s
abbrev TIp:=V->V->Hp->VK->Prop
def PIp (X:Cx) (op:Operator) (t:TIp):Prop :=
  ∀ (pins:List (Addr × Obj)) (s:Shared) (σ:St) (H:Hp) (x y:V) (v u:Value) (Q:VK),Inv X pins σ H s->yl x v->yl y u->t x y H Q ->
    wpAny (model X.prog X.w) X.A (inplaceOp op v u) (EP X pins σ Q) X.xe s
section
variable {X:Cx} {pos:Pos}
def uN (i:Nat):TG:=fun v σ H Q=>Q (σ.set i (some v)) H
theorem jM {i:Nat} {x:Str} (hN:X.N.Nodup) (hi:X.N[i]? = some x) (hx:Loc X.env.scope x) (hf:X.fn x=true∨X.env.scope.names.lookup x=some .local:=by first | exact .inl rfl | exact .inr rfl | assumption):PG X (.Name x pos) (uN i):=by
  intro pins s σ H v u Q I r h
  exact wpAny_assign_Name (Yz I hN hi hx r (fun s' I'=>⟨_,H,I',h⟩) hf)
def gNil:TGs:=fun vs σ H Q=>vs=[]∧Q σ H
def jaY (t:TG) (u:TGs):TGs:=fun vs σ H Q=>∃ v r,vs=v :: r∧t v σ H fun σ' H'=>u r σ' H' Q
theorem jcK:PGs X [] gNil:=by
  intro pins s σ H vs us Q I r h
  obtain ⟨e,h⟩:=h
  subst e
  cases r
  exact assignInOrder_nil ⟨σ,H,I,h⟩
theorem YU {e:Expr} {es:List Expr} {t:TG} {u:TGs} (h1:PG X e t) (h2:PGs X es u)
    (hs:(assignEach (e :: es) X.env).map (·.2)=assign e X.env :: (assignEach es X.env).map (·.2):=by rfl):PGs X (e :: es) (jaY t u):=by
  intro pins s σ H vs us Q I r h
  obtain ⟨v,vr,e1,h⟩:=h
  subst e1
  cases r with
  | cons r rr =>
    rw [hs]
    refine assignInOrder_cons (thn (h1 pins s σ H _ _ _ I r h) fun _ s1 hQQ=>?_)
    obtain ⟨σ1,H1,I1,q1⟩:=hQQ
    exact h2 pins s1 σ1 H1 _ _ Q I1 rr q1
def gTup (K:PySem.W.Frag) (n:Nat) (t:TGs):TG:=fun v σ H Q=>∃ a xs,v = .ref a∧SqT K H a xs∧xs.length=n∧t xs σ H Q
theorem jfk {es:List Expr} {k:Nat} {t:TGs} {n:Nat} (hc:X.calm=true) (h:PGs X es t)
    (hn:(assignEach es X.env).length=n:=by rfl) (hst:(assignEach es X.env).findIdx? (·.1)=none:=by rfl):PG X (.Tuple es k pos) (gTup X.K n t):=by
  intro pins s σ H v u Q I r hw
  obtain ⟨a,xs,e1,hq,hl,hw⟩:=hw
  subst e1
  cases r
  obtain ⟨its,rv,ht,hz⟩:=I.tuple hq
  refine assign_Tuple_tuple (I.ok.hd hc) ht (by simp [hn,<- hl,rv.length]) hst fun h' hx=>?_
  have I1:Inv X pins σ H { s with heap:=h' }:=I.kept (t':=s.toks) fun b o e=>hx b o (Nat.ne_of_lt (Heap.lt_size e)) e
  exact h pins _ σ H xs _ Q I1 (by simpa using rv) hw
def jaW (to ti:TE) (t:TSet):TG:=fun v σ H Q=>to σ H fun o H1=>ti σ H1 fun i H2=>t o i v H2 fun H3=>Q σ H3
theorem pg_sub {o i:Expr} {to ti:TE} {t:TSet} (ho:PE X o to) (hi:PE X i ti) (hs:PSet X t)
    (ha:∀ v,assign (.Subscript o i pos) X.env v=(do
      let ov <- holding [v] (eval o X.env)
      let iv <- holding [v,ov] (eval i X.env)
      standAt pos
      holding [v,ov,iv] (setItem ov iv v)
      release [v,ov,iv] []):=by intro _; rfl):PG X (.Subscript o i pos) (jaW to ti t):=by
  intro pins s σ H v u Q I r h
  rw [ha]
  refine wpAny_bind (wpAny_holding (thn (ho pins s σ H _ I h) fun ov s1 hQQ=>?_))
  obtain ⟨x,H1,I1,r1,q1⟩:=hQQ
  refine wpAny_bind (wpAny_holding (thn (hi pins s1 σ H1 _ I1 q1) fun iv s2 hQQ=>?_))
  obtain ⟨y,H2,I2,r2,q2⟩:=hQQ
  refine wpAny_bind (wpAny_standAt (wpAny_bind (wpAny_holding (thn (hs pins s2 σ H2 x y v ov iv u _ I2 r1 r2 r q2) fun _ s3 hQQ=>?_))))
  obtain ⟨H3,I3,q3⟩:=hQQ
  exact wpAny_release ⟨σ,H3,I3,q3⟩
def jhh (te:TE) (g:TG):TS:=fun D σ H=>te σ H fun x H1=>g x σ H1 D.nx
theorem jfe {tg e:Expr} {te:TE} {g:TG} (he:PE X e te) (hg:PG X tg g) (hs:swapsWithSole [tg] e pos.line X.env=pure false:=by rfl) (hw:swappedStores [tg] e X.env=pure none:=by rfl)
    (h1:(assignEach [tg] X.env).map (·.2)=[assign tg X.env]:=by rfl):PS X (.Assign [tg] e pos) (jhh te g):=by
  intro pins s σ H D I h
  refine wpAny_Assign_stores (thn (he pins s σ H _ I h) fun v s1 hQQ=>?_) hs hw
  obtain ⟨x,H1,I1,r1,q1⟩:=hQQ
  rw [h1]
  exact thn (hg pins s1 σ H1 x v _ I1 r1 q1) fun _ s2 q=>q
theorem ps_set {i:Nat} {x:Str} {e:Expr} {te:TE} {pos':Pos} (hN:X.N.Nodup) (hi:X.N[i]? = some x) (hx:Loc X.env.scope x) (he:PE X e te) (hs:swapsWith e (some (.Name x pos')) pos.line X.env=pure false:=by rfl) (hf:X.fn x=true∨X.env.scope.names.lookup x=some .local:=by first | exact .inl rfl | exact .inr rfl | assumption) :
    PS X (.Assign [.Name x pos'] e pos) (jhh te (uN i)):=by
  intro pins s σ H D I h
  refine wpAny_Assign_Name (thn (he pins s σ H _ I h) fun v s1 hQQ=>?_) hs
  obtain ⟨y,H1,I1,r1,q1⟩:=hQQ
  exact Yz I1 hN hi hx r1 (fun s2 I2=>⟨_,H1,I2,q1⟩) hf
def tAug (i:Nat) (te:TE) (ti:TIp):TS:=fun D σ H=>∃ x,σ[i]? = some (some x)∧te σ H fun y H1=>ti x y H1 fun z H2=>D.nx (σ.set i (some z)) H2
theorem ps_aug {i:Nat} {x:Str} {e:Expr} {te:TE} {op:Operator} {ti:TIp} {pos':Pos} (hN:X.N.Nodup) (hi:X.N[i]? = some x) (hx:Loc X.env.scope x) (he:PE X e te) (ho:PIp X op ti) (hf:X.fn x=true∨X.env.scope.names.lookup x=some .local:=by first | exact .inl rfl | exact .inr rfl | assumption) :
    PS X (.AugAssign (.Name x pos') op e pos) (tAug i te ti):=by
  intro pins s σ H D I h
  obtain ⟨v,e1,h⟩:=h
  obtain ⟨m,hn,hl⟩:=I.loc
  have vis:Vis X.env.scope x:=by rcases hx with k | k; exact .inl k; exact .inr (.inl k)
  obtain ⟨u,r,l⟩:=hl i x v hi e1 vis
  refine wpAny_AugAssign_Name ?_
  have go:wpAny (model X.prog X.w) X.A (eval e X.env) (fun w s₂=>wpAny (model X.prog X.w) X.A (inplaceOp op u w) (fun r s₃=>wpAny (model X.prog X.w) X.A (storeName X.env x r) (fun _=>SP X pins D .next) X.xe s₃) X.xe s₂) X.xe s:=by
    refine thn (he pins s σ H _ I h) fun w s1 hQQ=>?_
    obtain ⟨y,H1,I1,r1,q1⟩:=hQQ
    refine thn (ho pins s1 σ H1 v y u w _ I1 r r1 q1) fun z s2 hQQ=>?_
    obtain ⟨zv,H2,I2,r2,q2⟩:=hQQ
    exact Yz I2 hN hi hx r2 (fun s3 I3=>⟨_,H2,I3,q2⟩) hf
  rcases l with ⟨hk,hm⟩ | ⟨hk,c,hc,hcell⟩
  · exact wpAny_loadName_local I.ok.kind hk hn hm go
  · rcases hk with hk | hk
    · exact wpAny_loadName_cell I.ok.kind hk hc hcell go
    · rcases hx with k | k
      · have:X.env.scope.names.lookup x=some .free:=hk
        rw [k] at this; cases this
      · have:X.env.scope.names.lookup x=some .free:=hk
        rw [k] at this; cases this
end

section
variable {X:Cx} {pos:Pos}
def tWhile (c:TT) (tb:TS):TS:=fun D σ H=>∃ W:Nat->St->Hp->Prop,(∃ m,W m σ H)∧∀ m σ H,W m σ H ->
  c σ H fun b H1=>if b=true then ∃ N:St->Hp->Prop,(∀ σ' H',N σ' H'->∃ m',m' < m∧W m' σ' H')∧tb { D with nx:=N,ct:=N,bk:=D.nx } σ H1 else D.nx σ H1
theorem jfb {c:Expr} {body:List Stmt} {tc:TT} {tb:TS} (hp:PassesOwn (model X.prog X.w) X.A X.env X.xe) (hc:PT X c tc) (hb:PSs X body tb):PS X (.While c body [] pos) (tWhile tc tb):=by
  intro pins s σ H D I h
  obtain ⟨W,⟨m0,w0⟩,turn⟩:=h
  refine wpAny_While (codeAny_whileLoop (fun n s'=>∃ σ' H',Inv X pins σ' H' s'∧W n σ' H') ?_ m0 ⟨σ,H,I,w0⟩)
  rintro n s1 ⟨σ1,H1,I1,w1⟩
  refine wpAny_passesOwn hp (thn (hc pins s1 σ1 H1 _ I1 (turn n σ1 H1 w1)) fun b s2 hQQ=>?_)
  obtain ⟨H2,I2,q2⟩:=hQQ
  cases b with
  | true =>
    obtain ⟨N,hN,q2⟩:=q2
    rw [if_pos rfl]
    refine wpAny_passesOwn hp (thn (hb pins s2 σ1 H2 _ I2 q2) fun f s3 q3=>?_)
    cases f with
    | next =>
      obtain ⟨σ3,H3,I3,n3⟩:=q3
      obtain ⟨m',hm,w3⟩:=hN σ3 H3 n3
      exact ⟨m',hm,σ3,H3,I3,w3⟩
    | cont =>
      obtain ⟨σ3,H3,I3,n3⟩:=q3
      obtain ⟨m',hm,w3⟩:=hN σ3 H3 n3
      exact ⟨m',hm,σ3,H3,I3,w3⟩
    | brk=>exact q3
    | ret v=>exact q3
  | false =>
    rw [if_neg Bool.false_ne_true]
    exact wpAny_execs_nil ⟨σ1,H2,I2,q2⟩
end

structure It where
  go:Nat->Hp->Prop
  yld:Nat->Hp->V->Hp->Prop
  stop:Nat->Hp->Prop
def uy (X:Cx) (pins:List (Addr × Obj)) (H:Hp) (b:Addr):Prop :=
  H b=none∧b≠X.env.locals∧b ∉ X.fs∧(b ∈ X.ex∨X.s₀.heap.objs.size<=b)∧(∀ x c,X.env.cells.lookup x=some c->c≠b)∧∀ p ∈ X.pn ++ pins,p.1≠b
theorem Inv.fpOk {X:Cx} {pins:List (Addr × Obj)} {σ:St} {H H':Hp} {s:Shared} {b:Addr} (I:Inv X pins σ H s) (hb:s.heap.objs.size<=b) (hn:H' b=none):uy X pins H' b:=by
  refine ⟨hn,Nat.ne_of_gt (Nat.lt_of_lt_of_le I.lt hb),I.nofs hb,.inr (Nat.le_trans I.sz hb),fun x c e z=>?_,fun p hp z=>?_⟩
  · obtain ⟨v,q⟩:=I.cell x c e
    exact absurd (Nat.lt_of_lt_of_le q.lt (by rw [z]; exact hb)) (Nat.lt_irrefl _)
  · exact absurd (Nat.lt_of_lt_of_le (Heap.lt_size (I.pin p hp).1) (by rw [z]; exact hb)) (Nat.lt_irrefl _)
structure Turn (P:Program) (w:World) (K:PySem.W.Frag) (tg:Expr) (J:It) (fp:List Addr) (it:Addr) (tn:Nat->Heap->Prop):Prop where
  mem:it ∈ fp
  obj:∀ i h,tn i h->∀ b ∈ fp,∃ o,h.get? b=some o∧∀ v,o.data≠.cell v
  keep:∀ i h h',tn i h->(∀ b ∈ fp,∀ o,h.get? b=some o->h'.get? b=some o)->tn i h'
  item:∀ (X:Cx),X.prog=P->X.w=w->X.K=K->X.calm=true->∀ (i:Nat) (pins:List (Addr × Obj)) (s:Shared) (σ:St) (H:Hp) (E:Value->Shared->Prop),Inv X pins σ H s->(∀ b ∈ fp,uy X pins H b)->tn i s.heap->J.go i H ->
    wpAny (model P w) X.A (pyNext (.ref it)) (fun r s1=>∃ u,r=some u ∧
      wpAny (model P w) X.A (letOwnedTupleGo tg (.ref it) u) (fun _ s2=>∃ x H',Inv X pins σ H' s2∧yl x u∧J.yld i H x H'∧tn (i + 1) s2.heap∧∀ b ∈ fp,H' b=none) E s1) E s
  done:∀ (X:Cx),X.prog=P->X.w=w->X.K=K->X.calm=true->∀ (i:Nat) (pins:List (Addr × Obj)) (s:Shared) (σ:St) (H:Hp) (E:Value->Shared->Prop),Inv X pins σ H s->(∀ b ∈ fp,uy X pins H b)->tn i s.heap->J.stop i H ->
    wpAny (model P w) X.A (pyNext (.ref it)) (fun r s1=>r=none∧Inv X pins σ H s1) E s
  self:∀ (A:Around) (i:Nat) (s:Shared) (Q:Value->Shared->Prop) (E:Value->Shared->Prop),tn i s.heap->Q (.ref it) s->wpAny (model P w) A (pyIter (.ref it)) Q E s
abbrev TI:=St->Hp->(It->Hp->Prop)->Prop
def PIE (X:Cx) (pins:List (Addr × Obj)) (σ:St) (tg:Expr) (R:It->Hp->Prop) (itv:Value) (s2:Shared):Prop :=
  ∃ (it:Addr) (fp:List Addr) (tn:Nat->Heap->Prop) (J:It) (H':Hp),itv = .ref it∧Inv X pins σ H' s2∧Turn X.prog X.w X.K tg J fp it tn∧tn 0 s2.heap∧(∀ b ∈ fp,uy X pins H' b)∧R J H'
def PI (X:Cx) (tg iter:Expr) (wi:TI):Prop :=
  ∀ (pins:List (Addr × Obj)) (s:Shared) (σ:St) (H:Hp) (R:It->Hp->Prop),Inv X pins σ H s->wi σ H R ->
    wpAny (model X.prog X.w) X.A (eval iter X.env) (fun v s1=>wpAny (model X.prog X.w) X.A (pyIter v) (PIE X pins σ tg R) X.xe s1) X.xe s

theorem jga {M:Model} {A:Around} {E:Value->Shared->Prop} {s:Shared} {tg:Expr} {it:Addr} {u:Value} {o:Obj} {n:String} {vs:Array Value} {Q:Unit->Shared->Prop} (ho:s.heap.get? it=some o) (hc:o.cls = .type n) (hd:o.data = .fields vs)
    (hn:["enumerate","zip","dict_itemiterator","dict_reverseitemiterator","odict_iterator","itertools.zip_longest","itertools.pairwise"].contains n=false) (hQ:Q () s):wpAny M A (letOwnedTupleGo tg (.ref it) u) Q E s:=by
  unfold letOwnedTupleGo
  cases tg <;> first
    | exact wpAny_pure hQ
    | (cases u <;> first
        | exact wpAny_pure hQ
        | (refine wpAny_bind (wpAny_load ho ?_)
           rw [hc,hd]
           show wpAny M A (if (["enumerate","zip","dict_itemiterator","dict_reverseitemiterator","odict_iterator","itertools.zip_longest","itertools.pairwise"].contains n && vs[0]? == some (rawInt _))=true then _ else _) Q E s
           rw [if_neg (by intro h; rw [hn,Bool.false_and] at h; cases h)]
           exact wpAny_pure hQ))

def Itl (K:PySem.W.Frag) (a:Addr):It :=
  ⟨fun i H=>∃ xs x,SqL K H a xs∧xs[i]? = some x,fun i H x H'=>H'=H∧∀ xs,SqL K H a xs->xs[i]? = some x,fun i H=>∃ xs,SqL K H a xs∧xs.length<=i⟩
def Itt (K:PySem.W.Frag) (a:Addr):It :=
  ⟨fun i H=>∃ xs x,SqT K H a xs∧xs[i]? = some x,fun i H x H'=>H'=H∧∀ xs,SqT K H a xs->xs[i]? = some x,fun i H=>∃ xs,SqT K H a xs∧xs.length<=i⟩
def Itr (lo:Int) (n:Nat):It:=⟨fun i _=>i < n,fun i H x H'=>H'=H∧x = .int (lo + i),fun i _=>n<=i⟩
theorem XS {P:Program} {w:World} {K:PySem.W.Frag} {tg:Expr} (a it:Addr):Turn P w K tg (Itl K a) [it] it (fun i h=>h.IsListIter it a i) where
  mem:=by simp
  obj:=fun i h st b hb=>by
    have e:b=it:=by simpa using hb
    subst e
    obtain ⟨o,e,c,d⟩:=st
    exact ⟨o,e,fun v z=>by rw [d] at z; cases z⟩
  keep:=fun i h h' st k=>st.at fun o e=>k it (by simp) o e
  item:=by
    intro X hP hw hK hc i pins s σ H E I hf st hg
    subst hP hw hK
    obtain ⟨xs,x,hq,hx⟩:=hg
    obtain ⟨its,rv,p,hz⟩:=I.list hq
    obtain ⟨u,hu,ru⟩:=rv.get hx
    obtain ⟨f0,f1,f2,f3,f4,f5⟩:=hf it (by simp)
    refine wpAny_pyNext_list_item st p.isList (x:=u) (by simpa using hu) fun h' st' sb=>?_
    have I1:Inv X pins σ H { s with heap:=h' }:=I.turned (t':=s.toks) (fun b o hb e=>(sb.2 b hb).trans e) f0 f1 f3 f4 f5
    obtain ⟨o,e,c,d⟩:=id st'
    exact ⟨u,rfl,jga (s:={ s with heap:=h' }) e c d (by decide) ⟨x,H,I1,ru,⟨rfl,fun ys hy=>by rw [I.list_inj hy hq]; exact hx⟩,st',fun b hb=>(hf b hb).1⟩⟩
  done:=by
    intro X hP hw hK hc i pins s σ H E I hf st hg
    subst hP hw hK
    obtain ⟨xs,hq,hx⟩:=hg
    obtain ⟨its,rv,p,hz⟩:=I.list hq
    obtain ⟨f0,f1,f2,f3,f4,f5⟩:=hf it (by simp)
    have hl:=rv.length
    exact wpAny_pyNext_list_end (I.ok.hd hc) st p.isList (by simp; omega) fun h' eb=>⟨rfl,I.turned (t':=s.toks) (fun b o hb e=>eb b o hb e) f0 f1 f3 f4 f5⟩
  self:=fun _ _ _ _ _ st h=>wpAny_pyIter_listiter st h
theorem jbD {P:Program} {w:World} {K:PySem.W.Frag} {tg:Expr} (a it:Addr):Turn P w K tg (Itt K a) [it] it (fun i h=>h.IsTupleIter it a i) where
  mem:=by simp
  obj:=fun i h st b hb=>by
    have e:b=it:=by simpa using hb
    subst e
    obtain ⟨o,e,c,d⟩:=st
    exact ⟨o,e,fun v z=>by rw [d] at z; cases z⟩
  keep:=fun i h h' st k=>st.at fun o e=>k it (by simp) o e
  item:=by
    intro X hP hw hK hc i pins s σ H E I hf st hg
    subst hP hw hK
    obtain ⟨xs,x,hq,hx⟩:=hg
    obtain ⟨its,rv,p,hz⟩:=I.tuple hq
    obtain ⟨u,hu,ru⟩:=rv.get hx
    obtain ⟨f0,f1,f2,f3,f4,f5⟩:=hf it (by simp)
    refine wpAny_pyNext_tuple_item st (show s.heap.IsTuple a its.toArray from p) (x:=u) (by simpa using hu) fun h' st' sb=>?_
    have I1:Inv X pins σ H { s with heap:=h' }:=I.turned (t':=s.toks) (fun b o hb e=>(sb.2 b hb).trans e) f0 f1 f3 f4 f5
    obtain ⟨o,e,c,d⟩:=id st'
    exact ⟨u,rfl,jga (s:={ s with heap:=h' }) e c d (by decide) ⟨x,H,I1,ru,⟨rfl,fun ys hy=>by rw [I.tuple_inj hy hq]; exact hx⟩,st',fun b hb=>(hf b hb).1⟩⟩
  done:=by
    intro X hP hw hK hc i pins s σ H E I hf st hg
    subst hP hw hK
    obtain ⟨xs,hq,hx⟩:=hg
    obtain ⟨its,rv,p,hz⟩:=I.tuple hq
    obtain ⟨f0,f1,f2,f3,f4,f5⟩:=hf it (by simp)
    have hl:=rv.length
    exact wpAny_pyNext_tuple_end (I.ok.hd hc) st (show s.heap.IsTuple a its.toArray from p) (by simp; omega) fun h' eb=>⟨rfl,I.turned (t':=s.toks) (fun b o hb e=>eb b o hb e) f0 f1 f3 f4 f5⟩
  self:=fun _ _ _ _ _ st h=>wpAny_pyIter_tupleiter st h
theorem jbE {P:Program} {w:World} {K:PySem.W.Frag} {tg:Expr} (it:Addr) (lo:Int) (n:Nat):Turn P w K tg (Itr lo n) [it] it (fun i h=>IsRangeIter h it (lo + (i:Nat) * 1) ((n:Int) - (i:Nat)) 1) where
  mem:=by simp
  obj:=fun i h st b hb=>by
    have e:b=it:=by simpa using hb
    subst e
    exact ⟨_,st,fun v z=>by
      have z':Data.fields _=Data.cell v:=z
      cases z'⟩
  keep:=fun i h h' st k=>k it (by simp) _ st
  item:=by
    intro X hP hw hK hc i pins s σ H E I hf st hg
    subst hP hw hK
    obtain ⟨f0,f1,f2,f3,f4,f5⟩:=hf it (by simp)
    have W:=Walks.range (prog:=X.prog) (w:=X.w) (I.ok.hd hc) it lo 1 n
    refine W.item i s _ _ hg st fun v h' tk hv st' kk=>?_
    obtain ⟨t,rfl⟩:=hv
    have I1:Inv X pins σ H { s with heap:=h',toks:=tk }:=I.turned (fun b o hb e=>kk b o (by simpa using hb) e) f0 f1 f3 f4 f5
    refine ⟨_,rfl,jga (s:={ s with heap:=h',toks:=tk }) (n:="range_iterator") st' rfl rfl (by decide) ⟨.int (lo + i),H,I1,⟨t,?_⟩,⟨rfl,rfl⟩,st',fun b hb=>(hf b hb).1⟩⟩
    rw [Int.mul_one]
  done:=by
    intro X hP hw hK hc i pins s σ H E I hf st hg
    subst hP hw hK
    obtain ⟨f0,f1,f2,f3,f4,f5⟩:=hf it (by simp)
    exact wpAny_pyNext_range_end (I.ok.hd hc) st (by have:n<=i:=hg; omega) fun h' eb=>⟨rfl,I.turned (t':=s.toks) (fun b o hb e=>eb b o hb e) f0 f1 f3 f4 f5⟩
  self:=fun _ _ _ _ _ st h=>wpAny_pyIter_rangeiter st h
end L2

namespace L2
open PySem PySem.Spec PyProof.Rows
section
variable {X:Cx} {tg:Expr}
def iList (K:PySem.W.Frag) (tl:TE):TI:=fun σ H R=>tl σ H fun x H1=>∃ a,x = .ref a∧(∃ xs,SqL K H1 a xs)∧R (Itl K a) H1
theorem jhM {l:Expr} {tl:TE} (hl:PE X l tl):PI X tg l (iList X.K tl):=by
  intro pins s σ H R I h
  refine thn (hl pins s σ H _ I h) fun v s1 hQQ=>?_
  obtain ⟨x,H1,I1,r1,q1⟩:=hQQ
  obtain ⟨a,e,⟨xs,hq⟩,q⟩:=q1
  subst e
  cases r1
  obtain ⟨its,rv,p,hz⟩:=I1.list hq
  refine wpAny_pyIter_list p.isList ?_
  refine ⟨s1.heap.objs.size,[s1.heap.objs.size],_,_,H1,rfl,I1.kept (t':=s1.toks) fun b o e=>Heap.get?_push_of_some _ e,XS a _,⟨_,Heap.get?_push_size _ rfl,rfl,rfl⟩,fun b hb=>?_,q⟩
  have e:b=s1.heap.objs.size:=by simpa using hb
  subst e
  exact I1.fpOk (Nat.le_refl _) (I1.hok.fresh (Nat.le_refl _))
theorem jaH {pins:List (Addr × Obj)} {σ:St} {H:Hp} {s:Shared} {R:It->Hp->Prop} {E:Value->Shared->Prop} {lo hi:Int} {t u v:Tok} {tk:Nat} (I:Inv X pins σ H s) (h1:-(2 ^ 62)<=lo) (h2:lo < 2 ^ 62) (h3:-(2 ^ 62)<=hi) (h4:hi < 2 ^ 62)
    (q:R (Itr lo (hi - lo).toNat) H):wpAny (model X.prog X.w) X.A (pyIter (.ref s.heap.objs.size)) (PIE X pins σ tg R) E { s with heap:=s.heap.push { cls:=.type "range",data:=.fields #[.int lo t,.int hi u,.int 1 v] },toks:=tk }:=by
  refine wpAny_pyIter_range (IsRange.new ..) (small_one h1 h2 h3 h4) ?_
  have I1:Inv X pins σ H { s with heap:=s.heap.push { cls:=.type "range",data:=.fields #[.int lo t,.int hi u,.int 1 v] },toks:=tk }:=I.kept fun b o e=>Heap.get?_push_of_some _ e
  refine ⟨(s.heap.push { cls:=.type "range",data:=.fields #[.int lo t,.int hi u,.int 1 v] }).objs.size,[(s.heap.push { cls:=.type "range",data:=.fields #[.int lo t,.int hi u,.int 1 v] }).objs.size],_,_,H,rfl,
    I1.kept (t':=tk) fun b o e=>Heap.get?_push_of_some _ e,jbE _ lo (hi - lo).toNat,?_,fun b hb=>?_,q⟩
  · have e1:lo + ((0:Nat):Int) * 1=lo:=by simp
    have e2:(((hi - lo).toNat:Nat):Int) - ((0:Nat):Int)=Builtin.Range.rangeSize lo hi 1:=by rw [rangeSize_one]; split <;> omega
    show IsRangeIter _ _ (lo + ((0:Nat):Int) * 1) ((((hi - lo).toNat:Nat):Int) - ((0:Nat):Int)) 1
    rw [e1,e2]
    exact Heap.get?_push_size _ rfl
  · have e:b=(s.heap.push { cls:=.type "range",data:=.fields #[.int lo t,.int hi u,.int 1 v] }).objs.size:=by simpa using hb
    subst e
    exact I1.fpOk (Nat.le_refl _) (I1.hok.fresh (Nat.le_refl _))
def iRng1 (ta:TA):TI:=fun σ H R=>ta σ H fun vs H1=>∃ j:Int,vs=[.int j]∧-(2 ^ 62)<=j∧j < 2 ^ 62∧R (Itr 0 j.toNat) H1
def iRng2 (ta:TA):TI:=fun σ H R=>ta σ H fun vs H1=>∃ i j:Int,vs=[.int i,.int j]∧(-(2 ^ 62)<=i∧i < 2 ^ 62∧-(2 ^ 62)<=j∧j < 2 ^ 62)∧R (Itr i (j - i).toNat) H1
theorem jdG {a:Expr} {ta:TA} {p pos:Pos} (hg:Gl X "range") (hm:X.mg "range" = none) (ha:PA X [a] ta) (hs:starEach [a] X.env=[(false,eval a X.env)]:=by rfl):PI X tg (.Call (.Name "range" p) [a] [] pos) (iRng1 ta):=by
  intro pins s σ H R I h
  refine Call_ (JR I hg hm boot_range (PyProof.Rows.callWith_type1 (thn (ha pos pins s σ H _ I h) fun us s1 hQQ=>?_) hs rfl))
  obtain ⟨vs,H1,I1,r1,q1⟩:=hQQ
  obtain ⟨j,e,q1,q2,q⟩:=q1
  subst e
  cases r1 with
  | cons r rr =>
    cases rr
    obtain ⟨t,rfl⟩:=r
    exact call_range_1 (jaH I1 (by omega) (by omega) q1 q2 (by simpa using q))
theorem jdF {a b:Expr} {ta:TA} {p pos:Pos} (hg:Gl X "range") (hm:X.mg "range" = none) (ha:PA X [a,b] ta) (hs:starEach [a,b] X.env=[(false,eval a X.env),(false,eval b X.env)]:=by rfl) (hs2:starEach [b] X.env=[(false,eval b X.env)]:=by rfl) :
    PI X tg (.Call (.Name "range" p) [a,b] [] pos) (iRng2 ta):=by
  intro pins s σ H R I h
  refine Call_ (JR I hg hm boot_range (PyProof.Rows.callWith_type1 (thn (ha pos pins s σ H _ I h) fun us s1 hQQ=>?_) (by rw [hs,hs2]) (by rw [hs2]; rfl)))
  obtain ⟨vs,H1,I1,r1,q1⟩:=hQQ
  obtain ⟨i,j,e,⟨q1,q2,q3,q4⟩,q⟩:=q1
  subst e
  cases r1 with
  | cons r rr =>
    cases rr with
    | cons r' rr =>
      cases rr
      obtain ⟨t,rfl⟩:=r
      obtain ⟨t',rfl⟩:=r'
      exact call_range_2 (jaH I1 q1 q2 q3 q4 q)

def tFor (wi:TI) (g:TG) (tb:TS):TS:=fun D σ H=>wi σ H fun J H1=>∃ W:Nat->Nat->St->Hp->Prop,(∃ m,W 0 m σ H1)∧∀ i m σ H,W i m σ H ->
  (J.stop i H∧D.nx σ H)∨(J.go i H∧∃ N:St->Hp->Prop,(∀ σ' H',N σ' H'->∃ m',m' < m∧W (i + 1) m' σ' H')∧∀ x H',J.yld i H x H'->g x σ H' fun σ2 H2=>tb { D with nx:=N,ct:=N,bk:=D.nx } σ2 H2)
def YS (fp:List Addr) (h:Heap):List (Addr × Obj):=fp.filterMap fun b=>(h.get? b).map fun o=>(b,o)
theorem vS {fp:List Addr} {h:Heap} {b:Addr} {o:Obj} (hb:b ∈ fp) (e:h.get? b=some o):(b,o) ∈ YS fp h:=List.mem_filterMap.mpr ⟨b,hb,by rw [e]; rfl⟩
theorem jdJ {fp:List Addr} {h:Heap} {p:Addr × Obj} (hp:p ∈ YS fp h):p.1 ∈ fp∧h.get? p.1=some p.2:=by
  obtain ⟨b,hb,e⟩:=List.mem_filterMap.mp hp
  cases q:h.get? b with
  | none=>rw [q] at e; cases e
  | some o =>
    rw [q] at e
    have e':(b,o)=p:=Option.some.inj e
    subst e'
    exact ⟨hb,q⟩
theorem Inv.pinned {pins:List (Addr × Obj)} {σ:St} {H:Hp} {s:Shared} {fp:List Addr} (I:Inv X pins σ H s) (hf:∀ b ∈ fp,uy X pins H b) (ho:∀ b ∈ fp,∃ o,s.heap.get? b=some o∧∀ v,o.data≠.cell v):Inv X (pins ++ YS fp s.heap) σ H s :=
  I.pins_of fun p hp=>(List.mem_append.mp hp).elim (fun z=>I.pin p (List.mem_append_right _ z)) fun z=>by
    obtain ⟨hb,e⟩:=jdJ z
    obtain ⟨f0,f1,f2,_⟩:=hf p.1 hb
    obtain ⟨o,e',d⟩:=ho p.1 hb
    rw [e] at e'; cases e'
    exact ⟨e,f0,f1,f2,d⟩
theorem Inv.unpinned {pins pl:List (Addr × Obj)} {σ:St} {H:Hp} {s:Shared} (I:Inv X (pins ++ pl) σ H s):Inv X pins σ H s:=I.pins_of fun p hp=>I.pin p (List.mem_append_right _ (List.mem_append_left _ hp))
theorem ps_for {iter:Expr} {body:List Stmt} {wi:TI} {g:TG} {tb:TS} {pos:Pos} (hp:PassesOwn (model X.prog X.w) X.A X.env X.xe) (hc:X.calm=true) (hi:PI X tg iter wi) (hg:PG X tg g) (hb:PSs X body tb)
    (hs:∀ x,foldedSetIterable iter X.env x=pure x:=by intro _; rfl):PS X (.For tg iter body [] pos) (tFor wi g tb):=by
  intro pins s σ H D I h
  refine wpAny_For (thn (hi pins s σ H _ I h) fun v s1 h1=>thn h1 fun itv s2 h2=>?_) hs
  obtain ⟨it,fp,tn,J,H2,e,I2,T,st2,f2,W,⟨m0,w0⟩,turn⟩:=h2
  subst e
  -- what stays true of the iterator's objects through the loop
  have stat:∀ {H':Hp},(∀ b ∈ fp,H' b=none)->∀ b ∈ fp,uy X pins H' b:=fun hn b hb=>⟨hn b hb,(f2 b hb).2⟩
  refine codeAny_forLoop_any (fun n s'=>∃ i σ' H',Inv X pins σ' H' s'∧tn i s'.heap∧(∀ b ∈ fp,H' b=none)∧W i n σ' H') ?_ m0 ⟨0,σ,H2,I2,st2,fun b hb=>(f2 b hb).1,w0⟩
  rintro n s3 ⟨i,σ3,H3,I3,st3,fr3,w3⟩
  rcases turn i n σ3 H3 w3 with ⟨stop,qn⟩ | ⟨go,N,hN,step⟩
  · refine wpAny_passesOwn hp (thn (T.done X rfl rfl rfl hc i pins s3 σ3 H3 X.xe I3 (stat fr3) st3 stop) fun r s4 hQQ=>?_)
    obtain ⟨hr,I4⟩:=hQQ
    subst hr
    exact wpAny_execs_nil ⟨σ3,H3,I4,qn⟩
  · refine wpAny_passesOwn hp (thn (T.item X rfl rfl rfl hc i pins s3 σ3 H3 X.xe I3 (stat fr3) st3 go) fun r s4 hQQ=>?_)
    obtain ⟨u,hr,h4⟩:=hQQ
    subst hr
    refine wpAny_passesOwn hp (thn h4 fun _ s5 hQQ=>?_)
    obtain ⟨x,H5,I5,r5,y5,st5,fr5⟩:=hQQ
    have I5':=I5.pinned (stat fr5) (T.obj _ _ st5)
    refine wpAny_passesOwn hp (thn (hg _ s5 σ3 H5 x u _ I5' r5 (step x H5 y5)) fun _ s6 hQQ=>?_)
    obtain ⟨σ6,H6,I6,q6⟩:=hQQ
    refine wpAny_passesOwn hp (thn (hb _ s6 σ6 H6 _ I6 q6) fun f s7 q7=>?_)
    have again:∀ {σ7:St} {H7:Hp},Inv X (pins ++ YS fp s5.heap) σ7 H7 s7->N σ7 H7->∃ m,m < n∧∃ i σ' H',Inv X pins σ' H' s7∧tn i s7.heap∧(∀ b ∈ fp,H' b=none)∧W i m σ' H':=fun {σ7 H7} I7 n7=>by
      obtain ⟨m',hm,w7⟩:=hN σ7 H7 n7
      refine ⟨m',hm,i + 1,σ7,H7,I7.unpinned,T.keep _ _ _ st5 fun b hb o e=>(I7.pin (b,o) (List.mem_append_right _ (List.mem_append_right _ (vS hb e)))).1,fun b hb=>?_,w7⟩
      obtain ⟨o,e,d⟩:=T.obj _ _ st5 b hb
      exact (I7.pin (b,o) (List.mem_append_right _ (List.mem_append_right _ (vS hb e)))).2.1
    cases f with
    | next=>obtain ⟨σ7,H7,I7,n7⟩:=q7; exact again I7 n7
    | cont=>obtain ⟨σ7,H7,I7,n7⟩:=q7; exact again I7 n7
    | brk=>obtain ⟨σ7,H7,I7,q7⟩:=q7; exact ⟨σ7,H7,I7.unpinned,q7⟩
    | ret v=>obtain ⟨x7,σ7,H7,I7,r7,q7⟩:=q7; exact ⟨x7,σ7,H7,I7.unpinned,r7,q7⟩
end

end L2

namespace L2
open PySem PySem.Spec PyProof.Rows

abbrev R2:=V->V->Hp->VK->Prop
def OpR (X:Cx) (f:Value->Value->Sem Value) (r:R2):Prop :=
  ∀ (pins:List (Addr × Obj)) (s:Shared) (σ:St) (H:Hp) (x y:V) (v u:Value) (Q:VK),Inv X pins σ H s->yl x v->yl y u->r x y H Q ->
    wpAny (model X.prog X.w) X.A (f v u) (EP X pins σ Q) X.xe s
def yx (X:Cx) (f:Value) (r:List V->Hp->VK->Prop):Prop :=
  ∀ (pins:List (Addr × Obj)) (s:Shared) (σ:St) (H:Hp) (xs:List V) (us:List Value) (Q:VK),Inv X pins σ H s->yj xs us->r xs H Q ->
    wpAny (model X.prog X.w) X.A (call f us) (EP X pins σ Q) X.xe s
def TruR (X:Cx) (r:V->Hp->(Bool->Hp->Prop)->Prop):Prop :=
  ∀ (pins:List (Addr × Obj)) (s:Shared) (σ:St) (H:Hp) (x:V) (v:Value) (Q:Bool->Hp->Prop),Inv X pins σ H s->yl x v->r x H Q ->
    wpAny (model X.prog X.w) X.A (truthy v) (TP X pins σ Q) X.xe s

def tOp (r:R2) (ta tb:TE):TE:=fun σ H Q=>ta σ H fun x H1=>tb σ H1 fun y H2=>r x y H2 Q
def rI (C:Int->Int->Prop) (g:Int->Int->V):R2:=fun x y H Q=>∃ i j,x = .int i∧y = .int j∧C i j∧Q (g i j) H
def rI0 (g:Int->Int->V):R2:=fun x y H Q=>∃ i j,x = .int i∧y = .int j∧Q (g i j) H
section
variable {X:Cx} {a b c:Expr} {ta tb tc:TE} {pos:Pos}

theorem binT (ha:PE X a ta) (hb:PE X b tb) {pins:List (Addr × Obj)} {s:Shared} {σ:St} {H:Hp} {R:V->V->Hp->Prop} (I:Inv X pins σ H s)
    (h:ta σ H fun x H1=>tb σ H1 fun y H2=>R x y H2) {Q:Value->Shared->Prop} {f:Value->Value->Sem Value}
    (hf:∀ v u s2 x y H2,Inv X pins σ H2 s2->yl x v->yl y u->R x y H2->wpAny (model X.prog X.w) X.A (f v u) Q X.xe s2) :
    wpAny (model X.prog X.w) X.A (eval a X.env) (fun v s₁=>wpAny (model X.prog X.w) X.A (eval b X.env) (fun u s₂=>wpAny (model X.prog X.w) X.A (f v u) Q X.xe s₂) X.xe s₁) X.xe s:=by
  refine thn (ha pins s σ H _ I h) fun v s1 hQQ=>?_
  obtain ⟨x,H1,I1,r1,q1⟩:=hQQ
  refine thn (hb pins s1 σ H1 _ I1 q1) fun u s2 hQQ=>?_
  obtain ⟨y,H2,I2,r2,q2⟩:=hQQ
  exact hf v u s2 x y H2 I2 r1 r2 q2

theorem pe_op {op:Operator} {r:R2} (ho:OpR X (binaryOp op) r) (ha:PE X a ta) (hb:PE X b tb):PE X (.BinOp a op b pos) (tOp r ta tb):=by
  intro pins s σ H Q I h
  exact wpAny_BinOp (binT ha hb I h fun v u s2 x y H2 I2 rx ry q=>ho pins s2 σ H2 x y v u Q I2 rx ry q)
theorem opI {f:Value->Value->Sem Value} {C:Int->Int->Prop} {g:Int->Int->Int}
    (rule:∀ (i j:Int) (t u:Tok) (s:Shared) (Q:Value->Shared->Prop) (E:Value->Shared->Prop),C i j->Q (.int (g i j) s.toks) { s with toks:=s.toks + 1 }->wpAny (model X.prog X.w) X.A (f (.int i t) (.int j u)) Q E s) :
    OpR X f (rI C fun i j=>.int (g i j)):=by
  intro pins s σ H x y v u Q I rx ry h
  obtain ⟨i,j,rfl,rfl,hc,q⟩:=h
  obtain ⟨t,rfl⟩:=rx
  obtain ⟨t',rfl⟩:=ry
  exact rule i j t t' s _ _ hc ⟨.int (g i j),H,I.tok _,⟨_,rfl⟩,q⟩
theorem opI0 {f:Value->Value->Sem Value} {g:Int->Int->Int}
    (rule:∀ (i j:Int) (t u:Tok) (s:Shared) (Q:Value->Shared->Prop) (E:Value->Shared->Prop),Q (.int (g i j) s.toks) { s with toks:=s.toks + 1 }->wpAny (model X.prog X.w) X.A (f (.int i t) (.int j u)) Q E s) :
    OpR X f (rI0 fun i j=>.int (g i j)):=by
  intro pins s σ H x y v u Q I rx ry h
  obtain ⟨i,j,rfl,rfl,q⟩:=h
  obtain ⟨t,rfl⟩:=rx
  obtain ⟨t',rfl⟩:=ry
  exact rule i j t t' s _ _ ⟨.int (g i j),H,I.tok _,⟨_,rfl⟩,q⟩
theorem jhW {f:Value->Value->Sem Value} {g:Int->Int->Bool}
    (rule:∀ (i j:Int) (t u:Tok) (s:Shared) (Q:Value->Shared->Prop) (E:Value->Shared->Prop),Q (.bool (g i j)) s->wpAny (model X.prog X.w) X.A (f (.int i t) (.int j u)) Q E s) :
    OpR X f (rI0 fun i j=>.bl (g i j)):=by
  intro pins s σ H x y v u Q I rx ry h
  obtain ⟨i,j,rfl,rfl,q⟩:=h
  obtain ⟨t,rfl⟩:=rx
  obtain ⟨t',rfl⟩:=ry
  exact rule i j t t' s _ _ ⟨.bl (g i j),H,I,rfl,q⟩

def CDiv (i j:Int):Prop:=0 < j∧j < 1073741824
def CPow (i j:Int):Prop:=0<=j∧j<=1000000∧i.natAbs < 2 ^ 64
def CMul (i j:Int):Prop:=(-(2 ^ 64) < i∧i < 2 ^ 64)∨(-(2 ^ 64) < j∧j < 2 ^ 64)
theorem CMul.ok {i j:Int} (h:CMul i j):IntMulOk i j:=by
  rcases h with ⟨h1,h2⟩ | ⟨h1,h2⟩
  · exact .of_left (intBits_le_64 h1 h2)
  · exact .of_right (intBits_le_64 h1 h2)
theorem op_add:OpR X (binaryOp .Add) (rI0 fun i j=>.int (i + j)):=opI0 fun _ _ _ _ _ _ _ q=>add_int q
theorem op_sub:OpR X (binaryOp .Sub) (rI0 fun i j=>.int (i - j)):=opI0 fun _ _ _ _ _ _ _ q=>sub_int q
theorem op_mul:OpR X (binaryOp .Mult) (rI CMul fun i j=>.int (i * j)):=opI fun _ _ _ _ _ _ _ hc q=>mul_int q hc.ok
theorem jhU:OpR X (binaryOp .FloorDiv) (rI CDiv fun i j=>.int (i / j)):=opI fun i j _ _ _ _ _ hc q=>by
  have h1:(0:Int) < j:=hc.1
  have h2:j < 1073741824:=hc.2
  exact floordiv_int (by omega) (by rw [Int.fdiv_eq_ediv_of_nonneg i (by omega)]; exact q) (.inl (PyProof.noPylong_small (by omega)))
theorem op_mod:OpR X (binaryOp .Mod) (rI (fun _ j=>0 < j) fun i j=>.int (i % j)):=opI fun i j _ _ _ _ _ hc q=>by
  have h1:(0:Int) < j:=hc
  exact mod_int' (by omega) (by rw [Int.fmod_eq_emod_of_nonneg i (by omega)]; exact q)
theorem op_pow:OpR X (binaryOp .Pow) (rI CPow fun i j=>.int (i ^ j.toNat)):=opI fun _ _ _ _ _ _ _ hc q=>pow_int_small hc.1 hc.2.1 hc.2.2 q
theorem jim:OpR X (inplaceOp .Add) (rI0 fun i j=>.int (i + j)):=opI0 fun _ _ _ _ _ _ _ q=>iadd_int q
end

section
variable {X:Cx} {a b c:Expr} {ta tb tc:TE} {pos:Pos}
theorem jgk {pins:List (Addr × Obj)} {σ:St} {H:Hp} {s:Shared} {Q:VK} {k k':Bool} (I:Inv X pins σ H s) (q:Q (.bl k) H) (e:k=k'):EP X pins σ Q (.bool k') s:=by
  subst e
  exact ⟨.bl k,H,I,rfl,q⟩
theorem op_lt:OpR X (compareOp .Lt) (rI0 fun i j=>.bl (decide (i < j))):=jhW fun _ _ _ _ _ _ _ q=>lt_int q
theorem op_le:OpR X (compareOp .LtE) (rI0 fun i j=>.bl (decide (i<=j))):=jhW fun _ _ _ _ _ _ _ q=>le_int q
theorem op_gt:OpR X (compareOp .Gt) (rI0 fun i j=>.bl (decide (j < i))):=jhW fun _ _ _ _ _ _ _ q=>gt_int q
theorem op_ge:OpR X (compareOp .GtE) (rI0 fun i j=>.bl (decide (j<=i))):=jhW fun _ _ _ _ _ _ _ q=>ge_int q
theorem op_isN:OpR X (compareOp .Is) (fun x y H Q=>y = .non∧Q (.bl (decide (x = .non))) H):=by
  intro pins s σ H x y v u Q I rx ry h
  obtain ⟨rfl,q⟩:=h
  cases ry
  refine is_none_gen (jgk I q ?_)
  cases x <;> first
    | (cases rx; rfl)
    | (obtain ⟨t,rfl⟩:=rx; rfl)
theorem jhT:OpR X (compareOp .IsNot) (fun x y H Q=>y = .non∧Q (.bl (!decide (x = .non))) H):=by
  intro pins s σ H x y v u Q I rx ry h
  obtain ⟨rfl,q⟩:=h
  cases ry
  refine isnot_none_gen (jgk I q ?_)
  cases x <;> first
    | (cases rx; rfl)
    | (obtain ⟨t,rfl⟩:=rx; rfl)

theorem OpR.or {f:Value->Value->Sem Value} {r r':R2} (h:OpR X f r) (h':OpR X f r'):OpR X f (fun x y H Q=>r x y H Q∨r' x y H Q):=by
  intro pins s σ H x y v u Q I rx ry q
  rcases q with q | q
  · exact h pins s σ H x y v u Q I rx ry q
  · exact h' pins s σ H x y v u Q I rx ry q

theorem jV (b:Expr) {op:CmpOp} (h:op≠.In:=by decide) (h2:op≠.NotIn:=by decide):behindInMarks op b=false:=by
  have e1:(op == CmpOp.In)=false:=by cases op <;> first | rfl | exact absurd rfl h
  have e2:(op == CmpOp.NotIn)=false:=by cases op <;> first | rfl | exact absurd rfl h2
  cases b <;> simp [behindInMarks,e1,e2]
theorem jhQ {op:CmpOp} {r:R2} (ho:OpR X (compareOp op) r) (ha:PE X a ta) (hb:PE X b tb) (hm:behindInMarks op b=false):PE X (.Compare a [op] [b] pos) (tOp r ta tb):=by
  intro pins s σ H Q I h
  exact wpAny_Compare1 (binT ha hb I h fun v u s2 x y H2 I2 rx ry q=>ho pins s2 σ H2 x y v u Q I2 rx ry q) hm
def tTest (t:TE):TT:=fun σ H Q=>t σ H fun x H'=>∃ k,x = .bl k∧Q k H'
theorem jhD {op:CmpOp} {r:R2} (ho:OpR X (compareOp op) r) (ha:PE X a ta) (hb:PE X b tb) (hm:behindInMarks op b=false):PT X (.Compare a [op] [b] pos) (tTest (tOp r ta tb)):=by
  intro pins s σ H Q I h
  refine wpAny_isTrue_Compare1 (thn (ha pins s σ H _ I h) fun v s1 ⟨x,H1,I1,r1,q1⟩=>thn (hb pins s1 σ H1 _ I1 q1) fun u s2 ⟨y,H2,I2,r2,q2⟩ =>
    thn (ho pins s2 σ H2 x y v u _ I2 r1 r2 q2) fun c s3 ⟨z,H3,I3,r3,k,e,q3⟩=>?_) hm
  subst e
  cases r3
  exact wpAny_truthy_bool ⟨H3,I3,q3⟩
def jez (r r':R2) (ta tb tc:TE):TE:=fun σ H Q=>ta σ H fun x H1=>tb σ H1 fun y H2=>r x y H2 fun z H3=>∃ k,z = .bl k ∧
  (if k=true then tc σ H3 fun w' H4=>r' y w' H4 Q else Q (.bl false) H3)
theorem jfu {op op':CmpOp} {r r':R2} (ho:OpR X (compareOp op) r) (ho':OpR X (compareOp op') r') (ha:PE X a ta) (hb:PE X b tb) (hc:PE X c tc)
    (hm:lastMarks [op,op'] [b,c]=false:=by with_unfolding_all rfl):PE X (.Compare a [op,op'] [b,c] pos) (jez r r' ta tb tc):=by
  intro pins s σ H Q I h
  refine Compare_chain (thn (ha pins s σ H _ I h) fun v s1 ⟨x,H1,I1,r1,q1⟩=>chain_link (thn (hb pins s1 σ H1 _ I1 q1) fun u s2 ⟨y,H2,I2,r2,q2⟩ =>
    thn (ho pins s2 σ H2 x y v u _ I2 r1 r2 q2) fun d s3 ⟨z,H3,I3,r3,k,e,q3⟩=>?_)) hm
  subst e
  cases r3
  refine wpAny_truthy_bool ?_
  cases k with
  | false=>exact ite_ff ⟨.bl false,H3,I3,rfl,q3⟩
  | true=>exact ite_tt (chain_last (thn (hc pins s3 σ H3 _ I3 q3) fun w' s4 ⟨z',H4,I4,r4,q4⟩=>ho' pins s4 σ H4 y z' u w' Q I4 r2 r4 q4))
def TruV (K:PySem.W.Frag) (x:V) (H:Hp) (k:Bool):Prop :=
  match x with
  | .non=>k=false
  | .bl b=>k=b
  | .int i=>k=(i != 0)
  | .str y=>y.length<=sizeLine∧k=((y.length:Int) != 0)
  | .byt y=>y.size<=sizeLine∧k=((y.size:Int) != 0)
  | .ref p=>(∃ xs,SqL K H p xs∧k = !xs.isEmpty)∨(∃ xs,SqT K H p xs∧k = !xs.isEmpty)∨∃ kvs,H p=some (.dK kvs)∧k = !kvs.isEmpty
  | _=>False
theorem jcc {κ:Type} {kvs:List (κ × V)} {vs:List (κ × Value)} (r:KV kvs vs):(!vs.isEmpty) = !kvs.isEmpty:=by
  cases r <;> rfl
theorem Xc {xs:List V} {its:List Value} (r:yj xs its):(!its.toArray.isEmpty) = !xs.isEmpty:=by
  cases r <;> simp
theorem Xa:(sizeLine:Nat) < 2 ^ 63:=by rw [sizeLine_eq]; decide
theorem tru_ok:TruR X (fun x H Q=>∃ k,TruV X.K x H k∧Q k H):=by
  intro pins s σ H x v Q I rx h
  obtain ⟨k,e,q⟩:=h
  have hl:=Xa
  have hs:sizeLine=16777216:=sizeLine_eq
  cases x with
  | non =>
    cases rx
    have e':k=false:=e
    subst e'
    exact truthy_none ⟨H,I,q⟩
  | bl b =>
    cases rx
    have e':k=b:=e
    subst e'
    exact wpAny_truthy_bool ⟨H,I,q⟩
  | int i =>
    obtain ⟨t,rfl⟩:=rx
    have e':k=(i != 0):=e
    subst e'
    exact PySem.P.truthy_int ⟨H,I,q⟩
  | str y =>
    obtain ⟨t,rfl⟩:=rx
    obtain ⟨hy,e'⟩:y.length<=sizeLine∧k=((y.length:Int) != 0):=e
    subst e'
    exact PySem.P.truthy_str (by omega) ⟨H,I.tok _,q⟩
  | byt y =>
    obtain ⟨t,rfl⟩:=rx
    obtain ⟨hy,e'⟩:y.size<=sizeLine∧k=((y.size:Int) != 0):=e
    subst e'
    exact PySem.W.truthy_bytes (by omega) ⟨H,I.tok _,q⟩
  | ref p =>
    cases rx
    have e':(∃ xs,SqL X.K H p xs∧k = !xs.isEmpty)∨(∃ xs,SqT X.K H p xs∧k = !xs.isEmpty)∨∃ kvs,H p=some (.dK kvs)∧k = !kvs.isEmpty:=e
    rcases e' with ⟨xs,hx,e'⟩ | ⟨xs,hx,e'⟩ | ⟨kvs,hx,e'⟩
    · subst e'
      obtain ⟨its,r,pl,hz⟩:=I.list hx
      have hlen:=r.length
      exact wpAny_truthy_list pl.isList (by simp only [List.size_toArray]; omega) ⟨H,I.tok _,by rw [Xc r]; exact q⟩
    · subst e'
      obtain ⟨its,r,pl,hz⟩:=I.tuple hx
      have hlen:=r.length
      exact truthy_tuple pl (by simp only [List.size_toArray]; omega) ⟨H,I.tok _,by rw [Xc r]; exact q⟩
    · subst e'
      obtain ⟨hz,hS,vs,r,m⟩:kvs.length<=sizeLine∧(p == sysModules)=false∧∃ vs,KV kvs vs∧s.heap.DictOf (yk X.prog X.w) p vs:=I.hok p _ hx
      have hlen:kvs.length=vs.length:=Paired.length r
      exact wpAny_truthy_dict hS m (by omega) ⟨H,I.tok _,by rw [jcc r]; exact q⟩
  | _=>exact (show False from e).elim
theorem Yx {x:V} {us:List Value} (r:yj [x] us):∃ u,us=[u]∧yl x u:=by
  cases r with
  | cons r1 r2=>cases r2; exact ⟨_,rfl,r1⟩
theorem jcv {x y:V} {us:List Value} (r:yj [x,y] us):∃ u w',us=[u,w']∧yl x u∧yl y w':=by
  cases r with
  | cons r1 r2 =>
    cases r2 with
    | cons r3 r4=>cases r4; exact ⟨_,_,rfl,r1,r3⟩
theorem jem (hc:X.calm=true):yx X (.builtin "max") (fun xs H Q=>∃ i j,xs=[.int i,.int j]∧Q (.int (if j > i then j else i)) H):=by
  intro pins s σ H xs us Q I r h
  obtain ⟨i,j,rfl,q⟩:=h
  obtain ⟨u,w',rfl,⟨t,rfl⟩,⟨t',rfl⟩⟩:=jcv r
  refine max_two_ints (I.ok.hd hc) fun h' tk k=>⟨_,H,I.kept k,?_,q⟩
  by_cases hj:j > i
  · rw [if_pos hj,if_pos hj]; exact ⟨_,rfl⟩
  · rw [if_neg hj,if_neg hj]; exact ⟨_,rfl⟩
theorem jek (hc:X.calm=true):yx X (.builtin "min") (fun xs H Q=>∃ i j,xs=[.int i,.int j]∧Q (.int (if j < i then j else i)) H):=by
  intro pins s σ H xs us Q I r h
  obtain ⟨i,j,rfl,q⟩:=h
  obtain ⟨u,w',rfl,⟨t,rfl⟩,⟨t',rfl⟩⟩:=jcv r
  refine min_two_ints (I.ok.hd hc) fun h' tk k=>⟨_,H,I.kept k,?_,q⟩
  by_cases hj:j < i
  · rw [if_pos hj,if_pos hj]; exact ⟨_,rfl⟩
  · rw [if_neg hj,if_neg hj]; exact ⟨_,rfl⟩
end
end L2

namespace L2
open PySem PySem.Spec PyProof.Rows

structure ObjM (h:Heap) (x dx C:Addr) (mA:Str->Option Value):Prop where
  obj:h.get? x=some (PySem.W.instObj C dx)
  ns:h.Ns1 dx mA
  ne:dx≠x

theorem jdP {h:Heap} {dx:Addr} {mA:Str->Option Value} (n:h.Ns1 dx mA):∃ od,h.get? dx=some od∧∀ name,PySem.W.lookIn name od=some (mA name):=by
  obtain ⟨o,es,ep,ho,hd,hk,_,hm⟩:=n
  refine ⟨o,ho,fun name=>?_⟩
  have e:=hm name
  unfold nsFind findBy at e
  rw [<- Array.find?_toList] at e
  unfold PySem.W.lookIn
  rw [hd]
  dsimp only
  split
  · rename_i y q
    rw [q] at e
    exact congrArg some e
  · rename_i q
    rw [q] at e
    have a:es.toList.any (·.refKey)=false:=by
      rw [List.any_eq_false]
      intro y hy
      obtain ⟨z,t,hkey⟩:=hk y (Array.mem_toList_iff.mp hy)
      simp [DictEntry.refKey,hkey]
    have a':¬ es.toList.any (·.refKey)=true:=by rw [a]; exact Bool.false_ne_true
    rw [if_neg a']
    exact congrArg some e

theorem ObjM.look {h:Heap} {x dx C:Addr} {mA:Str->Option Value} (I:ObjM h x dx C mA):∃ od,PySem.W.InstAt h x (PySem.W.instObj C dx) C (some od)∧∀ name,PySem.W.lookIn name od=some (mA name) :=
  let ⟨od,ho,hl⟩:=jdP I.ns
  ⟨od,⟨I.obj,rfl,rfl,ho⟩,hl⟩

section
variable {prog:Program} {w:World} {A:Around} {E:Value->Shared->Prop} {s:Shared} {K:PySem.W.Frag} {x dx C f:Addr} {mA:Str->Option Value} {name:Str} {v:Value}

theorem jis {expr:Bool} {Q:Value->Shared->Prop} (X:K.In s.heap) (I:ObjM s.heap x dx C mA) (hg:PySem.W.plainGet K C name=true) (hh:PySem.W.hasDictIn K C=true)
    (ha:PySem.W.findIn K (.ref C) name=some none) (hv:mA name=some v) (hv':PySem.W.handedIn v=true) (h:Q v { s with toks:=s.toks + 1 }) :
    wpAny (model prog w) A (getAttr (.ref x) name expr) Q E s:=by
  obtain ⟨od,J,hl⟩:=I.look
  exact PySem.W.get_value X J (PySem.W.plainGet_of hg).1 (PySem.W.findObj_own hh ha rfl (by rw [hl,hv])) hv' h

theorem jgc {pl:Sem Bool} {Q:Value × List Value->Shared->Prop} (X:K.In s.heap) (I:ObjM s.heap x dx C mA) (hg:PySem.W.plainGet K C name=true)
    (hf:PySem.W.findIn K (.ref C) name=some (some (.ref f))) (ht:PySem.W.isFn K (.ref f)=true) (hv:mA name=none) (h:Q (.ref f,[.ref x]) s) :
    wpAny (model prog w) A (getMethod (.ref x) name pl) Q E s:=by
  obtain ⟨od,J,hl⟩:=I.look
  exact PySem.W.method_fn X J (PySem.W.plainGet_of hg).1 (PySem.W.plainGet_of hg).2 hf (beq_iff_eq.mp ht) (by show (PySem.W.lookIn name od).map (·.isSome)=some false; rw [hl,hv]; rfl) h

theorem jhm {ns:List Str} {Q:Unit->Shared->Prop} (X:K.In s.heap) (I:ObjM s.heap x dx C mA)
    (hs:PySem.W.findIn K (.ref C) "__setattr__" = some (some (.builtin "object.__setattr__"))) (hp:PySem.W.plainOver K C=true) (ht:PySem.W.takerIn K C name=some none) (hh:PySem.W.hasDictIn K C=true)
    (hw:PySem.Within mA ns) (hsz:ns.length<=sizeLine)
    (h:∀ h',ObjM h' x dx C (fun y=>if y=name then some v else mA y)->Heap.SameBut dx s.heap h'->Q () { s with heap:=h',toks:=s.toks + 2 }) :
    wpAny (model prog w) A (setAttr (.ref x) name v) Q E s:=by
  obtain ⟨od,J,hl⟩:=I.look
  refine PySem.W.set_plain X J hs (PySem.W.osa_open (s:={ s with toks:=s.toks + 1 }) (r:=none) X J hp ht fun b=>?_)
  obtain ⟨cd,hc,hd'⟩:=PySem.W.any_some hh
  have hx:s.heap.get? x=some ⟨.ref C,some dx,.plain,#[]⟩:=I.obj
  refine wpAny_bind (wpAny_pure (wpAny_bind (wpAny_bind (wpAny_loadPart hx (wpAny_bind (PySem.W.Looks.here (s:={ s with toks:=s.toks + 1 }) (PySem.W.looks_clsIn X hc) ?_))))))
  rw [hd']
  refine wpAny_pure (a:=some dx) (wpAny_bind (wpAny_pure (wpAny_bind ?_)))
  refine wpAny_nsSet1 (s:={ s with toks:=s.toks + 1 }) I.ns fun h' hn2 hs2=>?_
  obtain ⟨oD,esD,epD,hoD,hdD,hcD⟩:=hn2.count (PySem.Within.cons name v hw)
  refine wpAny_bind (wpAny_lookBehind hoD (by rw [hdD]; exact pastItsLine_dict (Nat.le_trans hcD (by rw [List.length_cons]; omega))) ?_)
  exact wpAny_pure (h _ ⟨(hs2.2 _ (Ne.symm I.ne)).trans I.obj,hn2,I.ne⟩ hs2)

theorem jfM {R:Result->Shared->Prop} {vs:List Value} {kw:List (Str × Value)} (X:K.In s.heap) (hm:PySem.W.makesIn K C=true)
    (hi:PySem.W.findIn K (.ref C) "__init__" = some (some (.ref f))) (hf:PySem.W.typeIn K (.ref f)=some (.type "function"))
    (h:codeAny (model prog w) (A.under (.builtin "type.__call__" ⟨.ref C :: vs,kw⟩)) (.call (.ref f) ⟨.ref (s.heap.objs.size + 1) :: vs,kw⟩) (PySem.W.InitBack (s.heap.objs.size + 1) R)
      { s with heap:=(s.heap.push PySem.W.emptyDict).push (PySem.W.instObj C s.heap.objs.size) }) :
    codeAny (model prog w) A (.call (.ref C) ⟨vs,kw⟩) R s:=by
  obtain ⟨hh,g,d,t,os⟩:=s
  exact PySem.W.make_core (PySem.W.makes_of X hm) (PySem.W.looks_findIn X hi) (fun self=>PySem.W.bind_fn X self hf) (.inl rfl) h
end

def vp (f:Str) (v:V):List (Str × V)->List (Str × V)
  | []=>[(f,v)]
  | (g,x) :: r=>if g=f then (g,v) :: r else (g,x) :: vp f v r
theorem Yc (f g:Str) (v:V):∀ fs:List (Str × V),(vp f v fs).lookup g=if g=f then some v else fs.lookup g
  | []=>by
    show List.lookup g [(f,v)]=_
    by_cases h:g=f
    · have hb:(g == f)=true:=beq_iff_eq.mpr h
      simp only [List.lookup,hb,if_pos h]
    · have hb:(g == f)=false:=beq_eq_false_iff_ne.mpr h
      simp only [List.lookup,hb,if_neg h]
  | (k,x) :: r=>by
    have ih:=Yc f g v r
    rw [show vp f v ((k,x) :: r)=(if k=f then (k,v) :: r else (k,x) :: vp f v r) from rfl]
    by_cases hk:k=f
    · rw [if_pos hk]
      by_cases h:g=k
      · have hb:(g == k)=true:=beq_iff_eq.mpr h
        simp only [List.lookup,hb,if_pos (h.trans hk)]
      · have hb:(g == k)=false:=beq_eq_false_iff_ne.mpr h
        simp only [List.lookup,hb,if_neg (fun e:g=f=>h (e.trans hk.symm))]
    · rw [if_neg hk]
      by_cases h:g=k
      · have hb:(g == k)=true:=beq_iff_eq.mpr h
        simp only [List.lookup,hb,if_neg (fun e:g=f=>hk (h.symm.trans e))]
      · have hb:(g == k)=false:=beq_eq_false_iff_ne.mpr h
        simp only [List.lookup,hb]
        exact ih
theorem JS (f:Str) (v:V):∀ fs:List (Str × V),f ∈ (vp f v fs).map (·.1)∧∀ g,g ∈ fs.map (·.1)->g ∈ (vp f v fs).map (·.1)
  | []=>⟨by simp [vp],fun g h=>by simp at h⟩
  | (k,x) :: r=>by
    obtain ⟨i1,i2⟩:=JS f v r
    rw [show vp f v ((k,x) :: r)=(if k=f then (k,v) :: r else (k,x) :: vp f v r) from rfl]
    by_cases hk:k=f
    · rw [if_pos hk]
      subst hk
      exact ⟨by simp,fun g h=>by simpa using h⟩
    · rw [if_neg hk]
      refine ⟨?_,fun g h=>?_⟩
      · rw [List.map_cons]
        exact List.mem_cons_of_mem _ i1
      · rw [List.map_cons] at h ⊢
        rcases List.mem_cons.mp h with e | e
        · exact List.mem_cons.mpr (.inl e)
        · exact List.mem_cons_of_mem _ (i2 g e)
theorem Yd (f:Str) (v:V):∀ fs:List (Str × V),(vp f v fs).length<=fs.length + 1
  | []=>by simp [vp]
  | (k,x) :: r=>by
    have ih:=Yd f v r
    rw [show vp f v ((k,x) :: r)=(if k=f then (k,v) :: r else (k,x) :: vp f v r) from rfl]
    by_cases hk:k=f
    · rw [if_pos hk,List.length_cons,List.length_cons]; omega
    · rw [if_neg hk,List.length_cons,List.length_cons]; omega

theorem uL.some_of {v:V} {o:Option Value} (r:uL (some v) o):∃ u,o=some u∧yl v u:=by
  cases o with
  | none=>exact (show False from r).elim
  | some u=>exact ⟨u,rfl,r⟩
theorem uL.none_of {o:Option Value} (r:uL none o):o=none:=by
  cases o with
  | none=>rfl
  | some u=>exact (show False from r).elim
theorem jdW {v:V} {u:Value} (r:yl v u):PySem.W.handedIn u=true:=by
  cases v with
  | non=>cases (show u=Value.none from r); rfl
  | bl b=>cases (show u=Value.bool b from r); rfl
  | int i=>obtain ⟨t,e⟩:=(show ∃ t,u=Value.int i t from r); cases e; rfl
  | str x=>obtain ⟨t,e⟩:=(show ∃ t,u=Value.str x t from r); cases e; rfl
  | byt b=>obtain ⟨t,e⟩:=(show ∃ t,u=Value.bytes b t from r); cases e; rfl
  | flt b=>obtain ⟨t,e⟩:=(show ∃ t,u=Value.float b t from r); cases e; rfl
  | ref a=>cases (show u=Value.ref a from r); rfl
  | ty n=>cases (show u=Value.type n from r); rfl

section
variable {P:Program} {w:World} {H H':Hp} {h h':Heap} {a C dx:Addr} {fs fs':List (Str × V)}
theorem UX (hok:HOk P w H h) (e:H a=some (.ins C dx fs)):∃ mA,ObjM h a dx C mA∧(∀ f,uL (fs.lookup f) (mA f))∧PySem.Within mA (fs.map (·.1))∧fs.length<=1000∧H dx=some (.own a):=by
  obtain ⟨d,z,ne,ob,mA,n,r,q⟩:=(show yE P w H h a (.ins C dx fs) from hok a _ e)
  exact ⟨mA,⟨ob,n,ne⟩,r,q,z,d⟩
end

structure Cls (K:PySem.W.Frag) (C:Addr):Prop where
  pg:PySem.W.plainGet K C Str.empty=true
  hd:PySem.W.hasDictIn K C=true
  po:PySem.W.plainOver K C=true
  sa:PySem.W.findIn K (.ref C) "__setattr__" = some (some (.builtin "object.__setattr__"))
theorem Cls.get {K:PySem.W.Frag} {C:Addr} (c:Cls K C) (f:Str):PySem.W.plainGet K C f=true:=c.pg
def jp (K:PySem.W.Frag) (C:Addr) (f:Str):Prop:=PySem.W.findIn K (.ref C) f=some none
theorem jp.taker {K:PySem.W.Frag} {C:Addr} {f:Str} (n:jp K C f):PySem.W.takerIn K C f=some none:=by
  unfold PySem.W.takerIn
  rw [show PySem.W.findIn K (.ref C) f=some none from n]
  rfl
structure Con (K:PySem.W.Frag) (C:Addr) (f:Str) (v:V) (u:Value):Prop where
  at_:PySem.W.findIn K (.ref C) f=some (some u)
  rel:yl v u
  get:PySem.W.specialIn K u "__get__" = some none
  cp:PySem.W.copiedNames.contains f=false
structure Meth (K:PySem.W.Frag) (C:Addr) (m:Str) (f:Addr):Prop where
  at_:PySem.W.findIn K (.ref C) m=some (some (.ref f))
  fn:PySem.W.isFn K (.ref f)=true
  kp:PySem.W.keepIn K (.ref f)=true

section
variable {X:Cx} {pins:List (Addr × Obj)} {σ:St} {H:Hp} {s:Shared} {a C dx:Addr} {fs:List (Str × V)} {f:Str} {v:V} {A:Around} {E:Value->Shared->Prop}

theorem Xg {b:Bool} {Q:Value->Shared->Prop} (I:Inv X pins σ H s) (e:H a=some (.ins C dx fs)) (c:Cls X.K C) (n:jp X.K C f) (l:fs.lookup f=some v)
    (h:∀ u s',Inv X pins σ H s'->yl v u->Q u s'):wpAny (model X.prog X.w) A (getAttr (.ref a) f b) Q E s:=by
  obtain ⟨mA,O,r,_,_,_⟩:=UX I.hok e
  obtain ⟨u,hu,ru⟩:=uL.some_of (v:=v) (o:=mA f) (by rw [<- l]; exact r f)
  exact jis I.kIn O (c.get f) c.hd n hu (jdW ru) (h u _ (I.tok _) ru)

theorem Xf {m:Str} {g:Addr} {pl:Sem Bool} {Q:Value × List Value->Shared->Prop} (I:Inv X pins σ H s) (e:H a=some (.ins C dx fs)) (c:Cls X.K C) (k:Meth X.K C m g) (l:fs.lookup m=none)
    (h:Q (.ref g,[.ref a]) s):wpAny (model X.prog X.w) A (getMethod (.ref a) m pl) Q E s:=by
  obtain ⟨mA,O,r,_,_,_⟩:=UX I.hok e
  have hn:mA m=none:=uL.none_of (by rw [<- l]; exact r m)
  exact jgc I.kIn O (c.get m) k.at_ k.fn hn h

theorem YE {y:V} {u:Value} {Q:Unit->Shared->Prop} (I:Inv X pins σ H s) (e:H a=some (.ins C dx fs)) (c:Cls X.K C) (n:jp X.K C f) (hl:fs.length < 1000) (ry:yl y u)
    (h:∀ s',Inv X pins σ (upd H a (.ins C dx (vp f y fs))) s'->Q () s'):wpAny (model X.prog X.w) A (setAttr (.ref a) f u) Q E s:=by
  obtain ⟨mA,O,r,wi,_,ho⟩:=UX I.hok e
  have hz:(fs.map (·.1)).length<=sizeLine:=by rw [List.length_map,sizeLine_eq]; omega
  refine jhm I.kIn O c.sa c.po n.taker c.hd wi hz fun h' O' sb=>h _ ?_
  have hd:∃ o,h'.get? dx=some o:=let ⟨o,_,_,e',_⟩:=O'.ns; ⟨o,e'⟩
  refine I.write (x:=a) (e:=dx) (by rw [e]; exact True.intro) (.inr ho) (fun b q hb z=>(sb.2 b hb).trans z) hd ?_
  refine ⟨by rw [jm O.ne]; exact ho,?_,O.ne,O'.obj,_,O'.ns,fun g=>?_,fun g hg=>?_⟩
  · have:=Yd f y fs; omega
  · show uL ((vp f y fs).lookup g) (if g=f then some u else mA g)
    rw [Yc]
    by_cases q:g=f
    · rw [if_pos q,if_pos q]; exact ry
    · rw [if_neg q,if_neg q]; exact r g
  · by_cases q:g=f
    · rw [q]; exact (JS f y fs).1
    · refine (JS f y fs).2 g (wi g fun z=>hg ?_)
      show (if g=f then some u else mA g)=none
      rw [if_neg q]; exact z

theorem Inv.made (I:Inv X pins σ H s):Inv X pins σ (upd (upd H s.heap.objs.size (.own (s.heap.objs.size + 1))) (s.heap.objs.size + 1) (.ins C s.heap.objs.size []))
    { s with heap:=(s.heap.push PySem.W.emptyDict).push (PySem.W.instObj C s.heap.objs.size) }:=by
  have e1:(s.heap.push PySem.W.emptyDict).get? s.heap.objs.size=some PySem.W.emptyDict:=Heap.get?_push_size s.heap rfl
  have e2:((s.heap.push PySem.W.emptyDict).push (PySem.W.instObj C s.heap.objs.size)).get? (s.heap.objs.size + 1)=some (PySem.W.instObj C s.heap.objs.size):=by
    have:=Heap.get?_push_size (s.heap.push PySem.W.emptyDict) (o:=PySem.W.instObj C s.heap.objs.size) rfl
    rwa [Heap.size_push] at this
  have e3:(s.heap.push PySem.W.emptyDict).Ns s.heap.objs.size (fun _=>none):=⟨PySem.W.emptyDict,#[],_,e1,rfl,(fun e he=>absurd he (by simp)),fun _=>rfl⟩
  have I1:=I.laid (a:=s.heap.objs.size) (o:=.own (s.heap.objs.size + 1)) (h':=s.heap.push PySem.W.emptyDict) (t':=s.toks) (fun b u q=>Heap.get?_push_of_some _ q) (Nat.le_refl _) ⟨_,e1⟩
  refine I1.laid (a:=s.heap.objs.size + 1) (o:=.ins C s.heap.objs.size []) (t':=s.toks) (fun b u q=>Heap.get?_push_of_some _ q) (Nat.le_of_eq (Heap.size_push _ _)) ?_
  have ne:s.heap.objs.size≠s.heap.objs.size + 1:=Nat.ne_of_lt (Nat.lt_succ_self _)
  refine ⟨by rw [jm ne,jv],Nat.zero_le _,ne,e2,fun _=>none,(Heap.Ns1.of_empty e3).at fun o q=>Heap.get?_push_of_some _ q,fun _=>True.intro,fun y hy=>absurd rfl hy⟩

theorem jiM {prog:Program} {w:World} {env:Env} {e:Expr} {f:Str} {pos:Pos} {s:Shared} {Q:Value->Shared->Prop} (hb:attributeBase e f env (eval e env)=eval e env)
    (h:wpAny (model prog w) A (eval e env) (fun o s₁=>wpAny (model prog w) A (getAttr o f true) Q E s₁) E s):wpAny (model prog w) A (eval (.Attribute e f pos) env) Q E s :=
  Attribute_any_ h (by rw [arm_eval_Attribute,hb])
end

def tFld (K:PySem.W.Frag) (ta:TE) (f:Str):TE:=fun σ H Q=>ta σ H fun x H1=>∃ a C dx fs v,x = .ref a∧H1 a=some (.ins C dx fs)∧Cls K C∧jp K C f∧fs.lookup f=some v∧Q v H1
def sFld (K:PySem.W.Frag) (ta tv:TE) (f:Str):TS:=fun D σ H=>tv σ H fun y H1=>ta σ H1 fun x H2=>∃ a C dx fs,x = .ref a∧H2 a=some (.ins C dx fs)∧Cls K C∧jp K C f∧fs.length < 1000 ∧
  D.nx σ (upd H2 a (.ins C dx (vp f y fs)))
def InOp (X:Cx) (op:Operator) (rd:V->V->Hp->VK->Prop):Prop :=
  ∀ (pins:List (Addr × Obj)) (s:Shared) (σ:St) (H:Hp) (x y:V) (u v:Value) (Q:VK),Inv X pins σ H s->yl x u->yl y v->rd x y H Q->wpAny (model X.prog X.w) X.A (inplaceOp op u v) (EP X pins σ Q) X.xe s
def jhq (K:PySem.W.Frag) (ta tv:TE) (rd:V->V->Hp->VK->Prop) (f:Str):TS:=fun D σ H=>ta σ H fun x H1=>∃ a C dx fs v,x = .ref a∧H1 a=some (.ins C dx fs)∧Cls K C∧jp K C f∧fs.lookup f=some v ∧
  tv σ H1 fun y H2=>rd v y H2 fun z H3=>∃ dx' fs',H3 a=some (.ins C dx' fs')∧fs'.length < 1000∧D.nx σ (upd H3 a (.ins C dx' (vp f z fs')))

section
variable {X:Cx} {o e value:Expr} {f:Str} {pos pos' tpos:Pos} {ta tv:TE}
theorem pe_fld (he:PE X e ta) (hb:attributeBase e f X.env (eval e X.env)=eval e X.env):PE X (.Attribute e f pos) (tFld X.K ta f):=by
  intro pins s σ H Q I h
  refine jiM hb (thn (he pins s σ H _ I h) fun u s1 hQQ=>?_)
  obtain ⟨x,H1,I1,rx,a,C,dx,fs,v,ex,ea,c,n,l,q⟩:=hQQ
  subst ex
  obtain rfl:u=Value.ref a:=rx
  exact Xg I1 ea c n l fun u' s2 I2 ru=>⟨v,H1,I2,ru,q⟩
theorem ps_fld (ha:PE X o ta) (hv:PE X value tv) (hs:swapsWith value (some (.Attribute o f pos')) pos.line X.env=pure false):PS X (.Assign [.Attribute o f pos'] value pos) (sFld X.K ta tv f):=by
  intro pins s σ H D I h
  refine plainObj_wpAny_Assign_Attribute (thn (hv pins s σ H _ I h) fun u s1 ⟨y,H1,I1,ry,q⟩=>thn (ha pins s1 σ H1 _ I1 q) fun ov s2 hQQ=>?_) hs
  obtain ⟨x,H2,I2,rx,a,C,dx,fs,ex,ea,c,n,l,q2⟩:=hQQ
  subst ex
  obtain rfl:ov=Value.ref a:=rx
  exact YE I2 ea c n l ry fun s3 I3=>⟨σ,_,I3,q2⟩
theorem jdC {op:Operator} {rd:V->V->Hp->VK->Prop} (ha:PE X o ta) (hv:PE X value tv) (hop:InOp X op rd):PS X (.AugAssign (.Attribute o f tpos) op value pos) (jhq X.K ta tv rd f):=by
  intro pins s σ H D I h
  refine wpAny_AugAssign_AttributeAny (thn (ha pins s σ H _ I h) fun ov s1 hQQ=>?_)
  obtain ⟨x,H1,I1,rx,a,C,dx,fs,v,ex,ea,c,n,l,q⟩:=hQQ
  subst ex
  obtain rfl:ov=Value.ref a:=rx
  refine Xg I1 ea c n l fun u s2 I2 ru=>thn (hv pins s2 σ H1 _ I2 q) fun w3 s3 ⟨y,H2,I3,ry,q3⟩=>thn (hop pins s3 σ H2 v y u w3 _ I3 ru ry q3) fun w4 s4 hQQ=>?_
  obtain ⟨z,H3,I4,rz,dx',fs',ea',l',q4⟩:=hQQ
  exact YE I4 ea' c n l' rz fun s5 I5=>⟨σ,_,I5,q4⟩
end

section
variable {X:Cx} {pins:List (Addr × Obj)} {σ:St} {H:Hp} {s:Shared} {A:Around} {E:Value->Shared->Prop} {Q:Value->Shared->Prop} {c:Value} {b:Bool}
inductive TyOf (K:PySem.W.Frag) (H:Hp):V->Value->Prop where
  | non:TyOf K H .non (.type "NoneType")
  | bl (x:Bool):TyOf K H (.bl x) (.type "bool")
  | int (i:Int):TyOf K H (.int i) (.type "int")
  | str (x:Str):TyOf K H (.str x) (.type "str")
  | flt (x:UInt64):TyOf K H (.flt x) (.type "float")
  | lst {a:Addr} {xs:List V} (e:H a=some (.lst xs)):TyOf K H (.ref a) (.type "list")
  | frz {a:Addr} {o:Obj} {xs:List V} (e:H a=some (.frz o (.lst xs))):TyOf K H (.ref a) (.type "list")
  | tup {a:Addr} {xs:List V} (e:H a=some (.tup xs)):TyOf K H (.ref a) (.type "tuple")
  | dK {a:Addr} {kvs:List (Key × V)} (e:H a=some (.dK kvs)):TyOf K H (.ref a) (.type "dict")
  | dT {a:Addr} {kvs:List (List Key × V)} (e:H a=some (.dT kvs)):TyOf K H (.ref a) (.type "dict")
  | ins {a C dx:Addr} {fs:List (Str × V)} (e:H a=some (.ins C dx fs)) (cl:Cls K C) (ha:PySem.W.findIn K (.ref C) "__class__" = some (some (.builtin "object.__class__")))
      (hn:PySem.W.specialIn K (.builtin "object.__class__") "__get__" = some (some (.builtin "getset_descriptor.__get__"))) (htk:PySem.W.takesIn K (.builtin "object.__class__")=some true)
      (hm:PySem.W.mroIn K C (.type "object")=some true):TyOf K H (.ref a) (.ref C)
end
end L2

namespace L2
open PySem PySem.Spec PyProof.Rows

structure Room (k:Nat) (A:Around):Prop where
  hd:A.handled=none
  dp:A.depth + 3 * k + 5 < recursionLimit
  un:A.units + 16 * k + 200 < cLine
theorem Room.mono {j k:Nat} {A:Around} (r:Room k A) (h:j<=k):Room j A:=⟨r.hd,by have:=r.dp; omega,by have:=r.un; omega⟩
theorem Room.deeper {k:Nat} {A:Around} (r:Room (k + 1) A) (env:Env):Room k (A.deeper env) :=
  ⟨r.hd,by have:=r.dp; show A.depth + 1 + 3 * k + 5 < _; omega,by have:=r.un; show A.units + 3 + 16 * k + 200 < _; omega⟩
theorem jca {A:Around} {C:Addr} {us:List Value} {kw:List (Str × Value)}:(A.under (.builtin "type.__call__" ⟨.ref C :: us,kw⟩)).depth=A.depth + 1:=by
  first | rfl | simp [Around.under,Code.weight,Code.isCreation,Code.isGuard,Code.isCaller,Code.frames,Code.isFrame,guardIds]
theorem jbZ {A:Around} {C:Addr} {us:List Value} {kw:List (Str × Value)}:(A.under (.builtin "type.__call__" ⟨.ref C :: us,kw⟩)).units=A.units + 1:=by
  first | rfl | simp [Around.under,Code.cUnits,Code.frames,Code.isFrame]
theorem Room.make {k:Nat} {A:Around} (r:Room (k + 1) A) (C:Addr) (us:List Value) (kw:List (Str × Value)):Room k (A.under (.builtin "type.__call__" ⟨.ref C :: us,kw⟩)) :=
  ⟨r.hd,by have:=r.dp; rw [jca]; omega,by have:=r.un; rw [jbZ]; omega⟩
theorem Room.depth {k:Nat} {A:Around} (r:Room k A):A.depth < recursionLimit:=by have:=r.dp; omega
theorem Room.units {k:Nat} {A:Around} (r:Room k A):A.units + 64 < cLine:=by have:=r.un; omega
theorem Room.units0 {k:Nat} {A:Around} (r:Room k A):A.units < cLine:=by have:=r.un; omega

def tNil:TA:=fun _ H Q=>Q [] H
def jey (ta:TE) (tr:TA):TA:=fun σ H Q=>ta σ H fun x H1=>tr σ H1 fun xs H2=>Q (x :: xs) H2
section
variable {X:Cx} {e:Expr} {es:List Expr} {te:TE} {t:TA} {pos:Pos}
theorem pa_nil:PA X [] tNil:=fun _ _ _ _ H Q I h=>Calls.spliced_nil ⟨[],H,I,.nil,h⟩
theorem jhS (ha:PE X e te) (hr:PA X es t) (hs:starEach (e :: es) X.env=(false,eval e X.env) :: starEach es X.env:=by rfl):PA X (e :: es) (jey te t):=by
  intro pos pins s σ H Q I h
  rw [hs]
  show wpAny _ _ (spliced ((false,eval e X.env) :: backTo pos (starEach es X.env))) _ _ s
  refine Calls.spliced_cons (thn (ha pins s σ H _ I h) fun u s1 hQQ=>?_)
  obtain ⟨x,H1,I1,r1,q1⟩:=hQQ
  exact thn (hr pos pins s1 σ H1 _ I1 q1) fun us s2 ⟨xs,H2,I2,r2,q2⟩=>⟨x :: xs,H2,I2,.cons r1 r2,q2⟩

def tTup (t:TA):TE:=fun σ H Q=>t σ H fun xs H1=>xs.length<=sizeLine∧∀ p,H1 p=none->Q (.ref p) (upd H1 p (.tup xs))
def tLst (t:TA):TE:=fun σ H Q=>t σ H fun xs H1=>xs.length<=sizeLine∧∀ p,H1 p=none->Q (.ref p) (upd H1 p (.lst xs))
theorem uS {x1} (h:PA X es t):PE X (.Tuple es x1 pos) (tTup t):=by
  intro pins s σ H Q I hq
  refine wpAny_Tuple_spliced (thn (h pos pins s σ H _ I hq) fun us s1 ⟨xs,H1,I1,r,z,q⟩=>⟨by rw [<- r.length]; exact z,?_⟩)
  have hf:H1 s1.heap.objs.size=none:=I1.hok.fresh (Nat.le_refl _)
  refine ⟨.ref s1.heap.objs.size,upd H1 s1.heap.objs.size (.tup xs),I1.laid (t':=s1.toks) (fun b u e=>Heap.get?_push_of_some _ e) (Nat.le_refl _) ?_,rfl,q _ hf⟩
  exact ⟨z,us,r,⟨_,Heap.get?_push_size _ rfl,rfl,_,rfl⟩⟩
theorem jfo (h:PA X es t):PE X (.List es pos) (tLst t):=by
  intro pins s σ H Q I hq
  refine wpAny_List_spliced (thn (h pos pins s σ H _ I hq) fun us s1 ⟨xs,H1,I1,r,z,q⟩=>⟨by rw [<- r.length]; exact z,?_⟩)
  have hf:H1 s1.heap.objs.size=none:=I1.hok.fresh (Nat.le_refl _)
  refine ⟨.ref s1.heap.objs.size,upd H1 s1.heap.objs.size (.lst xs),I1.laid (t':=s1.toks) (fun b u e=>Heap.get?_push_of_some _ e) (Nat.le_refl _) ?_,rfl,q _ hf⟩
  exact ⟨z,us,0,r,Heap.get?_push_size _ rfl⟩
end

abbrev Sp:=List V->Hp->VK->XK->Prop
abbrev CXT:=List Env->Hp->Shared->XK->Value->Shared->Prop

structure Env0 (P:Program) (w:World) (K:PySem.W.Frag) (mg:Str->Option Value) (base:Heap) (A:Around) (outer:List Env) (s:Shared) (H:Hp):Prop where
  frames:A.frames=some outer
  mod:Mod K mg base
  bs:∀ b o,base.get? b=some o->s.heap.get? b=some o∧H b=none
  bsz:base.objs.size<=s.heap.objs.size
  funs:s.heap.FunFrames base outer
  frf:∀ b ∈ frs outer,H b=none
  hok:HOk P w H s.heap
  bare:AllBare s.gens
def CE (outer:List Env) (P:Program) (w:World) (H:Hp) (s:Shared) (Q:VK) (u:Value) (s':Shared):Prop :=
  ∃ v H',s'.os=s.os∧AllBare s'.gens∧Un (frs outer) [] H H' s.heap s'.heap∧HOk P w H' s'.heap∧yl v u∧Q v H'
def CR (CX:CXT) (outer:List Env) (P:Program) (w:World) (H:Hp) (s:Shared) (Q:VK) (E:XK) (r:Result) (s':Shared):Prop :=
  match r with
  | .ok (.ret u)=>CE outer P w H s Q u s'
  | .ok _=>False
  | .error e=>CX outer H s E e s'
structure FnOk (P:Program) (w:World) (K:PySem.W.Frag) (mg:Str->Option Value) (base:Heap) (CX:CXT) (k:Nat) (f:Addr) (fd:FuncData) (ps:List Str) (sp:Sp):Prop where
  len:∀ vs H Q E,sp vs H Q E->vs.length=ps.length
  run:∀ (A:Around) (outer:List Env) (s:Shared) (H:Hp) (args:Args) (us:List Value) (vs:List V) (Q:VK) (E:XK),Room k A->Env0 P w K mg base A outer s H->BindsTo s fd args (ps.zip us)->yj vs us->sp vs H Q E ->
    codeAny (model P w) A (.call (.ref f) args) (CR CX outer P w H s Q E) s
theorem FnOk.imp {P:Program} {w:World} {K:PySem.W.Frag} {mg:Str->Option Value} {base:Heap} {CX:CXT} {k:Nat} {f:Addr} {fd:FuncData} {ps:List Str} {sp sp':Sp} (F:FnOk P w K mg base CX k f fd ps sp)
    (h:∀ vs H Q E,sp' vs H Q E->sp vs H Q E):FnOk P w K mg base CX k f fd ps sp' :=
  ⟨fun vs H Q E q=>F.len vs H Q E (h _ _ _ _ q),fun A outer s H args us vs Q E hr he hb hv hs=>F.run A outer s H args us vs Q E hr he hb hv (h _ _ _ _ hs)⟩

theorem Env0.make {P:Program} {w:World} {K:PySem.W.Frag} {mg:Str->Option Value} {base:Heap} {A:Around} {outer:List Env} {s:Shared} {H:Hp} (e:Env0 P w K mg base A outer s H) (C:Addr) (us:List Value) (kw:List (Str × Value)) :
    Env0 P w K mg base (A.under (.builtin "type.__call__" ⟨.ref C :: us,kw⟩)) outer s H:=⟨by first | exact e.frames | (simpa [Around.under,Code.envs,Code.isFrame,pushEnvs] using e.frames),e.mod,e.bs,e.bsz,e.funs,e.frf,e.hok,e.bare⟩
section
variable {X:Cx} {pins:List (Addr × Obj)} {σ:St} {H:Hp} {s s':Shared}
theorem Inv.env0 (I:Inv X pins σ H s):Env0 X.prog X.w X.K X.mg X.base X.A X.stack s H :=
  ⟨I.ok.frames,I.ok.mod,I.bs,Nat.le_trans I.ok.bsz I.sz,I.stack,I.stkFree,I.hok,I.bare⟩
theorem Inv.after {Q:VK} {u:Value} (I:Inv X pins σ H s) (h:CE X.stack X.prog X.w H s Q u s'):EP X pins σ Q u s':=by
  obtain ⟨v,H',os,bare,un,hok,r,q⟩:=h
  obtain ⟨hh,g,d,t,os'⟩:=s'
  obtain rfl:os'=s.os:=os
  exact ⟨v,H',I.call (h':=hh) (g':=g) (d':=d) (t':=t) (ch:=[]) un hok bare (fun b z=>absurd z (by simp)),r,q⟩
end

def jdn (K:PySem.W.Frag) (fd:FuncData) (ps:List Str) (ds:List Value):Prop :=
  ∀ (s:Shared) (us:List Value),K.In s.heap->(us ++ ds).length=ps.length->BindsTo s fd ⟨us,[]⟩ (ps.zip (us ++ ds))
def Passes (CX:CXT) (X:Cx) (E:XK):Prop:=∀ (pins:List (Addr × Obj)) (σ:St) (H:Hp) (s:Shared) (e:Value) (s':Shared),Inv X pins σ H s->CX X.stack H s E e s'->X.xe e s'

section
variable {X:Cx} {CX:CXT} {k:Nat} {f C:Addr} {fd:FuncData} {ps:List Str} {sp:Sp} {dvs:List V} {ds:List Value} {E:XK} {x m:Str} {p pos apos:Pos} {e o:Expr} {es:List Expr} {ta:TE} {t:TA}

structure Mk (K:PySem.W.Frag) (C f:Addr):Prop where
  makes:PySem.W.makesIn K C=true
  init:PySem.W.findIn K (.ref C) "__init__" = some (some (.ref f))
  fn:PySem.W.isFn K (.ref f)=true
  kp:PySem.W.keepIn K (.ref C)=true

end

def PK (X:Cx) (kws:List Keyword) (t:TA):Prop :=
  ∀ (pos:Pos) (pins:List (Addr × Obj)) (s:Shared) (σ:St) (H:Hp) (Q:List V->Hp->Prop),Inv X pins σ H s->t σ H Q->wpAny (model X.prog X.w) X.A (evalAll ((backToKw pos (keywordEach kws X.env)).map (·.2))) (AP X pins σ Q) X.xe s
section
variable {X:Cx} {CX:CXT} {k:Nat} {f C:Addr} {fd:FuncData} {ps ks:List Str} {sp:Sp} {E:XK} {x m:Str} {p pos apos kpos:Pos} {e o:Expr} {es:List Expr} {kws:List Keyword} {te ta:TE} {t tk:TA} {nm:Option Str}
theorem pk_nil:PK X [] tNil:=fun _ _ _ _ H Q I h=>wpAny_evalAll_nil ⟨[],H,I,.nil,h⟩
theorem jhK (ha:PE X e te) (hr:PK X kws t):PK X (⟨nm,e,kpos⟩ :: kws) (jey te t):=by
  intro pos pins s σ H Q I h
  show wpAny _ _ (evalAll ((do let v <- eval e X.env; standAt pos; pure v) :: (backToKw pos (keywordEach kws X.env)).map (·.2))) _ _ s
  refine wpAny_evalAll_cons (wpAny_bind (thn (ha pins s σ H _ I h) fun u s1 ⟨x,H1,I1,r1,q1⟩=>wpAny_bind (wpAny_standAt (wpAny_pure ?_))))
  exact thn (hr pos pins s1 σ H1 _ I1 q1) fun us s2 ⟨xs,H2,I2,r2,q2⟩=>⟨x :: xs,H2,I2,.cons r1 r2,q2⟩

structure KBinds (K:PySem.W.Frag) (fd:FuncData) (ps ks:List Str) (g:List Value->List Value->List Value) (gV:List V->List V->List V):Prop where
  to:∀ (s:Shared) (us ws:List Value),K.In s.heap->(g us ws).length=ps.length->BindsTo s fd ⟨us,ks.zip ws⟩ (ps.zip (g us ws))
  rel:∀ {vs:List V} {us:List Value} {zs:List V} {ws:List Value},yj vs us->yj zs ws->yj (gV vs zs) (g us ws)
variable {g:List Value->List Value->List Value} {gV:List V->List V->List V}
end

structure FnScope (N P:List Str) (sc:Scope):Prop where
  kind:sc.kind = .function
  co:sc.isCoroutine=false
  gen:sc.isGenerator=false
  nd:N.Nodup
  pre:N.take P.length=P
  par:∀ x ∈ P,sc.names.lookup x=some .local∨sc.names.lookup x=some .cell
  nofree:∀ y ∈ sc.names,y.2≠.free

theorem Uj {kindOf:Str->Option NameKind} {x:Str}:∀ {binds:List (Str × Value)} {m:Str->Option Value},(∀ v,(x,v) ∉ binds)->bindL kindOf binds m x=m x
  | [],_,_=>rfl
  | (n,v) :: r,m,h=>by
    unfold bindL
    rw [Uj fun w hw=>h w (List.mem_cons_of_mem _ hw)]
    split
    · have:x≠n:=by rintro rfl; exact h v List.mem_cons_self
      simp [this]
    · rfl
theorem Ul {kindOf:Str->Option NameKind} {x:Str}:∀ {binds:List (Str × Value)} {m:Str->Option Value},(∀ v,(x,v) ∉ binds)->bindC kindOf binds m x=m x
  | [],_,_=>rfl
  | (n,v) :: r,m,h=>by
    unfold bindC
    rw [Ul fun w hw=>h w (List.mem_cons_of_mem _ hw)]
    split
    · rfl
    · have:x≠n:=by rintro rfl; exact h v List.mem_cons_self
      simp [this]
theorem Uk {kindOf:Str->Option NameKind} {x:Str} {v:Value}:∀ {P:List Str} {vs:List Value} {i:Nat} {m:Str->Option Value},P.Nodup->P[i]? = some x->vs[i]? = some v->kindOf x=some .local ->
    bindL kindOf (P.zip vs) m x=some v
  | [],_,_,_,_,h,_,_=>by simp at h
  | _ :: _,[],_,_,_,_,h,_=>by simp at h
  | p :: P,w :: vs,0,m,nd,h1,h2,hk=>by
    simp at h1 h2; subst h1; subst h2
    show bindL kindOf ((p,w) :: P.zip vs) m p=_
    unfold bindL
    rw [Uj fun v hv=>(List.nodup_cons.mp nd).1 (List.of_mem_zip hv).1,if_pos hk]
    simp
  | p :: P,w :: vs,i + 1,m,nd,h1,h2,hk=>by
    show bindL kindOf ((p,w) :: P.zip vs) m x=_
    unfold bindL
    exact Uk (i:=i) (List.nodup_cons.mp nd).2 (by simpa using h1) (by simpa using h2) hk
theorem Um {kindOf:Str->Option NameKind} {x:Str} {v:Value}:∀ {P:List Str} {vs:List Value} {i:Nat} {m:Str->Option Value},P.Nodup->P[i]? = some x->vs[i]? = some v->kindOf x≠some .local ->
    bindC kindOf (P.zip vs) m x=some v
  | [],_,_,_,_,h,_,_=>by simp at h
  | _ :: _,[],_,_,_,_,h,_=>by simp at h
  | p :: P,w :: vs,0,m,nd,h1,h2,hk=>by
    simp at h1 h2; subst h1; subst h2
    show bindC kindOf ((p,w) :: P.zip vs) m p=_
    unfold bindC
    rw [Ul fun v hv=>(List.nodup_cons.mp nd).1 (List.of_mem_zip hv).1,if_neg hk]
    simp
  | p :: P,w :: vs,i + 1,m,nd,h1,h2,hk=>by
    show bindC kindOf ((p,w) :: P.zip vs) m x=_
    unfold bindC
    exact Um (i:=i) (List.nodup_cons.mp nd).2 (by simpa using h1) (by simpa using h2) hk

def start (N:List Str) (vs:List V):St:=vs.map some ++ List.replicate (N.length - vs.length) none

def vX (CX:CXT) (P:Program) (w:World) (K:PySem.W.Frag) (mg:Str->Option Value) (base:Heap) (N:List Str) (qual:Str) (scope:Scope) (f:Addr) (cd:Value) (A:Around) (outer:List Env) (s:Shared) (H:Hp) (E:XK):Cx where
  prog:=P
  w:=w
  K:=K
  mg:=mg
  base:=base
  A:=A.deeper (envOfC qual scope s.heap.objs.size f cd)
  N:=N
  s₀:=s
  H₀:=H
  env:=envOfC qual scope s.heap.objs.size f cd
  outer:=outer
  stack:=envOfC qual scope s.heap.objs.size f cd :: outer
  ex:=[]
  calm:=true
  fn:=fun _=>true
  pn:=[]
  xe:=fun e s'=>wpAny (model P w) (A.deeper (envOfC qual scope s.heap.objs.size f cd)) («leaving» (envOfC qual scope s.heap.objs.size f cd) e) (fun _ s''=>CX outer H s E e s'') (fun e' s''=>CX outer H s E e' s'') s'

theorem jbm {sc:Scope} {n:Nat} {x:Str} (h:sc.names.lookup x=some .cell):∃ c,(cellsFrom n sc.names []).lookup x=some c:=by
  have q:=PySem.W.cellsFrom_some sc.names n [] (.inl h)
  exact Option.isSome_iff_exists.mp q

theorem jdT {CX:CXT} {P:Program} {w:World} {K:PySem.W.Frag} {mg:Str->Option Value} {base:Heap} {N ps:List Str} {qual:Str} {scope:Scope} {f:Addr} {cd:Value} {A:Around} {outer:List Env} {s s1:Shared} {H:Hp} {E:XK} {us:List Value} {vs:List V}
    (S:FnScope N ps scope) (hd:A.handled=none) (e0:Env0 P w K mg base A outer s H) (hl:vs.length=ps.length) (r:yj vs us)
    (x:InCallC s s.heap.objs.size (bindL (envOfC qual scope s.heap.objs.size f cd).kindOf (ps.zip us) fun _=>none) (cellsFrom (s.heap.objs.size + 1) scope.names []) (bindC (envOfC qual scope s.heap.objs.size f cd).kindOf (ps.zip us) fun _=>none) s1) :
    Inv (vX CX P w K mg base N qual scope f cd A outer s H E) [] (start N vs) H s1:=by
  have hpl:ps.length<=N.length:=by have:=congrArg List.length S.pre; rw [List.length_take] at this; omega
  obtain ⟨h1,tk,rfl,hk⟩:=x.done
  have noA:∀ b:Addr,b ∉ (vX CX P w K mg base N qual scope f cd A outer s H E).ex:=fun b z=>absurd (show b ∈ ([]:List Addr) from z) (by simp)
  refine ⟨⟨e0.mod,S.kind,rfl,rfl,Nat.le_refl _,fun y z c h1 h2=>?_,fun y hy=>?_,fun y c _ h=>?_,fun _=>hd,Around.frames_deeper e0.frames,.inr ⟨rfl,rfl⟩,fun b z=>absurd z (noA b),e0.bs,e0.bsz,fun b _ _=>noA b,fun b z=>absurd z (noA b),e0.funs,e0.frf⟩,
    rfl,e0.bare,Un.kept hk,⟨_,x.toInCall.ns,fun i y v h1 h2 h3=>?_⟩,fun y c h=>⟨_,x.cell y c h⟩,e0.hok.fresh (Nat.le_refl _),fun y c h=>?_,fun p hp=>absurd (show p ∈ ([]:List (Addr × Obj)) from hp) (by simp),e0.hok.kept hk,?_⟩
  · exact name_of_addr x.apart (PySem.mem_of_lookup h1) (PySem.mem_of_lookup h2)
  · have hy:scope.names.lookup y=some .cell∨scope.names.lookup y=some .free:=hy
    rcases hy with hy | hy
    · exact jbm hy
    · exact absurd rfl (S.nofree _ (PySem.mem_of_lookup hy))
  · exact Nat.le_of_lt (x.above y c (PySem.mem_of_lookup h))
  · have hi:i < vs.length:=by
      unfold start at h2
      by_cases hi:i < vs.length
      · exact hi
      · rw [List.getElem?_append_right (by simpa using hi)] at h2
        rw [List.getElem?_replicate] at h2
        split at h2 <;> cases h2
    have ha:vs[i]? = some v:=by
      unfold start at h2
      rw [List.getElem?_append_left (by simpa using hi),List.getElem?_map] at h2
      cases e:vs[i]? with
      | none=>rw [e] at h2; cases h2
      | some a=>rw [e] at h2; cases h2; rfl
    obtain ⟨u,hu,rv⟩:=r.get ha
    have hp:ps[i]? = some y:=by
      rw [<- S.pre,List.getElem?_take_of_lt (by omega)]; exact h1
    have ndP:ps.Nodup:=by rw [<- S.pre]; exact S.nd.sublist (List.take_sublist _ _)
    refine ⟨u,rv,?_⟩
    rcases S.par y (List.mem_of_getElem? hp) with k | k
    · exact .inl ⟨k,Uk ndP hp hu k⟩
    · obtain ⟨c,e⟩:=jbm (n:=s.heap.objs.size + 1) k
      refine .inr ⟨.inl k,c,e,?_⟩
      have q:=x.cell y c e
      rw [Um ndP hp hu (by show scope.names.lookup y≠_; rw [k]; decide)] at q
      exact q
  · exact e0.hok.fresh (Nat.le_of_lt (x.above y c (PySem.mem_of_lookup h)))
  · unfold start
    show _=N.length
    rw [List.length_append,List.length_map,List.length_replicate]
    omega

theorem jja {CX:CXT} {P:Program} {w:World} {K:PySem.W.Frag} {mg:Str->Option Value} {base:Heap} {k:Nat} {f:Addr} {name qual:Str} {params:Arguments} {body:List Stmt} {scope:Scope} {dV kV doc pm cdv ct oc:Value} {an od:Option Addr}
    {osl:Array (Option Value)} {N ps:List Str} {sp:Sp} (lk:K.lookup f=some ⟨oc,od,.func (PySem.W.fnOf name qual params body scope dV kV doc pm an cdv ct),osl⟩) (hcd:PySem.W.codeIn K cdv qual=true) (S:FnScope N ps scope)
    (len:∀ vs H Q E,sp vs H Q E->vs.length=ps.length)
    (hbody:∀ (A:Around) (outer:List Env) (s:Shared) (H:Hp) (vs:List V) (Q:VK) (E:XK),Room k (A.deeper (envOfC qual scope s.heap.objs.size f cdv))->sp vs H Q E ->
      ∃ t,PSs (vX CX P w K mg base N qual scope f cdv A outer s H E) body t∧t { nx:=fun _ H'=>Q .non H',rt:=Q } (start N vs) H) :
    FnOk P w K mg base CX (k + 1) f (PySem.W.fnOf name qual params body scope dV kV doc pm an cdv ct) ps sp:=by
  refine ⟨len,fun A outer s H args us vs Q E hr e0 hb r hsp=>?_⟩
  have hl:=len _ _ _ _ hsp
  have KX:K.In s.heap:=e0.mod.kin.keeps fun b o e=>(e0.bs b o e).1
  have lim:s.heap.NoLimit:=e0.mod.nolimit.keeps fun b o e=>(e0.bs b o e).1
  have hkind:∀ y ∈ ps.zip us,scope.names.lookup y.1=some .local∨(scope.names.lookup y.1=some .cell∧((cellsFrom (s.heap.objs.size + 1) scope.names []).lookup y.1).isSome=true):=fun ⟨n,v⟩ hy=>by
    rcases S.par n (List.of_mem_zip hy).1 with q | q
    · exact .inl q
    · exact .inr ⟨q,PySem.W.cellsFrom_some _ _ _ (.inl q)⟩
  refine codeAny_call_function hr.depth (KX _ _ lk) rfl S.co S.gen rfl (PySem.W.codeRec_of KX hcd) (hb _ _ _ _ ?_)
  refine wpAny_newFunctionEnv_cells S.kind hkind fun env he s1 x=>?_
  subst he
  refine ⟨lim.keeps x.toInCall.keep,codeAny_func ?_⟩
  obtain ⟨t,ht,hq⟩:=hbody A outer s H vs Q E (hr.deeper _) hsp
  have I:Inv (vX CX P w K mg base N qual scope f cdv A outer s H E) [] (start N vs) H s1:=jdT S hr.hd e0 hl r x
  refine wpAny_mono (ht [] s1 (start N vs) H _ I hq) (fun fl s' hs=>?_) fun e s' hs=>hs
  have fin:∀ {σ':St} {H':Hp} {v:V} {u:Value},Inv (vX CX P w K mg base N qual scope f cdv A outer s H E) [] σ' H' s'->yl v u->Q v H'->CE outer P w H s Q u s' :=
    fun {σ' H' v u} J rv q=>⟨v,H',J.os,J.bare,J.base,J.hok,rv,q⟩
  cases fl with
  | ret u =>
    obtain ⟨v,σ',H',J,rv,q⟩:=hs
    exact fin J rv q
  | next =>
    obtain ⟨σ',H',J,q⟩:=hs
    exact fin (v:=V.non) (u:=Value.none) J rfl q
  | brk =>
    obtain ⟨_,_,_,q⟩:=hs
    exact False.elim q
  | cont =>
    obtain ⟨_,_,_,q⟩:=hs
    exact False.elim q
end L2

namespace L2
open PySem PySem.Spec PyProof.Rows
section
variable {X:Cx} {x:Str} {p pos:Pos} {e:Expr} {es:List Expr} {t:TA} {id T:String} {r:List V->Hp->VK->Prop}

def tCB (r:List V->Hp->VK->Prop) (t:TA):TE:=fun σ H Q=>t σ H fun vs H1=>r vs H1 Q
theorem jfv (hc:yx X (.builtin id) r) (hg:Gl X x) (hm:X.mg x=none) (hv:bootBuiltins x=some (.builtin id)) (ha:PA X (e :: es) t) (hn:x≠"__name__":=by decide) (hdb:(x == ("__debug__":Str))=false:=by decide)
    (he:starEach (e :: es) X.env=(false,eval e X.env) :: starEach es X.env:=by rfl) (hpl:(backTo pos (starEach es X.env)).any (·.1)=false:=by rfl):PE X (.Call (.Name x p) (e :: es) [] pos) (tCB r t):=by
  intro pins s σ H Q I h
  refine wpAny_Call_Name_kw (JR I hg hm hv ?_ hn hdb)
  exact PyProof.Rows.callWith_builtin1 (thn (ha pos pins s σ H _ I h) fun us s1 ⟨vs,H1,I1,r1,q1⟩=>hc pins s1 σ H1 vs us Q I1 r1 q1) he hpl
theorem jdH (hc:yx X (.type T) r) (hg:Gl X x) (hm:X.mg x=none) (hv:bootBuiltins x=some (.type T)) (ha:PA X (e :: es) t) (hn:x≠"__name__":=by decide) (hdb:(x == ("__debug__":Str))=false:=by decide)
    (he:starEach (e :: es) X.env=(false,eval e X.env) :: starEach es X.env:=by rfl) (hpl:(backTo pos (starEach es X.env)).any (·.1)=false:=by rfl):PE X (.Call (.Name x p) (e :: es) [] pos) (tCB r t):=by
  intro pins s σ H Q I h
  refine wpAny_Call_Name_kw (JR I hg hm hv ?_ hn hdb)
  exact PyProof.Rows.callWith_type1 (thn (ha pos pins s σ H _ I h) fun us s1 ⟨vs,H1,I1,r1,q1⟩=>hc pins s1 σ H1 vs us Q I1 r1 q1) he hpl
end
end L2

namespace HT
open PySem PyProof.Rows

section
open PySem.SeqAt
open PySem.AutoSeq1 (wpAny_loadPart')
open PySem.MeetsSeq PySem.MeetsSeq2 PySem.MeetsSeq3

end

section
variable {prog:Program} {w:World} {A:Around} {E:Value->Shared->Prop} {s:Shared}

theorem cat_tup {t b:Addr} {vs ws:List Value} {Q:Value->Shared->Prop} (ht:IsTup s.heap t vs.toArray) (hb:IsTup s.heap b ws.toArray) (hv:vs≠[])
    (h1:ws=[]->Q (.ref t) s) (h2:ws≠[]->Q (.ref s.heap.objs.size) { s with heap:=s.heap.push { cls:=.type "tuple",data:=.seq (vs ++ ws).toArray } })
    (hsz:vs.length + ws.length<=sizeLine):wpAny (model prog w) A (binaryOp .Add (.ref t) (.ref b)) Q E s:=by
  obtain ⟨⟨cls,dd,data,sl⟩,ho,hc,n,hd⟩:=id ht
  obtain ⟨⟨cls2,dd2,data2,sl2⟩,ho2,hc2,n2,hd2⟩:=id hb
  simp only at hc hd hc2 hd2
  subst hc hd hc2 hd2
  have e:vs.toArray ++ ws.toArray=(vs ++ ws).toArray:=by simp
  by_cases hw:ws=[]
  · exact concat_meets ⟨_,ho,rfl⟩ ⟨_,ho2,rfl⟩ noFill_tuple_add seq_tuple_add PySem.F.slot_tuple_add PySem.F.entry_tuple_add (PySem.F.args_tuple_add_2 _ _)
      (tuple_addW1 t b vs.toArray ws.toArray n n2 dd dd2 sl sl2 (by simpa using hv) (by simp [hw])) ⟨ho,ho2,h1 hw⟩
  · refine concat_meets ⟨_,ho,rfl⟩ ⟨_,ho2,rfl⟩ noFill_tuple_add seq_tuple_add PySem.F.slot_tuple_add PySem.F.entry_tuple_add (PySem.F.args_tuple_add_2 _ _)
      (tuple_addW2 t b vs.toArray ws.toArray n n2 dd dd2 sl sl2 (by simpa using hv) (by simpa using hw) (by rw [List.size_toArray,List.size_toArray]; exact hsz)) ⟨ho,ho2,?_⟩
    rw [e]
    exact h2 hw

def sIx (n d:Nat):Option Int->Nat
  | none=>d
  | some v=>if v < 0 then (v + (n:Int)).toNat else min v.toNat n
theorem sIx_le (n d:Nat) (hd:d<=n) (o:Option Int):sIx n d o<=n:=by
  cases o with
  | none=>exact hd
  | some v =>
    show (if v < 0 then (v + (n:Int)).toNat else min v.toNat n)<=n
    by_cases hv:v < 0
    · rw [if_pos hv]; omega
    · rw [if_neg hv]; exact Nat.min_le_right _ _
theorem jde (v:Int) (n d:Nat):(if v < 0 then max (v + (n:Int)) 0 else min v (n:Int))=((sIx n d (some v):Nat):Int):=by
  show (if v < 0 then max (v + (n:Int)) 0 else min v (n:Int))=(((if v < 0 then (v + (n:Int)).toNat else min v.toNat n):Nat):Int)
  by_cases hv:v < 0
  · simp only [if_pos hv]; omega
  · simp only [if_neg hv]; omega
theorem jcs (lo hi:Option Int) (n:Nat):Builtin.Slice.sliceAdjust lo hi 1 (n:Int)=(((sIx n 0 lo:Nat):Int),((sIx n n hi:Nat):Int)):=by
  have h1:¬ ((1:Int) < 0):=by omega
  unfold Builtin.Slice.sliceAdjust
  simp only [h1,if_false]
  refine Prod.ext ?_ ?_
  · cases lo with
    | none=>rfl
    | some v=>exact jde v n 0
  · cases hi with
    | none=>rfl
    | some v=>exact jde v n n
theorem jbQ (i j:Nat):Builtin.Slice.slicePlaces (i:Int) (j:Int) 1=j - i:=by
  unfold Builtin.Slice.slicePlaces
  have h1:(1:Int) > 0:=by omega
  simp only [h1,if_true,Int.ediv_one]
  split <;> omega
theorem YD {v:Value} {o:Option Int} {Q:Option Int->Shared->Prop} (p:IsPart v o) (h:Q o s):wpAny (model prog w) A (Builtin.Slice.slicePartIndex v) Q E s:=by
  cases p with
  | none=>exact slicePart_none h
  | int i t=>exact slicePart_int h
theorem vA {sl:Addr} {vl vu:Value} {lo hi:Option Int} {n:Nat} {Q:Int × Int × Nat->Shared->Prop} (hs:s.heap.IsSliceOf sl vl vu .none) (pl:IsPart vl lo) (pu:IsPart vu hi)
    (h:Q (((sIx n 0 lo:Nat):Int),1,sIx n n hi - sIx n 0 lo) s):wpAny (model prog w) A (Builtin.Slice.sliceApplied (.ref sl) (pure (n:Int))) Q E s:=by
  obtain ⟨os,hos,hcs,hds⟩:=id hs
  unfold Builtin.Slice.sliceApplied Builtin.Slice.sliceFields
  refine wpAny_bind (wpAny_bind (wpAny_field hos hds (x:=vl) rfl (wpAny_bind (wpAny_field hos hds (x:=vu) rfl (wpAny_bind (wpAny_field hos hds (x:=.none) rfl (wpAny_pure ?_)))))))
  refine wpAny_bind (slicePart_none ?_)
  show wpAny _ _ (if ((1:Int) == 0)=true then _ else _) _ _ s
  rw [if_neg (by decide)]
  refine wpAny_bind (YD pl (wpAny_bind (YD pu (wpAny_bind (wpAny_pure ?_)))))
  show wpAny _ _ (match Builtin.Slice.sliceAdjust lo hi 1 (n:Int) with | (lo,hi)=>pure (lo,(1:Int),Builtin.Slice.slicePlaces lo hi 1)) _ _ s
  rw [jcs lo hi n]
  show wpAny _ _ (pure (((sIx n 0 lo:Nat):Int),(1:Int),Builtin.Slice.slicePlaces ((sIx n 0 lo:Nat):Int) ((sIx n n hi:Nat):Int) 1)) _ _ s
  rw [jbQ]
  exact wpAny_pure h
theorem jfj (xs:Array Value) (i k:Nat):((List.range k).filterMap fun (m:Nat)=>xs[((i:Int) + (m:Int) * 1).toNat]?).toArray=((xs.toList.drop i).take k).toArray:=by
  have e:(fun (m:Nat)=>xs[((i:Int) + (m:Int) * 1).toNat]?)=fun m=>xs[i + m]?:=by
    funext m
    have:((i:Int) + (m:Int) * 1).toNat=i + m:=by omega
    rw [this]
  rw [e]
  have:=pick_run xs i k
  rw [List.filterMap_map] at this
  have e2:((fun x=>xs[x]?) ∘ fun x=>i + x)=fun m=>xs[i + m]?:=rfl
  rw [e2] at this
  rw [this]

theorem getItem_tuple_cut {t sl:Addr} {items:Array Value} {vl vu:Value} {lo hi:Option Int} {Q:Value->Shared->Prop} (ht:IsTup s.heap t items) (hs:s.heap.IsSliceOf sl vl vu .none) (pl:IsPart vl lo) (pu:IsPart vu hi)
    (hw:¬ (sIx items.size 0 lo=0∧sIx items.size items.size hi=items.size))
    (h:Q (.ref s.heap.objs.size) { s with heap:=s.heap.push { cls:=.type "tuple",data:=.seq ((items.toList.drop (sIx items.size 0 lo)).take (sIx items.size items.size hi - sIx items.size 0 lo)).toArray } })
    (hsz:items.size<=sizeLine):wpAny (model prog w) A (getItem (.ref t) (.ref sl)) Q E s:=by
  have htake:sizeOk (.seq ((items.toList.drop (sIx items.size 0 lo)).take (sIx items.size items.size hi - sIx items.size 0 lo)).toArray):=by
    show ((items.toList.drop (sIx items.size 0 lo)).take (sIx items.size items.size hi - sIx items.size 0 lo)).toArray.size<=sizeLine
    rw [List.size_toArray,List.length_take,List.length_drop,Array.length_toList]
    omega
  have hj:sIx items.size items.size hi<=items.size:=sIx_le _ _ (Nat.le_refl _) hi
  obtain ⟨os,hos,hcs,hds⟩:=id hs
  have hTs:s.TypeIs (.ref sl) "slice":=⟨os,hos,hcs⟩
  unfold getItem
  try with_reducible refine wpAny_holding ?_
  first | refine wpAny_bind (wpAny_pure ?_) | skip
  refine wpAny_bind (wpAny_sequenceKey ht.typeIs (by decide) ?_)
  refine wpAny_bind (wpAny_callSpecial?_slot (name:=Str.ofString "__getitem__") ht.typeIs PyProof.Rows.slot_tuple_getitem
    (wpAny_call_entry PyProof.Rows.slot_tuple_getitem ht.typeIs entry_tuple_getitem ?_ (args_tuple_getitem _ _)))
  show wpAny _ _ (Builtin.Tuple.tupleItemsOf (.ref t) >>= _) _ _ s
  refine wpAny_bind (tupleItemsOf_ ht ?_)
  refine wpAny_bind (wpAny_typeOf hTs ?_)
  rw [if_pos (by decide)]
  refine wpAny_bind (vA hs pl pu ?_)
  have hno:¬ ((((sIx items.size 0 lo:Nat):Int) == 0 && (1:Int) == 1 && (sIx items.size items.size hi - sIx items.size 0 lo) == items.size)=true):=by
    intro q
    rw [Bool.and_eq_true,Bool.and_eq_true] at q
    have q1:((sIx items.size 0 lo:Nat):Int)=0:=eq_of_beq q.1.1
    have q2:sIx items.size items.size hi - sIx items.size 0 lo=items.size:=eq_of_beq q.2
    exact hw ⟨by omega,by omega⟩
  show wpAny _ _ (if (((sIx items.size 0 lo:Nat):Int) == 0 && (1:Int) == 1 && (sIx items.size items.size hi - sIx items.size 0 lo) == items.size)=true then _ else _) _ _ s
  rw [if_neg hno,jfj]
  first
    | exact wpAny_bind (m:=Builtin.Tuple.tupleExact _) (wpAny_newObj_type (wpAny_pure ⟨_,rfl,wpAny_pure h⟩) htake)
    | exact wpAny_bind (m:=Builtin.Tuple.tupleExact _) (wpAny_newObj_type (wpAny_bind (wpAny_pure (wpAny_pure ⟨_,rfl,wpAny_pure h⟩))) htake)
    | exact wpAny_bind (wpAny_bind (m:=Builtin.Tuple.tupleExact _) (wpAny_newObj_type (wpAny_pure (wpAny_pure ⟨_,rfl,wpAny_pure h⟩)) htake))
    | exact wpAny_bind (wpAny_bind (m:=Builtin.Tuple.tupleExact _) (wpAny_newObj_type (wpAny_pure ⟨_,rfl,wpAny_pure h⟩) htake))
end
end HT

namespace L2
open PySem PySem.Spec PyProof.Rows

abbrev TO:=St->Hp->(Option Int->Hp->Prop)->Prop
def PO (X:Cx) (e:Option Expr) (t:TO):Prop :=
  ∀ (pins:List (Addr × Obj)) (s:Shared) (σ:St) (H:Hp) (Q:Option Int->Hp->Prop),Inv X pins σ H s->t σ H Q ->
    wpAny (model X.prog X.w) X.A (evalPart e X.env) (fun u s'=>∃ o H',Inv X pins σ H' s'∧IsPart u o∧Q o H') X.xe s
def jhg:TO:=fun _ H Q=>Q none H
def tPart (t:TE):TO:=fun σ H Q=>t σ H fun x H1=>∃ i,x = .int i∧Q (some i) H1

theorem jcd {ns:List Int}:∀ {us:List Value},yj (ns.map V.int) us->IntsAre us ns:=by
  induction ns with
  | nil=>intro us r; rw [List.map_nil] at r; cases r; exact .nil
  | cons n ns ih =>
    intro us r
    rw [List.map_cons] at r
    cases r with
    | cons r1 r2 =>
      obtain ⟨t,e⟩:=r1
      subst e
      exact .cons n t (ih r2)

section
variable {X:Cx} {e:Expr} {te:TE} {lo hi:Option Expr} {tl th:TO} {pos p2:Pos}

theorem jhJ:PO X none jhg:=by
  intro pins s σ H Q I h
  rw [evalPart_none]
  exact wpAny_pure ⟨none,H,I,.none,h⟩
theorem jhI (h:PE X e te):PO X (some e) (tPart te):=by
  intro pins s σ H Q I hw
  rw [evalPart_some]
  refine thn (h pins s σ H _ I hw) fun u s1 hQQ=>?_
  obtain ⟨x,H1,I1,r1,q1⟩:=hQQ
  obtain ⟨i,rfl,q⟩:=q1
  obtain ⟨t,rfl⟩:=r1
  exact ⟨some i,H1,I1,.int i t,q⟩

def SlR (X:Cx) (r:V->Option Int->Option Int->Hp->VK->Prop):Prop :=
  ∀ (pins:List (Addr × Obj)) (s:Shared) (σ:St) (H:Hp) (x:V) (v vl vu:Value) (lo hi:Option Int) (sl:Addr) (Q:VK),Inv X pins σ H s->yl x v->s.heap.IsSliceOf sl vl vu .none->IsPart vl lo->IsPart vu hi->r x lo hi H Q ->
    ∃ T id,typeLookup (.type T) "__getitem__" = pure (some (.builtin id))∧s.TypeIs v T∧wpAny (model X.prog X.w) X.A (getItem v (.ref sl)) (EP X pins σ Q) X.xe s
theorem SlR.or {r r':V->Option Int->Option Int->Hp->VK->Prop} (h:SlR X r) (h':SlR X r'):SlR X (fun x lo hi H Q=>r x lo hi H Q∨r' x lo hi H Q):=by
  intro pins s σ H x v vl vu lo hi sl Q I rx hs pl pu q
  rcases q with q | q
  · exact h pins s σ H x v vl vu lo hi sl Q I rx hs pl pu q
  · exact h' pins s σ H x v vl vu lo hi sl Q I rx hs pl pu q
def tSl (r:V->Option Int->Option Int->Hp->VK->Prop) (te:TE) (tl th:TO):TE:=fun σ H Q=>te σ H fun x H1=>tl σ H1 fun l H2=>th σ H2 fun u H3=>r x l u H3 Q
theorem jfn {r:V->Option Int->Option Int->Hp->VK->Prop} (hr:SlR X r) (he:PE X e te) (hl:PO X lo tl) (hu:PO X hi th):PE X (.Subscript e (.Slice lo hi none p2) pos) (tSl r te tl th):=by
  intro pins s σ H Q I h
  refine Subscript_ (thn (he pins s σ H _ I h) fun v s1 hQQ=>?_)
  obtain ⟨x,H1,I1,r1,q1⟩:=hQQ
  refine wpAny_Slice (thn (hl pins s1 σ H1 _ I1 q1) fun vl s2 ⟨l,H2,I2,pl,q2⟩=>thn (hu pins s2 σ H2 _ I2 q2) fun vu s3 hQQ=>?_)
  obtain ⟨u,H3,I3,pu,q3⟩:=hQQ
  rw [evalPart_none]
  refine wpAny_pure ?_
  have I4:Inv X pins σ H3 { s3 with heap:=s3.heap.push { cls:=.type "slice",data:=.fields #[vl,vu,.none] } }:=I3.kept (t':=s3.toks) fun b ob q=>Heap.get?_push_of_some _ q
  obtain ⟨T,id,hT,ht,hg⟩:=hr pins { s3 with heap:=s3.heap.push { cls:=.type "slice",data:=.fields #[vl,vu,.none] } } σ H3 x v vl vu l u s3.heap.objs.size Q I4 r1 (Heap.IsSliceOf.new ..) pl pu q3
  show wpAny (model X.prog X.w) X.A (subscriptTail e (.Slice lo hi none p2) v (.ref s3.heap.objs.size)) (EP X pins σ Q) X.xe { s3 with heap:=s3.heap.push { cls:=.type "slice",data:=.fields #[vl,vu,.none] } }
  exact tail_any (ops:=[.ref s3.heap.objs.size,v]) ht hT hg (by with_unfolding_all rfl)

def jbl (xs:List V) (lo hi:Option Int):List V:=(xs.drop (HT.sIx xs.length 0 lo)).take (HT.sIx xs.length xs.length hi - HT.sIx xs.length 0 lo)
theorem Yi (xs:List V) (lo hi:Option Int):(jbl xs lo hi).length<=xs.length:=by
  unfold jbl
  rw [List.length_take,List.length_drop]
  omega
def rSlT (K:PySem.W.Frag):V->Option Int->Option Int->Hp->VK->Prop:=fun x lo hi H Q=>∃ a xs,x = .ref a∧SqT K H a xs ∧
  ¬ (HT.sIx xs.length 0 lo=0∧HT.sIx xs.length xs.length hi=xs.length)∧∀ p,H p=none->Q (.ref p) (upd H p (.tup (jbl xs lo hi)))
theorem sl_tup:SlR X (rSlT X.K):=by
  intro pins s σ H x v vl vu lo hi sl Q I rx hs pl pu h
  obtain ⟨a,xs,rfl,hx,hw,q⟩:=h
  cases rx
  obtain ⟨its,r,ht,hz⟩:=I.tuple hx
  have hlen:its.toArray.size=xs.length:=by rw [List.size_toArray]; exact r.length.symm
  refine ⟨"tuple",_,PyProof.Rows.slot_tuple_getitem.lookup,ht.typeIs,?_⟩
  refine HT.getItem_tuple_cut ht hs pl pu (by rw [hlen]; exact hw) ?_ (by rw [hlen]; exact hz)
  rw [hlen]
  refine ⟨.ref s.heap.objs.size,_,I.laid (t':=s.toks) (o:=.tup (jbl xs lo hi)) (fun b ob q=>Heap.get?_push_of_some _ q) (Nat.le_refl _) ?_,rfl,q _ (I.hok.fresh (Nat.le_refl _))⟩
  exact ⟨Nat.le_trans (Yi xs lo hi) hz,_,(r.drop (HT.sIx xs.length 0 lo)).take (HT.sIx xs.length xs.length hi - HT.sIx xs.length 0 lo),IsTup.new _ _⟩

def rCatT (K:PySem.W.Frag):R2:=fun x y H Q=>∃ a b xs ys,x = .ref a∧y = .ref b∧SqT K H a xs∧SqT K H b ys∧xs≠[]∧xs.length + ys.length<=sizeLine ∧
  (ys=[]->Q (.ref a) H)∧(ys≠[]->∀ p,H p=none->Q (.ref p) (upd H p (.tup (xs ++ ys))))
theorem yj.nil_iff {xs:List V} {us:List Value} (r:yj xs us):us=[]↔xs=[]:=by
  cases r with
  | nil=>simp
  | cons _ _=>simp
theorem jhV:OpR X (binaryOp .Add) (rCatT X.K):=by
  intro pins s σ H x y v u Q I rx ry h
  obtain ⟨a,b,xs,ys,rfl,rfl,ha,hb,hx,hz,q1,q2⟩:=h
  cases rx
  cases ry
  obtain ⟨its,r1,p1,_⟩:=I.tuple ha
  obtain ⟨its2,r2,p2,_⟩:=I.tuple hb
  refine HT.cat_tup p1 p2 (fun z=>hx (r1.nil_iff.mp z)) (fun z=>⟨.ref a,H,I,rfl,q1 (r2.nil_iff.mp z)⟩) (fun z=>?_) (by rw [<- r1.length,<- r2.length]; exact hz)
  refine ⟨.ref s.heap.objs.size,_,I.laid (t':=s.toks) (o:=.tup (xs ++ ys)) (fun b ob q=>Heap.get?_push_of_some _ q) (Nat.le_refl _) ?_,rfl,q2 (fun w=>z (r2.nil_iff.mpr w)) _ (I.hok.fresh (Nat.le_refl _))⟩
  exact ⟨by rw [List.length_append]; exact hz,_,r1.append r2,IsTup.new _ _⟩
end
end L2

namespace L2
open PySem PySem.Spec PyProof.Rows

def ixN (n:Nat) (i:Int):Option Nat:=if 0<=i then (if i < n then some i.toNat else none) else if -(n:Int)<=i then some (i + n).toNat else none
def atI {α:Type} (xs:List α) (i:Int):Option α:=(ixN xs.length i).bind fun j=>xs[j]?
theorem jcT {n:Nat} {i:Int} {j:Nat} (h:ixN n i=some j):seqIndex? i n=some j∧j < n∧-(n:Int)<=i∧i < n:=by
  unfold ixN at h
  by_cases h0:0<=i
  · rw [if_pos h0] at h
    by_cases h1:i < n
    · rw [if_pos h1] at h
      have e:i.toNat=j:=Option.some.inj h
      exact ⟨by rw [seqIndex_of h0 h1,e],by omega,by omega,h1⟩
    · rw [if_neg h1] at h; cases h
  · rw [if_neg h0] at h
    by_cases h1:-(n:Int)<=i
    · rw [if_pos h1] at h
      have e:(i + n).toNat=j:=Option.some.inj h
      exact ⟨by rw [seqIndex_neg (by omega) h1,e],by omega,h1,by omega⟩
    · rw [if_neg h1] at h; cases h
theorem jdj {α:Type} {xs:List α} {i:Int} {v:α} (h:atI xs i=some v):∃ j,seqIndex? i xs.length=some j∧xs[j]? = some v∧j < xs.length∧-(xs.length:Int)<=i∧i < xs.length:=by
  unfold atI at h
  cases e:ixN xs.length i with
  | none=>rw [e] at h; cases h
  | some j =>
    rw [e] at h
    obtain ⟨h1,h2,h3,h4⟩:=jcT e
    exact ⟨j,h1,h,h2,h3,h4⟩
def jdl (b:Expr):Prop:=∀ o i,subscripted b false o i=operate [o,i] (getItem o i)
def IxR (X:Cx) (r:R2):Prop :=
  ∀ (value slice:Expr) (pins:List (Addr × Obj)) (s:Shared) (σ:St) (H:Hp) (x y:V) (v u:Value) (Q:VK),Inv X pins σ H s->yl x v->yl y u->r x y H Q ->
    subscripted slice false v u=operate [v,u] (getItem v u)->wpAny (model X.prog X.w) X.A (subscriptTail value slice v u) (EP X pins σ Q) X.xe s
def MtR (X:Cx) (id:String) (r:V->List V->Hp->VK->Prop):Prop :=
  ∀ (pins:List (Addr × Obj)) (s:Shared) (σ:St) (H:Hp) (x:V) (xs:List V) (v:Value) (us:List Value) (Q:VK),Inv X pins σ H s->yl x v->yj xs us->r x xs H Q ->
    wpAny (model X.prog X.w) X.A (call (.builtin id) (v :: us)) (EP X pins σ Q) X.xe s
section
variable {X:Cx} {a b:Expr} {ta tb:TE} {pos:Pos}
theorem IxR.or {r r':R2} (h:IxR X r) (h':IxR X r'):IxR X (fun x y H Q=>r x y H Q∨r' x y H Q):=by
  intro value slice pins s σ H x y v u Q I rx ry q hs
  rcases q with q | q
  · exact h value slice pins s σ H x y v u Q I rx ry q hs
  · exact h' value slice pins s σ H x y v u Q I rx ry q hs
theorem pe_ix {r:R2} (hr:IxR X r) (ha:PE X a ta) (hb:PE X b tb) (hs:jdl b):PE X (.Subscript a b pos) (tOp r ta tb):=by
  intro pins s σ H Q I h
  exact Subscript_ (binT ha hb I h fun v u s2 x y H2 I2 rx ry q=>hr a b pins s2 σ H2 x y v u Q I2 rx ry q (hs _ _))

def rIxL (K:PySem.W.Frag):R2:=fun x y H Q=>∃ p xs i v,x = .ref p∧y = .int i∧SqL K H p xs∧atI xs i=some v∧Q v H
def rIxT (K:PySem.W.Frag):R2:=fun x y H Q=>∃ p xs i v,x = .ref p∧y = .int i∧SqT K H p xs∧atI xs i=some v∧Q v H
theorem jil:IxR X (rIxL X.K):=by
  intro value slice pins s σ H x y v u Q I rx ry h hs
  obtain ⟨p,xs,i,z,rfl,rfl,hq,he,q⟩:=h
  cases rx
  obtain ⟨t,rfl⟩:=ry
  obtain ⟨its,r,pl,hz⟩:=I.list hq
  obtain ⟨j,h1,h2,h3,h4,h5⟩:=jdj he
  obtain ⟨w,ew,rw'⟩:=r.get h2
  have hl:=r.length
  have hn:=Xa
  have fin:EP X pins σ Q w s:=⟨z,H,I,rw',q⟩
  by_cases h0:0<=i
  · have hj:i.toNat=j:=by
      rw [seqIndex_of h0 h5] at h1
      exact Option.some.inj h1
    exact item_listR pl.isList h0 (by omega) (by rw [hj]; simpa using ew) fin hs
  · have hj:(i + (its.toArray.size:Int)).toNat=j:=by
      rw [seqIndex_neg (by omega) h4] at h1
      rw [List.size_toArray,<- hl]
      exact Option.some.inj h1
    exact subscriptTail_builtinR (x:=w) pl.isList.typeIs slot_list_getitem.lookup
      (wpAny_getItem_list_neg (Q:=fun r s'=>r=w∧EP X pins σ Q r s') pl.isList (by omega) (by rw [List.size_toArray] <;> omega) (by omega) (by rw [hj]; simpa using ew) ⟨rfl,fin⟩) hs
theorem ix_tup:IxR X (rIxT X.K):=by
  intro value slice pins s σ H x y v u Q I rx ry h hs
  obtain ⟨p,xs,i,z,rfl,rfl,hq,he,q⟩:=h
  cases rx
  obtain ⟨t,rfl⟩:=ry
  obtain ⟨its,r,pl,hz⟩:=I.tuple hq
  obtain ⟨j,h1,h2,h3,h4,h5⟩:=jdj he
  obtain ⟨w,ew,rw'⟩:=r.get h2
  have hl:=r.length
  have hn:=Xa
  have fin:EP X pins σ Q w s:=⟨z,H,I,rw',q⟩
  exact subscriptTail_builtinR (x:=w) pl.typeIs slot_tuple_getitem.lookup
    (getItem_tuple (j:=j) (Q:=fun r s'=>r=w∧EP X pins σ Q r s') pl (by omega) (by omega) (by rw [List.size_toArray,<- hl]; exact h1) (by simpa using ew) ⟨rfl,fin⟩) hs
theorem jbY (its:List Value) (n j:Nat) (u:Value):Obj.mapSeq (·.setIfInBounds j u) { cls:=.type "list",data:=.seq its.toArray n }={ cls:=.type "list",data:=.seq (its.set j u).toArray n }:=by
  simp [Obj.mapSeq]
theorem Inv.lst {pins:List (Addr × Obj)} {σ:St} {H:Hp} {s:Shared} {p:Addr} {xs:List V} (I:Inv X pins σ H s) (h:H p=some (.lst xs)) :
    ∃ (its:List Value) (n:Nat),yj xs its∧s.heap.get? p=some { cls:=.type "list",data:=.seq its.toArray n }∧xs.length<=sizeLine:=by
  obtain ⟨z,its,n,r,e⟩:=I.hok p _ h
  exact ⟨its,n,r,e,z⟩
theorem Inv.lstUpd {pins:List (Addr × Obj)} {σ:St} {H:Hp} {s:Shared} {p:Addr} {xs ys:List V} {its its':List Value} {n n':Nat} {f:Obj->Obj} (I:Inv X pins σ H s) (h:H p=some (.lst xs))
    (ho:s.heap.get? p=some { cls:=.type "list",data:=.seq its.toArray n }) (hf:f { cls:=.type "list",data:=.seq its.toArray n }={ cls:=.type "list",data:=.seq its'.toArray n' }) (r:yj ys its') (hz:ys.length<=sizeLine) (t:Nat) :
    Inv X pins σ (upd H p (.lst ys)) { s with heap:=s.heap.update p f,toks:=t }:=by
  have e:(s.heap.update p f).get? p=some { cls:=.type "list",data:=.seq its'.toArray n' }:=by
    rw [Heap.get?_update_self f ho (by rw [hf] <;> rfl),hf]
  refine I.write (x:=p) (e:=p) (by rw [h]; trivial) (.inl rfl) (fun b u hb q=>(Heap.get?_update_other _ _ (Ne.symm hb)).trans q) ⟨_,e⟩ ?_
  exact ⟨hz,its',n',r,e⟩
def rSetL:V->V->V->Hp->(Hp->Prop)->Prop:=fun o i v H Q=>∃ p xs k j,o = .ref p∧i = .int k∧H p=some (.lst xs)∧ixN xs.length k=some j∧Q (upd H p (.lst (xs.set j v)))
theorem jeC:PSet X rSetL:=by
  intro pins s σ H o i v ov iv u Q I ro ri rv h
  obtain ⟨p,xs,k,j,rfl,rfl,hp,hj,q⟩:=h
  cases ro
  obtain ⟨t,rfl⟩:=ri
  obtain ⟨its,n,r,ho,hz⟩:=I.lst hp
  obtain ⟨h1,h2,h3,h4⟩:=jcT hj
  have hl:=r.length
  have hn:=Xa
  have I':Inv X pins σ (upd H p (.lst (xs.set j v))) { s with heap:=s.heap.update p (Obj.mapSeq (·.setIfInBounds j u)) } :=
    I.lstUpd hp ho (jbY its n j u) (r.set rv j) (by rw [List.length_set]; exact hz) s.toks
  by_cases h0:0<=k
  · have hk:k.toNat=j:=by
      rw [seqIndex_of h0 h4] at h1
      exact Option.some.inj h1
    exact PySem.W.ki_setAt ho h0 (by omega) (by rw [List.size_toArray,<- hl]; exact h4) (by rw [hk]; exact ⟨_,I',q⟩)
  · have hk:(k + (its.toArray.size:Int)).toNat=j:=by
      rw [seqIndex_neg (by omega) h3] at h1
      rw [List.size_toArray,<- hl]
      exact Option.some.inj h1
    exact PySem.W.ki_setBack ho (by omega) (by rw [List.size_toArray,<- hl]; exact h3) (by omega) (by rw [hk]; exact ⟨_,I',q⟩)

theorem UG (lo hi:Option Int) (n:Nat):(sliceBounds lo hi none n).1=((HT.sIx n 0 lo:Nat):Int)∧(sliceBounds lo hi none n).2.1=((HT.sIx n n hi:Nat):Int)∧(sliceBounds lo hi none n).2.2=1:=by
  refine ⟨?_,?_,rfl⟩
  · cases lo with
    | none=>simp [sliceBounds,HT.sIx]
    | some i =>
      simp only [sliceBounds,HT.sIx,Option.getD_none,show (1:Int) > 0 by decide,if_true]
      by_cases h:i < 0
      · simp only [h,if_true] <;> omega
      · simp only [h,if_false] <;> omega
  · cases hi with
    | none=>simp [sliceBounds,HT.sIx]
    | some i =>
      simp only [sliceBounds,HT.sIx,Option.getD_none,show (1:Int) > 0 by decide,if_true]
      by_cases h:i < 0
      · simp only [h,if_true] <;> omega
      · simp only [h,if_false] <;> omega
theorem XG (its:List Value) (lo hi:Option Int):slicePick its.toArray lo hi none=((its.drop (HT.sIx its.length 0 lo)).take (HT.sIx its.length its.length hi - HT.sIx its.length 0 lo)).toArray:=by
  obtain ⟨h1,h2,h3⟩:=UG lo hi its.toArray.size
  unfold slicePick
  rw [h1,h2,h3]
  simp only [sliceRange_one,pick_run,List.size_toArray] <;> rfl
def rSlL (K:PySem.W.Frag):V->Option Int->Option Int->Hp->VK->Prop:=fun x lo hi H Q=>∃ a xs,x = .ref a∧SqL K H a xs∧∀ p,H p=none->Q (.ref p) (upd H p (.lst (jbl xs lo hi)))
theorem jhl:SlR X (rSlL X.K):=by
  intro pins s σ H x v vl vu lo hi sl Q I rx hs pl pu h
  obtain ⟨a,xs,rfl,hx,q⟩:=h
  cases rx
  obtain ⟨its,r,ht,hz⟩:=I.list hx
  have hlen:=r.length
  refine ⟨"list",_,slot_list_getitem.lookup,ht.isList.typeIs,?_⟩
  refine wpAny_getItem_list_slice ht.isList hs pl pu .none (by simp) ?_ (by rw [List.size_toArray] <;> omega)
  rw [XG,<- hlen]
  refine ⟨.ref s.heap.objs.size,_,I.laid (t':=s.toks) (o:=.lst (jbl xs lo hi)) (fun b ob q=>Heap.get?_push_of_some _ q) (Nat.le_refl _) ?_,rfl,q _ (I.hok.fresh (Nat.le_refl _))⟩
  exact ⟨Nat.le_trans (Yi xs lo hi) hz,_,0,(r.drop (HT.sIx xs.length 0 lo)).take (HT.sIx xs.length xs.length hi - HT.sIx xs.length 0 lo),Heap.get?_push_size _ rfl⟩

def Yh:V->Bool
  | .non=>true
  | .bl _=>true
  | .int _=>true
  | .str _=>true
  | _=>false
def eqV:V->V->Bool
  | .non,.non=>true
  | .bl a,.bl b=>a == b
  | .bl a,.int b=>(if a then 1 else 0) == b
  | .int a,.bl b=>a == (if b then 1 else 0)
  | .int a,.int b=>a == b
  | .str a,.str b=>a == b
  | _,_=>false
theorem eqAt_V {A:Around} {s:Shared} {y x:V} {u v:Value} (ry:yl y u) (rx:yl x v) (fy:Yh y=true) (fx:Yh x=true):SeqAt.EqAt A s u v (eqV y x):=by
  cases y with
  | non =>
    cases ry
    cases x with
    | non=>cases rx; exact SeqAt.EqAt.same _
    | bl b=>cases rx; exact SeqAt.EqAt.none_bool b
    | int b=>obtain ⟨t,rfl⟩:=rx; exact SeqAt.EqAt.none_int b t
    | str b=>obtain ⟨t,rfl⟩:=rx; exact SeqAt.EqAt.none_str b t
    | _=>exact absurd (show false=true from fx) Bool.false_ne_true
  | bl a =>
    cases ry
    cases x with
    | non=>cases rx; exact SeqAt.EqAt.bool_none a
    | bl b=>cases rx; exact SeqAt.EqAt.bool_bool a b
    | int b=>obtain ⟨t,rfl⟩:=rx; exact SeqAt.EqAt.bool_int a b t
    | str b=>obtain ⟨t,rfl⟩:=rx; exact SeqAt.EqAt.bool_str a b t
    | _=>exact absurd (show false=true from fx) Bool.false_ne_true
  | int a =>
    obtain ⟨t',rfl⟩:=ry
    cases x with
    | non=>cases rx; exact SeqAt.EqAt.int_none a t'
    | bl b=>cases rx; exact SeqAt.EqAt.int_bool a t' b
    | int b=>obtain ⟨t,rfl⟩:=rx; exact SeqAt.EqAt.int_int a t' b t
    | str b=>obtain ⟨t,rfl⟩:=rx; exact SeqAt.EqAt.int_str a t' b t
    | _=>exact absurd (show false=true from fx) Bool.false_ne_true
  | str a =>
    obtain ⟨t',rfl⟩:=ry
    cases x with
    | non=>cases rx; exact SeqAt.EqAt.str_none a t'
    | bl b=>cases rx; exact SeqAt.EqAt.str_bool a t' b
    | int b=>obtain ⟨t,rfl⟩:=rx; exact SeqAt.EqAt.str_int a t' b t
    | str b=>obtain ⟨t,rfl⟩:=rx; exact SeqAt.EqAt.str_str a t' b t
    | _=>exact absurd (show false=true from fx) Bool.false_ne_true
  | _=>exact absurd (show false=true from fy) Bool.false_ne_true
theorem jao:yx X (.builtin "len") (fun xs H Q=>∃ p ys,xs=[.ref p]∧(SqL X.K H p ys∨SqT X.K H p ys)∧Q (.int ys.length) H):=by
  intro pins s σ H xs us Q I r h
  obtain ⟨p,ys,rfl,hq,q⟩:=h
  obtain ⟨u,rfl,rx⟩:=Yx r
  cases rx
  have hn:=Xa
  rcases hq with hq | hq
  · obtain ⟨its,r',pl,hz⟩:=I.list hq
    have hlen:=r'.length
    exact Calls.call_len_list pl.isList (by simp only [List.size_toArray] <;> omega) ⟨.int ys.length,H,I.tok _,⟨s.toks + 1,by rw [List.size_toArray,hlen]⟩,q⟩
  · obtain ⟨its,r',pl,hz⟩:=I.tuple hq
    have hlen:=r'.length
    exact len_tuple pl (by simp only [List.size_toArray] <;> omega) ⟨.int ys.length,H,I.tok _,⟨s.toks + 1,by rw [List.size_toArray,hlen]⟩,q⟩
theorem yx.or {f:Value} {r r':List V->Hp->VK->Prop} (h:yx X f r) (h':yx X f r'):yx X f (fun xs H Q=>r xs H Q∨r' xs H Q):=by
  intro pins s σ H xs us Q I rs q
  rcases q with q | q
  · exact h pins s σ H xs us Q I rs q
  · exact h' pins s σ H xs us Q I rs q
theorem JC:yx X (.type "list") (fun xs H Q=>∃ p ys,xs=[.ref p]∧(SqL X.K H p ys∨SqT X.K H p ys)∧∀ l,H l=none->Q (.ref l) (upd H l (.lst ys))):=by
  intro pins s σ H xs us Q I r h
  obtain ⟨p,ys,rfl,hq,q⟩:=h
  obtain ⟨u,rfl,rx⟩:=Yx r
  cases rx
  have fin:∀ (its:List Value),yj ys its->ys.length<=sizeLine->∀ (h':Heap) (c':Nat),(∀ b o',s.heap.get? b=some o'->h'.get? b=some o') ->
      h'.get? s.heap.objs.size=some { cls:=.type "list",dict:=none,data:=.seq its.toArray c',slots:=#[] }->EP X pins σ Q (.ref s.heap.objs.size) { s with heap:=h' }:=fun its r' hz h' c' kp e =>
    ⟨.ref s.heap.objs.size,_,I.laid (t':=s.toks) kp (Nat.le_refl _) (show yE X.prog X.w _ h' _ (.lst ys) from ⟨hz,its,c',r',e⟩),rfl,q _ (I.hok.fresh (Nat.le_refl _))⟩
  rcases hq with hq | hq
  · obtain ⟨its,r',pl,hz⟩:=I.list hq
    have hlen:=r'.length
    obtain ⟨o,ho,hc,n,hd⟩:=pl.isList
    exact call_list_seq p (.inl rfl) ho hc hd (fun h' c' kp e=>fin its r' hz h' c' kp e) (by simp only [List.size_toArray] <;> omega)
  · obtain ⟨its,r',pl,hz⟩:=I.tuple hq
    have hlen:=r'.length
    obtain ⟨o,ho,hc,n,hd⟩:=pl
    exact call_list_seq p (.inr rfl) ho hc hd (fun h' c' kp e=>fin its r' hz h' c' kp e) (by simp only [List.size_toArray] <;> omega)
def tyV (K:PySem.W.Frag) (T:String) (x:V) (H:Hp):Prop:=match x with
  | .str _=>T = "str"
  | .int _=>T = "int"
  | .ref p=>(T = "list"∧∃ xs,SqL K H p xs)∨(T = "tuple"∧∃ o,K.lookup p=some o∧o.cls = .type "tuple"∧o.dict=none) ∨
      (T = "dict"∧((∃ kvs,H p=some (.dK kvs))∨∃ kvs,H p=some (.dT kvs)))∨(T = "set"∧∃ S n,H p=some (.set S n))
  | _=>False
theorem tyV_is {pins:List (Addr × Obj)} {σ:St} {H:Hp} {s:Shared} {T:String} {x:V} {v:Value} (I:Inv X pins σ H s) (r:yl x v) (ty:tyV X.K T x H) :
    s.TypeIs v T∧∀ a,v = .ref a->∃ ob,s.heap.get? a=some ob∧ob.dict=none:=by
  cases x with
  | str z =>
    obtain ⟨t,rfl⟩:=r
    cases (show T = "str" from ty)
    exact ⟨typeIs_str s z t,fun _ e=>nomatch e⟩
  | int i =>
    obtain ⟨t,rfl⟩:=r
    cases (show T = "int" from ty)
    exact ⟨typeIs_int s i t,fun _ e=>nomatch e⟩
  | ref p =>
    cases r
    rcases ty with ⟨rfl,xs,hq⟩ | ⟨rfl,o,hk,hc,hd⟩ | ⟨rfl,hk⟩ | ⟨rfl,S,n,hk⟩
    · obtain ⟨its,_,pl,_⟩:=I.list hq
      refine ⟨pl.isList.typeIs,fun a e=>?_⟩
      cases e
      obtain ⟨o,n,e,c,hd,_⟩:=pl
      exact ⟨o,e,hd⟩
    · refine ⟨⟨o,I.kIn p o hk,hc⟩,fun a e=>?_⟩
      cases e
      exact ⟨o,I.kIn _ o hk,hd⟩
    · have z:∃ o,s.heap.get? p=some o∧o.ExactDict:=by
        rcases hk with ⟨kvs,hk⟩ | ⟨kvs,hk⟩
        · obtain ⟨_,_,_,_,o,_,_,e,ex,_⟩:=I.hok p _ hk
          exact ⟨o,e,ex⟩
        · obtain ⟨_,_,_,_,o,_,_,e,ex,_⟩:=I.hok p _ hk
          exact ⟨o,e,ex⟩
      obtain ⟨o,e,ex⟩:=z
      refine ⟨⟨o,e,ex.1⟩,fun a e2=>?_⟩
      cases e2
      exact ⟨o,e,ex.2.1⟩
    · obtain ⟨o,_,_,_,e,ex,_⟩:=I.hok p _ hk
      refine ⟨⟨o,e,ex.1⟩,fun a e2=>?_⟩
      cases e2
      exact ⟨o,e,ex.2.1⟩
  | _=>exact False.elim ty
def tBM (K:PySem.W.Frag) (T:String) (r:V->List V->Hp->VK->Prop) (to:TE) (t:TA):TE:=fun σ H Q=>to σ H fun x H1=>tyV K T x H1∧t σ H1 fun xs H2=>r x xs H2 Q
variable {o e:Expr} {es:List Expr} {to:TE} {t:TA} {name:Str} {apos cpos:Pos} {T id:String} {r:V->List V->Hp->VK->Prop}
theorem pe_bm (pa:PlainAttrs T) (slot:Slot T name id) (hty:typeOf (.builtin id)=pure (.type "method_descriptor")) (hm:MtR X id r) (ho:PE X o to) (ha:PA X (e :: es) t)
    (hbase:attributeBase o name X.env (eval o X.env)=eval o X.env:=by rfl)
    (hfew:((backTo cpos (starEach (e :: es) X.env)).all (fun x=>!x.1) && (backToKw cpos (keywordEach [] X.env)).all (fun x=>x.1.isSome)
      && decide ((e :: es).length + ([]:List Keyword).length + (if ([]:List Keyword).isEmpty then 0 else 1) < 30))=true:=by rfl)
    (hline:(apos.endLine == cpos.line)=true:=by rfl) (hs:starEach (e :: es) X.env=(false,eval e X.env) :: starEach es X.env:=by rfl) (hplain:(backTo cpos (starEach es X.env)).any (·.1)=false:=by rfl) :
    PE X (.Call (.Attribute o name apos) (e :: es) [] cpos) (tBM X.K T r to t):=by
  intro pins s σ H Q I h
  refine wpAny_Call_method_late hbase hfew hline rfl (thn (ho pins s σ H _ I h) fun v s1 hQQ=>?_)
  obtain ⟨x,H1,I1,r1,ty,q1⟩:=hQQ
  obtain ⟨h1,h2⟩:=tyV_is I1 r1 ty
  refine ⟨T,id,pa,slot,hty,h1,h2,?_⟩
  have hA:=ha cpos pins s1 σ H1 _ I1 q1
  rw [hs] at hA ⊢
  refine Calls.callWith_builtin (by show (false || (backTo cpos (starEach es X.env)).any (·.1))=false; rw [hplain] <;> rfl) (Calls.evalArgs_plain ?_)
  exact thn hA fun us s2 ⟨vs,H2,I2,r2,q2⟩=>hm pins s2 σ H2 x vs v us Q I2 r1 r2 q2
/- xs.append(e),list.index on a module's tuple .. are MtR facts of 06m -/
end
end L2

namespace L2
open PySem PySem.Spec PyProof.Rows

def MtM (X:Cx) (id:String) (r:V->List V->Hp->VK->Prop):Prop :=
  ∀ (pins:List (Addr × Obj)) (s:Shared) (σ:St) (H:Hp) (x:V) (xs:List V) (v:Value) (us:List Value) (Q:VK),Inv X pins σ H s->yl x v->yj xs us->r x xs H Q ->
    wpAny (model X.prog X.w) X.A (call (.builtin id) (v :: us)) (EP X pins σ Q) X.xe s

theorem yj.one:∀ {x:V} {us:List Value},yj [x] us->∃ u,us=[u]∧yl x u
  | _,_,.cons r .nil=>⟨_,rfl,r⟩
theorem yj.two:∀ {x y:V} {us:List Value},yj [x,y] us->∃ u v,us=[u,v]∧yl x u∧yl y v
  | _,_,_,.cons r (.cons q .nil)=>⟨_,_,rfl,r,q⟩
theorem yj.eraseIdx:∀ {xs:List V} {us:List Value} (i:Nat),yj xs us->yj (xs.eraseIdx i) (us.eraseIdx i)
  | _,_,_,.nil=>.nil
  | _,_,0,.cons _ t=>t
  | _,_,i + 1,.cons r t=>.cons r (yj.eraseIdx i t)
theorem yj.rep {xs:List V} {us:List Value} (h:yj xs us):∀ k:Nat,yj (List.replicate k xs).flatten (List.replicate k us).flatten
  | 0=>.nil
  | k + 1=>by
    rw [List.replicate_succ,List.replicate_succ,List.flatten_cons,List.flatten_cons]
    exact yj.append h (yj.rep h k)
theorem VN {α:Type}:∀ (l:List α) (i:Nat),(l.eraseIdx i).length<=l.length
  | [],_=>Nat.le_refl _
  | _ :: _,0=>Nat.le_succ _
  | _ :: r,i + 1=>Nat.succ_le_succ (VN r i)
theorem VW (its:List Value):∀ (k:Nat) (acc:List Value),
    List.foldl (fun x1 x2=>x1 ++ x2) acc.toArray (List.replicate k its.toArray)=(acc ++ (List.replicate k its).flatten).toArray
  | 0,acc=>by simp
  | k + 1,acc=>by
    have e:acc.toArray ++ its.toArray=(acc ++ its).toArray:=by simp
    have e2:(acc ++ its) ++ (List.replicate k its).flatten=acc ++ (List.replicate (k + 1) its).flatten:=by
      rw [List.replicate_succ,List.flatten_cons,List.append_assoc]
    rw [<- e2,<- VW its k (acc ++ its),<- e,List.replicate_succ,List.foldl_cons]

section
variable {X:Cx} {pins:List (Addr × Obj)} {σ:St} {H:Hp} {s:Shared} {l b:Addr} {xs ys zs:List V}

theorem Inv.lset {its its':List Value} {n:Nat} {f:Array Value->Array Value} {t':Nat} (I:Inv X pins σ H s) (hH:H l=some (.lst xs))
    (e:s.heap.get? l=some { cls:=.type "list",data:=.seq its.toArray n }) (hf:f its.toArray=its'.toArray) (hv:yj ys its') (hz:ys.length<=sizeLine) :
    Inv X pins σ (upd H l (.lst ys)) { s with heap:=s.heap.update l (Obj.mapSeq f),toks:=t' }:=by
  have q:=PySem.IsL.update e f
  rw [hf] at q
  refine I.write (x:=l) (e:=l) (by rw [hH]; exact trivial) (.inl rfl) (fun b' u hb hu=>(Heap.get?_update_other s.heap (Obj.mapSeq f) (Ne.symm hb)).trans hu) ⟨_,q⟩ ?_
  exact ⟨hz,its',_,hv,q⟩
theorem Inv.lnew {its:List Value} {t':Nat} (I:Inv X pins σ H s) (hv:yj ys its) (hz:ys.length<=sizeLine) :
    Inv X pins σ (upd H s.heap.objs.size (.lst ys)) { s with heap:=s.heap.push { cls:=.type "list",data:=.seq its.toArray },toks:=t' } :=
  I.laid (fun _ _ q=>Heap.get?_push_of_some _ q) (Nat.le_refl _) ⟨hz,its,0,hv,Heap.get?_push_size _ rfl⟩
theorem Inv.fresh (I:Inv X pins σ H s):H s.heap.objs.size=none:=I.hok.fresh (Nat.le_refl _)
theorem Inv.lstM (I:Inv X pins σ H s) (hH:H l=some (.lst xs)):xs.length<=sizeLine∧∃ (its:List Value) (n:Nat),yj xs its∧xs.length=its.length∧s.heap.get? l=some { cls:=.type "list",data:=.seq its.toArray n }:=by
  obtain ⟨z,its,n,r,e⟩:=I.hok l _ hH
  exact ⟨z,its,n,r,r.length,e⟩

theorem jfE {n:Nat} (h:n<=sizeLine):Builtin.List.listTooLong n=false:=by
  unfold Builtin.List.listTooLong
  exact decide_eq_false (by omega)
end

section
variable {X:Cx}

def jhu:V->List V->Hp->VK->Prop:=fun x vs H Q=>∃ l xs y,x = .ref l∧vs=[y]∧H l=some (.lst xs)∧xs.length < sizeLine∧Q .non (upd H l (.lst (xs ++ [y])))
theorem VJ:MtM X "list.append" jhu:=by
  intro pins s σ H x vs v us Q I rx rv h
  obtain ⟨l,xs,y,rfl,rfl,hH,hz,q⟩:=h
  cases rx
  obtain ⟨u,rfl,ru⟩:=rv.one
  obtain ⟨z,its,n,r,hl,e⟩:=I.lstM hH
  refine call_meets F.slot_list_append ⟨_,e,rfl⟩ F.entry_list_append (F.args_list_append_2 _ _) (PySem.list_append l its.toArray n u (by rw [List.size_toArray]; omega)) ⟨e,?_⟩
  refine ⟨.non,_,I.lset (its':=its ++ [u]) hH e (by simp) (r.append (.cons ru .nil)) ?_,rfl,q⟩
  rw [List.length_append,List.length_singleton]
  omega

def rPopAt:V->List V->Hp->VK->Prop:=fun x vs H Q=>∃ l xs i k y,x = .ref l∧vs=[.int i]∧H l=some (.lst xs)∧-(2 ^ 63)<=i∧i < 2 ^ 63∧seqIndex? i xs.length=some k∧xs[k]? = some y∧Q y (upd H l (.lst (xs.eraseIdx k)))
theorem jfJ:MtM X "list.pop" rPopAt:=by
  intro pins s σ H x vs v us Q I rx rv h
  obtain ⟨l,xs,i,k,y,rfl,rfl,hH,h1,h2,hk,hy,q⟩:=h
  cases rx
  obtain ⟨u,rfl,ru⟩:=rv.one
  obtain ⟨t,rfl⟩:=ru
  obtain ⟨z,its,n,r,hl,e⟩:=I.lstM hH
  obtain ⟨w,hw,rw'⟩:=r.get hy
  refine call_meets F.slot_list_pop ⟨_,e,rfl⟩ F.entry_list_pop (F.args_list_pop_2 _ _)
    (MeetsSeq.list_pop_at l its.toArray n i t k w (fitsIndex_both h1 h2) (by rw [List.size_toArray,<- hl]; exact hk) (by rw [<- Array.getElem?_toList]; exact hw) (by rw [List.size_toArray]; omega)) ⟨e,?_⟩
  refine ⟨y,_,I.lset (its':=its.eraseIdx k) hH e ?_ (r.eraseIdx k) ?_,rw',q⟩
  · show its.toArray.eraseIdxIfInBounds k=(its.eraseIdx k).toArray
    rw [List.eraseIdxIfInBounds_toArray]
  · have:=VN xs k
    omega

def rCat:R2:=fun x y H Q=>∃ l b xs zs,x = .ref l∧y = .ref b∧H l=some (.lst xs)∧H b=some (.lst zs)∧xs.length + zs.length<=sizeLine∧∀ p,H p=none->Q (.ref p) (upd H p (.lst (xs ++ zs)))
theorem op_cat:OpR X (binaryOp .Add) rCat:=by
  intro pins s σ H x y v u Q I rx ry h
  obtain ⟨l,b,xs,zs,rfl,rfl,hH,hB,hz,q⟩:=h
  cases rx
  cases ry
  obtain ⟨z,its,n,r,hl,e⟩:=I.lstM hH
  obtain ⟨z2,its2,n2,r2,hl2,e2⟩:=I.lstM hB
  refine PySem.P.add_list e e2 ?_ (by rw [List.size_toArray,List.size_toArray]; omega)
  have ea:its.toArray ++ its2.toArray=(its ++ its2).toArray:=by simp
  rw [ea]
  exact ⟨.ref _,_,I.lnew (t':=s.toks) (r.append r2) (by rw [List.length_append]; omega),rfl,q _ I.fresh⟩
def rRep:R2:=fun x y H Q=>∃ l k xs,x = .ref l∧y = .int k∧H l=some (.lst xs)∧-(2 ^ 63)<=k∧k < 2 ^ 63∧xs.length * k.toNat<=sizeLine ∧
  ∀ p,H p=none->Q (.ref p) (upd H p (.lst (List.replicate k.toNat xs).flatten))
theorem jig {α:Type} (xs:List α) (k:Nat):(List.replicate k xs).flatten.length=k * xs.length:=by
  induction k with
  | zero=>simp
  | succ k ih=>rw [List.replicate_succ,List.flatten_cons,List.length_append,ih,Nat.succ_mul,Nat.add_comm]
theorem op_rep:OpR X (binaryOp .Mult) rRep:=by
  intro pins s σ H x y v u Q I rx ry h
  obtain ⟨l,k,xs,rfl,rfl,hH,h1,h2,hz,q⟩:=h
  cases rx
  obtain ⟨t,rfl⟩:=ry
  obtain ⟨z,its,n,r,hl,e⟩:=I.lstM hH
  have hlen:its.toArray.size * k.toNat<=sizeLine:=by rw [List.size_toArray,<- hl]; exact hz
  have hcap:¬ its.toArray.size * k.toNat > (2 ^ 63 - 1) / 8:=by
    have:(sizeLine:Nat)<=(2 ^ 63 - 1) / 8:=by decide
    omega
  have hfit:¬ (!Builtin.List.listFitsIndex k)=true:=by
    rw [fitsIndex_both h1 h2]
    exact Bool.false_ne_true
  have hlong:¬ Builtin.List.listTooLong (its.toArray.size * k.toNat)=true:=by
    rw [jfE hlen]
    exact Bool.false_ne_true
  have hnew:List.foldl (fun x1 x2=>x1 ++ x2) #[] (List.replicate (if its.toArray.isEmpty=true then 0 else k.toNat) its.toArray)=(List.replicate k.toNat its).flatten.toArray:=by
    have f0:∀ m:Nat,List.foldl (fun x1 x2=>x1 ++ x2) #[] (List.replicate m its.toArray)=(List.replicate m its).flatten.toArray:=fun m=>by
      have:=VW its m []
      rw [List.nil_append] at this
      exact this
    rw [f0]
    cases its with
    | nil=>simp
    | cons a r'=>rw [if_neg (by simp)]
  refine wpAny_binaryOp_repeat_ref (T:="list") (U:="int") (by decide) ⟨_,e,rfl⟩ (fun s'=>typeIs_int s' k t) noFill_list_mul F.fills_int_mul F.slot_int_rmul repeat_list F.slot_int_index.lookup
    (call_meets F.slot_int_rmul (typeIs_int s k t) F.entry_int_rmul (F.args_int_rmul_2 _ _) (int___rmul___int_list k t l its.toArray n)
      ⟨e,rfl,⟨_,e,rfl⟩,call_meets F.slot_list_mul ⟨_,e,rfl⟩ F.entry_list_mul (F.args_list_mul_2 _ _) (AutoListH.list___mul___list_int_3 l its.toArray n k t hfit hcap hlong) ⟨e,?_⟩⟩)
  rw [hnew]
  exact ⟨.ref _,_,I.lnew (t':=s.toks) (r.rep k.toNat) (by rw [jig,Nat.mul_comm]; exact hz),rfl,q _ I.fresh⟩

end

section
variable {prog:Program} {w:World} {A:Around} {E:Value->Shared->Prop} {s:Shared}
end

section
variable {X:Cx}
end
end L2

namespace Att
open PySem PySem.W PySem.Calls PyProof.Rows

theorem Yn {P:Params} {h:Heap}:∀ (ns:List Int) (vs:List Value),WellAll P h vs (ns.map WData.int)->IntsAre vs ns:=by
  intro ns
  induction ns with
  | nil =>
    intro vs w
    rw [List.map_nil] at w
    cases w
    exact .nil
  | cons n ns ih =>
    intro vs w
    rw [List.map_cons] at w
    cases w with
    | cons a b =>
      cases a
      exact .cons _ _ (ih _ b)

theorem jdx {l:OpenLaw} {n:Nat} (hn:l.most=some n) {P:Params} {h:Heap} {args:List WData} {vals:List Value}
    (hpre:l.row.toRowW.claim.pre args=true) (hwl:WellAll P h vals args) :
    ∃ a vs ns,vals=[Value.ref a]∧args=[WData.list (ns.map WData.int)]∧h.get? a=some { cls:=.type "list",data:=.seq vs.toArray }∧IntsAre vs ns∧ns.length<=n:=by
  have hsh:WShape.hasAll [] args [.list .int]=true:=(pre_splitW hpre).1
  have hc:l.pre.holds [] { args:=args }=true:=(pre_splitW hpre).2
  obtain ⟨d,r,rfl,h1,h2⟩:=hasAllW_cons hsh
  obtain rfl:=hasAllW_nil h2
  obtain ⟨xs,rfl,h3⟩:=hasW_list h1
  obtain ⟨ns,rfl⟩:=items_int h3
  have hlen:ns.length<=n:=by
    unfold OpenLaw.pre at hc
    have h4:(WTm.not (.lt (.lit (.int (n:Int))) (.len (.arg 0)))).holds [] { args:=[.list (ns.map .int)] }=true:=by
      have h4:=(holds_andW hc).1
      rw [hn] at h4
      exact h4
    have h5:=condW_of h4 (w_not (w_lt w_lit (w_len_list (w_arg rfl))))
    rw [List.length_map] at h5
    refine Nat.le_of_not_lt fun q=>?_
    have q':(n:Int) < ((ns.length:Nat):Int):=by omega
    first
      | (rw [decide_eq_true q'] at h5; exact absurd h5 (by decide))
      | (simp at h5; omega)
  cases hwl with
  | cons w1 w2 =>
    cases w2
    cases w1 with
    | list ho hall=>exact ⟨_,_,ns,rfl,rfl,ho,Yn ns _ hall,hlen⟩

theorem jdD (l:OpenLaw) (args:List WData):l.row.toRowW.claim.post args (.bool true) args=true :=
  postW_of (r:=l.row.toRowW) (X:=(true == true))
    (show WShape.has [] (.bool true) .bool=true by first | rfl | decide | simp [WShape.has,WShape.arms,WShape.armsAll])
    (show (WTm.eq .res (.lit (.bool true))).value [] { args:=args,res:=some (.bool true),after:=args }=some (.bool (true == true)) from w_eq_bool (w_res rfl) w_lit) rfl

theorem attach_call {l:OpenLaw} {n:Nat} {q:Program} {loose:List Str} {XP:(Str->Option Value)->Heap->Prop} {YP:World->Heap->Prop} {d:DefRec}
    (hn:l.most=some n) (hdf:d.params.defaults=[])
    (call:∀ (w:World) (s₀ s₁:Shared) (mg mb:Str->Option Value) (fa:Addr) (o:Obj) (pm cd doc:Value) (a:Addr) (vs:List Value) (ns:List Int),
      Ground q loose [] XP w s₀ mg mb s₁.heap->YP w s₁.heap ->
      s₁.heap.get? fa=some o->o.data = .func (docDef d.name d.params d.body d.scope pm cd doc)->s₁.heap.CodeRec cd d.name->mg d.name=some (.ref fa) ->
      s₁.heap.get? a=some { cls:=.type "list",data:=.seq vs.toArray }->IntsAre vs ns->ns.length<=n->s₁.gens = #[] ->
      codeAny (model l.prog w) callerA (.call (.ref fa) ⟨[.ref a],[]⟩) (fun r s'=>r = .ok (.ret (.bool true))∧OldK s₁.heap s'.heap∧s'.os=s₁.os∧AllBare s'.gens) s₁) :
    WalkO q loose XP YP l.row.toRowW d [] (fun f vs=>PySem.call f vs):=by
  intro w s₀ s₁ mg mb G Y fa o pm cd doc dV kV ho hd hcd hD hmg hg args vals as hpre hlay hrd hwl hlo
  obtain rfl:dV = .none:=Dflts.none hD hdf
  obtain rfl:kV = .none:=Dflts.noKw hD
  obtain ⟨a,vs,ns,rfl,rfl,hobj,hints,hlen⟩:=jdx hn hpre hwl
  refine enter_call (codeAny_mono (call w s₀ s₁ mg mb fa o pm cd doc a vs ns G Y ho (fd_plain hd) hcd hmg hobj hints hlen hg) fun r s' hq=>?_)
  obtain ⟨rfl,h2,h3,h4⟩:=hq
  exact ⟨.inl ⟨.bool true,.bool true,[],rfl,fun _=>rfl,.bool true,jdD l _,fun _=>⟨List.Pairwise.nil,fun _ hm=>(nomatch hm)⟩⟩,h2,h3,h4⟩

section
variable {prog:Program} {w:World} {A:Around} {E:Value->Shared->Prop} {s:Shared} {K:Frag}

end
end Att

namespace L2
open PySem PySem.Spec PyProof.Rows

theorem jds {vs:List Value} {ns:List Int} (h:IntsAre vs ns):yj (ns.map V.int) vs:=by
  induction h with
  | nil=>exact .nil
  | cons n t h ih=>exact .cons ⟨t,rfl⟩ ih

def Only (H:Hp):Prop:=∀ b,H b=none∨∃ o xs,H b=some (.frz o (.lst xs))

theorem jfR {P:Program} {w:World} {K:PySem.W.Frag} {mg mb:Str->Option Value} {CX:CXT} {k:Nat} {fa a:Addr} {fd:FuncData} {x:Str} {sp:Sp} {s₁:Shared} {vs:List Value} {ns:List Int}
    (KX:K.In s₁.heap) (hns:s₁.heap.Ns mainGlobals mg) (hb:s₁.heap.Ns builtinsNs mb) (hbb:∀ x:Str,x≠"__name__"->mb x=bootBuiltins x) (hlim:s₁.heap.NoLimit) (hg:s₁.gens = #[])
    (ha:s₁.heap.get? a=some { cls:=.type "list",data:=.seq vs.toArray }) (hi:IntsAre vs ns) (hl:ns.length<=sizeLine) (hr:Room k callerA)
    (F:∀ base:Heap,K.In base->base.Ns mainGlobals mg->FnOk P w K mg base CX k fa fd [x] sp) (hbind:∀ (s:Shared) (u:Value),BindsTo s fd ⟨[u],[]⟩ [(x,u)])
    (hsp:∀ H:Hp,Only H->SqL K H a (ns.map V.int)->sp [.ref a] H (fun v _=>v = .bl true) fun _ _ _=>False)
    (hCX:∀ H e s',CX [] H s₁ (fun _ _ _=>False) e s'->False) :
    codeAny (model P w) callerA (.call (.ref fa) ⟨[.ref a],[]⟩) (fun r s'=>r = .ok (.ret (.bool true))∧OldK s₁.heap s'.heap∧s'.os=s₁.os∧AllBare s'.gens) s₁:=by
  have rv:=jds hi
  have lenV:=hi.length
  -- from an abstract heap in which nothing but the script may be tracked
  have core:∀ H:Hp,Only H->SqL K H a (ns.map V.int)->HOk P w H s₁.heap->(∀ b,H b≠none->b=a)->(H a≠none->K.lookup a=none) ->
      codeAny (model P w) callerA (.call (.ref fa) ⟨[.ref a],[]⟩) (fun r s'=>r = .ok (.ret (.bool true))∧OldK s₁.heap s'.heap∧s'.os=s₁.os∧AllBare s'.gens) s₁:=by
    intro H hO hS hok hA hK
    have base_of:∀ {b:Addr} {o:Obj},s₁.heap.get? b=some o->H b=none->(UZ s₁.heap H).get? b=some o:=fun e n=>jfZ e n
    have noA:∀ {b:Addr} {o:Obj} {es:Array DictEntry} {ep:Nat},s₁.heap.get? b=some o->o.data = .dict es ep->H b=none:=fun {b o es ep} e d=>by
      cases q:H b with
      | none=>rfl
      | some u =>
        have e':b=a:=hA b (by rw [q]; simp)
        subst e'
        rw [ha] at e; cases e
        have d':Data.seq vs.toArray _=Data.dict es ep:=d
        cases d'
    have nsK:∀ {b:Addr} {m:Str->Option Value},s₁.heap.Ns b m->(UZ s₁.heap H).Ns b m:=fun {b m} ⟨o,es,ep,e,d,r⟩=>⟨o,es,ep,base_of e (noA e d),d,r⟩
    have hKb:K.In (UZ s₁.heap H):=fun b o e=>base_of (KX b o e) (by
      cases q:H b with
      | none=>rfl
      | some u =>
        have e':b=a:=hA b (by rw [q]; simp)
        subst e'
        rw [hK (by rw [q]; simp)] at e; cases e)
    have hM:Mod K mg (UZ s₁.heap H):=⟨hKb,nsK hns,⟨mb,nsK hb,hbb⟩,let ⟨mc,h1,h2⟩:=hlim; ⟨mc,nsK h1,h2⟩⟩
    have e0:Env0 P w K mg (UZ s₁.heap H) callerA [] s₁ H:=⟨rfl,hM,fun b o e=>jhX e,Nat.le_of_eq (jdV _ _),trivial,fun b hb=>absurd (show b ∈ ([]:List Addr) from hb) (by simp),hok,.of_eq hg⟩
    refine codeAny_mono ((F _ hKb (nsK hns)).run callerA [] s₁ H ⟨[.ref a],[]⟩ [.ref a] [.ref a] _ _ hr e0 (hbind s₁ (.ref a)) (.cons rfl .nil) (hsp H hO hS)) fun r s' h=>?_
    cases r with
    | error e=>exact (hCX H e s' h).elim
    | ok fl =>
      cases fl with
      | next=>exact False.elim h
      | brk=>exact False.elim h
      | cont=>exact False.elim h
      | ret u =>
        obtain ⟨v,H',os,bare,un,hok',r',q⟩:=h
        have q':v = .bl true:=q
        subst q'
        obtain rfl:u=Value.bool true:=r'
        refine ⟨rfl,OldK.of_keep fun b o e=>?_,os,bare⟩
        cases q:H b with
        | none=>exact un.keep b o e q (by intro z; exact absurd (show b ∈ ([]:List Addr) from z) (by simp)) (by simp)
        | some u =>
          rcases hO b with z | ⟨ob,xs,z⟩
          · rw [q] at z; cases z
          · have z2:=un.frzs b ob _ z
            obtain ⟨e1,_⟩:=hok b _ z
            obtain ⟨e2,_⟩:=hok' b _ z2
            rw [e] at e1; cases e1
            exact e2
  cases hk:K.lookup a with
  | some o =>
    -- the script is one of the module's own objects
    have e:=KX a o hk
    rw [ha] at e
    cases e
    refine core (fun _=>none) (fun _=>.inl rfl) (.inr ⟨_,vs.toArray,_,hk,rfl,rfl,rfl,by rw [List.size_toArray,lenV]; exact hl,by simpa using rv⟩) (fun b u z=>by have z':(none:Option HO)=some u:=z; cases z') (fun b z=>absurd rfl z) fun z=>absurd rfl z
  | none =>
    refine core (fun b=>if b=a then some (.frz { cls:=.type "list",data:=.seq vs.toArray } (.lst (ns.map V.int))) else none) (fun b=>?_) (.inl (.inr ⟨{ cls:=.type "list",data:=.seq vs.toArray },if_pos rfl⟩)) (fun b u z=>?_) (fun b z=>?_) fun _=>hk
    · by_cases hb:b=a
      · exact .inr ⟨_,_,if_pos hb⟩
      · exact .inl (if_neg hb)
    · by_cases hb:b=a
      · have z':=(if_pos hb).symm.trans z
        cases z'
        subst hb
        exact ⟨ha,by rw [List.length_map]; exact hl,vs,_,rv,ha⟩
      · have z':=(if_neg hb).symm.trans z
        cases z'
    · by_cases hb:b=a
      · exact hb
      · exact absurd (if_neg hb) z
end L2

namespace L2
open PySem PySem.Spec PyProof.Rows

theorem walk_of {l:PySem.W.OpenLaw} {n k:Nat} {q:Program} {loose:List Str} {XP:(Str->Option Value)->Heap->Prop} {YP:World->Heap->Prop} {d:DefRec} {K:Params->PySem.W.Frag} {CX:World->CXT} {sp:World->Sp} {x:Str}
    (hn:l.most=some n) (hn2:n<=sizeLine) (hdf:d.params.defaults=[]) (hr:Room k callerA)
    (hY:∀ (w:World) (h:Heap),YP w h->(K w.params).In h)
    (F:∀ (w:World) (mg:Str->Option Value) (fa:Addr) (h:Heap),(K w.params).In h->h.Ns mainGlobals mg->mg d.name=some (.ref fa) ->
      ∃ fd:FuncData,(∀ (s:Shared) (u:Value),BindsTo s fd ⟨[u],[]⟩ [(x,u)]) ∧
        ∀ base:Heap,(K w.params).In base->base.Ns mainGlobals mg->FnOk l.prog w (K w.params) mg base (CX w) k fa fd [x] (sp w))
    (hsp:∀ (w:World) (H:Hp) (a:Addr) (ns:List Int),ns.length<=n->Only H->SqL (K w.params) H a (ns.map V.int)->sp w [.ref a] H (fun v _=>v = .bl true) fun _ _ _=>False)
    (hCX:∀ (w:World) (H:Hp) (s:Shared) (e:Value) (s':Shared),CX w [] H s (fun _ _ _=>False) e s'->False) :
    PySem.W.WalkO q loose XP YP l.row.toRowW d [] (fun f vs=>PySem.call f vs):=by
  refine Att.attach_call hn hdf fun w s₀ s₁ mg mb fa o pm cd doc a vs ns G Y ho hd hcd hmg hobj hints hlen hg=>?_
  have KX:=hY w _ Y
  obtain ⟨fd,hb,hF⟩:=F w mg fa _ KX G.T.g hmg
  exact jfR KX G.T.g G.T.b G.T.builtins G.T.nolimit hg hobj hints (Nat.le_trans hlen hn2) hr hF hb (fun H hO hS=>hsp w H a ns hlen hO hS) fun H e s'=>hCX w H s₁ e s'
end L2

namespace L2
open PySem PySem.Spec PyProof.Rows

def yr (s:Stmt) (j:Nat):Stmt:=match s with
  | .ClassDef _ _ _ body _ _ _ _ _ _ _=>body.getD j (.Pass ⟨0,0,0,0⟩)
  | _=>.Pass ⟨0,0,0,0⟩
def jn (s:Stmt):Arguments:=match s with
  | .FunctionDef _ a _ _ _ _ _ _ _ _=>a
  | _=>{ posonlyargs:=[],args:=[],vararg:=none,kwonlyargs:=[],kw_defaults:=[],kwarg:=none,defaults:=[] }
def jj (s:Stmt):List Stmt:=match s with
  | .FunctionDef _ _ b _ _ _ _ _ _ _=>b
  | _=>[]
def jc (s:Stmt):Scope:=match s with
  | .FunctionDef _ _ _ _ _ _ sc _ _ _=>sc
  | _=>{ kind:=.function,names:=[],isGenerator:=false,isCoroutine:=false }

abbrev CX0:CXT:=fun _ _ _ _ _ _=>False
abbrev E0:XK:=fun _ _ _=>False
structure Fun (K:PySem.W.Frag) (x qual:Str) (st:Stmt) (f:Addr) (fd:FuncData):Prop where
  ex:∃ (oc:Value) (od:Option Addr) (kV doc pm:Value) (an:Option Addr) (cdv ct:Value) (osl:Array (Option Value)),
    fd=PySem.W.fnOf x qual (jn st) (jj st) (jc st) .none kV doc pm an cdv ct∧K.lookup f=some ⟨oc,od,.func fd,osl⟩∧PySem.W.codeIn K cdv qual=true
  kp:PySem.W.keepIn K (.ref f)=true
section
variable {P:Program} {w:World} {K:PySem.W.Frag} {mg:Str->Option Value} {base:Heap}
theorem Fun.ok {x qual:Str} {st:Stmt} {f:Addr} {fd:FuncData} {N ps:List Str} {k:Nat} {sp:Sp} (F:Fun K x qual st f fd) (S:FnScope N ps (jc st)) (len:∀ vs H Q E,sp vs H Q E->vs.length=ps.length)
    (hbody:∀ (cdv:Value) (A:Around) (outer:List Env) (s:Shared) (H:Hp) (vs:List V) (Q:VK) (E:XK),Room k (A.deeper (envOfC qual (jc st) s.heap.objs.size f cdv))->sp vs H Q E ->
      ∃ t,PSs (vX CX0 P w K mg base N qual (jc st) f cdv A outer s H E).nox (jj st) t∧t { nx:=fun _ H'=>Q .non H',rt:=Q } (start N vs) H):FnOk P w K mg base CX0 (k + 1) f fd ps sp:=by
  obtain ⟨oc,od,kV,doc,pm,an,cdv,ct,osl,rfl,lk,hcd⟩:=F.ex
  refine jja lk hcd S len fun A outer s H vs Q E hr hsp=>?_
  obtain ⟨t,h,q⟩:=hbody cdv A outer s H vs Q E hr hsp
  exact ⟨t,h.nox,q⟩
theorem ju {x qual:Str} {st:Stmt} {f:Addr} {oc:Value} {od an:Option Addr} {osl:Array (Option Value)} {kV doc pm cdv ct:Value} (l:K.lookup f=some ⟨oc,od,.func (PySem.W.fnOf x qual (jn st) (jj st) (jc st) .none kV doc pm an cdv ct),osl⟩)
    (c:PySem.W.codeIn K cdv qual=true) (k:PySem.W.keepIn K (.ref f)=true):Fun K x qual st f (PySem.W.fnOf x qual (jn st) (jj st) (jc st) .none kV doc pm an cdv ct):=⟨⟨oc,od,kV,doc,pm,an,cdv,ct,osl,rfl,l,c⟩,k⟩
end
section
variable {X:Cx}
end

def jer (H H':Hp):Prop:=∀ b o,H b=some o->H' b=some o
theorem jer.seq {K:PySem.W.Frag} {H H':Hp} {a:Addr} {xs:List V} (e:jer H H') (h:SqL K H a xs):SqL K H' a xs:=by
  rcases h with (h | ⟨o,h⟩) | h
  · exact .inl (.inl (e _ _ h))
  · exact .inl (.inr ⟨o,e _ _ h⟩)
  · exact .inr h

end L2

namespace L2
open PySem
section
variable {prog:Program} {w:World} {A:Around} {R:Result->Shared->Prop} {s:Shared}
theorem jak {elt target iter:Expr} {ifs:List Expr} {scope:Scope} {pos:Pos} {it acc:Value} {env:Env} (I:Nat->Shared->Prop)
    (turn:∀ n s,I n s->wpAny (model prog w) A (pyNext it) (fun r s₁=>match r with
      | none=>R (.ok .next) s₁
      | some v=>wpAny (model prog w) A (letOwnedTupleGo target it v) (fun _ s₁'=>wpAny (model prog w) A (assign target env v) (fun _ s₂ =>
          wpAny (model prog w) A (forIn ifs true fun c r=>if r=true then do let ok <- isTrue c env (eval c env); pure (ForInStep.yield ok) else pure (ForInStep.yield r)) (fun ok s₃ =>
            if ok=true then wpAny (model prog w) A (eval elt env) (fun x s₄ =>
              wpAny (model prog w) A (call (.builtin "list.append") [acc,x]) (fun _ s₅=>∃ m,m < n∧I m s₅) (fun _ _=>False) s₄) (fun _ _=>False) s₃
            else ∃ m,m < n∧I m s₃) (fun _ _=>False) s₂) (fun _ _=>False) s₁') (fun _ _=>False) s₁) (fun _ _=>False) s)
    (n:Nat) (h:I n s) :
    codeAny (model prog w) A (.compLoop (.ListComp elt [⟨target,iter,ifs,0⟩] scope pos) 0 it acc env) R s:=by
  refine codeAny_loop rfl I (fun n s hI=>?_) n h
  show wpAny _ A ((compTurn (.ListComp elt [⟨target,iter,ifs,0⟩] scope pos) 0 it acc env).onRaise (fun x=>do noteFrame x env; theTreesLotGoes x)) _ _ s
  refine wpAny_noted ?_
  rw [compTurn_list]
  refine wpAny_bind (wpAny_standAt (wpAny_bind (wpAny_mono (turn n s hI) (fun r s₁ h₁=>?_) fun _ _ h'=>h'.elim)))
  cases r with
  | none=>exact wpAny_pure h₁
  | some v =>
    refine wpAny_bind (wpAny_mono h₁ (fun _ s₁' h₁'=>?_) fun _ _ h'=>h'.elim)
    refine wpAny_bind (wpAny_mono h₁' (fun _ s₂ h₂=>wpAny_bind (wpAny_mono h₂ (fun ok s₃ h₃=>?_) fun _ _ h'=>h'.elim)) fun _ _ h'=>h'.elim)
    cases ok with
    | false=>exact wpAny_pure ⟨rfl,h₃⟩
    | true =>
      exact wpAny_bind (wpAny_bind (wpAny_mono h₃ (fun x s₄ h₄=>wpAny_bind (wpAny_mono h₄ (fun _ s₅ h₅=>wpAny_pure (wpAny_pure ⟨rfl,h₅⟩)) fun _ _ h'=>h'.elim)) fun _ _ h'=>h'.elim))
end
def uX (env:Env):List (Str × NameKind)->List (Str × Addr)->List (Str × Addr)
  | [],cs=>cs
  | (n,k) :: r,cs=>uX env r (if k == .free then (n,(env.cells.lookup n).getD 0) :: cs else cs)
def uK (scope:Scope) (env:Env):List (Str × Addr):=uX env scope.names []
theorem Uf {env:Env}:∀ (ns:List (Str × NameKind)) (cs:List (Str × Addr)),(∀ y ∈ ns,y.2 = .free->∃ c,env.cells.lookup y.1=some c) ->
    (forIn ns cs fun (x:Str × NameKind) (r:List (Str × Addr))=>(if (x.2 == .free)=true then do
      let a <- cellOf env x.1
      pure (ForInStep.yield ((x.1,a) :: r)) else pure (ForInStep.yield r):Sem (ForInStep (List (Str × Addr)))))=pure (uX env ns cs)
  | [],cs,_=>rfl
  | (n,k) :: r,cs,h=>by
    rw [List.forIn_cons]
    have ih:=fun cs=>Uf r cs fun y hy=>h y (List.mem_cons_of_mem _ hy)
    by_cases hk:k = .free
    · subst hk
      obtain ⟨c,e⟩:=h (n,.free) List.mem_cons_self rfl
      have e':cellOf env n=pure c:=by
        unfold cellOf
        have e2:env.cells.lookup n=some c:=e
        rw [e2]
      simp only [beq_self_eq_true,if_true,e',pure_bind,ih]
      have e3:env.cells.lookup n=some c:=e
      simp only [uX,beq_self_eq_true,if_true,e3,Option.getD_some]
    · have hb:(k == NameKind.free)=false:=by simpa using hk
      simp only [hb,Bool.false_eq_true,if_false,pure_bind,ih,uX]
theorem Xv {scope:Scope} {env:Env} (h:∀ y ∈ scope.names,y.2 = .free->∃ c,env.cells.lookup y.1=some c):closureFor scope env=pure (uK scope env):=by
  have e:=Uf scope.names [] h
  unfold closureFor uK
  rw [<- e]
  simp only [bind_pure]
theorem Xw {env:Env} {x:Str} {c:Addr}:∀ (ns:List (Str × NameKind)) (cs:List (Str × Addr)),(∀ y ∈ ns,y.2 = .free->∃ c,env.cells.lookup y.1=some c) ->
    (cs.lookup x=some c->env.cells.lookup x=some c)->(uX env ns cs).lookup x=some c->env.cells.lookup x=some c
  | [],cs,_,h,e=>h e
  | (n,k) :: r,cs,hf,h,e=>by
    refine Xw r _ (fun y hy=>hf y (List.mem_cons_of_mem _ hy)) ?_ e
    by_cases hk:k = .free
    · subst hk
      obtain ⟨c',e'⟩:=hf (n,.free) List.mem_cons_self rfl
      have e':env.cells.lookup n=some c':=e'
      simp only [beq_self_eq_true,if_true,e',Option.getD_some]
      intro z
      rw [List.lookup_cons] at z
      cases hx:x == n with
      | true =>
        rw [hx] at z
        have hx':x=n:=by simpa using hx
        rw [hx',e']
        exact z
      | false =>
        rw [hx] at z
        exact h z
    · have hb:(k == NameKind.free)=false:=by simpa using hk
      simp only [hb,Bool.false_eq_true,if_false]
      exact h
theorem Xx {env:Env} {x:Str}:∀ (ns:List (Str × NameKind)) (cs:List (Str × Addr)),((∃ c,cs.lookup x=some c)∨(x,NameKind.free) ∈ ns)->∃ c,(uX env ns cs).lookup x=some c
  | [],cs,h=>by
    rcases h with h | h
    · exact h
    · cases h
  | (n,k) :: r,cs,h=>by
    refine Xx r _ ?_
    by_cases hk:k = .free
    · subst hk
      simp only [beq_self_eq_true,if_true]
      by_cases hx:x=n
      · subst hx
        left
        rw [List.lookup_cons]
        simp
      · rcases h with ⟨c,h⟩ | h
        · left
          refine ⟨c,?_⟩
          rw [List.lookup_cons]
          have:(x == n)=false:=by simpa using hx
          rw [this]
          exact h
        · right
          rcases List.mem_cons.mp h with h | h
          · cases h
            exact absurd rfl hx
          · exact h
    · have hb:(k == NameKind.free)=false:=by simpa using hk
      simp only [hb,Bool.false_eq_true,if_false]
      rcases h with h | h
      · exact .inl h
      · right
        rcases List.mem_cons.mp h with h | h
        · cases h
          exact absurd rfl hk
        · exact h
end L2

namespace L2
open PySem PySem.Spec PyProof.Rows
def jT (X:Cx) (N':List Str) (scope:Scope) (s₃:Shared) (H₃:Hp) (fp:List Addr):Cx :=
  { X with N:=N',s₀:=s₃,H₀:=H₃,env:=compEnvC scope (cellsFrom (s₃.heap.objs.size + 1) scope.names (uK scope X.env)) s₃.heap.objs.size X.env,outer:=X.stack,ex:=fp,fn:=fun x=>scope.names.lookup x == some .cell,pn:=[],xe:=fun _ _=>False }
def vE (own:Nat) (js:List Nat) (σ:St):St:=List.replicate own none ++ js.map fun j=>(σ[j]?).getD none
def XN (σ σ':St):Prop:=σ'.length=σ.length∧∀ (k:Nat) (v:V),σ[k]? = some (some v)->σ'[k]? = some (some v)
theorem XN.refl (σ:St):XN σ σ:=⟨rfl,fun _ _ e=>e⟩
theorem keep1 {r:St} {x:Option V}:XN (none :: r) (x :: r):=⟨rfl,fun k v e=>by
  cases k with
  | zero=>cases e
  | succ k=>exact e⟩
theorem jfU {r:St} {x y:Option V}:XN (none :: none :: r) (x :: y :: r):=⟨rfl,fun k v e=>by
  cases k with
  | zero=>cases e
  | succ k=>cases k with
    | zero=>cases e
    | succ k=>exact e⟩
structure CompScope (osc sc:Scope) (own fr:List Str):Prop where
  kind:sc.kind = .function
  cel:∀ y ∈ sc.names,y.2 = .cell->sc.names.lookup y.1=some .cell
  loc:∀ y ∈ sc.names,y.2 = .local->sc.names.lookup y.1=some .local
  free:∀ y ∈ sc.names,y.2 = .free->osc.names.lookup y.1=some .cell∨osc.names.lookup y.1=some .free
  nown:∀ x ∈ own,sc.names.lookup x=some .local∨sc.names.lookup x=some .cell
  nfr:∀ x ∈ fr,(osc.names.lookup x=some .cell∨osc.names.lookup x=some .free)∧sc.names.lookup x=some .free
theorem xO {env:Env} {x:Str} {k:NameKind}:∀ {names:List (Str × NameKind)},
    (names.map fun (n,k)=>if (k == NameKind.free && env.scope.kind == .function && env.kindOf n == some .cell) then (n,NameKind.cell) else (n,k)).lookup x=some k->names.lookup x=some k∨(k = .cell∧names.lookup x=some .free)
  | [],h=>by simp at h
  | (n,k') :: r,h=>by
    have ih:=@xO env x k r
    simp only [List.map_cons] at h
    rw [List.lookup_cons]
    by_cases hc:(k' == NameKind.free && env.scope.kind == .function && env.kindOf n == some .cell)=true
    · rw [if_pos hc,List.lookup_cons] at h
      have hf:k' = .free:=by
        have:=(Bool.and_eq_true_iff.mp (Bool.and_eq_true_iff.mp hc).1).1
        simpa using this
      cases hx:x == n with
      | true =>
        rw [hx] at h
        subst hf
        exact .inr ⟨(Option.some.inj h).symm,rfl⟩
      | false =>
        rw [hx] at h
        exact ih h
    · rw [if_neg hc,List.lookup_cons] at h
      cases hx:x == n with
      | true =>
        rw [hx] at h
        exact .inl h
      | false =>
        rw [hx] at h
        exact ih h
theorem xz {env:Env} {x:Str}:∀ {names:List (Str × NameKind)},names.lookup x=some .free ->
    (names.map fun (n,k)=>if (k == NameKind.free && env.scope.kind == .function && env.kindOf n == some .cell) then (n,NameKind.cell) else (n,k)).lookup x=some .cell ∨
    (names.map fun (n,k)=>if (k == NameKind.free && env.scope.kind == .function && env.kindOf n == some .cell) then (n,NameKind.cell) else (n,k)).lookup x=some .free
  | [],h=>by simp at h
  | (n,k') :: r,h=>by
    have ih:=@xz env x r
    rw [List.lookup_cons] at h
    simp only [List.map_cons]
    by_cases hc:(k' == NameKind.free && env.scope.kind == .function && env.kindOf n == some .cell)=true
    · rw [if_pos hc,List.lookup_cons]
      cases hx:x == n with
      | true=>exact .inl rfl
      | false =>
        rw [hx] at h
        exact ih h
    · rw [if_neg hc,List.lookup_cons]
      cases hx:x == n with
      | true =>
        rw [hx] at h
        exact .inr h
      | false =>
        rw [hx] at h
        exact ih h
theorem JB {x:Str}:∀ {names:List (Str × NameKind)} {n:Nat} {acc:List (Str × Addr)},(x,NameKind.cell) ∉ names->(cellsFrom n names acc).lookup x=acc.lookup x
  | [],_,_,_=>rfl
  | (m,k) :: r,n,acc,h=>by
    unfold cellsFrom
    have hr:(x,NameKind.cell) ∉ r:=fun z=>h (List.mem_cons_of_mem _ z)
    split
    · rename_i hk
      rw [JB hr,List.lookup_cons]
      have hk:k = .cell:=by simpa using hk
      have hx:(x == m)=false:=by
        cases e:x == m with
        | false=>rfl
        | true =>
          have:x=m:=by simpa using e
          exact absurd (by rw [this,hk]; exact List.mem_cons_self) h
      rw [hx]
    · exact JB hr
theorem Xy {x:Str}:∀ {names:List (Str × NameKind)} {n:Nat} {acc:List (Str × Addr)},(x,NameKind.cell) ∈ names->∃ c,(cellsFrom n names acc).lookup x=some c∧n<=c
  | (m,k) :: r,n,acc,h=>by
    unfold cellsFrom
    by_cases hr:(x,NameKind.cell) ∈ r
    · split
      · obtain ⟨c,e,l⟩:=Xy (n:=n + 1) (acc:=(m,n) :: acc) hr
        exact ⟨c,e,by omega⟩
      · exact Xy hr
    · rcases List.mem_cons.mp h with h | h
      · cases h
        rw [if_pos (by rfl),JB hr,List.lookup_cons]
        exact ⟨n,by simp,Nat.le_refl _⟩
      · exact absurd h hr
theorem cf_sub {x:Str} {c:Addr} {names:List (Str × NameKind)} {n:Nat} {acc:List (Str × Addr)} (e:(cellsFrom n names acc).lookup x=some c):(acc.lookup x=some c∧(x,NameKind.cell) ∉ names)∨(n<=c∧(x,NameKind.cell) ∈ names):=by
  by_cases h:(x,NameKind.cell) ∈ names
  · obtain ⟨c',e',l⟩:=Xy (n:=n) (acc:=acc) h
    rw [e] at e'
    cases e'
    exact .inr ⟨l,h⟩
  · rw [JB h] at e
    exact .inl ⟨e,h⟩
theorem jcm:∀ (names:List (Str × NameKind)) (n:Nat) (acc:List (Str × Addr)),(∀ x c,acc.lookup x=some c->c < n)->(∀ x y c,acc.lookup x=some c->acc.lookup y=some c->x=y)->∀ x y c,(cellsFrom n names acc).lookup x=some c->(cellsFrom n names acc).lookup y=some c->x=y
  | [],_,_,_,h=>h
  | (m,k) :: r,n,acc,hl,h=>by
    unfold cellsFrom
    split
    · refine jcm r (n + 1) _ (fun x c e=>?_) fun x y c e1 e2=>?_
      · rw [List.lookup_cons] at e
        split at e
        · cases e; exact Nat.lt_succ_self _
        · exact Nat.lt_succ_of_lt (hl x c e)
      · rw [List.lookup_cons] at e1 e2
        cases hx:x == m <;> cases hy:y == m <;> rw [hx] at e1 <;> rw [hy] at e2
        · exact h x y c e1 e2
        · cases e2
          exact absurd (hl x _ e1) (Nat.lt_irrefl _)
        · cases e1
          exact absurd (hl y _ e2) (Nat.lt_irrefl _)
        · have a:x=m:=by simpa using hx
          have b:y=m:=by simpa using hy
          rw [a,b]
    · exact jcm r n acc hl h
theorem jan {x:Str} {c:Addr}:∀ (names:List (Str × NameKind)) (h:Heap) (acc:List (Str × Addr)),(∀ x c,acc.lookup x=some c->∃ v,h.IsCell c v)->(cellsFrom h.objs.size names acc).lookup x=some c->∃ v,(pushCells h names).IsCell c v
  | [],_,_,ha,e=>ha x c e
  | (m,k) :: r,h,acc,ha,e=>by
    unfold pushCells
    unfold cellsFrom at e
    split
    · rename_i hk
      rw [if_pos hk] at e
      refine jan r (h.push { cls:=.type "cell",data:=.cell none }) ((m,h.objs.size) :: acc) (fun y d q=>?_) (by rw [Heap.size_push]; exact e)
      rw [List.lookup_cons] at q
      split at q
      · cases q
        exact ⟨none,_,Heap.get?_push_size _ rfl,rfl⟩
      · obtain ⟨v,hv⟩:=ha y d q
        exact ⟨v,hv.keeps fun b o e=>Heap.get?_push_of_some _ e⟩
    · rename_i hk
      rw [if_neg hk] at e
      exact jan r h acc ha e
theorem Yw {M:Model} {A:Around} {E:Value->Shared->Prop} {s:Shared} {scope:Scope} {globals:Addr} {closure:List (Str × Addr)} {qual:Str} {func:Option Addr} {code:Value} {outer:Env} {builtins:Addr} {Q:Env->Shared->Prop}
    (hQ:Q (newEnv scope s.heap.objs.size globals (cellsFrom (s.heap.objs.size + 1) scope.names closure) qual func code (some outer) builtins) { s with heap:=pushCells (s.heap.push { cls:=.type "dict",data:=.dict #[] }) scope.names }) :
    wpAny M A (newFunctionEnv scope globals closure [] qual func code (some outer) builtins) Q E s:=by
  simp only [newFunctionEnv,Option.isSome_some,if_true]
  refine wpAny_bind (wpAny_alloc ?_)
  refine wpAny_bind (wpAny_layCells _ (fun name kind cells=>by cases hkc:kind == NameKind.cell <;> simp [hkc]) _ _ _ _ ?_)
  rw [show ({ s with heap:=s.heap.push { cls:=.type "dict",data:=.dict #[] } }:Shared).heap.objs.size=s.heap.objs.size + 1 from Heap.size_push ..]
  rw [List.forIn_nil]
  exact wpAny_bind (wpAny_pure (wpAny_pure hQ))
theorem jia {h:Heap} {c:Addr} {m:Str->Option Value} (names:List (Str × NameKind)) (n:h.Ns c m):(pushCells h names).Ns c m:=n.keeps (fun b o e=>pushCells_keeps names h b o e)
section
variable {X:Cx} {pins:List (Addr × Obj)} {σ:St} {H:Hp} {s:Shared} {osc sc:Scope} {own fr:List Str} {js:List Nat} {fp:List Addr}
theorem jgS (I:Inv X pins σ H s) (ho:X.env.scope=osc) (S:CompScope osc sc own fr):∀ y ∈ sc.names,y.2 = .free->∃ c,X.env.cells.lookup y.1=some c:=fun y hy e=>by
  refine I.ok.has y.1 ?_
  have h:=S.free y hy e
  rw [<- ho] at h
  exact h
theorem JZ (I:Inv X pins σ H s) (ho:X.env.scope=osc) (S:CompScope osc sc own fr) {x:Str} {c:Addr} (e:(uK sc X.env).lookup x=some c):X.env.cells.lookup x=some c :=
  Xw sc.names [] (jgS I ho S) (fun z=>by cases z) e
theorem jcj (S:CompScope osc sc own fr) {x:Str} (h:sc.names.lookup x=some .free):∃ c,(uK sc X.env).lookup x=some c :=
  Xx sc.names [] (.inr (PySem.mem_of_lookup h))
theorem jco {n:Nat} (I:Inv X pins σ H s) (ho:X.env.scope=osc) (S:CompScope osc sc own fr) {x:Str} {c:Addr} (e:(cellsFrom n sc.names (uK sc X.env)).lookup x=some c):X.env.cells.lookup x=some c∨n<=c:=by
  rcases cf_sub e with h | h
  · exact .inl (JZ I ho S h.1)
  · exact .inr h.1
theorem jiG (I:Inv X pins σ H s) {x:Str} {c:Addr} (e:X.env.cells.lookup x=some c):c < s.heap.objs.size:=by
  obtain ⟨v,hv⟩:=I.cell x c e
  exact hv.lt
theorem jcg (S:CompScope osc sc own fr) {x:Str} (h:sc.names.lookup x=some .free):(x,NameKind.cell) ∉ sc.names:=fun z=>by
  have:=S.cel _ z rfl
  rw [h] at this
  cases this
theorem jar (S:CompScope osc sc own fr) {x:Str} (n:Nat) (h:sc.names.lookup x=some .free):(cellsFrom n sc.names (uK sc X.env)).lookup x=(uK sc X.env).lookup x:=JB (jcg S h)
theorem jiC (I:Inv X pins σ H s) (ho:X.env.scope=osc) (S:CompScope osc sc own fr) (hf:∀ b ∈ fp,uy X pins H b) (hlt:∀ b ∈ fp,b < s.heap.objs.size) (N':List Str):(jT X N' sc s H fp).Ok where
  mod:=I.ok.mod
  kind:=S.kind
  glob:=I.ok.glob
  blt:=I.ok.blt
  above:=Nat.le_refl _
  inj:=jcm _ _ _ (fun x c e=>Nat.lt_succ_of_lt (jiG I (JZ I ho S e))) fun x y c h1 h2=>I.ok.inj x y c (JZ I ho S h1) (JZ I ho S h2)
  has:=fun x h=>by
    have h:(relabel sc X.env).names.lookup x=some .cell∨(relabel sc X.env).names.lookup x=some .free:=h
    rcases h with h | h
    · rcases xO h with h | ⟨_,h⟩
      · obtain ⟨c,e,_⟩:=Xy (n:=s.heap.objs.size + 1) (acc:=uK sc X.env) (PySem.mem_of_lookup h)
        exact ⟨c,e⟩
      · obtain ⟨c,e⟩:=jcj (X:=X) S h
        exact ⟨c,(jar S _ h).trans e⟩
    · rcases xO h with h | ⟨e,_⟩
      · obtain ⟨c,e⟩:=jcj (X:=X) S h
        exact ⟨c,(jar S _ h).trans e⟩
      · cases e
  cab:=fun x c h e=>by
    have h:(sc.names.lookup x == some .cell)=true:=h
    have h:sc.names.lookup x=some .cell:=by simpa using h
    obtain ⟨c',e',l⟩:=Xy (n:=s.heap.objs.size + 1) (acc:=uK sc X.env) (PySem.mem_of_lookup h)
    have e:(cellsFrom (s.heap.objs.size + 1) sc.names (uK sc X.env)).lookup x=some c:=e
    rw [e] at e'
    cases e'
    exact Nat.le_of_succ_le l
  hd:=I.ok.hd
  frames:=I.ok.frames
  stk:=.inl rfl
  exf:=fun b hb=>⟨Nat.ne_of_lt (hlt b hb),fun x c e=>by
    rcases jco I ho S e with z | z
    · exact (hf b hb).2.2.2.2.1 x c z
    · exact Nat.ne_of_gt (Nat.lt_trans (hlt b hb) z)⟩
  bs:=fun b o e=>I.bs b o e
  bsz:=Nat.le_trans I.ok.bsz I.sz
  noex:=fun b o e hb=>by
    have h:=I.ok.noex b o e
    have h2:=(hf b hb).2.2.2.1
    rcases h2 with h2 | h2
    · exact h h2
    · have hb2:b < X.base.objs.size:=Heap.lt_size e
      exact absurd (Nat.lt_of_lt_of_le hb2 (Nat.le_trans I.ok.bsz h2)) (Nat.lt_irrefl _)
  exfs:=fun b hb hm=>by
    have:=I.stkSub b hm
    rcases List.mem_cons.mp this with z | z
    · exact (hf b hb).2.1 z
    · exact (hf b hb).2.2.1 z
  funs:=I.stack
  frf:=I.stkFree
theorem jfW {h':Heap} {tk:Nat} (I:Inv X pins σ H s) (ho:X.env.scope=osc) (S:CompScope osc sc own fr) (hj:js.map (fun j=>X.N[j]?)=fr.map some) (hf:∀ b ∈ fp,uy X pins H b) (hlt:∀ b ∈ fp,b < s.heap.objs.size)
    (hn:h'.Ns s.heap.objs.size fun _=>none) (hk:∀ b o,s.heap.get? b=some o->h'.get? b=some o) (hcl:∀ x c,(cellsFrom (s.heap.objs.size + 1) sc.names (uK sc X.env)).lookup x=some c->∃ v,h'.IsCell c v):Inv (jT X (own ++ fr) sc s H fp) [] (vE own.length js σ) H { s with heap:=h',toks:=tk }:=by
  refine ⟨jiC I ho S hf hlt _,rfl,I.bare,Un.kept hk,⟨_,hn,fun i x v h1 h2 h3=>?_⟩,fun x c e=>?_,I.hok.fresh (Nat.le_refl _),fun x c e=>(jco I ho S e).elim (fun z=>I.freeC x c z) (fun z=>I.hok.fresh (Nat.le_of_succ_le z)),fun p hp=>absurd (show p ∈ ([]:List (Addr × Obj)) from hp) (by simp),I.hok.kept hk,?_⟩
  · have h1:(own ++ fr)[i]? = some x:=h1
    by_cases hi:i < own.length
    · unfold vE at h2
      rw [List.getElem?_append_left (by simpa using hi),List.getElem?_replicate] at h2
      split at h2 <;> cases h2
    · have hi':own.length<=i:=Nat.le_of_not_lt hi
      rw [List.getElem?_append_right hi'] at h1
      unfold vE at h2
      rw [List.getElem?_append_right (by simpa using hi'),List.length_replicate,List.getElem?_map] at h2
      have hx:=congrArg (fun l:List (Option Str)=>l[i - own.length]?) hj
      simp only [List.getElem?_map,h1,Option.map_some] at hx
      cases ej:js[i - own.length]? with
      | none=>rw [ej] at hx; cases hx
      | some j =>
        rw [ej] at hx h2
        simp only [Option.map_some,Option.some.injEq] at hx h2
        have hsv:σ[j]? = some (some v):=by
          cases es:σ[j]? with
          | none=>rw [es] at h2; cases h2
          | some z=>rw [es] at h2; simp only [Option.getD_some] at h2; rw [h2]
        have hxf:=S.nfr x (List.mem_of_getElem? h1)
        obtain ⟨m,hm,hl⟩:=I.loc
        have hv:Vis X.env.scope x:=by
          rw [ho]
          rcases hxf.1 with z | z
          · exact .inr (.inl z)
          · exact .inr (.inr z)
        obtain ⟨u,ru,lk⟩:=hl j x v hx hsv hv
        refine ⟨u,ru,.inr ⟨xz hxf.2,?_⟩⟩
        rcases lk with ⟨lk,_⟩ | ⟨_,c,ec,ic⟩
        · have lk:X.env.scope.names.lookup x=some .local:=lk
          rw [ho] at lk
          rcases hxf.1 with z | z <;> (rw [lk] at z; cases z)
        · obtain ⟨c',e'⟩:=jcj (X:=X) S hxf.2
          have e2:=JZ I ho S e'
          rw [ec] at e2
          cases e2
          exact ⟨c,(jar S _ hxf.2).trans e',ic.keeps hk⟩
  · exact hcl x c e
  · have e:=congrArg List.length hj
    simp only [List.length_map] at e
    show (vE own.length js σ).length=(own ++ fr).length
    unfold vE
    simp only [List.length_append,List.length_replicate,List.length_map,e]
end
end L2

namespace L2
open PySem PySem.Spec PyProof.Rows
def jhc (J:It) (acc:Addr) (own:Nat) (js:List Nat) (g:TG) (tt:TT) (te:TE) (σ:St) (Q:VK) (H1:Hp):Prop :=
  ∃ W:Nat->Nat->List V->Hp->Prop,(∃ m,W 0 m [] (upd H1 acc (.lst [])))∧∀ i m xs H2,W i m xs H2->(J.stop i H2∧Q (.ref acc) H2) ∨
    (J.go i H2∧xs.length < sizeLine∧∃ N:List V->Hp->Prop,(∀ ys H',N ys H'->∃ m',m' < m∧W (i + 1) m' ys H')∧∀ x H3,J.yld i H2 x H3->g x (vE own js σ) H3 fun σ4 H4=>XN (vE own js σ) σ4∧tt σ4 H4 fun b H5 =>
      if b=true then te σ4 H5 fun y H6=>H6 acc=some (.lst xs)∧N (xs ++ [y]) (upd H6 acc (.lst (xs ++ [y]))) else N xs H5)
def jaA (wi:TI) (own:Nat) (js:List Nat) (g:TG) (tt:TT) (te:TE):TE:=fun σ H Q=>wi σ H fun J H1=>∀ acc,H1 acc=none->jhc J acc own js g tt te σ Q H1
def PIf (X:Cx) (ifs:List Expr) (tt:TT):Prop :=
  ∀ (pins:List (Addr × Obj)) (s:Shared) (σ:St) (H:Hp) (Q:Bool->Hp->Prop),Inv X pins σ H s->tt σ H Q ->
    wpAny (model X.prog X.w) X.A (forIn ifs true fun c r=>if r=true then do let ok <- isTrue c X.env (eval c X.env); pure (ForInStep.yield ok) else pure (ForInStep.yield r)) (TP X pins σ Q) X.xe s
def tTrue:TT:=fun _ H Q=>Q true H
theorem if_nil {X:Cx}:PIf X [] tTrue:=fun pins s σ H Q I h=>wpAny_tests_nil ⟨H,I,h⟩
theorem if_one {X:Cx} {c:Expr} {tc:TT} (h:PT X c tc):PIf X [c] tc:=fun pins s σ H Q I q=>wpAny_tests_one (h pins s σ H Q I q)
section
variable {X:Cx} {pins:List (Addr × Obj)} {σ:St} {H:Hp} {s:Shared} {osc sc:Scope} {own fr:List Str} {js:List Nat} {fp:List Addr}
theorem jef {acc:Addr} {s':Shared} {σ':St} {H':Hp} {N':List Str} (I:Inv X pins σ H s) (hacc:acc=s.heap.objs.size) {tk:Nat} (hf:∀ b ∈ fp,uy X pins H b)
    (J:Inv (jT X N' sc { s with heap:=s.heap.push { cls:=.type "list",data:=.seq ([]:List Value).toArray },toks:=tk } (upd H acc (.lst [])) fp) [] σ' H' s'):Inv X pins σ H' s':=by
  subst hacc
  refine I.call' J.os ?_ J.hok J.bare fun b hb=>⟨(hf b hb).2.2.2.1,(hf b hb).2.1,(hf b hb).2.2.2.2.1,(hf b hb).2.2.2.2.2⟩
  exact Un.trans (Un.laid (o:=.lst []) (fun b u e=>Heap.get?_push_of_some _ e) (Nat.le_refl _) (I.hok.fresh (Nat.le_refl _))) J.base
theorem Ud {elt target iter:Expr} {ifs:List Expr} {pos:Pos} {it:Addr} {tn:Nat->Heap->Prop} {J:It} {g:TG} {tt:TT} {te:TE} {Q:VK} {RR:Value->Addr->Result->Shared->Prop} {E:Value->Shared->Prop}
    (hc:X.calm=true) (ho:X.env.scope=osc) (S:CompScope osc sc own fr) (hj:js.map (fun j=>X.N[j]?)=fr.map some)
    (hg:∀ s₃ H₃ fp,PG (jT X (own ++ fr) sc s₃ H₃ fp) target g) (ht:∀ s₃ H₃ fp,PIf (jT X (own ++ fr) sc s₃ H₃ fp) ifs tt) (he:∀ s₃ H₃ fp,PE (jT X (own ++ fr) sc s₃ H₃ fp) elt te)
    (I:Inv X pins σ H s) (T:Turn X.prog X.w X.K target J fp it tn) (st:tn 0 s.heap) (hf:∀ b ∈ fp,uy X pins H b)
    (h:∀ acc,H acc=none->jhc J acc own.length js g tt te σ Q H)
    (fin:∀ acc C H' s',Inv X pins σ H' s'->uy X pins H' C->(∃ m,s'.heap.Ns C m)->Q (.ref acc) H'->RR (.ref acc) C (.ok .next) s') :
    wpAny (model X.prog X.w) X.A (newList []) (fun acc s₃=>wpAny (model X.prog X.w) X.A (newFunctionEnv sc X.env.globals (uK sc X.env) [] X.env.qual none .none (some X.env)) (fun cenv s₄ =>
      codeAny (model X.prog X.w) X.A (.compStart (.ListComp elt [⟨target,iter,ifs,0⟩] sc pos) 0 (.ref it) acc { cenv with scope:=relabel sc X.env }) (RR acc cenv.locals) s₄) E s₃) E s:=by
  obtain ⟨W,⟨m0,w0⟩,turn⟩:=h s.heap.objs.size (I.hok.fresh (Nat.le_refl _))
  have hlt:∀ b ∈ fp,b < s.heap.objs.size:=fun b hb=>by
    obtain ⟨o,e,_⟩:=T.obj _ _ st b hb
    exact Heap.lt_size e
  refine wpAny_newList ?_
  have I3:Inv X pins σ (upd H s.heap.objs.size (.lst [])) { s with heap:=s.heap.push { cls:=.type "list",data:=.seq ([]:List Value).toArray } }:=I.lnew (its:=[]) (ys:=[]) (t':=s.toks) .nil (Nat.zero_le _)
  have f3:∀ b ∈ fp,uy X pins (upd H s.heap.objs.size (.lst [])) b:=fun b hb=>⟨by rw [jm (Nat.ne_of_lt (hlt b hb))]; exact (hf b hb).1,(hf b hb).2⟩
  have hsz3:(s.heap.push { cls:=.type "list",data:=.seq ([]:List Value).toArray }).objs.size=s.heap.objs.size + 1:=Heap.size_push ..
  refine Yw ?_
  dsimp only
  obtain ⟨h₁,e₁⟩:∃ h₁,h₁=pushCells ((s.heap.push { cls:=.type "list",data:=.seq ([]:List Value).toArray }).push { cls:=.type "dict",data:=.dict #[] }) sc.names:=⟨_,rfl⟩
  rw [<- e₁]
  have hns₁:h₁.Ns (s.heap.push { cls:=.type "list",data:=.seq ([]:List Value).toArray }).objs.size fun _=>none:=by
    rw [e₁]
    exact jia _ (Heap.Ns.new ..)
  have old:∀ b o,(s.heap.push { cls:=.type "list",data:=.seq ([]:List Value).toArray }).get? b=some o->h₁.get? b=some o:=fun b o e=>by
    rw [e₁]
    exact pushCells_keeps _ _ _ _ (Heap.get?_push_of_some _ e)
  have cel₁:∀ x c,(cellsFrom ((s.heap.push { cls:=.type "list",data:=.seq ([]:List Value).toArray }).objs.size + 1) sc.names (uK sc X.env)).lookup x=some c->∃ v,h₁.IsCell c v:=fun x c e=>by
    rw [e₁]
    refine jan sc.names _ (uK sc X.env) (fun y d q=>?_) (by rw [Heap.size_push]; exact e)
    obtain ⟨v,hv⟩:=I3.cell y d (JZ I3 ho S q)
    exact ⟨v,hv.keeps fun b o e=>Heap.get?_push_of_some _ e⟩
  have lt3:∀ b ∈ fp,b < (s.heap.push { cls:=.type "list",data:=.seq ([]:List Value).toArray }).objs.size:=fun b hb=>by rw [hsz3]; exact Nat.lt_succ_of_lt (hlt b hb)
  have I4:=jfW (own:=own) (fr:=fr) (js:=js) (tk:=s.toks) I3 ho S hj f3 lt3 hns₁ old cel₁
  have st4:tn 0 h₁:=T.keep _ _ _ st fun b _ o e=>old b o (Heap.get?_push_of_some _ e)
  have fpX:∀ {H':Hp},(∀ b ∈ fp,H' b=none)->∀ b ∈ fp,uy (jT X (own ++ fr) sc { s with heap:=s.heap.push { cls:=.type "list",data:=.seq ([]:List Value).toArray } } (upd H s.heap.objs.size (.lst [])) fp) [] H' b:=fun hn b hb =>
    ⟨hn b hb,Nat.ne_of_lt (lt3 b hb),fun hm=>by
      rcases List.mem_cons.mp (I.stkSub b hm) with z | z
      · exact (hf b hb).2.1 z
      · exact (hf b hb).2.2.1 z,.inl hb,fun x c e=>(jco I3 ho S e).elim (fun z=>(hf b hb).2.2.2.2.1 x c z) (fun z=>Nat.ne_of_gt (Nat.lt_trans (lt3 b hb) z)),fun p hp=>absurd (show p ∈ ([]:List (Addr × Obj)) from hp) (by simp)⟩
  have loop:∀ s₃:Shared,s₃={ s with heap:=h₁ } ->
      codeAny (model X.prog X.w) X.A (.compLoop (.ListComp elt [⟨target,iter,ifs,0⟩] sc pos) 0 (.ref it) (.ref s.heap.objs.size) (compEnvC sc (cellsFrom ((s.heap.push { cls:=.type "list",data:=.seq ([]:List Value).toArray }).objs.size + 1) sc.names (uK sc X.env)) (s.heap.push { cls:=.type "list",data:=.seq ([]:List Value).toArray }).objs.size X.env))
        (RR (.ref s.heap.objs.size) (s.heap.push { cls:=.type "list",data:=.seq ([]:List Value).toArray }).objs.size) s₃:=by
    rintro s₃ rfl
    refine jak (fun n s'=>∃ i xs σ' H',Inv (jT X (own ++ fr) sc { s with heap:=s.heap.push { cls:=.type "list",data:=.seq ([]:List Value).toArray } } (upd H s.heap.objs.size (.lst [])) fp) [] σ' H' s'∧XN (vE own.length js σ) σ'∧tn i s'.heap∧(∀ b ∈ fp,H' b=none)∧W i n xs H')
      ?_ m0 ⟨0,[],_,_,I4,XN.refl _,st4,fun b hb=>(f3 b hb).1,w0⟩
    rintro n s5 ⟨i,xs,σ5,H5,I5,k5,st5,fr5,w5⟩
    have I5':=I5.weak (σ':=vE own.length js σ) k5.1.symm k5.2
    have hc':(jT X (own ++ fr) sc { s with heap:=s.heap.push { cls:=.type "list",data:=.seq ([]:List Value).toArray } } (upd H s.heap.objs.size (.lst [])) fp).calm=true:=hc
    rcases turn i n xs H5 w5 with ⟨stop,qn⟩ | ⟨go,hz,N,hN,step⟩
    · refine thn (T.done (jT X (own ++ fr) sc { s with heap:=s.heap.push { cls:=.type "list",data:=.seq ([]:List Value).toArray } } (upd H s.heap.objs.size (.lst [])) fp) rfl rfl rfl hc' i [] s5 _ H5 _ I5' (fpX fr5) st5 stop) fun r s6 hQQ=>?_
      obtain ⟨hr,I6⟩:=hQQ
      subst hr
      have B:=jef I rfl (tk:=s.toks) hf I6
      refine fin _ _ H5 s6 B ?_ ?_ qn
      · refine I.fpOk ?_ I6.free
        show s.heap.objs.size<=(s.heap.push { cls:=.type "list",data:=.seq ([]:List Value).toArray }).objs.size
        rw [hsz3]
        exact Nat.le_succ _
      · obtain ⟨m,hm,_⟩:=I6.loc
        exact ⟨m,hm⟩
    · refine thn (T.item (jT X (own ++ fr) sc { s with heap:=s.heap.push { cls:=.type "list",data:=.seq ([]:List Value).toArray } } (upd H s.heap.objs.size (.lst [])) fp) rfl rfl rfl hc' i [] s5 _ H5 _ I5' (fpX fr5) st5 go) fun r s6 hQQ=>?_
      obtain ⟨u,hr,h6⟩:=hQQ
      subst hr
      refine thn h6 fun _ s7 hQQ=>?_
      obtain ⟨x,H7,I7,r7,y7,st7,fr7⟩:=hQQ
      have I7':=I7.pinned (fpX fr7) (T.obj _ _ st7)
      have again:∀ {s9:Shared} {σ9:St} {H9:Hp} {ys:List V} {m':Nat},Inv (jT X (own ++ fr) sc { s with heap:=s.heap.push { cls:=.type "list",data:=.seq ([]:List Value).toArray } } (upd H s.heap.objs.size (.lst [])) fp) ([] ++ YS fp s7.heap) σ9 H9 s9 ->
          XN (vE own.length js σ) σ9->m' < n->W (i + 1) m' ys H9->∃ m,m < n∧∃ i xs σ' H',Inv (jT X (own ++ fr) sc { s with heap:=s.heap.push { cls:=.type "list",data:=.seq ([]:List Value).toArray } } (upd H s.heap.objs.size (.lst [])) fp) [] σ' H' s9∧XN (vE own.length js σ) σ'∧tn i s9.heap∧(∀ b ∈ fp,H' b=none)∧W i m xs H':=fun {s9 σ9 H9 ys m'} I9 k9 hm w9=>by
        refine ⟨m',hm,i + 1,ys,σ9,H9,I9.unpinned,k9,T.keep _ _ _ st7 fun b hb o e=>(I9.pin (b,o) (List.mem_append_right _ (List.mem_append_right _ (vS hb e)))).1,fun b hb=>?_,w9⟩
        obtain ⟨o,e,d⟩:=T.obj _ _ st7 b hb
        exact (I9.pin (b,o) (List.mem_append_right _ (List.mem_append_right _ (vS hb e)))).2.1
      refine thn (hg _ _ _ _ s7 _ H7 x u _ I7' r7 (step x H7 y7)) fun _ s8 hQQ=>?_
      obtain ⟨σ8,H8,I8,k8,q8⟩:=hQQ
      refine thn (ht _ _ _ _ s8 σ8 H8 _ I8 q8) fun b s9 hQQ=>?_
      obtain ⟨H9,I9,q9⟩:=hQQ
      cases b with
      | false =>
        rw [if_neg (by simp)]
        rw [if_neg (by simp)] at q9
        obtain ⟨m',hm,w9⟩:=hN _ _ q9
        exact again I9 k8 hm w9
      | true =>
        rw [if_pos rfl]
        rw [if_pos rfl] at q9
        refine thn (he _ _ _ _ s9 σ8 H9 _ I9 q9) fun y s10 hQQ=>?_
        obtain ⟨v,H10,I10,r10,a10,n10⟩:=hQQ
        obtain ⟨m',hm,w10⟩:=hN _ _ n10
        refine thn (VJ _ s10 σ8 H10 (.ref s.heap.objs.size) [v] (.ref s.heap.objs.size) [y] (fun z H11=>z = .non∧H11=upd H10 s.heap.objs.size (.lst (xs ++ [v]))) I10 rfl (.cons r10 .nil) ⟨_,xs,v,rfl,rfl,a10,hz,rfl,rfl⟩) fun z s11 hQQ=>?_
        obtain ⟨z',H11,I11,_,_,e11⟩:=hQQ
        subst e11
        exact again I11 k8 hm w10
  exact codeAny_compStart_list (loop _ rfl) (T.self _ 0 _ _ _ st4 (loop _ rfl))
end
section
variable {X:Cx} {osc sc:Scope} {own fr:List Str} {js:List Nat} {elt target iter:Expr} {ifs:List Expr} {pos:Pos} {wi:TI} {g:TG} {tt:TT} {te:TE}
theorem jhP (hc:X.calm=true) (ho:X.env.scope=osc) (S:CompScope osc sc own fr) (hj:js.map (fun j=>X.N[j]?)=fr.map some) (hi:PI X target iter wi)
    (hg:∀ s₃ H₃ fp,PG (jT X (own ++ fr) sc s₃ H₃ fp) target g) (ht:∀ s₃ H₃ fp,PIf (jT X (own ++ fr) sc s₃ H₃ fp) ifs tt) (he:∀ s₃ H₃ fp,PE (jT X (own ++ fr) sc s₃ H₃ fp) elt te)
    (hs:∀ x,foldedSetIterable iter X.env x=pure x:=by intro _; rfl):PE X (.ListComp elt [⟨target,iter,ifs,0⟩] sc pos) (jaA wi own.length js g tt te):=by
  intro pins s σ H Q I h
  rw [eval_ListComp]
  refine wpAny_comprehension_free (use:=none) rfl hs (Xv (jgS I ho S)) S.kind S.loc (thn (hi pins s σ H _ I h) fun v s1 h1=>thn h1 fun itv s2 h2=>?_)
  obtain ⟨it,fp,tn,J,H2,e,I2,T,st2,f2,q2⟩:=h2
  subst e
  refine Ud (RR:=fun acc C=>compPost (model X.prog X.w) X.A X.xe none (EP X pins σ Q) acc C) hc ho S hj hg ht he I2 T st2 f2 q2 fun acc C H' s' J hC hn q=>?_
  obtain ⟨m,hm⟩:=hn
  refine ⟨m,hm,fun h' hs'=>⟨.ref acc,H',?_,rfl,q⟩⟩
  obtain ⟨f0,f1,f2',f3,f4,f5⟩:=hC
  exact J.turned (t':=s'.toks) (fun b o hb e=>hs'.extBut b o hb e) f0 f1 f3 f4 f5
theorem jhH {i:Nat} {x:Str} {px spos:Pos} (hc:X.calm=true) (ho:X.env.scope=osc) (S:CompScope osc sc own fr) (hj:js.map (fun j=>X.N[j]?)=fr.map some) (hN:X.N.Nodup) (hi':X.N[i]? = some x) (hx:X.env.scope.names.lookup x=some .local)
    (hi:PI X target iter wi) (hg:∀ s₃ H₃ fp,PG (jT X (own ++ fr) sc s₃ H₃ fp) target g) (ht:∀ s₃ H₃ fp,PIf (jT X (own ++ fr) sc s₃ H₃ fp) ifs tt) (he:∀ s₃ H₃ fp,PE (jT X (own ++ fr) sc s₃ H₃ fp) elt te)
    (hsw:swapsWith (.ListComp elt [⟨target,iter,ifs,0⟩] sc pos) (some (.Name x px)) spos.line X.env=pure true)
    (hs:∀ x,foldedSetIterable iter X.env x=pure x:=by intro _; rfl):PS X (.Assign [.Name x px] (.ListComp elt [⟨target,iter,ifs,0⟩] sc pos) spos) (jhh (jaA wi own.length js g tt te) (uN i)):=by
  intro pins s σ H D I h
  rw [exec_Assign_Name_used _ _ _ _ hsw]
  refine wpAny_bind (wpAny_standAt (wpAny_bind ?_))
  show wpAny _ X.A (do let _ <- comprehension (.ListComp elt [⟨target,iter,ifs,0⟩] sc pos) sc X.env _ (newList []) false (eval iter X.env) (some (assign (.Name x px) X.env))) _ _ s
  refine wpAny_bind (wpAny_mono (wpAny_comprehension_free (use:=some (assign (.Name x px) X.env)) (Q:=fun _ s'=>SP X pins D .next s') rfl hs (Xv (jgS I ho S)) S.kind S.loc (thn (hi pins s σ H _ I h) fun v s1 h1=>thn h1 fun itv s2 h2=>?_))
    (fun _ s' hq=>wpAny_pure (wpAny_pure hq)) fun _ _ e=>e)
  obtain ⟨it,fp,tn,J,H2,e,I2,T,st2,f2,q2⟩:=h2
  subst e
  refine Ud (Q:=fun v H'=>uN i v σ H' D.nx) (RR:=fun acc C=>compPost (model X.prog X.w) X.A X.xe (some (assign (.Name x px) X.env)) (fun _ s'=>SP X pins D .next s') acc C) hc ho S hj hg ht he I2 T st2 f2 q2 fun acc C H' s' J hC hn q=>?_
  obtain ⟨m,hm⟩:=hn
  obtain ⟨f0,f1,f2',f3,f4,f5⟩:=hC
  show wpAny _ X.A (assign (.Name x px) X.env (.ref acc)) _ _ _
  refine wpAny_assign_Name (XT J hN hi' (.inl hx) (v:=.ref acc) rfl (fun s'' J' hsb=>?_) (.inr hx))
  obtain ⟨a,hsb,ha⟩:=hsb
  have hCa:C≠a:=by
    rcases ha with rfl | ha
    · exact f1
    · exact (f4 x a ha).symm
  refine ⟨m,hm.sameBut hsb hCa,fun h' hs'=>⟨_,H',?_,q⟩⟩
  exact J'.turned (t':=s''.toks) (fun b o hb e=>hs'.extBut b o hb e) f0 f1 f3 f4 f5
end
end L2

namespace L2
open PySem PySem.Spec PyProof.Rows
section
variable {X:Cx}
theorem Jq:∀ {ns:List Int} {us:List Value},yj (ns.map V.int) us->IntsAre us ns:=fun h=>jcd h
theorem min_at {xs:Array (Int × Tok)} (h:0 < xs.size):numAt xs (argBest (fun i j=>decide (numAt xs i < numAt xs j)) (xs.size - 1)) ∈ xs.toList.map (·.1) ∧
    ∀ a ∈ xs.toList.map (·.1),numAt xs (argBest (fun i j=>decide (numAt xs i < numAt xs j)) (xs.size - 1))<=a:=by
  obtain ⟨h1,h2⟩:=argBest_lt (numAt xs) (xs.size - 1)
  refine ⟨?_,fun a ha=>?_⟩
  · rw [numAt_eq]; exact PySem.getD_mem (by rw [List.length_map,Array.length_toList]; omega)
  · obtain ⟨j,hj,rfl⟩:=PySem.mem_getD ha
    rw [List.length_map,Array.length_toList] at hj
    rw [<- numAt_eq]; exact h2 j (by omega)
theorem max_at {xs:Array (Int × Tok)} (h:0 < xs.size):numAt xs (argBest (fun i j=>decide (numAt xs i > numAt xs j)) (xs.size - 1)) ∈ xs.toList.map (·.1) ∧
    ∀ a ∈ xs.toList.map (·.1),a<=numAt xs (argBest (fun i j=>decide (numAt xs i > numAt xs j)) (xs.size - 1)):=by
  obtain ⟨h1,h2⟩:=argBest_gt (numAt xs) (xs.size - 1)
  refine ⟨?_,fun a ha=>?_⟩
  · rw [numAt_eq]; exact PySem.getD_mem (by rw [List.length_map,Array.length_toList]; omega)
  · obtain ⟨j,hj,rfl⟩:=PySem.mem_getD ha
    rw [List.length_map,Array.length_toList] at hj
    rw [<- numAt_eq]; exact h2 j (by omega)
theorem jej (hc:X.calm=true):yx X (.builtin "min") (fun xs H Q=>∃ (p:Addr) (ns:List Int),xs=[.ref p]∧SqL X.K H p (ns.map V.int)∧0 < ns.length∧∀ M:Int,M ∈ ns->(∀ a ∈ ns,M<=a)->Q (.int M) H):=by
  intro pins s σ H xs us Q I r h
  obtain ⟨p,ns,rfl,hq,hne,q⟩:=h
  obtain ⟨u,rfl,rx⟩:=Yx r
  cases rx
  obtain ⟨its,r',pl,hz⟩:=I.list hq
  have hI:=Jq r'
  obtain ⟨ys,e⟩:=hI.allInts.items
  have hns:ns=ys.toList.map (·.1):=by rw [<- hI.numsOf,<- nums_intItems,<- e]
  have hsz:0 < ys.size:=by
    have h3:=hne; rw [hns,List.length_map,Array.length_toList] at h3; exact h3
  have hl:=pl.isList
  rw [e] at hl
  refine min_intList (I.ok.hd hc) hl hsz fun v h' tk hv hk=>?_
  obtain ⟨t,rfl⟩:=intItems_at hv
  obtain ⟨m1,m2⟩:=min_at hsz
  exact ⟨.int _,H,I.kept hk,⟨t,rfl⟩,q _ (by rw [hns]; exact m1) (by rw [hns]; exact m2)⟩
theorem jel (hc:X.calm=true):yx X (.builtin "max") (fun xs H Q=>∃ (p:Addr) (ns:List Int),xs=[.ref p]∧SqL X.K H p (ns.map V.int)∧0 < ns.length∧∀ M:Int,M ∈ ns->(∀ a ∈ ns,a<=M)->Q (.int M) H):=by
  intro pins s σ H xs us Q I r h
  obtain ⟨p,ns,rfl,hq,hne,q⟩:=h
  obtain ⟨u,rfl,rx⟩:=Yx r
  cases rx
  obtain ⟨its,r',pl,hz⟩:=I.list hq
  have hI:=Jq r'
  obtain ⟨ys,e⟩:=hI.allInts.items
  have hns:ns=ys.toList.map (·.1):=by rw [<- hI.numsOf,<- nums_intItems,<- e]
  have hsz:0 < ys.size:=by
    have h3:=hne; rw [hns,List.length_map,Array.length_toList] at h3; exact h3
  have hl:=pl.isList
  rw [e] at hl
  refine max_intList (I.ok.hd hc) hl hsz fun v h' tk hv hk=>?_
  obtain ⟨t,rfl⟩:=intItems_at hv
  obtain ⟨m1,m2⟩:=max_at hsz
  exact ⟨.int _,H,I.kept hk,⟨t,rfl⟩,q _ (by rw [hns]; exact m1) (by rw [hns]; exact m2)⟩
theorem Yo:∀ {xs:List V} {us:List Value},yj xs us->∀ (j:Nat) (h:j < us.length),yl (xs.getD j .non) us[j]
  | _,_,.nil,j,h=>absurd h (Nat.not_lt_zero _)
  | _ :: _,_ :: _,.cons r t,0,_=>r
  | _ :: _,_ :: _,.cons r t,j + 1,h=>by
    have:=Yo t j (Nat.lt_of_succ_lt_succ h)
    simpa using this
theorem Up {α:Type} (d:α) (f:α->Bool):∀ (bs:List α),((List.range bs.length).all fun i=>f (bs.getD i d))=bs.all f
  | []=>rfl
  | b :: r=>by
    rw [List.length_cons,List.range_succ_eq_map,List.all_cons,List.all_map,List.all_cons]
    have ih:=Up d f r
    rw [<- ih]
    rfl
theorem jeo (hc:X.calm=true):yx X (.builtin "all") (fun xs H Q=>∃ (p:Addr) (bs:List Bool),xs=[.ref p]∧SqL X.K H p (bs.map V.bl)∧Q (.bl (bs.all id)) H):=by
  intro pins s σ H xs us Q I r h
  obtain ⟨p,bs,rfl,hq,q⟩:=h
  obtain ⟨u,rfl,rx⟩:=Yx r
  cases rx
  obtain ⟨its,r',pl,hz⟩:=I.list hq
  have hlen:=r'.length
  rw [List.length_map] at hlen
  have hlt:p < s.heap.objs.size:=by obtain ⟨_,e,_⟩:=pl.isList; exact Heap.lt_size e
  refine call_all_walk (wpAny_pyIter_list pl.isList ?_)
  refine ⟨_,_,_,_,_,_,fun i=>id (bs.getD i true),rfl,Walks.list (A:=X.A.in1) (I.ok.hd hc) _ p (Nat.ne_of_lt hlt) its.toArray,⟨⟨_,Heap.get?_push_size _ rfl,rfl,rfl⟩,pl.isList.push _⟩,?_,fun h' tk hk=>?_⟩
  · intro i v s' Q' E' hP hQ
    have hi:i < its.length:=by
      have:=(Array.getElem?_eq_some_iff.mp hP).1
      simpa using this
    have hv:v=its[i]:=by
      have:=(Array.getElem?_eq_some_iff.mp hP).2
      simpa using this.symm
    have rv:=Yo r' i hi
    have e:(bs.map V.bl).getD i .non=V.bl (bs.getD i true):=by
      rw [List.getD_eq_getElem?_getD,List.getD_eq_getElem?_getD,List.getElem?_map,List.getElem?_eq_getElem (by omega)]
      rfl
    rw [e] at rv
    have rv:its[i]=Value.bool (bs.getD i true):=rv
    rw [hv,rv]
    exact wpAny_truthy_bool hQ
  · have e:((List.range its.toArray.size).all fun i=>id (bs.getD i true))=bs.all id:=by
      rw [List.size_toArray,<- hlen]
      exact Up true id bs
    rw [e]
    exact ⟨.bl _,H,I.kept (old_kept hk),rfl,q⟩
def jbb:List V->List V->Bool
  | [],[]=>true
  | x :: xs,y :: ys=>eqV x y && jbb xs ys
  | _,_=>false
theorem jba:∀ {xs ys:List V},xs.length≠ys.length->jbb xs ys=false
  | [],[],h=>absurd rfl h
  | [],_ :: _,_=>rfl
  | _ :: _,[],_=>rfl
  | x :: xs,y :: ys,h=>by
    have:jbb xs ys=false:=jba fun e=>h (by simp [e])
    simp [jbb,this]
theorem Xl:∀ {xs ys:List V},xs.length=ys.length->((List.range xs.length).all fun i=>eqV (xs.getD i .non) (ys.getD i .non))=jbb xs ys
  | [],[],_=>rfl
  | x :: xs,y :: ys,h=>by
    rw [List.length_cons,List.range_succ_eq_map,List.all_cons,List.all_map]
    have ih:=Xl (xs:=xs) (ys:=ys) (by simpa using h)
    show (eqV x y && _)=(eqV x y && jbb xs ys)
    rw [<- ih]
    rfl
  | [],_ :: _,h=>by simp at h
  | _ :: _,[],h=>by simp at h
theorem VX {xs:List V} (h:xs.all Yh=true) (i:Nat):Yh (xs.getD i .non)=true:=by
  rw [List.getD_eq_getElem?_getD]
  cases e:xs[i]? with
  | none=>rfl
  | some v=>exact List.all_eq_true.mp h v (List.mem_of_getElem? e)
def rEqL (K:PySem.W.Frag) (neg:Bool):R2:=fun x y H Q=>∃ a b xs ys,x = .ref a∧y = .ref b∧SqL K H a xs∧SqL K H b ys∧xs.all Yh=true∧ys.all Yh=true∧Q (.bl (if neg then !jbb xs ys else jbb xs ys)) H
theorem jfO {pins:List (Addr × Obj)} {s:Shared} {σ:St} {H:Hp} {a b:Addr} {xs ys:List V} (I:Inv X pins σ H s) (ha:SqL X.K H a xs) (hb:SqL X.K H b ys) (fx:xs.all Yh=true) (fy:ys.all Yh=true) :
    ∃ items items2:Array Value,s.heap.IsList a items∧s.heap.IsList b items2∧items.size=xs.length∧items2.size=ys.length ∧
      ∀ A j (h1:j < items.size) (h2:j < items2.size),SeqAt.EqAt A s items[j] items2[j] (eqV (xs.getD j .non) (ys.getD j .non)):=by
  obtain ⟨its,r,pl,hz⟩:=I.list ha
  obtain ⟨its2,r2,pl2,hz2⟩:=I.list hb
  refine ⟨its.toArray,its2.toArray,pl.isList,pl2.isList,by simp [r.length],by simp [r2.length],fun A j h1 h2=>?_⟩
  have q1:=Yo r j (by simpa using h1)
  have q2:=Yo r2 j (by simpa using h2)
  have:=eqAt_V (A:=A) (s:=s) q1 q2 (VX fx j) (VX fy j)
  simpa using this
theorem op_neL (hu:X.A.units < cLine):OpR X (compareOp .NotEq) (rEqL X.K true):=by
  intro pins s σ H x y v u Q I rx ry h
  obtain ⟨a,b,xs,ys,rfl,rfl,ha,hb,fx,fy,q⟩:=h
  cases rx
  cases ry
  obtain ⟨items,items2,l1,l2,s1,s2,he⟩:=jfO I ha hb fx fy
  by_cases hl:xs.length=ys.length
  · refine SeqAt.RcNeAt.lists l1 l2 (by omega) hu (fun j h1 h2=>he _ j h1 h2) _ _ _ _ ⟨.bl _,H,I,rfl,?_⟩
    rw [s1,Xl hl]
    exact q
  · refine SeqAt.RcNeAt.lists_lengths l1 l2 (by simp; omega) hu _ _ _ _ ⟨.bl _,H,I,rfl,?_⟩
    rw [jba hl] at q
    exact q
theorem op_isB:OpR X (compareOp .Is) (fun x y H Q=>∃ a b,x = .bl a∧y = .bl b∧Q (.bl (a == b)) H):=by
  intro pins s σ H x y v u Q I rx ry h
  obtain ⟨a,b,rfl,rfl,q⟩:=h
  cases rx
  cases ry
  exact is_bool ⟨.bl _,H,I,rfl,q⟩
end
end L2

namespace L2
open PySem PySem.Spec PyProof.Rows
theorem yS:bootBuiltins "len" = some (.builtin "len"):=by decide +kernel
theorem jgU:bootBuiltins "min" = some (.builtin "min"):=by decide +kernel
theorem bt_max:bootBuiltins "max" = some (.builtin "max"):=by decide +kernel
theorem jcn:bootBuiltins "all" = some (.builtin "all"):=by decide +kernel
theorem jK:bootBuiltins "isinstance" = some (.builtin "isinstance"):=by decide +kernel
theorem jgV:bootBuiltins "int" = some (.type "int"):=by decide +kernel
theorem jdi:bootBuiltins "bool" = some (.type "bool"):=by decide +kernel
theorem JD:bootBuiltins "list" = some (.type "list"):=by decide +kernel
theorem jbo:bootBuiltins "tuple" = some (.type "tuple"):=by decide +kernel
structure Bl (mg:Str->Option Value):Prop where
  no:∀ x ∈ (["len","sorted","min","max","sum","all","isinstance","int","bool","list","tuple","range"]:List Str),mg x=none
namespace Bl
variable {mg:Str->Option Value}
end Bl
structure Cal (P:Program) (w:World) (K:PySem.W.Frag) (mg:Str->Option Value) (base:Heap) (x:Str) (j:Nat) (ps:List Str) (sp:Sp):Prop where
  ex:∃ f fd,FnOk P w K mg base CX0 j f fd ps sp∧mg x=some (.ref f)∧PySem.W.keepIn K (.ref f)=true∧jdn K fd ps []
def g11 {α:Type} (us ws:List α):List α:=match us,ws with
  | [a],[b]=>[a,b]
  | _,_=>[]
structure CalK (P:Program) (w:World) (K:PySem.W.Frag) (mg:Str->Option Value) (base:Heap) (x:Str) (j:Nat) (ps ks:List Str) (sp:Sp):Prop where
  ex:∃ f fd,FnOk P w K mg base CX0 j f fd ps sp∧mg x=some (.ref f)∧PySem.W.keepIn K (.ref f)=true∧KBinds K fd ps ks g11 g11
section
variable {X:Cx} {x:Str} {j:Nat} {ps ks:List Str} {sp:Sp} {p pos:Pos} {e:Expr} {es:List Expr} {t tk:TA} {kws:List Keyword}
end
theorem hu0 {A:Around} {k:Nat} (hr:Room k A):A.units < cLine:=hr.units0
def But (bs:List Addr) (H H':Hp):Prop:=∀ b o,H b=some o->b ∉ bs->H' b=some o
end L2

namespace L2
open PySem PySem.Spec PyProof.Rows
end L2

namespace L2
open PySem PySem.Spec PyProof.Rows
section
variable {X:Cx}
end
end L2

namespace L2
open PySem PySem.Spec PyProof.Rows
section
variable {P:Program} {w:World} {H:Hp} {h h':Heap} {a:Addr} {o:HO}
theorem yE.there (x:yE P w H h a o):∃ u,h.get? a=some u:=by
  cases o with
  | lst xs =>
    obtain ⟨_,_,_,_,e⟩:=x
    exact ⟨_,e⟩
  | tup xs =>
    obtain ⟨_,_,_,p⟩:=x
    obtain ⟨ob,e,_⟩:=p
    exact ⟨_,e⟩
  | dK kvs =>
    obtain ⟨_,_,_,_,ob,_,_,e,_⟩:=x
    exact ⟨_,e⟩
  | dT kvs =>
    obtain ⟨_,_,_,_,ob,_,_,e,_⟩:=x
    exact ⟨_,e⟩
  | set S n =>
    obtain ⟨ob,_,_,_,e,_⟩:=x
    exact ⟨_,e⟩
  | ins C dx fs =>
    obtain ⟨_,_,_,e,_⟩:=x
    exact ⟨_,e⟩
  | own y=>exact x
  | xd fs =>
    obtain ⟨_,⟨_,_,_,e,_⟩,_⟩:=x
    exact ⟨_,e⟩
  | rng lo hi =>
    obtain ⟨_,_,_,e⟩:=x
    exact ⟨_,e⟩
  | frz ob u =>
    obtain ⟨e,_⟩:=x
    exact ⟨_,e⟩
  | tbl ps=>exact ⟨_,x⟩
  | met f y=>exact ⟨_,x⟩
  | ext φ=>exact x.2.1
theorem HOk.moved (x:HOk P w H h) (k:∀ b o u,H b=some o->h.get? b=some u->h'.get? b=some u):HOk P w H h':=fun a o e =>
  (x a o e).stay (fun b u hb q=>by
    rcases hb with rfl | hb
    · exact k _ _ u e q
    · exact k _ _ u hb q) (fun _ z=>z) fun _ _ z=>z
end
def CX1 (P:Program) (w:World):CXT:=fun outer H s E e s'=>∃ (ea C:Addr) (a0:Value) (H':Hp) (B:Heap),e = .ref ea∧s'.os=s.os∧AllBare s'.gens∧Heap.FlyingW B outer ea (.ref C) a0 s'.heap ∧
  (∀ b o,s.heap.get? b=some o->H b=none->b ∉ frs outer->B.get? b=some o)∧(∀ b o,s.heap.get? b=some o->b ∉ frs outer->∃ o',B.get? b=some o') ∧
  (∀ b o,H' b=some o->∃ u,B.get? b=some u)∧Un (frs outer) [] H H' s.heap s'.heap∧HOk P w H' s'.heap∧E (.ref C) none H'
theorem CX1.step {P:Program} {w:World} {outer:List Env} {H₀ H':Hp} {s₀ s':Shared} {h h'':Heap} {B:Heap} {ea C:Addr} {a0:Value} {E:XK} (ho:s'.os=s₀.os) (hb:AllBare s'.gens)
    (fl:Heap.FlyingW B outer ea (.ref C) a0 h'') (up:h.UpToSlots h'') (st:B.StaysIn h) (hfr:∀ b ∈ frs outer,H₀ b=none) (hff:∀ b ∈ frs outer,∀ o,h.get? b=some o->∀ vs,o.data≠.fields vs)
    (k1:∀ b o,s₀.heap.get? b=some o->H₀ b=none->b ∉ frs outer->B.get? b=some o) (k2:∀ b o,s₀.heap.get? b=some o->b ∉ frs outer->∃ o',B.get? b=some o')
    (k3:∀ b o,H' b=some o->∃ u,B.get? b=some u) (u:Un (frs outer) [] H₀ H' s₀.heap h) (hok:HOk P w H' h) (q:E (.ref C) none H'):CX1 P w outer H₀ s₀ E (.ref ea) { s' with heap:=h'' }:=by
  have slot:∀ b o,s₀.heap.get? b=some o->H₀ b=none->b ∈ frs outer->∃ sl,h''.get? b=some { o with slots:=sl }:=fun b o e n hm=>by
    obtain ⟨sl,e1⟩:=u.slot b o e n hm (by simp)
    obtain ⟨sl',e2⟩:=up b _ e1 (hff b hm _ e1)
    exact ⟨sl',e2⟩
  refine ⟨ea,C,a0,H',B,rfl,ho,hb,fl,k1,k2,k3,⟨fun b o e n hm _=>fl.1 b o (k1 b o e n hm),fun b o e n hm _=>slot b o e n hm,u.free,fun b o e _=>?_,u.tups,u.frzs,u.tbls⟩,?_,q⟩
  · by_cases hm:b ∈ frs outer
    · obtain ⟨sl,e2⟩:=slot b o e (hfr b hm) hm
      exact ⟨_,e2⟩
    · obtain ⟨o',e2⟩:=k2 b o e hm
      exact ⟨o',fl.1 b o' e2⟩
  · refine hok.moved fun b o u' e q'=>?_
    obtain ⟨u2,e2⟩:=k3 b o e
    have e3:=st b u2 e2
    rw [q'] at e3
    cases e3
    exact fl.1 b _ e2
section
variable {P:Program} {w:World} {K:PySem.W.Frag} {mg:Str->Option Value} {base:Heap} {N:List Str} {qual:Str} {scope:Scope} {f:Addr} {cd:Value} {A:Around} {outer:List Env} {s₀:Shared} {H₀:Hp} {E:XK}
theorem Yu {b:Addr} {o:Obj} (e:s₀.heap.get? b=some o) (hm:b ∉ frs outer):b ∉ frs (envOfC qual scope s₀.heap.objs.size f cd :: outer):=fun hb=>by
  have hb:b ∈ s₀.heap.objs.size :: frs outer:=hb
  rcases List.mem_cons.mp hb with rfl | hb
  · exact Nat.lt_irrefl _ (Heap.lt_size e)
  · exact hm hb
theorem jgQ {pins:List (Addr × Obj)} {σ:St} {H:Hp} {s:Shared} {e C:Addr} {us:List Value} {h':Heap} (I:Inv (vX (CX1 P w) P w K mg base N qual scope f cd A outer s₀ H₀ E) pins σ H s)
    (hx:Heap.MadeExcOf s.heap h' e (.ref C) us) (q:E (.ref C) none H):(vX (CX1 P w) P w K mg base N qual scope f cd A outer s₀ H₀ E).xe (.ref e) { s with heap:=h' }:=by
  have hst:s.heap.FunFrames base (envOfC qual scope s₀.heap.objs.size f cd :: outer):=I.stack
  have hin:∀ env ∈ (envOfC qual scope s₀.heap.objs.size f cd :: outer),∀ b,env.frame=some b->b ∈ frs (envOfC qual scope s₀.heap.objs.size f cd :: outer):=fun env he b hb=>List.mem_filterMap.mpr ⟨env,he,hb⟩
  have hide:=PySem.W.funFrames_hide hst hin
  refine wpAny_leaves_madeW (base:=PySem.W.hideAll s.heap (frs (envOfC qual scope s₀.heap.objs.size f cd :: outer))) (s:={ s with heap:=h' }) I.ok.frames rfl (fun b o z=>PySem.W.of_hideAll _ z) hide hx fun h'' t fl _ _ up=>?_
  have kB:∀ b o,s.heap.get? b=some o->b ∉ frs (envOfC qual scope s₀.heap.objs.size f cd :: outer)->(PySem.W.hideAll s.heap (frs (envOfC qual scope s₀.heap.objs.size f cd :: outer))).get? b=some o:=fun b o z n=>PySem.W.hideAll_get _ z n
  have ub:Un (frs outer) [] H₀ H s₀.heap s.heap:=I.base
  have bsx:∀ b o,s₀.heap.get? b=some o->H₀ b=none->b ∉ frs outer->s.heap.get? b=some o:=fun b o z n hm=>ub.keep b o z n hm (by simp)
  refine CX1.step (s':=s) (h:=s.heap) I.os I.bare fl (fun b o z nf=>up b o (hx.keeps b o z) nf) (fun b o z=>PySem.W.of_hideAll _ z) I.ok.frf (fun b hb o z=>?_) (fun b o z n hm=>kB b o (bsx b o z n hm) (Yu z hm)) (fun b o z hm=>?_) (fun b o z=>?_) ub I.hok q
  · obtain ⟨_,o',e1,e2⟩:=hst.mem (b:=b) (List.mem_cons_of_mem _ hb)
    rw [z] at e1
    cases e1
    exact e2
  · obtain ⟨o',e1⟩:=ub.there b o z (by simp)
    exact ⟨o',kB b o' e1 (Yu z hm)⟩
  · obtain ⟨u,e1⟩:=(I.hok b o z).there
    refine ⟨u,kB b u e1 fun hm=>?_⟩
    have:=I.stkFree b hm
    rw [z] at this
    cases this
theorem jiB:Passes (CX1 P w) (vX (CX1 P w) P w K mg base N qual scope f cd A outer s₀ H₀ E) E:=by
  intro pins σ H s e s' I h
  obtain ⟨ea,C,a0,H',B,rfl,ho,hb,fl,k1,k2,k3,u,hok,q⟩:=h
  have ub:Un (frs outer) [] H₀ H s₀.heap s.heap:=I.base
  have fl:Heap.FlyingW B (envOfC qual scope s₀.heap.objs.size f cd :: outer) ea (.ref C) a0 s'.heap:=fl
  have u:Un (frs (envOfC qual scope s₀.heap.objs.size f cd :: outer)) [] H H' s.heap s'.heap:=u
  have J:=I.call' ho u hok hb (ch:=[]) (fun b hb=>by simp at hb)
  have uj:Un (frs outer) [] H₀ H' s₀.heap s'.heap:=J.base
  have ofr:∀ b ∈ frs outer,b ∈ frs (envOfC qual scope s₀.heap.objs.size f cd :: outer):=fun b hb=>List.mem_cons_of_mem _ hb
  refine wpAny_leaves_onW I.ok.frames rfl fl fun h' fl' up=>?_
  refine CX1.step (s':=s') (h:=s'.heap) (ho.trans I.os) hb fl' up fl.1 I.ok.frf (fun b hb o z=>?_) (fun b o z n hm=>k1 b o (ub.keep b o z n hm (by simp)) (ub.free b o z n (by simp)) (Yu z hm)) (fun b o z hm=>?_) k3 uj hok q
  · obtain ⟨_,o',e1,e2⟩:=fl.2.2.1.mem (b:=b) (ofr b hb)
    rw [z] at e1
    cases e1
    exact e2
  · obtain ⟨o',e1⟩:=ub.there b o z (by simp)
    exact k2 b o' e1 (Yu z hm)
end
theorem Fun.okX {P:Program} {w:World} {K:PySem.W.Frag} {mg:Str->Option Value} {base:Heap} {x qual:Str} {st:Stmt} {f:Addr} {fd:FuncData} {N ps:List Str} {k:Nat} {sp:Sp} (F:Fun K x qual st f fd) (S:FnScope N ps (jc st)) (len:∀ vs H Q E,sp vs H Q E->vs.length=ps.length)
    (hbody:∀ (cdv:Value) (A:Around) (outer:List Env) (s:Shared) (H:Hp) (vs:List V) (Q:VK) (E:XK),Room k (A.deeper (envOfC qual (jc st) s.heap.objs.size f cdv))->sp vs H Q E ->
      ∃ t,PSs (vX (CX1 P w) P w K mg base N qual (jc st) f cdv A outer s H E) (jj st) t∧t { nx:=fun _ H'=>Q .non H',rt:=Q } (start N vs) H):FnOk P w K mg base (CX1 P w) (k + 1) f fd ps sp:=by
  obtain ⟨oc,od,kV,doc,pm,an,cdv,ct,osl,rfl,lk,hcd⟩:=F.ex
  exact jja lk hcd S len fun A outer s H vs Q E hr hsp=>hbody cdv A outer s H vs Q E hr hsp
end L2

namespace L2
open PySem PySem.Spec PyProof.Rows
def tFmtI (tv:TE):TE:=fun σ H Q=>tv σ H fun x H1=>∃ i:Int,x = .int i∧i.natAbs.log2 < 1920∧Q (.str (toString i)) H1
abbrev TJ:=St->Hp->Str->(Str->Hp->Prop)->Prop
def PJ (X:Cx) (es:List Expr) (t:TJ):Prop :=
  ∀ (pins:List (Addr × Obj)) (s:Shared) (σ:St) (H:Hp) (out:Str) (Q:Str->Hp->Prop),Inv X pins σ H s->t σ H out Q ->
    wpAny (model X.prog X.w) X.A (joinParts out (evalEach es X.env)) (EP X pins σ fun v H'=>∃ z,v = .str z∧Q z H') X.xe s
def tjNil:TJ:=fun _ H out Q=>out.length<=sizeLine∧Q out H
def tjCons (te:TE) (tr:TJ):TJ:=fun σ H out Q=>te σ H fun x H1=>∃ y,x = .str y∧(out ++ y).length<=sizeLine∧tr σ H1 (out ++ y) Q
def tFstr (t:TJ):TE:=fun σ H Q=>t σ H Str.empty fun z H1=>Q (.str z) H1
section
variable {X:Cx} {e e2:Expr} {es:List Expr} {te tv:TE} {t:TJ} {pos:Pos}
theorem jhO (hv:PE X e tv):PE X (.FormattedValue e (-1) none pos) (tFmtI tv):=by
  intro pins s σ H Q I h
  refine FormattedValue_plain (thn (hv pins s σ H _ I h) fun v s1 hQQ=>?_)
  obtain ⟨x,H1,I1,r1,i,ei,hi,q⟩:=hQQ
  subst ei
  obtain ⟨tk,rfl⟩:=(show ∃ tk,v=Value.int i tk from r1)
  exact formatField_int_small hi ⟨.str (toString i),H1,I1.tok _,⟨_,rfl⟩,q⟩
theorem pj_nil:PJ X [] tjNil:=fun pins s σ H out Q I h=>joinParts_nil ⟨.str out,H,I.tok _,⟨_,rfl⟩,out,rfl,h.2⟩ h.1
theorem jcJ (he:PE X e te) (hr:PJ X es t) (hs:evalEach (e :: es) X.env=eval e X.env :: evalEach es X.env:=by rfl):PJ X (e :: es) (tjCons te t):=by
  intro pins s σ H out Q I h
  rw [hs]
  refine joinParts_cons (thn (he pins s σ H _ I h) fun v s1 hQQ=>?_)
  obtain ⟨x,H1,I1,r1,y,ey,hz,q⟩:=hQQ
  subst ey
  obtain ⟨tk,rfl⟩:=(show ∃ tk,v=Value.str y tk from r1)
  exact ⟨hz,hr pins s1 σ H1 _ Q I1 q⟩
theorem jhN (h:PJ X (e :: e2 :: es) t) (hs:evalEach (e :: e2 :: es) X.env=eval e X.env :: eval e2 X.env :: evalEach es X.env:=by rfl):PE X (.JoinedStr (e :: e2 :: es) pos) (tFstr t):=by
  intro pins s σ H Q I q
  refine JoinedStr_many ?_
  rw [<- hs]
  refine thn (h pins s σ H Str.empty _ I q) fun v s1 hQQ=>?_
  obtain ⟨x,H1,I1,r1,z,ez,q1⟩:=hQQ
  subst ez
  exact ⟨_,H1,I1,r1,q1⟩
end
abbrev jgW:List Value:=[.type "ValueError",.type "Exception",.type "BaseException",.type "object"]
theorem jiv {K:PySem.W.Frag} {h:Heap} {C:Addr} {bmB:List Value} {newId:String} (KX:K.In h) (hq:PySem.W.excIn K C bmB newId=true) :
    ∃ (tl:List Value) (Nn:Addr) (n1 n2:Str) (bs:List Value) (b1:Bool) (sn:List Str) (sub:List Value) (b2:Bool) (col:Option Bool) (dd:Option Addr) (j0 j1 j2 j3 j5:Option Value) (mN:Str->Option Value),
      h.get? C=some (excClassObj n1 n2 C Nn bs tl b1 sn sub b2 col dd j0 j1 j2 j3 j5 newId)∧h.Ns Nn mN∧mN "__init__" = none∧OwnTail h bmB tl:=by
  unfold PySem.W.excIn at hq
  split at hq
  case h_2=>cases hq
  case h_1 dd cdat slots look =>
    split at hq
    case h_2=>cases hq
    case h_1 C2 tl j0 j1 j2 j3 idn j5 emro eslots =>
      simp only [Bool.and_eq_true,beq_iff_eq,Bool.not_eq_true'] at hq
      obtain ⟨⟨⟨⟨⟨z1,z2⟩,z3⟩,z4⟩,z5⟩,z6⟩:=hq
      subst z1
      subst z2
      obtain ⟨n1,bs,mr,nsa,n2,b1,sn,sub,b2,col,b3⟩:=cdat
      have z3':b3=false:=z3
      have em:mr = .ref C2 :: tl:=emro
      subst z3'
      subst em
      have es:slots = #[j0,j1,j2,j3,some (.builtin idn),j5]:=by
        cases slots with
        | mk l =>
          have:l=[j0,j1,j2,j3,some (.builtin idn),j5]:=eslots
          rw [this]
      subst es
      refine ⟨tl,nsa,n1,n2,bs,b1,sn,sub,b2,col,dd,j0,j1,j2,j3,j5,h.nsMap nsa,KX _ _ look,?_⟩
      exact ⟨.of_isNs (PySem.W.isNs_of_in KX z5),PySem.W.nsMap_none_of_in KX z5 z6,PySem.W.tail_of_in KX z4⟩
structure Exc (K:PySem.W.Frag) (mg:Str->Option Value) (x:Str) (C:Addr):Prop where
  at_:mg x=some (.ref C)
  ex:PySem.W.excIn K C jgW "ValueError.__new__" = true
def tRaise (C:Addr) (E:XK) (t:TA):TS:=fun _ σ H=>t σ H fun vs H1=>vs.length<=sizeLine∧E (.ref C) none H1
theorem jfc {P:Program} {w:World} {K:PySem.W.Frag} {mg:Str->Option Value} {base:Heap} {N:List Str} {qual:Str} {scope:Scope} {f:Addr} {cd:Value} {A:Around} {outer:List Env} {s₀:Shared} {H₀:Hp} {E:XK}
    {x:Str} {C:Addr} {np cpos pos:Pos} {e:Expr} {es:List Expr} {t:TA} (hC:Exc K mg x C) (hg:Gl (vX (CX1 P w) P w K mg base N qual scope f cd A outer s₀ H₀ E) x) (ha:PA (vX (CX1 P w) P w K mg base N qual scope f cd A outer s₀ H₀ E) (e :: es) t)
    (hdb:(x == ("__debug__":Str))=false:=by decide)
    (he:starEach (e :: es) (envOfC qual scope s₀.heap.objs.size f cd)=(false,eval e (envOfC qual scope s₀.heap.objs.size f cd)) :: starEach es (envOfC qual scope s₀.heap.objs.size f cd):=by rfl)
    (hpl:(backTo cpos (starEach es (envOfC qual scope s₀.heap.objs.size f cd))).any (·.1)=false:=by rfl) :
    PS (vX (CX1 P w) P w K mg base N qual scope f cd A outer s₀ H₀ E) (.Raise (some (.Call (.Name x np) (e :: es) [] cpos)) none pos) (tRaise C E t):=by
  intro pins s σ H D I h
  obtain ⟨tl,Nn,n1,n2,bs,b1,sn,sub,b2,col,dd,j0,j1,j2,j3,j5,mN,o1,o2,o3,o4⟩:=jiv I.ok.mod.kin hC.ex
  refine wpAny_Raise_call_subT (C:=C) (nm:=n1) (q:=n2) (N:=Nn) (bs:=bs) (bm:=tl) (hdct:=b1) (sn:=sn) (sub:=sub) (ab:=b2) (col:=col) (dd:=dd) (k0:=j0) (k1:=j1) (k2:=j2) (k3:=j3) (k5:=j5) PySem.F.excBase_ValueError
    (mN:=mN) (o4.hasType PySem.F.excBase_ValueError.hasBase) (I.ok.hd rfl) (by
      show (backTo cpos (starEach (e :: es) (envOfC qual scope s₀.heap.objs.size f cd))).any (·.1)=false
      rw [he]
      show (false || (backTo cpos (starEach es (envOfC qual scope s₀.heap.objs.size f cd))).any (·.1))=false
      rw [hpl]
      rfl) o3 (Yt I hg hC.at_ ⟨rfl,?_⟩ hdb)
  have hp:=ha cpos pins s σ H _ I h
  have hp2:wpAny (model P w) (A.deeper (envOfC qual scope s₀.heap.objs.size f cd)) (spliced (backTo cpos (starEach (e :: es) (envOfC qual scope s₀.heap.objs.size f cd)))) _ _ s:=hp
  show wpAny (model P w) (A.deeper (envOfC qual scope s₀.heap.objs.size f cd)) (evalArgs (.ref C) true (backTo cpos (starEach (e :: es) (envOfC qual scope s₀.heap.objs.size f cd))) []) _ _ s
  rw [he] at hp2 ⊢
  refine Calls.evalArgs_plain (thn hp2 fun us s2 z=>?_)
  obtain ⟨vs,H1,I1,rv,hz,q⟩:=z
  refine ⟨rfl,by rw [<- rv.length]; exact hz,I1.bk _ _ o1,o2.keeps I1.bk,o4.keeps I1.bk,fun h' ea hx=>jgQ I1 hx q⟩
end L2

namespace L2
open PySem PySem.Spec PyProof.Rows
def excO (ea C:Addr):HO:=.ext fun h=>∃ o vs,h.get? ea=some o∧o.cls = .ref C∧o.data = .fields vs
structure ExcK (K:PySem.W.Frag) (C:Addr):Prop where
  ga:PySem.W.findIn K (.ref C) "__getattribute__" = some (some (.builtin "BaseException.__getattribute__"))
  cl:PySem.W.findIn K (.ref C) "__class__" = some (some (.builtin "object.__class__"))
  ob:PySem.W.mroIn K C (.type "object")=some true
  be:PySem.W.mroIn K C (.type "BaseException")=some true
  isc:(PySem.W.clsIn K C).isSome=true
  gh:PySem.W.findIn K (.ref C) "__getattr__" = some none
section
variable {prog:Program} {w:World} {A:Around} {E:Value->Shared->Prop} {K:PySem.W.Frag} {x C:Addr} {h:Heap} {g:Array GenState} {d:Drawn} {t:Nat} {os:OsState}
end
end L2
namespace L2
open PySem PySem.Spec PyProof.Rows
end L2

namespace L2
open PySem PySem.Spec PyProof.Rows
def Prot (X:Cx) (pins:List (Addr × Obj)) (H:Hp) (b:Addr):Prop :=
  b=X.env.locals∨(∃ x,X.env.cells.lookup x=some b)∨(∃ p ∈ X.pn ++ pins,p.1=b)∨(∃ o,H b=some o)∨∃ o,X.s₀.heap.get? b=some o∧b ∉ X.ex
structure Fly (X:Cx) (pins:List (Addr × Obj)) (σ:St) (H:Hp) (B:Heap) (ea C:Addr) (a0:Value) (s:Shared):Prop where
  inv:Inv X pins σ H s
  fl:Heap.FlyingW B X.stack ea (.ref C) a0 s.heap
  kn:∀ b,Prot X pins H b->b ∉ frs X.stack->∃ o,B.get? b=some o
section
variable {X:Cx} {pins:List (Addr × Obj)} {σ:St} {H:Hp} {s:Shared} {B h':Heap} {ea C a:Addr} {a0:Value} {o:HO}
theorem Inv.track (I:Inv X pins σ H s) (np:¬ Prot X pins H a) (new:yE X.prog X.w (upd H a o) s.heap a o):Inv X pins σ (upd H a o) s:=by
  have hn:H a=none:=by
    cases q:H a with
    | none=>rfl
    | some u=>exact absurd (.inr (.inr (.inr (.inl ⟨u,q⟩)))) np
  refine ⟨I.ok,I.os,I.bare,⟨I.base.keep,I.base.slot,fun b ob e n hx=>?_,I.base.there,fun b xs e=>?_,fun b ob xs e=>?_,fun b ps e=>?_⟩,I.loc,I.cell,?_,fun x c e=>?_,fun p hp=>?_,fun b ob e=>?_,I.len⟩
  · rw [jm (fun z:b=a=>np (.inr (.inr (.inr (.inr ⟨ob,z ▸ e,z ▸ hx⟩)))))]
    exact I.base.free b ob e n hx
  · have q:=I.base.tups b xs e
    rw [jm (jy q hn)]
    exact q
  · have q:=I.base.frzs b ob xs e
    rw [jm (jy q hn)]
    exact q
  · obtain ⟨more,q⟩:=I.base.tbls b ps e
    exact ⟨more,by rw [jm (jy q hn)]; exact q⟩
  · rw [jm (fun z=>np (.inl z.symm))]
    exact I.free
  · rw [jm (fun z:c=a=>np (.inr (.inl ⟨x,z ▸ e⟩)))]
    exact I.freeC x c e
  · obtain ⟨q1,q2,q3⟩:=I.pin p hp
    exact ⟨q1,by rw [jm (fun z:p.1=a=>np (.inr (.inr (.inl ⟨p,hp,z⟩))))]; exact q2,q3⟩
  · by_cases hb:b=a
    · subst hb
      rw [jv] at e
      cases e
      exact new
    · rw [jm hb] at e
      exact (I.hok b ob e).stay (fun _ _ _ z=>z) (fun c z=>by rw [jm (jy z hn)]; exact z) fun c xs z=>by rw [jm (jy z hn)]; exact z
end
section
variable {X:Cx} {pins pins2:List (Addr × Obj)} {σ:St} {H:Hp} {s:Shared} {T:St->Addr->Hp->Prop} {ea:Addr}
end
def xG (CX:CXT) (X:Cx) (E:St->XK):Prop:=∀ (pins:List (Addr × Obj)) (σ:St) (H:Hp) (s:Shared) (e:Value) (s':Shared),Inv X pins σ H s->CX X.stack H s (E σ) e s'->X.xe e s'
section
variable {X:Cx} {body suite:List Stmt} {b₀:Stmt} {n x:Str} {i:Nat} {LC:Addr} {np hpos pos:Pos} {tb:(St->Addr->Hp->Prop)->TS} {th:TS}
end
section
variable {X:Cx} {CX:CXT} {k:Nat} {f:Addr} {fd:FuncData} {ps:List Str} {sp:Sp} {dvs:List V} {ds:List Value} {E:St->XK} {x:Str} {p pos:Pos} {e:Expr} {es:List Expr} {t:TA}
end
end L2

namespace L2
open PySem PySem.Spec PyProof.Rows
structure CalX (P:Program) (w:World) (K:PySem.W.Frag) (mg:Str->Option Value) (base:Heap) (x:Str) (j:Nat) (ps:List Str) (sp:Sp):Prop where
  ex:∃ f fd,FnOk P w K mg base (CX1 P w) j f fd ps sp∧mg x=some (.ref f)∧PySem.W.keepIn K (.ref f)=true∧jdn K fd ps []
structure CalKX (P:Program) (w:World) (K:PySem.W.Frag) (mg:Str->Option Value) (base:Heap) (x:Str) (j:Nat) (ps ks:List Str) (sp:Sp):Prop where
  ex:∃ f fd,FnOk P w K mg base (CX1 P w) j f fd ps sp∧mg x=some (.ref f)∧PySem.W.keepIn K (.ref f)=true∧KBinds K fd ps ks g11 g11
def sor (a b:Sp):Sp:=fun vs H Q E=>a vs H Q E∨b vs H Q E
section
variable {P:Program} {w:World} {K:PySem.W.Frag} {mg:Str->Option Value} {base:Heap} {CX:CXT} {k:Nat} {f:Addr} {fd:FuncData} {ps ks:List Str} {sp sp':Sp}
theorem FnOk.up (F:FnOk P w K mg base CX0 k f fd ps sp):FnOk P w K mg base CX k f fd ps sp :=
  ⟨F.len,fun A outer s H args us vs Q E hr he hb hv hs=>codeAny_mono (F.run A outer s H args us vs Q E hr he hb hv hs) fun r s' hq=>by
    match r,hq with
    | .ok (.ret u),hq=>exact hq
    | .error e,hq=>exact False.elim hq⟩
theorem FnOk.or (F:FnOk P w K mg base CX k f fd ps sp) (G:FnOk P w K mg base CX k f fd ps sp'):FnOk P w K mg base CX k f fd ps (sor sp sp') :=
  ⟨fun vs H Q E h=>h.elim (F.len vs H Q E) (G.len vs H Q E),fun A outer s H args us vs Q E hr he hb hv hs=>hs.elim (F.run A outer s H args us vs Q E hr he hb hv) (G.run A outer s H args us vs Q E hr he hb hv)⟩
variable {x qual:Str} {st:Stmt}
end
section
variable {X:Cx} {x:Str} {j:Nat} {ps ks:List Str} {sp:Sp} {p pos:Pos} {e:Expr} {es:List Expr} {t tk:TA} {kws:List Keyword} {E:XK} {ES:St->XK}
end
inductive Kn (H:Hp):V->String->Prop where
  | non:Kn H .non "NoneType"
  | bl (x:Bool):Kn H (.bl x) "bool"
  | int (i:Int):Kn H (.int i) "int"
  | str (x:Str):Kn H (.str x) "str"
  | lst {a:Addr} {xs:List V} (e:H a=some (.lst xs)):Kn H (.ref a) "list"
  | tup {a:Addr} {xs:List V} (e:H a=some (.tup xs)):Kn H (.ref a) "tuple"
  | dK {a:Addr} {kvs:List (Key × V)} (e:H a=some (.dK kvs)):Kn H (.ref a) "dict"
def yY:List String:=["NoneType","bool","int","str","list","tuple","dict"]
def sub (n m:String):Bool:=n == m || (n == "bool" && m == "int")
theorem jcS (K:PySem.W.Frag) {n m:String} (hn:n ∈ yY) (hm:m ∈ yY):PySem.W.kitOne K (.type n) (.type m)=some (sub n m):=by
  have tab:∀ n ∈ yY,∀ m ∈ yY,(Value.type n == Value.type m)=false->PySem.W.kitMeta m=true∧(fastBuiltinMro n).map (·.contains (.type m))=some (sub n m):=by decide +kernel
  have tab2:∀ n ∈ yY,∀ m ∈ yY,(Value.type n == Value.type m)=true->sub n m=true:=by decide +kernel
  unfold PySem.W.kitOne
  cases h:(Value.type n == Value.type m) with
  | true=>rw [if_pos rfl,tab2 n hn m hm h]
  | false =>
    obtain ⟨h1,h2⟩:=tab n hn m hm h
    rw [if_neg (by decide)]
    show (if PySem.W.kitMeta m=true then (fastBuiltinMro n).map (·.contains (.type m)) else none)=some (sub n m)
    rw [if_pos h1,h2]
section
variable {H H':Hp} {v:V} {n:String}
end
end L2

namespace L2
open PySem PySem.Spec PyProof.Rows
section
variable {X:Cx} {pos:Pos}
end
end L2
namespace L2
open PySem
end L2

namespace L2
open PySem PySem.Spec PyProof.Rows
structure FunD (K:PySem.W.Frag) (x qual:Str) (st:Stmt) (f:Addr) (fd:FuncData):Prop where
  ex:∃ (oc:Value) (od:Option Addr) (dV kV doc pm:Value) (an:Option Addr) (cdv ct:Value) (osl:Array (Option Value)),
    fd=PySem.W.fnOf x qual (jn st) (jj st) (jc st) dV kV doc pm an cdv ct∧K.lookup f=some ⟨oc,od,.func fd,osl⟩∧PySem.W.codeIn K cdv qual=true
  kp:PySem.W.keepIn K (.ref f)=true
section
variable {P:Program} {w:World} {K:PySem.W.Frag} {mg:Str->Option Value} {base:Heap} {x qual:Str} {st:Stmt} {f:Addr} {fd:FuncData} {N ps ks:List Str} {k:Nat} {sp sp':Sp}
end
end L2

namespace L2
open PySem PySem.Spec PyProof.Rows
section
variable {X:Cx} {CX:CXT} {k:Nat} {f C:Addr} {fd:FuncData} {ps ks:List Str} {sp:Sp} {E:XK} {x:Str} {p pos:Pos} {kws:List Keyword} {tk:TA} {g:List Value->List Value->List Value} {gV:List V->List V->List V}
end
structure CalN (P:Program) (w:World) (K:PySem.W.Frag) (mg:Str->Option Value) (base:Heap) (x:Str) (C:Addr) (j:Nat) (ps ks:List Str) (gV:List V->List V->List V) (sp:Sp):Prop where
  ex:∃ (f:Addr) (fd:FuncData) (g:List Value->List Value->List Value),FnOk P w K mg base CX0 j f fd ps sp∧Mk K C f∧KBinds K fd ps ks g gV∧mg x=some (.ref C)
structure CalM (P:Program) (w:World) (K:PySem.W.Frag) (mg:Str->Option Value) (base:Heap) (C:Addr) (m:Str) (j:Nat) (ps:List Str) (sp:Sp):Prop where
  ex:∃ (f:Addr) (fd:FuncData),FnOk P w K mg base CX0 j f fd ps sp∧Meth K C m f∧Cls K C∧jdn K fd ps []
section
variable {X:Cx} {C:Addr} {x m:Str} {j:Nat} {ps ks:List Str} {sp:Sp} {p pos apos:Pos} {o e:Expr} {es:List Expr} {ta:TE} {t tk:TA} {kws:List Keyword} {gV:List V->List V->List V}
end
theorem jbp {ρ τ:Type} {K:PySem.W.Frag} {s:Shared} {fd:FuncData} {args:Args} {binds:List (Str × Value)} {kd:Addr} {nm:Str} {v:Value} {k1:Option Value->Sem ρ} {k2:ρ->Sem τ} {k3:τ->Sem (List (Str × Value))} {r1:ρ} {r2:τ} (X:K.In s.heap) (e:PySem.W.nsIn K kd nm=some (some v))
    (h1:bindArgs fd args=((nsGet kd nm >>= k1) >>= k2) >>= k3) (h2:k1 (some v)=pure r1) (h3:k2 r1=pure r2) (h4:k3 r2=pure binds):BindsTo s fd args binds:=fun M A E Q q=>by
  rw [h1]
  refine wpAny_bind (wpAny_bind (wpAny_bind ((PySem.W.looks_nsIn X e).here ?_)))
  rw [h2]
  refine wpAny_pure ?_
  rw [h3]
  refine wpAny_pure ?_
  rw [h4]
  exact wpAny_pure q
def g12 {α:Type} (us ws:List α):List α:=match us,ws with
  | [s],[a,b]=>[s,a,b]
  | _,_=>[]
def g11d {α:Type} (d:α) (us ws:List α):List α:=match us,ws with
  | [s],[a]=>[s,a,d]
  | _,_=>[]
def g10d {α:Type} (d e:α) (us ws:List α):List α:=match us,ws with
  | [s],[]=>[s,d,e]
  | _,_=>[]
section
variable {K:PySem.W.Frag} {fd:FuncData} {p0 p1 p2:Str} {d e:V} {dv ev:Value}
end
end L2

namespace L2
open PySem PySem.Spec PyProof.Rows
structure CalNX (P:Program) (w:World) (K:PySem.W.Frag) (mg:Str->Option Value) (base:Heap) (x:Str) (C:Addr) (j:Nat) (ps ks:List Str) (gV:List V->List V->List V) (sp:Sp):Prop where
  ex:∃ (f:Addr) (fd:FuncData) (g:List Value->List Value->List Value),FnOk P w K mg base (CX1 P w) j f fd ps sp∧Mk K C f∧KBinds K fd ps ks g gV∧mg x=some (.ref C)
structure CalMX (P:Program) (w:World) (K:PySem.W.Frag) (mg:Str->Option Value) (base:Heap) (C:Addr) (m:Str) (j:Nat) (ps:List Str) (sp:Sp):Prop where
  ex:∃ (f:Addr) (fd:FuncData),FnOk P w K mg base (CX1 P w) j f fd ps sp∧Meth K C m f∧Cls K C∧jdn K fd ps []
section
variable {X:Cx} {C:Addr} {x m:Str} {j:Nat} {ps ks:List Str} {sp:Sp} {p pos apos:Pos} {o e:Expr} {es:List Expr} {ta:TE} {t tk:TA} {kws:List Keyword} {gV:List V->List V->List V} {E:XK}
end
end L2

namespace L2
open PySem PySem.Spec PyProof.Rows
structure RA (X:Cx) (es:List Expr) (t:TA):Prop where
  h:PA X es t
structure RE (X:Cx) (e:Expr) (t:TE):Prop where
  h:PE X e t
section
variable {X:Cx} {e:Expr} {es:List Expr} {te:TE} {t:TA} {pos:Pos}
end
end L2

namespace L2
open PySem PySem.Spec PyProof.Rows
theorem uy.np {X:Cx} {pins:List (Addr × Obj)} {H:Hp} {b:Addr} (f:uy X pins H b):¬ Prot X pins H b:=by
  rintro (z | ⟨x,z⟩ | ⟨p,hp,z⟩ | ⟨o,z⟩ | ⟨o,z,hx⟩)
  · exact f.2.1 z
  · exact f.2.2.2.2.1 x b z rfl
  · exact f.2.2.2.2.2 p hp z
  · rw [f.1] at z
    cases z
  · rcases f.2.2.2.1 with y | y
    · exact hx y
    · exact Nat.lt_irrefl _ (Nat.lt_of_lt_of_le (Heap.lt_size z) y)
section
variable {X:Cx} {elts:List Expr} {x1:Nat} {tpos:Pos}
end
end L2
namespace L2
open PySem PySem.Spec PyProof.Rows
def tTru (K:PySem.W.Frag) (t:TE):TT:=fun σ H Q=>t σ H fun x H1=>∃ k,TruV K x H1 k∧Q k H1
theorem pt_tru {X:Cx} {e:Expr} {t:TE} (h:PE X e t) (he:∀ whole,isTrue e X.env whole=(do let v <- whole; standAt e.pos; holding [v] (truthy v)):=by intro _; rfl):PT X e (tTru X.K t):=by
  intro pins s σ H Q I hw
  refine isTrue_plain (thn (h pins s σ H _ I hw) fun v s1 hQQ=>?_) (he _)
  obtain ⟨x,H1,I1,r1,q1⟩:=hQQ
  exact tru_ok pins s1 σ H1 x v _ I1 r1 q1
end L2

namespace L2
open PySem PySem.Spec PyProof.Rows

section
variable {κ:Type} [DecidableEq κ]
def xI (kvs:List (κ × V)) (k:κ):Option V:=(kvs.find? fun kv=>decide (kv.1=k)).map (·.2)
def vC (kvs:List (κ × V)) (k:κ) (v:V):List (κ × V) :=
  if (kvs.any fun kv=>decide (kv.1=k))=true then kvs.map (fun kv=>if kv.1=k then (kv.1,v) else kv) else kvs ++ [(k,v)]
def dropK (kvs:List (κ × V)) (k:κ):List (κ × V):=kvs.filter fun kv=>decide (kv.1≠k)

theorem Jd {p:κ × V} {r:List (κ × V)} {k:κ} (e:p.1=k):xI (p :: r) k=some p.2:=by simp [xI,List.find?_cons,e]
theorem Je {p:κ × V} {r:List (κ × V)} {k:κ} (e:¬ p.1=k):xI (p :: r) k=xI r k:=by simp [xI,List.find?_cons,e]
theorem jay (k:κ):∀ kvs:List (κ × V),(kvs.any fun kv=>decide (kv.1=k))=(xI kvs k).isSome
  | []=>rfl
  | p :: r=>by
    rw [List.any_cons]
    by_cases e:p.1=k
    · simp only [Jd e,decide_eq_true e,Bool.true_or,Option.isSome_some]
    · rw [Je e,decide_eq_false e,Bool.false_or]; exact jay k r
theorem uk (kvs:List (κ × V)) (k:κ) (v:V):(vC kvs k v).length<=kvs.length + 1:=by
  unfold vC
  split
  · rw [List.length_map]; omega
  · rw [List.length_append,List.length_cons,List.length_nil]; omega
theorem uL.isSome_eq {o:Option V} {u:Option Value} (r:uL o u):o.isSome=u.isSome:=by
  cases o with
  | none=>cases u with
    | none=>rfl
    | some _=>exact (show False from r).elim
  | some _=>cases u with
    | none=>exact (show False from r).elim
    | some _=>rfl
theorem uL.getD {o:Option V} {u:Option Value} {d:V} {d':Value} (r:uL o u) (rd:yl d d'):yl (o.getD d) (u.getD d'):=by
  cases o with
  | none=>cases u with
    | none=>exact rd
    | some _=>exact (show False from r).elim
  | some _=>cases u with
    | none=>exact (show False from r).elim
    | some _=>exact r

theorem KV.val {kvs:List (κ × V)} {vs:List (κ × Value)} (r:KV kvs vs) (k:κ):uL (xI kvs k) (valueAt vs k):=by
  unfold KV at r
  induction r with
  | nil=>exact True.intro
  | @cons p q ps qs h t ih =>
    obtain ⟨h1,h2⟩:=h
    by_cases e:p.1=k
    · have e':q.1=k:=h1.symm.trans e
      have b:valueAt (q :: qs) k=some q.2:=by simp [valueAt,List.find?_cons,e']
      rw [Jd e,b]; exact h2
    · have e':¬ q.1=k:=fun z=>e (h1.trans z)
      have b:valueAt (q :: qs) k=valueAt qs k:=by simp [valueAt,List.find?_cons,e']
      rw [Je e,b]; exact ih
theorem KV.any {kvs:List (κ × V)} {vs:List (κ × Value)} (r:KV kvs vs) (k:κ):(kvs.any fun kv=>decide (kv.1=k))=vs.any fun kv=>decide (kv.1=k):=by
  unfold KV at r
  induction r with
  | nil=>rfl
  | cons h t ih=>rw [List.any_cons,List.any_cons,ih,h.1]
theorem KV.repl {kvs:List (κ × V)} {vs:List (κ × Value)} (r:KV kvs vs) (k:κ) {y:V} {u:Value} (ry:yl y u) :
    KV (kvs.map fun kv=>if kv.1=k then (kv.1,y) else kv) (vs.map fun kv=>if kv.1=k then (kv.1,u) else kv):=by
  unfold KV at r ⊢
  induction r with
  | nil=>exact .nil
  | @cons p q ps qs h t ih =>
    rw [List.map_cons,List.map_cons]
    refine .cons ?_ ih
    obtain ⟨h1,h2⟩:=h
    by_cases e:p.1=k
    · rw [if_pos e,if_pos (h1.symm.trans e)]; exact ⟨h1,ry⟩
    · rw [if_neg e,if_neg (fun z=>e (h1.trans z))]; exact ⟨h1,h2⟩
theorem KV.put {kvs:List (κ × V)} {vs:List (κ × Value)} (r:KV kvs vs) (k:κ) {y:V} {u:Value} (ry:yl y u):KV (vC kvs k y) (stored vs k u):=by
  unfold vC stored
  rw [r.any k]
  by_cases e:(vs.any fun kv=>decide (kv.1=k))=true
  · rw [if_pos e,if_pos e]; exact r.repl k ry
  · rw [if_neg e,if_neg e]; exact Paired.snoc r ⟨rfl,ry⟩
theorem KV.length {kvs:List (κ × V)} {vs:List (κ × Value)} (r:KV kvs vs):kvs.length=vs.length:=Paired.length r
end


theorem VQ {P:Program} {w:World} {k:Key} {u:Value} (r:yl (kV k) u):(yk P w).is k u=true:=by
  cases k with
  | inl i=>obtain ⟨t,e⟩:=(show ∃ t,u=Value.int i t from r); subst e; exact jaQ P w i t
  | inr x=>obtain ⟨t,e⟩:=(show ∃ t,u=Value.str x t from r); subst e; exact jaP P w x t
theorem VR {P:Program} {w:World}:∀ {ks:List Key} {us:List Value},yj (ks.map kV) us->ItemsAre (yk P w) ks us
  | [],_,r=>by rw [List.map_nil] at r; cases r; exact .nil
  | k :: ks,_,r=>by
    rw [List.map_cons] at r
    cases r with
    | cons h t=>exact .cons (VQ h) (VR t)

abbrev KT (H:Hp):List (List Key × V)->List (List Key × Addr × Value)->Prop:=Paired fun p q=>p.1=q.1∧H q.2.1=some (.tup (p.1.map kV))∧yl p.2 q.2.2
theorem KT.val {H:Hp} {kvs:List (List Key × V)} {xs:List (List Key × Addr × Value)} (r:KT H kvs xs) (k:List Key):uL (xI kvs k) ((atKey xs k).map (·.2)):=by
  induction r with
  | nil=>exact True.intro
  | @cons p q ps qs h t ih =>
    obtain ⟨h1,_,h2⟩:=h
    by_cases e:p.1=k
    · have e':q.1=k:=h1.symm.trans e
      have b:atKey (q :: qs) k=some q.2:=by simp [atKey,List.find?_cons,e']
      rw [Jd e,b]; exact h2
    · have e':¬ q.1=k:=fun z=>e (h1.trans z)
      have b:atKey (q :: qs) k=atKey qs k:=by simp [atKey,List.find?_cons,e']
      rw [Je e,b]; exact ih
theorem KT.repl {H:Hp} {kvs:List (List Key × V)} {xs:List (List Key × Addr × Value)} (r:KT H kvs xs) (k:List Key) {y:V} {u:Value} (ry:yl y u) :
    KT H (kvs.map fun kv=>if kv.1=k then (kv.1,y) else kv) (xs.map (putAt k u)):=by
  induction r with
  | nil=>exact .nil
  | @cons p q ps qs h t ih =>
    rw [List.map_cons,List.map_cons]
    refine .cons ?_ ih
    obtain ⟨h1,h2,h3⟩:=h
    unfold putAt
    by_cases e:p.1=k
    · rw [if_pos e,if_pos (h1.symm.trans e)]; exact ⟨h1,h2,ry⟩
    · rw [if_neg e,if_neg (fun z=>e (h1.trans z))]; exact ⟨h1,h2,h3⟩
theorem KT.put {H:Hp} {kvs:List (List Key × V)} {xs:List (List Key × Addr × Value)} (r:KT H kvs xs) (k:List Key) {b:Addr} {y:V} {u:Value} (hb:H b=some (.tup (k.map kV))) (ry:yl y u) :
    KT H (vC kvs k y) (storedH xs k b u):=by
  have e:(kvs.any fun kv=>decide (kv.1=k))=(atKey xs k).isSome:=by
    rw [jay,(r.val k).isSome_eq,Option.isSome_map]
  unfold vC storedH
  rw [e]
  by_cases q:(atKey xs k).isSome=true
  · rw [if_pos q,if_pos q]; exact r.repl k ry
  · rw [if_neg q,if_neg q]; exact Paired.snoc r ⟨rfl,hb,ry⟩
theorem KT.keeps {H H':Hp} {kvs:List (List Key × V)} {xs:List (List Key × Addr × Value)} (r:KT H kvs xs) (ht:∀ b ys,H b=some (.tup ys)->H' b=some (.tup ys)):KT H' kvs xs :=
  Paired.mapP r fun _ _ z=>⟨z.1,ht _ _ z.2.1,z.2.2⟩

section
variable {P:Program} {w:World} {H:Hp} {h:Heap} {a:Addr}
theorem jiT {u:HO} (ok:HOk P w H h) (e:Rd H a u):yE P w H h a u:=e.ok ok
theorem Xn {kvs:List (Key × V)} (ok:HOk P w H h) (e:Rd H a (.dK kvs)):kvs.length<=sizeLine∧(a == sysModules)=false∧∃ vs,KV kvs vs∧h.DictOf (yk P w) a vs :=
  show yE P w H h a (.dK kvs) from jiT ok e
theorem dk_of {kvs:List (Key × V)} (ok:HOk P w H h) (e:H a=some (.dK kvs)):kvs.length<=sizeLine∧(a == sysModules)=false∧∃ vs,KV kvs vs∧h.DictOf (yk P w) a vs:=Xn ok (.inl e)
theorem uU {ks:List Key} (ok:HOk P w H h) (e:H a=some (.tup (ks.map kV))):(tupleKind (yk P w)).is h ks a:=by
  obtain ⟨_,its,r,o,h1,h2,n,h3⟩:=(show yE P w H h a (.tup (ks.map kV)) from ok a _ e)
  exact ⟨o,its.toArray,n,h1,h2,h3,by simpa using VR r⟩
theorem VY {kvs:List (List Key × V)} (ok:HOk P w H h) (e:Rd H a (.dT kvs)):kvs.length<=sizeLine∧(a == sysModules)=false ∧
    ∃ xs,KT H kvs xs∧h.DictOfH (tupleKind (yk P w)) a xs:=by
  obtain ⟨z,y,xs,r,o,es,ep,h1,h2,h3,h4,h5⟩:=(show yE P w H h a (.dT kvs) from jiT ok e)
  refine ⟨z,y,xs,r,o,es,ep,h1,h2,h3,h4,fun x hx=>?_,h5⟩
  have all:∀ {l:List (List Key × V)} {m:List (List Key × Addr × Value)},KT H l m->∀ x ∈ m,(tupleKind (yk P w)).is h x.1 x.2.1:=by
    intro l m q
    induction q with
    | nil=>intro x hx; exact nomatch hx
    | @cons p q ps qs hq t ih =>
      intro x hx
      rcases List.mem_cons.mp hx with e | hx
      · subst e
        exact uU ok (by rw [<- hq.1]; exact hq.2.1)
      · exact ih x hx
  exact all r x hx
theorem dt_of {kvs:List (List Key × V)} (ok:HOk P w H h) (e:H a=some (.dT kvs)):kvs.length<=sizeLine∧(a == sysModules)=false ∧
    ∃ xs,KT H kvs xs∧h.DictOfH (tupleKind (yk P w)) a xs:=VY ok (.inl e)
end

def JG (H:Hp) (a:Addr) (y:V) (r:Option V):Prop :=
  (∃ kvs k,Rd H a (.dK kvs)∧y=kV k∧r=xI kvs k)∨∃ kvs k b,Rd H a (.dT kvs)∧y = .ref b∧H b=some (.tup (k.map kV))∧r=xI kvs k
def jbC (H:Hp) (a:Addr) (y v:V) (H':Hp):Prop :=
  (∃ kvs k,H a=some (.dK kvs)∧y=kV k∧kvs.length < sizeLine∧H'=upd H a (.dK (vC kvs k v))) ∨
  ∃ kvs k b,H a=some (.dT kvs)∧y = .ref b∧H b=some (.tup (k.map kV))∧kvs.length < sizeLine∧H'=upd H a (.dT (vC kvs k v))
theorem JG.t {H:Hp} {a b:Addr} {kvs:List (List Key × V)} {k:List Key} (e:H a=some (.dT kvs)) (eb:H b=some (.tup (k.map kV))):JG H a (.ref b) (xI kvs k):=.inr ⟨kvs,k,b,.inl e,rfl,eb,rfl⟩
theorem jbC.k {H:Hp} {a:Addr} {kvs:List (Key × V)} {k:Key} {v:V} (e:H a=some (.dK kvs)) (hl:kvs.length < sizeLine):jbC H a (kV k) v (upd H a (.dK (vC kvs k v))):=.inl ⟨kvs,k,e,rfl,hl,rfl⟩
theorem jbC.t {H:Hp} {a b:Addr} {kvs:List (List Key × V)} {k:List Key} {v:V} (e:H a=some (.dT kvs)) (eb:H b=some (.tup (k.map kV))) (hl:kvs.length < sizeLine) :
    jbC H a (.ref b) v (upd H a (.dT (vC kvs k v))):=.inr ⟨kvs,k,b,e,rfl,eb,hl,rfl⟩


section
variable {X:Cx} {pins:List (Addr × Obj)} {σ:St} {H:Hp} {s:Shared} {a:Addr} {y v:V} {u r:Value} {o:Option V} {A:Around} {E:Value->Shared->Prop}

theorem Inv.big (I:Inv X pins σ H s):sysModules < s.heap.objs.size:=by
  have h:mainGlobals < s.heap.objs.size:=(I.mod.glob.keeps I.bk).lt
  exact Nat.lt_trans (by decide) h

theorem d_in {Q:Value->Shared->Prop} (hu:A.units + 1 < cLine) (I:Inv X pins σ H s) (g:JG H a y o) (ry:yl y u) (h:∀ s',Inv X pins σ H s'->Q (.bool o.isSome) s') :
    wpAny (model X.prog X.w) A (compareOp .In u (.ref a)) Q E s:=by
  rcases g with ⟨kvs,k,e,ey,l⟩ | ⟨kvs,k,b,e,ey,eb,l⟩
  · subst ey
    obtain ⟨z,hd,vs,rel,dd⟩:=Xn I.hok e
    refine wpAny_in_of (VQ ry) hd dd.mapOf ?_
    rw [<- (rel.val k).isSome_eq,<- l]
    exact h _ (I.tok _)
  · subst ey
    cases (show u=Value.ref b from ry)
    obtain ⟨z,hd,xs,rel,dd⟩:=VY I.hok e
    refine wpAny_in_heap (tupleKind_room_in1 hu) (uU I.hok eb) hd dd ?_
    have q:=(rel.val k).isSome_eq
    rw [Option.isSome_map] at q
    rw [<- q,<- l]
    exact h _ (I.tok _)
theorem jiy {Q:Value->Shared->Prop} (hu:A.units + 1 < cLine) (I:Inv X pins σ H s) (g:JG H a y o) (ry:yl y u) (h:∀ s',Inv X pins σ H s'->Q (.bool (!o.isSome)) s') :
    wpAny (model X.prog X.w) A (compareOp .NotIn u (.ref a)) Q E s:=by
  rcases g with ⟨kvs,k,e,ey,l⟩ | ⟨kvs,k,b,e,ey,eb,l⟩
  · subst ey
    obtain ⟨z,hd,vs,rel,dd⟩:=Xn I.hok e
    refine wpAny_notIn_of (VQ ry) hd dd.mapOf ?_
    rw [<- (rel.val k).isSome_eq,<- l]
    exact h _ (I.tok _)
  · subst ey
    cases (show u=Value.ref b from ry)
    obtain ⟨z,hd,xs,rel,dd⟩:=VY I.hok e
    refine wpAny_notIn_heap (tupleKind_room_in1 hu) (uU I.hok eb) hd dd ?_
    have q:=(rel.val k).isSome_eq
    rw [Option.isSome_map] at q
    rw [<- q,<- l]
    exact h _ (I.tok _)
theorem jae {h':Heap} {t':Nat} {ob:HO} (I:Inv X pins σ H s) (mu:Mut (H a)) (hs:Heap.SameBut a s.heap h') (he:∃ q,h'.get? a=some q) (new:yE X.prog X.w (upd H a ob) h' a ob) :
    Inv X pins σ (upd H a ob) { s with heap:=h',toks:=t' } :=
  I.write (x:=a) (e:=a) mu (.inl rfl) (fun b q hb z=>(hs.2 b hb).trans z) he new
theorem dk_new {P:Program} {w:World} {H':Hp} {h':Heap} {kvs:List (Key × V)} {vs:List (Key × Value)} (z:kvs.length<=sizeLine) (hd:(a == sysModules)=false) (rel:KV kvs vs) (dd:h'.DictOf (yk P w) a vs) :
    yE P w H' h' a (.dK kvs):=⟨z,hd,vs,rel,dd⟩
theorem jed {H':Hp} {Q:Unit->Shared->Prop} (hu:A.units + 1 < cLine) (I:Inv X pins σ H s) (g:jbC H a y v H') (ry:yl y u) (rv:yl v r) (h:∀ s',Inv X pins σ H' s'->Q () s') :
    wpAny (model X.prog X.w) A (setItem (.ref a) u r) Q E s:=by
  rcases g with ⟨kvs,k,e,ey,l,eH⟩ | ⟨kvs,k,b,e,ey,eb,l,eH⟩
  · subst ey eH
    obtain ⟨z,hd,vs,rel,dd⟩:=dk_of I.hok e
    have hz:vs.length<=sizeLine:=by rw [<- rel.length]; exact z
    have hl:(vC kvs k v).length<=sizeLine:=by have:=uk kvs k v; omega
    refine wpAny_setItem_pairs (hsz:=hz) (VQ ry) dd fun h' dd' hs=>h _ ?_
    have he:∃ q,h'.get? a=some q:=let ⟨q,_,_,hq,_⟩:=dd'; ⟨q,hq⟩
    exact jae I (by rw [e]; exact True.intro) hs he (dk_new hl hd (rel.put k rv) dd')
  · subst ey eH
    cases (show u=Value.ref b from ry)
    obtain ⟨z,hd,xs,rel,dd⟩:=dt_of I.hok e
    have hz:xs.length<=sizeLine:=by rw [<- Paired.length rel]; exact z
    have hl:(vC kvs k v).length<=sizeLine:=by have:=uk kvs k v; omega
    refine wpAny_setItem_heap (hsz:=hz) (tupleKind_room_in1 hu) (uU I.hok eb) dd fun h' dd' hs=>h _ ?_
    obtain ⟨q,es,ep,hq,h2,h3,h4,_,h5⟩:=dd'
    refine jae I (by rw [e]; exact True.intro) hs ⟨q,hq⟩ ⟨hl,hd,_,(rel.put k eb rv).keeps fun c ys ec=>?_,q,es,ep,hq,h2,h3,h4,h5⟩
    rw [jm (jiW ec e (fun z=>nomatch z))]
    exact ec
end

section
variable {X:Cx} {pins:List (Addr × Obj)} {σ:St} {H:Hp} {s:Shared} {a:Addr} {kvs:List (Key × V)} {k:Key} {u:Value} {A:Around} {E:Value->Shared->Prop}
theorem d_len {Q:Value->Shared->Prop} (I:Inv X pins σ H s) (e:Rd H a (.dK kvs)) (h:∀ t s',Inv X pins σ H s'->Q (.int kvs.length t) s'):wpAny (model X.prog X.w) A (call (.builtin "len") [.ref a]) Q E s:=by
  obtain ⟨z,hd,vs,rel,dd⟩:=Xn I.hok e
  refine call_len_dict hd dd (by rw [<- rel.length]; rw [sizeLine_eq] at z; omega) ?_
  rw [<- rel.length]
  exact h _ _ (I.tok _)
end


def tDIn (ty td:TE):TE:=fun σ H Q=>ty σ H fun y H1=>td σ H1 fun x H2=>∃ a o,x = .ref a∧JG H2 a y o∧Q (.bl o.isSome) H2
def jcw (ty td:TE):TE:=fun σ H Q=>ty σ H fun y H1=>td σ H1 fun x H2=>∃ a o,x = .ref a∧JG H2 a y o∧Q (.bl (!o.isSome)) H2
def sDPut (td ty tv:TE):TS:=fun D σ H=>tv σ H fun v H1=>td σ H1 fun x H2=>ty σ H2 fun y H3=>∃ a H4,x = .ref a∧jbC H3 a y v H4∧D.nx σ H4
section
variable {X:Cx} {o i e value:Expr} {pos pos' tpos:Pos} {td ty tv:TE}
theorem pc_din (hu:X.A.units + 1 < cLine) (hi:PE X i ty) (ho:PE X o td):PC X .In i o (tDIn ty td):=by
  intro pins s σ H Q I h
  refine thn (hi pins s σ H _ I h) fun iv s1 ⟨y,H1,I1,ry,q1⟩=>thn (ho pins s1 σ H1 _ I1 q1) fun u s2 hQQ=>?_
  obtain ⟨x,H2,I2,rx,a,ov,ex,g,q2⟩:=hQQ
  subst ex
  obtain rfl:u=Value.ref a:=rx
  exact d_in hu I2 g ry fun s3 I3=>⟨.bl ov.isSome,H2,I3,rfl,q2⟩
theorem jdI (hu:X.A.units + 1 < cLine) (hi:PE X i ty) (ho:PE X o td):PC X .NotIn i o (jcw ty td):=by
  intro pins s σ H Q I h
  refine thn (hi pins s σ H _ I h) fun iv s1 ⟨y,H1,I1,ry,q1⟩=>thn (ho pins s1 σ H1 _ I1 q1) fun u s2 hQQ=>?_
  obtain ⟨x,H2,I2,rx,a,ov,ex,g,q2⟩:=hQQ
  subst ex
  obtain rfl:u=Value.ref a:=rx
  exact jiy hu I2 g ry fun s3 I3=>⟨.bl (!ov.isSome),H2,I3,rfl,q2⟩
theorem jcI (hu:X.A.units + 1 < cLine) (ho:PE X o td) (hi:PE X i ty) (hv:PE X value tv) (hs:swapsWith value (some (.Subscript o i pos')) pos.line X.env=pure false) :
    PS X (.Assign [.Subscript o i pos'] value pos) (sDPut td ty tv):=by
  intro pins s σ H D I h
  refine wpAny_Assign_Subscript (thn (hv pins s σ H _ I h) fun r s1 ⟨v,H1,I1,rv,q1⟩=>thn (ho pins s1 σ H1 _ I1 q1) fun u s2 ⟨x,H2,I2,rx,q2⟩=>thn (hi pins s2 σ H2 _ I2 q2) fun iv s3 hQQ=>?_) hs
  obtain ⟨y,H3,I3,ry,a,H4,ex,g,q3⟩:=hQQ
  subst ex
  obtain rfl:u=Value.ref a:=rx
  exact jed hu I3 g ry rv fun s4 I4=>⟨σ,H4,I4,q3⟩
end


theorem jgt {P:Program} {w:World} {H:Hp} (h:Heap) (hb:sysModules < h.objs.size):yE P w H (h.push { cls:=.type "dict",data:=.dict #[] }) h.objs.size (.dK []) :=
  ⟨Nat.zero_le _,beq_eq_false_iff_ne.mpr (Ne.symm (Nat.ne_of_lt hb)),[],.nil,Heap.DictOf.new h⟩
theorem jgr {P:Program} {w:World} {H:Hp} (h:Heap) (hb:sysModules < h.objs.size):yE P w H (h.push { cls:=.type "dict",data:=.dict #[] }) h.objs.size (.dT []) :=
  ⟨Nat.zero_le _,beq_eq_false_iff_ne.mpr (Ne.symm (Nat.ne_of_lt hb)),[],.nil,_,#[],0,Heap.get?_push_size _ rfl,⟨rfl,rfl,rfl⟩,rfl,rfl,List.nodup_nil⟩
def tDNewK:TE:=fun _ H Q=>∀ p,H p=none->Q (.ref p) (upd H p (.dK []))
def tDNewT:TE:=fun _ H Q=>∀ p,H p=none->Q (.ref p) (upd H p (.dT []))
section
variable {X:Cx} {pos:Pos}
theorem jfr:PE X (.Dict [] [] pos) tDNewK:=fun pins s σ H Q I h =>
  wpAny_Dict_empty ⟨.ref s.heap.objs.size,_,I.laid (a:=s.heap.objs.size) (o:=.dK []) (t':=s.toks) (fun _ _ q=>Heap.get?_push_of_some _ q) (Nat.le_refl _) (jgt s.heap I.big),rfl,h _ (I.hok.fresh (Nat.le_refl _))⟩
theorem jfq:PE X (.Dict [] [] pos) tDNewT:=fun pins s σ H Q I h =>
  wpAny_Dict_empty ⟨.ref s.heap.objs.size,_,I.laid (a:=s.heap.objs.size) (o:=.dT []) (t':=s.toks) (fun _ _ q=>Heap.get?_push_of_some _ q) (Nat.le_refl _) (jgr s.heap I.big),rfl,h _ (I.hok.fresh (Nat.le_refl _))⟩
end

structure M1 (X:Cx) (o:Expr) (m:Str) (apos:Pos) (e:Expr) (cpos:Pos):Prop where
  base:attributeBase o m X.env (eval o X.env)=eval o X.env
  few:((backTo cpos (starEach [e] X.env)).all (fun x=>!x.1) && (backToKw cpos (keywordEach [] X.env)).all (fun x=>x.1.isSome)
    && decide (([e]:List Expr).length + ([]:List Keyword).length + (if ([]:List Keyword).isEmpty then 0 else 1) < 30))=true
  line:(apos.endLine == cpos.line)=true
  trees:backTo cpos (starEach [e] X.env)=[(false,eval e X.env)]
structure M2 (X:Cx) (o:Expr) (m:Str) (apos:Pos) (e f:Expr) (cpos:Pos):Prop where
  base:attributeBase o m X.env (eval o X.env)=eval o X.env
  few:((backTo cpos (starEach [e,f] X.env)).all (fun x=>!x.1) && (backToKw cpos (keywordEach [] X.env)).all (fun x=>x.1.isSome)
    && decide (([e,f]:List Expr).length + ([]:List Keyword).length + (if ([]:List Keyword).isEmpty then 0 else 1) < 30))=true
  line:(apos.endLine == cpos.line)=true
  trees:backTo cpos (starEach [e,f] X.env)=[(false,eval e X.env),(false,eval f X.env)]

def IsD (H:Hp) (a:Addr):Prop:=(∃ kvs,Rd H a (.dK kvs))∨∃ kvs,Rd H a (.dT kvs)
theorem UW {X:Cx} {pins:List (Addr × Obj)} {σ:St} {H:Hp} {s:Shared} {a:Addr} (I:Inv X pins σ H s) (d:IsD H a) :
    s.TypeIs (.ref a) "dict"∧(∀ b,Value.ref a = .ref b->∃ ob,s.heap.get? b=some ob∧ob.dict=none)∧(a == sysModules)=false:=by
  rcases d with ⟨kvs,e⟩ | ⟨kvs,e⟩
  · obtain ⟨_,hd,vs,_,dd⟩:=Xn I.hok e
    refine ⟨dd.typeIs,fun b q=>?_,hd⟩
    cases q
    obtain ⟨ob,_,_,h1,h2,_⟩:=dd
    exact ⟨ob,h1,h2.2.1⟩
  · obtain ⟨_,hd,xs,_,dd⟩:=VY I.hok e
    refine ⟨dd.typeIs,fun b q=>?_,hd⟩
    cases q
    obtain ⟨ob,_,_,h1,h2,_⟩:=dd
    exact ⟨ob,h1,h2.2.1⟩

section
variable {X:Cx} {pins:List (Addr × Obj)} {σ:St} {H:Hp} {s:Shared} {a:Addr} {y d:V} {u r:Value} {o:Option V} {A:Around} {E:Value->Shared->Prop}
theorem d_get1 {Q:Value->Shared->Prop} (hu:A.units + 1 < cLine) (I:Inv X pins σ H s) (g:JG H a y o) (ry:yl y u) (h:∀ w' s',Inv X pins σ H s'->yl (o.getD .non) w'->Q w' s') :
    wpAny (model X.prog X.w) A (call (.builtin "dict.get") [.ref a,u]) Q E s:=by
  rcases g with ⟨kvs,k,e,ey,l⟩ | ⟨kvs,k,b,e,ey,eb,l⟩
  · subst ey
    obtain ⟨z,hd,vs,rel,dd⟩:=Xn I.hok e
    refine call_meetsIn PySem.F.slot_dict_get dd.typeIs PySem.F.entry_dict_get (PySem.F.args_dict_get_2 _ _) (meets_dict_get (yk X.prog X.w) a (VQ ry) hd) ⟨_,dd.mapOf,h _ _ (I.tok _) ?_⟩
    rw [l]
    exact (rel.val k).getD rfl
  · subst ey
    cases (show u=Value.ref b from ry)
    obtain ⟨z,hd,xs,rel,dd⟩:=VY I.hok e
    refine call_meetsIn PySem.F.slot_dict_get dd.typeIs PySem.F.entry_dict_get (PySem.F.args_dict_get_2 _ _) (meetsH_dict_get (tupleKind (yk X.prog X.w)) a b hd) ⟨tupleKind_room_in1 hu,k,xs,uU I.hok eb,dd,h _ _ (I.tok _) ?_⟩
    rw [l]
    exact (rel.val k).getD rfl
theorem d_get2 {Q:Value->Shared->Prop} (hu:A.units + 1 < cLine) (I:Inv X pins σ H s) (g:JG H a y o) (ry:yl y u) (rd:yl d r) (h:∀ w' s',Inv X pins σ H s'->yl (o.getD d) w'->Q w' s') :
    wpAny (model X.prog X.w) A (call (.builtin "dict.get") [.ref a,u,r]) Q E s:=by
  rcases g with ⟨kvs,k,e,ey,l⟩ | ⟨kvs,k,b,e,ey,eb,l⟩
  · subst ey
    obtain ⟨z,hd,vs,rel,dd⟩:=Xn I.hok e
    refine call_meetsIn PySem.F.slot_dict_get dd.typeIs PySem.F.entry_dict_get (PySem.F.args_dict_get_3 _ _ _) (meets_dict_get_default (yk X.prog X.w) a (VQ ry) hd r) ⟨_,dd.mapOf,h _ _ (I.tok _) ?_⟩
    rw [l]
    exact (rel.val k).getD rd
  · subst ey
    cases (show u=Value.ref b from ry)
    obtain ⟨z,hd,xs,rel,dd⟩:=VY I.hok e
    refine call_meetsIn PySem.F.slot_dict_get dd.typeIs PySem.F.entry_dict_get (PySem.F.args_dict_get_3 _ _ _) (meetsH_dict_get_default (tupleKind (yk X.prog X.w)) a b hd r) ⟨tupleKind_room_in1 hu,k,xs,uU I.hok eb,dd,h _ _ (I.tok _) ?_⟩
    rw [l]
    exact (rel.val k).getD rd
end

def tDGet1 (td ty:TE):TE:=fun σ H Q=>td σ H fun x H1=>∃ a,x = .ref a∧IsD H1 a∧ty σ H1 fun y H2=>∃ o,JG H2 a y o∧Q (o.getD .non) H2
def tDGet2 (td ty tx:TE):TE:=fun σ H Q=>td σ H fun x H1=>∃ a,x = .ref a∧IsD H1 a∧ty σ H1 fun y H2=>tx σ H2 fun z H3=>∃ o,JG H3 a y o∧Q (o.getD z) H3
section
variable {X:Cx} {o e f:Expr} {apos cpos:Pos} {td ty tx:TE}
theorem jft (hu:X.A.units + 1 < cLine) (ho:PE X o td) (he:PE X e ty) (m:M1 X o "get" apos e cpos):PE X (.Call (.Attribute o "get" apos) [e] [] cpos) (tDGet1 td ty):=by
  intro pins s σ H Q I h
  refine wpAny_Call_method m.base m.few m.line PySem.F.plainAttrs_dict PySem.F.slot_dict_get PySem.F.type_dict_get (thn (ho pins s σ H _ I h) fun u s1 hQQ=>?_)
  obtain ⟨x,H1,I1,rx,a,ex,d,q1⟩:=hQQ
  subst ex
  obtain rfl:u=Value.ref a:=rx
  obtain ⟨t1,t2,_⟩:=UW I1 d
  refine ⟨t1,t2,?_⟩
  rw [m.trees]
  refine Calls.callWith_builtin rfl (Calls.evalArgs_plain (Calls.spliced_cons (thn (he pins s1 σ H1 _ I1 q1) fun iv s2 ⟨y,H2,I2,ry,ov,g,q2⟩=>Calls.spliced_nil ?_)))
  exact d_get1 hu I2 g ry fun w' s3 I3 rw'=>⟨_,H2,I3,rw',q2⟩
theorem jfs (hu:X.A.units + 1 < cLine) (ho:PE X o td) (he:PE X e ty) (hf:PE X f tx) (m:M2 X o "get" apos e f cpos):PE X (.Call (.Attribute o "get" apos) [e,f] [] cpos) (tDGet2 td ty tx):=by
  intro pins s σ H Q I h
  refine wpAny_Call_method m.base m.few m.line PySem.F.plainAttrs_dict PySem.F.slot_dict_get PySem.F.type_dict_get (thn (ho pins s σ H _ I h) fun u s1 hQQ=>?_)
  obtain ⟨x,H1,I1,rx,a,ex,d,q1⟩:=hQQ
  subst ex
  obtain rfl:u=Value.ref a:=rx
  obtain ⟨t1,t2,_⟩:=UW I1 d
  refine ⟨t1,t2,?_⟩
  rw [m.trees]
  refine Calls.callWith_builtin rfl (Calls.evalArgs_plain (Calls.spliced_cons (thn (he pins s1 σ H1 _ I1 q1) fun iv s2 ⟨y,H2,I2,ry,q2⟩ =>
    Calls.spliced_cons (thn (hf pins s2 σ H2 _ I2 q2) fun fv s3 ⟨z,H3,I3,rz,ov,g,q3⟩=>Calls.spliced_nil ?_))))
  exact d_get2 hu I3 g ry rz fun w' s4 I4 rw'=>⟨_,H3,I4,rw',q3⟩
end

section
variable {X:Cx} {pins:List (Addr × Obj)} {σ:St} {H:Hp} {s:Shared} {a:Addr} {kvs:List (Key × V)} {A:Around} {E:Value->Shared->Prop}
end


section
variable {X:Cx} {pins:List (Addr × Obj)} {σ:St} {H:Hp} {s:Shared} {a:Addr} {y:V} {u:Value} {A:Around} {E:Value->Shared->Prop}
end
end L2


namespace L2
open PySem PySem.Spec PyProof.Rows
theorem Inv.turnedL {X:Cx} {pins:List (Addr × Obj)} {σ:St} {H:Hp} {s:Shared} {h':Heap} {t':Nat} {ch:List Addr} (I:Inv X pins σ H s) (k:∀ b o,b ∉ ch->s.heap.get? b=some o->h'.get? b=some o) (f:∀ b ∈ ch,uy X pins H b) :
    Inv X pins σ H { s with heap:=h',toks:=t' }:=by
  have ne:∀ b u c,H b=some u->c ∈ ch->b≠c:=fun b u c q hc z=>by rw [z,(f c hc).1] at q; cases q
  refine I.step (g':=s.gens) (d':=s.drawn) (ch:=ch) (fun b hb=>?_) (fun b o _ _ hc q _=>k b o hc q) (fun b o _ _ hc q _=>⟨o.slots,k b o hc q⟩) (fun _ _ _ _ n=>n)
    (fun b o hc q=>⟨o,k b o hc q⟩) (fun _ _ q=>q) (fun _ _ _ q=>q) (fun b ps q=>⟨#[],by rw [q]; simp⟩) (fun m hm=>?_) (fun b u q=>?_) I.bare
  · exact ⟨(f b hb).2.2.2.1,(f b hb).2.1,(f b hb).2.2.2.2.1,(f b hb).2.2.2.2.2⟩
  · obtain ⟨o,es,ep,ho,r⟩:=hm
    exact ⟨o,es,ep,k _ o (fun hc=>(f _ hc).2.1 rfl) ho,r⟩
  · refine (I.hok b u q).stay (fun c v hc z=>k c v (fun hm=>?_) z) (fun _ z=>z) fun _ _ z=>z
    rcases hc with y | y
    · exact ne b u c q hm y.symm
    · exact ne c _ c y hm rfl
def Itz (K:PySem.W.Frag) (a b:Addr):It :=
  ⟨fun i H=>∃ xs ys x y,SqL K H a xs∧SqL K H b ys∧xs[i]? = some x∧ys[i]? = some y,fun i H x H'=>∃ p u v,x = .ref p∧H p=none∧(∀ xs,SqL K H a xs->xs[i]? = some u)∧(∀ ys,SqL K H b ys->ys[i]? = some v)∧H'=upd H p (.tup [u,v]),
    fun i H=>∃ xs ys,SqL K H a xs∧SqL K H b ys∧(xs.length<=i∨ys.length<=i)⟩
theorem jew {P:Program} {w:World} {K:PySem.W.Frag} {elts:List Expr} {x1:Nat} {pos:Pos} (a b z TI TO i1 i2:Addr) (D:ZipApart z TI TO i1 i2 a b) :
    Turn P w K (.Tuple elts x1 pos) (Itz K a b) [z,TO,i1,i2,TI] z (fun i h=>IsZip h z TI TO .none∧IsPair h TI (.ref i1) (.ref i2)∧(∃ u v,IsPair h TO u v)∧h.IsListIter i1 a i∧h.IsListIter i2 b i) where
  mem:=by simp
  obj:=fun i h st c hc=>by
    obtain ⟨hz,ht,⟨u,v,ho⟩,⟨o1,q1,_,d1⟩,⟨o2,q2,_,d2⟩⟩:=st
    simp only [List.mem_cons,List.mem_nil_iff,or_false] at hc
    rcases hc with rfl | rfl | rfl | rfl | rfl
    · exact ⟨_,hz,fun v e=>by have e:Data.fields _=Data.cell v:=e; cases e⟩
    · exact ⟨_,ho,fun v e=>by have e:Data.seq _=Data.cell v:=e; cases e⟩
    · exact ⟨o1,q1,fun v e=>by rw [d1] at e; cases e⟩
    · exact ⟨o2,q2,fun v e=>by rw [d2] at e; cases e⟩
    · exact ⟨_,ht,fun v e=>by have e:Data.seq _=Data.cell v:=e; cases e⟩
  keep:=fun i h h' st k=>by
    obtain ⟨hz,ht,⟨u,v,ho⟩,q1,q2⟩:=st
    exact ⟨k z (by simp) _ hz,k TI (by simp) _ ht,⟨u,v,k TO (by simp) _ ho⟩,q1.at fun o q=>k i1 (by simp) o q,q2.at fun o q=>k i2 (by simp) o q⟩
  item:=by
    intro X hP hw hK hc i pins s σ H E I hf st hg
    subst hP hw hK
    obtain ⟨hz,ht,⟨u0,v0,ho⟩,q1,q2⟩:=st
    obtain ⟨xs,ys,x,y,ha,hb,hx,hy⟩:=hg
    obtain ⟨i1s,r1,p1,_⟩:=I.list ha
    obtain ⟨i2s,r2,p2,_⟩:=I.list hb
    obtain ⟨u,hu,ru⟩:=r1.get hx
    obtain ⟨v,hv,rv⟩:=r2.get hy
    refine wpAny_pyNext_zip_item D hz ht ho q1 q2 p1.isList p2.isList (x:=u) (y:=v) (by simpa using hu) (by simpa using hv) fun h' z1 o1 j1 j2 tup sz keep=>?_
    refine ⟨_,rfl,wpAny_letOwnedTupleGo_zip (s:={ s with heap:=h' }) z1 fun h2 z2 sb=>?_⟩
    have fz:=hf z (by simp)
    have lt:∀ c,(∃ o,s.heap.get? c=some o)->s.heap.objs.size≠c:=fun c hc e=>by
      obtain ⟨o,ho⟩:=hc
      have:=Heap.lt_size ho
      rw [<- e] at this
      exact Nat.lt_irrefl _ this
    have n1:s.heap.objs.size≠z:=lt _ ⟨_,hz⟩
    have jfU:∀ c o,c ∉ [z,TO,i1,i2]->s.heap.get? c=some o->h2.get? c=some o:=fun c o hn q=>by
      simp only [List.mem_cons,List.mem_nil_iff,or_false,not_or] at hn
      exact (sb.2 c hn.1).trans (keep c o hn.1 hn.2.1 hn.2.2.1 hn.2.2.2 q)
    have I1:Inv X pins σ H { s with heap:=h2 }:=I.turnedL (t':=s.toks) (ch:=[z,TO,i1,i2]) jfU fun c hc=>hf c (by
      simp only [List.mem_cons,List.mem_nil_iff,or_false] at hc ⊢
      rcases hc with h | h | h | h
      · exact .inl h
      · exact .inr (.inl h)
      · exact .inr (.inr (.inl h))
      · exact .inr (.inr (.inr (.inl h))))
    have fresh:H s.heap.objs.size=none:=I.hok.fresh (Nat.le_refl _)
    have fp:=I.fpOk (Nat.le_refl _) fresh
    have tup2:h2.get? s.heap.objs.size=some { cls:=.type "tuple",data:=.seq #[u,v] }:=(sb.2 _ n1).trans tup
    refine ⟨.ref s.heap.objs.size,upd H s.heap.objs.size (.tup [x,y]),I1.track fp.np ⟨by show 2<=sizeLine; decide,[u,v],.cons ru (.cons rv .nil),⟨_,tup2,rfl,_,rfl⟩⟩,rfl,⟨_,x,y,rfl,fresh,fun zs h=>by rw [I.list_inj h ha]; exact hx,fun zs h=>by rw [I.list_inj h hb]; exact hy,rfl⟩,
      ⟨z2,(sb.2 _ D.TIz).trans (keep _ _ D.TIz D.TITO D.TIi1 D.TIi2 ht),⟨u,v,(sb.2 _ D.TOz).trans o1⟩,j1.at fun o q=>(sb.2 _ D.i1z).trans q,j2.at fun o q=>(sb.2 _ D.i2z).trans q⟩,fun c hc=>?_⟩
    have:s.heap.objs.size≠c:=by
      simp only [List.mem_cons,List.mem_nil_iff,or_false] at hc
      rcases hc with rfl | rfl | rfl | rfl | rfl
      · exact n1
      · exact lt _ ⟨_,ho⟩
      · exact lt _ (let ⟨o,q,_⟩:=q1; ⟨o,q⟩)
      · exact lt _ (let ⟨o,q,_⟩:=q2; ⟨o,q⟩)
      · exact lt _ ⟨_,ht⟩
    rw [jm (Ne.symm this)]
    exact (hf c hc).1
  done:=by
    intro X hP hw hK hc i pins s σ H E I hf st hg
    subst hP hw hK
    obtain ⟨hz,ht,⟨u0,v0,ho⟩,q1,q2⟩:=st
    obtain ⟨xs,ys,ha,hb,hx⟩:=hg
    obtain ⟨i1s,r1,p1,_⟩:=I.list ha
    obtain ⟨i2s,r2,p2,_⟩:=I.list hb
    have l1:=r1.length
    have l2:=r2.length
    refine wpAny_pyNext_zip_end (I.ok.hd hc) D hz ht ho q1 q2 p1.isList p2.isList (by
      rcases hx with h | h
      · exact .inl (by simp; omega)
      · exact .inr (by simp; omega)) fun h' keep=>⟨rfl,I.turnedL (t':=s.toks) (ch:=[z,TO,i1,i2]) (fun c o hn q=>?_) fun c hc=>hf c ?_⟩
    · simp only [List.mem_cons,List.mem_nil_iff,or_false,not_or] at hn
      exact keep c o hn.1 hn.2.1 hn.2.2.1 hn.2.2.2 q
    · simp only [List.mem_cons,List.mem_nil_iff,or_false] at hc ⊢
      rcases hc with h | h | h | h
      · exact .inl h
      · exact .inr (.inl h)
      · exact .inr (.inr (.inl h))
      · exact .inr (.inr (.inr (.inl h)))
  self:=fun _ _ _ _ _ st h=>wpAny_pyIter_zip st.1 h
section
variable {X:Cx} {elts:List Expr} {x1:Nat} {tpos:Pos}
theorem jdp (n a b:Nat) (la:a < n) (lb:b < n):ZipApart (n + 4) (n + 2) (n + 3) n (n + 1) a b:=by
  constructor <;> (intro e; have e:(_:Nat)=(_:Nat):=e; omega)
theorem bt_zip:bootBuiltins "zip" = some (.type "zip"):=by decide +kernel
theorem jdo {pins:List (Addr × Obj)} {σ:St} {H1:Hp} {s1:Shared} {R:It->Hp->Prop} {a b:Addr} {xs ys:List V} (I1:Inv X pins σ H1 s1) (hx:SqL X.K H1 a xs) (hy:SqL X.K H1 b ys) (q:R (Itz X.K a b) H1) :
    wpAny (model X.prog X.w) X.A (call (.type "zip") [.ref a,.ref b]) (fun v s2=>wpAny (model X.prog X.w) X.A (pyIter v) (PIE X pins σ (.Tuple elts x1 tpos) R) X.xe s2) X.xe s1:=by
  obtain ⟨is1,_,p1,_⟩:=I1.list hx
  obtain ⟨is2,_,p2,_⟩:=I1.list hy
  have la:a < s1.heap.objs.size:=let ⟨o,q,_⟩:=p1.isList; Heap.lt_size q
  have lb:b < s1.heap.objs.size:=let ⟨o,q,_⟩:=p2.isList; Heap.lt_size q
  refine call_zip_2 p1.isList p2.isList fun h' z ti to j1 j2 sz keep=>?_
  refine wpAny_pyIter_zip z ?_
  have D:ZipApart (s1.heap.objs.size + 4) (s1.heap.objs.size + 2) (s1.heap.objs.size + 3) s1.heap.objs.size (s1.heap.objs.size + 1) a b:=jdp _ _ _ la lb
  refine ⟨s1.heap.objs.size + 4,_,_,_,H1,rfl,I1.kept (t':=s1.toks) keep,jew a b _ _ _ _ _ D,⟨z,ti,⟨_,_,to⟩,j1,j2⟩,fun c hc=>?_,q⟩
  have:s1.heap.objs.size<=c:=by
    simp only [List.mem_cons,List.mem_nil_iff,or_false] at hc
    rcases hc with rfl | rfl | rfl | rfl | rfl
    · exact Nat.le_add_right _ _
    · exact Nat.le_add_right _ _
    · exact Nat.le_refl _
    · exact Nat.le_add_right _ _
    · exact Nat.le_add_right _ _
  exact I1.fpOk this (I1.hok.fresh this)
end
end L2

namespace L2
open PySem PySem.Spec PyProof.Rows
section
variable {prog:Program} {w:World} {A:Around} {E:Value->Shared->Prop} {s:Shared}
theorem jdL {it tu:Addr} {i:Nat} {its:Array Value} {Q:Value->Shared->Prop} (nh:A.handled=none) (hI:s.heap.IsTupleIter it tu i) (hU:s.heap.IsTuple tu its) (hn:its[i]? = none)
    (go:∀ h' e,Heap.ExtBut it s.heap h'->(∃ o,h'.get? e=some o∧o.cls = .type "StopIteration")->E (.ref e) { s with heap:=h' }):wpAny (model prog w) A (Builtin.SmallTypes.nextOf (.ref it)) Q E s:=by
  obtain ⟨oi,hoi,hci,hdi⟩:=id hI; obtain ⟨ou,hou,_,nu,hdu⟩:=hU; unfold Builtin.SmallTypes.nextOf
  refine wpAny_bind (wpAny_callSpecial?_slot (name:=Str.ofString "__next__") hI.typeIs F.slot_tuple_iterator_next (wpAny_call_entry F.slot_tuple_iterator_next hI.typeIs F.entry_tuple_iterator_next ?_ (F.args_tuple_iterator_next_1 _)))
  show wpAny _ _ (field (.ref it) 0 >>= _) _ _ s; refine wpAny_bind (wpAny_field hoi hdi (x:=.ref tu) rfl ?_)
  show wpAny _ _ (if (Value.ref tu == Value.none)=true then _ else _) _ _ s; rw [if_neg (show ¬ ((Value.ref tu == Value.none)=true) from Bool.false_ne_true)]
  show wpAny _ _ (field (.ref it) 1 >>= _) _ _ s; refine wpAny_bind (wpAny_field hoi hdi (x:=.int i 0) rfl ?_)
  show wpAny _ _ (seqItems? (.ref tu) >>= _) _ _ s; refine wpAny_bind (wpAny_seqItems hou hdu ?_); simp only [Int.toNat_natCast,hn]
  refine wpAny_bind (wpAny_rule (wpAny_bind (wpAny_setField hoi hdi (by simp) ?_))); show wpAny _ _ (newExc (.type "StopIteration") [] >>= _) _ _ _
  refine wpAny_bind ?_; simp only [newExc,newTuple]; refine wpAny_bind (wpAny_newObj_type ?_ (by size_fits))
  refine wpAny_bind (m:=firstArgMember _ _) (wpAny_of_eq (a:=Value.none) (by first | rfl | (simp only [firstArgMember]; rfl)) ?_); refine wpAny_newObj_type ?_ (by size_fits)
  simp only [raiseNew]; refine wpAny_bind (wpAny_handled ?_); first | rw [show A.in1.handled=none from nh] | rw [nh]
  refine wpAny_bind (wpAny_pure (wpAny_throw ?_)); exact go _ _ (((Heap.SameBut.update ..).extBut.push _).push _) ⟨_,Heap.get?_push_size _ rfl,rfl⟩
theorem jet {z TI TO i1 i2 t1:Addr} {i:Nat} {a b:Value} {xs:Array Value} {Q:Option Value->Shared->Prop} (nh:A.handled=none) (n1:i1≠z) (n2:t1≠z) (n3:t1≠i1)
    (hz:IsZip s.heap z TI TO .none) (hTI:IsPair s.heap TI (.ref i1) (.ref i2)) (hTO:IsPair s.heap TO a b) (h1:s.heap.IsTupleIter i1 t1 i) (hl1:s.heap.IsTuple t1 xs) (he:xs[i]? = none)
    (go:∀ h',(∀ c o,c≠z->c≠i1->s.heap.get? c=some o->h'.get? c=some o)->Q none { s with heap:=h' }):wpAny (model prog w) A (pyNext (.ref z)) Q E s:=by
  have hT:s.TypeIs (.ref z) "zip":=⟨_,hz,rfl⟩
  unfold pyNext
  refine wpAny_bind (wpAny_attempt (wpAny_callSpecial?_slot (name:=Str.ofString "__next__") hT F.slot_zip_next (wpAny_call_entry F.slot_zip_next hT F.entry_zip_next ?_ (F.args_zip_next_1 _))))
  show wpAny _ _ (field (.ref z) 2 >>= _) _ _ _; refine wpAny_bind (wpAny_field hz rfl (x:=.bool false) rfl ?_)
  show wpAny _ _ (field (.ref z) 3 >>= _) _ _ _; refine wpAny_bind (wpAny_field hz rfl (x:=.ref TI) rfl ?_)
  refine wpAny_bind (wpAny_seqItems hTI rfl ?_); show wpAny _ _ (Builtin.SmallTypes.ownedTupleIsFree (.ref z) >>= _) _ _ _
  refine wpAny_bind ?_; unfold Builtin.SmallTypes.ownedTupleIsFree; refine wpAny_bind (wpAny_field hz rfl (x:=.none) rfl (wpAny_pure ?_))
  simp only [if_true]; refine wpAny_bind (wpAny_rule ?_); refine wpAny_bind (wpAny_field hz rfl (x:=.ref TO) rfl ?_)
  refine wpAny_bind (wpAny_setField_rec hz (by simp) fun hA zA sA=>?_)
  replace zA:IsZip hA z TI TO .ellipsis:=zA
  refine wpAny_bind ?_; simp only [List.zipIdx_cons,List.zipIdx_nil,List.forIn_cons,List.forIn_nil]
  refine wpAny_bind (wpAny_bind (wpAny_onRaise ?_)); show wpAny _ _ (Builtin.SmallTypes.nextOf (.ref i1) >>= _) _ _ _
  refine wpAny_bind (jdL (its:=xs) nh (h1.extBut sA.extBut n1) (hl1.extBut sA.extBut n2) he fun hB e sB hex=>?_)
  obtain ⟨oe,hoe,hce⟩:=hex
  have zB:IsZip hB z TI TO .ellipsis:=sB _ _ n1.symm zA
  have hez:e≠z:=fun x=>by subst x; rw [zB] at hoe; cases hoe; simp at hce
  refine wpAny_setField_rec zB (by simp) fun hC _ sC=>?_
  refine wpAny_bind (wpAny_isInstance (T:="StopIteration") (b:=true) ⟨oe,sC.extBut _ _ hez hoe,hce⟩ isSubtype_stop ?_)
  exact wpAny_pure (go _ fun c o c1 c2 q=>sC.extBut _ _ c1 (sB _ _ c2 (sA.extBut _ _ c1 q)))
abbrev zT1 (h:Heap) (t:Addr):Heap:=h.push { cls:=.type "tuple_iterator",data:=.fields #[.ref t,.int 0 0] }
abbrev zT3 (h:Heap) (t u:Addr):Heap:=(zT1 (zT1 h t) u).push { cls:=.type "tuple",data:=.seq #[.ref h.objs.size,.ref (zT1 h t).objs.size] }
abbrev zT4 (h:Heap) (t u:Addr):Heap:=(zT3 h t u).push { cls:=.type "tuple",data:=.seq #[.none,.none] }
abbrev zT5 (h:Heap) (t u:Addr):Heap:=(zT4 h t u).push { cls:=.type "zip",data:=.fields #[.none,.bool false,.bool false,.ref (zT1 (zT1 h t) u).objs.size,.ref (zT3 h t u).objs.size] }
theorem jbX (t u:Addr) (xs ys:Array Value) :
    Meets (Builtin.«zip.__new__» ⟨[.type "zip",.ref t,.ref u],[]⟩) (fun _ R s=>s.heap.IsTuple t xs∧s.heap.IsTuple u ys∧R (.ok (.ret (.ref (zT4 s.heap t u).objs.size))) { s with heap:=zT5 s.heap t u }) :=
  .of_wp fun prog w A R s h=>by
    obtain ⟨hp,g,d,tk,os⟩:=s; obtain ⟨q1,q2,h⟩:=h
    have hsub:=sub_zip
    have hL1:Heap.IsTuple (Shared.heap ⟨hp,g,d,tk,os⟩) t xs:=q1
    have hL2:Heap.IsTuple (Shared.heap ⟨hp.push { cls:=.type "tuple_iterator",data:=.fields #[.ref t,.int 0 0] },g,d,tk,os⟩) u ys:=Heap.IsTuple.push q2 _
    wp_walk using wpAny_pyIter_tuple hL1,wpAny_pyIter_tuple hL2
    exact ⟨_,rfl,h⟩
theorem jei {t u:Addr} {xs ys:Array Value} {Q:Value->Shared->Prop} (q1:s.heap.IsTuple t xs) (q2:s.heap.IsTuple u ys)
    (h:∀ h',IsZip h' (s.heap.objs.size + 4) (s.heap.objs.size + 2) (s.heap.objs.size + 3) .none->IsPair h' (s.heap.objs.size + 2) (.ref s.heap.objs.size) (.ref (s.heap.objs.size + 1))->IsPair h' (s.heap.objs.size + 3) .none .none ->
      h'.IsTupleIter s.heap.objs.size t 0->h'.IsTupleIter (s.heap.objs.size + 1) u 0->(∀ c o,s.heap.get? c=some o->h'.get? c=some o)->Q (.ref (s.heap.objs.size + 4)) { s with heap:=h' }) :
    wpAny (model prog w) A (call (.type "zip") [.ref t,.ref u]) Q E s:=by
  refine callType_new F.called_zip (by decide) (F.typeCall_zip_2 _ _) (F.newCall_zip_2 _ _) (fun obj=>F.args_object_init_3 obj _ _) F.entry_zip_new (jbX t u xs ys) ⟨q1,q2,?_⟩
  have z1:(zT1 s.heap t).objs.size=s.heap.objs.size + 1:=Heap.size_push ..
  have z2:(zT1 (zT1 s.heap t) u).objs.size=s.heap.objs.size + 2:=by rw [Heap.size_push,z1]
  have z3:(zT3 s.heap t u).objs.size=s.heap.objs.size + 3:=by rw [Heap.size_push,z2]
  have z4:(zT4 s.heap t u).objs.size=s.heap.objs.size + 4:=by rw [Heap.size_push,z3]
  have up:∀ c o,(zT3 s.heap t u).get? c=some o->(zT5 s.heap t u).get? c=some o:=fun c o q=>Heap.get?_push_of_some _ (Heap.get?_push_of_some _ q)
  have g5:(zT5 s.heap t u).get? (zT4 s.heap t u).objs.size=some _:=Heap.get?_push_size _ rfl
  have g4:(zT5 s.heap t u).get? (zT3 s.heap t u).objs.size=some _:=Heap.get?_push_of_some _ (Heap.get?_push_size _ rfl)
  have g3:(zT5 s.heap t u).get? (zT1 (zT1 s.heap t) u).objs.size=some _:=up _ _ (Heap.get?_push_size _ rfl)
  have g2:(zT5 s.heap t u).get? (zT1 s.heap t).objs.size=some _:=up _ _ (Heap.get?_push_of_some _ (Heap.get?_push_size _ rfl))
  have g1:(zT5 s.heap t u).get? s.heap.objs.size=some _:=up _ _ (Heap.get?_push_of_some _ (Heap.get?_push_of_some _ (Heap.get?_push_size _ rfl)))
  show _∧_
  rw [z2,z3,z4] at g5; rw [z1,z2] at g3; rw [z3] at g4; rw [z1] at g2; rw [z4]
  exact ⟨⟨_,g5,rfl⟩,h _ g5 g3 g4 ⟨_,g1,rfl,rfl⟩ ⟨_,g2,rfl,rfl⟩ fun c o x=>up _ _ (Heap.get?_push_of_some _ (Heap.get?_push_of_some _ (Heap.get?_push_of_some _ x)))⟩
end
def Itz0 (K:PySem.W.Frag) (a:Addr):It:=⟨fun _ _=>False,fun _ _ _ _=>False,fun _ H=>SqT K H a []⟩
theorem jdt {P:Program} {w:World} {K:PySem.W.Frag} {tg:Expr} (a z TI TO i1 i2:Addr) (n1:i1≠z) (n2:a≠z) (n3:a≠i1) :
    Turn P w K tg (Itz0 K a) [z,TO,i1,TI] z (fun i h=>IsZip h z TI TO .none∧IsPair h TI (.ref i1) (.ref i2)∧IsPair h TO .none .none∧h.IsTupleIter i1 a i) where
  mem:=by simp
  obj:=fun i h st c hc=>by
    obtain ⟨hz,ht,ho,⟨o1,q1,_,d1⟩⟩:=st
    simp only [List.mem_cons,List.mem_nil_iff,or_false] at hc
    rcases hc with rfl | rfl | rfl | rfl
    · exact ⟨_,hz,fun v e=>by have e:Data.fields _=Data.cell v:=e; cases e⟩
    · exact ⟨_,ho,fun v e=>by have e:Data.seq _=Data.cell v:=e; cases e⟩
    · exact ⟨o1,q1,fun v e=>by rw [d1] at e; cases e⟩
    · exact ⟨_,ht,fun v e=>by have e:Data.seq _=Data.cell v:=e; cases e⟩
  keep:=fun i h h' st k=>by
    obtain ⟨hz,ht,ho,⟨o1,q1,r⟩⟩:=st
    exact ⟨k z (by simp) _ hz,k TI (by simp) _ ht,k TO (by simp) _ ho,⟨o1,k i1 (by simp) _ q1,r⟩⟩
  item:=fun _ _ _ _ _ _ _ _ _ _ _ _ _ _ hg=>hg.elim
  done:=by
    intro X hP hw hK hc i pins s σ H E I hf st hg
    subst hP hw hK
    obtain ⟨hz,ht,ho,q1⟩:=st
    obtain ⟨its,r1,p1,_⟩:=I.tuple hg
    have l1:=r1.length
    refine jet (xs:=its.toArray) (I.ok.hd hc) n1 n2 n3 hz ht ho q1 p1 (by have:its=[]:=List.length_eq_zero_iff.mp l1.symm; subst this; simp) fun h' keep=>⟨rfl,I.turnedL (t':=s.toks) (ch:=[z,i1]) (fun c o hn q=>?_) fun c hc=>hf c ?_⟩
    · simp only [List.mem_cons,List.mem_nil_iff,or_false,not_or] at hn
      exact keep c o hn.1 hn.2 q
    · simp only [List.mem_cons,List.mem_nil_iff,or_false] at hc ⊢
      rcases hc with h | h
      · exact .inl h
      · exact .inr (.inr (.inl h))
  self:=fun _ _ _ _ _ st h=>wpAny_pyIter_zip st.1 h
section
variable {X:Cx} {elts:List Expr} {x1:Nat} {tpos:Pos}
theorem jes {tg:Expr} {pins:List (Addr × Obj)} {σ:St} {H1:Hp} {s1:Shared} {R:It->Hp->Prop} {a b:Addr} {ys:List V} (I1:Inv X pins σ H1 s1) (hx:SqT X.K H1 a []) (hy:SqT X.K H1 b ys) (q:R (Itz0 X.K a) H1) :
    wpAny (model X.prog X.w) X.A (call (.type "zip") [.ref a,.ref b]) (fun v s2=>wpAny (model X.prog X.w) X.A (pyIter v) (PIE X pins σ tg R) X.xe s2) X.xe s1:=by
  obtain ⟨is1,_,p1,_⟩:=I1.tuple hx
  obtain ⟨is2,_,p2,_⟩:=I1.tuple hy
  have p1:s1.heap.IsTuple a is1.toArray:=p1
  have p2:s1.heap.IsTuple b is2.toArray:=p2
  have la:a < s1.heap.objs.size:=let ⟨o,q,_⟩:=p1; Heap.lt_size q
  refine jei p1 p2 fun h' z ti to j1 j2 keep=>?_
  refine wpAny_pyIter_zip z ?_
  have n1:s1.heap.objs.size≠s1.heap.objs.size + 4:=Nat.ne_of_lt (Nat.lt_add_of_pos_right (by decide))
  have n2:a≠s1.heap.objs.size + 4:=Nat.ne_of_lt (Nat.lt_of_lt_of_le la (Nat.le_add_right _ _))
  refine ⟨s1.heap.objs.size + 4,_,_,_,H1,rfl,I1.kept (t':=s1.toks) keep,jdt a _ _ _ s1.heap.objs.size (s1.heap.objs.size + 1) n1 n2 (Nat.ne_of_lt la),⟨z,ti,to,j1⟩,fun c hc=>?_,q⟩
  have:s1.heap.objs.size<=c:=by
    simp only [List.mem_cons,List.mem_nil_iff,or_false] at hc
    rcases hc with rfl | rfl | rfl | rfl
    · exact Nat.le_add_right _ _
    · exact Nat.le_add_right _ _
    · exact Nat.le_refl _
    · exact Nat.le_add_right _ _
  exact I1.fpOk this (I1.hok.fresh this)
def iZip (K:PySem.W.Frag) (ta:TA):TI:=fun σ H R=>ta σ H fun vs H1=>∃ a b,vs=[.ref a,.ref b]∧(((∃ xs,SqL K H1 a xs)∧(∃ ys,SqL K H1 b ys)∧R (Itz K a b) H1)∨(SqT K H1 a []∧(∃ ys,SqT K H1 b ys)∧R (Itz0 K a) H1))
theorem pi_zip {l m:Expr} {ta:TA} {p pos:Pos} (hg:Gl X "zip") (hm:X.mg "zip" = none) (ha:PA X [l,m] ta) (hs:starEach [l,m] X.env=(false,eval l X.env) :: starEach [m] X.env:=by rfl) (hs2:starEach [m] X.env=[(false,eval m X.env)]:=by rfl):PI X (.Tuple elts x1 tpos) (.Call (.Name "zip" p) [l,m] [] pos) (iZip X.K ta):=by
  intro pins s σ H R I h
  refine Call_ (JR I hg hm bt_zip (PyProof.Rows.callWith_type1 (thn (ha pos pins s σ H _ I h) fun us s1 hQQ=>?_) hs (by rw [hs2]; rfl)))
  obtain ⟨vs,H1,I1,r1,q1⟩:=hQQ
  obtain ⟨a,b,e,q⟩:=q1
  subst e
  obtain ⟨u,v,rfl,ru,rv⟩:=yj.two r1
  cases ru
  cases rv
  rcases q with ⟨⟨xs,hx⟩,⟨ys,hy⟩,q⟩ | ⟨hx,⟨ys,hy⟩,q⟩
  · exact jdo I1 hx hy q
  · exact jes I1 hx hy q
end
end L2

namespace HT
open PySem PySem.Spec PyProof.Rows
section
variable {prog:Program} {w:World} {A:Around} {E:Value->Shared->Prop} {s:Shared}
theorem getItem_tuple_all {t sl:Addr} {items:Array Value} {vl vu:Value} {lo hi:Option Int} {Q:Value->Shared->Prop} (ht:IsTup s.heap t items) (hs:s.heap.IsSliceOf sl vl vu .none) (pl:IsPart vl lo) (pu:IsPart vu hi)
    (h0:sIx items.size 0 lo=0) (h1:sIx items.size items.size hi=items.size) (h:Q (.ref t) s):wpAny (model prog w) A (getItem (.ref t) (.ref sl)) Q E s:=by
  obtain ⟨os,hos,hcs,hds⟩:=id hs; have hTs:s.TypeIs (.ref sl) "slice":=⟨os,hos,hcs⟩
  unfold getItem; try with_reducible refine wpAny_holding ?_
  (first | refine wpAny_bind (wpAny_pure ?_) | skip); refine wpAny_bind (wpAny_sequenceKey ht.typeIs (by decide) ?_)
  refine wpAny_bind (wpAny_callSpecial?_slot (name:=Str.ofString "__getitem__") ht.typeIs PyProof.Rows.slot_tuple_getitem (wpAny_call_entry PyProof.Rows.slot_tuple_getitem ht.typeIs entry_tuple_getitem ?_ (args_tuple_getitem _ _)))
  show wpAny _ _ (Builtin.Tuple.tupleItemsOf (.ref t) >>= _) _ _ s; refine wpAny_bind (tupleItemsOf_ ht ?_); refine wpAny_bind (wpAny_typeOf hTs ?_)
  rw [if_pos (by decide)]; refine wpAny_bind (vA hs pl pu ?_)
  have hy:((((sIx items.size 0 lo:Nat):Int) == 0 && (1:Int) == 1 && (sIx items.size items.size hi - sIx items.size 0 lo) == items.size)=true):=by rw [h0,h1]; simp
  show wpAny _ _ (if (((sIx items.size 0 lo:Nat):Int) == 0 && (1:Int) == 1 && (sIx items.size items.size hi - sIx items.size 0 lo) == items.size)=true then _ else _) _ _ s
  rw [if_pos hy]
  refine wpAny_bind (m:=Builtin.Tuple.tupleIsExact _) ?_; unfold Builtin.Tuple.tupleIsExact; refine wpAny_bind (wpAny_typeOf ht.typeIs (wpAny_pure ?_)); rw [if_pos (by decide)]
  exact wpAny_bind (wpAny_rule (wpAny_pure ⟨_,rfl,wpAny_pure h⟩))
end
end HT
namespace L2
open PySem PySem.Spec PyProof.Rows
section
variable {X:Cx}
def rSlW (K:PySem.W.Frag):V->Option Int->Option Int->Hp->VK->Prop:=fun x lo hi H Q=>∃ a xs,x = .ref a∧SqT K H a xs∧(HT.sIx xs.length 0 lo=0∧HT.sIx xs.length xs.length hi=xs.length)∧Q (.ref a) H
theorem jhk:SlR X (rSlW X.K):=by
  intro pins s σ H x v vl vu lo hi sl Q I rx hs pl pu h
  obtain ⟨a,xs,rfl,hx,hw,q⟩:=h
  cases rx
  obtain ⟨its,r,ht,hz⟩:=I.tuple hx
  have hlen:its.toArray.size=xs.length:=by rw [List.size_toArray]; exact r.length.symm
  exact ⟨"tuple",_,PyProof.Rows.slot_tuple_getitem.lookup,ht.typeIs,HT.getItem_tuple_all ht hs pl pu (by rw [hlen]; exact hw.1) (by rw [hlen]; exact hw.2) ⟨.ref a,H,I,rfl,q⟩⟩
end
end L2

namespace L2
open PySem PySem.Spec PyProof.Rows
section
variable {prog:Program} {w:World} {A:Around} {E:Value->Shared->Prop} {s:Shared}
end
end L2

namespace L2
open PySem PySem.Spec PyProof.Rows
theorem Paired.at {α β:Type} {F:α->β->Prop} {l₁:List α} {l₂:List β} (h:Paired F l₁ l₂):∀ {i:Nat} {x:α},l₁[i]? = some x->∃ y,l₂[i]? = some y∧F x y:=by
  induction h with
  | nil=>intro i x e; simp at e
  | cons r t ih =>
    intro i x e
    cases i with
    | zero=>cases e; exact ⟨_,rfl,r⟩
    | succ i=>exact ih (i:=i) e
section
variable {X:Cx} {elts:List Expr} {x1:Nat} {tpos:Pos}
end
end L2

set_option maxHeartbeats 4000000

namespace L3
open PySem L2
inductive PV where
 | non | bl (b:Bool) | int (i:Int) | str (x:Str) | ty (n:String)
 | tup (xs:List PV) | lst (xs:List PV)
  | scr (ns:List Int)
  | top (k:Nat)
  | exn (k:Nat)
  | dct (kvs:List (List Int × Int))
  | ref (i:Nat)
inductive Cell where
 | lst (xs:List PV)
 | dct (kvs:List (List Int × Int))
 | ins (k:Nat) (fs:List (Str × PV))
 | dtv (l:List (List Int × PV))
 | dkv (l:List (Int × PV))
structure Sto where
 n:Nat
 g:Nat->Option Cell
def Sto.set (M:Sto) (i:Nat) (c:Cell):Sto:=⟨M.n,fun j=>if j=i then some c else M.g j⟩
def Sto.new (M:Sto) (c:Cell):Sto:=⟨M.n + 1,fun j=>if j=M.n then some c else M.g j⟩
def Sto.drop (M:Sto) (i:Nat):Sto:=⟨M.n,fun j=>if j=i then none else M.g j⟩
theorem Sto.set_same {M:Sto} {i:Nat} {c:Cell}:(M.set i c).g i=some c:=if_pos rfl
theorem Sto.set_ne {M:Sto} {i j:Nat} {c:Cell} (h:j≠i):(M.set i c).g j=M.g j:=if_neg h
theorem Sto.new_same {M:Sto} {c:Cell}:(M.new c).g M.n=some c:=if_pos rfl
theorem Sto.new_ne {M:Sto} {j:Nat} {c:Cell} (h:j≠M.n):(M.new c).g j=M.g j:=if_neg h
structure Tb where
 K:PySem.W.Frag
 C:Nat->Addr
structure Wd where
 T:Tb
 F:Hp
 α:Nat->Option Addr
 G:Hp
structure Wd.le0 (W W':Wd):Prop where
 k:W'.T=W.T
 f:∀ a o,W.F a=some o->W'.F a=some o
 a:∀ i a,W.α i=some a->W'.α i=some a
structure Wd.le (W W':Wd):Prop extends toLe0:Wd.le0 W W' where
 g:W'.G=W.G
theorem Wd.le0.trans {A B C:Wd} (h:A.le0 B) (k:B.le0 C):A.le0 C:=⟨k.k.trans h.k,fun a o e=>k.f a o (h.f a o e),fun i a e=>k.a i a (h.a i a e)⟩
theorem Wd.le.refl (W:Wd):W.le W:=⟨⟨rfl,fun _ _ e=>e,fun _ _ e=>e⟩,rfl⟩
theorem Wd.le.trans {A B C:Wd} (h:A.le B) (k:B.le C):A.le C:=⟨h.toLe0.trans k.toLe0,k.g.trans h.g⟩
def jix (l:List (List Int × Int)):List (List Key × V):=l.map fun p=>(p.1.map Sum.inl,V.int p.2)
mutual
def Rep (W:Wd):PV->V->Prop
 | .non,v=>v = .non
 | .bl b,v=>v = .bl b
 | .int i,v=>v = .int i
 | .str x,v=>v = .str x
 | .ty n,v=>v = .ty n
 | .top k,v=>v = .ref (W.T.C k)
 | .exn k,v=>∃ a,v = .ref a∧W.F a=some (excO a (W.T.C k))
 | .dct l,v=>∃ a o,v = .ref a∧W.F a=some (.frz o (.dT (jix l)))
 | .scr ns,v=>∃ a,v = .ref a∧SqL W.T.K W.F a (ns.map V.int)∧ns.length<=63
 | .ref i,v=>∃ a,v = .ref a∧W.α i=some a
 | .tup xs,v=>∃ a vs,v = .ref a∧SqT W.T.K W.F a vs∧yf W xs vs
 | .lst xs,v=>∃ a vs,v = .ref a∧W.F a=some (.lst vs)∧yf W xs vs
def yf (W:Wd):List PV->List V->Prop
 | [],vs=>vs=[]
 | x :: xs,vs=>∃ v r,vs=v :: r∧Rep W x v∧yf W xs r
end
theorem UI {K:PySem.W.Frag} {H H':Hp} {a:Addr} {xs:List V} (e:jer H H') (h:SqT K H a xs):SqT K H' a xs:=by
 rcases h with (h | ⟨o,h⟩) | h
 ·exact .inl (.inl (e _ _ h))
 ·exact .inl (.inr ⟨o,e _ _ h⟩)
 ·exact .inr h
mutual
theorem Rep.up0 {W W':Wd} (h:W.le0 W'):∀ {x:PV} {v:V},Rep W x v->Rep W' x v
 | .non,_,r=>r
 | .bl _,_,r=>r
 | .int _,_,r=>r
 | .str _,_,r=>r
 | .ty _,_,r=>r
 | .top k,_,r=>by
  show _=V.ref (W'.T.C k);rw [h.k];exact r
 | .exn k,_,⟨a,e,q⟩=>⟨a,e,by rw [h.k]; exact h.f _ _ q⟩
 | .dct _,_,⟨a,o,e,q⟩=>⟨a,o,e,h.f _ _ q⟩
 | .scr _,_,⟨a,e,q,z⟩=>⟨a,e,by rw [h.k]; exact (show jer W.F W'.F from h.f).seq q,z⟩
 | .ref _,_,⟨a,e,q⟩=>⟨a,e,h.a _ _ q⟩
 | .tup _,_,⟨a,vs,e,q,r⟩=>⟨a,vs,e,by rw [h.k]; exact UI h.f q,yf.up0 h r⟩
 | .lst _,_,⟨a,vs,e,q,r⟩=>⟨a,vs,e,h.f _ _ q,yf.up0 h r⟩
theorem yf.up0 {W W':Wd} (h:W.le0 W'):∀ {xs:List PV} {vs:List V},yf W xs vs->yf W' xs vs
 | [],_,r=>r
 | _ :: _,_,⟨v,r,e,a,b⟩=>⟨v,r,e,Rep.up0 h a,yf.up0 h b⟩
end
theorem Rep.up {W W':Wd} (h:W.le W') {x:PV} {v:V} (r:Rep W x v):Rep W' x v:=r.up0 h.toLe0
theorem yf.up {W W':Wd} (h:W.le W') {x:List PV} {v:List V} (r:yf W x v):yf W' x v:=r.up0 h.toLe0
theorem yf.length {W:Wd}:∀ {xs:List PV} {vs:List V},yf W xs vs->vs.length=xs.length
 | [],_,r=>by cases r; rfl
 | _ :: _,_,⟨v,r,e,_,b⟩=>by subst e; simp [yf.length b]
theorem yf.append {W:Wd}:∀ {xs:List PV} {vs:List V} {ys:List PV} {us:List V},yf W xs vs->yf W ys us->yf W (xs ++ ys) (vs ++ us)
 | [],_,_,_,r,q=>by cases r; exact q
 | _ :: _,_,_,_,⟨v,r,e,a,b⟩,q=>by subst e; exact ⟨v,_,rfl,a,yf.append b q⟩
theorem yf.get {W:Wd}:∀ {xs:List PV} {vs:List V} {i:Nat} {x:PV},yf W xs vs->xs[i]? = some x->∃ v,vs[i]? = some v∧Rep W x v
 | [],_,_,_,_,e=>by simp at e
 | _ :: _,_,0,_,⟨v,r,e,a,_⟩,q=>by simp at q; subst q; subst e; exact ⟨v,rfl,a⟩
 | _ :: _,_,i + 1,_,⟨v,r,e,_,b⟩,q=>by
  subst e;obtain ⟨u,h1,h2⟩:=yf.get (i:=i) b (by simpa using q);exact ⟨u,by simpa using h1,h2⟩
theorem yf.drop {W:Wd}:∀ {xs:List PV} {vs:List V} (n:Nat),yf W xs vs->yf W (xs.drop n) (vs.drop n)
 | _,_,0,r=>r
 | [],_,n + 1,r=>by cases r; rfl
 | _ :: _,_,n + 1,⟨v,r,e,_,b⟩=>by subst e; exact yf.drop n b
theorem yf.take {W:Wd}:∀ {xs:List PV} {vs:List V} (n:Nat),yf W xs vs->yf W (xs.take n) (vs.take n)
 | _,_,0,r=>by simp [yf]
 | [],_,n + 1,r=>by cases r; rfl
 | _ :: _,_,n + 1,⟨v,r,e,a,b⟩=>by subst e; exact ⟨v,_,rfl,a,yf.take n b⟩
theorem yf.set {W:Wd} {x:PV} {v:V} (h:Rep W x v):∀ {xs:List PV} {vs:List V} (n:Nat),yf W xs vs->yf W (xs.set n x) (vs.set n v)
 | [],_,n,r=>by cases r; rfl
 | _ :: _,_,0,⟨u,r,e,a,b⟩=>by subst e; exact ⟨v,_,rfl,h,b⟩
 | _ :: _,_,n + 1,⟨u,r,e,a,b⟩=>by subst e; exact ⟨u,_,rfl,a,yf.set h n b⟩
theorem yf.rep {W:Wd} {xs:List PV} {vs:List V} (h:yf W xs vs):∀ n:Nat,yf W (List.replicate n xs).flatten (List.replicate n vs).flatten
 | 0=>rfl
 | n + 1=>by
  rw [List.replicate_succ,List.replicate_succ,List.flatten_cons,List.flatten_cons];exact yf.append h (yf.rep h n)
theorem yf.erase {W:Wd}:∀ {xs:List PV} {vs:List V} (n:Nat),yf W xs vs->yf W (xs.eraseIdx n) (vs.eraseIdx n)
 | [],_,n,r=>by cases r; rfl
 | _ :: _,_,0,⟨u,r,e,a,b⟩=>by subst e; exact b
 | _ :: _,_,n + 1,⟨u,r,e,a,b⟩=>by subst e; exact ⟨u,_,rfl,a,yf.erase n b⟩
theorem yf.ints {W:Wd}:∀ {ns:List Int} {vs:List V},yf W (ns.map PV.int) vs↔vs=ns.map V.int
 | [],_=>Iff.rfl
 | n :: ns,vs=>by
  constructor
  ·rintro ⟨v,r,e,a,b⟩;have a:v = .int n:=a;rw [e,a,yf.ints.mp b];rfl
  ·rintro rfl;exact ⟨_,_,rfl,rfl,yf.ints.mpr rfl⟩
theorem yf.bools {W:Wd}:∀ {ns:List Bool} {vs:List V},yf W (ns.map PV.bl) vs↔vs=ns.map V.bl
 | [],_=>Iff.rfl
 | n :: ns,vs=>by
  constructor
  ·rintro ⟨v,r,e,a,b⟩;have a:v = .bl n:=a;rw [e,a,yf.bools.mp b];rfl
  ·rintro rfl;exact ⟨_,_,rfl,rfl,yf.bools.mpr rfl⟩
def uc (W:Wd):List (Str × PV)->List (Str × V)->Prop
 | [],vs=>vs=[]
 | p :: xs,vs=>∃ v r,vs=(p.1,v) :: r∧Rep W p.2 v∧uc W xs r
theorem uc.up0 {W W':Wd} (h:W.le0 W'):∀ {xs:List (Str × PV)} {vs:List (Str × V)},uc W xs vs->uc W' xs vs
 | [],_,r=>r
 | _ :: _,_,⟨v,r,e,a,b⟩=>⟨v,r,e,a.up0 h,uc.up0 h b⟩
theorem uc.get {W:Wd} {f:Str}:∀ {xs:List (Str × PV)} {vs:List (Str × V)},uc W xs vs->∀ {x:PV},xs.lookup f=some x->∃ v,vs.lookup f=some v∧Rep W x v
 | [],_,_,_,e=>by simp at e
 | p :: xs,_,⟨v,r,e,a,b⟩,x,q=>by
  subst e;rw [List.lookup_cons] at q ⊢
  by_cases h:(f == p.1)=true
  ·rw [h] at q ⊢;cases q;exact ⟨v,rfl,a⟩
  ·rw [Bool.not_eq_true] at h;rw [h] at q ⊢;exact uc.get b q
theorem uc.none {W:Wd} {f:Str}:∀ {xs:List (Str × PV)} {vs:List (Str × V)},uc W xs vs->xs.lookup f=none->vs.lookup f=none
 | [],_,e,_=>by cases e; rfl
 | p :: xs,_,⟨v,r,e,a,b⟩,q=>by
  subst e;rw [List.lookup_cons] at q ⊢
  by_cases h:(f == p.1)=true
  ·rw [h] at q;cases q
  ·rw [Bool.not_eq_true] at h;rw [h] at q ⊢;exact uc.none b q
theorem uc.length {W:Wd}:∀ {xs:List (Str × PV)} {vs:List (Str × V)},uc W xs vs->vs.length=xs.length
 | [],_,e=>by cases e; rfl
 | _ :: _,_,⟨_,_,e,_,b⟩=>by subst e; simp [uc.length b]
def yW (f:Str) (v:PV):List (Str × PV)->List (Str × PV)
 | []=>[(f,v)]
 | p :: r=>if f == p.1 then (p.1,v) :: r else p :: yW f v r
def xh {α κ:Type} (W:Wd) (f:α->κ):List (α × PV)->List (κ × V)->Prop
 | [],vs=>vs=[]
 | p :: r,vs=>∃ v rs,vs=(f p.1,v) :: rs∧Rep W p.2 v∧xh W f r rs
theorem xh.up0 {α κ:Type} {W W':Wd} {f:α->κ} (h:W.le0 W'):∀ {l:List (α × PV)} {vs:List (κ × V)},xh W f l vs->xh W' f l vs
 | [],_,e=>e
 | _ :: _,_,⟨v,rs,e,r,t⟩=>⟨v,rs,e,r.up0 h,xh.up0 h t⟩
def Jp (k:List Int):List Key:=k.map Sum.inl
def jfT (k:Int):Key:=Sum.inl k
def jau (W:Wd):Cell->HO->Prop
 | .lst xs,o=>∃ vs,o = .lst vs∧yf W xs vs
 | .dct l,o=>o = .dT (jix l)
 | .ins k fs,o=>∃ dx vs,o = .ins (W.T.C k) dx vs∧uc W fs vs
 | .dtv l,o=>∃ vs,o = .dT vs∧xh W Jp l vs
 | .dkv l,o=>∃ vs,o = .dK vs∧xh W jfT l vs
theorem jau.up0 {W W':Wd} (h:W.le0 W'):∀ {c:Cell} {o:HO},jau W c o->jau W' c o
 | .lst _,_,⟨vs,e,r⟩=>⟨vs,e,r.up0 h⟩
 | .dct _,_,r=>r
 | .ins _ _,_,⟨dx,vs,e,r⟩=>⟨dx,vs,by rw [h.k]; exact e,r.up0 h⟩
 | .dtv _,_,⟨vs,e,r⟩=>⟨vs,e,r.up0 h⟩
 | .dkv _,_,⟨vs,e,r⟩=>⟨vs,e,r.up0 h⟩
theorem jau.up {W W':Wd} (h:W.le W') {c:Cell} {o:HO} (r:jau W c o):jau W' c o:=r.up0 h.toLe0
structure Held (W:Wd) (M:Sto) (H:Hp):Prop where
 f:∀ a o,W.F a=some o->H a=some o
 m:∀ i c,M.g i=some c->∃ a o,W.α i=some a∧W.F a=none∧H a=some o∧jau W c o
 inj:∀ i j a c c',M.g i=some c->M.g j=some c'->W.α i=some a->W.α j=some a->i=j
 top:∀ i,M.n<=i->W.α i=none
 gd:∀ a o,W.G a=some o->H a=some o∧W.F a=none∧∀ i c,M.g i=some c->W.α i≠some a
 gl:∀ a o,W.G a=some o->∀ vs,o≠.tup vs
def Wd.frz (W:Wd) (l:Addr) (o:HO):Wd:=⟨W.T,L2.upd W.F l o,W.α,W.G⟩
theorem Held.Fnone {W:Wd} {M:Sto} {H:Hp} {l:Addr} (h:Held W M H) (e:H l=none):W.F l=none:=by
 cases q:W.F l with
 | none=>rfl
 | some o =>
  rw [h.f l o q] at e;cases e
theorem Wd.le_frz {W:Wd} {l:Addr} {o:HO} (e:W.F l=none):W.le (W.frz l o) :=
 ⟨⟨rfl,fun a u q=>by
  show L2.upd W.F l o a=some u;rw [jm (fun z:a=l=>by rw [z,e] at q; cases q)]
  exact q,fun _ _ q=>q⟩,rfl⟩
theorem Held.frz {W:Wd} {M:Sto} {H:Hp} {l:Addr} {o:HO} (h:Held W M H) (e:H l=none):W.le (W.frz l o)∧Held (W.frz l o) M (L2.upd H l o)∧(W.frz l o).F l=some o:=by
 have le:=Wd.le_frz (o:=o) (h.Fnone e);refine ⟨le,⟨fun a u q=>?_,fun i c q=>?_,h.inj,h.top,fun a u q=>?_,h.gl⟩,jv⟩
 rotate_left 2
 ·obtain ⟨h1,h2,h3⟩:=h.gd a u q;have z:a≠l:=jy h1 e;refine ⟨by rw [jm z]; exact h1,?_,h3⟩;show L2.upd W.F l o a=none;rw [jm z];exact h2
 ·have q:L2.upd W.F l o a=some u:=q
  by_cases z:a=l
  ·subst z;rw [jv] at q ⊢;exact q
  ·rw [jm z] at q ⊢;exact h.f a u q
 ·obtain ⟨a,u,h1,h2,h3,h4⟩:=h.m i c q;have z:a≠l:=jy h3 e;refine ⟨a,u,h1,?_,by rw [jm z]; exact h3,h4.up le⟩;show L2.upd W.F l o a=none;rw [jm z];exact h2
def Wd.put (W:Wd) (n:Nat) (l:Addr):Wd:=⟨W.T,W.F,fun i=>if i=n then some l else W.α i,W.G⟩
theorem Held.le_put {W:Wd} {M:Sto} {H:Hp} {l:Addr} (h:Held W M H):W.le (W.put M.n l) :=
 ⟨⟨rfl,fun _ _ q=>q,fun i a q=>by
  show (if i=M.n then some l else W.α i)=some a;rw [if_neg (fun z=>by rw [z,h.top _ (Nat.le_refl _)] at q; cases q)]
  exact q⟩,rfl⟩
theorem Held.put {W:Wd} {M:Sto} {H:Hp} {l:Addr} {o:HO} {c:Cell} (h:Held W M H) (e:H l=none) (r:jau W c o):W.le (W.put M.n l)∧Held (W.put M.n l) (M.new c) (L2.upd H l o)∧(W.put M.n l).α M.n=some l:=by
 have le:=h.le_put (l:=l);have fl:=h.Fnone e;refine ⟨le,⟨fun a u q=>?_,fun i c' q=>?_,fun i j a c1 c2 q1 q2 e1 e2=>?_,fun i hi=>?_,fun a u q=>?_,h.gl⟩,if_pos rfl⟩
 rotate_left 4
 ·obtain ⟨h1,h2,h3⟩:=h.gd a u q;have z:a≠l:=jy h1 e;refine ⟨by rw [jm z]; exact h1,h2,fun i c' qi=>?_⟩;show (if i=M.n then some l else W.α i)≠some a
  by_cases hi:i=M.n
  ·rw [if_pos hi];exact fun w=>z (Option.some.inj w).symm
  ·rw [if_neg hi];rw [Sto.new_ne hi] at qi;exact h3 i c' qi
 ·have q:W.F a=some u:=q;rw [jm (fun z:a=l=>by rw [z,fl] at q; cases q)];exact h.f a u q
 ·by_cases z:i=M.n
  ·subst z;rw [Sto.new_same] at q;cases q;exact ⟨l,o,if_pos rfl,fl,jv,r.up le⟩
  ·rw [Sto.new_ne z] at q;obtain ⟨a,u,h1,h2,h3,h4⟩:=h.m i c' q;exact ⟨a,u,le.a _ _ h1,h2,by rw [jm (jy h3 e)]; exact h3,h4.up le⟩
 ·have e1:(if i=M.n then some l else W.α i)=some a:=e1;have e2:(if j=M.n then some l else W.α j)=some a:=e2
  by_cases z1:i=M.n
  ·by_cases z2:j=M.n
   ·rw [z1,z2]
   ·rw [if_pos z1] at e1;rw [if_neg z2] at e2;rw [Sto.new_ne z2] at q2;obtain ⟨b,u,g1,_,g3,_⟩:=h.m j c2 q2;rw [e2] at g1;cases g1;cases e1;rw [e] at g3;cases g3
  ·rw [if_neg z1] at e1;rw [Sto.new_ne z1] at q1
   by_cases z2:j=M.n
   ·rw [if_pos z2] at e2;obtain ⟨b,u,g1,_,g3,_⟩:=h.m i c1 q1;rw [e1] at g1;cases g1;cases e2;rw [e] at g3;cases g3
   ·rw [if_neg z2] at e2;rw [Sto.new_ne z2] at q2;exact h.inj i j a c1 c2 q1 q2 e1 e2
 ·show (if i=M.n then some l else W.α i)=none;have hi:M.n + 1<=i:=hi;rw [if_neg (by omega)];exact h.top i (by omega)
theorem Held.upd {W:Wd} {M:Sto} {H:Hp} {i:Nat} {a:Addr} {c c':Cell} {o:HO} (h:Held W M H) (e:M.g i=some c) (ea:W.α i=some a) (r:jau W c' o):Held W (M.set i c') (L2.upd H a o):=by
 obtain ⟨b,u,g1,g2,g3,g4⟩:=h.m i c e;rw [ea] at g1;cases g1
 have live:∀ {j c1},(M.set i c').g j=some c1->∃ c2,M.g j=some c2:=fun {j c1} q=>by
  by_cases z:j=i
  ·exact ⟨c,by rw [z]; exact e⟩
  ·rw [Sto.set_ne z] at q;exact ⟨_,q⟩
 refine ⟨fun b u q=>?_,fun j c1 q=>?_,fun j k b c1 c2 q1 q2 e1 e2=>?_,h.top,fun b u q=>?_,h.gl⟩
 rotate_left 3
 ·obtain ⟨h1,h2,h3⟩:=h.gd b u q;refine ⟨?_,h2,fun j c1 qj=>?_⟩
  ·rw [jm (fun z:b=a=>h3 i c e (z ▸ ea))];exact h1
  ·obtain ⟨d1,w1⟩:=live qj;exact h3 j d1 w1
 ·rw [jm (fun z:b=a=>by rw [z,g2] at q; cases q)];exact h.f b u q
 ·by_cases z:j=i
  ·subst z;rw [Sto.set_same] at q;cases q;exact ⟨a,o,ea,g2,jv,r⟩
  ·rw [Sto.set_ne z] at q;obtain ⟨b,u',h1,h2,h3,h4⟩:=h.m j c1 q;refine ⟨b,u',h1,h2,?_,h4⟩;rw [jm (fun zz:b=a=>z (h.inj j i a c1 c q e (zz ▸ h1) ea))];exact h3
 ·obtain ⟨d1,w1⟩:=live q1;obtain ⟨d2,w2⟩:=live q2;exact h.inj j k b d1 d2 w1 w2 e1 e2
theorem Held.drop {W:Wd} {M:Sto} {H:Hp} (h:Held W M H) (i:Nat):Held W (M.drop i) H:=by
 have sub:∀ {j c},(M.drop i).g j=some c->M.g j=some c:=fun {j c} q=>by
  have q:(if j=i then none else M.g j)=some c:=q
  by_cases z:j=i
  ·rw [if_pos z] at q; cases q
  ·rwa [if_neg z] at q
 exact ⟨h.f,fun j c q=>h.m j c (sub q),fun j k b c1 c2 q1 q2=>h.inj j k b c1 c2 (sub q1) (sub q2),h.top,fun a o q=>⟨(h.gd a o q).1,(h.gd a o q).2.1,fun j c qj=>(h.gd a o q).2.2 j c (sub qj)⟩,h.gl⟩
theorem Held.freeze {W:Wd} {M:Sto} {H:Hp} {i:Nat} {a:Addr} {xs:List PV} (h:Held W M H) (e:M.g i=some (.lst xs)) (ea:W.α i=some a) :
  ∃ vs,H a=some (.lst vs)∧W.le (W.frz a (.lst vs))∧Held (W.frz a (.lst vs)) (M.drop i) H∧Rep (W.frz a (.lst vs)) (.lst xs) (.ref a):=by
 obtain ⟨b,u,g1,g2,g3,vs,rfl,rv⟩:=h.m i _ e;rw [ea] at g1;cases g1;have le:=Wd.le_frz (o:=.lst vs) g2;refine ⟨vs,g3,le,⟨fun b u q=>?_,fun j c q=>?_,fun j k b c1 c2 q1 q2 e1 e2=>?_,h.top,fun b u q=>?_,h.gl⟩,a,vs,rfl,jv,rv.up le⟩
 rotate_left 3
 ·obtain ⟨h1,h2,h3⟩:=(h.drop i).gd b u q;refine ⟨h1,?_,h3⟩;show L2.upd W.F a (.lst vs) b=none;rw [jm (fun z:b=a=>(h.gd b u q).2.2 i _ e (z ▸ ea))];exact h2
 ·have q:L2.upd W.F a (.lst vs) b=some u:=q
  by_cases z:b=a
  ·subst z;rw [jv] at q;cases q;exact g3
  ·rw [jm z] at q;exact h.f b u q
 ·have q:(if j=i then none else M.g j)=some c:=q
  by_cases z:j=i
  ·rw [if_pos z] at q; cases q
  ·rw [if_neg z] at q;obtain ⟨b,u',h1,h2,h3,h4⟩:=h.m j c q;refine ⟨b,u',h1,?_,h3,h4.up le⟩;show L2.upd W.F a (.lst vs) b=none;rw [jm (fun zz:b=a=>z (h.inj j i a c _ q e (zz ▸ h1) ea))];exact h2
 ·have hd:=h.drop i;exact hd.inj j k b c1 c2 q1 q2 e1 e2
def Wd.gd (W:Wd) (l:Addr) (o:HO):Wd:=⟨W.T,W.F,W.α,L2.upd W.G l o⟩
theorem Wd.le0_gd {W:Wd} {l:Addr} {o:HO}:W.le0 (W.gd l o):=⟨rfl,fun _ _ e=>e,fun _ _ e=>e⟩
theorem Held.guardO {W:Wd} {M:Sto} {H:Hp} {l:Addr} {o':HO} (no:∀ vs,o'≠.tup vs) (h:Held W M H) (e:H l=none):Held (W.gd l o') M (L2.upd H l o'):=by
 have nl:∀ {b u},H b=some u->b≠l:=fun q=>jy q e;refine ⟨fun b u q=>by rw [jm (nl (h.f b u q))]; exact h.f b u q,fun i c q=>?_,h.inj,h.top,fun b u q=>?_,fun b u q=>?_⟩
 rotate_left 2
 ·have q:L2.upd W.G l o' b=some u:=q
  by_cases z:b=l
  ·subst z;rw [jv] at q;cases q;exact no
  ·rw [jm z] at q;exact h.gl b u q
 ·obtain ⟨a,u,h1,h2,h3,h4⟩:=h.m i c q;exact ⟨a,u,h1,h2,by rw [jm (nl h3)]; exact h3,h4.up0 Wd.le0_gd⟩
 ·have q:L2.upd W.G l o' b=some u:=q
  by_cases z:b=l
  ·subst z;rw [jv] at q;cases q;refine ⟨jv,h.Fnone e,fun i c qi w=>?_⟩;obtain ⟨a,u,h1,h2,h3,h4⟩:=h.m i c qi;have w:W.α i=some b:=w;rw [w] at h1;cases h1;rw [e] at h3;cases h3
  ·rw [jm z] at q;obtain ⟨h1,h2,h3⟩:=h.gd b u q;exact ⟨by rw [jm z]; exact h1,h2,h3⟩
theorem Held.guard {W:Wd} {M:Sto} {H:Hp} {l:Addr} {ws:List V} (h:Held W M H) (e:H l=none):Held (W.gd l (.lst ws)) M (L2.upd H l (.lst ws)):=Held.guardO (fun _ z=>nomatch z) h e
theorem Held.reguardO {W:Wd} {M:Sto} {H:Hp} {l:Addr} {o o':HO} (no:∀ vs,o'≠.tup vs) (h:Held W M H) (e:W.G l=some o):Held (W.gd l o') M (L2.upd H l o'):=by
 obtain ⟨g1,g2,g3⟩:=h.gd l o e;refine ⟨fun b w q=>?_,fun i c q=>?_,h.inj,h.top,fun b w q=>?_,fun b w q=>?_⟩
 rotate_left 3
 ·have q:L2.upd W.G l o' b=some w:=q
  by_cases z:b=l
  ·subst z;rw [jv] at q;cases q;exact no
  ·rw [jm z] at q;exact h.gl b w q
 ·rw [jm (fun z:b=l=>by
   have q:W.F b=some w:=q;rw [z,g2] at q
   cases q)]
  exact h.f b w q
 ·obtain ⟨a,w,h1,h2,h3,h4⟩:=h.m i c q;exact ⟨a,w,h1,h2,by rw [jm (fun z:a=l=>g3 i c q (z ▸ h1))]; exact h3,h4.up0 Wd.le0_gd⟩
 ·have q:L2.upd W.G l o' b=some w:=q
  by_cases z:b=l
  ·subst z;rw [jv] at q;cases q;exact ⟨jv,g2,g3⟩
  ·rw [jm z] at q;obtain ⟨h1,h2,h3⟩:=h.gd b w q;exact ⟨by rw [jm z]; exact h1,h2,h3⟩
theorem Held.reguard {W:Wd} {M:Sto} {H:Hp} {l:Addr} {o:HO} {ws:List V} (h:Held W M H) (e:W.G l=some o):Held (W.gd l (.lst ws)) M (L2.upd H l (.lst ws)):=Held.reguardO (fun _ z=>nomatch z) h e
def Wd.out (W:Wd) (G0:Hp) (l:Addr) (o:HO):Wd:=⟨W.T,L2.upd W.F l o,W.α,G0⟩
theorem Held.unguard {W:Wd} {M:Sto} {H G0:Hp} {l:Addr} {o:HO} (h:Held W M H) (e:W.G l=some o) (hg:∀ b u,G0 b=some u->W.G b=some u∧b≠l):W.le0 (W.out G0 l o)∧Held (W.out G0 l o) M H:=by
 obtain ⟨g1,g2,g3⟩:=h.gd l o e
 have le:W.le0 (W.out G0 l o):=⟨rfl,(Wd.le_frz (o:=o) g2).f,fun _ _ e=>e⟩
 refine ⟨le,fun b u q=>?_,fun i c q=>?_,h.inj,h.top,fun b u q=>?_,fun b u q=>h.gl b u (hg b u q).1⟩
 ·have q:L2.upd W.F l o b=some u:=q
  by_cases z:b=l
  ·subst z;rw [jv] at q;cases q;exact g1
  ·rw [jm z] at q;exact h.f b u q
 ·obtain ⟨a,w,h1,h2,h3,h4⟩:=h.m i c q;refine ⟨a,w,h1,?_,h3,h4.up0 le⟩;show L2.upd W.F l o a=none;rw [jm (fun z:a=l=>g3 i c q (z ▸ h1))];exact h2
 ·obtain ⟨q1,z⟩:=hg b u q;obtain ⟨h1,h2,h3⟩:=h.gd b u q1;refine ⟨h1,?_,h3⟩;show L2.upd W.F l o b=none;rw [jm z];exact h2
def Wd.outN (W:Wd) (G0:Hp) (n:Nat) (l:Addr):Wd:=⟨W.T,W.F,fun i=>if i=n then some l else W.α i,G0⟩
theorem Held.adopt {W:Wd} {M:Sto} {H:Hp} {b:Addr} {vs:List V} (h:Held W M H) (e:H b=some (.tup vs)):∃ W',W.le W'∧Held W' M H∧W'.F b=some (.tup vs):=by
 cases q:W.F b with
 | some u =>
  have:=h.f b u q
  rw [e] at this;cases this;exact ⟨W,.refl W,h,q⟩
 | none =>
  have le:=Wd.le_frz (o:=.tup vs) q;refine ⟨W.frz b (.tup vs),le,⟨fun c u z=>?_,fun i c z=>?_,h.inj,h.top,fun c u z=>?_,h.gl⟩,jv⟩
  ·have z:L2.upd W.F b (.tup vs) c=some u:=z
   by_cases y:c=b
   ·subst y;rw [jv] at z;cases z;exact e
   ·rw [jm y] at z;exact h.f c u z
  ·obtain ⟨a,u,h1,h2,h3,h4⟩:=h.m i c z
   have na:a≠b:=fun y=>by
    subst y;rw [e] at h3;cases h3
    cases c with
    | lst xs=>obtain ⟨_,z,_⟩:=h4; cases z
    | dct l=>cases h4
    | ins k fs=>obtain ⟨_,_,z,_⟩:=h4; cases z
    | dtv l=>obtain ⟨_,z,_⟩:=h4; cases z
    | dkv l=>obtain ⟨_,z,_⟩:=h4; cases z
   refine ⟨a,u,h1,?_,h3,h4.up le⟩;show L2.upd W.F b _ a=none;rw [jm na];exact h2
  ·obtain ⟨h1,h2,h3⟩:=h.gd c u z
   have nc:c≠b:=fun y=>by
    subst y;rw [e] at h1;cases h1;exact h.gl c _ z vs rfl
   refine ⟨h1,?_,h3⟩;show L2.upd W.F b _ c=none;rw [jm nc];exact h2
end L3

namespace L3
open PySem L2
inductive Res (α:Type) where
 | ok (a:α) (M:Sto) | exc (k:Nat) (M:Sto) | bad
def Res.bind {α β:Type} (r:Res α) (k:α->Sto->Res β):Res β:=match r with
 | .ok a M=>k a M
 | .exc c M=>.exc c M
 | .bad=>.bad
@[simp] theorem Res.bind_ok {α β : Type} {a : α} {M : Sto} {k : α -> Sto -> Res β} : (Res.ok a M).bind k = k a M := rfl
@[simp] theorem Res.bind_exc {α β : Type} {c : Nat} {M : Sto} {k : α -> Sto -> Res β} : (Res.exc c M).bind k = .exc c M := rfl
@[simp] theorem Res.bind_bad {α β : Type} {k : α -> Sto -> Res β} : (Res.bad).bind k = .bad := rfl
def ofO {α:Type} (o:Option α) (M:Sto):Res α:=match o with
 | some z=>.ok z M
 | none=>.bad
@[simp] theorem jB {α : Type} {z : α} {M : Sto} : ofO (some z) M = .ok z M := rfl
@[simp] theorem ofO_none {α : Type} {M : Sto} : ofO (none : Option α) M = .bad := rfl
abbrev En:=List (Option PV)
abbrev DE:=En->Sto->Res PV
abbrev DT:=En->Sto->Res Bool
abbrev DA:=En->Sto->Res (List PV)
def yF (W:Wd) (ρ:En) (σ:St):Prop:=σ.length=ρ.length∧∀ (i:Nat) (x:PV),ρ[i]? = some (some x)->∃ v,σ[i]? = some (some v)∧Rep W x v
theorem yF.up {W W':Wd} {ρ:En} {σ:St} (h:yF W ρ σ) (le:W.le W'):yF W' ρ σ:=⟨h.1,fun i x e=>by
 obtain ⟨v,e1,r⟩:=h.2 i x e
 exact ⟨v,e1,r.up le⟩⟩
theorem yF.set {W:Wd} {ρ:En} {σ:St} {i:Nat} {x:PV} {v:V} (h:yF W ρ σ) (r:Rep W x v):yF W (ρ.set i (some x)) (σ.set i (some v)):=by
 refine ⟨by simpa using h.1,fun j y e=>?_⟩
 by_cases hj:i=j
 ·subst hj
  have hi:i < ρ.length:=by
   have:=(List.getElem?_eq_some_iff.mp e).1
   simpa using this
  rw [List.getElem?_set_self hi] at e;cases e;exact ⟨v,List.getElem?_set_self (by rw [h.1]; exact hi),r⟩
 ·rw [List.getElem?_set_ne hj] at e;obtain ⟨u,e1,q⟩:=h.2 j y e;exact ⟨u,by rw [List.getElem?_set_ne hj]; exact e1,q⟩
def ym {α β:Type} (W:Wd) (R:Wd->α->β->Prop) (r:Res α) (Q:β->Hp->Prop) (E:XK):Prop:=match r with
 | .ok a M=>∀ W' H' b,W.le W'->Held W' M H'->R W' a b->Q b H'
 | .exc k M=>∀ W' H',W.le W'->Held W' M H'->E (.ref (W.T.C k)) none H'
 | .bad=>False
theorem ym.up {α β:Type} {W W':Wd} {R:Wd->α->β->Prop} {r:Res α} {Q:β->Hp->Prop} {E:XK} (h:ym W R r Q E) (le:W.le W'):ym W' R r Q E:=by
 cases r with
 | ok a M=>exact fun W2 H2 b l2 h2 r2=>h W2 H2 b (le.trans l2) h2 r2
 | exc k M =>
  intro W2 H2 l2 h2
  have:=h W2 H2 (le.trans l2) h2
  rw [le.k];exact this
 | bad=>exact h.elim
theorem ym.bind {α β γ δ:Type} {W:Wd} {R1:Wd->α->β->Prop} {R2:Wd->γ->δ->Prop} {r:Res α} {k:α->Sto->Res γ} {Q:δ->Hp->Prop} {Q1:β->Hp->Prop} {E:XK} (h:ym W R2 (r.bind k) Q E)
  (f:∀ W' M a b H1,W.le W'->Held W' M H1->R1 W' a b->ym W' R2 (k a M) Q E->Q1 b H1):ym W R1 r Q1 E:=by
 cases r with
 | ok a M=>exact fun W2 H2 b l2 h2 r2=>f W2 M a b H2 l2 h2 r2 (ym.up (r:=k a M) h l2)
 | exc k M=>exact h
 | bad=>exact h.elim
def lft {α β:Type} (T:Tb) (R:Wd->α->β->Prop) (ES:St->XK) (d:En->Sto->Res α):St->Hp->(β->Hp->Prop)->Prop:=fun σ H Q =>
 ∃ W ρ M,W.T=T∧Held W M H∧yF W ρ σ∧ym W R (d ρ M) Q (ES σ)
theorem jF {α β:Type} {T:Tb} {R:Wd->α->β->Prop} {ES:St->XK} {d:En->Sto->Res α} {σ:St} {H:Hp} {Q:β->Hp->Prop} {P:Prop} (h:lft T R ES d σ H Q) (k:∀ W ρ M,W.T=T->Held W M H->yF W ρ σ->ym W R (d ρ M) Q (ES σ)->P):P:=by
 obtain ⟨W,ρ,M,a,b,c,e⟩:=h;exact k W ρ M a b c e
abbrev RB:Wd->Bool->Bool->Prop:=fun _ a b=>b=a
structure QE (X:Cx) (T:Tb) (ES:St->XK) (e:Expr) (d:DE):Prop where
 h:PE X e (lft T Rep ES d)
structure QT (X:Cx) (T:Tb) (ES:St->XK) (e:Expr) (d:DT):Prop where
 h:PT X e (lft T RB ES d)
structure QW (X:Cx) (T:Tb) (ES:St->XK) (e:Expr) (d:DT):Prop where
 h:PW X e (lft T RB ES d)
structure QA (X:Cx) (T:Tb) (ES:St->XK) (es:List Expr) (d:DA):Prop where
 h:PA X es (lft T yf ES d)
structure QK (X:Cx) (T:Tb) (ES:St->XK) (ks:List Keyword) (d:DA):Prop where
 h:PK X ks (lft T yf ES d)
section
variable {X:Cx} {T:Tb} {ES:St->XK} {a b c e:Expr} {es:List Expr} {pos:Pos} {da db dc d:DE} {ds:DA}
theorem jQ {t t':TE} (h:PE X e t) (f:∀ σ H Q,t' σ H Q->t σ H Q):PE X e t':=fun pins s σ H Q I q=>h pins s σ H Q I (f σ H Q q)
theorem UO {t t':TT} (h:PT X e t) (f:∀ σ H Q,t' σ H Q->t σ H Q):PT X e t':=fun pins s σ H Q I q=>h pins s σ H Q I (f σ H Q q)
theorem jeX {t t':TT} (h:PW X e t) (f:∀ σ H Q,t' σ H Q->t σ H Q):PW X e t':=fun w pins s σ H Q I q=>h w pins s σ H Q I (f σ H Q q)
theorem jfw {t t':TA} (h:PA X es t) (f:∀ σ H Q,t' σ H Q->t σ H Q):PA X es t':=fun pos pins s σ H Q I q=>h pos pins s σ H Q I (f σ H Q q)
theorem jfh {ks:List Keyword} {t t':TA} (h:PK X ks t) (f:∀ σ H Q,t' σ H Q->t σ H Q):PK X ks t':=fun pos pins s σ H Q I q=>h pos pins s σ H Q I (f σ H Q q)
def yd (i:Nat):DE:=fun ρ M=>match ρ[i]? with
 | some (some x)=>.ok x M
 | _=>.bad
theorem qv (i:Nat) {x:Str} (hN:X.N[i]? = some x:=by rfl) (hv:Vis X.env.scope x:=by first | exact Or.inl rfl | exact Or.inr (Or.inl rfl) | exact Or.inr (Or.inr rfl)) (hd:(x == ("__debug__":Str))=false:=by decide)
  (hcd:(x == ("__classdict__":Str))=false:=by decide):QE X T ES (.Name x pos) (yd i):=⟨jQ (pe_var hN hv hd hcd) fun σ H Q hQQ=>by
 obtain ⟨W,ρ,M,_,hh,hs,p⟩:=hQQ;unfold yd at p;split at p
 ·rename_i y e;obtain ⟨v,e1,r⟩:=hs.2 i y e;exact ⟨v,e1,p W H v (.refl W) hh r⟩
 ·exact p.elim⟩
def dC (x:PV):DE:=fun _ M=>.ok x M
theorem qc {x:PV} {v:V} (h:PE X e (tC v)) (r:∀ W:Wd,W.T=T->Rep W x v):QE X T ES e (dC x):=⟨jQ h fun σ H Q hQQ=>jF hQQ fun W ρ M k hh hs p=>p W H v (.refl W) hh (r W k)⟩
theorem jo {i j}:QE X T ES (.Constant (.int i) j pos) (dC (.int i)):=qc pe_int fun _ _=>rfl
theorem jaK {b j}:QE X T ES (.Constant (.bool b) j pos) (dC (.bl b)):=qc pe_bl fun _ _=>rfl
theorem YO {j}:QE X T ES (.Constant .none j pos) (dC .non):=qc pe_non fun _ _=>rfl
theorem Yb {x j}:QE X T ES (.Constant (.str x) j pos) (dC (.str x)):=qc jfm fun _ _=>rfl
theorem uQ {x:Str} {i:Int} {t:Tok} (hg:Gl X x) (hm:X.mg x=some (.int i t)) (hd:(x == ("__debug__":Str))=false:=by decide):QE X T ES (.Name x pos) (dC (.int i)):=qc (jcM (v:=.int i) hg hm ⟨_,rfl⟩ hd) fun _ _=>rfl
theorem jaJ {x:Str} {n:String} (hg:Gl X x) (hm:X.mg x=none) (hv:bootBuiltins x=some (.type n)) (hn:x≠"__name__":=by decide) (hd:(x == ("__debug__":Str))=false:=by decide):QE X T ES (.Name x pos) (dC (.ty n)) :=
 qc (jhR (v:=.ty n) hg hm hv rfl hn hd) fun _ _=>rfl
def ye:DA:=fun _ M=>.ok [] M
def jb (d:DE) (ds:DA):DA:=fun ρ M=>(d ρ M).bind fun x M1=>(ds ρ M1).bind fun xs M2=>.ok (x :: xs) M2
theorem jd:QA X T ES [] ye:=⟨jfw pa_nil fun σ H Q hQQ=>jF hQQ fun W ρ M k hh hs p=>p W H [] (.refl W) hh rfl⟩
theorem Ub {σ:St} {H:Hp} {Q:List V->Hp->Prop} (h:lft T yf ES (jb d ds) σ H Q):jey (lft T Rep ES d) (lft T yf ES ds) σ H Q:=by
 obtain ⟨W,ρ,M,k,hh,hs,p⟩:=h;refine ⟨W,ρ,M,k,hh,hs,ym.bind p fun W1 M1 x v H1 l1 h1 r1 p1=>⟨W1,ρ,M1,l1.k.trans k,h1,hs.up l1,ym.bind p1 fun W2 M2 xs vs H2 l2 h2 r2 p2=>?_⟩⟩;exact p2 W2 H2 (v :: vs) (.refl W2) h2 ⟨v,vs,rfl,r1.up l2,r2⟩
theorem ja (ha:QE X T ES e d) (hr:QA X T ES es ds) (hs:starEach (e :: es) X.env=(false,eval e X.env) :: starEach es X.env:=by rfl):QA X T ES (e :: es) (jb d ds):=⟨jfw (jhS ha.h hr.h hs) fun _ _ _=>Ub⟩
theorem jh:QK X T ES [] ye:=⟨jfh pk_nil fun σ H Q hQQ=>jF hQQ fun W ρ M k hh hs p=>p W H [] (.refl W) hh rfl⟩
theorem xo {kws:List Keyword} {nm:Option Str} {kpos:Pos} (ha:QE X T ES e d) (hr:QK X T ES kws ds):QK X T ES (⟨nm,e,kpos⟩ :: kws) (jb d ds):=⟨jfh (jhK ha.h hr.h) fun _ _ _=>Ub⟩
abbrev G2:=Sto->PV->PV->Option PV
def rP (T:Tb) (g:G2):R2:=fun v u H Q=>∃ W M x y z,W.T=T∧Held W M H∧Rep W x v∧Rep W y u∧g M x y=some z∧∀ W' H' v',W.le W'->Held W' M H'->Rep W' z v'->Q v' H'
abbrev OpP (X:Cx) (T:Tb) (f:Value->Value->Sem Value) (g:G2):Prop:=OpR X f (rP T g)
theorem xp {f:Value->Value->Sem Value} {r r':R2} (h:OpR X f r) (k:∀ x y H Q,r' x y H Q->r x y H Q):OpR X f r':=fun pins s σ H x y v u Q I rx ry q=>h pins s σ H x y v u Q I rx ry (k _ _ _ _ q)
def orG (g g':G2):G2:=fun M x y=>match g M x y with
 | some z=>some z
 | none=>g' M x y
theorem UQ {f:Value->Value->Sem Value} {g g':G2} (h:OpP X T f g) (h':OpP X T f g'):OpP X T f (orG g g'):=xp (OpR.or h h') fun v u H Q hQQ=>by
 obtain ⟨W,M,x,y,z,k,hh,rx,ry,e,q⟩:=hQQ;unfold orG at e;split at e
 ·rename_i z' e';cases e;exact .inl ⟨W,M,x,y,z,k,hh,rx,ry,e',q⟩
 ·exact .inr ⟨W,M,x,y,z,k,hh,rx,ry,e,q⟩
def dOp (g:G2) (da db:DE):DE:=fun ρ M=>(da ρ M).bind fun x M1=>(db ρ M1).bind fun y M2=>ofO (g M2 x y) M2
theorem Yr {g:G2} {σ:St} {H:Hp} {Q:VK} (h:lft T Rep ES (dOp g da db) σ H Q):tOp (rP T g) (lft T Rep ES da) (lft T Rep ES db) σ H Q:=by
 obtain ⟨W,ρ,M,k,hh,hs,p⟩:=h;refine ⟨W,ρ,M,k,hh,hs,ym.bind p fun W1 M1 x v H1 l1 h1 r1 p1=>⟨W1,ρ,M1,l1.k.trans k,h1,hs.up l1,ym.bind p1 fun W2 M2 y u H2 l2 h2 r2 p2=>?_⟩⟩
 cases e:g M2 x y with
 | none=>rw [e] at p2; exact p2.elim
 | some z =>
  rw [e] at p2;exact ⟨W2,M2,x,y,z,l2.k.trans (l1.k.trans k),h2,r1.up l2,r2,e,p2⟩
theorem jz {op:Operator} {g:G2} (ho:OpP X T (binaryOp op) g) (ha:QE X T ES a da) (hb:QE X T ES b db):QE X T ES (.BinOp a op b pos) (dOp g da db):=⟨jQ (pe_op ho ha.h hb.h) fun _ _ _=>Yr⟩
theorem jeU {op:CmpOp} {g:G2} (ho:OpP X T (compareOp op) g) (ha:QE X T ES a da) (hb:QE X T ES b db) (hm:behindInMarks op b=false):QE X T ES (.Compare a [op] [b] pos) (dOp g da db):=⟨jQ (jhQ ho ha.h hb.h hm) fun _ _ _=>Yr⟩
def asB:PV->Option Bool
 | .bl b=>some b
 | _=>none
def yg (d:DE):DT:=fun ρ M=>(d ρ M).bind fun x M1=>ofO (asB x) M1
theorem jX {op:CmpOp} {g:G2} (ho:OpP X T (compareOp op) g) (ha:QE X T ES a da) (hb:QE X T ES b db) (hm:behindInMarks op b=false):QT X T ES (.Compare a [op] [b] pos) (yg (dOp g da db)) :=
 ⟨UO (jhD ho ha.h hb.h hm) fun σ H Q hQQ=>jF hQQ fun W ρ M k hh hs p=>Yr ⟨W,ρ,M,k,hh,hs,ym.bind (R1:=Rep) p fun W1 M1 x v H1 l1 h1 r1 p1=>by
  cases x with
  | bl b=>exact ⟨b,r1,p1 W1 H1 b (.refl W1) h1 rfl⟩
  | _=>exact p1.elim⟩⟩
def jai (g g':G2) (da db dc:DE):DE:=fun ρ M=>(da ρ M).bind fun x M1=>(db ρ M1).bind fun y M2=>match g M2 x y with
 | some (.bl true)=>(dc ρ M2).bind fun z M3=>ofO (g' M3 y z) M3
 | some (.bl false)=>.ok (.bl false) M2
 | _=>.bad
theorem jcl {g g':G2} {σ:St} {H:Hp} {Q:VK} (h:lft T Rep ES (jai g g' da db dc) σ H Q):jez (rP T g) (rP T g') (lft T Rep ES da) (lft T Rep ES db) (lft T Rep ES dc) σ H Q:=by
 obtain ⟨W,ρ,M,k,hh,hs,p⟩:=h;refine ⟨W,ρ,M,k,hh,hs,ym.bind p fun W1 M1 x v H1 l1 h1 r1 p1=>⟨W1,ρ,M1,l1.k.trans k,h1,hs.up l1,ym.bind p1 fun W2 M2 y u H2 l2 h2 r2 p2=>?_⟩⟩;have k2:=l2.k.trans (l1.k.trans k);split at p2
 ·rename_i e;refine ⟨W2,M2,x,y,_,k2,h2,r1.up l2,r2,e,fun W3 H3 v' l3 h3 r3=>⟨true,r3,?_⟩⟩;rw [if_pos rfl];refine ⟨W3,ρ,M2,l3.k.trans k2,h3,(hs.up (l1.trans l2)).up l3,ym.bind (ym.up p2 l3) fun W4 M4 z w H4 l4 h4 r4 p4=>?_⟩
  cases e':g' M4 y z with
  | none=>rw [e'] at p4; exact p4.elim
  | some z' =>
   rw [e'] at p4;exact ⟨W4,M4,y,z,z',l4.k.trans (l3.k.trans k2),h4,(r2.up l3).up l4,r4,e',p4⟩
 ·rename_i e;refine ⟨W2,M2,x,y,_,k2,h2,r1.up l2,r2,e,fun W3 H3 v' l3 h3 r3=>⟨false,r3,?_⟩⟩;rw [if_neg (by simp)];exact p2 W3 H3 (.bl false) l3 h3 rfl
 ·exact p2.elim
theorem jeV {op op':CmpOp} {g g':G2} (ho:OpP X T (compareOp op) g) (ho':OpP X T (compareOp op') g') (ha:QE X T ES a da) (hb:QE X T ES b db) (hc:QE X T ES c dc)
  (hm:lastMarks [op,op'] [b,c]=false:=by with_unfolding_all rfl):QE X T ES (.Compare a [op,op'] [b,c] pos) (jai g g' da db dc):=⟨jQ (jfu ho ho' ha.h hb.h hc.h hm) fun _ _ _=>jcl⟩
def yZ (M:Sto):PV->Option (List PV)
 | .lst xs=>some xs
 | .ref i=>(match M.g i with
  | some (.lst xs)=>some xs
  | _=>none)
 | _=>none
theorem xv {W:Wd} {M:Sto} {H:Hp} {x:PV} {v:V} {xs:List PV} (hh:Held W M H) (r:Rep W x v) (e:yZ M x=some xs):∃ a vs,v = .ref a∧H a=some (.lst vs)∧yf W xs vs:=by
 cases x with
 | lst ys =>
  cases e;obtain ⟨a,vs,e1,q,rr⟩:=r;exact ⟨a,vs,e1,hh.f _ _ q,rr⟩
 | ref i =>
  obtain ⟨a,e1,q⟩:=r
  have e:(match M.g i with
   | some (.lst xs)=>some xs
   | _=>none)=some xs:=e
  split at e
  ·rename_i ys e2;cases e;obtain ⟨b,o,h1,h2,h3,vs,rfl,rr⟩:=hh.m i _ e2;rw [q] at h1;cases h1;exact ⟨a,vs,e1,h3,rr⟩
  ·cases e
 | _=>cases e
theorem vk {W:Wd} {M:Sto} {H:Hp} {v:V} {xs:List PV} (hh:Held W M H) (r:Rep W (.tup xs) v):∃ a vs,v = .ref a∧SqT W.T.K H a vs∧yf W xs vs:=by
 obtain ⟨a,vs,e1,q,rr⟩:=r;exact ⟨a,vs,e1,UI hh.f q,rr⟩
def uZ (M:Sto):PV->Option (List PV)
 | .tup xs=>some xs
 | x=>yZ M x
theorem jas {W:Wd} {M:Sto} {H:Hp} {x:PV} {v:V} {xs:List PV} (hh:Held W M H) (r:Rep W x v) (e:uZ M x=some xs):∃ a vs,v = .ref a∧(SqL W.T.K H a vs∨SqT W.T.K H a vs)∧yf W xs vs:=by
 cases x with
 | tup ys =>
  cases e;obtain ⟨a,vs,h1,h2,h3⟩:=vk hh r;exact ⟨a,vs,h1,.inr h2,h3⟩
 | _ =>
  obtain ⟨a,vs,h1,h2,h3⟩:=xv hh r e;exact ⟨a,vs,h1,.inl (SqL.of h2),h3⟩
theorem uF {W:Wd} {M:Sto} {H:Hp} {xs:List PV} {vs:List V} {p:Addr} (hh:Held W M H) (r:yf W xs vs) (e:H p=none):∃ W',W.le W'∧Held W' M (L2.upd H p (.lst vs))∧Rep W' (.lst xs) (.ref p):=by
 obtain ⟨le,h1,h2⟩:=hh.frz (o:=.lst vs) e;exact ⟨_,le,h1,p,vs,rfl,h2,r.up le⟩
theorem Ys {W:Wd} {M:Sto} {H:Hp} {xs:List PV} {vs:List V} {p:Addr} (hh:Held W M H) (r:yf W xs vs) (e:H p=none):∃ W',W.le W'∧Held W' M (L2.upd H p (.tup vs))∧Rep W' (.tup xs) (.ref p):=by
 obtain ⟨le,h1,h2⟩:=hh.frz (o:=.tup vs) e;exact ⟨_,le,h1,p,vs,rfl,SqT.of h2,r.up le⟩
theorem jaO {W:Wd} {M:Sto} {H:Hp} {xs:List PV} {vs:List V} {p:Addr} (hh:Held W M H) (r:yf W xs vs) (e:H p=none):∃ W',W.le W'∧Held W' (M.new (.lst xs)) (L2.upd H p (.lst vs))∧Rep W' (.ref M.n) (.ref p):=by
 obtain ⟨le,h1,h2⟩:=hh.put (l:=p) (o:=.lst vs) (c:=.lst xs) e ⟨vs,rfl,r⟩;exact ⟨_,le,h1,p,rfl,h2⟩
def jee (ds:DA):DE:=fun ρ M=>(ds ρ M).bind fun xs M1=>if xs.length<=sizeLine then .ok (.tup xs) M1 else .bad
def xl (ds:DA):DE:=fun ρ M=>(ds ρ M).bind fun xs M1=>if xs.length<=sizeLine then .ok (.lst xs) M1 else .bad
def Xr (ds:DA):DE:=fun ρ M=>(ds ρ M).bind fun xs M1=>if xs.length<=sizeLine then .ok (.ref M1.n) (M1.new (.lst xs)) else .bad
theorem UL {x1} (h:QA X T ES es ds):QE X T ES (.Tuple es x1 pos) (jee ds):=⟨jQ (uS h.h) fun σ H Q hQQ=>jF hQQ fun W ρ M k hh hs p=>⟨W,ρ,M,k,hh,hs,ym.bind p fun W1 M1 xs vs H1 l1 h1 r1 p1=>by
 split at p1
 ·rename_i hz;refine ⟨by rw [r1.length]; exact hz,fun q e=>?_⟩;obtain ⟨W2,l2,h2,r2⟩:=Ys h1 r1 e;exact p1 W2 _ _ l2 h2 r2
 ·exact p1.elim⟩⟩
theorem vo (h:QA X T ES es ds):QE X T ES (.List es pos) (xl ds):=⟨jQ (jfo h.h) fun σ H Q hQQ=>jF hQQ fun W ρ M k hh hs p=>⟨W,ρ,M,k,hh,hs,ym.bind p fun W1 M1 xs vs H1 l1 h1 r1 p1=>by
 split at p1
 ·rename_i hz;refine ⟨by rw [r1.length]; exact hz,fun q e=>?_⟩;obtain ⟨W2,l2,h2,r2⟩:=uF h1 r1 e;exact p1 W2 _ _ l2 h2 r2
 ·exact p1.elim⟩⟩
theorem Yq (h:QA X T ES es ds):QE X T ES (.List es pos) (Xr ds):=⟨jQ (jfo h.h) fun σ H Q hQQ=>jF hQQ fun W ρ M k hh hs p=>⟨W,ρ,M,k,hh,hs,ym.bind p fun W1 M1 xs vs H1 l1 h1 r1 p1=>by
 split at p1
 ·rename_i hz;refine ⟨by rw [r1.length]; exact hz,fun q e=>?_⟩;obtain ⟨W2,l2,h2,r2⟩:=jaO h1 r1 e;exact p1 W2 _ _ l2 h2 r2
 ·exact p1.elim⟩⟩
def dFrz (d:DE):DE:=fun ρ M=>(d ρ M).bind fun x M1=>match x with
 | .ref i=>(match M1.g i with
  | some (.lst xs)=>.ok (.lst xs) (M1.drop i)
  | _=>.bad)
 | _=>.bad
theorem qe_frz (h:QE X T ES e d):QE X T ES e (dFrz d):=⟨jQ h.h fun σ H Q hQQ=>jF hQQ fun W ρ M k hh hs p=>⟨W,ρ,M,k,hh,hs,ym.bind p fun W1 M1 x v H1 l1 h1 r1 p1=>by
 split at p1
 ·rename_i i;split at p1
  ·rename_i xs e;obtain ⟨a,rfl,ea⟩:=r1;obtain ⟨vs,_,l2,h2,r2⟩:=h1.freeze e ea;exact p1 _ _ _ l2 h2 r2
  ·exact p1.elim
 ·exact p1.elim⟩⟩
def yR (da db:DT):DT:=fun ρ M=>(da ρ M).bind fun c M1=>if c=true then db ρ M1 else .ok false M1
def dOr (da db:DT):DT:=fun ρ M=>(da ρ M).bind fun c M1=>if c=true then .ok true M1 else db ρ M1
def vV (da:DT):DT:=fun ρ M=>(da ρ M).bind fun c M1=>.ok (!c) M1
variable {ta tb:DT} {rest:List Expr}
theorem QW.qt (h:QW X T ES e ta):QT X T ES e ta:=⟨h.h.pt⟩
theorem xB (ha:QT X T ES a ta):QW X T ES (.BoolOp .And [a] pos) ta:=⟨jhB ha.h⟩
theorem uP (ha:QT X T ES a ta):QW X T ES (.BoolOp .Or [a] pos) ta:=⟨pw_or1 ha.h⟩
theorem vn (ha:QT X T ES a ta) (hb:QW X T ES (.BoolOp .And (b :: rest) pos) tb):QW X T ES (.BoolOp .And (a :: b :: rest) pos) (yR ta tb):=⟨jeX (pw_and ha.h hb.h) fun σ H Q hQQ=>jF hQQ fun W ρ M k hh hs p =>
 ⟨W,ρ,M,k,hh,hs,ym.bind p fun W1 M1 x v H1 l1 h1 r1 p1=>by
  subst r1
  cases v with
  | true=>rw [if_pos rfl]; exact ⟨W1,ρ,M1,l1.k.trans k,h1,hs.up l1,p1⟩
  | false=>rw [if_neg (by simp)]; exact p1 W1 H1 _ (.refl W1) h1 rfl⟩⟩
theorem YM (ha:QT X T ES a ta) (hb:QW X T ES (.BoolOp .Or (b :: rest) pos) tb):QW X T ES (.BoolOp .Or (a :: b :: rest) pos) (dOr ta tb):=⟨jeX (pw_or ha.h hb.h) fun σ H Q hQQ=>jF hQQ fun W ρ M k hh hs p =>
 ⟨W,ρ,M,k,hh,hs,ym.bind p fun W1 M1 x v H1 l1 h1 r1 p1=>by
  subst r1
  cases v with
  | false=>rw [if_neg (by simp)]; exact ⟨W1,ρ,M1,l1.k.trans k,h1,hs.up l1,p1⟩
  | true=>rw [if_pos rfl]; exact p1 W1 H1 _ (.refl W1) h1 rfl⟩⟩
theorem xx (ha:QT X T ES a ta):QT X T ES (.UnaryOp .Not a pos) (vV ta):=⟨UO (pt_not ha.h) fun σ H Q hQQ=>jF hQQ fun W ρ M k hh hs p =>
 ⟨W,ρ,M,k,hh,hs,ym.bind p fun W1 M1 x v H1 l1 h1 r1 p1=>by
  subst r1
  exact p1 W1 H1 _ (.refl W1) h1 rfl⟩⟩
def Jz (da db:DE):DE:=fun ρ M=>(da ρ M).bind fun x M1=>match x with
 | .bl true=>db ρ M1
 | .bl false=>.ok (.bl false) M1
 | _=>.bad
def jbj (da:DE):DE:=fun ρ M=>(da ρ M).bind fun x M1=>match x with
 | .bl b=>.ok (.bl (!b)) M1
 | _=>.bad
theorem UM {op} (h:QE X T ES a da):QE X T ES (.BoolOp op [a] pos) da:=⟨pe_one h.h⟩
theorem UN (ha:QE X T ES a da) (hb:QE X T ES (.BoolOp .And (b :: rest) pos) db):QE X T ES (.BoolOp .And (a :: b :: rest) pos) (Jz da db):=⟨jQ (pe_and ha.h hb.h) fun σ H Q hQQ=>jF hQQ fun W ρ M k hh hs p =>
 ⟨W,ρ,M,k,hh,hs,ym.bind p fun W1 M1 x v H1 l1 h1 r1 p1=>by
  split at p1
  ·exact ⟨true,r1,by rw [if_pos rfl]; exact ⟨W1,ρ,M1,l1.k.trans k,h1,hs.up l1,p1⟩⟩
  ·exact ⟨false,r1,by rw [if_neg (by simp)]; exact p1 W1 H1 _ (.refl W1) h1 rfl⟩
  ·exact p1.elim⟩⟩
theorem jeQ (ha:QE X T ES a da):QE X T ES (.UnaryOp .Not a pos) (jbj da):=⟨jQ (pe_not ha.h) fun σ H Q hQQ=>jF hQQ fun W ρ M k hh hs p =>
 ⟨W,ρ,M,k,hh,hs,ym.bind p fun W1 M1 x v H1 l1 h1 r1 p1=>by
  split at p1
  ·exact ⟨_,r1,p1 W1 H1 _ (.refl W1) h1 rfl⟩
  ·exact p1.elim⟩⟩
def dIf (t:DT) (da db:DE):DE:=fun ρ M=>(t ρ M).bind fun c M1=>if c=true then da ρ M1 else db ρ M1
theorem jiU (hc:QT X T ES c ta) (ha:QE X T ES a da) (hb:QE X T ES b db):QE X T ES (.IfExp c a b pos) (dIf ta da db):=⟨jQ (jfp hc.h ha.h hb.h) fun σ H Q hQQ=>jF hQQ fun W ρ M k hh hs p =>
 ⟨W,ρ,M,k,hh,hs,ym.bind p fun W1 M1 x v H1 l1 h1 r1 p1=>by
  subst r1
  cases v with
  | true=>rw [if_pos rfl] at p1 ⊢; exact ⟨W1,ρ,M1,l1.k.trans k,h1,hs.up l1,p1⟩
  | false=>rw [if_neg (by simp)] at p1 ⊢; exact ⟨W1,ρ,M1,l1.k.trans k,h1,hs.up l1,p1⟩⟩⟩
def jex (M:Sto):PV->Option Bool
 | .non=>some false
 | .bl b=>some b
 | .int i=>some (i != 0)
 | .tup xs=>some (!xs.isEmpty)
 | x=>(yZ M x).map fun xs=>!xs.isEmpty
theorem yf.empty {W:Wd}:∀ {xs:List PV} {vs:List V},yf W xs vs->vs.isEmpty=xs.isEmpty
 | [],_,r=>by cases r; rfl
 | _ :: _,_,⟨_,_,e,_⟩=>by subst e; rfl
def vH (d:DE):DT:=fun ρ M=>(d ρ M).bind fun x M1=>ofO (jex M1 x) M1
theorem xj (hT:T.K=X.K) (h:QE X T ES e d) (he:∀ whole,isTrue e X.env whole=(do let v <- whole; standAt e.pos; holding [v] (truthy v)):=by intro _; rfl):QT X T ES e (vH d) :=
 ⟨UO (pt_tru h.h he) fun σ H Q hQQ=>jF hQQ fun W ρ M k hh hs p=>⟨W,ρ,M,k,hh,hs,ym.bind p fun W1 M1 x v H1 l1 h1 r1 p1=>by
  cases e1:jex M1 x with
  | none=>rw [e1] at p1; exact p1.elim
  | some b =>
   rw [e1] at p1;refine ⟨b,?_,p1 W1 H1 b (.refl W1) h1 rfl⟩
   have sq:∀ y,yZ M1 y=yZ M1 x->(yZ M1 x).map (fun xs=>!xs.isEmpty)=some b->TruV X.K v H1 b:=fun y _ q=>by
    cases e2:yZ M1 x with
    | none=>rw [e2] at q; cases q
    | some xs =>
     rw [e2] at q;cases q;obtain ⟨a,vs,rfl,e3,rr⟩:=xv h1 r1 e2;exact .inl ⟨vs,SqL.of e3,by rw [rr.empty]⟩
   cases x with
   | non=>cases e1; cases r1; rfl
   | bl c=>cases e1; cases r1; rfl
   | int i=>cases e1; cases r1; rfl
   | tup xs =>
    cases e1;obtain ⟨a,vs,rfl,e3,rr⟩:=vk h1 r1;rw [l1.k.trans k,hT] at e3;exact .inr (.inl ⟨vs,e3,by rw [rr.empty]⟩)
   | lst xs=>exact sq _ rfl e1
   | ref i=>exact sq _ rfl e1
   | _=>cases e1⟩⟩
end
end L3

namespace L3
open PySem L2
mutual
def plain:PV->Bool
 | .non=>true
 | .bl _=>true
 | .int _=>true
 | .str _=>true
 | .tup xs=>yD xs
 | .lst xs=>yD xs
 | _=>false
def yD:List PV->Bool
 | []=>true
 | x :: xs=>plain x && yD xs
end
mutual
def dep:PV->Nat
 | .tup xs=>xF xs + 1
 | .lst xs=>xF xs + 1
 | _=>0
def xF:List PV->Nat
 | []=>0
 | x :: xs=>max (dep x) (xF xs)
end
mutual
def eqB:PV->PV->Bool
 | .non,.non=>true
 | .bl a,.bl b=>a == b
 | .bl a,.int b=>(if a then 1 else 0) == b
 | .int a,.bl b=>a == (if b then 1 else 0)
 | .int a,.int b=>a == b
 | .str a,.str b=>a == b
 | .tup xs,.tup ys=>XM xs ys
 | .lst xs,.lst ys=>XM xs ys
 | _,_=>false
def XM:List PV->List PV->Bool
 | [],[]=>true
 | x :: xs,y :: ys=>eqB x y && XM xs ys
 | _,_=>false
end
theorem vP:∀ {xs:List PV} {j:Nat} {x:PV},yD xs=true->xs[j]? = some x->plain x=true
 | [],_,_,_,e=>by simp at e
 | y :: ys,0,x,h,e=>by
  simp at e;subst e;unfold yD at h;exact (Bool.and_eq_true_iff.mp h).1
 | y :: ys,j + 1,x,h,e=>by
  unfold yD at h;exact vP (j:=j) (Bool.and_eq_true_iff.mp h).2 (by simpa using e)
theorem jcY:∀ {xs:List PV} {j:Nat} {x:PV},xs[j]? = some x->dep x<=xF xs
 | [],_,_,e=>by simp at e
 | y :: ys,0,x,e=>by
  simp at e;subst e;show dep y<=max (dep y) (xF ys);omega
 | y :: ys,j + 1,x,e=>by
  have:=jcY (j:=j) (xs:=ys) (x:=x) (by simpa using e)
  show dep x<=max (dep y) (xF ys);omega
theorem uq:∀ {xs ys:List PV},xs.length≠ys.length->XM xs ys=false
 | [],[],h=>absurd rfl h
 | [],_ :: _,_=>rfl
 | _ :: _,[],_=>rfl
 | x :: xs,y :: ys,h=>by
  have:XM xs ys=false:=uq fun e=>h (by simp [e])
  show (eqB x y && XM xs ys)=false;rw [this,Bool.and_false]
theorem xV:∀ {xs ys:List PV},xs.length=ys.length->((List.range xs.length).all fun i=>eqB (xs.getD i .non) (ys.getD i .non))=XM xs ys
 | [],[],_=>rfl
 | x :: xs,y :: ys,h=>by
  rw [List.length_cons,List.range_succ_eq_map,List.all_cons,List.all_map];have ih:=xV (xs:=xs) (ys:=ys) (by simpa using h)
  show (eqB x y && _)=(eqB x y && XM xs ys)
  rw [<- ih];rfl
 | [],_ :: _,h=>by simp at h
 | _ :: _,[],h=>by simp at h
mutual
theorem Js:∀ {x:PV},plain x=true->eqB x x=true
 | .non,_=>rfl
 | .bl b,_=>by show (b == b)=true; simp
 | .int b,_=>by show (b == b)=true; simp
 | .str b,_=>by show (b == b)=true; simp
 | .tup xs,h=>JW (xs:=xs) h
 | .lst xs,h=>JW (xs:=xs) h
theorem JW:∀ {xs:List PV},yD xs=true->XM xs xs=true
 | [],_=>rfl
 | x :: xs,h=>by
  unfold yD at h;have h:=Bool.and_eq_true_iff.mp h;show (eqB x x && XM xs xs)=true;rw [Js h.1,JW h.2];rfl
end
def AtH (W:Wd) (s:Shared):PV->Value->Prop
 | .non,u=>u = .none
 | .bl b,u=>u = .bool b
 | .int i,u=>∃ t,u = .int i t
 | .str x,u=>∃ t,u = .str x t
 | .lst xs,u=>∃ a its vs,u = .ref a∧s.heap.IsList a (List.toArray its)∧yj vs its∧yf W xs vs
 | .tup xs,u=>∃ a its vs,u = .ref a∧s.heap.IsTuple a (List.toArray its)∧yj vs its∧yf W xs vs
 | _,_=>False
theorem Jc:∀ {xs:List V} {us:List Value} {j:Nat} {u:Value},yj xs us->us[j]? = some u->∃ v,xs[j]? = some v∧yl v u
 | _,_,_,_,.nil,e=>by simp at e
 | _,_,0,_,.cons r _,e=>by simp at e; subst e; exact ⟨_,rfl,r⟩
 | _,_,j + 1,u,.cons _ t,e=>by
  obtain ⟨v,h1,h2⟩:=Jc (j:=j) t (by simpa using e);exact ⟨v,by simpa using h1,h2⟩
theorem Jg:∀ {W:Wd} {xs:List PV} {vs:List V} {i:Nat} {v:V},yf W xs vs->vs[i]? = some v->∃ x,xs[i]? = some x∧Rep W x v
 | _,[],_,_,_,r,e=>by cases r; simp at e
 | _,_ :: _,_,0,_,⟨v,r,e,a,_⟩,q=>by subst e; simp at q; subst q; exact ⟨_,rfl,a⟩
 | _,_ :: _,_,i + 1,_,⟨v,r,e,_,b⟩,q=>by
  subst e;obtain ⟨x,h1,h2⟩:=Jg (i:=i) b (by simpa using q);exact ⟨x,by simpa using h1,h2⟩
section
variable {X:Cx} {pins:List (Addr × Obj)} {σ:St} {H:Hp} {s:Shared} {W:Wd} {M:Sto}
theorem atH (I:Inv X pins σ H s) (hh:Held W M H) (hT:W.T.K=X.K) {x:PV} {v:V} {u:Value} (p:plain x=true) (r:Rep W x v) (q:yl v u):AtH W s x u:=by
 cases x with
 | non=>cases r; exact q
 | bl b=>cases r; exact q
 | int b=>cases r; exact q
 | str b=>cases r; exact q
 | lst xs =>
  obtain ⟨a,vs,rfl,e,rr⟩:=r;cases q;obtain ⟨its,rv,pl,_⟩:=I.list (SqL.of (hh.f _ _ e));exact ⟨a,its,vs,rfl,pl.isList,rv,rr⟩
 | tup xs =>
  obtain ⟨a,vs,rfl,e,rr⟩:=r;cases q;obtain ⟨its,rv,pl,_⟩:=I.tuple (show SqT X.K H a vs from hT ▸ UI hh.f e);exact ⟨a,its,vs,rfl,pl,rv,rr⟩
 | _=>cases p
theorem jiX {a:Addr} {its its':Array Value} (h:s.heap.IsList a its) (h':s.heap.IsTuple a its'):False:=SeqAt.ne_of_list_tuple h h' rfl
def back:V->Option PV
 | .non=>some .non
 | .bl b=>some (.bl b)
 | .int i=>some (.int i)
 | .str x=>some (.str x)
 | _=>none
theorem YL (I:Inv X pins σ H s) (hh:Held W M H) (hT:W.T.K=X.K) {x:PV} {v:V} (p:plain x=true) (r:Rep W x v):back v=some x∨∃ a vs,v = .ref a∧((∃ xs,x = .lst xs∧W.F a=some (.lst vs)∧yf W xs vs∧∃ its,s.heap.IsList a its)∨(∃ xs,x = .tup xs∧SqT X.K H a vs∧yf W xs vs∧∃ its,s.heap.IsTuple a its)):=by
 cases x with
 | non=>cases r; exact .inl rfl
 | bl _=>cases r; exact .inl rfl
 | int _=>cases r; exact .inl rfl
 | str _=>cases r; exact .inl rfl
 | lst xs =>
  obtain ⟨a,vs,rfl,e,rr⟩:=r;obtain ⟨its,_,pl,_⟩:=I.list (SqL.of (hh.f _ _ e));exact .inr ⟨a,vs,rfl,.inl ⟨xs,rfl,e,rr,_,pl.isList⟩⟩
 | tup xs =>
  obtain ⟨a,vs,rfl,e,rr⟩:=r
  have e:=(show SqT X.K H a vs from hT ▸ UI hh.f e)
  obtain ⟨its,_,pl,_⟩:=I.tuple e;exact .inr ⟨a,vs,rfl,.inr ⟨xs,rfl,e,rr,_,pl⟩⟩
 | _=>cases p
theorem jaG {n:Nat} (ih:∀ (x y:PV) (v:V),dep x < n->plain x=true->plain y=true->Rep W x v->Rep W y v->x=y) (xs:List PV):∀ (ys:List PV) (vs:List V),xF xs < n->yD xs=true->yD ys=true->yf W xs vs->yf W ys vs->xs=ys:=by
 induction xs with
 | nil =>
  intro ys vs _ _ _ r q;cases r
  cases ys with
  | nil=>rfl
  | cons y ys=>obtain ⟨_,_,e,_⟩:=q; cases e
 | cons x xs hi =>
  intro ys vs hn p p' r q;obtain ⟨v,r,rfl,a,b⟩:=r
  cases ys with
  | nil=>cases q
  | cons y ys =>
   obtain ⟨v',r',e',a',b'⟩:=q;cases e';unfold yD at p p';have p:=Bool.and_eq_true_iff.mp p;have p':=Bool.and_eq_true_iff.mp p';have hn:max (dep x) (xF xs) < n:=hn;rw [ih x y v (by omega) p.1 p'.1 a a',hi ys r (by omega) p.2 p'.2 b b']
theorem jcq (I:Inv X pins σ H s) (hh:Held W M H) (hT:W.T.K=X.K) {x y:PV} {v:V} (px:plain x=true) (py:plain y=true) (rx:Rep W x v) (ry:Rep W y v):x=y:=by
 suffices h:∀ (n:Nat) (x y:PV) (v:V),dep x < n->plain x=true->plain y=true->Rep W x v->Rep W y v->x=y from h _ x y v (Nat.lt_succ_self _) px py rx ry
 intro n
 induction n with
 | zero=>intro x y v h; exact absurd h (Nat.not_lt_zero _)
 | succ n ih =>
 intro x y v hn px py rx ry
 rcases YL I hh hT px rx with h | ⟨a,vs,rfl,h⟩
 ·rcases YL I hh hT py ry with h' | ⟨a,vs,rfl,_⟩
  ·rw [h] at h'; exact Option.some.inj h'
  ·cases h
 rcases YL I hh hT py ry with h' | ⟨a',us,e,h'⟩
 ·cases h'
 cases e
 rcases h with ⟨xs,rfl,f,rr,its,hl⟩ | ⟨xs,rfl,f,rr,its,hl⟩ <;> rcases h' with ⟨ys,rfl,f',rr',its',hl'⟩ | ⟨ys,rfl,f',rr',its',hl'⟩
 ·rw [f] at f';cases f';rw [jaG ih xs ys vs (show xF xs < n from Nat.lt_of_succ_lt_succ hn) px py rr rr']
 ·exact (jiX hl hl').elim
 ·exact (jiX hl' hl).elim
 ·have:=I.tuple_inj f f'
  subst this;rw [jaG ih xs ys vs (show xF xs < n from Nat.lt_of_succ_lt_succ hn) px py rr rr']
theorem JX {I0:Prop} {xs ys:List PV} {vs us:List V} {its its':List Value} {A:Around} (ih:∀ (x y:PV) {v u:V} {v' u':Value},dep x<=xF xs->plain x=true->plain y=true->Rep W x v->Rep W y u->yl v v'->yl u u'->SeqAt.EqAt A s v' u' (eqB x y))
  (px:yD xs=true) (py:yD ys=true) (rx:yf W xs vs) (ry:yf W ys us) (qx:yj vs its) (qy:yj us its') {j:Nat} (h1:j < its.length) (h2:j < its'.length):SeqAt.EqAt A s its[j] its'[j] (eqB (xs.getD j .non) (ys.getD j .non)):=by
 obtain ⟨v,e1,r1⟩:=Jc qx (List.getElem?_eq_getElem h1);obtain ⟨u,e2,r2⟩:=Jc qy (List.getElem?_eq_getElem h2);obtain ⟨x,e3,r3⟩:=Jg rx e1;obtain ⟨y,e4,r4⟩:=Jg ry e2;rw [List.getD_eq_getElem?_getD,List.getD_eq_getElem?_getD,e3,e4];exact ih x y (jcY e3) (vP px e3) (vP py e4) r3 r4 r1 r2
theorem Xm (I:Inv X pins σ H s) (hh:Held W M H) (hT:W.T.K=X.K):∀ (n:Nat) (x y:PV) {v u:V} {v' u':Value} (A:Around),dep x < n->A.units + dep x < cLine->plain x=true->plain y=true->Rep W x v->Rep W y u->yl v v'->yl u u'->SeqAt.EqAt A s v' u' (eqB x y):=by
 intro n
 induction n with
 | zero=>intro x y v u v' u' A h; exact absurd h (Nat.not_lt_zero _)
 | succ n ih =>
 intro x y v u v' u' A hn hu px py rx ry qx qy
 cases x with
 | lst xs =>
  have hn:xF xs + 1 < n + 1:=hn;have hu:A.units + (xF xs + 1) < cLine:=hu
  obtain ⟨a,its,vs,rfl,il,rv,rr⟩:=(show AtH W s (.lst xs) v' from atH I hh hT px rx qx)
  have hy:=atH I hh hT py ry qy
  cases y with
  | lst ys =>
   obtain ⟨b,its',us,rfl,il',rv',rr'⟩:=hy
   by_cases hab:a=b
   ·subst hab;have e:v=u:=qx.inj qy;subst e;have e:=jcq I hh hT px py rx ry;cases e;rw [Js px];exact SeqAt.EqAt.same _
   ·refine SeqAt.EqAt.of_refs hab ?_;have l1:=rv.length;have l2:=rv'.length;have l3:=rr.length;have l4:=rr'.length
    by_cases hl:xs.length=ys.length
    ·have:=SeqAt.RcAt.lists (A:=A) (e:=fun j=>eqB (xs.getD j .non) (ys.getD j .non)) il il' (by simp; omega) (by omega) fun j h1 h2=>JX (I0:=True) (fun x y v u v' u' hd=>ih x y A.in1 (by omega) (show A.units + 1 + dep x < cLine by omega)) px py rr rr' rv rv' (j:=j) (by simpa using h1) (by simpa using h2)
     rw [List.size_toArray,show its.length=xs.length by omega,xV hl] at this;exact this
    ·have:=SeqAt.RcAt.lists_lengths (A:=A) il il' (by simp; omega) (by omega)
     rw [show eqB (.lst xs) (.lst ys)=false from uq hl];exact this
  | tup ys =>
   obtain ⟨b,its',us,rfl,il',rv',rr'⟩:=hy;exact SeqAt.EqAt.list_tuple il il' (by omega)
  | non=>cases hy; exact SeqAt.EqAt.list_none il (by omega)
  | bl b=>cases hy; exact SeqAt.EqAt.list_bool b il (by omega)
  | int b=>obtain ⟨t,rfl⟩:=hy; exact SeqAt.EqAt.list_int b t il (by omega)
  | str b=>obtain ⟨t,rfl⟩:=hy; exact SeqAt.EqAt.list_str b t il (by omega)
  | _=>cases py
 | tup xs =>
  have hn:xF xs + 1 < n + 1:=hn;have hu:A.units + (xF xs + 1) < cLine:=hu
  obtain ⟨a,its,vs,rfl,il,rv,rr⟩:=(show AtH W s (.tup xs) v' from atH I hh hT px rx qx)
  have hy:=atH I hh hT py ry qy
  cases y with
  | tup ys =>
   obtain ⟨b,its',us,rfl,il',rv',rr'⟩:=hy
   by_cases hab:a=b
   ·subst hab;have e:v=u:=qx.inj qy;subst e;have e:=jcq I hh hT px py rx ry;cases e;rw [Js px];exact SeqAt.EqAt.same _
   ·refine SeqAt.EqAt.of_refs hab ?_;have l1:=rv.length;have l2:=rv'.length;have l3:=rr.length;have l4:=rr'.length
    have:=SeqAt.RcAt.tuples (A:=A) (e:=fun j=>eqB (xs.getD j .non) (ys.getD j .non)) il il' (by omega) fun j h1 h2=>JX (I0:=True) (fun x y v u v' u' hd=>ih x y A.in1 (by omega) (show A.units + 1 + dep x < cLine by omega)) px py rr rr' rv rv' (j:=j) (by simpa using h1) (by simpa using h2)
    by_cases hl:xs.length=ys.length
    ·rw [List.size_toArray,List.size_toArray,show its.length=xs.length by omega,show its'.length=xs.length by omega,Nat.min_self,xV hl,beq_self_eq_true,Bool.and_true] at this;exact this
    ·rw [List.size_toArray,List.size_toArray,show its.length=xs.length by omega,show its'.length=ys.length by omega,show (xs.length == ys.length)=false by simpa using hl,Bool.and_false] at this;rw [show eqB (.tup xs) (.tup ys)=false from uq hl];exact this
  | lst ys =>
   obtain ⟨b,its',us,rfl,il',rv',rr'⟩:=hy;exact SeqAt.EqAt.tuple_list il il' (by omega)
  | non=>cases hy; exact SeqAt.EqAt.tuple_none il (by omega)
  | bl b=>cases hy; exact SeqAt.EqAt.tuple_bool b il (by omega)
  | int b=>obtain ⟨t,rfl⟩:=hy; exact SeqAt.EqAt.tuple_int b t il (by omega)
  | str b=>obtain ⟨t,rfl⟩:=hy; exact SeqAt.EqAt.tuple_str b t il (by omega)
  | _=>cases py
 | non =>
  cases rx;cases qx;have hu:A.units < cLine:=hu;have hy:=atH I hh hT py ry qy
  cases y with
  | non=>cases hy; exact SeqAt.EqAt.same _
  | bl b=>cases hy; exact SeqAt.EqAt.none_bool b
  | int b=>obtain ⟨t,rfl⟩:=hy; exact SeqAt.EqAt.none_int b t
  | str b=>obtain ⟨t,rfl⟩:=hy; exact SeqAt.EqAt.none_str b t
  | lst ys=>obtain ⟨b,its',us,rfl,il',_⟩:=hy; exact SeqAt.EqAt.none_list il' hu
  | tup ys=>obtain ⟨b,its',us,rfl,il',_⟩:=hy; exact SeqAt.EqAt.none_tuple il' hu
  | _=>cases py
 | bl a =>
  cases rx;cases qx;have hu:A.units < cLine:=hu;have hy:=atH I hh hT py ry qy
  cases y with
  | non=>cases hy; exact SeqAt.EqAt.bool_none a
  | bl b=>cases hy; exact SeqAt.EqAt.bool_bool a b
  | int b=>obtain ⟨t,rfl⟩:=hy; exact SeqAt.EqAt.bool_int a b t
  | str b=>obtain ⟨t,rfl⟩:=hy; exact SeqAt.EqAt.bool_str a b t
  | lst ys=>obtain ⟨b,its',us,rfl,il',_⟩:=hy; exact SeqAt.EqAt.bool_list a il' hu
  | tup ys=>obtain ⟨b,its',us,rfl,il',_⟩:=hy; exact SeqAt.EqAt.bool_tuple a il' hu
  | _=>cases py
 | int a =>
  cases rx;obtain ⟨t,rfl⟩:=qx;have hu:A.units < cLine:=hu;have hy:=atH I hh hT py ry qy
  cases y with
  | non=>cases hy; exact SeqAt.EqAt.int_none a t
  | bl b=>cases hy; exact SeqAt.EqAt.int_bool a t b
  | int b=>obtain ⟨t',rfl⟩:=hy; exact SeqAt.EqAt.int_int a t b t'
  | str b=>obtain ⟨t',rfl⟩:=hy; exact SeqAt.EqAt.int_str a t b t'
  | lst ys=>obtain ⟨b,its',us,rfl,il',_⟩:=hy; exact SeqAt.EqAt.int_list a t il' hu
  | tup ys=>obtain ⟨b,its',us,rfl,il',_⟩:=hy; exact SeqAt.EqAt.int_tuple a t il' hu
  | _=>cases py
 | str a =>
  cases rx;obtain ⟨t,rfl⟩:=qx;have hu:A.units < cLine:=hu;have hy:=atH I hh hT py ry qy
  cases y with
  | non=>cases hy; exact SeqAt.EqAt.str_none a t
  | bl b=>cases hy; exact SeqAt.EqAt.str_bool a t b
  | int b=>obtain ⟨t',rfl⟩:=hy; exact SeqAt.EqAt.str_int a t b t'
  | str b=>obtain ⟨t',rfl⟩:=hy; exact SeqAt.EqAt.str_str a t b t'
  | lst ys=>obtain ⟨b,its',us,rfl,il',_⟩:=hy; exact SeqAt.EqAt.str_list a t il' hu
  | tup ys=>obtain ⟨b,its',us,rfl,il',_⟩:=hy; exact SeqAt.EqAt.str_tuple a t il' hu
  | _=>cases py
 | _=>cases px
theorem jeK (I:Inv X pins σ H s) (hh:Held W M H) (hT:W.T.K=X.K) {x y:PV} {v u:V} {v' u':Value} {A:Around} (hu:A.units + dep x < cLine) (px:plain x=true) (py:plain y=true) (rx:Rep W x v) (ry:Rep W y u) (qx:yl v v') (qy:yl u u') :
  SeqAt.RcAt A s v' u' (eqB x y)∧SeqAt.RcNeAt A s v' u' (!eqB x y):=by
 have hx:=atH I hh hT px rx qx;have hy:=atH I hh hT py ry qy
 have hu0:A.units < cLine:=by omega
 cases x with
 | non =>
  cases hx
  cases y with
  | non=>cases hy; exact ⟨SeqAt.RcAt.none_none,SeqAt.RcNeAt.none_none⟩
  | bl b=>cases hy; exact ⟨SeqAt.RcAt.none_bool b,SeqAt.RcNeAt.none_bool b⟩
  | int b=>obtain ⟨t,rfl⟩:=hy; exact ⟨SeqAt.RcAt.none_int b t,SeqAt.RcNeAt.none_int b t⟩
  | str b=>obtain ⟨t,rfl⟩:=hy; exact ⟨SeqAt.RcAt.none_str b t,SeqAt.RcNeAt.none_str b t⟩
  | lst ys=>obtain ⟨b,its',us,rfl,il',_⟩:=hy; exact ⟨SeqAt.RcAt.none_list il' hu0,SeqAt.RcNeAt.none_list il' hu0⟩
  | tup ys=>obtain ⟨b,its',us,rfl,il',_⟩:=hy; exact ⟨SeqAt.RcAt.none_tuple il' hu0,SeqAt.RcNeAt.none_tuple il' hu0⟩
  | _=>cases py
 | bl a =>
  cases hx
  cases y with
  | non=>cases hy; exact ⟨SeqAt.RcAt.bool_none a,SeqAt.RcNeAt.bool_none a⟩
  | bl b=>cases hy; exact ⟨SeqAt.RcAt.bool_bool a b,SeqAt.RcNeAt.bool_bool a b⟩
  | int b=>obtain ⟨t,rfl⟩:=hy; exact ⟨SeqAt.RcAt.bool_int a b t,SeqAt.RcNeAt.bool_int a b t⟩
  | str b=>obtain ⟨t,rfl⟩:=hy; exact ⟨SeqAt.RcAt.bool_str a b t,SeqAt.RcNeAt.bool_str a b t⟩
  | lst ys=>obtain ⟨b,its',us,rfl,il',_⟩:=hy; exact ⟨SeqAt.RcAt.bool_list a il' hu0,SeqAt.RcNeAt.bool_list a il' hu0⟩
  | tup ys=>obtain ⟨b,its',us,rfl,il',_⟩:=hy; exact ⟨SeqAt.RcAt.bool_tuple a il' hu0,SeqAt.RcNeAt.bool_tuple a il' hu0⟩
  | _=>cases py
 | int a =>
  obtain ⟨t,rfl⟩:=hx
  cases y with
  | non=>cases hy; exact ⟨SeqAt.RcAt.int_none a t,SeqAt.RcNeAt.int_none a t⟩
  | bl b=>cases hy; exact ⟨SeqAt.RcAt.int_bool a t b,SeqAt.RcNeAt.int_bool a t b⟩
  | int b=>obtain ⟨t',rfl⟩:=hy; exact ⟨SeqAt.RcAt.int_int a t b t',SeqAt.RcNeAt.int_int a t b t'⟩
  | str b=>obtain ⟨t',rfl⟩:=hy; exact ⟨SeqAt.RcAt.int_str a t b t',SeqAt.RcNeAt.int_str a t b t'⟩
  | lst ys=>obtain ⟨b,its',us,rfl,il',_⟩:=hy; exact ⟨SeqAt.RcAt.int_list a t il' hu0,SeqAt.RcNeAt.int_list a t il' hu0⟩
  | tup ys=>obtain ⟨b,its',us,rfl,il',_⟩:=hy; exact ⟨SeqAt.RcAt.int_tuple a t il' hu0,SeqAt.RcNeAt.int_tuple a t il' hu0⟩
  | _=>cases py
 | str a =>
  obtain ⟨t,rfl⟩:=hx
  cases y with
  | non=>cases hy; exact ⟨SeqAt.RcAt.str_none a t,SeqAt.RcNeAt.str_none a t⟩
  | bl b=>cases hy; exact ⟨SeqAt.RcAt.str_bool a t b,SeqAt.RcNeAt.str_bool a t b⟩
  | int b=>obtain ⟨t',rfl⟩:=hy; exact ⟨SeqAt.RcAt.str_int a t b t',SeqAt.RcNeAt.str_int a t b t'⟩
  | str b=>obtain ⟨t',rfl⟩:=hy; exact ⟨SeqAt.RcAt.str_str a t b t',SeqAt.RcNeAt.str_str a t b t'⟩
  | lst ys=>obtain ⟨b,its',us,rfl,il',_⟩:=hy; exact ⟨SeqAt.RcAt.str_list a t il' hu0,SeqAt.RcNeAt.str_list a t il' hu0⟩
  | tup ys=>obtain ⟨b,its',us,rfl,il',_⟩:=hy; exact ⟨SeqAt.RcAt.str_tuple a t il' hu0,SeqAt.RcNeAt.str_tuple a t il' hu0⟩
  | _=>cases py
 | lst xs =>
  obtain ⟨a,its,vs,rfl,il,rv,rr⟩:=hx;have hu:A.units + (xF xs + 1) < cLine:=hu
  cases y with
  | lst ys =>
   obtain ⟨b,its',us,rfl,il',rv',rr'⟩:=hy;have l1:=rv.length;have l2:=rv'.length;have l3:=rr.length;have l4:=rr'.length
   by_cases hl:xs.length=ys.length
   ·have t1:=SeqAt.RcAt.lists (A:=A) (e:=fun j=>eqB (xs.getD j .non) (ys.getD j .non)) il il' (by simp; omega) (by omega) fun j h1 h2=>JX (I0:=True) (fun x y v u v' u' hd=>Xm I hh hT (dep x + 1) x y A.in1 (by omega) (show A.units + 1 + dep x < cLine by omega)) px py rr rr' rv rv' (j:=j) (by simpa using h1) (by simpa using h2);have t2:=SeqAt.RcNeAt.lists (A:=A) (e:=fun j=>eqB (xs.getD j .non) (ys.getD j .non)) il il' (by simp; omega) (by omega) fun j h1 h2=>JX (I0:=True) (fun x y v u v' u' hd=>Xm I hh hT (dep x + 1) x y A.in1 (by omega) (show A.units + 1 + dep x < cLine by omega)) px py rr rr' rv rv' (j:=j) (by simpa using h1) (by simpa using h2);rw [List.size_toArray,show its.length=xs.length by omega,xV hl] at t1 t2;exact ⟨t1,t2⟩
   ·rw [show eqB (.lst xs) (.lst ys)=false from uq hl];exact ⟨SeqAt.RcAt.lists_lengths (A:=A) il il' (by simp; omega) (by omega),SeqAt.RcNeAt.lists_lengths (A:=A) il il' (by simp; omega) (by omega)⟩
  | tup ys=>obtain ⟨b,its',us,rfl,il',rv',rr'⟩:=hy; exact ⟨SeqAt.RcAt.list_tuple il il' (by omega),SeqAt.RcNeAt.list_tuple il il' (by omega)⟩
  | non=>cases hy; exact ⟨SeqAt.RcAt.list_none il (by omega),SeqAt.RcNeAt.list_none il (by omega)⟩
  | bl b=>cases hy; exact ⟨SeqAt.RcAt.list_bool b il (by omega),SeqAt.RcNeAt.list_bool b il (by omega)⟩
  | int b=>obtain ⟨t,rfl⟩:=hy; exact ⟨SeqAt.RcAt.list_int b t il (by omega),SeqAt.RcNeAt.list_int b t il (by omega)⟩
  | str b=>obtain ⟨t,rfl⟩:=hy; exact ⟨SeqAt.RcAt.list_str b t il (by omega),SeqAt.RcNeAt.list_str b t il (by omega)⟩
  | _=>cases py
 | tup xs =>
  obtain ⟨a,its,vs,rfl,il,rv,rr⟩:=hx;have hu:A.units + (xF xs + 1) < cLine:=hu
  cases y with
  | tup ys =>
   obtain ⟨b,its',us,rfl,il',rv',rr'⟩:=hy;have l1:=rv.length;have l2:=rv'.length;have l3:=rr.length;have l4:=rr'.length;have t1:=SeqAt.RcAt.tuples (A:=A) (e:=fun j=>eqB (xs.getD j .non) (ys.getD j .non)) il il' (by omega) fun j h1 h2=>JX (I0:=True) (fun x y v u v' u' hd=>Xm I hh hT (dep x + 1) x y A.in1 (by omega) (show A.units + 1 + dep x < cLine by omega)) px py rr rr' rv rv' (j:=j) (by simpa using h1) (by simpa using h2);have t2:=SeqAt.RcNeAt.tuples (A:=A) (e:=fun j=>eqB (xs.getD j .non) (ys.getD j .non)) il il' (by omega) fun j h1 h2=>JX (I0:=True) (fun x y v u v' u' hd=>Xm I hh hT (dep x + 1) x y A.in1 (by omega) (show A.units + 1 + dep x < cLine by omega)) px py rr rr' rv rv' (j:=j) (by simpa using h1) (by simpa using h2)
   by_cases hl:xs.length=ys.length
   ·rw [List.size_toArray,List.size_toArray,show its.length=xs.length by omega,show its'.length=xs.length by omega,Nat.min_self,xV hl,beq_self_eq_true,Bool.and_true] at t1 t2;exact ⟨t1,t2⟩
   ·rw [List.size_toArray,List.size_toArray,show its.length=xs.length by omega,show its'.length=ys.length by omega,show (xs.length == ys.length)=false by simpa using hl,Bool.and_false] at t1 t2;rw [show eqB (.tup xs) (.tup ys)=false from uq hl];exact ⟨t1,t2⟩
  | lst ys=>obtain ⟨b,its',us,rfl,il',rv',rr'⟩:=hy; exact ⟨SeqAt.RcAt.tuple_list il il' (by omega),SeqAt.RcNeAt.tuple_list il il' (by omega)⟩
  | non=>cases hy; exact ⟨SeqAt.RcAt.tuple_none il (by omega),SeqAt.RcNeAt.tuple_none il (by omega)⟩
  | bl b=>cases hy; exact ⟨SeqAt.RcAt.tuple_bool b il (by omega),SeqAt.RcNeAt.tuple_bool b il (by omega)⟩
  | int b=>obtain ⟨t,rfl⟩:=hy; exact ⟨SeqAt.RcAt.tuple_int b t il (by omega),SeqAt.RcNeAt.tuple_int b t il (by omega)⟩
  | str b=>obtain ⟨t,rfl⟩:=hy; exact ⟨SeqAt.RcAt.tuple_str b t il (by omega),SeqAt.RcNeAt.tuple_str b t il (by omega)⟩
  | _=>cases py
 | _=>cases px
end
end L3

namespace L3
open PySem L2
section
variable {X:Cx} {T:Tb} {f:Value->Value->Sem Value}
def gI (C:Int->Int->Bool) (z:Int->Int->PV):G2:=fun _ x y=>match x,y with
 | .int i,.int j=>if C i j=true then some (z i j) else none
 | _,_=>none
theorem jcV {C:Int->Int->Bool} {z:Int->Int->PV} {M:Sto} {x y w:PV} (e:gI C z M x y=some w):∃ i j,x = .int i∧y = .int j∧C i j=true∧w=z i j:=by
 unfold gI at e;split at e
 ·split at e
  ·rename_i h;cases e;exact ⟨_,_,rfl,rfl,h,rfl⟩
  ·cases e
 ·cases e
theorem jcN {C:Int->Int->Bool} {z:Int->Int->PV} {D:Int->Int->Prop} {zv:Int->Int->V} (h:OpR X f (rI D zv)) (hD:∀ i j,C i j=true->D i j) (hz:∀ W i j,Rep W (z i j) (zv i j)):OpP X T f (gI C z) :=
 xp h fun v u H Q hQQ=>by
  obtain ⟨W,M,x,y,w,k,hh,rx,ry,e,q⟩:=hQQ;obtain ⟨i,j,rfl,rfl,hc,rfl⟩:=jcV e;exact ⟨i,j,rx,ry,hD i j hc,q W H _ (.refl W) hh (hz W i j)⟩
theorem uT {z:Int->Int->PV} {zv:Int->Int->V} (h:OpR X f (rI0 zv)) (hz:∀ W i j,Rep W (z i j) (zv i j)):OpP X T f (gI (fun _ _=>true) z) :=
 xp h fun v u H Q hQQ=>by
  obtain ⟨W,M,x,y,w,k,hh,rx,ry,e,q⟩:=hQQ;obtain ⟨i,j,rfl,rfl,hc,rfl⟩:=jcV e;exact ⟨i,j,rx,ry,q W H _ (.refl W) hh (hz W i j)⟩
abbrev jdr:Int->Int->Bool:=fun _ _=>true
def Yg:G2:=gI jdr fun i j=>.int (i + j)
def jaW:G2:=gI jdr fun i j=>.int (i - j)
def jiH (i j:Int):Bool:=(decide (-(2 ^ 64) < i) && decide (i < 2 ^ 64)) || (decide (-(2 ^ 64) < j) && decide (j < 2 ^ 64))
def VV:G2:=gI jiH fun i j=>.int (i * j)
def jgh:G2:=gI (fun _ j=>decide (0 < j) && decide (j < 1073741824)) fun i j=>.int (i / j)
def XJ:G2:=gI (fun _ j=>decide (0 < j)) fun i j=>.int (i % j)
def gPow:G2:=gI (fun i j=>decide (0<=j) && decide (j<=1000000) && decide (i.natAbs < 2 ^ 64)) fun i j=>.int (i ^ j.toNat)
def gLt:G2:=gI jdr fun i j=>.bl (decide (i < j))
def gLe:G2:=gI jdr fun i j=>.bl (decide (i<=j))
def gGt:G2:=gI jdr fun i j=>.bl (decide (j < i))
def gGe:G2:=gI jdr fun i j=>.bl (decide (j<=i))
theorem o_addI:OpP X T (binaryOp .Add) Yg:=uT op_add fun _ _ _=>rfl
theorem jfx:OpP X T (binaryOp .Sub) jaW:=uT op_sub fun _ _ _=>rfl
theorem o_mulI:OpP X T (binaryOp .Mult) VV:=jcN op_mul (fun i j h=>by
 unfold jiH at h;simp only [Bool.or_eq_true,Bool.and_eq_true,decide_eq_true_eq] at h
 exact h) fun _ _ _=>rfl
theorem jfA:OpP X T (binaryOp .FloorDiv) jgh:=jcN jhU (fun i j h=>by
 simp only [Bool.and_eq_true,decide_eq_true_eq] at h
 exact h) fun _ _ _=>rfl
theorem YW:OpP X T (binaryOp .Mod) XJ:=jcN op_mod (fun i j h=>of_decide_eq_true h) fun _ _ _=>rfl
theorem o_pow:OpP X T (binaryOp .Pow) gPow:=jcN op_pow (fun i j h=>by
 simp only [Bool.and_eq_true,decide_eq_true_eq] at h
 exact ⟨h.1.1,h.1.2,h.2⟩) fun _ _ _=>rfl
theorem jhY:OpP X T (compareOp .Lt) gLt:=uT op_lt fun _ _ _=>rfl
theorem o_le:OpP X T (compareOp .LtE) gLe:=uT op_le fun _ _ _=>rfl
theorem jfz:OpP X T (compareOp .Gt) gGt:=uT op_gt fun _ _ _=>rfl
theorem jhZ:OpP X T (compareOp .GtE) gGe:=uT op_ge fun _ _ _=>rfl
theorem jbU:OpP X T (inplaceOp .Add) Yg:=uT jim fun _ _ _=>rfl
def gCat:G2:=fun M x y=>match yZ M x,yZ M y with
 | some xs,some ys=>if xs.length + ys.length<=sizeLine then some (.lst (xs ++ ys)) else none
 | _,_=>none
theorem o_cat:OpP X T (binaryOp .Add) gCat:=xp op_cat fun v u H Q hQQ=>by
 obtain ⟨W,M,x,y,w,k,hh,rx,ry,e,q⟩:=hQQ;unfold gCat at e;split at e
 ·rename_i xs ys e1 e2;split at e
  ·rename_i hz;cases e;obtain ⟨a,vs,rfl,ha,rv⟩:=xv hh rx e1;obtain ⟨b,us,rfl,hb,ru⟩:=xv hh ry e2;refine ⟨a,b,vs,us,rfl,rfl,ha,hb,by rw [rv.length,ru.length]; exact hz,fun p hp=>?_⟩;obtain ⟨W2,l2,h2,r2⟩:=uF hh (rv.append ru) hp;exact q W2 _ _ l2 h2 r2
  ·cases e
 ·cases e
def jgi:G2:=fun _ x y=>match x,y with
 | .tup xs,.tup ys=>if xs≠[]∧xs.length + ys.length<=sizeLine then some (.tup (xs ++ ys)) else none
 | _,_=>none
theorem yf.nil_iff {W:Wd} {xs:List PV} {vs:List V} (r:yf W xs vs):vs=[]↔xs=[]:=by
 have:=r.length
 constructor
 ·rintro rfl;exact List.eq_nil_of_length_eq_zero (by simpa using this.symm)
 ·rintro rfl;exact List.eq_nil_of_length_eq_zero (by simpa using this)
theorem o_catT (hT:T.K=X.K):OpP X T (binaryOp .Add) jgi:=xp jhV fun v u H Q hQQ=>by
 obtain ⟨W,M,x,y,w,k,hh,rx,ry,e,q⟩:=hQQ;unfold jgi at e;split at e
 ·rename_i xs ys;split at e
  ·rename_i hz;cases e;obtain ⟨a,vs,rfl,ha,rv⟩:=vk hh rx;obtain ⟨b,us,rfl,hb,ru⟩:=vk hh ry;rw [k,hT] at ha hb;refine ⟨a,b,vs,us,rfl,rfl,ha,hb,fun z=>hz.1 (rv.nil_iff.mp z),by rw [rv.length,ru.length]; exact hz.2,fun z=>?_,fun z p hp=>?_⟩
   ·have z:=ru.nil_iff.mp z;subst z;rw [List.append_nil] at q;exact q W H _ (.refl W) hh rx
   ·obtain ⟨W2,l2,h2,r2⟩:=Ys hh (rv.append ru) hp;exact q W2 _ _ l2 h2 r2
  ·cases e
 ·cases e
def vd:G2:=orG Yg (orG gCat jgi)
theorem vD (hT:T.K=X.K):OpP X T (binaryOp .Add) vd:=UQ o_addI (UQ o_cat (o_catT hT))
def jce:G2:=fun M x y=>match y with
 | .int k=>(match yZ M x with
  | some xs=>if -(2 ^ 63)<=k∧k < 2 ^ 63∧xs.length * k.toNat<=sizeLine then some (.lst (List.replicate k.toNat xs).flatten) else none
  | none=>none)
 | _=>none
theorem o_rep:OpP X T (binaryOp .Mult) jce:=xp op_rep fun v u H Q hQQ=>by
 obtain ⟨W,M,x,y,w,k,hh,rx,ry,e,q⟩:=hQQ;unfold jce at e;split at e
 ·rename_i i;split at e
  ·rename_i xs e1;split at e
   ·rename_i hz;cases e;obtain ⟨a,vs,rfl,ha,rv⟩:=xv hh rx e1;refine ⟨a,i,vs,rfl,ry,ha,hz.1,hz.2.1,by rw [rv.length]; exact hz.2.2,fun p hp=>?_⟩;obtain ⟨W2,l2,h2,r2⟩:=uF hh (rv.rep i.toNat) hp;exact q W2 _ _ l2 h2 r2
   ·cases e
  ·cases e
 ·cases e
def vG:G2:=orG VV jce
theorem uM:OpP X T (binaryOp .Mult) vG:=UQ o_mulI o_rep
def jfV:PV->Bool
 | .non=>true
 | _=>false
theorem VS {W:Wd} {x:PV} {v:V} (r:Rep W x v):decide (v = .non)=jfV x:=by
 cases x with
 | non=>cases r; rfl
 | bl _=>cases r; rfl
 | int _=>cases r; rfl
 | str _=>cases r; rfl
 | ty _=>cases r; rfl
 | top _=>cases r; rfl
 | exn _=>obtain ⟨_,rfl,_⟩:=r; rfl
 | dct _=>obtain ⟨_,_,rfl,_⟩:=r; rfl
 | scr _=>obtain ⟨_,rfl,_⟩:=r; rfl
 | ref _=>obtain ⟨_,rfl,_⟩:=r; rfl
 | tup _=>obtain ⟨_,_,rfl,_⟩:=r; rfl
 | lst _=>obtain ⟨_,_,rfl,_⟩:=r; rfl
def gIsN:G2:=fun _ x y=>match y with
 | .non=>some (.bl (jfV x))
 | _=>none
def jaX:G2:=fun _ x y=>match y with
 | .non=>some (.bl (!jfV x))
 | _=>none
theorem o_isN:OpP X T (compareOp .Is) gIsN:=xp op_isN fun v u H Q hQQ=>by
 obtain ⟨W,M,x,y,w,k,hh,rx,ry,e,q⟩:=hQQ;unfold gIsN at e;split at e
 ·cases e;exact ⟨ry,q W H _ (.refl W) hh (by rw [VS rx]; rfl)⟩
 ·cases e
theorem jfy:OpP X T (compareOp .IsNot) jaX:=xp jhT fun v u H Q hQQ=>by
 obtain ⟨W,M,x,y,w,k,hh,rx,ry,e,q⟩:=hQQ;unfold jaX at e;split at e
 ·cases e;exact ⟨ry,q W H _ (.refl W) hh (by rw [VS rx]; rfl)⟩
 ·cases e
def gIsB:G2:=fun _ x y=>match x,y with
 | .bl a,.bl b=>some (.bl (a == b))
 | _,_=>none
theorem o_isB:OpP X T (compareOp .Is) gIsB:=xp op_isB fun v u H Q hQQ=>by
 obtain ⟨W,M,x,y,w,k,hh,rx,ry,e,q⟩:=hQQ;unfold gIsB at e;split at e
 ·cases e;exact ⟨_,_,rx,ry,q W H _ (.refl W) hh rfl⟩
 ·cases e
def gIs:G2:=orG gIsN gIsB
theorem o_is:OpP X T (compareOp .Is) gIs:=UQ o_isN o_isB
def look (M:Sto):PV->PV
 | .ref i=>(match M.g i with
  | some (.lst xs)=>.lst xs
  | _=>.ref i)
 | x=>x
theorem jdO {M:Sto} {i:Nat} (h:∀ xs,M.g i≠some (.lst xs)):look M (.ref i) = .ref i:=by
 show (match M.g i with
  | some (.lst xs)=>PV.lst xs
  | _=>.ref i)=_
 split
 ·rename_i xs e;exact absurd e (h xs)
 ·rfl
theorem jfN {M:Sto} {i:Nat} {xs:List PV} (h:M.g i=some (.lst xs)):look M (.ref i) = .lst xs:=by
 show (match M.g i with
  | some (.lst xs)=>PV.lst xs
  | _=>.ref i)=_
 rw [h]
def Wd.all (W:Wd) (H:Hp):Wd:=⟨W.T,H,W.α,fun _=>none⟩
theorem Held.le_all {W:Wd} {M:Sto} {H:Hp} (hh:Held W M H):W.le0 (W.all H):=⟨rfl,hh.f,fun _ _ e=>e⟩
theorem Held.all {W:Wd} {M:Sto} {H:Hp} (hh:Held W M H):Held (W.all H) ⟨M.n,fun _=>none⟩ H:=⟨fun _ _ e=>e,fun _ _ e=>(by cases e),fun _ _ _ _ _ e=>(by cases e),hh.top,fun _ _ e=>(by cases e),fun _ _ e=>(by cases e)⟩
theorem ui {W:Wd} {M:Sto} {H:Hp} {x:PV} {v:V} (hh:Held W M H) (r:Rep W x v):Rep (W.all H) (look M x) v:=by
 cases x with
 | ref i =>
  by_cases h:∃ xs,M.g i=some (.lst xs)
  ·obtain ⟨xs,e⟩:=h;rw [jfN e];obtain ⟨a,rfl,ea⟩:=r;obtain ⟨b,o,h1,h2,h3,vs,rfl,rr⟩:=hh.m i _ e;rw [ea] at h1;cases h1;exact ⟨a,vs,rfl,h3,rr.up0 hh.le_all⟩
  ·rw [jdO fun xs e=>h ⟨xs,e⟩];exact r.up0 hh.le_all
 | _=>exact r.up0 hh.le_all
def eqG (neg:Bool):G2:=fun M x y=>if plain (look M x)=true∧plain (look M y)=true∧dep (look M x)<=60 then some (.bl (if neg then !eqB (look M x) (look M y) else eqB (look M x) (look M y))) else none
theorem jdK (hT:T.K=X.K) (hu:X.A.units + 64 < cLine):OpP X T (compareOp .Eq) (eqG false):=by
 intro pins s σ H v u v' u' Q I rv ru h;obtain ⟨W,M,x,y,w,k,hh,rx,ry,e,q⟩:=h;unfold eqG at e;split at e
 ·rename_i hp;cases e;have t:=(jeK I hh.all (show W.T.K=X.K by rw [k]; exact hT) (A:=X.A) (by omega) hp.1 hp.2.1 (ui hh rx) (ui hh ry) rv ru).1;exact t X.prog X.w X.xe _ ⟨.bl _,H,I,rfl,q W H _ (.refl W) hh rfl⟩
 ·cases e
theorem XH (hT:T.K=X.K) (hu:X.A.units + 64 < cLine):OpP X T (compareOp .NotEq) (eqG true):=by
 intro pins s σ H v u v' u' Q I rv ru h;obtain ⟨W,M,x,y,w,k,hh,rx,ry,e,q⟩:=h;unfold eqG at e;split at e
 ·rename_i hp;cases e;have t:=(jeK I hh.all (show W.T.K=X.K by rw [k]; exact hT) (A:=X.A) (by omega) hp.1 hp.2.1 (ui hh rx) (ui hh ry) rv ru).2;exact t X.prog X.w X.xe _ ⟨.bl _,H,I,rfl,q W H _ (.refl W) hh rfl⟩
 ·cases e
theorem jiN {W:Wd} {xs:List PV} {vs:List V} {i:Int} {x:PV} (r:yf W xs vs) (e:atI xs i=some x):∃ v,atI vs i=some v∧Rep W x v:=by
 unfold atI at e ⊢;rw [r.length]
 cases h:ixN xs.length i with
 | none=>rw [h] at e; cases e
 | some j =>
  rw [h] at e;exact r.get e
def gIx:G2:=fun M x y=>match y with
 | .int i=>(uZ M x).bind fun xs=>atI xs i
 | _=>none
abbrev IxP (X:Cx) (T:Tb) (g:G2):Prop:=IxR X (rP T g)
theorem JH (hT:T.K=X.K):IxP X T gIx:=by
 intro value slice pins s σ H v u v' u' Q I rv ru h hs;refine (jil.or ix_tup) value slice pins s σ H v u v' u' Q I rv ru ?_ hs;obtain ⟨W,M,x,y,w,k,hh,rx,ry,e,q⟩:=h;unfold gIx at e;split at e
 ·rename_i i
  cases e1:uZ M x with
  | none=>rw [e1] at e; cases e
  | some xs =>
   rw [e1] at e;obtain ⟨a,vs,rfl,hq,rr⟩:=jas hh rx e1;obtain ⟨z,e2,rz⟩:=jiN rr e;rw [k,hT] at hq
   rcases hq with hq | hq
   ·exact .inl ⟨a,vs,i,z,rfl,ry,hq,e2,q W H z (.refl W) hh rz⟩
   ·exact .inr ⟨a,vs,i,z,rfl,ry,hq,e2,q W H z (.refl W) hh rz⟩
 ·cases e
variable {ES:St->XK} {a b:Expr} {pos:Pos} {da db:DE}
theorem vB {g:G2} (hr:IxP X T g) (ha:QE X T ES a da) (hb:QE X T ES b db) (hs:jdl b):QE X T ES (.Subscript a b pos) (dOp g da db):=⟨jQ (pe_ix hr ha.h hb.h hs) fun _ _ _=>Yr⟩
structure QO (X:Cx) (T:Tb) (ES:St->XK) (e:Option Expr) (d:En->Sto->Res (Option Int)):Prop where
 h:PO X e (lft T (fun _ a b=>b=a) ES d)
def dON:En->Sto->Res (Option Int):=fun _ M=>.ok none M
def dOS (d:DE):En->Sto->Res (Option Int):=fun ρ M=>(d ρ M).bind fun x M1=>match x with
 | .int i=>.ok (some i) M1
 | _=>.bad
theorem jfg {e:Option Expr} {t t':TO} (h:PO X e t) (f:∀ σ H Q,t' σ H Q->t σ H Q):PO X e t':=fun pins s σ H Q I q=>h pins s σ H Q I (f σ H Q q)
theorem jhw:QO X T ES none dON:=⟨jfg jhJ fun σ H Q hQQ=>jF hQQ fun W ρ M k hh hs p=>p W H none (.refl W) hh rfl⟩
theorem jhv (h:QE X T ES a da):QO X T ES (some a) (dOS da):=⟨jfg (jhI h.h) fun σ H Q hQQ=>jF hQQ fun W ρ M k hh hs p=>⟨W,ρ,M,k,hh,hs,ym.bind p fun W1 M1 x v H1 l1 h1 r1 p1=>by
 split at p1
 ·rename_i i;exact ⟨i,r1,p1 W1 H1 _ (.refl W1) h1 rfl⟩
 ·exact p1.elim⟩⟩
def jaj (xs:List PV) (lo hi:Option Int):List PV:=(xs.drop (HT.sIx xs.length 0 lo)).take (HT.sIx xs.length xs.length hi - HT.sIx xs.length 0 lo)
theorem jdc {W:Wd} {xs:List PV} {vs:List V} (r:yf W xs vs) (lo hi:Option Int):yf W (jaj xs lo hi) (jbl vs lo hi):=by
 unfold jaj jbl;rw [r.length];exact (r.drop _).take _
def gSl (M:Sto) (x:PV) (lo hi:Option Int):Option PV:=match x with
 | .tup xs=>if ¬ (HT.sIx xs.length 0 lo=0∧HT.sIx xs.length xs.length hi=xs.length) then some (.tup (jaj xs lo hi)) else some (.tup xs)
 | x=>(yZ M x).map fun xs=>.lst (jaj xs lo hi)
def dSl (d:DE) (dl dh:En->Sto->Res (Option Int)):DE:=fun ρ M=>(d ρ M).bind fun x M1=>(dl ρ M1).bind fun lo M2=>(dh ρ M2).bind fun hi M3=>ofO (gSl M3 x lo hi) M3
theorem jeP (hT:T.K=X.K) {lo hi:Option Expr} {p2:Pos} {dl dh:En->Sto->Res (Option Int)} (he:QE X T ES a da) (hl:QO X T ES lo dl) (hu:QO X T ES hi dh):QE X T ES (.Subscript a (.Slice lo hi none p2) pos) (dSl da dl dh) :=
 ⟨jQ (jfn (SlR.or (SlR.or jhl sl_tup) jhk) he.h hl.h hu.h) fun σ H Q hQQ=>jF hQQ fun W ρ M k hh hs p=>⟨W,ρ,M,k,hh,hs,ym.bind p fun W1 M1 x v H1 l1 h1 r1 p1 =>
  ⟨W1,ρ,M1,l1.k.trans k,h1,hs.up l1,ym.bind p1 fun W2 M2 lo' l' H2 l2 h2 r2 p2=>⟨W2,ρ,M2,l2.k.trans (l1.k.trans k),h2,hs.up (l1.trans l2),ym.bind p2 fun W3 M3 hi' u' H3 l3 h3 r3 p3=>by
   subst r2;subst r3;have r1:=(r1.up l2).up l3;have k3:W3.T=T:=l3.k.trans (l2.k.trans (l1.k.trans k))
   have lists:∀ e:Option (List PV),yZ M3 x=e->ym W3 Rep (ofO (e.map fun xs=>PV.lst (jaj xs l' u')) M3) Q (ES σ)->rSlL X.K v l' u' H3 Q:=fun e he q=>by
    cases e with
    | none=>exact q.elim
    | some xs =>
     obtain ⟨a,vs,rfl,ha,rv⟩:=xv h3 r1 he;refine ⟨a,vs,rfl,SqL.of ha,fun p hp=>?_⟩;obtain ⟨W4,l4,h4,r4⟩:=uF h3 (jdc rv l' u') hp;exact q W4 _ _ l4 h4 r4
   cases x with
   | tup xs =>
    have p3:ym W3 Rep (ofO (if ¬ (HT.sIx xs.length 0 l'=0∧HT.sIx xs.length xs.length u'=xs.length) then some (PV.tup (jaj xs l' u')) else some (.tup xs)) M3) Q (ES σ):=p3
    by_cases hz:¬ (HT.sIx xs.length 0 l'=0∧HT.sIx xs.length xs.length u'=xs.length)
    ·rw [if_pos hz] at p3;obtain ⟨a,vs,rfl,ha,rv⟩:=vk h3 r1;rw [k3,hT] at ha;refine .inl (.inr ⟨a,vs,rfl,ha,by rw [rv.length]; exact hz,fun p hp=>?_⟩);obtain ⟨W4,l4,h4,r4⟩:=Ys h3 (jdc rv l' u') hp;exact p3 W4 _ _ l4 h4 r4
    ·rw [if_neg hz] at p3;have r0:=r1;obtain ⟨a,vs,rfl,ha,rv⟩:=vk h3 r1;rw [k3,hT] at ha;exact .inr ⟨a,vs,rfl,ha,by rw [rv.length]; exact Classical.not_not.mp hz,p3 W3 H3 _ (.refl W3) h3 r0⟩
   | lst xs=>exact .inl (.inl (lists _ rfl p3))
   | ref i=>exact .inl (.inl (lists _ rfl p3))
   | _=>exact p3.elim⟩⟩⟩⟩
def gNeg (_:Sto):PV->Option PV
 | .int i=>some (.int (-i))
 | _=>none
def dUn (g:Sto->PV->Option PV) (d:DE):DE:=fun ρ M=>(d ρ M).bind fun x M1=>ofO (g M1 x) M1
end
end L3

namespace L3
open PySem L2
open Classical in
noncomputable def eqW (W:Wd) (y:PV) (ys:List PV) (u:Value):Bool:=decide (∃ z ∈ ys,∃ v,Rep W z v∧yl v u∧eqB z y=true)
section
variable {X:Cx} {T:Tb} {pins:List (Addr × Obj)} {σ:St} {H:Hp} {s:Shared} {W:Wd} {M:Sto}
theorem uR:∀ {xs:List PV} {x:PV},yD xs=true->x ∈ xs->plain x=true:=fun {xs x} h hm=>by
 obtain ⟨j,e⟩:=List.mem_iff_getElem?.mp hm;exact vP h e
open Classical in
theorem jgo (I:Inv X pins σ H s) (hh:Held W M H) (hT:W.T.K=X.K) {y:PV} {ys:List PV} {z:PV} {v:V} {u:Value} (hz:z ∈ ys) (p:yD ys=true) (r:Rep W z v) (q:yl v u):eqW W y ys u=eqB z y:=by
 unfold eqW
 cases e:eqB z y with
 | true=>exact decide_eq_true ⟨z,hz,v,r,q,e⟩
 | false =>
  refine decide_eq_false fun hQQ=>?_;obtain ⟨z',hz',v',r',q',e'⟩:=hQQ;cases q'.inj q
  have:=jcq I hh hT (uR p hz') (uR p hz) r' r
  subst this;rw [e] at e';cases e'
theorem jdk (I:Inv X pins σ H s) (hh:Held W M H) (hT:W.T.K=X.K) {y:PV} {ys:List PV} (p:yD ys=true):∀ {zs:List PV} {vs:List V} {us:List Value},(∀ z ∈ zs,z ∈ ys)->yf W zs vs->yj vs us->us.any (eqW W y ys)=zs.any fun z=>eqB z y
 | [],_,_,_,r,q=>by cases r; cases q; rfl
 | z :: zs,_,_,hm,⟨v,r,e,a,b⟩,q=>by
  subst e
  cases q with
  | cons q1 q2 =>
   rw [List.any_cons,List.any_cons,jgo I hh hT (hm z List.mem_cons_self) p a q1,jdk I hh hT p (fun w hw=>hm w (List.mem_cons_of_mem _ hw)) b q2]
theorem jiY (hT:T.K=X.K) (hu:X.A.units + 100 < cLine) (I:Inv X pins σ H s) (hh:Held W M H) (k:W.T=T) {x y:PV} {v u:V} {v' u':Value} {ys:List PV} (rx:Rep W x v) (ry:Rep W y u) (qx:yl v v') (qy:yl u u') (e:uZ M y=some ys) (px:plain (look M x)=true)
  (py:yD ys=true) (pd:∀ z ∈ ys,dep z<=60) {Q:Value->Shared->Prop} {E:Value->Shared->Prop}:(Q (.bool (ys.any fun z=>eqB z (look M x))) s->wpAny (model X.prog X.w) X.A (compareOp .In v' u') Q E s) ∧
   (Q (.bool (!(ys.any fun z=>eqB z (look M x)))) s->wpAny (model X.prog X.w) X.A (compareOp .NotIn v' u') Q E s):=by
 have kk:(W.all H).T.K=X.K:=by
  show W.T.K=X.K;rw [k];exact hT
 obtain ⟨a,vs,rfl,hq,rr⟩:=jas hh ry e;cases qy;rw [k,hT] at hq;have rr:=rr.up0 hh.le_all;have rx:=ui hh rx
 have tests:∀ {its:List Value},yj vs its->(∀ w,w ∈ its.toArray->SeqAt.EqAt X.A.in1 s w v' (eqW (W.all H) (look M x) ys w))∧its.toArray.any (eqW (W.all H) (look M x) ys)=ys.any fun z=>eqB z (look M x):=fun {its} rv=>by
  refine ⟨fun w hw=>?_,?_⟩
  ·obtain ⟨j,ej⟩:=List.mem_iff_getElem?.mp (show w ∈ its by simpa using hw);obtain ⟨v2,e1,r1⟩:=Jc rv ej;obtain ⟨z,e2,r2⟩:=Jg rr e1;have hz:=List.mem_of_getElem? e2;rw [jgo I hh.all kk hz py r2 r1]
   have:=pd z hz
   exact Xm I hh.all kk (dep z + 1) z (look M x) X.A.in1 (Nat.lt_succ_self _) (show X.A.units + 1 + dep z < cLine by omega) (uR py hz) px r2 rx r1 qx
  ·rw [List.any_toArray];exact jdk I hh.all kk py (fun _ z=>z) rr rv
 rcases hq with hq | hq
 ·obtain ⟨its,rv,pl,hz⟩:=I.list hq;obtain ⟨t1,t2⟩:=tests rv;exact ⟨fun q=>SeqAt.in_listAt _ pl.isList t1 (by rw [t2]; exact q),fun q=>SeqAt.notIn_listAt _ pl.isList t1 (by rw [t2]; exact q)⟩
 ·obtain ⟨its,rv,pl,hz⟩:=I.tuple hq;obtain ⟨t1,t2⟩:=tests rv;exact ⟨fun q=>SeqAt.in_tupleAt _ pl t1 (by rw [t2]; exact q),fun q=>SeqAt.notIn_tupleAt _ pl t1 (by rw [t2]; exact q)⟩
def vT:List PV->Bool
 | []=>true
 | z :: zs=>decide (dep z<=60) && vT zs
theorem uW:∀ {zs:List PV} {z:PV},vT zs=true->z ∈ zs->dep z<=60
 | [],_,_,h=>by cases h
 | w :: ws,z,e,h=>by
  unfold vT at e;have e:=Bool.and_eq_true_iff.mp e
  rcases List.mem_cons.mp h with rfl | h
  ·exact of_decide_eq_true e.1
  ·exact uW e.2 h
def gIn (neg:Bool):G2:=fun M x y=>match uZ M y with
 | some ys=>if plain (look M x)=true∧yD ys=true∧vT ys=true then some (.bl (if neg then !(ys.any fun z=>eqB z (look M x)) else ys.any fun z=>eqB z (look M x))) else none
 | none=>none
theorem o_in (hT:T.K=X.K) (hu:X.A.units + 100 < cLine):OpP X T (compareOp .In) (gIn false):=by
 intro pins s σ H v u v' u' Q I rv ru h;obtain ⟨W,M,x,y,w,k,hh,rx,ry,e,q⟩:=h;unfold gIn at e;split at e
 ·rename_i ys e1;split at e
  ·rename_i hp;cases e;exact (jiY hT hu I hh k rx ry rv ru e1 hp.1 hp.2.1 (fun z hz=>uW hp.2.2 hz)).1 ⟨.bl _,H,I,rfl,q W H _ (.refl W) hh rfl⟩
  ·cases e
 ·cases e
theorem UR (hT:T.K=X.K) (hu:X.A.units + 100 < cLine):OpP X T (compareOp .NotIn) (gIn true):=by
 intro pins s σ H v u v' u' Q I rv ru h;obtain ⟨W,M,x,y,w,k,hh,rx,ry,e,q⟩:=h;unfold gIn at e;split at e
 ·rename_i ys e1;split at e
  ·rename_i hp;cases e;exact (jiY hT hu I hh k rx ry rv ru e1 hp.1 hp.2.1 (fun z hz=>uW hp.2.2 hz)).2 ⟨.bl _,H,I,rfl,q W H _ (.refl W) hh rfl⟩
  ·cases e
 ·cases e
end
abbrev G1:=Sto->List PV->Option (PV × Sto)
def rC (T:Tb) (g:G1):List V->Hp->VK->Prop:=fun vs H Q=>∃ W M xs z M',W.T=T∧Held W M H∧yf W xs vs∧g M xs=some (z,M')∧∀ W' H' v',W.le W'->Held W' M' H'->Rep W' z v'->Q v' H'
def dCB (g:G1) (ds:DA):DE:=fun ρ M=>(ds ρ M).bind fun xs M1=>match g M1 xs with
 | some (z,M2)=>.ok z M2
 | none=>.bad
def orC (g g':G1):G1:=fun M xs=>match g M xs with
 | some z=>some z
 | none=>g' M xs
section
variable {X:Cx} {T:Tb} {ES:St->XK} {e:Expr} {es:List Expr} {p pos:Pos} {ds:DA} {g g':G1} {x:Str} {bid:String}
theorem uI {f:Value} {r r':List V->Hp->VK->Prop} (h:yx X f r) (k:∀ xs H Q,r' xs H Q->r xs H Q):yx X f r':=fun pins s σ H xs us Q I rs q=>h pins s σ H xs us Q I rs (k _ _ _ q)
theorem jbn {f:Value} (h:yx X f (rC T g)) (h':yx X f (rC T g')):yx X f (rC T (orC g g')):=uI (yx.or h h') fun vs H Q hQQ=>by
 obtain ⟨W,M,xs,z,M',k,hh,rx,e,q⟩:=hQQ;unfold orC at e;split at e
 ·rename_i z' e';cases e;exact .inl ⟨W,M,xs,z,M',k,hh,rx,e',q⟩
 ·exact .inr ⟨W,M,xs,z,M',k,hh,rx,e,q⟩
theorem jdh {σ:St} {H:Hp} {Q:VK} (h:lft T Rep ES (dCB g ds) σ H Q):tCB (rC T g) (lft T yf ES ds) σ H Q:=by
 obtain ⟨W,ρ,M,k,hh,hs,p⟩:=h;refine ⟨W,ρ,M,k,hh,hs,ym.bind p fun W1 M1 xs vs H1 l1 h1 r1 p1=>?_⟩;split at p1
 ·rename_i z M2 e;exact ⟨W1,M1,xs,z,M2,l1.k.trans k,h1,r1,e,p1⟩
 ·exact p1.elim
theorem jk (hc:yx X (.builtin bid) (rC T g)) (hg:Gl X x) (hm:X.mg x=none) (hv:bootBuiltins x=some (.builtin bid)) (ha:QA X T ES (e :: es) ds) (hn:x≠"__name__":=by decide) (hdb:(x == ("__debug__":Str))=false:=by decide)
  (he:starEach (e :: es) X.env=(false,eval e X.env) :: starEach es X.env:=by rfl) (hpl:(backTo pos (starEach es X.env)).any (·.1)=false:=by rfl):QE X T ES (.Call (.Name x p) (e :: es) [] pos) (dCB g ds):=⟨jQ (jfv hc hg hm hv ha.h hn hdb he hpl) fun _ _ _=>jdh⟩
theorem JO (hc:yx X (.type bid) (rC T g)) (hg:Gl X x) (hm:X.mg x=none) (hv:bootBuiltins x=some (.type bid)) (ha:QA X T ES (e :: es) ds) (hn:x≠"__name__":=by decide) (hdb:(x == ("__debug__":Str))=false:=by decide)
  (he:starEach (e :: es) X.env=(false,eval e X.env) :: starEach es X.env:=by rfl) (hpl:(backTo pos (starEach es X.env)).any (·.1)=false:=by rfl):QE X T ES (.Call (.Name x p) (e :: es) [] pos) (dCB g ds):=⟨jQ (jdH hc hg hm hv ha.h hn hdb he hpl) fun _ _ _=>jdh⟩
theorem uE {W:Wd} {x:PV} {vs:List V} (r:yf W [x] vs):∃ v,vs=[v]∧Rep W x v:=by
 obtain ⟨v,r,e,a,b⟩:=r;cases b;exact ⟨v,e,a⟩
theorem vM {W:Wd} {x y:PV} {vs:List V} (r:yf W [x,y] vs):∃ v u,vs=[v,u]∧Rep W x v∧Rep W y u:=by
 obtain ⟨v,r,e,a,b⟩:=r;obtain ⟨u,rfl,q⟩:=uE b;exact ⟨v,u,e,a,q⟩
def one (f:Sto->PV->Option PV):G1:=fun M xs=>match xs with
 | [x]=>(match f M x with
  | some z=>some (z,M)
  | none=>none)
 | _=>none
theorem xn {f:Value} {fn:Sto->PV->Option PV} {r:List V->Hp->VK->Prop} (h:yx X f r)
  (k:∀ W M H x v z Q,W.T=T->Held W M H->Rep W x v->fn M x=some z->(∀ W' H' v',W.le W'->Held W' M H'->Rep W' z v'->Q v' H')->r [v] H Q):yx X f (rC T (one fn)) :=
 uI h fun vs H Q hQQ=>by
  obtain ⟨W,M,xs,z,M',kk,hh,rx,e,q⟩:=hQQ;unfold one at e;split at e
  ·rename_i x;split at e
   ·rename_i z' e';cases e;obtain ⟨v,rfl,rv⟩:=uE rx;exact k W M H x v z Q kk hh rv e' q
   ·cases e
  ·cases e
def yK (M:Sto) (x:PV):Option PV:=match uZ M x with
 | some xs=>some (.int xs.length)
 | none=>none
theorem xZ (hT:T.K=X.K):yx X (.builtin "len") (rC T (one yK)):=xn jao fun W M H x v z Q k hh r e q=>by
 unfold yK at e;split at e
 ·rename_i xs e1;cases e;obtain ⟨a,vs,rfl,hq,rr⟩:=jas hh r e1;rw [k,hT] at hq;exact ⟨a,vs,rfl,hq,q W H _ (.refl W) hh (by rw [rr.length]; rfl)⟩
 ·cases e
def ua:List PV->Option (List Int)
 | []=>some []
 | .int i :: xs=>(ua xs).map fun ns=>i :: ns
 | _ :: _=>none
theorem xQ:∀ {xs:List PV} {ns:List Int},ua xs=some ns->xs=ns.map PV.int
 | [],ns,e=>by cases e; rfl
 | .int i :: xs,ns,e=>by
  have e:(ua xs).map (fun ns=>i :: ns)=some ns:=e
  cases h:ua xs with
  | none=>rw [h] at e; cases e
  | some ms =>
   rw [h] at e;cases e;rw [xQ h];rfl
 | .non :: _,_,e=>by cases e
 | .bl _ :: _,_,e=>by cases e
 | .str _ :: _,_,e=>by cases e
 | .ty _ :: _,_,e=>by cases e
 | .tup _ :: _,_,e=>by cases e
 | .lst _ :: _,_,e=>by cases e
 | .scr _ :: _,_,e=>by cases e
 | .top _ :: _,_,e=>by cases e
 | .exn _ :: _,_,e=>by cases e
 | .dct _ :: _,_,e=>by cases e
 | .ref _ :: _,_,e=>by cases e
@[simp] theorem JT : ∀ (ns : List Int), ua (ns.map PV.int) = some ns
 | []=>rfl
 | n :: ns=>by
  show (ua (ns.map PV.int)).map (fun ms=>n :: ms)=_;rw [JT ns];rfl
def uY:List PV->Option (List Bool)
 | []=>some []
 | .bl i :: xs=>(uY xs).map fun ns=>i :: ns
 | _ :: _=>none
theorem Ui:∀ {xs:List PV} {ns:List Bool},uY xs=some ns->xs=ns.map PV.bl
 | [],ns,e=>by cases e; rfl
 | .bl i :: xs,ns,e=>by
  have e:(uY xs).map (fun ns=>i :: ns)=some ns:=e
  cases h:uY xs with
  | none=>rw [h] at e; cases e
  | some ms =>
   rw [h] at e;cases e;rw [Ui h];rfl
 | .non :: _,_,e=>by cases e
 | .int _ :: _,_,e=>by cases e
 | .str _ :: _,_,e=>by cases e
 | .ty _ :: _,_,e=>by cases e
 | .tup _ :: _,_,e=>by cases e
 | .lst _ :: _,_,e=>by cases e
 | .scr _ :: _,_,e=>by cases e
 | .top _ :: _,_,e=>by cases e
 | .exn _ :: _,_,e=>by cases e
 | .dct _ :: _,_,e=>by cases e
 | .ref _ :: _,_,e=>by cases e
@[simp] theorem vY : ∀ (ns : List Bool), uY (ns.map PV.bl) = some ns
 | []=>rfl
 | n :: ns=>by
  show (uY (ns.map PV.bl)).map (fun ms=>n :: ms)=_;rw [vY ns];rfl
def jcb (M:Sto) (x:PV):Option (List Int):=(yZ M x).bind ua
theorem jcU {W:Wd} {M:Sto} {H:Hp} {x:PV} {v:V} {ns:List Int} (hh:Held W M H) (r:Rep W x v) (e:jcb M x=some ns):∃ a,v = .ref a∧H a=some (.lst (ns.map V.int)):=by
 unfold jcb at e
 cases h:yZ M x with
 | none=>rw [h] at e; cases e
 | some xs =>
  rw [h] at e;obtain ⟨a,vs,rfl,ha,rr⟩:=xv hh r h;rw [xQ e] at rr;rw [yf.ints.mp rr] at ha;exact ⟨a,rfl,ha⟩
def jin (n:Int):List Int->List Int
 | []=>[n]
 | m :: ms=>if n<=m then n :: m :: ms else m :: jin n ms
def jeB:List Int->List Int
 | []=>[]
 | n :: ns=>jin n (jeB ns)
theorem VT (n:Int):∀ ms:List Int,(jin n ms).Perm (n :: ms)
 | []=>.refl _
 | m :: ms=>by
  unfold jin;split
  ·exact .refl _
  ·exact ((VT n ms).cons m).trans (List.Perm.swap n m ms)
theorem jbF:∀ ns:List Int,(jeB ns).Perm ns
 | []=>.refl _
 | n :: ns=>(VT n _).trans ((jbF ns).cons n)
def fSorted (M:Sto) (x:PV):Option PV:=match jcb M x with
 | some ns=>if ns.length < 64 then some (.lst ((jeB ns).map PV.int)) else none
 | none=>none
def uJ:List Int->Int
 | []=>0
 | [n]=>n
 | n :: ns=>if n<=uJ ns then n else uJ ns
def Jn:List Int->Int
 | []=>0
 | [n]=>n
 | n :: ns=>if Jn ns<=n then n else Jn ns
theorem YY:∀ {ns:List Int},ns≠[]->uJ ns ∈ ns∧∀ a ∈ ns,uJ ns<=a
 | [],h=>absurd rfl h
 | [n],_=>⟨List.mem_singleton.mpr rfl,fun a ha=>by rw [List.mem_singleton.mp ha]; exact Int.le_refl _⟩
 | n :: m :: ns,_=>by
  obtain ⟨h1,h2⟩:=YY (ns:=m :: ns) (by simp);show (if n<=uJ (m :: ns) then n else uJ (m :: ns)) ∈ _∧∀ a ∈ _,(if n<=uJ (m :: ns) then n else uJ (m :: ns))<=a;split
  ·rename_i h;refine ⟨List.mem_cons_self,fun a ha=>?_⟩
   rcases List.mem_cons.mp ha with rfl | ha
   ·exact Int.le_refl _
   ·exact Int.le_trans h (h2 a ha)
  ·refine ⟨List.mem_cons_of_mem _ h1,fun a ha=>?_⟩
   rcases List.mem_cons.mp ha with rfl | ha
   ·omega
   ·exact h2 a ha
theorem YZ:∀ {ns:List Int},ns≠[]->Jn ns ∈ ns∧∀ a ∈ ns,a<=Jn ns
 | [],h=>absurd rfl h
 | [n],_=>⟨List.mem_singleton.mpr rfl,fun a ha=>by rw [List.mem_singleton.mp ha]; exact Int.le_refl _⟩
 | n :: m :: ns,_=>by
  obtain ⟨h1,h2⟩:=YZ (ns:=m :: ns) (by simp);show (if Jn (m :: ns)<=n then n else Jn (m :: ns)) ∈ _∧∀ a ∈ _,a<=(if Jn (m :: ns)<=n then n else Jn (m :: ns));split
  ·rename_i h;refine ⟨List.mem_cons_self,fun a ha=>?_⟩
   rcases List.mem_cons.mp ha with rfl | ha
   ·exact Int.le_refl _
   ·exact Int.le_trans (h2 a ha) h
  ·refine ⟨List.mem_cons_of_mem _ h1,fun a ha=>?_⟩
   rcases List.mem_cons.mp ha with rfl | ha
   ·omega
   ·exact h2 a ha
def jgl (M:Sto) (x:PV):Option PV:=match jcb M x with
 | some (n :: ns)=>some (.int (uJ (n :: ns)))
 | _=>none
def jgm (M:Sto) (x:PV):Option PV:=match jcb M x with
 | some (n :: ns)=>some (.int (Jn (n :: ns)))
 | _=>none
theorem b_min1 (hc:X.calm=true):yx X (.builtin "min") (rC T (one jgl)):=xn (jej hc) fun W M H x v z Q k hh r e q=>by
 unfold jgl at e;split at e
 ·rename_i n ns e1;cases e;obtain ⟨a,rfl,ha⟩:=jcU hh r e1;refine ⟨a,n :: ns,rfl,SqL.of ha,by simp,fun m h1 h2=>?_⟩;obtain ⟨g1,g2⟩:=YY (ns:=n :: ns) (by simp)
  have:m=uJ (n :: ns):=Int.le_antisymm (h2 _ g1) (g2 _ h1)
  subst this;exact q W H _ (.refl W) hh rfl
 ·cases e
theorem b_max1 (hc:X.calm=true):yx X (.builtin "max") (rC T (one jgm)):=xn (jel hc) fun W M H x v z Q k hh r e q=>by
 unfold jgm at e;split at e
 ·rename_i n ns e1;cases e;obtain ⟨a,rfl,ha⟩:=jcU hh r e1;refine ⟨a,n :: ns,rfl,SqL.of ha,by simp,fun m h1 h2=>?_⟩;obtain ⟨g1,g2⟩:=YZ (ns:=n :: ns) (by simp)
  have:m=Jn (n :: ns):=Int.le_antisymm (g2 _ h1) (h2 _ g1)
  subst this;exact q W H _ (.refl W) hh rfl
 ·cases e
def jep (M:Sto) (x:PV):Option (List Bool):=(yZ M x).bind uY
theorem jiI {W:Wd} {M:Sto} {H:Hp} {x:PV} {v:V} {ns:List Bool} (hh:Held W M H) (r:Rep W x v) (e:jep M x=some ns):∃ a,v = .ref a∧H a=some (.lst (ns.map V.bl)):=by
 unfold jep at e
 cases h:yZ M x with
 | none=>rw [h] at e; cases e
 | some xs =>
  rw [h] at e;obtain ⟨a,vs,rfl,ha,rr⟩:=xv hh r h;rw [Ui e] at rr;rw [yf.bools.mp rr] at ha;exact ⟨a,rfl,ha⟩
def Xk (M:Sto) (x:PV):Option PV:=match jep M x with
 | some ns=>some (.bl (ns.all id))
 | none=>none
theorem jgY (hc:X.calm=true):yx X (.builtin "all") (rC T (one Xk)):=xn (jeo hc) fun W M H x v z Q k hh r e q=>by
 unfold Xk at e;split at e
 ·rename_i ns e1;cases e;obtain ⟨a,rfl,ha⟩:=jiI hh r e1;exact ⟨a,ns,rfl,SqL.of ha,q W H _ (.refl W) hh rfl⟩
 ·cases e
def two (f:Int->Int->PV):G1:=fun M xs=>match xs with
 | [.int i,.int j]=>some (f i j,M)
 | _=>none
theorem Uh {f:Value} {fn:Int->Int->PV} {zv:Int->Int->V} (h:yx X f (fun xs H Q=>∃ i j,xs=[.int i,.int j]∧Q (zv i j) H)) (hz:∀ W i j,Rep W (fn i j) (zv i j)):yx X f (rC T (two fn)) :=
 uI h fun vs H Q hQQ=>by
  obtain ⟨W,M,xs,z,M',kk,hh,rx,e,q⟩:=hQQ;unfold two at e;split at e
  ·rename_i i j;cases e;obtain ⟨v,u,rfl,rv,ru⟩:=vM rx;exact ⟨i,j,by rw [show v = .int i from rv,show u = .int j from ru],q W H _ (.refl W) hh (hz W i j)⟩
  ·cases e
def jaa:G1:=orC (one jgl) (two fun i j=>.int (if j < i then j else i))
def jdZ:G1:=orC (one jgm) (two fun i j=>.int (if j > i then j else i))
theorem b_min (hc:X.calm=true):yx X (.builtin "min") (rC T jaa):=jbn (b_min1 hc) (Uh (jek hc) fun _ _ _=>rfl)
theorem b_max (hc:X.calm=true):yx X (.builtin "max") (rC T jdZ):=jbn (b_max1 hc) (Uh (jem hc) fun _ _ _=>rfl)
def jgn (M:Sto) (x:PV):Option PV:=match uZ M x with
 | some xs=>some (.lst xs)
 | none=>none
theorem b_list (hT:T.K=X.K):yx X (.type "list") (rC T (one jgn)):=xn JC fun W M H x v z Q k hh r e q=>by
 unfold jgn at e;split at e
 ·rename_i xs e1;cases e;obtain ⟨a,vs,rfl,hq,rr⟩:=jas hh r e1;rw [k,hT] at hq;refine ⟨a,vs,rfl,hq,fun l hl=>?_⟩;obtain ⟨W2,l2,h2,r2⟩:=uF hh rr hl;exact q W2 _ _ l2 h2 r2
 ·cases e
def Ye (M:Sto):PV->Option String
 | .non=>some "NoneType"
 | .bl _=>some "bool"
 | .int _=>some "int"
 | .str _=>some "str"
 | .tup _=>some "tuple"
 | .lst _=>some "list"
 | .dct _=>some "dict"
 | .ref i=>(match M.g i with
  | some (.lst _)=>some "list"
  | _=>none)
 | _=>none
theorem VO {M:Sto} {x:PV} {n:String} (e:Ye M x=some n):n ∈ yY:=by
 cases x with
 | ref i =>
  have e:(match M.g i with
   | some (.lst _)=>some "list"
   | _=>none)=some n:=e
  split at e
  ·cases e; decide
  ·cases e
 | non=>cases e; decide
 | bl _=>cases e; decide
 | int _=>cases e; decide
 | str _=>cases e; decide
 | tup _=>cases e; decide
 | lst _=>cases e; decide
 | dct _=>cases e; decide
 | _=>cases e
theorem jcR {pins:List (Addr × Obj)} {σ:St} {H:Hp} {s:Shared} {W:Wd} {M:Sto} (I:Inv X pins σ H s) (hh:Held W M H) (hT:W.T.K=X.K) {x:PV} {n:String} {v:V} {u:Value} (e:Ye M x=some n) (r:Rep W x v) (q:yl v u) :
  ∃ P,PySem.W.KitX X.K u (.type n) P∧P s.heap∧u≠.builtin "__main__.__loader__#opaque":=by
 have lists:∀ a vs,H a=some (.lst vs)->∃ P,PySem.W.KitX X.K (.ref a) (.type "list") P∧P s.heap∧Value.ref a≠.builtin "__main__.__loader__#opaque":=fun a vs ea=>by
  obtain ⟨_,_,_,_,h1⟩:=(show yE X.prog X.w H s.heap a (.lst vs) from I.hok a _ ea)
  exact ⟨_,PySem.W.kitx_list,⟨_,h1,rfl⟩,fun z=>nomatch z⟩
 cases x with
 | ref i =>
  have e:(match M.g i with
   | some (.lst _)=>some "list"
   | _=>none)=some n:=e
  split at e
  ·rename_i xs e1;cases e
   obtain ⟨a,vs,rfl,ha,_⟩:=xv (xs:=xs) hh r (by
    show (match M.g i with
     | some (.lst xs)=>some xs
     | _=>none)=some xs
    rw [e1])
   cases q;exact lists a vs ha
  ·cases e
 | non=>cases e; cases r; cases q; exact ⟨_,PySem.W.kitx_none,True.intro,fun z=>nomatch z⟩
 | bl _=>cases e; cases r; cases q; exact ⟨_,PySem.W.kitx_bool,True.intro,fun z=>nomatch z⟩
 | int _=>cases e; cases r; obtain ⟨t,rfl⟩:=q; exact ⟨_,PySem.W.kitx_int,True.intro,fun z=>nomatch z⟩
 | str _=>cases e; cases r; obtain ⟨t,rfl⟩:=q; exact ⟨_,PySem.W.kitx_str,True.intro,fun z=>nomatch z⟩
 | tup _ =>
  cases e;obtain ⟨a,vs,rfl,ha,_⟩:=vk hh r;cases q;rw [hT] at ha;obtain ⟨its,_,p,_⟩:=I.tuple ha;obtain ⟨o,h1,h2,_⟩:=p;exact ⟨_,PySem.W.kitx_tuple,⟨o,h1,h2⟩,fun z=>nomatch z⟩
 | lst _ =>
  cases e;obtain ⟨a,vs,rfl,ha,_⟩:=r;cases q;exact lists a vs (hh.f _ _ ha)
 | dct _ =>
  cases e;obtain ⟨a,o,rfl,ha⟩:=r;cases q;exact ⟨_,PySem.W.kitx_dict,(UW I (.inr ⟨_,.inr ⟨o,hh.f _ _ ha⟩⟩)).1,fun z=>nomatch z⟩
 | _=>cases e
def jev:List PV->Option (List String)
 | []=>some []
 | .ty n :: r=>if n ∈ yY then (jev r).map fun ns=>n :: ns else none
 | _ :: _=>none
theorem jaz {W:Wd}:∀ {xs:List PV} {ns:List String} {vs:List V} {us:List Value},jev xs=some ns->yf W xs vs->yj vs us->us=ns.map Value.type∧∀ n ∈ ns,n ∈ yY
 | [],_,_,_,e,r,q=>by cases e; cases r; cases q; exact ⟨rfl,by simp⟩
 | .ty n :: xs,ns,_,_,e,⟨v,r,e1,a,b⟩,q=>by
  subst e1;have e:(if n ∈ yY then (jev xs).map (fun ns=>n :: ns) else none)=some ns:=e;split at e
  ·rename_i hn
   cases h:jev xs with
   | none=>rw [h] at e; cases e
   | some ms =>
    rw [h] at e;cases e
    cases q with
    | cons q1 q2 =>
     obtain ⟨h1,h2⟩:=jaz h b q2;have a:v = .ty n:=a;subst a;cases q1;rw [h1];refine ⟨rfl,fun m hm=>?_⟩
     rcases List.mem_cons.mp hm with rfl | hm
     ·exact hn
     ·exact h2 m hm
  ·cases e
 | .non :: _,_,_,_,e,_,_=>by cases e
 | .bl _ :: _,_,_,_,e,_,_=>by cases e
 | .int _ :: _,_,_,_,e,_,_=>by cases e
 | .str _ :: _,_,_,_,e,_,_=>by cases e
 | .tup _ :: _,_,_,_,e,_,_=>by cases e
 | .lst _ :: _,_,_,_,e,_,_=>by cases e
 | .scr _ :: _,_,_,_,e,_,_=>by cases e
 | .top _ :: _,_,_,_,e,_,_=>by cases e
 | .exn _ :: _,_,_,_,e,_,_=>by cases e
 | .dct _ :: _,_,_,_,e,_,_=>by cases e
 | .ref _ :: _,_,_,_,e,_,_=>by cases e
theorem Xb (K:PySem.W.Frag) {n:String} (hn:n ∈ yY):∀ {ns:List String},(∀ m ∈ ns,m ∈ yY)->PySem.W.kitAny K (.type n) (ns.map Value.type)=some (ns.any fun m=>sub n m)
 | [],_=>rfl
 | m :: ms,h=>by
  show (match PySem.W.kitOne K (.type n) (.type m) with
   | some true=>some true
   | some false=>PySem.W.kitAny K (.type n) (ms.map Value.type)
   | none=>none)=_
  rw [jcS K hn (h m List.mem_cons_self),List.any_cons]
  cases sub n m with
  | true=>rfl
  | false=>exact Xb K hn fun m' hm=>h m' (List.mem_cons_of_mem _ hm)
def Xi:G1:=fun M xs=>match xs with
 | [x,.ty m]=>(match Ye M x with
  | some n=>if m ∈ yY then some (.bl (sub n m),M) else none
  | none=>none)
 | [x,.tup ts]=>(match Ye M x,jev ts with
  | some n,some ns=>some (.bl (ns.any fun m=>sub n m),M)
  | _,_=>none)
 | _=>none
theorem Uo (hT:T.K=X.K):yx X (.builtin "isinstance") (rC T Xi):=by
 intro pins s σ H vs us Q I rv h;obtain ⟨W,M,xs,z,M',k,hh,rx,e,q⟩:=h
 have kk:W.T.K=X.K:=by rw [k]; exact hT
 unfold Xi at e;split at e
 ·rename_i x m;split at e
  ·rename_i n e1;split at e
   ·rename_i hm;cases e;obtain ⟨v,u,rfl,r1,r2⟩:=vM rx;obtain ⟨v',u',rfl,q1,q2⟩:=jcv rv;have r2:u = .ty m:=r2;subst r2;cases q2;obtain ⟨P,Z,hP,hne⟩:=jcR I hh kk e1 r1 q1
    exact PySem.W.kia_one Z I.kIn hP (jcS X.K (VO e1) hm) hne fun tk=>⟨.bl _,H,I.tok _,rfl,q W H _ (.refl W) hh rfl⟩
   ·cases e
  ·cases e
 ·rename_i x ts;split at e
  ·rename_i n ns e1 e2;cases e;obtain ⟨v,u,rfl,r1,r2⟩:=vM rx;obtain ⟨v',u',rfl,q1,q2⟩:=jcv rv;obtain ⟨a,ws,rfl,ha,rr⟩:=vk hh r2;cases q2;rw [kk] at ha;obtain ⟨its,rs,p,_⟩:=I.tuple ha;obtain ⟨⟨cl,dd,dt,sl⟩,h1,h2,nn,h3⟩:=p;simp only at h2 h3;subst h2;subst h3;obtain ⟨e3,hk⟩:=jaz e2 rr rs;obtain ⟨P,Z,hP,hne⟩:=jcR I hh kk e1 r1 q1
   exact PySem.W.kia_tup Z I.kIn hP h1 (by rw [e3]; exact Xb X.K (VO e1) hk) hne fun tk=>⟨.bl _,H,I.tok _,rfl,q W H _ (.refl W) hh rfl⟩
  ·cases e
 ·cases e
end
end L3

namespace L3
open PySem L2
inductive ItP where
 | fix (xs:List PV) | live (i:Nat) | gen (f:Sto->Option (List PV))
def nxt (p:ItP) (M:Sto) (i:Nat):Option (Option PV):=match p with
 | .fix xs=>some (xs[i]?)
 | .live j=>(yZ M (.ref j)).map fun xs=>xs[i]?
 | .gen f=>(f M).map fun xs=>xs[i]?
theorem Jj {j i:Nat} {M:Sto} {xs:List PV} (e:yZ M (.ref j)=some xs):nxt (.live j) M i=some (xs[i]?):=by
 unfold nxt;simp only [e];rfl
theorem xq {j i:Nat} {M:Sto} (e:yZ M (.ref j)=none):nxt (.live j) M i=none:=by
 unfold nxt;simp only [e];rfl
def RI (W:Wd) (p:ItP) (J:It):Prop:=∀ W' M' H',W.le0 W'->Held W' M' H'->∀ i,(∀ x,nxt p M' i=some (some x)->J.go i H'∧∀ v H'',J.yld i H' v H''->∃ W'',W'.le W''∧Held W'' M' H''∧Rep W'' x v)∧(nxt p M' i=some none->J.stop i H')
structure QI (X:Cx) (T:Tb) (ES:St->XK) (tg iter:Expr) (d:En->Sto->Res ItP):Prop where
 h:PI X tg iter (lft T RI ES d)
section
variable {X:Cx} {T:Tb} {ES:St->XK} {a b e tg iter:Expr} {es:List Expr} {p pos:Pos} {d:DE} {ds:DA}
theorem YT {t t':TI} (h:PI X tg iter t) (f:∀ σ H R,t' σ H R->t σ H R):PI X tg iter t':=fun pins s σ H R I q=>h pins s σ H R I (f σ H R q)
def itOf (M:Sto):PV->Option ItP
 | .lst xs=>some (.fix xs)
 | .ref i=>(match M.g i with
  | some (.lst _)=>some (.live i)
  | _=>none)
 | _=>none
def dIt (d:DE):En->Sto->Res ItP:=fun ρ M=>(d ρ M).bind fun x M1=>ofO (itOf M1 x) M1
theorem Yp {K:PySem.W.Frag} {W:Wd} {J:It} {x:ItP} {a:Addr} (hJ:J=Itl K a) (h:∀ W' M' H',W.le0 W'->Held W' M' H'->∀ ys,(∀ i,nxt x M' i=some (ys[i]?))->∃ vs,H' a=some (.lst vs)∧yf W' ys vs) (hn:∀ M,(∃ ys:List PV,∀ i,nxt x M i=some (ys[i]?))∨∀ i,nxt x M i=none):RI W x J:=by
 subst hJ;intro W' M' H' le hh i
 rcases hn M' with ⟨ys,hy⟩ | hy
 ·obtain ⟨vs,ha,rr⟩:=h W' M' H' le hh ys hy;refine ⟨fun z e=>?_,fun e=>?_⟩
  ·rw [hy] at e
   cases e1:ys[i]? with
   | none=>rw [e1] at e; cases e
   | some z' =>
    rw [e1] at e;cases e;obtain ⟨v,e2,r2⟩:=rr.get e1;refine ⟨⟨vs,v,SqL.of ha,e2⟩,fun u H'' hQQ=>?_⟩;obtain ⟨eH,q⟩:=hQQ;subst eH
    have:=q vs (SqL.of ha)
    rw [e2] at this;cases this;exact ⟨W',.refl W',hh,r2⟩
  ·rw [hy] at e;have e:ys[i]? = none:=Option.some.inj e;exact ⟨vs,SqL.of ha,by rw [rr.length]; exact List.getElem?_eq_none_iff.mp e⟩
 ·refine ⟨fun z e=>?_,fun e=>?_⟩
  ·rw [hy] at e; cases e
  ·rw [hy] at e; cases e
theorem vO (h:QE X T ES e d):QI X T ES tg e (dIt d):=⟨YT (jhM h.h) fun σ H R hQQ=>jF hQQ fun W ρ M k hh hs q=>⟨W,ρ,M,k,hh,hs,ym.bind q fun W1 M1 x v H1 l1 h1 r1 p1=>by
 cases x with
 | lst xs =>
  obtain ⟨a,vs,rfl,ha,rr⟩:=r1;refine ⟨a,rfl,⟨vs,SqL.of (h1.f _ _ ha)⟩,p1 W1 H1 _ (.refl W1) h1 (Yp rfl (fun W' M' H' le hh' ys hy=>?_) fun M=>.inl ⟨xs,fun i=>rfl⟩)⟩
  have:ys=xs:=List.ext_getElem? (fun i=>(Option.some.inj (hy i)).symm)
  subst this;exact ⟨vs,hh'.f _ _ (le.f _ _ ha),rr.up0 le⟩
 | ref j =>
  have p1:ym W1 RI (ofO (match M1.g j with
   | some (.lst _)=>some (ItP.live j)
   | _=>none) M1) R (ES σ):=p1
  split at p1
  ·rename_i xs e1;obtain ⟨a,rfl,ea⟩:=r1;obtain ⟨b,o,h2,h3,h4,vs,rfl,rr⟩:=h1.m j _ e1;rw [ea] at h2;cases h2;refine ⟨a,rfl,⟨vs,SqL.of h4⟩,p1 W1 H1 _ (.refl W1) h1 (Yp rfl (fun W' M' H' le hh' ys hy=>?_) fun M=>?_)⟩
   ·cases e2:yZ M' (.ref j) with
    | none =>
     have:=hy 0
     rw [xq e2] at this;cases this
    | some zs =>
     have:ys=zs:=List.ext_getElem? (fun i=>by
      have:=hy i
      rw [Jj e2] at this
      exact (Option.some.inj this).symm)
     subst this;obtain ⟨a',vs',e3,h5,r5⟩:=xv (v:=.ref a) hh' (show Rep W' (.ref j) (.ref a) from ⟨a,rfl,le.a _ _ ea⟩) e2;cases e3;exact ⟨vs',h5,r5⟩
   ·cases e2:yZ M (.ref j) with
    | none=>exact .inr fun i=>xq e2
    | some zs=>exact .inl ⟨zs,fun i=>Jj e2⟩
  ·exact p1.elim
 | _=>exact p1.elim⟩⟩
def xw (lo:Int) (n:Nat):List PV:=(List.range n).map fun (i:Nat)=>PV.int (lo + i)
theorem uf {lo:Int} {n i:Nat}:(xw lo n)[i]? = if i < n then some (PV.int (lo + i)) else none:=by
 unfold xw;rw [List.getElem?_map]
 by_cases h:i < n
 ·rw [if_pos h,List.getElem?_range h]; rfl
 ·rw [if_neg h,List.getElem?_eq_none_iff.mpr (by simpa using h)]; rfl
theorem jeJ {W:Wd} {lo:Int} {n:Nat}:RI W (.fix (xw lo n)) (Itr lo n):=by
 intro W' M' H' le hh i;refine ⟨fun x e=>?_,fun e=>?_⟩
 ·have e:(xw lo n)[i]? = some x:=Option.some.inj e;rw [uf] at e;split at e
  ·rename_i hi;cases e;refine ⟨hi,fun v H'' hQQ=>?_⟩;obtain ⟨eH,ev⟩:=hQQ;subst eH;subst ev;exact ⟨W',.refl W',hh,rfl⟩
  ·cases e
 ·have e:(xw lo n)[i]? = none:=Option.some.inj e;rw [uf] at e;split at e
  ·cases e
  ·rename_i hi;exact Nat.le_of_not_lt hi
def xy (i:Int):Bool:=Nat.blt i.natAbs 4611686018427387904
theorem yz {i:Int}:xy i=true↔-(2 ^ 62) < i∧i < 2 ^ 62:=by
 unfold xy;rw [Nat.blt_eq];omega
def xi (ds:DA):En->Sto->Res ItP:=fun ρ M=>(ds ρ M).bind fun xs M1=>match xs with
 | [.int j]=>if xy j=true then .ok (.fix (xw 0 j.toNat)) M1 else .bad
 | _=>.bad
def jdb (ds:DA):En->Sto->Res ItP:=fun ρ M=>(ds ρ M).bind fun xs M1=>match xs with
 | [.int i,.int j]=>if xy i=true∧xy j=true then .ok (.fix (xw i (j - i).toNat)) M1 else .bad
 | _=>.bad
theorem uD (hg:Gl X "range") (hm:X.mg "range" = none) (ha:QA X T ES [a] ds) (hs:starEach [a] X.env=[(false,eval a X.env)]:=by rfl):QI X T ES tg (.Call (.Name "range" p) [a] [] pos) (xi ds) :=
 ⟨YT (jdG hg hm ha.h hs) fun σ H R hQQ=>jF hQQ fun W ρ M k hh hs q=>⟨W,ρ,M,k,hh,hs,ym.bind q fun W1 M1 xs vs H1 l1 h1 r1 p1=>by
  split at p1
  ·rename_i j;split at p1
   ·rename_i hj;obtain ⟨v,rfl,r⟩:=uE r1;have r:v = .int j:=r;subst r;exact ⟨j,rfl,Int.le_of_lt (yz.mp hj).1,(yz.mp hj).2,p1 W1 H1 _ (.refl W1) h1 jeJ⟩
   ·exact p1.elim
  ·exact p1.elim⟩⟩
theorem jhx (hg:Gl X "range") (hm:X.mg "range" = none) (ha:QA X T ES [a,b] ds) (hs:starEach [a,b] X.env=[(false,eval a X.env),(false,eval b X.env)]:=by rfl) (hs2:starEach [b] X.env=[(false,eval b X.env)]:=by rfl) :
  QI X T ES tg (.Call (.Name "range" p) [a,b] [] pos) (jdb ds) :=
 ⟨YT (jdF hg hm ha.h hs hs2) fun σ H R hQQ=>jF hQQ fun W ρ M k hh hs q=>⟨W,ρ,M,k,hh,hs,ym.bind q fun W1 M1 xs vs H1 l1 h1 r1 p1=>by
  split at p1
  ·rename_i i j;split at p1
   ·rename_i hj;obtain ⟨v,u,rfl,r,r'⟩:=vM r1;have r:v = .int i:=r;have r':u = .int j:=r';subst r;subst r';exact ⟨i,j,rfl,⟨Int.le_of_lt (yz.mp hj.1).1,(yz.mp hj.1).2,Int.le_of_lt (yz.mp hj.2).1,(yz.mp hj.2).2⟩,p1 W1 H1 _ (.refl W1) h1 jeJ⟩
   ·exact p1.elim
  ·exact p1.elim⟩⟩
def jfD:Nat->List PV->List PV
 | _,[]=>[]
 | n,x :: xs=>.tup [.int n,x] :: jfD (n + 1) xs
theorem jfC:∀ {xs:List PV} {n i:Nat},(jfD n xs)[i]? = (xs[i]?).map fun x=>PV.tup [.int ((n + i:Nat):Int),x]
 | [],n,i=>by simp [jfD]
 | x :: xs,n,0=>by simp [jfD]
 | x :: xs,n,i + 1=>by
  show (jfD (n + 1) xs)[i]? = _;rw [jfC];rw [show n + 1 + i=n + (i + 1) by omega];simp
end
def Res.noX {α:Type}:Res α->Res α
 | .exc _ _=>.bad
 | r=>r
def vy (x:PV) (r:En):Option En:=some (some x :: r)
def jiJ (x:PV) (r:En):Option En:=match x with
 | .tup [a,b]=>some (some a :: some b :: r)
 | _=>none
def yP (p:ItP) (bnd:PV->En->Option En) (r:En) (dt:DT) (de:DE):Nat->Nat->Sto->Res (List PV)
 | 0,_,_=>.bad
 | n + 1,i,M=>match nxt p M i with
  | none=>.bad
  | some none=>.ok [] M
  | some (some x)=>match bnd x r with
   | none=>.bad
   | some ρ=>(dt ρ M).noX.bind fun b M1=>if b=true then (de ρ M1).noX.bind fun y M2=>(yP p bnd r dt de n (i + 1) M2).bind fun ys M3=>.ok (y :: ys) M3 else yP p bnd r dt de n (i + 1) M1
def uw (bnd:PV->En->Option En) (r:En) (dt:DT) (de:DE):List PV->Sto->Res (List PV)
 | [],M=>.ok [] M
 | x :: xs,M=>match bnd x r with
  | none=>.bad
  | some ρ=>(dt ρ M).noX.bind fun b M1=>if b=true then (de ρ M1).noX.bind fun y M2=>(uw bnd r dt de xs M2).bind fun ys M3=>.ok (y :: ys) M3 else uw bnd r dt de xs M1
theorem Ue {all:List PV} {bnd:PV->En->Option En} {r:En} {dt:DT} {de:DE}:∀ {xs:List PV} {n i:Nat} {M:Sto},all.drop i=xs->xs.length < n->yP (.fix all) bnd r dt de n i M=uw bnd r dt de xs M
 | xs,0,i,M,e,h=>absurd h (Nat.not_lt_zero _)
 | [],n + 1,i,M,e,h=>by
  have:all[i]? = none:=List.getElem?_eq_none_iff.mpr (by
   have:=congrArg List.length e
   simp at this
   omega)
  show (match some (all[i]?) with
   | none=>Res.bad
   | some none=>.ok [] M
   | some (some x)=>_)=_
  rw [this];rfl
 | x :: xs,n + 1,i,M,e,h=>by
  have e1:all[i]? = some x:=by
   have:=congrArg (fun l=>l[0]?) e
   simpa [List.getElem?_drop] using this
  have e2:all.drop (i + 1)=xs:=by
   have:=congrArg (List.drop 1) e
   simpa [List.drop_drop] using this
  have ih:∀ M,yP (.fix all) bnd r dt de n (i + 1) M=uw bnd r dt de xs M:=fun M=>Ue e2 (by simpa using h)
  show (match some (all[i]?) with
   | none=>Res.bad
   | some none=>.ok [] M
   | some (some x)=>match bnd x r with
    | none=>.bad
    | some ρ=>(dt ρ M).noX.bind fun b M1=>if b=true then (de ρ M1).noX.bind fun y M2=>(yP (.fix all) bnd r dt de n (i + 1) M2).bind fun ys M3=>.ok (y :: ys) M3 else yP (.fix all) bnd r dt de n (i + 1) M1)=_
  rw [e1];simp only [ih];rfl
def xU (p:ItP) (M:Sto):Nat:=match p with
 | .fix xs=>xs.length + 1
 | .live i=>((yZ M (.ref i)).getD []).length + 1
 | .gen f=>((f M).getD []).length + 1
def rest (js:List Nat) (ρ:En):En:=js.map fun j=>(ρ[j]?).getD none
def yH (di:En->Sto->Res ItP) (bnd:PV->En->Option En) (js:List Nat) (dt:DT) (de:DE):DE:=fun ρ M=>(di ρ M).bind fun p M1 =>
 if xU p M1<=sizeLine then (yP p bnd (rest js ρ) dt de (xU p M1) 0 M1).bind fun ys M2=>.ok (.lst ys) M2 else .bad
def dCompG (fv:List PV->Sto->PV) (fm:List PV->Sto->Sto) (di:En->Sto->Res ItP) (bnd:PV->En->Option En) (js:List Nat) (dt:DT) (de:DE):DE:=fun ρ M=>(di ρ M).bind fun p M1 =>
 if xU p M1<=sizeLine then (yP p bnd (rest js ρ) dt de (xU p M1) 0 M1).bind fun ys M2=>.ok (fv ys M2) (fm ys M2) else .bad
def vh:DT:=fun _ M=>.ok true M
structure QIf (X:Cx) (T:Tb) (ES:St->XK) (ifs:List Expr) (d:DT):Prop where
 h:PIf X ifs (lft T RB ES d)
theorem uC {X:Cx} {T:Tb} {ES:St->XK}:QIf X T ES [] vh:=⟨fun pins s σ H Q I hQQ=>jF hQQ fun W ρ M k hh hs p=>if_nil pins s σ H Q I (p W H true (.refl W) hh rfl)⟩
theorem Jh {X:Cx} {T:Tb} {ES:St->XK} {c:Expr} {d:DT} (h:QT X T ES c d):QIf X T ES [c] d:=⟨if_one h.h⟩
abbrev ES0:St->XK:=fun _=>E0
theorem jaF {W:Wd} {ρ:En} {σ:St} {js:List Nat} (h:yF W ρ σ):yF W (rest js ρ) (js.map fun j=>(σ[j]?).getD none):=by
 refine ⟨by simp [rest],fun i x e=>?_⟩;unfold rest at e;rw [List.getElem?_map] at e;rw [List.getElem?_map]
 cases hj:js[i]? with
 | none=>rw [hj] at e; cases e
 | some j =>
  rw [hj] at e;have e:(ρ[j]?).getD none=some x:=Option.some.inj e
  cases e1:ρ[j]? with
  | none=>rw [e1] at e; cases e
  | some o =>
   rw [e1] at e;cases e;obtain ⟨v,e2,r⟩:=h.2 j x e1;refine ⟨v,?_,r⟩;show some ((σ[j]?).getD none)=_;rw [e2];rfl
theorem JN {W:Wd} {ρ:En} {σ:St} {x:PV} {v:V} (h:yF W ρ σ) (r:Rep W x v):yF W (some x :: ρ) (some v :: σ):=by
 refine ⟨by simp [h.1],fun i y e=>?_⟩
 cases i with
 | zero =>
  cases e;exact ⟨v,rfl,r⟩
 | succ i=>exact h.2 i y e
structure Bnd (T:Tb) (own:Nat) (g:TG) (bnd:PV->En->Option En):Prop where
 go:∀ (W:Wd) (M:Sto) (H:Hp) (js:List Nat) (ρ:En) (σ:St) (x:PV) (v:V) (ρ':En) (Q:St->Hp->Prop),W.T=T->Held W M H->yF W ρ σ->Rep W x v->bnd x (rest js ρ)=some ρ' ->
  (∀ σ',yF W ρ' σ'->XN (vE own js σ) σ'->Q σ' H)->g v (vE own js σ) H Q
theorem uO {T:Tb}:Bnd T 1 (uN 0) vy:=⟨fun W M H js ρ σ x v ρ' Q k hh hs r e q=>by
 cases e
 exact q _ (JN (jaF hs) r) keep1⟩
theorem bnd_2 {T:Tb}:Bnd T 2 (gTup T.K 2 (jaY (uN 0) (jaY (uN 1) gNil))) jiJ:=⟨fun W M H js ρ σ x v ρ' Q k hh hs r e q=>by
 unfold jiJ at e;split at e
 ·rename_i a b;cases e;obtain ⟨p,vs,rfl,ha,rr⟩:=vk hh r;obtain ⟨va,vb,rfl,ra,rb⟩:=vM rr;rw [k] at ha;refine ⟨p,_,rfl,ha,rfl,va,[vb],rfl,vb,[],rfl,rfl,?_⟩;exact q _ (JN (JN (jaF hs) rb) ra) jfU
 ·cases e⟩
theorem jeg {it:ItP} {bnd:PV->En->Option En} {r:En} {dt:DT} {de:DE}:∀ (n i:Nat) (M:Sto) (c:Nat) (M':Sto),yP it bnd r dt de n i M≠.exc c M':=by
 intro n
 induction n with
 | zero=>intro i M c M' z; cases z
 | succ n ih =>
  intro i M c M' z;unfold yP at z;split at z
  ·cases z
  ·cases z
  ·split at z
   ·cases z
   ·rename_i ρ' _
    cases e1:dt ρ' M with
    | bad=>rw [e1] at z; cases z
    | exc _ _=>rw [e1] at z; cases z
    | ok b M1 =>
     rw [e1] at z
     cases b with
     | false=>exact ih _ _ _ _ z
     | true =>
      have z:(de ρ' M1).noX.bind (fun y M2=>(yP it bnd r dt de n (i + 1) M2).bind fun ys M3=>.ok (y :: ys) M3) = .exc c M':=z
      cases e2:de ρ' M1 with
      | bad=>rw [e2] at z; cases z
      | exc _ _=>rw [e2] at z; cases z
      | ok y M2 =>
       rw [e2] at z;have z:(yP it bnd r dt de n (i + 1) M2).bind (fun ys M3=>Res.ok (y :: ys) M3) = .exc c M':=z
       cases e3:yP it bnd r dt de n (i + 1) M2 with
       | bad=>rw [e3] at z; cases z
       | exc _ _=>exact ih _ _ _ _ e3
       | ok _ _=>rw [e3] at z; cases z
section
variable {X:Cx} {T:Tb} {ES:St->XK} {osc sc:Scope} {own fr:List Str} {js:List Nat} {elt target iter:Expr} {ifs:List Expr} {pos:Pos} {di:En->Sto->Res ItP} {g:TG} {bnd:PV->En->Option En} {dt:DT} {de:DE}
def RIg (W:Wd) (p:ItP) (J:It):Prop:=∀ W' M' H',W.le0 W'->(∀ b u,W.G b=some u->W'.G b=some u)->Held W' M' H'->∀ i,(∀ x,nxt p M' i=some (some x)->J.go i H'∧∀ v H'',J.yld i H' v H''->∃ W'',W'.le W''∧Held W'' M' H''∧Rep W'' x v)∧(nxt p M' i=some none->J.stop i H')
theorem jgR {on:Nat} {σ:St} {Q:VK} {E:XK} (B:Bnd T on g bnd) (fv:List PV->Sto->PV) (fm:List PV->Sto->Sto) (fin1:∀ {W:Wd} {M:Sto} {H G0:Hp} {l:Addr} {ys:List PV} {vs:List V},Held W M H->W.G l=some (.lst vs)->(∀ b u,G0 b=some u->W.G b=some u∧b≠l)->yf W ys vs->∃ W',W.le0 W'∧W'.G=G0∧Held W' (fm ys M) H∧Rep W' (fv ys M) (.ref l))
  {W0:Wd} {ρ:En} {M0:Sto} {it:ItP} {J:It} {H0:Hp} (k0:W0.T=T) (hs0:yF W0 ρ σ) (h0:Held W0 M0 H0) (ri:RIg W0 it J) (p0:ym W0 Rep (if xU it M0<=sizeLine then (yP it bnd (rest js ρ) dt de (xU it M0) 0 M0).bind fun ys M2=>.ok (fv ys M2) (fm ys M2) else .bad) Q E) (acc:Addr) (hacc:H0 acc=none):jhc J acc on js g (lft T RB ES0 dt) (lft T Rep ES0 de) σ Q H0:=by
 by_cases hf:xU it M0<=sizeLine
 rotate_left
 ·rw [if_neg hf] at p0; exact p0.elim
 rw [if_pos hf] at p0
 have gacc:W0.G acc=none:=by
  cases q:W0.G acc with
  | none=>rfl
  | some o =>
   rw [(h0.gd acc o q).1] at hacc;cases hacc
 -- what is wanted of the rest
 let Fin:Wd->List PV->Res (List PV)->Prop:=fun W ys r=>match r with
  | .ok zs M'=>∀ W' H' v,W0.le W'->Held W' (fm (ys ++ zs) M') H'->Rep W' (fv (ys ++ zs) M') v->Q v H'
  | _=>False
 have fin0:Fin W0 [] (yP it bnd (rest js ρ) dt de (xU it M0) 0 M0):=by
  cases e:yP it bnd (rest js ρ) dt de (xU it M0) 0 M0 with
  | ok zs M'=>rw [e] at p0; exact fun W' H' v le hh' r=>p0 W' H' v le hh' r
  | exc c M' =>
   exfalso
   exact jeg _ _ _ _ _ e
  | bad=>rw [e] at p0; exact p0.elim
 refine ⟨fun i m vs H2=>i + m=xU it M0∧vs.length<=i∧∃ W M ys,W0.le0 W∧W.G=L2.upd W0.G acc (.lst vs)∧Held W M H2∧yf W ys vs∧Fin W ys (yP it bnd (rest js ρ) dt de m i M),
  ⟨xU it M0,by simp,by simp,W0.gd acc (.lst []),M0,[],Wd.le0_gd,rfl,h0.guard hacc,rfl,fin0⟩,?_⟩
 rintro i m vs H2 ⟨hi,hl,W1,M1,ys,le1,g1,h1,r1,f1⟩;have k1:W1.T=T:=le1.k.trans k0
 have hs1:yF W1 ρ σ:=⟨hs0.1,fun i x e=>by
  obtain ⟨v,e1,r⟩:=hs0.2 i x e
  exact ⟨v,e1,r.up0 le1⟩⟩
 have ga1:W1.G acc=some (.lst vs):=by rw [g1,jv]
 cases m with
 | zero=>exact f1.elim
 | succ m =>
  unfold yP at f1
  obtain ⟨goes,stops⟩:=ri W1 M1 H2 le1 (fun b u q=>by
   have z:b≠acc:=fun z=>by rw [z,gacc] at q; cases q
   rw [g1,jm z]
   exact q) h1 i
  split at f1
  ·exact f1.elim
  ·rename_i en;refine .inl ⟨stops en,?_⟩
   obtain ⟨W5,l5,g5,h5,r5⟩:=fin1 (G0:=W0.G) h1 ga1 (fun b u q=>by
    have z:b≠acc:=fun z=>by rw [z,gacc] at q; cases q
    exact ⟨by rw [g1,jm z]; exact q,z⟩) r1
   have f1:∀ W' H' v,W0.le W'->Held W' (fm (ys ++ []) M1) H'->Rep W' (fv (ys ++ []) M1) v->Q v H':=f1;rw [List.append_nil] at f1;exact f1 W5 H2 (.ref acc) ⟨le1.trans l5,g5⟩ h5 r5
  ·rename_i x en;split at f1
   ·exact f1.elim
   ·rename_i ρ' eb;obtain ⟨go,yld⟩:=goes x en
    have hlen:vs.length < sizeLine:=by omega
    refine .inr ⟨go,hlen,fun vs' H'=>i + 1 + m=xU it M0∧vs'.length<=i + 1∧∃ W M ys,W0.le0 W∧W.G=L2.upd W0.G acc (.lst vs')∧Held W M H'∧yf W ys vs'∧Fin W ys (yP it bnd (rest js ρ) dt de m (i + 1) M),
     fun vs' H' q=>⟨m,Nat.lt_succ_self _,q⟩,fun v H3 hy=>?_⟩
    obtain ⟨W2,l2,h2,r2⟩:=yld v H3 hy;have k2:W2.T=T:=l2.k.trans k1
    refine B.go W2 M1 H3 js ρ σ x v ρ' _ k2 h2 (hs1.up l2) r2 eb fun σ4 rs4 kp=>⟨kp,?_⟩
    cases e1:dt ρ' M1 with
    | bad=>rw [e1] at f1; exact f1.elim
    | exc _ _=>rw [e1] at f1; exact f1.elim
    | ok b M2 =>
     rw [e1] at f1;refine ⟨W2,ρ',M1,k2,h2,rs4,?_⟩;rw [e1];intro W3 H5 b' l3 h3 eb';subst eb'
     have g3:W3.G=L2.upd W0.G acc (.lst vs):=by rw [l3.g,l2.g,g1]
     have le3:W0.le0 W3:=(le1.trans l2.toLe0).trans l3.toLe0;have r3:yf W3 ys vs:=(r1.up l2).up l3
     cases b' with
     | false =>
      rw [if_neg (by simp)];exact ⟨by omega,by omega,W3,M2,ys,le3,g3,h3,r3,f1⟩
     | true =>
      rw [if_pos rfl];have f1:Fin W1 ys ((de ρ' M2).noX.bind fun y M2=>(yP it bnd (rest js ρ) dt de m (i + 1) M2).bind fun zs M3=>.ok (y :: zs) M3):=f1;refine ⟨W3,ρ',M2,l3.k.trans k2,h3,rs4.up l3,?_⟩
      cases e2:de ρ' M2 with
      | bad=>rw [e2] at f1; exact f1.elim
      | exc _ _=>rw [e2] at f1; exact f1.elim
      | ok y M3 =>
       rw [e2] at f1;intro W4 H6 w l4 h4 r4
       have g4:W4.G=L2.upd W0.G acc (.lst vs):=by rw [l4.g,g3]
       have ga4:W4.G acc=some (.lst vs):=by rw [g4,jv]
       refine ⟨(h4.gd _ _ ga4).1,by omega,by simp; omega,W4.gd acc (.lst (vs ++ [w])),M3,ys ++ [y],(le3.trans l4.toLe0).trans Wd.le0_gd,?_,h4.reguard ga4,?_,?_⟩
       ·show L2.upd W4.G acc (.lst (vs ++ [w]))=_;rw [g4,jhe]
       ·exact yf.up0 Wd.le0_gd ((r3.up l4).append (show yf W4 [y] [w] from ⟨w,[],rfl,r4,rfl⟩))
       ·have f1:Fin W1 ys ((yP it bnd (rest js ρ) dt de m (i + 1) M3).bind fun zs M3=>.ok (y :: zs) M3):=f1
        cases e3:yP it bnd (rest js ρ) dt de m (i + 1) M3 with
        | bad=>rw [e3] at f1; exact f1.elim
        | exc _ _=>rw [e3] at f1; exact f1.elim
        | ok zs M4 =>
         rw [e3] at f1;have f1:∀ W' H' v,W0.le W'->Held W' (fm (ys ++ (y :: zs)) M4) H'->Rep W' (fv (ys ++ (y :: zs)) M4) v->Q v H':=f1;show ∀ W' H' v,W0.le W'->Held W' (fm ((ys ++ [y]) ++ zs) M4) H'->Rep W' (fv ((ys ++ [y]) ++ zs) M4) v->Q v H';rw [List.append_assoc];exact f1
theorem jci {on:Nat} {σ:St} {H:Hp} {Q:VK} (B:Bnd T on g bnd) (fv:List PV->Sto->PV) (fm:List PV->Sto->Sto) (fin1:∀ {W:Wd} {M:Sto} {H G0:Hp} {l:Addr} {ys:List PV} {vs:List V},Held W M H->W.G l=some (.lst vs)->(∀ b u,G0 b=some u->W.G b=some u∧b≠l)->yf W ys vs->∃ W',W.le0 W'∧W'.G=G0∧Held W' (fm ys M) H∧Rep W' (fv ys M) (.ref l)) (h:lft T Rep ES (dCompG fv fm di bnd js dt de) σ H Q):jaA (lft T RI ES di) on js g (lft T RB ES0 dt) (lft T Rep ES0 de) σ H Q:=by
 obtain ⟨W,ρ,M,k,hh,hs,p⟩:=h;exact ⟨W,ρ,M,k,hh,hs,ym.bind p fun W0 M0 it J H0 l0 h0 ri p0=>fun acc hacc=>jgR B fv fm fin1 (l0.k.trans k) (hs.up l0) h0 (fun W' M' H' le _ hh' i=>ri W' M' H' le hh' i) p0 acc hacc⟩
theorem Uc {on:Nat} {σ:St} {H:Hp} {Q:VK} (B:Bnd T on g bnd) (h:lft T Rep ES (yH di bnd js dt de) σ H Q):jaA (lft T RI ES di) on js g (lft T RB ES0 dt) (lft T Rep ES0 de) σ H Q :=
 jci B (fun ys _=>.lst ys) (fun _ M=>M) (fun {W M H G0 l ys vs} h e hg r=>by
  obtain ⟨l2,h2⟩:=h.unguard e hg
  exact ⟨W.out G0 l (.lst vs),l2,rfl,h2,l,vs,rfl,jv,r.up0 l2⟩) h
theorem xD (B:Bnd T own.length g bnd) (hc:X.calm=true) (ho:X.env.scope=osc) (S:CompScope osc sc own fr) (hj:js.map (fun j=>X.N[j]?)=fr.map some) (hi:QI X T ES target iter di)
  (hg:∀ s₃ H₃ fp,PG (jT X (own ++ fr) sc s₃ H₃ fp) target g) (ht:∀ s₃ H₃ fp,QIf (jT X (own ++ fr) sc s₃ H₃ fp) T ES0 ifs dt) (he:∀ s₃ H₃ fp,QE (jT X (own ++ fr) sc s₃ H₃ fp) T ES0 elt de)
  (hs:∀ x,foldedSetIterable iter X.env x=pure x:=by intro _; rfl):QE X T ES (.ListComp elt [⟨target,iter,ifs,0⟩] sc pos) (yH di bnd js dt de) :=
 ⟨jQ (jhP hc ho S hj hi.h hg (fun a b c=>(ht a b c).h) (fun a b c=>(he a b c).h) hs) fun _ _ _=>Uc B⟩
end
end L3

namespace L3
open PySem L2
inductive RS where
 | nx (ρ:En) (M:Sto) | rt (v:PV) (M:Sto) | bk (ρ:En) (M:Sto) | ct (ρ:En) (M:Sto) | exc (k:Nat) (ρ:En) (M:Sto) | bad
abbrev DS:=En->Sto->RS
def RS.then (r:RS) (k:En->Sto->RS):RS:=match r with
 | .nx ρ M=>k ρ M
 | r=>r
@[simp] theorem RS.then_nx {ρ : En} {M : Sto} {k : En -> Sto -> RS} : (RS.nx ρ M).then k = k ρ M := rfl
@[simp] theorem RS.then_rt {v : PV} {M : Sto} {k : En -> Sto -> RS} : (RS.rt v M).then k = .rt v M := rfl
@[simp] theorem RS.then_exc {c : Nat} {ρ : En} {M : Sto} {k : En -> Sto -> RS} : (RS.exc c ρ M).then k = .exc c ρ M := rfl
def Res.st {α:Type} (r:Res α) (ρ:En) (k:α->Sto->RS):RS:=match r with
 | .ok a M=>k a M
 | .exc c M=>.exc c ρ M
 | .bad=>.bad
@[simp] theorem Res.st_ok {α : Type} {a : α} {M : Sto} {ρ : En} {k : α -> Sto -> RS} : (Res.ok a M).st ρ k = k a M := rfl
@[simp] theorem Res.st_exc {α : Type} {c : Nat} {M : Sto} {ρ : En} {k : α -> Sto -> RS} : (Res.exc c M).st ρ k = .exc c ρ M := rfl
@[simp] theorem Res.st_bad {α : Type} {ρ : En} {k : α -> Sto -> RS} : (Res.bad).st ρ k = .bad := rfl
def yt (W:Wd) (r:RS) (D:Ends) (ES:St->XK):Prop:=match r with
 | .nx ρ M=>∀ W' σ' H',W.le W'->Held W' M H'->yF W' ρ σ'->D.nx σ' H'
 | .rt v M=>∀ W' H' u,W.le W'->Held W' M H'->Rep W' v u->D.rt u H'
 | .bk ρ M=>∀ W' σ' H',W.le W'->Held W' M H'->yF W' ρ σ'->D.bk σ' H'
 | .ct ρ M=>∀ W' σ' H',W.le W'->Held W' M H'->yF W' ρ σ'->D.ct σ' H'
 | .exc k ρ M=>∀ W' σ' H',W.le W'->Held W' M H'->yF W' ρ σ'->ES σ' (.ref (W.T.C k)) none H'
 | .bad=>False
theorem yt.up {W W':Wd} {r:RS} {D:Ends} {ES:St->XK} (h:yt W r D ES) (le:W.le W'):yt W' r D ES:=by
 cases r with
 | nx ρ M=>exact fun W2 σ2 H2 l2 h2 r2=>h W2 σ2 H2 (le.trans l2) h2 r2
 | rt v M=>exact fun W2 H2 u l2 h2 r2=>h W2 H2 u (le.trans l2) h2 r2
 | bk ρ M=>exact fun W2 σ2 H2 l2 h2 r2=>h W2 σ2 H2 (le.trans l2) h2 r2
 | ct ρ M=>exact fun W2 σ2 H2 l2 h2 r2=>h W2 σ2 H2 (le.trans l2) h2 r2
 | exc k ρ M =>
  intro W2 σ2 H2 l2 h2 r2
  have:=h W2 σ2 H2 (le.trans l2) h2 r2
  rw [le.k];exact this
 | bad=>exact h.elim
def jfQ (T:Tb) (ES:St->XK) (d:DS):TS:=fun D σ H=>∃ W ρ M,W.T=T∧Held W M H∧yF W ρ σ∧yt W (d ρ M) D ES
theorem yM {T:Tb} {ES:St->XK} {d:DS} {D:Ends} {σ:St} {H:Hp} {P:Prop} (h:jfQ T ES d D σ H) (k:∀ W ρ M,W.T=T->Held W M H->yF W ρ σ->yt W (d ρ M) D ES->P):P:=by
 obtain ⟨W,ρ,M,a,b,c,e⟩:=h;exact k W ρ M a b c e
structure QS (X:Cx) (T:Tb) (ES:St->XK) (st:Stmt) (d:DS):Prop where
 h:PS X st (jfQ T ES d)
structure QSs (X:Cx) (T:Tb) (ES:St->XK) (st:List Stmt) (d:DS):Prop where
 h:PSs X st (jfQ T ES d)
theorem yt.bind {α β:Type} {W:Wd} {R1:Wd->α->β->Prop} {r:Res α} {ρ:En} {σ:St} {k:α->Sto->RS} {D:Ends} {ES:St->XK} {Q1:β->Hp->Prop} (hs:yF W ρ σ) (h:yt W (r.st ρ k) D ES)
  (f:∀ W' M a b H1,W.le W'->Held W' M H1->R1 W' a b->yt W' (k a M) D ES->Q1 b H1):ym W R1 r Q1 (ES σ):=by
 cases r with
 | ok a M=>exact fun W2 H2 b l2 h2 r2=>f W2 M a b H2 l2 h2 r2 (yt.up (r:=k a M) h l2)
 | exc k M=>exact fun W2 H2 l2 h2=>h W2 σ H2 l2 h2 (hs.up l2)
 | bad=>exact h.elim
section
variable {X:Cx} {T:Tb} {ES:St->XK} {e a b c o:Expr} {es:List Expr} {pos p:Pos} {st:Stmt} {sts rest:List Stmt} {d de da db do_ di:DE} {d1 d2:DS} {ta:DT} {ds:DA}
theorem yQ {t t':TS} (h:PS X st t) (f:∀ D σ H,t' D σ H->t D σ H):PS X st t':=fun pins s σ H D I q=>h pins s σ H D I (f D σ H q)
theorem jcH {t t':TS} (h:PSs X sts t) (f:∀ D σ H,t' D σ H->t D σ H):PSs X sts t':=fun pins s σ H D I q=>h pins s σ H D I (f D σ H q)
def yA:DS:=fun ρ M=>.nx ρ M
def yh (d1 d2:DS):DS:=fun ρ M=>(d1 ρ M).then d2
theorem jJ:QSs X T ES [] yA:=⟨jcH jhF fun D σ H hQQ=>yM hQQ fun W ρ M k hh hs q=>q W σ H (.refl W) hh hs⟩
theorem jg (h:QS X T ES st d1):QSs X T ES [st] d1:=⟨jhE h.h⟩
theorem jf (h1:QS X T ES st d1) (h2:QSs X T ES rest d2):QSs X T ES (st :: rest) (yh d1 d2):=⟨jcH (jfa h1.h h2.h) fun D σ H hQQ=>yM hQQ fun W ρ M k hh hs q=>⟨W,ρ,M,k,hh,hs,by
 unfold yh at q
 cases e:d1 ρ M with
 | nx ρ1 M1 =>
  rw [e] at q
  exact fun W1 σ1 H1 l1 h1 r1=>⟨W1,ρ1,M1,l1.k.trans k,h1,r1,yt.up (r:=d2 ρ1 M1) q l1⟩
 | rt v M1=>rw [e] at q; exact q
 | bk ρ1 M1=>rw [e] at q; exact q
 | ct ρ1 M1=>rw [e] at q; exact q
 | exc c ρ1 M1=>rw [e] at q; exact q
 | bad=>rw [e] at q; exact q⟩⟩
def jdz:DS:=fun _ _=>.bad
theorem ug:QS X T ES st jdz:=⟨yQ jfd fun D σ H hQQ=>yM hQQ fun _ _ _ _ _ _ q=>q⟩
def yn (d:DE):DS:=fun ρ M=>(d ρ M).st ρ fun _ M1=>.nx ρ M1
theorem jO (he:QE X T ES e d) (hs:swapsWith e none pos.line X.env=pure false:=by rfl):QS X T ES (.Expr e pos) (yn d):=⟨yQ (jhG he.h hs) fun D σ H hQQ=>yM hQQ fun W ρ M k hh hs q=>⟨W,ρ,M,k,hh,hs,yt.bind hs q fun W1 M1 x v H1 l1 h1 r1 q1=>q1 W1 σ H1 (.refl W1) h1 (hs.up l1)⟩⟩
def yJ (d:DE):DS:=fun ρ M=>(d ρ M).st ρ fun v M1=>.rt v M1
theorem jw (he:QE X T ES e d):QS X T ES (.Return (some e) pos) (yJ d):=⟨yQ (ps_ret he.h) fun D σ H hQQ=>yM hQQ fun W ρ M k hh hs q=>⟨W,ρ,M,k,hh,hs,yt.bind hs q fun W1 M1 x v H1 l1 h1 r1 q1=>q1 W1 H1 v (.refl W1) h1 r1⟩⟩
def sIf (t:DT) (d1 d2:DS):DS:=fun ρ M=>(t ρ M).st ρ fun c M1=>if c=true then d1 ρ M1 else d2 ρ M1
theorem yG {sa sb:List Stmt} (hc:QT X T ES c ta) (ha:QSs X T ES sa d1) (hb:QSs X T ES sb d2):QS X T ES (.If c sa sb pos) (sIf ta d1 d2):=⟨yQ (ps_if hc.h ha.h hb.h) fun D σ H hQQ=>yM hQQ fun W ρ M k hh hs q =>
 ⟨W,ρ,M,k,hh,hs,yt.bind hs q fun W1 M1 x v H1 l1 h1 r1 q1=>by
  subst r1
  cases v with
  | true=>rw [if_pos rfl] at q1 ⊢; exact ⟨W1,ρ,M1,l1.k.trans k,h1,hs.up l1,q1⟩
  | false=>rw [if_neg (by simp)] at q1 ⊢; exact ⟨W1,ρ,M1,l1.k.trans k,h1,hs.up l1,q1⟩⟩⟩
def yI (i:Nat) (d:DE):DS:=fun ρ M=>(d ρ M).st ρ fun v M1=>.nx (ρ.set i (some v)) M1
theorem jaD {i:Nat} {D:Ends} {σ:St} {H:Hp} (h:jfQ T ES (yI i d) D σ H):jhh (lft T Rep ES d) (uN i) D σ H:=by
 obtain ⟨W,ρ,M,k,hh,hs,q⟩:=h;exact ⟨W,ρ,M,k,hh,hs,yt.bind hs q fun W1 M1 x v H1 l1 h1 r1 q1=>q1 W1 _ H1 (.refl W1) h1 ((hs.up l1).set r1)⟩
theorem jG {i:Nat} {x:Str} {pos':Pos} (hN:X.N.Nodup) (hi:X.N[i]? = some x) (hx:Loc X.env.scope x) (he:QE X T ES e d) (hs:swapsWith e (some (.Name x pos')) pos.line X.env=pure false:=by rfl) (hf:X.fn x=true∨X.env.scope.names.lookup x=some .local:=by first | exact .inl rfl | exact .inr rfl | assumption) :
  QS X T ES (.Assign [.Name x pos'] e pos) (yI i d):=⟨yQ (ps_set hN hi hx he.h hs hf) fun _ _ _=>jaD⟩
theorem jcF {osc sc:Scope} {own fr:List Str} {js:List Nat} {elt target iter:Expr} {ifs:List Expr} {dit:En->Sto->Res ItP} {g:TG} {bnd:PV->En->Option En} {dt:DT} {i:Nat} {x:Str} {px spos:Pos} (B:Bnd T own.length g bnd) (hc:X.calm=true) (ho:X.env.scope=osc) (S:CompScope osc sc own fr) (hj:js.map (fun j=>X.N[j]?)=fr.map some)
  (hN:X.N.Nodup) (hi':X.N[i]? = some x) (hx:X.env.scope.names.lookup x=some .local) (hi:QI X T ES target iter dit)
  (hg:∀ s₃ H₃ fp,PG (jT X (own ++ fr) sc s₃ H₃ fp) target g) (ht:∀ s₃ H₃ fp,QIf (jT X (own ++ fr) sc s₃ H₃ fp) T ES0 ifs dt) (he:∀ s₃ H₃ fp,QE (jT X (own ++ fr) sc s₃ H₃ fp) T ES0 elt de)
  (hsw:swapsWith (.ListComp elt [⟨target,iter,ifs,0⟩] sc pos) (some (.Name x px)) spos.line X.env=pure true) (hs:∀ x,foldedSetIterable iter X.env x=pure x:=by intro _; rfl) :
  QS X T ES (.Assign [.Name x px] (.ListComp elt [⟨target,iter,ifs,0⟩] sc pos) spos) (yI i (yH dit bnd js dt de)) :=
 ⟨yQ (jhH hc ho S hj hN hi' hx hi.h hg (fun a b c=>(ht a b c).h) (fun a b c=>(he a b c).h) hsw hs) fun D σ H h=>by
  have:=jaD h
  show jaA _ _ _ _ _ _ σ H _
  exact Uc B this⟩
abbrev DG:=PV->En->Option En
abbrev DGs:=List PV->En->Option En
def lftG (T:Tb) (g:DG):TG:=fun v σ H Q=>∃ W ρ M x ρ',W.T=T∧Held W M H∧yF W ρ σ∧Rep W x v∧g x ρ=some ρ'∧∀ σ',yF W ρ' σ'->Q σ' H
def lftGs (T:Tb) (g:DGs):TGs:=fun vs σ H Q=>∃ W ρ M xs ρ',W.T=T∧Held W M H∧yF W ρ σ∧yf W xs vs∧g xs ρ=some ρ'∧∀ σ',yF W ρ' σ'->Q σ' H
structure QG (X:Cx) (T:Tb) (tg:Expr) (g:DG):Prop where
 h:PG X tg (lftG T g)
structure QGs (X:Cx) (T:Tb) (tgs:List Expr) (g:DGs):Prop where
 h:PGs X tgs (lftGs T g)
variable {tg:Expr} {tgs:List Expr}
theorem jfl {t t':TG} (h:PG X tg t) (f:∀ v σ H Q,t' v σ H Q->t v σ H Q):PG X tg t':=fun pins s σ H v u Q I r q=>h pins s σ H v u Q I r (f v σ H Q q)
theorem jcL {t t':TGs} (h:PGs X tgs t) (f:∀ v σ H Q,t' v σ H Q->t v σ H Q):PGs X tgs t':=fun pins s σ H v u Q I r q=>h pins s σ H v u Q I r (f v σ H Q q)
def gN (i:Nat):DG:=fun x ρ=>some (ρ.set i (some x))
theorem xC {i:Nat} {x:Str} (hN:X.N.Nodup) (hi:X.N[i]? = some x) (hx:Loc X.env.scope x) (hf:X.fn x=true∨X.env.scope.names.lookup x=some .local:=by first | exact .inl rfl | exact .inr rfl | assumption):QG X T (.Name x pos) (gN i) :=
 ⟨jfl (jM hN hi hx hf) fun v σ H Q hQQ=>by
  obtain ⟨W,ρ,M,x,ρ',k,hh,hs,r,e,q⟩:=hQQ;cases e
  exact q _ (hs.set r)⟩
def jiZ:DGs:=fun xs ρ=>match xs with
 | []=>some ρ
 | _=>none
def Xe (g:DG) (gs:DGs):DGs:=fun xs ρ=>match xs with
 | x :: r=>(g x ρ).bind fun ρ1=>gs r ρ1
 | _=>none
theorem jhy:QGs X T [] jiZ:=⟨jcL jcK fun v σ H Q hQQ=>by
 obtain ⟨W,ρ,M,xs,ρ',k,hh,hs,r,e,q⟩:=hQQ
 cases xs with
 | nil=>cases e; cases r; exact ⟨rfl,q σ hs⟩
 | cons _ _=>cases e⟩
theorem Ji {g:DG} {gs:DGs} (h1:QG X T tg g) (h2:QGs X T tgs gs) (hs:(assignEach (tg :: tgs) X.env).map (·.2)=assign tg X.env :: (assignEach tgs X.env).map (·.2):=by rfl):QGs X T (tg :: tgs) (Xe g gs) :=
 ⟨jcL (YU h1.h h2.h hs) fun v σ H Q hQQ=>by
  obtain ⟨W,ρ,M,xs,ρ',k,hh,hs,r,e,q⟩:=hQQ
  cases xs with
  | nil=>cases e
  | cons x xr =>
   obtain ⟨u,ur,rfl,ra,rb⟩:=r;have e:(g x ρ).bind (fun ρ1=>gs xr ρ1)=some ρ':=e
   cases e1:g x ρ with
   | none=>rw [e1] at e; cases e
   | some ρ1 =>
    rw [e1] at e
    exact ⟨u,ur,rfl,W,ρ,M,x,ρ1,k,hh,hs,ra,e1,fun σ1 r1=>⟨W,ρ1,M,xr,ρ',k,hh,r1,rb,e,q⟩⟩⟩
def gT (n:Nat) (gs:DGs):DG:=fun x ρ=>match x with
 | .tup xs=>if xs.length=n then gs xs ρ else none
 | _=>none
theorem qg_tup {k:Nat} {gs:DGs} {n:Nat} (hT:T.K=X.K) (hc:X.calm=true) (h:QGs X T tgs gs) (hn:(assignEach tgs X.env).length=n:=by rfl) (hst:(assignEach tgs X.env).findIdx? (·.1)=none:=by rfl):QG X T (.Tuple tgs k pos) (gT n gs) :=
 ⟨jfl (jfk hc h.h hn hst) fun v σ H Q hQQ=>by
  obtain ⟨W,ρ,M,x,ρ',k,hh,hs,r,e,q⟩:=hQQ;unfold gT at e;split at e
  ·rename_i xs;split at e
   ·rename_i hl;obtain ⟨a,vs,rfl,ha,rr⟩:=vk hh r;rw [k,hT] at ha;exact ⟨a,vs,rfl,ha,by rw [rr.length]; exact hl,W,ρ,M,xs,ρ',k,hh,hs,rr,e,q⟩
   ·cases e
  ·cases e⟩
def jhr (d:DE) (g:DG):DS:=fun ρ M=>(d ρ M).st ρ fun v M1=>match g v ρ with
 | some ρ'=>.nx ρ' M1
 | none=>.bad
theorem qs_asg {g:DG} (he:QE X T ES e d) (hg:QG X T tg g) (hs:swapsWithSole [tg] e pos.line X.env=pure false:=by rfl) (hw:swappedStores [tg] e X.env=pure none:=by rfl)
  (h1:(assignEach [tg] X.env).map (·.2)=[assign tg X.env]:=by rfl):QS X T ES (.Assign [tg] e pos) (jhr d g):=⟨yQ (jfe he.h hg.h hs hw h1) fun D σ H hQQ=>yM hQQ fun W ρ M k hh hs q=>⟨W,ρ,M,k,hh,hs,yt.bind hs q fun W1 M1 x v H1 l1 h1 r1 q1=>by
 split at q1
 ·rename_i ρ' e1;exact ⟨W1,ρ,M1,x,ρ',l1.k.trans k,h1,hs.up l1,r1,e1,fun σ' r'=>q1 W1 σ' H1 (.refl W1) h1 r'⟩
 ·exact q1.elim⟩⟩
def sAug (i:Nat) (g:G2) (d:DE):DS:=fun ρ M=>match ρ[i]? with
 | some (some x)=>(d ρ M).st ρ fun y M1=>match g M1 x y with
  | some z=>.nx (ρ.set i (some z)) M1
  | none=>.bad
 | _=>.bad
theorem qs_aug {i:Nat} {x:Str} {op:Operator} {g:G2} {pos':Pos} (hN:X.N.Nodup) (hi:X.N[i]? = some x) (hx:Loc X.env.scope x) (he:QE X T ES e d) (ho:OpP X T (inplaceOp op) g) (hf:X.fn x=true∨X.env.scope.names.lookup x=some .local:=by first | exact .inl rfl | exact .inr rfl | assumption) :
  QS X T ES (.AugAssign (.Name x pos') op e pos) (sAug i g d):=⟨yQ (ps_aug (ti:=rP T g) hN hi hx he.h ho hf) fun D σ H hQQ=>by
 obtain ⟨W,ρ,M,k,hh,hs,q⟩:=hQQ;unfold sAug at q;split at q
 ·rename_i x e1;obtain ⟨v,e2,r2⟩:=hs.2 i x e1;refine ⟨v,e2,W,ρ,M,k,hh,hs,yt.bind hs q fun W1 M1 y u H1 l1 h1 r1 q1=>?_⟩;split at q1
  ·rename_i z e3;exact ⟨W1,M1,x,y,z,l1.k.trans k,h1,r2.up l1,r1,e3,fun W2 H2 w l2 h2 rz=>q1 W2 _ H2 l2 h2 (((hs.up l1).up l2).set rz)⟩
  ·exact q1.elim
 ·exact q.elim⟩
def jhC (M:Sto) (o i x:PV):Option Sto:=match o,i with
 | .ref j,.int k=>(match M.g j with
  | some (.lst xs)=>(ixN xs.length k).map fun n=>M.set j (.lst (xs.set n x))
  | _=>none)
 | _,_=>none
def jcz (d do_ di:DE):DS:=fun ρ M=>(d ρ M).st ρ fun x M1=>(do_ ρ M1).st ρ fun o M2=>(di ρ M2).st ρ fun i M3=>match jhC M3 o i x with
 | some M4=>.nx ρ M4
 | none=>.bad
theorem jcD {ip:Expr} {p2:Pos} (he:QE X T ES e d) (ho:QE X T ES o do_) (hi:QE X T ES ip di)
  (ha:∀ v,assign (.Subscript o ip p2) X.env v=(do
   let ov <- holding [v] (eval o X.env)
   let iv <- holding [v,ov] (eval ip X.env)
   standAt p2
   holding [v,ov,iv] (setItem ov iv v)
   release [v,ov,iv] []):=by intro _; rfl)
  (hs:swapsWithSole [.Subscript o ip p2] e pos.line X.env=pure false:=by rfl) (hw:swappedStores [.Subscript o ip p2] e X.env=pure none:=by rfl)
  (h1:(assignEach [.Subscript o ip p2] X.env).map (·.2)=[assign (.Subscript o ip p2) X.env]:=by rfl):QS X T ES (.Assign [.Subscript o ip p2] e pos) (jcz d do_ di) :=
 ⟨yQ (jfe he.h (pg_sub ho.h hi.h jeC ha) hs hw h1) fun D σ H hQQ=>yM hQQ fun W ρ M k hh hs q=>⟨W,ρ,M,k,hh,hs,yt.bind hs q fun W1 M1 x v H1 l1 h1 r1 q1=>by
  have hs1:=hs.up l1;refine ⟨W1,ρ,M1,l1.k.trans k,h1,hs1,yt.bind hs1 q1 fun W2 M2 o' ov H2 l2 h2 r2 q2=>?_⟩;have hs2:=hs1.up l2;refine ⟨W2,ρ,M2,l2.k.trans (l1.k.trans k),h2,hs2,yt.bind hs2 q2 fun W3 M3 i' iv H3 l3 h3 r3 q3=>?_⟩;split at q3
  ·rename_i M4 e4;unfold jhC at e4;split at e4
   ·rename_i j kk;split at e4
    ·rename_i xs e5
     cases e6:ixN xs.length kk with
     | none=>rw [e6] at e4; cases e4
     | some n =>
      rw [e6] at e4;cases e4;obtain ⟨a,rfl,ea⟩:=r2.up l3;obtain ⟨b',ob,g1,g2,g3,vs,rfl,rr⟩:=h3.m j _ e5;rw [ea] at g1;cases g1;have rx:=(r1.up l2).up l3;exact ⟨a,vs,kk,n,rfl,r3,g3,by rw [rr.length]; exact e6,q3 W3 σ _ (.refl W3) (h3.upd e5 ea ⟨_,rfl,rr.set rx n⟩) (hs2.up l3)⟩
    ·cases e4
   ·cases e4
  ·exact q3.elim⟩⟩
def vZ (p:ItP) (g:DG) (db:DS):Nat->Nat->En->Sto->RS
 | 0,_,_,_=>.bad
 | n + 1,i,ρ,M=>match nxt p M i with
  | none=>.bad
  | some none=>.nx ρ M
  | some (some x)=>match g x ρ with
   | none=>.bad
   | some ρ1=>match db ρ1 M with
    | .nx ρ2 M2=>vZ p g db n (i + 1) ρ2 M2
    | .ct ρ2 M2=>vZ p g db n (i + 1) ρ2 M2
    | .bk ρ2 M2=>.nx ρ2 M2
    | r=>r
def xN (g:DG) (db:DS):List PV->En->Sto->RS
 | [],ρ,M=>.nx ρ M
 | x :: xs,ρ,M=>match g x ρ with
  | none=>.bad
  | some ρ1=>match db ρ1 M with
   | .nx ρ2 M2=>xN g db xs ρ2 M2
   | .ct ρ2 M2=>xN g db xs ρ2 M2
   | .bk ρ2 M2=>.nx ρ2 M2
   | r=>r
theorem VL {all:List PV} {g:DG} {db:DS}:∀ {xs:List PV} {n i:Nat} {ρ:En} {M:Sto},all.drop i=xs->xs.length < n->vZ (.fix all) g db n i ρ M=xN g db xs ρ M
 | xs,0,i,ρ,M,e,h=>absurd h (Nat.not_lt_zero _)
 | [],n + 1,i,ρ,M,e,h=>by
  have:all[i]? = none:=List.getElem?_eq_none_iff.mpr (by
   have:=congrArg List.length e
   simp at this
   omega)
  unfold vZ;rw [show nxt (.fix all) M i=some (all[i]?) from rfl,this];rfl
 | x :: xs,n + 1,i,ρ,M,e,h=>by
  have e1:all[i]? = some x:=by
   have:=congrArg (fun l=>l[0]?) e
   simpa [List.getElem?_drop] using this
  have e2:all.drop (i + 1)=xs:=by
   have:=congrArg (List.drop 1) e
   simpa [List.drop_drop] using this
  have ih:∀ ρ M,vZ (.fix all) g db n (i + 1) ρ M=xN g db xs ρ M:=fun ρ M=>VL e2 (by simpa using h);unfold vZ;rw [show nxt (.fix all) M i=some (all[i]?) from rfl,e1];simp only [ih];rfl
def UK (F:Nat) (dit:En->Sto->Res ItP) (g:DG) (db:DS):DS:=fun ρ M=>(dit ρ M).st ρ fun p M1=>vZ p g db (match p with
 | .fix xs=>xs.length + 1
 | _=>F) 0 ρ M1
theorem ue {F:Nat} {dit:En->Sto->Res ItP} {g:DG} {db:DS} {ρ:En} {M M1:Sto} {xs:List PV} (h:dit ρ M = .ok (.fix xs) M1):UK F dit g db ρ M=xN g db xs ρ M1:=by
 unfold UK;rw [h];exact VL rfl (Nat.lt_succ_self _)
theorem YN {iter:Expr} {body:List Stmt} {dit:En->Sto->Res ItP} {g:DG} {db:DS} (F:Nat) (hp:PassesOwn (model X.prog X.w) X.A X.env X.xe) (hc:X.calm=true) (hi:QI X T ES tg iter dit) (hg:QG X T tg g) (hb:QSs X T ES body db) (hs:∀ x,foldedSetIterable iter X.env x=pure x:=by intro _; rfl) :
  QS X T ES (.For tg iter body [] pos) (UK F dit g db):=⟨yQ (ps_for hp hc hi.h hg.h hb.h hs) fun D σ H hQQ=>yM hQQ fun W ρ M k hh hs q=>⟨W,ρ,M,k,hh,hs,yt.bind hs q fun W0 M0 it J H0 l0 h0 ri q0=>by
 refine ⟨fun i m σ H=>∃ W ρ M,W0.le W∧Held W M H∧yF W ρ σ∧yt W (vZ it g db m i ρ M) D ES,⟨_,W0,ρ,M0,.refl W0,h0,hs.up l0,q0⟩,?_⟩;rintro i m σ1 H1 ⟨W1,ρ1,M1,l1,h1,r1,q1⟩;have k1:W1.T=T:=l1.k.trans (l0.k.trans k)
 cases m with
 | zero=>exact q1.elim
 | succ m =>
  unfold vZ at q1;obtain ⟨goes,stops⟩:=ri W1 M1 H1 l1.toLe0 h1 i;split at q1
  ·exact q1.elim
  ·rename_i en;exact .inl ⟨stops en,q1 W1 σ1 H1 (.refl W1) h1 r1⟩
  ·rename_i x en;obtain ⟨go,yld⟩:=goes x en;split at q1
   ·exact q1.elim
   ·rename_i ρ2 eg;refine .inr ⟨go,fun σ' H'=>∃ W ρ M,W0.le W∧Held W M H'∧yF W ρ σ'∧yt W (vZ it g db m (i + 1) ρ M) D ES,fun σ' H' n=>⟨m,Nat.lt_succ_self _,n⟩,fun v H2 hy=>?_⟩;obtain ⟨W2,l2,h2,rx⟩:=yld v H2 hy;refine ⟨W2,ρ1,M1,x,ρ2,l2.k.trans k1,h2,r1.up l2,rx,eg,fun σ2 r2=>⟨W2,ρ2,M1,l2.k.trans k1,h2,r2,?_⟩⟩;have l12:=l1.trans l2
    cases e:db ρ2 M1 with
    | nx ρ3 M3=>rw [e] at q1; exact fun W3 σ3 H3 l3 h3 r3=>⟨W3,ρ3,M3,l12.trans l3,h3,r3,yt.up (r:=vZ it g db m (i + 1) ρ3 M3) q1 (l2.trans l3)⟩
    | ct ρ3 M3=>rw [e] at q1; exact fun W3 σ3 H3 l3 h3 r3=>⟨W3,ρ3,M3,l12.trans l3,h3,r3,yt.up (r:=vZ it g db m (i + 1) ρ3 M3) q1 (l2.trans l3)⟩
    | bk ρ3 M3=>rw [e] at q1; exact fun W3 σ3 H3 l3 h3 r3=>q1 W3 σ3 H3 (l2.trans l3) h3 r3
    | rt v3 M3=>rw [e] at q1; exact fun W3 H3 u l3 h3 r3=>q1 W3 H3 u (l2.trans l3) h3 r3
    | exc c ρ3 M3 =>
     rw [e] at q1;intro W3 σ3 H3 l3 h3 r3
     have:=q1 W3 σ3 H3 (l2.trans l3) h3 r3
     rw [l2.k];exact this
    | bad=>rw [e] at q1; exact q1.elim⟩⟩
def yO (t:DT) (db:DS):Nat->En->Sto->RS
 | 0,_,_=>.bad
 | n + 1,ρ,M=>(t ρ M).st ρ fun c M1=>if c=true then (match db ρ M1 with
   | .nx ρ2 M2=>yO t db n ρ2 M2
   | .ct ρ2 M2=>yO t db n ρ2 M2
   | .bk ρ2 M2=>.nx ρ2 M2
   | r=>r) else .nx ρ M1
theorem jeL {body:List Stmt} {db:DS} (F:Nat) (hp:PassesOwn (model X.prog X.w) X.A X.env X.xe) (hc:QT X T ES c ta) (hb:QSs X T ES body db):QS X T ES (.While c body [] pos) (yO ta db F):=⟨yQ (jfb hp hc.h hb.h) fun D σ H hQQ=>by
 obtain ⟨W0,ρ,M,k,hh,hs,q⟩:=hQQ;refine ⟨fun m σ H=>∃ W ρ M,W0.le W∧Held W M H∧yF W ρ σ∧yt W (yO ta db m ρ M) D ES,⟨F,W0,ρ,M,.refl W0,hh,hs,q⟩,?_⟩;rintro m σ1 H1 ⟨W1,ρ1,M1,l1,h1,r1,q1⟩;have k1:W1.T=T:=l1.k.trans k
 cases m with
 | zero=>exact q1.elim
 | succ m =>
  unfold yO at q1;refine ⟨W1,ρ1,M1,k1,h1,r1,yt.bind r1 q1 fun W2 M2 b v H2 l2 h2 rb q2=>?_⟩;subst rb
  cases v with
  | false =>
   rw [if_neg (by simp)] at q2 ⊢;exact q2 W2 σ1 H2 (.refl W2) h2 (r1.up l2)
  | true =>
   rw [if_pos rfl] at q2 ⊢;refine ⟨fun σ' H'=>∃ W ρ M,W0.le W∧Held W M H'∧yF W ρ σ'∧yt W (yO ta db m ρ M) D ES,fun σ' H' n=>⟨m,Nat.lt_succ_self _,n⟩,W2,ρ1,M2,l2.k.trans k1,h2,r1.up l2,?_⟩;have l12:=l1.trans l2
   cases e:db ρ1 M2 with
   | nx ρ3 M3=>rw [e] at q2; exact fun W3 σ3 H3 l3 h3 r3=>⟨W3,ρ3,M3,l12.trans l3,h3,r3,yt.up (r:=yO ta db m ρ3 M3) q2 l3⟩
   | ct ρ3 M3=>rw [e] at q2; exact fun W3 σ3 H3 l3 h3 r3=>⟨W3,ρ3,M3,l12.trans l3,h3,r3,yt.up (r:=yO ta db m ρ3 M3) q2 l3⟩
   | bk ρ3 M3=>rw [e] at q2; exact q2
   | rt v3 M3=>rw [e] at q2; exact q2
   | exc c ρ3 M3=>rw [e] at q2; exact q2
   | bad=>rw [e] at q2; exact q2.elim⟩
end
end L3

namespace L3
open PySem L2
open PyProof.Rows (envOfC int_text_len_1921)
def spD (T:Tb) (D:List PV->Sto->Res PV):Sp:=fun vs H Q E=>∃ W pvs M,W.T=T∧Held W M H∧yf W pvs vs∧ym W Rep (D pvs M) Q E
def jdw (T:Tb) (D:List PV->Sto->Res PV):Sp:=fun vs H Q _=>∃ W pvs M v M',W.T=T∧Held W M H∧yf W pvs vs∧D pvs M = .ok v M'∧∀ W' H' u,W.le W'->Held W' M' H'->Rep W' v u->Q u H'
def fin:RS->Res PV
 | .rt v M=>.ok v M
 | .nx _ M=>.ok .non M
 | .exc k _ M=>.exc k M
 | _=>.bad
def yv (n N:Nat) (d:DS):List PV->Sto->Res PV:=fun pvs M=>if pvs.length=n then fin (d (pvs.map some ++ List.replicate (N - n) none) M) else .bad
def YV (D:List PV->Sto->Res PV):List PV->Sto->Res PV:=fun pvs M=>(D pvs M).noX
def both (D0 D1:List PV->Sto->Res PV):List PV->Sto->Res PV:=fun pvs M=>match D0 pvs M with
 | .ok v M'=>.ok v M'
 | _=>match D1 pvs M with
  | .exc k M'=>.exc k M'
  | _=>.bad
theorem jdv {W:Wd} {N:List Str} {n:Nat} {pvs:List PV} {vs:List V} (r:yf W pvs vs) (hn:pvs.length=n):yF W (pvs.map some ++ List.replicate (N.length - n) none) (L2.start N vs):=by
 unfold L2.start;have hl:=r.length;refine ⟨by simp; omega,fun i x e=>?_⟩
 by_cases hi:i < pvs.length
 ·rw [List.getElem?_append_left (by simpa using hi),List.getElem?_map] at e
  cases e1:pvs[i]? with
  | none=>rw [e1] at e; cases e
  | some y =>
   rw [e1] at e;cases e;obtain ⟨v,e2,r2⟩:=r.get e1;exact ⟨v,by rw [List.getElem?_append_left (by simp; omega),List.getElem?_map,e2]; rfl,r2⟩
 ·rw [List.getElem?_append_right (by simp; omega)] at e
  have:=List.mem_of_getElem? e
  have:=List.eq_of_mem_replicate this
  cases this
section
variable {P:Program} {w:World} {K:PySem.W.Frag} {mg:Str->Option Value} {base:Heap} {x qual:Str} {st:Stmt} {f:Addr} {fd:FuncData} {N ps:List Str} {k:Nat} {T:Tb} {d:DS} {D D0 D1:List PV->Sto->Res PV}
theorem jbe {n:Nat} {pvs:List PV} {M:Sto} (h:yv n k d pvs M≠.bad):pvs.length=n:=by
 unfold yv at h;split at h
 ·assumption
 ·exact absurd rfl h
theorem jgj {W:Wd} {r:RS} {Q:VK} {E:XK} (h:ym W Rep (fin r) Q E):yt W r { nx:=fun _ H'=>Q .non H',rt:=Q } fun _=>E:=by
 cases r with
 | nx ρ M=>exact fun W' σ' H' le hh _=>h W' H' .non le hh rfl
 | rt v M=>exact h
 | bk ρ M=>exact h.elim
 | ct ρ M=>exact h.elim
 | exc c ρ M=>exact fun W' σ' H' le hh _=>h W' H' le hh
 | bad=>exact h.elim
theorem jbc {n:Nat} {vs:List V} {H:Hp} {Q:VK} {E:XK} (h:spD T (yv n N.length d) vs H Q E):jfQ T (fun _=>E) d { nx:=fun _ H'=>Q .non H',rt:=Q } (L2.start N vs) H:=by
 obtain ⟨W,pvs,M,kT,hh,r,p⟩:=h
 have hn:pvs.length=n:=jbe (M:=M) (d:=d) (k:=N.length) fun z=>by rw [z] at p; exact p
 have p:ym W Rep (if pvs.length=n then fin (d (pvs.map some ++ List.replicate (N.length - n) none) M) else .bad) Q E:=p;rw [if_pos hn] at p;exact ⟨W,_,M,kT,hh,jdv r hn,jgj p⟩
theorem jcy {n:Nat} {vs:List V} {H:Hp} {Q:VK} {E:XK} (h:spD T (yv n N.length d) vs H Q E):vs.length=n:=by
 obtain ⟨W,pvs,M,kT,hh,r,p⟩:=h
 have hn:pvs.length=n:=jbe (M:=M) (d:=d) (k:=N.length) fun z=>by rw [z] at p; exact p
 rw [r.length,hn]
theorem spOk_D {D:List PV->Sto->Res PV} {vs:List V} {H:Hp} {Q:VK} {E:XK} (h:jdw T D vs H Q E):spD T D vs H Q E:=by
 obtain ⟨W,pvs,M,v,M',kT,hh,r,e,q⟩:=h;exact ⟨W,pvs,M,kT,hh,r,by rw [e]; exact q⟩
theorem jL (F:Fun K x qual st f fd) (S:FnScope N ps (jc st)) (hb:∀ (cdv:Value) (A:Around) (outer:List Env) (s:Shared) (H:Hp) (E:XK),Room k (A.deeper (envOfC qual (jc st) s.heap.objs.size f cdv)) ->
  QSs (vX (CX1 P w) P w K mg base N qual (jc st) f cdv A outer s H E) T (fun _=>E) (jj st) d):FnOk P w K mg base (CX1 P w) (k + 1) f fd ps (spD T (yv ps.length N.length d)) :=
 F.okX S (fun _ _ _ _ h=>jcy h) fun cdv A outer s H vs Q E hr h=>⟨_,(hb cdv A outer s H E hr).h,jbc h⟩
theorem jbd (F:Fun K x qual st f fd) (S:FnScope N ps (jc st)) (hb:∀ (cdv:Value) (A:Around) (outer:List Env) (s:Shared) (H:Hp) (E:XK),Room k (A.deeper (envOfC qual (jc st) s.heap.objs.size f cdv)) ->
  QSs (vX CX0 P w K mg base N qual (jc st) f cdv A outer s H E).nox T ES0 (jj st) d):FnOk P w K mg base CX0 (k + 1) f fd ps (jdw T (yv ps.length N.length d)) :=
 F.ok S (fun _ _ _ _ h=>jcy (spOk_D h)) fun cdv A outer s H vs Q E hr h=>⟨_,(hb cdv A outer s H E hr).h,by
  obtain ⟨W,pvs,M,v,M',kT,hh,r,e,q⟩:=h
  exact jbc (E:=E0) ⟨W,pvs,M,kT,hh,r,by rw [e]; exact q⟩⟩
theorem Xp (F:FnOk P w K mg base CX0 k f fd ps (jdw T D)):FnOk P w K mg base (CX1 P w) k f fd ps (spD T (YV D)):=F.up.imp fun vs H Q E hQQ=>by
 obtain ⟨W,pvs,M,kT,hh,r,p⟩:=hQQ;unfold YV at p
 cases e:D pvs M with
 | ok v M'=>rw [e] at p; exact ⟨W,pvs,M,v,M',kT,hh,r,e,p⟩
 | exc _ _=>rw [e] at p; exact p.elim
 | bad=>rw [e] at p; exact p.elim
theorem jgu (F:FnOk P w K mg base CX0 k f fd ps (jdw T D0)) (G:FnOk P w K mg base (CX1 P w) k f fd ps (spD T D1)):FnOk P w K mg base (CX1 P w) k f fd ps (spD T (both D0 D1)):=(F.up.or G).imp fun vs H Q E hQQ=>by
 obtain ⟨W,pvs,M,kT,hh,r,p⟩:=hQQ;unfold both at p
 cases e:D0 pvs M with
 | ok v M'=>rw [e] at p; exact .inl ⟨W,pvs,M,v,M',kT,hh,r,e,p⟩
 | exc c M' =>
  rw [e] at p
  cases e1:D1 pvs M with
  | exc c' M1=>rw [e1] at p; exact .inr ⟨W,pvs,M,kT,hh,r,by rw [e1]; exact p⟩
  | ok _ _=>rw [e1] at p; exact p.elim
  | bad=>rw [e1] at p; exact p.elim
 | bad =>
  rw [e] at p
  cases e1:D1 pvs M with
  | exc c' M1=>rw [e1] at p; exact .inr ⟨W,pvs,M,kT,hh,r,by rw [e1]; exact p⟩
  | ok _ _=>rw [e1] at p; exact p.elim
  | bad=>rw [e1] at p; exact p.elim
end
inductive Sl where
 | p (i:Nat) | k (j:Nat) | d (n:Nat)
def gen {α:Type} (sp:List Sl) (ds us ws:List α):List α:=sp.filterMap fun
 | .p i=>us[i]?
 | .k j=>ws[j]?
 | .d n=>ds[n]?
def yq {α:Type} (a b:Nat) (sp:List Sl) (ds us ws:List α):List α:=if us.length=a∧ws.length=b then gen sp ds us ws else []
theorem jaU {dV:List V} {ds:List Value} {vs:List V} {us:List Value} {zs:List V} {ws:List Value} (hd:yj dV ds) (hu:yj vs us) (hw:yj zs ws):∀ (sp:List Sl),yj (gen sp dV vs zs) (gen sp ds us ws)
 | []=>.nil
 | c :: r=>by
  have ih:=jaU hd hu hw r
  have get:∀ {xs:List V} {ys:List Value} (i:Nat),yj xs ys->(∃ x y,xs[i]? = some x∧ys[i]? = some y∧yl x y)∨(xs[i]? = none∧ys[i]? = none):=fun {xs ys} i h=>by
   cases e:xs[i]? with
   | none=>exact .inr ⟨rfl,h.none_of e⟩
   | some x =>
    obtain ⟨y,e2,r2⟩:=h.get e;exact .inl ⟨x,y,rfl,e2,r2⟩
  unfold gen;rw [List.filterMap_cons,List.filterMap_cons]
  cases c with
  | p i =>
   rcases get i hu with ⟨x,y,e1,e2,r2⟩ | ⟨e1,e2⟩
   ·simp only [e1,e2]; exact .cons r2 ih
   ·simp only [e1,e2]; exact ih
  | k i =>
   rcases get i hw with ⟨x,y,e1,e2,r2⟩ | ⟨e1,e2⟩
   ·simp only [e1,e2]; exact .cons r2 ih
   ·simp only [e1,e2]; exact ih
  | d i =>
   rcases get i hd with ⟨x,y,e1,e2,r2⟩ | ⟨e1,e2⟩
   ·simp only [e1,e2]; exact .cons r2 ih
   ·simp only [e1,e2]; exact ih
theorem jaV {W:Wd} {dP:List PV} {dV:List V} {pus:List PV} {vs:List V} {pws:List PV} {zs:List V} (hd:yf W dP dV) (hu:yf W pus vs) (hw:yf W pws zs):∀ (sp:List Sl),yf W (gen sp dP pus pws) (gen sp dV vs zs)
 | []=>rfl
 | c :: r=>by
  have ih:=jaV hd hu hw r
  have get:∀ {xs:List PV} {ys:List V} (i:Nat),yf W xs ys->(∃ x y,xs[i]? = some x∧ys[i]? = some y∧Rep W x y)∨(xs[i]? = none∧ys[i]? = none):=fun {xs ys} i h=>by
   cases e:xs[i]? with
   | none =>
    refine .inr ⟨rfl,List.getElem?_eq_none_iff.mpr ?_⟩;rw [h.length];exact List.getElem?_eq_none_iff.mp e
   | some x =>
    obtain ⟨y,e2,r2⟩:=h.get e;exact .inl ⟨x,y,rfl,e2,r2⟩
  unfold gen;rw [List.filterMap_cons,List.filterMap_cons]
  cases c with
  | p i =>
   rcases get i hu with ⟨x,y,e1,e2,r2⟩ | ⟨e1,e2⟩
   ·simp only [e1,e2]; exact ⟨y,_,rfl,r2,ih⟩
   ·simp only [e1,e2]; exact ih
  | k i =>
   rcases get i hw with ⟨x,y,e1,e2,r2⟩ | ⟨e1,e2⟩
   ·simp only [e1,e2]; exact ⟨y,_,rfl,r2,ih⟩
   ·simp only [e1,e2]; exact ih
  | d i =>
   rcases get i hd with ⟨x,y,e1,e2,r2⟩ | ⟨e1,e2⟩
   ·simp only [e1,e2]; exact ⟨y,_,rfl,r2,ih⟩
   ·simp only [e1,e2]; exact ih
theorem jH {K:PySem.W.Frag} {fd:FuncData} {p0:Str} {pr ks:List Str} {a b:Nat} {sp:List Sl} {dV:List V} {ds:List Value} (hd:yj dV ds)
  (h:∀ (s:Shared) (us ws:List Value),K.In s.heap->us.length=a->ws.length=b->BindsTo s fd ⟨us,ks.zip ws⟩ ((p0 :: pr).zip (gen sp ds us ws))):KBinds K fd (p0 :: pr) ks (yq a b sp ds) (yq a b sp dV) where
 to:=fun s us ws KX hl=>by
  unfold yq at hl ⊢
  by_cases hc:us.length=a∧ws.length=b
  ·rw [if_pos hc] at hl ⊢;exact h s us ws KX hc.1 hc.2
  ·rw [if_neg hc] at hl;cases hl
 rel:=fun {vs us zs ws} hu hw=>by
  unfold yq;rw [hu.length,hw.length];split
  ·exact jaU hd hu hw sp
  ·exact .nil
structure CalD (P:Program) (w:World) (K:PySem.W.Frag) (mg:Str->Option Value) (base:Heap) (T:Tb) (x:Str) (j:Nat) (ps ks:List Str) (a b:Nat) (sl:List Sl) (dP:List PV) (D:List PV->Sto->Res PV):Prop where
 ex:∃ f fd dV ds,FnOk P w K mg base (CX1 P w) j f fd ps (spD T D)∧mg x=some (.ref f)∧PySem.W.keepIn K (.ref f)=true∧KBinds K fd ps ks (yq a b sl ds) (yq a b sl dV)∧∀ W:Wd,W.T=T->yf W dP dV
def jq (D:List PV->Sto->Res PV) (a b:Nat) (sl:List Sl) (dP:List PV) (da dk:DA):DE:=fun ρ M=>(da ρ M).bind fun xs M1=>(dk ρ M1).bind fun zs M2=>D (yq a b sl dP xs zs) M2
section
variable {X:Cx} {T:Tb} {ES:St->XK} {x:Str} {j:Nat} {ps ks:List Str} {a b:Nat} {sl:List Sl} {dP:List PV} {D:List PV->Sto->Res PV} {p pos:Pos} {e:Expr} {es:List Expr} {kws:List Keyword} {da dk:DA}
theorem vF {W:Wd} {dV:List V} {pus:List PV} {vs:List V} {pws:List PV} {zs:List V} (hd:yf W dP dV) (hu:yf W pus vs) (hw:yf W pws zs):yf W (yq a b sl dP pus pws) (yq a b sl dV vs zs):=by
 unfold yq;rw [hu.length,hw.length];split
 ·exact jaV hd hu hw sl
 ·rfl
theorem jA:xG (CX1 X.prog X.w) X ES0:=fun pins σ H s e s' I h=>by
 obtain ⟨_,_,_,_,_,_,_,_,_,_,_,_,_,_,q⟩:=h;exact q.elim
theorem jE {P:Program} {w:World} {K:PySem.W.Frag} {mg:Str->Option Value} {base:Heap} {N:List Str} {qual:Str} {scope:Scope} {f:Addr} {cd:Value} {A:Around} {outer:List Env} {s₀:Shared} {H₀:Hp} {E:XK} :
  xG (CX1 P w) (vX (CX1 P w) P w K mg base N qual scope f cd A outer s₀ H₀ E) fun _=>E:=fun pins σ H s e s' I h=>jiB pins σ H s e s' I h
theorem jcB {f:Addr} {fd:FuncData} {dV:List V} {ds:List Value} {pins:List (Addr × Obj)} {σ:St} {H:Hp} {s:Shared} {Q:VK} {us ws:List Value} {vs zs:List V} {sp:Sp} (F:FnOk X.prog X.w X.K X.mg X.base (CX1 X.prog X.w) j f fd ps sp) (hr:Room j X.A) (hb:KBinds X.K fd ps ks (yq a b sl ds) (yq a b sl dV)) (hx:xG (CX1 X.prog X.w) X ES)
  (I:Inv X pins σ H s) (r:yj vs us) (rz:yj zs ws) (h:sp (yq a b sl dV vs zs) H Q (ES σ)):wpAny (model X.prog X.w) X.A (call (.ref f) us (ks.zip ws)) (EP X pins σ Q) X.xe s:=by
 have r2:=hb.rel r rz
 have hl:(yq a b sl ds us ws).length=ps.length:=by rw [<- r2.length]; exact F.len _ _ _ _ h
 refine wpAny_call (codeAny_mono (F.run X.A X.stack s H ⟨us,ks.zip ws⟩ (yq a b sl ds us ws) (yq a b sl dV vs zs) Q (ES σ) hr I.env0 (hb.to s us ws I.kIn hl) r2 h) fun r s' hq=>?_)
 match r,hq with
 | .error e,hq=>exact hx pins σ H s e s' I hq
 | .ok (.ret u),hq=>exact I.after hq
theorem ji (C:CalD X.prog X.w X.K X.mg X.base T x j ps ks a b sl dP D) (hr:Room j X.A) (hg:Gl X x) (hx:xG (CX1 X.prog X.w) X ES) (ha:QA X T ES (e :: es) da) (hkw:QK X T ES kws dk)
  (hall:(backToKw pos (keywordEach kws X.env)).all (·.1.isSome)=true:=by rfl) (hks:(backToKw pos (keywordEach kws X.env)).filterMap (·.1)=ks:=by rfl)
  (hdb:(x == ("__debug__":Str))=false:=by decide) (he:starEach (e :: es) X.env=(false,eval e X.env) :: starEach es X.env:=by rfl)
  (hpl:((backTo pos (starEach (e :: es) X.env)).any (·.1) || (backToKw pos (keywordEach kws X.env)).any (·.1.isNone))=false:=by rfl):QE X T ES (.Call (.Name x p) (e :: es) kws pos) (jq D a b sl dP da dk):=⟨by
 obtain ⟨f,fd,dV,ds,F,hm,hk,hb,hdV⟩:=C.ex;rintro pins s σ H Q I ⟨W,ρ,M,k,hh,hs,q⟩;refine wpAny_Call_Name_kw (Yt I hg hm ?_ hdb)
 refine PySem.W.callWith_KW (h₀:=X.base) I.ok.mod.kin hk hall (thn (ha.h pos pins s σ H _ I ⟨W,ρ,M,k,hh,hs,ym.bind (Q1:=fun vs H1=>∃ W1 M1 xs,W1.T=T∧Held W1 M1 H1∧yF W1 ρ σ∧yf W1 xs vs∧ym W1 Rep ((dk ρ M1).bind fun zs M2=>D (yq a b sl dP xs zs) M2) Q (ES σ)) q
   fun W1 M1 xs vs H1 l1 h1 r1 q1=>⟨W1,M1,xs,l1.k.trans k,h1,hs.up l1,r1,q1⟩⟩) fun us s1 hQQ=>?_) hpl he
 obtain ⟨vs,H1,I1,r,W1,M1,xs,k1,h1,hs1,r1,q1⟩:=hQQ;refine thn (hkw.h pos pins s1 σ H1 (fun zs H2=>spD T D (yq a b sl dV vs zs) H2 Q (ES σ)) I1 ⟨W1,ρ,M1,k1,h1,hs1,ym.bind q1 fun W2 M2 zs' zs H2 l2 h2 r2 q2=>⟨W2,_,M2,l2.k.trans k1,h2,vF (hdV W2 (l2.k.trans k1)) (r1.up l2) r2,q2⟩⟩) fun ws s2 hQQ=>?_;obtain ⟨zs,H2,I2,rz,q2⟩:=hQQ;refine ⟨I2.kIn,?_⟩;rw [hks]
 exact jcB F hr hb hx I2 r rz q2⟩
def xK (c:Nat) (ds:DA):DS:=fun ρ M=>(ds ρ M).st ρ fun vs M1=>if vs.length<=sizeLine then .exc c ρ M1 else .bad
theorem xc {P:Program} {w:World} {K:PySem.W.Frag} {mg:Str->Option Value} {base:Heap} {N:List Str} {qual:Str} {scope:Scope} {f:Addr} {cd:Value} {A:Around} {outer:List Env} {s₀:Shared} {H₀:Hp} {E:XK}
  {x:Str} {c:Nat} {np cpos pos:Pos} {e:Expr} {es:List Expr} {ds:DA} (hC:Exc K mg x (T.C c)) (hg:Gl (vX (CX1 P w) P w K mg base N qual scope f cd A outer s₀ H₀ E) x) (ha:QA (vX (CX1 P w) P w K mg base N qual scope f cd A outer s₀ H₀ E) T (fun _=>E) (e :: es) ds)
  (hdb:(x == ("__debug__":Str))=false:=by decide)
  (he:starEach (e :: es) (envOfC qual scope s₀.heap.objs.size f cd)=(false,eval e (envOfC qual scope s₀.heap.objs.size f cd)) :: starEach es (envOfC qual scope s₀.heap.objs.size f cd):=by rfl)
  (hpl:(backTo cpos (starEach es (envOfC qual scope s₀.heap.objs.size f cd))).any (·.1)=false:=by rfl) :
  QS (vX (CX1 P w) P w K mg base N qual scope f cd A outer s₀ H₀ E) T (fun _=>E) (.Raise (some (.Call (.Name x np) (e :: es) [] cpos)) none pos) (xK c ds) :=
 ⟨yQ (jfc hC hg ha.h hdb he hpl) fun D σ H hQQ=>yM hQQ fun W ρ M k hh hs q=>⟨W,ρ,M,k,hh,hs,yt.bind hs q fun W1 M1 xs vs H1 l1 h1 r1 q1=>by
  split at q1
  ·rename_i hz
   have:=q1 W1 σ H1 (.refl W1) h1 (hs.up l1)
   rw [l1.k,k] at this;exact ⟨by rw [r1.length]; exact hz,this⟩
  ·exact q1.elim⟩⟩
structure QJ (X:Cx) (T:Tb) (ES:St->XK) (n:Nat) (es:List Expr) (d:En->Sto->Str->Res Str):Prop where
 h:∀ (out:Str),out.length<=n->PJ X es fun σ H o Q=>o=out∧lft T (fun _ a b=>b=a) ES (fun ρ M=>d ρ M out) σ H Q
theorem jfi {t t':TJ} (h:PJ X es t) (f:∀ σ H o Q,t' σ H o Q->t σ H o Q):PJ X es t':=fun pins s σ H o Q I q=>h pins s σ H o Q I (f σ H o Q q)
def jNil:En->Sto->Str->Res Str:=fun _ M out=>.ok out M
def jij (x:Str) (d:En->Sto->Str->Res Str):En->Sto->Str->Res Str:=fun ρ M out=>d ρ M (out ++ x)
def jik (de:DE) (d:En->Sto->Str->Res Str):En->Sto->Str->Res Str:=fun ρ M out=>(de ρ M).bind fun v M1=>match v with
 | .int i=>if xy i=true then d ρ M1 (out ++ Str.ofString (toString i)) else .bad
 | _=>.bad
theorem qj_nil {n:Nat} (hn:n<=sizeLine):QJ X T ES n [] jNil:=⟨fun out ho=>jfi pj_nil fun σ H o Q hQQ=>by
 obtain ⟨e,W,ρ,M,k,hh,hs,q⟩:=hQQ;subst e
 exact ⟨Nat.le_trans ho hn,q W H _ (.refl W) hh rfl⟩⟩
theorem UE (a b:Str):(a ++ b).length=a.length + b.length:=by
 show (a.cps ++ b.cps).size=a.cps.size + b.cps.size;exact Array.size_append
theorem jeN {n:Nat} {x:Str} {c:Nat} {cp:Pos} {d:En->Sto->Str->Res Str} (hx:x.length<=2000) (hn:n + 2000<=sizeLine) (hr:QJ X T ES (n + 2000) es d) (hs:evalEach (.Constant (.str x) c cp :: es) X.env=eval (.Constant (.str x) c cp) X.env :: evalEach es X.env:=by rfl):QJ X T ES n (.Constant (.str x) c cp :: es) (jij x d) :=
 ⟨fun out ho=>by
  have hl:(out ++ x).length<=n + 2000:=by rw [UE]; omega
  exact jfi (jcJ (jfm (X:=X)) (hr.h (out ++ x) hl) hs) fun σ H o Q hQQ=>by
   obtain ⟨e,W,ρ,M,k,hh,hs,q⟩:=hQQ;subst e
   exact ⟨x,rfl,Nat.le_trans hl hn,rfl,W,ρ,M,k,hh,hs,q⟩⟩
theorem JJ {i:Int} (h:xy i=true):i.natAbs.log2 < 1920:=by
 obtain ⟨h1,h2⟩:=yz.mp h
 by_cases h0:i.natAbs=0
 ·rw [h0]; decide
 ·have:i.natAbs < 2 ^ 1920:=Nat.lt_of_le_of_lt (show i.natAbs<=2 ^ 62 by omega) (Nat.pow_lt_pow_right (by decide) (by decide))
  exact (Nat.log2_lt h0).mpr this
theorem jeO {n:Nat} {de:DE} {cp:Pos} {d:En->Sto->Str->Res Str} (he:QE X T ES e de) (hn:n + 2000<=sizeLine) (hr:QJ X T ES (n + 2000) es d) (hs:evalEach (.FormattedValue e (-1) none cp :: es) X.env=eval (.FormattedValue e (-1) none cp) X.env :: evalEach es X.env:=by rfl):QJ X T ES n (.FormattedValue e (-1) none cp :: es) (jik de d) :=
 ⟨fun out ho=>fun pins s σ H o Q I hQQ=>by
  obtain ⟨eo,W,ρ,M,k,hh,hsρ,q⟩:=hQQ;subst eo;refine jcJ (t:=fun σ H o' Q=>∃ (i:Int),xy i=true∧o'=o ++ Str.ofString (toString i)∧lft T (fun _ a b=>b=a) ES (fun ρ M=>d ρ M (o ++ Str.ofString (toString i))) σ H Q) (jhO he.h) (fun pins s σ H o' Q I ⟨i,hi,eo,hq⟩=>?_) hs pins s σ H o Q I ?_
  ·have hl:(o ++ Str.ofString (toString i)).length<=n + 2000:=by
    rw [UE]
    have:=int_text_len_1921 (JJ hi)
    omega
   exact (hr.h _ hl) pins s σ H o' Q I ⟨eo,hq⟩
  ·refine ⟨W,ρ,M,k,hh,hsρ,ym.bind q fun W1 M1 v u H1 l1 h1 r1 q1=>?_⟩;split at q1
   ·rename_i i;split at q1
    ·rename_i hi;refine ⟨i,r1,JJ hi,_,rfl,?_,i,hi,rfl,W1,ρ,M1,l1.k.trans k,h1,hsρ.up l1,q1⟩;rw [UE]
     have:=int_text_len_1921 (JJ hi)
     show o.length + (Str.ofString (toString i)).length<=sizeLine;omega
    ·exact q1.elim
   ·exact q1.elim⟩
def jgO (d:En->Sto->Str->Res Str):DE:=fun ρ M=>(d ρ M Str.empty).bind fun z M1=>.ok (.str z) M1
theorem jhA {e2:Expr} {d:En->Sto->Str->Res Str} (h:QJ X T ES 0 (e :: e2 :: es) d) (hs:evalEach (e :: e2 :: es) X.env=eval e X.env :: eval e2 X.env :: evalEach es X.env:=by rfl):QE X T ES (.JoinedStr (e :: e2 :: es) pos) (jgO d) :=
 ⟨jQ (jhN (h.h Str.empty (by decide)) hs) fun σ H Q hQQ=>jF hQQ fun W ρ M k hh hs q=>⟨rfl,W,ρ,M,k,hh,hs,ym.bind q fun W1 M1 z u H1 l1 h1 r1 q1=>by
  subst r1
  exact q1 W1 H1 _ (.refl W1) h1 rfl⟩⟩
end
end L3

namespace L3
open PySem L2
abbrev GM:=Sto->PV->List PV->Option (PV × Sto)
def rM (T:Tb) (g:GM):V->List V->Hp->VK->Prop:=fun v vs H Q=>∃ W M x xs z M',W.T=T∧Held W M H∧Rep W x v∧yf W xs vs∧g M x xs=some (z,M')∧∀ W' H' v',W.le W'->Held W' M' H'->Rep W' z v'->Q v' H'
def dMt (g:GM) (do_:DE) (da:DA):DE:=fun ρ M=>(do_ ρ M).bind fun x M1=>match yZ M1 x with
 | none=>.bad
 | some _=>(da ρ M1).bind fun xs M2=>match g M2 x xs with
  | some (z,M3)=>.ok z M3
  | none=>.bad
section
variable {X:Cx} {T:Tb} {ES:St->XK} {o e:Expr} {es:List Expr} {name:Str} {apos cpos:Pos} {mid:String} {g:GM} {do_:DE} {da:DA}
theorem jcO {r r':V->List V->Hp->VK->Prop} (h:MtR X mid r) (k:∀ x xs H Q,r' x xs H Q->r x xs H Q):MtR X mid r':=fun pins s σ H x xs v us Q I rx rs q=>h pins s σ H x xs v us Q I rx rs (k _ _ _ _ q)
theorem jeR (slot:Slot "list" name mid) (hty:typeOf (.builtin mid)=pure (.type "method_descriptor")) (hm:MtR X mid (rM T g)) (ho:QE X T ES o do_) (ha:QA X T ES (e :: es) da)
  (hbase:attributeBase o name X.env (eval o X.env)=eval o X.env:=by rfl)
  (hfew:((backTo cpos (starEach (e :: es) X.env)).all (fun x=>!x.1) && (backToKw cpos (keywordEach [] X.env)).all (fun x=>x.1.isSome)
   && decide ((e :: es).length + ([]:List Keyword).length + (if ([]:List Keyword).isEmpty then 0 else 1) < 30))=true:=by rfl)
  (hline:(apos.endLine == cpos.line)=true:=by rfl) (hs:starEach (e :: es) X.env=(false,eval e X.env) :: starEach es X.env:=by rfl) (hplain:(backTo cpos (starEach es X.env)).any (·.1)=false:=by rfl) :
  QE X T ES (.Call (.Attribute o name apos) (e :: es) [] cpos) (dMt g do_ da) :=
 ⟨jQ (pe_bm PySem.F.plainAttrs_list slot hty hm ho.h ha.h hbase hfew hline hs hplain) fun σ H Q hQQ=>jF hQQ fun W ρ M k hh hs q=>⟨W,ρ,M,k,hh,hs,ym.bind q fun W1 M1 x v H1 l1 h1 r1 q1=>by
  split at q1
  ·exact q1.elim
  ·rename_i ys e1;obtain ⟨a,vs,rfl,ha,_⟩:=xv h1 r1 e1;refine ⟨.inl ⟨rfl,vs,SqL.of ha⟩,W1,ρ,M1,l1.k.trans k,h1,hs.up l1,ym.bind q1 fun W2 M2 xs us H2 l2 h2 r2 q2=>?_⟩;split at q2
   ·rename_i z M3 e2;exact ⟨W2,M2,x,xs,z,M3,l2.k.trans (l1.k.trans k),h2,r1.up l2,r2,e2,q2⟩
   ·exact q2.elim⟩⟩
def Ug (M:Sto):PV->Option (Nat × List PV)
 | .ref i=>(match M.g i with
  | some (.lst xs)=>some (i,xs)
  | _=>none)
 | _=>none
theorem jdg {W:Wd} {M:Sto} {H:Hp} {x:PV} {v:V} {i:Nat} {xs:List PV} (hh:Held W M H) (r:Rep W x v) (e:Ug M x=some (i,xs)):∃ a vs,v = .ref a∧W.α i=some a∧M.g i=some (.lst xs)∧H a=some (.lst vs)∧yf W xs vs:=by
 cases x with
 | ref j =>
  have e:(match M.g j with
   | some (.lst xs)=>some (j,xs)
   | _=>none)=some (i,xs):=e
  split at e
  ·rename_i ys e1;cases e;obtain ⟨a,rfl,ea⟩:=r;obtain ⟨b,ob,h1,h2,h3,vs,rfl,rr⟩:=hh.m _ _ e1;rw [ea] at h1;cases h1;exact ⟨a,vs,rfl,ea,e1,h3,rr⟩
  ·cases e
 | _=>cases e
def vg:GM:=fun M x ys=>match Ug M x,ys with
 | some (i,xs),[y]=>if xs.length < sizeLine then some (.non,M.set i (.lst (xs ++ [y]))) else none
 | _,_=>none
theorem jaR:MtR X "list.append" (rM T vg):=jcO VJ fun v vs H Q hQQ=>by
 obtain ⟨W,M,x,ys,z,M',k,hh,rx,ry,e,q⟩:=hQQ;unfold vg at e;split at e
 ·rename_i i xs y e1;split at e
  ·rename_i hz;cases e;obtain ⟨a,ws,rfl,ea,eg,ha,rr⟩:=jdg hh rx e1;obtain ⟨u,rfl,ru⟩:=uE ry;refine ⟨a,ws,u,rfl,rfl,ha,by rw [rr.length]; exact hz,q W _ _ (.refl W) (hh.upd eg ea ⟨_,rfl,rr.append ⟨u,[],rfl,ru,rfl⟩⟩) rfl⟩
  ·cases e
 ·cases e
def Xh:GM:=fun M x ys=>match Ug M x,ys with
 | some (i,xs),[.int k]=>if 0<=k∧k < xs.length∧k < 2 ^ 62 then (xs[k.toNat]?).map fun y=>(y,M.set i (.lst (xs.eraseIdx k.toNat))) else none
 | _,_=>none
theorem jid:MtR X "list.pop" (rM T Xh):=jcO jfJ fun v vs H Q hQQ=>by
 obtain ⟨W,M,x,ys,z,M',k,hh,rx,ry,e,q⟩:=hQQ;unfold Xh at e;split at e
 ·rename_i i xs kk e1;split at e
  ·rename_i hz
   cases e2:xs[kk.toNat]? with
   | none=>rw [e2] at e; cases e
   | some y =>
    rw [e2] at e;cases e;obtain ⟨a,ws,rfl,ea,eg,ha,rr⟩:=jdg hh rx e1;obtain ⟨n,rfl,rn⟩:=uE ry;have rn:n = .int kk:=rn;subst rn;obtain ⟨u,e3,r3⟩:=rr.get e2;have hl:=rr.length;refine ⟨a,ws,kk,kk.toNat,u,rfl,rfl,ha,by omega,by omega,?_,e3,q W _ _ (.refl W) (hh.upd eg ea ⟨_,rfl,rr.erase _⟩) r3⟩;exact seqIndex_of hz.1 (by rw [hl]; exact hz.2.1)
  ·cases e
 ·cases e
def gScr:G2:=fun _ x y=>match x,y with
 | .scr ns,.lst []=>some (.bl (!ns.isEmpty))
 | _,_=>none
theorem o_scr (hT:T.K=X.K) (hu:X.A.units < cLine):OpP X T (compareOp .NotEq) gScr:=xp (op_neL hu) fun v u H Q hQQ=>by
 obtain ⟨W,M,x,y,w,k,hh,rx,ry,e,q⟩:=hQQ;unfold gScr at e;split at e
 ·rename_i ns;cases e;obtain ⟨a,rfl,hq,_⟩:=rx;obtain ⟨b,us,rfl,hb,rr⟩:=ry;cases rr
  have hq:SqL X.K H a (ns.map V.int):=by
   have:=(show jer W.F H from hh.f).seq hq
   rw [k,hT] at this;exact this
  refine ⟨a,b,ns.map V.int,[],rfl,rfl,hq,SqL.of (hh.f _ _ hb),?_,rfl,q W H _ (.refl W) hh ?_⟩
  ·rw [List.all_map];exact List.all_eq_true.mpr fun _ _=>rfl
  ·cases ns with
   | nil=>rfl
   | cons _ _=>rfl
 ·cases e
def jcf:G1:=fun M xs=>match xs with
 | [.scr ns]=>some (.ref M.n,M.new (.lst (ns.map PV.int)))
 | _=>none
theorem jiL (hT:T.K=X.K):yx X (.type "list") (rC T jcf):=uI JC fun vs H Q hQQ=>by
 obtain ⟨W,M,xs,z,M',k,hh,rx,e,q⟩:=hQQ;unfold jcf at e;split at e
 ·rename_i ns;cases e;obtain ⟨v,rfl,a,rfl,hq,_⟩:=uE rx
  have hq:SqL X.K H a (ns.map V.int):=by
   have:=(show jer W.F H from hh.f).seq hq
   rw [k,hT] at this;exact this
  refine ⟨a,_,rfl,.inl hq,fun l hl=>?_⟩;obtain ⟨W2,l2,h2,r2⟩:=jaO (xs:=ns.map PV.int) hh (yf.ints.mpr rfl) hl;exact q W2 _ _ l2 h2 r2
 ·cases e
structure XRow (T:Tb) (ks:List Nat) (LE k:Nat):Prop where
 x:ExcK T.K (T.C k)
 kk:∀ j ∈ ks,PySem.W.kitOne T.K (.ref (T.C k)) (.ref (T.C j))=some (k == j)
 l:PySem.W.kitOne T.K (.ref (T.C k)) (.ref (T.C LE))=some true
 v:PySem.W.kitOne T.K (.ref (T.C k)) (.type "ValueError")=some true
 m:PySem.W.exmOne T.K (.ref (T.C k)) (.ref (T.C LE))=some true
theorem Xd {A:Around} {k:Nat} (hr:Room k A):A.units + 100 < cLine:=by have:=hr.un; omega
end
end L3

namespace L3
open PySem L2
@[simp] theorem jfG {α : Type} {a : α} {M : Sto} : (Res.ok a M).noX = .ok a M := rfl
@[simp] theorem noX_bad {α : Type} : (Res.bad : Res α).noX = .bad := rfl
@[simp] theorem vj {x : PV} {ρ : En} {M : Sto} : dC x ρ M = .ok x M := rfl
@[simp] theorem jC {x : PV} {r : En} {M : Sto} : yd 0 (some x :: r) M = .ok x M := rfl
@[simp] theorem jI {i : Nat} {o : Option PV} {r : En} {M : Sto} : yd (i + 1) (o :: r) M = yd i r M := rfl
@[simp] theorem jx {ρ : En} {M : Sto} : ye ρ M = .ok [] M := rfl
@[simp] theorem jr {d : DE} {ds : DA} {ρ : En} {M : Sto} : jb d ds ρ M = (d ρ M).bind fun x M1 => (ds ρ M1).bind fun xs M2 => .ok (x :: xs) M2 := rfl
@[simp] theorem yb {g : G2} {da db : DE} {ρ : En} {M : Sto} : dOp g da db ρ M = (da ρ M).bind fun x M1 => (db ρ M1).bind fun y M2 => ofO (g M2 x y) M2 := rfl
@[simp] theorem jbh {d : DE} {ρ : En} {M : Sto} : yg d ρ M = (d ρ M).bind fun x M1 => ofO (asB x) M1 := rfl
@[simp] theorem asB_bl {b : Bool} : asB (.bl b) = some b := rfl
@[simp] theorem Xs {g : G1} {ds : DA} {ρ : En} {M : Sto} : dCB g ds ρ M = (ds ρ M).bind fun xs M1 => match g M1 xs with
 | some (z,M2)=>.ok z M2
 | none=>.bad:=rfl
@[simp] theorem dIf_eq {t : DT} {da db : DE} {ρ : En} {M : Sto} : dIf t da db ρ M = (t ρ M).bind fun c M1 => if c = true then da ρ M1 else db ρ M1 := rfl
@[simp] theorem dAnd_eq {da db : DT} {ρ : En} {M : Sto} : yR da db ρ M = (da ρ M).bind fun c M1 => if c = true then db ρ M1 else .ok false M1 := rfl
@[simp] theorem dOr_eq {da db : DT} {ρ : En} {M : Sto} : dOr da db ρ M = (da ρ M).bind fun c M1 => if c = true then .ok true M1 else db ρ M1 := rfl
@[simp] theorem vU {da : DT} {ρ : En} {M : Sto} : vV da ρ M = (da ρ M).bind fun c M1 => .ok (!c) M1 := rfl
@[simp] theorem vi {d : DE} {ρ : En} {M : Sto} : vH d ρ M = (d ρ M).bind fun x M1 => ofO (jex M1 x) M1 := rfl
@[simp] theorem truP_bl {b : Bool} {M : Sto} : jex M (.bl b) = some b := rfl
@[simp] theorem dUn_eq {g : Sto -> PV -> Option PV} {d : DE} {ρ : En} {M : Sto} : dUn g d ρ M = (d ρ M).bind fun x M1 => ofO (g M1 x) M1 := rfl
@[simp] theorem gNeg_int {M : Sto} {i : Int} : gNeg M (.int i) = some (.int (-i)) := rfl
@[simp] theorem jW {D : List PV -> Sto -> Res PV} {a b : Nat} {sl : List Sl} {dP : List PV} {da dk : DA} {ρ : En} {M : Sto} : jq D a b sl dP da dk ρ M = (da ρ M).bind fun xs M1 => (dk ρ M1).bind fun zs M2 => D (yq a b sl dP xs zs) M2 := rfl
@[simp] theorem jda {ds : DA} {ρ : En} {M : Sto} : jee ds ρ M = (ds ρ M).bind fun xs M1 => if xs.length <= sizeLine then .ok (.tup xs) M1 else .bad := rfl
@[simp] theorem jaf {ds : DA} {ρ : En} {M : Sto} : xl ds ρ M = (ds ρ M).bind fun xs M1 => if xs.length <= sizeLine then .ok (.lst xs) M1 else .bad := rfl
@[simp] theorem dLstN_eq {ds : DA} {ρ : En} {M : Sto} : Xr ds ρ M = (ds ρ M).bind fun xs M1 => if xs.length <= sizeLine then .ok (.ref M1.n) (M1.new (.lst xs)) else .bad := rfl
@[simp] theorem sNext_eq {ρ : En} {M : Sto} : yA ρ M = .nx ρ M := rfl
@[simp] theorem jhp {d1 d2 : DS} {ρ : En} {M : Sto} : yh d1 d2 ρ M = (d1 ρ M).then d2 := rfl
@[simp] theorem jho {i : Nat} {d : DE} {ρ : En} {M : Sto} : yI i d ρ M = (d ρ M).st ρ fun v M1 => .nx (ρ.set i (some v)) M1 := rfl
@[simp] theorem sRet_eq {d : DE} {ρ : En} {M : Sto} : yJ d ρ M = (d ρ M).st ρ fun v M1 => .rt v M1 := rfl
@[simp] theorem sExpr_eq {d : DE} {ρ : En} {M : Sto} : yn d ρ M = (d ρ M).st ρ fun _ M1 => .nx ρ M1 := rfl
@[simp] theorem sIf_eq {t : DT} {d1 d2 : DS} {ρ : En} {M : Sto} : sIf t d1 d2 ρ M = (t ρ M).st ρ fun c M1 => if c = true then d1 ρ M1 else d2 ρ M1 := rfl
@[simp] theorem sRaise_eq {c : Nat} {ds : DA} {ρ : En} {M : Sto} : xK c ds ρ M = (ds ρ M).st ρ fun vs M1 => if vs.length <= sizeLine then .exc c ρ M1 else .bad := rfl
@[simp] theorem fin_rt {v : PV} {M : Sto} : fin (.rt v M) = .ok v M := rfl
@[simp] theorem fin_nx {ρ : En} {M : Sto} : fin (.nx ρ M) = .ok .non M := rfl
@[simp] theorem fin_exc {c : Nat} {ρ : En} {M : Sto} : fin (.exc c ρ M) = .exc c M := rfl
@[simp] theorem gAddI_int {M : Sto} {i j : Int} : vd M (.int i) (.int j) = some (.int (i + j)) := rfl
@[simp] theorem jge {M : Sto} {i j : Int} : jaW M (.int i) (.int j) = some (.int (i - j)) := rfl
@[simp] theorem gLt_int {M : Sto} {i j : Int} : gLt M (.int i) (.int j) = some (.bl (decide (i < j))) := rfl
@[simp] theorem gLe_int {M : Sto} {i j : Int} : gLe M (.int i) (.int j) = some (.bl (decide (i <= j))) := rfl
@[simp] theorem gGt_int {M : Sto} {i j : Int} : gGt M (.int i) (.int j) = some (.bl (decide (j < i))) := rfl
@[simp] theorem gGe_int {M : Sto} {i j : Int} : gGe M (.int i) (.int j) = some (.bl (decide (j <= i))) := rfl
theorem xR {M:Sto} {i j:Int} (h:(-(2 ^ 64) < i∧i < 2 ^ 64)∨(-(2 ^ 64) < j∧j < 2 ^ 64)):vG M (.int i) (.int j)=some (.int (i * j)):=by
 show orG VV jce M (.int i) (.int j)=_;unfold orG
 have:VV M (.int i) (.int j)=some (.int (i * j)):=by
  show (if jiH i j=true then _ else _)=_;rw [if_pos];unfold jiH;simp only [Bool.or_eq_true,Bool.and_eq_true,decide_eq_true_eq];exact h
 rw [this]
theorem Xj {M:Sto} {i j:Int} (h:0 < j) (h2:j < 1073741824):jgh M (.int i) (.int j)=some (.int (i / j)):=by
 show (if (decide (0 < j) && decide (j < 1073741824))=true then _ else _)=_;rw [if_pos (by simp only [Bool.and_eq_true,decide_eq_true_eq]; exact ⟨h,h2⟩)]
theorem xS {M:Sto} {i j:Int} (h:0 < j):XJ M (.int i) (.int j)=some (.int (i % j)):=by
 show (if decide (0 < j)=true then _ else _)=_;rw [if_pos (decide_eq_true h)]
theorem jgf {M:Sto} {i j:Int} (h:0<=j) (h2:j<=1000000) (h3:i.natAbs < 2 ^ 64):gPow M (.int i) (.int j)=some (.int (i ^ j.toNat)):=by
 show (if (decide (0<=j) && decide (j<=1000000) && decide (i.natAbs < 2 ^ 64))=true then _ else _)=_;rw [if_pos (by simp only [Bool.and_eq_true,decide_eq_true_eq]; exact ⟨⟨h,h2⟩,h3⟩)]
structure Town (M:Sto) (ns:List Int) (c:Int):Prop where
 row:M.g 0=some (.lst (ns.map PV.int))
 tw:M.g 1=some (.lst [.ref 0,.int c])
 ne:ns≠[]
 n:2<=M.n
structure Off (M M':Sto):Prop where
 n:M.n<=M'.n
 g:∀ i,2<=i->i < M.n->M'.g i=M.g i
theorem Off.refl (M:Sto):Off M M:=⟨Nat.le_refl _,fun _ _ _=>rfl⟩
theorem Off.trans {A B C:Sto} (h:Off A B) (k:Off B C):Off A C:=⟨Nat.le_trans h.n k.n,fun i hi hn=>(k.g i hi (Nat.lt_of_lt_of_le hn h.n)).trans (h.g i hi hn)⟩
theorem Jf {M:Sto} {i:Nat} {xs:List PV} (h:M.g i=some (.lst xs)):yZ M (.ref i)=some xs:=by
 show (match M.g i with
  | some (.lst xs)=>some xs
  | _=>none)=some xs
 rw [h]
theorem yT {M:Sto} {i:Nat} {xs:List PV} (h:M.g i=some (.lst xs)):uZ M (.ref i)=some xs:=Jf h
@[simp] theorem anyP_lst {M : Sto} {xs : List PV} : uZ M (.lst xs) = some xs := rfl
@[simp] theorem anyP_tup {M : Sto} {xs : List PV} : uZ M (.tup xs) = some xs := rfl
@[simp] theorem ud {M : Sto} {xs : List PV} : yZ M (.lst xs) = some xs := rfl
theorem xT {M:Sto} {x:PV} {xs:List PV} {i:Int} (h:uZ M x=some xs):gIx M x (.int i)=atI xs i:=by
 show (uZ M x).bind _=_;rw [h];rfl
theorem ux {α:Type} {xs:List α} {i:Int} (h:0<=i) (h2:i < xs.length):atI xs i=xs[i.toNat]?:=by
 unfold atI ixN;rw [if_pos h,if_pos h2];rfl
theorem yU {M:Sto} {x:PV} {xs:List PV} (h:uZ M x=some xs):yK M x=some (.int xs.length):=by
 unfold yK;rw [h]
@[simp] theorem jbT {f : Sto -> PV -> Option PV} {M : Sto} {x : PV} : one f M [x] = match f M x with
  | some z=>some (z,M)
  | none=>none:=rfl
theorem xm {α:Type} (f0:α->PV) (p:α->Bool) (f:α->PV) {bnd:PV->En->Option En} {r:En} {dt:DT} {de:DE} {M:Sto}:∀ (as:List α),(∀ a ∈ as,∃ ρ,bnd (f0 a) r=some ρ∧dt ρ M = .ok (p a) M∧(p a=true->de ρ M = .ok (f a) M)) ->
  uw bnd r dt de (as.map f0) M = .ok ((as.filter p).map f) M
 | [],_=>rfl
 | a :: as,h=>by
  have ih:=xm f0 p f as fun b hb=>h b (List.mem_cons_of_mem _ hb);obtain ⟨ρ,e1,e2,e3⟩:=h a List.mem_cons_self;show uw bnd r dt de (f0 a :: as.map f0) M=_;unfold uw;simp only [e1,e2,jfG,Res.bind_ok]
  cases hp:p a with
  | false=>simp [hp,ih]
  | true=>simp [hp,ih,e3 hp]
theorem jZ {α:Type} (f0:α->PV) (f:α->PV) {bnd:PV->En->Option En} {r:En} {dt:DT} {de:DE} {M:Sto} (as:List α) (h:∀ a ∈ as,∃ ρ,bnd (f0 a) r=some ρ∧dt ρ M = .ok true M∧de ρ M = .ok (f a) M) :
  uw bnd r dt de (as.map f0) M = .ok (as.map f) M:=by
 have:=xm (bnd:=bnd) (r:=r) (dt:=dt) (de:=de) (M:=M) f0 (fun _=>true) f as fun a ha=>by
  obtain ⟨ρ,h1,h2,h3⟩:=h a ha;exact ⟨ρ,h1,h2,fun _=>h3⟩
 rw [this,List.filter_eq_self.mpr (fun _ _=>rfl)]
theorem jN {di:En->Sto->Res ItP} {bnd:PV->En->Option En} {js:List Nat} {dt:DT} {de:DE} {ρ:En} {M M1 M2:Sto} {xs ys:List PV} (h:di ρ M = .ok (.fix xs) M1) (hl:xs.length < sizeLine) (e:uw bnd (rest js ρ) dt de xs M1 = .ok ys M2):yH di bnd js dt de ρ M = .ok (.lst ys) M2:=by
 unfold yH;rw [h];show (if xU (.fix xs) M1<=sizeLine then _ else _)=_;rw [if_pos (show xU (.fix xs) M1<=sizeLine from hl)];rw [Ue (all:=xs) (xs:=xs) (i:=0) (n:=xU (.fix xs) M1) rfl (Nat.lt_succ_self _),e];rfl
@[simp] theorem uH {d : DE} {ρ : En} {M M1 : Sto} {xs : List PV} (h : d ρ M = .ok (.lst xs) M1) : dIt d ρ M = .ok (.fix xs) M1 := by
 unfold dIt;rw [h];rfl
theorem xL {lo:Int} {n:Nat}:(xw lo n).length=n:=by simp [xw]
theorem VM {g:DG} {db:DS} (I:En->Sto->Prop):∀ (xs:List PV) (ρ:En) (M:Sto),I ρ M->(∀ x ∈ xs,∀ ρ M,I ρ M->∃ ρ1 ρ' M',g x ρ=some ρ1∧db ρ1 M = .nx ρ' M'∧I ρ' M')->∃ ρ' M',xN g db xs ρ M = .nx ρ' M'∧I ρ' M'
 | [],ρ,M,h,_=>⟨ρ,M,rfl,h⟩
 | x :: xs,ρ,M,h,hs=>by
  obtain ⟨ρ1,ρ2,M2,e1,e2,h2⟩:=hs x List.mem_cons_self ρ M h;obtain ⟨ρ',M',e,q⟩:=VM I xs ρ2 M2 h2 fun z hz=>hs z (List.mem_cons_of_mem _ hz);refine ⟨ρ',M',?_,q⟩;unfold xN;simp only [e1,e2];exact e
theorem Jo {g:DG} {db:DS} (I:Nat->En->Sto->Prop):∀ (xs:List PV) (k:Nat) (ρ:En) (M:Sto),I k ρ M->(∀ i x,xs[i]? = some x->∀ ρ M,I (k + i) ρ M->∃ ρ1 ρ' M',g x ρ=some ρ1∧db ρ1 M = .nx ρ' M'∧I (k + i + 1) ρ' M')->∃ ρ' M',xN g db xs ρ M = .nx ρ' M'∧I (k + xs.length) ρ' M'
 | [],k,ρ,M,h,_=>⟨ρ,M,rfl,h⟩
 | x :: xs,k,ρ,M,h,hs=>by
  obtain ⟨ρ1,ρ2,M2,e1,e2,h2⟩:=hs 0 x rfl ρ M h
  obtain ⟨ρ',M',e,q⟩:=Jo I xs (k + 1) ρ2 M2 h2 fun i z hz ρ M hI=>by
   have:=hs (i + 1) z (by simpa using hz) ρ M (by rw [show k + (i + 1)=k + 1 + i by omega]; exact hI)
   rw [show k + (i + 1) + 1=k + 1 + i + 1 by omega] at this;exact this
  refine ⟨ρ',M',?_,by rw [List.length_cons,show k + (xs.length + 1)=k + 1 + xs.length by omega]; exact q⟩;unfold xN;simp only [e1,e2];exact e
theorem Xu {bnd:PV->En->Option En} {r:En} {dt:DT} {de:DE} (I:Nat->List PV->Sto->Prop):∀ (xs:List PV) (k:Nat) (acc:List PV) (M:Sto),I k acc M ->
  (∀ i x,xs[i]? = some x->∀ acc M,I (k + i) acc M->∃ ρ b M1,bnd x r=some ρ∧dt ρ M = .ok b M1∧(b=false->I (k + i + 1) acc M1)∧(b=true->∃ y M2,de ρ M1 = .ok y M2∧I (k + i + 1) (acc ++ [y]) M2)) ->
  ∃ ys M',uw bnd r dt de xs M = .ok ys M'∧I (k + xs.length) (acc ++ ys) M'
 | [],k,acc,M,h,_=>⟨[],M,rfl,by rw [List.append_nil]; exact h⟩
 | x :: xs,k,acc,M,h,hs=>by
  obtain ⟨ρ,b,M1,e1,e2,hf,ht⟩:=hs 0 x rfl acc M h
  have hs':∀ i z,xs[i]? = some z->∀ acc M,I (k + 1 + i) acc M->∃ ρ b M1,bnd z r=some ρ∧dt ρ M = .ok b M1∧(b=false->I (k + 1 + i + 1) acc M1)∧(b=true->∃ y M2,de ρ M1 = .ok y M2∧I (k + 1 + i + 1) (acc ++ [y]) M2):=fun i z hz acc M hI=>by
   have:=hs (i + 1) z (by simpa using hz) acc M (by rw [show k + (i + 1)=k + 1 + i by omega]; exact hI)
   rw [show k + (i + 1) + 1=k + 1 + i + 1 by omega] at this;exact this
  unfold uw;simp only [e1,e2,jfG,Res.bind_ok];rw [List.length_cons,show k + (xs.length + 1)=k + 1 + xs.length by omega]
  cases b with
  | false =>
   obtain ⟨ys,M',e,q⟩:=Xu I xs (k + 1) acc M1 (hf rfl) hs';exact ⟨ys,M',by simpa using e,q⟩
  | true =>
   obtain ⟨y,M2,e3,h3⟩:=ht rfl;obtain ⟨ys,M',e,q⟩:=Xu I xs (k + 1) (acc ++ [y]) M2 h3 hs';refine ⟨y :: ys,M',?_,by simpa using q⟩;simp [e3,e]
theorem uh:∀ (ns:List Int),yD (ns.map PV.int)=true
 | []=>rfl
 | n :: ns=>by
  show (plain (.int n) && yD (ns.map PV.int))=true;rw [uh ns];rfl
theorem Ua:∀ (ns:List Int),vT (ns.map PV.int)=true
 | []=>rfl
 | n :: ns=>by
  show (decide (dep (.int n)<=60) && vT (ns.map PV.int))=true;rw [Ua ns];rfl
theorem jgZ (ns:List Int) (k:Int):((ns.map PV.int).any fun z=>eqB z (.int k))=decide (k ∈ ns):=by
 rw [List.any_map,Bool.eq_iff_iff,List.any_eq_true,decide_eq_true_eq];constructor
 ·rintro ⟨x,hx,e⟩;have e:(x == k)=true:=e;rw [<- beq_iff_eq.mp e];exact hx
 ·intro h;exact ⟨k,h,beq_self_eq_true k⟩
theorem uo {neg:Bool} {M:Sto} {x:PV} {k:Int} {ns:List Int} (h:uZ M x=some (ns.map PV.int)):gIn neg M (.int k) x=some (.bl (if neg then !decide (k ∈ ns) else decide (k ∈ ns))):=by
 unfold gIn;rw [h];show (if _ then some (PV.bl (if neg=true then !((ns.map PV.int).any fun z=>eqB z (.int k)) else (ns.map PV.int).any fun z=>eqB z (.int k))) else none)=_;rw [if_pos ⟨rfl,uh ns,Ua ns⟩,jgZ]
theorem jgg {M:Sto} {x:PV} {xs:List PV} {k:Int} (hx:yZ M x=some xs) (h1:-(2 ^ 63)<=k) (h2:k < 2 ^ 63) (h3:xs.length * k.toNat<=sizeLine):vG M x (.int k)=some (.lst (List.replicate k.toNat xs).flatten):=by
 have e1:VV M x (.int k)=none:=by
  cases x with
  | int _=>cases hx
  | _=>rfl
 show orG VV jce M x (.int k)=_;unfold orG;rw [e1];show jce M x (.int k)=_;unfold jce;simp only [hx];rw [if_pos ⟨h1,h2,h3⟩]
def Tru (r:RS):Prop:=∃ M',fin r = .ok (.bl true) M'
section
variable {i:Nat} {d:DE} {c d1:DS} {t:DT} {ρ ρ':En} {M M1:Sto} {v:PV} {g:DG} {F:Nat} {dit:En->Sto->Res ItP} {xs:List PV}
theorem JV (h:d ρ M = .ok v M1) (k:Tru (c (ρ.set i (some v)) M1)):Tru (yh (yI i d) c ρ M):=by
 unfold yh yI;rw [h];exact k
theorem go_asg (h:d ρ M = .ok v M1) (hg:g v ρ=some ρ') (k:Tru (c ρ' M1)):Tru (yh (jhr d g) c ρ M):=by
 unfold yh jhr;rw [h]
 show Tru ((match g v ρ with
  | some ρ'=>RS.nx ρ' M1
  | none=>.bad).then c)
 rw [hg];exact k
theorem go_for (h:dit ρ M = .ok (.fix xs) M1) {M2:Sto} (hl:xN g d1 xs ρ M1 = .nx ρ' M2) (k:Tru (c ρ' M2)):Tru (yh (UK F dit g d1) c ρ M):=by
 unfold yh;rw [ue h,hl];exact k
theorem go_ret (h:d ρ M = .ok (.bl true) M1):Tru (yJ d ρ M):=by
 unfold yJ;rw [h];exact ⟨_,rfl⟩
theorem jU {r:RS} (h:d ρ M = .ok v M1) (k:c (ρ.set i (some v)) M1=r):yh (yI i d) c ρ M=r:=by
 unfold yh yI;rw [h];exact k
theorem Jk {r:RS} (h:t ρ M = .ok false M1) (k:c ρ M1=r):yh (sIf t d1 yA) c ρ M=r:=by
 unfold yh sIf;rw [h];exact k
theorem Jl (h:t ρ M = .ok false M1):sIf t d1 yA ρ M = .nx ρ M1:=by
 unfold sIf;rw [h];rfl
theorem jR (h:d ρ M = .ok v M1):yJ d ρ M = .rt v M1:=by
 unfold yJ;rw [h];rfl
theorem jfB {d2:DS} {v:PV} {M2:Sto} (h:t ρ M = .ok true M1) (k:d1 ρ M1 = .rt v M2):yh (sIf t d1 d2) c ρ M = .rt v M2:=by
 unfold yh sIf;rw [h];show (if true=true then d1 ρ M1 else d2 ρ M1).then c=_;rw [if_pos rfl,k];rfl
theorem jY {n N:Nat} {pvs:List PV} {ρ:En} {dd:DS} (hn:pvs.length=n) (hρ:pvs.map some ++ List.replicate (N - n) none=ρ) (h:dd ρ M = .rt v M1):yv n N dd pvs M = .ok v M1:=by
 unfold yv;rw [if_pos hn,hρ,h];rfl
theorem yB {r:RS} (h:d ρ M = .ok v M1) (k:c ρ M1=r):yh (yn d) c ρ M=r:=by
 unfold yh yn;rw [h];exact k
end
@[simp] theorem dSl_eq {d : DE} {dl dh : En -> Sto -> Res (Option Int)} {ρ : En} {M : Sto} : dSl d dl dh ρ M = (d ρ M).bind fun x M1 => (dl ρ M1).bind fun lo M2 => (dh ρ M2).bind fun hi M3 => ofO (gSl M3 x lo hi) M3 := rfl
@[simp] theorem dON_eq {ρ : En} {M : Sto} : dON ρ M = .ok none M := rfl
@[simp] theorem dOS_eq {d : DE} {ρ : En} {M : Sto} : dOS d ρ M = (d ρ M).bind fun x M1 => match x with
 | .int i=>.ok (some i) M1
 | _=>.bad:=rfl
end L3

namespace Srt
open PySem PySem.W PyProof.Rows
def run {α:Type} (lt:Nat->Nat->Bool):KasT α->α
 | .ret a=>a
 | .ask i j k=>run lt (k (lt i j))
section
variable {r:Nat->Int}
abbrev lo (r:Nat->Int):Nat->Nat->Bool:=fun i j=>decide (r i < r j)
end
end Srt

namespace Srt
open PySem PySem.W PyProof.Rows
def AskP {α:Type} (n:Nat) (R:α->Prop):KasT α->Prop
 | .ret a=>R a
 | .ask i j k=>i < n∧j < n∧∀ b,AskP n R (k b)
section
variable {n:Nat} (h0:0 < n)
include h0
end
end Srt

namespace Srt
open PySem PySem.W PyProof.Rows
def T2 (h:Heap) (v:Value) (k:Int × Int):Prop:=∃ a o t u n,v = .ref a∧h.get? a=some o∧o.cls = .type "tuple"∧o.data = .seq #[.int k.1 t,.int k.2 u] n
def All2 (h:Heap):List Value->List (Int × Int)->Prop
 | [],[]=>True
 | v :: vs,k :: ks=>T2 h v k∧All2 h vs ks
 | _,_=>False
section
variable {prog:Program} {w:World} {A:Around} {E:Value->Shared->Prop} {s:Shared}
end
end Srt

namespace L2
open PySem PySem.Spec PyProof.Rows
section
variable {X:Cx}
variable {e st:Expr} {te:TE} {ts:TO} {pos p2:Pos}
end
end L2

namespace L3
open PySem L2
def prP (k:Int × Int):PV:=.tup [.int k.1,.int k.2]
section
variable {X:Cx} {T:Tb} {ES:St->XK} {a st:Expr} {pos p2:Pos} {da ds:DE}
def sFrz (i:Nat) (d:DS):DS:=fun ρ M=>match ρ[i]? with
 | some (some (.ref c))=>(match M.g c with
  | some (.lst xs)=>d (ρ.set i (some (.lst xs))) (M.drop c)
  | _=>.bad)
 | _=>.bad
end
end L3

namespace L3
open PySem L2
open PyProof.Rows (envOfC)
theorem YQ {W:Wd} {f:Str} {x:PV} {v:V} (r:Rep W x v):∀ {fs:List (Str × PV)} {vs:List (Str × V)},uc W fs vs->uc W (yW f x fs) (vp f v vs)
 | [],_,e=>by cases e; exact ⟨v,[],rfl,r,rfl⟩
 | p :: fs,_,⟨u,t,e,a,b⟩=>by
  subst e;unfold yW vp
  by_cases h:p.1=f
  ·rw [if_pos (by rw [h]; exact beq_self_eq_true f),if_pos h];exact ⟨v,t,rfl,r,b⟩
  ·rw [if_neg (by simpa using fun z:f=p.1=>h z.symm),if_neg h];exact ⟨u,_,rfl,a,YQ r b⟩
def Jr (M:Sto) (k:Nat):PV->Option (Nat × List (Str × PV))
 | .ref i=>(match M.g i with
  | some (.ins c fs)=>if c=k then some (i,fs) else none
  | _=>none)
 | _=>none
theorem JU {W:Wd} {M:Sto} {H:Hp} {k i:Nat} {x:PV} {v:V} {fs:List (Str × PV)} (hh:Held W M H) (r:Rep W x v) (e:Jr M k x=some (i,fs)):∃ a dx vs,v = .ref a∧W.α i=some a∧M.g i=some (.ins k fs)∧H a=some (.ins (W.T.C k) dx vs)∧uc W fs vs:=by
 cases x with
 | ref j =>
  have e:(match M.g j with
   | some (.ins c fs)=>if c=k then some (j,fs) else none
   | _=>none)=some (i,fs):=e
  split at e
  ·rename_i c gs hg;split at e
   ·rename_i hc;cases e;subst hc;obtain ⟨a,rfl,ha⟩:=r;obtain ⟨b,o,h1,h2,h3,dx,vs,rfl,rf⟩:=hh.m _ _ hg;rw [ha] at h1;cases h1;exact ⟨a,dx,vs,rfl,ha,hg,h3,rf⟩
   ·cases e
  ·cases e
 | _=>cases e
def yo (k:Nat) (f:Str) (d:DE):DE:=fun ρ M=>(d ρ M).bind fun x M1=>match Jr M1 k x with
 | some (_,fs)=>ofO (fs.lookup f) M1
 | none=>.bad
def xb (k:Nat) (f:Str) (d do_:DE):DS:=fun ρ M=>(d ρ M).st ρ fun y M1=>(do_ ρ M1).st ρ fun x M2=>match Jr M2 k x with
 | some (i,fs)=>if fs.length < 1000 then .nx ρ (M2.set i (.ins k (yW f y fs))) else .bad
 | none=>.bad
def jaE (k:Nat) (f:Str) (g:G2) (do_ d:DE):DS:=fun ρ M=>(do_ ρ M).st ρ fun x M1=>match Jr M1 k x with
 | some (_,fs)=>(match fs.lookup f with
  | some v=>(d ρ M1).st ρ fun y M2=>(match g M2 v y with
   | some z=>(match Jr M2 k x with
    | some (i,fs')=>if fs'.length < 1000 then .nx ρ (M2.set i (.ins k (yW f z fs'))) else .bad
    | none=>.bad)
   | none=>.bad)
  | none=>.bad)
 | none=>.bad
section
variable {X:Cx} {T:Tb} {ES:St->XK} {o e:Expr} {es:List Expr} {f m x:Str} {k j:Nat} {pos pos' apos p:Pos} {d do_:DE} {da dk:DA} {ps ks:List Str} {a b:Nat} {sl:List Sl} {dP:List PV} {D:List PV->Sto->Res PV} {kws:List Keyword}
theorem ya (hT:T.K=X.K) (c:Cls X.K (T.C k)) (n:jp X.K (T.C k) f) (he:QE X T ES o d) (hb:attributeBase o f X.env (eval o X.env)=eval o X.env:=by rfl):QE X T ES (.Attribute o f pos) (yo k f d) :=
 ⟨jQ (pe_fld he.h hb) fun σ H Q hQQ=>jF hQQ fun W ρ M kT hh hs p=>⟨W,ρ,M,kT,hh,hs,ym.bind p fun W1 M1 x v H1 l1 h1 r1 p1=>by
  split at p1
  ·rename_i i fs e1;obtain ⟨ad,dx,vs,rfl,_,_,h3,rf⟩:=JU h1 r1 e1;rw [l1.k,kT] at h3
   cases e2:fs.lookup f with
   | none=>rw [e2] at p1; exact p1.elim
   | some y =>
    rw [e2] at p1;obtain ⟨u,e3,r3⟩:=rf.get e2;exact ⟨ad,T.C k,dx,vs,u,rfl,h3,c,n,e3,p1 W1 H1 u (.refl W1) h1 r3⟩
  ·exact p1.elim⟩⟩
theorem xf (hT:T.K=X.K) (c:Cls X.K (T.C k)) (n:jp X.K (T.C k) f) (ho:QE X T ES o do_) (he:QE X T ES e d) (hsw:swapsWith e (some (.Attribute o f pos')) pos.line X.env=pure false:=by rfl):QS X T ES (.Assign [.Attribute o f pos'] e pos) (xb k f d do_) :=
 ⟨yQ (ps_fld ho.h he.h hsw) fun D σ H hQQ=>yM hQQ fun W ρ M kT hh hs q=>⟨W,ρ,M,kT,hh,hs,yt.bind hs q fun W1 M1 y v H1 l1 h1 r1 q1=>⟨W1,ρ,M1,l1.k.trans kT,h1,hs.up l1,yt.bind (hs.up l1) q1 fun W2 M2 x u H2 l2 h2 r2 q2=>by
  split at q2
  ·rename_i i fs e1;split at q2
   ·rename_i hz;obtain ⟨ad,dx,vs,rfl,ha,hg,h3,rf⟩:=JU h2 r2 e1;have kk:=l2.k.trans (l1.k.trans kT);have h3':=h3;rw [kk] at h3';refine ⟨ad,T.C k,dx,vs,rfl,h3',c,n,by rw [rf.length]; exact hz,?_⟩;have hu:=h2.upd (c':=.ins k (yW f y fs)) (o:=.ins (T.C k) dx (vp f v vs)) hg ha ⟨dx,_,by rw [kk],YQ (r1.up l2) rf⟩;exact q2 W2 σ _ (.refl W2) hu ((hs.up l1).up l2)
   ·exact q2.elim
  ·exact q2.elim⟩⟩⟩
theorem jcE {op:Operator} {g:G2} {tpos:Pos} (hT:T.K=X.K) (c:Cls X.K (T.C k)) (n:jp X.K (T.C k) f) (ho:QE X T ES o do_) (he:QE X T ES e d) (hop:OpP X T (inplaceOp op) g):QS X T ES (.AugAssign (.Attribute o f tpos) op e pos) (jaE k f g do_ d) :=
 ⟨yQ (jdC (rd:=rP T g) ho.h he.h hop) fun D σ H hQQ=>yM hQQ fun W ρ M kT hh hs q=>⟨W,ρ,M,kT,hh,hs,yt.bind hs q fun W1 M1 x v H1 l1 h1 r1 q1=>by
  split at q1
  ·rename_i i fs e1;obtain ⟨ad,dx,vs,rfl,ha,hg,h3,rf⟩:=JU h1 r1 e1;have k1:=l1.k.trans kT;rw [k1] at h3;split at q1
   ·rename_i w e2;obtain ⟨u,e3,r3⟩:=rf.get e2;refine ⟨ad,T.C k,dx,vs,u,rfl,h3,c,n,e3,W1,ρ,M1,k1,h1,hs.up l1,yt.bind (hs.up l1) q1 fun W2 M2 y y' H2 l2 h2 r2 q2=>?_⟩;split at q2
    ·rename_i z e4;split at q2
     ·rename_i i2 fs2 e5;split at q2
      ·rename_i hz;have k2:=l2.k.trans k1;refine ⟨W2,M2,w,y,z,k2,h2,r3.up l2,r2,e4,fun W3 H3 z' l3 h3' rz=>?_⟩;obtain ⟨ad2,dx2,vs2,ex,ha2,hg2,h32,rf2⟩:=JU h3' ((r1.up l2).up l3) e5;cases ex;have k3:=l3.k.trans k2;have h32':=h32;rw [k3] at h32';refine ⟨dx2,vs2,h32',by rw [rf2.length]; exact hz,?_⟩;have hu:=h3'.upd (c':=.ins k (yW f z fs2)) (o:=.ins (T.C k) dx2 (vp f z' vs2)) hg2 ha2 ⟨dx2,_,by rw [k3],YQ rz rf2⟩;exact q2 W3 σ _ l3 hu (((hs.up l1).up l2).up l3)
      ·exact q2.elim
     ·exact q2.elim
    ·exact q2.elim
   ·exact q1.elim
  ·exact q1.elim⟩⟩
structure MetD (P:Program) (w:World) (K:PySem.W.Frag) (mg:Str->Option Value) (base:Heap) (T:Tb) (k:Nat) (m:Str) (j:Nat) (ps ks:List Str) (a b:Nat) (sl:List Sl) (dP:List PV) (D:List PV->Sto->Res PV):Prop where
 ex:∃ f fd dV ds,FnOk P w K mg base (CX1 P w) j f fd ps (spD T D)∧Meth K (T.C k) m f∧Cls K (T.C k)∧KBinds K fd ps ks (yq a b sl ds) (yq a b sl dV)∧∀ W:Wd,W.T=T->yf W dP dV
def yw (k:Nat) (m:Str) (D:List PV->Sto->Res PV) (a b:Nat) (sl:List Sl) (dP:List PV) (do_:DE) (da dk:DA):DE:=fun ρ M=>(do_ ρ M).bind fun x M0=>match Jr M0 k x with
 | some (_,fs)=>if fs.lookup m=none then (da ρ M0).bind fun xs M1=>(dk ρ M1).bind fun zs M2=>D (yq a b sl dP (x :: xs) zs) M2 else .bad
 | none=>.bad
theorem yy {pl:Sem Bool} (N:MetD X.prog X.w X.K X.mg X.base T k m j ps ks a b sl dP D) (hr:Room j X.A) (hx:xG (CX1 X.prog X.w) X ES) (ho:QE X T ES o do_) (ha:QA X T ES (e :: es) da) (hkw:QK X T ES kws dk)
  (hall:(backToKw pos (keywordEach kws X.env)).all (·.1.isSome)=true:=by rfl) (hks:(backToKw pos (keywordEach kws X.env)).filterMap (·.1)=ks:=by rfl)
  (he:starEach (e :: es) X.env=(false,eval e X.env) :: starEach es X.env:=by rfl)
  (hpl:((backTo pos (starEach (e :: es) X.env)).any (·.1) || (backToKw pos (keywordEach kws X.env)).any (·.1.isNone))=false:=by rfl)
  (ht:eval (.Call (.Attribute o m apos) (e :: es) kws pos) X.env=(do
   let ov <- eval o X.env
   standAt apos.atName
   let (f,first) <- holding [ov] (getMethod ov m pl)
   callWith pos f first (backTo pos (starEach (e :: es) X.env)) (backToKw pos (keywordEach kws X.env))):=by rfl):QE X T ES (.Call (.Attribute o m apos) (e :: es) kws pos) (yw k m D a b sl dP do_ da dk):=⟨by
 obtain ⟨f,fd,dV,ds,F,hm,c,hb,hdV⟩:=N.ex;rintro pins s σ H Q I ⟨W,ρ,M,kT,hh,hs,q⟩
 refine PySem.W.methodCall_KW (pl:=pl) (thn (ho.h pins s σ H (fun v H1=>∃ W1 M1 x i fs,W1.T=T∧Held W1 M1 H1∧yF W1 ρ σ∧Rep W1 x v∧Jr M1 k x=some (i,fs)∧fs.lookup m=none∧ym W1 Rep ((da ρ M1).bind fun xs M1=>(dk ρ M1).bind fun zs M2=>D (yq a b sl dP (x :: xs) zs) M2) Q (ES σ)) I ⟨W,ρ,M,kT,hh,hs,ym.bind q
   fun W1 M1 x v H1 l1 h1 r1 q1=>by
    split at q1
    ·rename_i i fs e1;split at q1
     ·rename_i e2;exact ⟨W1,M1,x,i,fs,l1.k.trans kT,h1,hs.up l1,r1,e1,e2,q1⟩
     ·exact q1.elim
    ·exact q1.elim⟩) fun u s1 hQQ=>?_) ht
 obtain ⟨v,H1,I1,rx,W1,M1,x,i,fs,k1,h1,hs1,r1,e1,e2,q1⟩:=hQQ;obtain ⟨ad,dx,vf,rfl,ha1,hg,h3,rf⟩:=JU h1 r1 e1;obtain rfl:u=Value.ref ad:=rx;rw [k1] at h3;refine Xf I1 h3 c hm (rf.none e2) ?_
 refine PySem.W.callWith_KW (first:=[.ref ad]) (h₀:=X.base) I.ok.mod.kin hm.kp hall (thn (ha.h pos pins s1 σ H1 (fun vs H2=>∃ W2 M2 xs,W2.T=T∧Held W2 M2 H2∧yF W2 ρ σ∧Rep W2 x (.ref ad)∧yf W2 xs vs∧ym W2 Rep ((dk ρ M2).bind fun zs M3=>D (yq a b sl dP (x :: xs) zs) M3) Q (ES σ)) I1 ⟨W1,ρ,M1,k1,h1,hs1,ym.bind q1
   fun W2 M2 xs vs H2 l2 h2 r2 q2=>⟨W2,M2,xs,l2.k.trans k1,h2,hs1.up l2,r1.up l2,r2,q2⟩⟩) fun us s2 hQQ=>?_) hpl he
 obtain ⟨vs,H2,I2,r,W2,M2,xs,k2,h2,hs2,rx2,r2,q2⟩:=hQQ;refine thn (hkw.h pos pins s2 σ H2 (fun zs H3=>spD T D (yq a b sl dV (.ref ad :: vs) zs) H3 Q (ES σ)) I2 ⟨W2,ρ,M2,k2,h2,hs2,ym.bind q2 fun W3 M3 zs' zs H3 l3 h3 r3 q3=>⟨W3,_,M3,l3.k.trans k2,h3,vF (hdV W3 (l3.k.trans k2)) (show yf W3 (x :: xs) (.ref ad :: vs) from ⟨_,_,rfl,rx2.up l3,r2.up l3⟩) r3,q3⟩⟩) fun ws s3 hQQ=>?_;obtain ⟨zs,H3,I3,rz,q3⟩:=hQQ;refine ⟨I3.kIn,?_⟩;rw [hks]
 exact jcB (us:=.ref ad :: us) (vs:=.ref ad :: vs) F hr hb hx I3 (.cons rfl r) rz q3⟩
theorem ve {pl:Sem Bool} (N:MetD X.prog X.w X.K X.mg X.base T k m j ps ks a b sl dP D) (hr:Room j X.A) (hx:xG (CX1 X.prog X.w) X ES) (ho:QE X T ES o do_) (hkw:QK X T ES kws dk)
  (hall:(backToKw pos (keywordEach kws X.env)).all (·.1.isSome)=true:=by rfl) (hks:(backToKw pos (keywordEach kws X.env)).filterMap (·.1)=ks:=by rfl)
  (hpl:((backTo pos (starEach [] X.env)).any (·.1) || (backToKw pos (keywordEach kws X.env)).any (·.1.isNone))=false:=by rfl)
  (ht:eval (.Call (.Attribute o m apos) [] kws pos) X.env=(do
   let ov <- eval o X.env
   standAt apos.atName
   let (f,first) <- holding [ov] (getMethod ov m pl)
   callWith pos f first (backTo pos (starEach [] X.env)) (backToKw pos (keywordEach kws X.env))):=by rfl):QE X T ES (.Call (.Attribute o m apos) [] kws pos) (yw k m D a b sl dP do_ ye dk):=⟨by
 obtain ⟨f,fd,dV,ds,F,hm,c,hb,hdV⟩:=N.ex;rintro pins s σ H Q I ⟨W,ρ,M,kT,hh,hs,q⟩
 refine PySem.W.methodCall_KW (pl:=pl) (thn (ho.h pins s σ H (fun v H1=>∃ W1 M1 x i fs,W1.T=T∧Held W1 M1 H1∧yF W1 ρ σ∧Rep W1 x v∧Jr M1 k x=some (i,fs)∧fs.lookup m=none∧ym W1 Rep ((dk ρ M1).bind fun zs M2=>D (yq a b sl dP [x] zs) M2) Q (ES σ)) I ⟨W,ρ,M,kT,hh,hs,ym.bind q
   fun W1 M1 x v H1 l1 h1 r1 q1=>by
    split at q1
    ·rename_i i fs e1;split at q1
     ·rename_i e2;exact ⟨W1,M1,x,i,fs,l1.k.trans kT,h1,hs.up l1,r1,e1,e2,q1⟩
     ·exact q1.elim
    ·exact q1.elim⟩) fun u s1 hQQ=>?_) ht
 obtain ⟨v,H1,I1,rx,W1,M1,x,i,fs,k1,h1,hs1,r1,e1,e2,q1⟩:=hQQ;obtain ⟨ad,dx,vf,rfl,ha1,hg,h3,rf⟩:=JU h1 r1 e1;obtain rfl:u=Value.ref ad:=rx;rw [k1] at h3;refine Xf I1 h3 c hm (rf.none e2) ?_;refine PySem.W.callWith_KW0 (first:=[.ref ad]) (h₀:=X.base) I.ok.mod.kin hm.kp hall (thn (hkw.h pos pins s1 σ H1 (fun zs H3=>spD T D (yq a b sl dV [.ref ad] zs) H3 Q (ES σ)) I1 ⟨W1,ρ,M1,k1,h1,hs1,ym.bind q1 fun W3 M3 zs' zs H3 l3 h3 r3 q3=>⟨W3,_,M3,l3.k.trans k1,h3,vF (hdV W3 (l3.k.trans k1)) (show yf W3 [x] [.ref ad] from ⟨_,_,rfl,r1.up l3,rfl⟩) r3,q3⟩⟩) fun ws s3 hQQ=>?_) hpl;obtain ⟨zs,H3,I3,rz,q3⟩:=hQQ;refine ⟨I3.kIn,?_⟩;rw [hks]
 exact jcB (us:=[.ref ad]) (vs:=[.ref ad]) F hr hb hx I3 (.cons rfl .nil) rz q3⟩
structure NewD (P:Program) (w:World) (K:PySem.W.Frag) (mg:Str->Option Value) (base:Heap) (T:Tb) (k:Nat) (x:Str) (j:Nat) (ps ks:List Str) (a b:Nat) (sl:List Sl) (dP:List PV) (D:List PV->Sto->Res PV):Prop where
 ex:∃ f fd dV ds,FnOk P w K mg base (CX1 P w) j f fd ps (spD T D)∧Mk K (T.C k) f∧mg x=some (.ref (T.C k))∧KBinds K fd ps ks (yq a b sl ds) (yq a b sl dV)∧∀ W:Wd,W.T=T->yf W dP dV
def made (k:Nat) (D:List PV->Sto->Res PV) (vs:PV->List PV) (M:Sto):Res PV:=match D (vs (.ref M.n)) (M.new (.ins k [])) with
 | .ok .non M3=>.ok (.ref M.n) M3
 | .ok _ _=>.bad
 | .exc c M3=>.exc c M3
 | .bad=>.bad
def jch (k:Nat) (D:List PV->Sto->Res PV) (a b:Nat) (sl:List Sl) (dP:List PV) (da dk:DA):DE:=fun ρ M=>(da ρ M).bind fun xs M1=>(dk ρ M1).bind fun zs M2=>made k D (fun x=>yq a b sl dP (x :: xs) zs) M2
theorem jbL {f C:Addr} {fd:FuncData} {dV:List V} {ds:List Value} {pins:List (Addr × Obj)} {σ:St} {H:Hp} {s:Shared} {Q:VK} {us ws:List Value} {vs zs:List V} {sp:Sp} (M:Mk X.K C f) (F:FnOk X.prog X.w X.K X.mg X.base (CX1 X.prog X.w) j f fd ps sp) (hr:Room (j + 1) X.A) (hb:KBinds X.K fd ps ks (yq a b sl ds) (yq a b sl dV)) (hx:xG (CX1 X.prog X.w) X ES)
  (I:Inv X pins σ H s) (r:yj vs us) (rz:yj zs ws) (h:∀ x dx,H x=none->H dx=none->dx≠x->sp (yq a b sl dV (.ref x :: vs) zs) (L2.upd (L2.upd H dx (.own x)) x (.ins C dx [])) (fun v H2=>v = .non∧Q (.ref x) H2) (ES σ)) :
  wpAny (model X.prog X.w) X.A (call (.ref C) us (ks.zip ws)) (EP X pins σ Q) X.xe s:=by
 have hq:=h (s.heap.objs.size + 1) s.heap.objs.size (I.hok.fresh (Nat.le_succ _)) (I.hok.fresh (Nat.le_refl _)) (Nat.ne_of_lt (Nat.lt_succ_self _));have I2:=Inv.made (C:=C) I;have r2:=hb.rel (vs:=V.ref (s.heap.objs.size + 1) :: vs) (us:=Value.ref (s.heap.objs.size + 1) :: us) (.cons rfl r) rz
 have hl:(yq a b sl ds (Value.ref (s.heap.objs.size + 1) :: us) ws).length=ps.length:=by
  rw [<- r2.length];exact F.len _ _ _ _ hq
 refine wpAny_call (jfM (f:=f) I.kIn M.makes M.init (beq_iff_eq.mp M.fn) (codeAny_mono (F.run _ X.stack _ _ ⟨Value.ref (s.heap.objs.size + 1) :: us,ks.zip ws⟩ _ _ _ (ES σ) (hr.make C us (ks.zip ws)) (I2.env0.make C us (ks.zip ws)) (hb.to _ (Value.ref (s.heap.objs.size + 1) :: us) ws I2.kIn hl) r2 hq) fun r s' hq'=>?_))
 match r,hq' with
 | .error e,hq'=>exact hx pins σ _ _ e s' I2 hq'
 | .ok (.ret u),hq' =>
  obtain ⟨v,H',I3,rv,ev,q3⟩:=I2.after hq';subst ev;exact ⟨rv,⟨V.ref (s.heap.objs.size + 1),H',I3,rfl,q3⟩⟩
theorem jdN {W:Wd} {M:Sto} {H:Hp} {Q:VK} {E:XK} {xs zs:List PV} {vs us:List V} {dV:List V} (kT:W.T=T) (hh:Held W M H) (hd:∀ W:Wd,W.T=T->yf W dP dV) (rx:yf W xs vs) (rz:yf W zs us) (q:ym W Rep (made k D (fun x=>yq a b sl dP (x :: xs) zs) M) Q E) :
  ∀ x dx,H x=none->H dx=none->dx≠x->spD T D (yq a b sl dV (.ref x :: vs) us) (L2.upd (L2.upd H dx (.own x)) x (.ins (T.C k) dx [])) (fun v H2=>v = .non∧Q (.ref x) H2) E:=by
 intro x dx hx hdx hne;obtain ⟨l1,h1,f1⟩:=hh.frz (l:=dx) (o:=.own x) hdx
 have e2:L2.upd H dx (.own x) x=none:=by rw [jm (fun z=>hne z.symm)]; exact hx
 obtain ⟨l2,h2,a2⟩:=h1.put (l:=x) (o:=.ins (T.C k) dx []) (c:=.ins k []) e2 ⟨dx,[],by rw [l1.k,kT],rfl⟩;have l12:=l1.trans l2;refine ⟨_,yq a b sl dP (.ref M.n :: xs) zs,M.new (.ins k []),l12.k.trans kT,h2,vF (hd _ (l12.k.trans kT)) ⟨_,_,rfl,⟨x,rfl,a2⟩,rx.up l12⟩ (rz.up l12),?_⟩;unfold made at q
 cases e:D (yq a b sl dP (.ref M.n :: xs) zs) (M.new (.ins k [])) with
 | ok v M3 =>
  simp only [e] at q
  cases v with
  | non=>exact fun W3 H3 u l3 h3 r3=>⟨r3,q W3 H3 (.ref x) (l12.trans l3) h3 ⟨x,rfl,l3.a _ _ a2⟩⟩
  | _=>exact q.elim
 | exc c M3 =>
  simp only [e] at q;intro W3 H3 l3 h3
  have:=q W3 H3 (l12.trans l3) h3
  rw [<- l12.k] at this;exact this
 | bad =>
  simp only [e] at q;exact q.elim
theorem jbN (N:NewD X.prog X.w X.K X.mg X.base T k x j ps ks a b sl dP D) (hr:Room (j + 1) X.A) (hg:Gl X x) (hx:xG (CX1 X.prog X.w) X ES) (ha:QA X T ES (e :: es) da) (hkw:QK X T ES kws dk)
  (hall:(backToKw pos (keywordEach kws X.env)).all (·.1.isSome)=true:=by rfl) (hks:(backToKw pos (keywordEach kws X.env)).filterMap (·.1)=ks:=by rfl)
  (hdb:(x == ("__debug__":Str))=false:=by decide) (he:starEach (e :: es) X.env=(false,eval e X.env) :: starEach es X.env:=by rfl)
  (hpl:((backTo pos (starEach (e :: es) X.env)).any (·.1) || (backToKw pos (keywordEach kws X.env)).any (·.1.isNone))=false:=by rfl):QE X T ES (.Call (.Name x p) (e :: es) kws pos) (jch k D a b sl dP da dk):=⟨by
 obtain ⟨f,fd,dV,ds,F,mk,hm,hb,hdV⟩:=N.ex;rintro pins s σ H Q I ⟨W,ρ,M,kT,hh,hs,q⟩;refine wpAny_Call_Name_kw (Yt I hg hm ?_ hdb)
 refine PySem.W.callWith_KW (h₀:=X.base) I.ok.mod.kin mk.kp hall (thn (ha.h pos pins s σ H (fun vs H1=>∃ W1 M1 xs,W1.T=T∧Held W1 M1 H1∧yF W1 ρ σ∧yf W1 xs vs∧ym W1 Rep ((dk ρ M1).bind fun zs M2=>made k D (fun x=>yq a b sl dP (x :: xs) zs) M2) Q (ES σ)) I ⟨W,ρ,M,kT,hh,hs,ym.bind q
   fun W1 M1 xs vs H1 l1 h1 r1 q1=>⟨W1,M1,xs,l1.k.trans kT,h1,hs.up l1,r1,q1⟩⟩) fun us s1 hQQ=>?_) hpl he
 obtain ⟨vs,H1,I1,r,W1,M1,xs,k1,h1,hs1,r1,q1⟩:=hQQ;refine thn (hkw.h pos pins s1 σ H1 (fun zs H2=>∀ x dx,H2 x=none->H2 dx=none->dx≠x->spD T D (yq a b sl dV (.ref x :: vs) zs) (L2.upd (L2.upd H2 dx (.own x)) x (.ins (T.C k) dx [])) (fun v H2=>v = .non∧Q (.ref x) H2) (ES σ)) I1 ⟨W1,ρ,M1,k1,h1,hs1,ym.bind q1 fun W2 M2 zs' zs H2 l2 h2 r2 q2=>jdN (l2.k.trans k1) h2 hdV (r1.up l2) r2 q2⟩) fun ws s2 hQQ=>?_;obtain ⟨zs,H2,I2,rz,q2⟩:=hQQ;refine ⟨I2.kIn,?_⟩;rw [hks]
 exact jbL mk F hr hb hx I2 r rz q2⟩
end
end L3

namespace L3
open PySem L2
end L3

namespace L3
open PySem L2
open PyProof.Rows (tail_any)
def jiS:List DictEntry->List (Int × Int)->Bool
 | [],[]=>true
 | e :: es,p :: kvs=>Value.isInt p.1 e.key && (e.hash == hashInt p.1) && Value.isInt p.2 e.val && jiS es kvs
 | _,_=>false
structure TabI (K:PySem.W.Frag) (mg:Str->Option Value) (x:Str) (kvs:List (Int × Int)):Prop where
 ex:∃ a es ep,mg x=some (.ref a)∧K.lookup a=some ⟨.type "dict",none,.dict es ep,#[]⟩∧jiS es.toList kvs=true
section
variable {X:Cx} {T:Tb} {ES:St->XK} {e:Expr} {x:Str} {k:Nat} {pos p:Pos} {d:DE} {kvs:List (Int × Int)}
end
end L3

namespace L3
open PySem L2
structure NoKit (K:PySem.W.Frag) (C:Addr):Prop where
 h:∀ n ∈ yY,PySem.W.kitOne K (.type n) (.ref C)=some false
section
variable {X:Cx} {T:Tb}
end
end L3

namespace L3
open PySem L2
def jav (xs ys:List PV):List PV:=List.zipWith (fun x y=>PV.tup [x,y]) xs ys
theorem jeu {xs ys:List PV} {i:Nat} {z:PV} (h:(jav xs ys)[i]? = some z):∃ x y,xs[i]? = some x∧ys[i]? = some y∧z = .tup [x,y]:=by
 unfold jav at h;rw [List.getElem?_zipWith] at h
 cases e1:xs[i]? with
 | none=>rw [e1] at h; cases h
 | some x =>
  cases e2:ys[i]? with
  | none=>rw [e1,e2] at h; cases h
  | some y =>
   rw [e1,e2] at h;cases h;exact ⟨x,y,rfl,rfl,rfl⟩
theorem jdq {xs ys:List PV} {i:Nat} (h:(jav xs ys)[i]? = none):xs.length<=i∨ys.length<=i:=by
 unfold jav at h;rw [List.getElem?_eq_none_iff,List.length_zipWith] at h;omega
def jiz (ds:DA):En->Sto->Res ItP:=fun ρ M=>(ds ρ M).bind fun xs M1=>match xs with
 | [.lst xs,.lst ys]=>.ok (.fix (jav xs ys)) M1
 | [.tup [],.tup _]=>.ok (.fix []) M1
 | _=>.bad
section
variable {X:Cx} {T:Tb} {ES:St->XK} {p pos:Pos} {ds:DA}
theorem qi_zip {l m:Expr} {elts:List Expr} {x1:Nat} {tpos:Pos} (hT:T.K=X.K) (hg:Gl X "zip") (hm:X.mg "zip" = none) (ha:QA X T ES [l,m] ds) (hs:starEach [l,m] X.env=(false,eval l X.env) :: starEach [m] X.env:=by rfl) (hs2:starEach [m] X.env=[(false,eval m X.env)]:=by rfl) :
  QI X T ES (.Tuple elts x1 tpos) (.Call (.Name "zip" p) [l,m] [] pos) (jiz ds) :=
 ⟨YT (pi_zip hg hm ha.h hs hs2) fun σ H R hQQ=>jF hQQ fun W ρ M k hh hs q=>⟨W,ρ,M,k,hh,hs,ym.bind q fun W1 M1 xs vs H1 l1 h1 r1 p1=>by
  split at p1
  ·rename_i xs ys;obtain ⟨u,v,rfl,ru,rv⟩:=vM r1;obtain ⟨a,us,rfl,ha,ra⟩:=ru;obtain ⟨b,ws,rfl,hb,rb⟩:=rv;refine ⟨a,b,rfl,.inl ⟨⟨us,SqL.of (h1.f _ _ ha)⟩,⟨ws,SqL.of (h1.f _ _ hb)⟩,p1 W1 H1 _ (.refl W1) h1 fun W' M' H' le hh' i=>?_⟩⟩;have qa:H' a=some (.lst us):=hh'.f _ _ (le.f _ _ ha);have qb:H' b=some (.lst ws):=hh'.f _ _ (le.f _ _ hb);refine ⟨fun z e=>?_,fun e=>?_⟩
   ·have e:(jav xs ys)[i]? = some z:=Option.some.inj e;obtain ⟨x,y,ex,ey,rfl⟩:=jeu e;obtain ⟨u,eu,ru⟩:=ra.get ex;obtain ⟨v,ev,rv⟩:=rb.get ey;refine ⟨⟨us,ws,u,v,SqL.of qa,SqL.of qb,eu,ev⟩,fun t H'' hQQ=>?_⟩;obtain ⟨c,u',v',et,hc,hu,hv,eH⟩:=hQQ;subst et;subst eH;have hu:=hu us (SqL.of qa);have hv:=hv ws (SqL.of qb);rw [eu] at hu;rw [ev] at hv;cases hu;cases hv;exact Ys (xs:=[x,y]) hh' (show yf W' _ [u,v] from ⟨_,_,rfl,ru.up0 le,_,_,rfl,rv.up0 le,rfl⟩) hc
   ·have e:(jav xs ys)[i]? = none:=Option.some.inj e;exact ⟨us,ws,SqL.of qa,SqL.of qb,by rw [ra.length,rb.length]; exact jdq e⟩
  ·rename_i ys;obtain ⟨u,v,rfl,ru,rv⟩:=vM r1;obtain ⟨a,us,rfl,ha,ra⟩:=ru;obtain ⟨b,ws,rfl,hb,rb⟩:=rv;cases ra
   have kk:W1.T.K=X.K:=by rw [l1.k,k]; exact hT
   refine ⟨a,b,rfl,.inr ⟨kk ▸ UI h1.f ha,⟨ws,kk ▸ UI h1.f hb⟩,p1 W1 H1 _ (.refl W1) h1 fun W' M' H' le hh' i=>?_⟩⟩;refine ⟨fun z e=>?_,fun e=>?_⟩
   ·have e:([]:List PV)[i]? = some z:=Option.some.inj e;simp at e
   ·have:SqT X.K H' a []:=kk ▸ UI (fun b o q=>hh'.f b o (le.f b o q)) ha
    exact this
  ·exact p1.elim⟩⟩
end
structure ClsD (P:Program) (w:World) (K:PySem.W.Frag) (mg:Str->Option Value) (base:Heap) (T:Tb) (k:Nat) (x m:Str) (j:Nat) (ps ks:List Str) (a b:Nat) (sl:List Sl) (dP:List PV) (D:List PV->Sto->Res PV):Prop where
 ex:∃ f fd dV ds,FnOk P w K mg base (CX1 P w) j f fd ps (spD T D)∧mg x=some (.ref (T.C k))∧PySem.W.readsIn K (T.C k) (.type "type")=true∧PySem.W.findCls K (.ref (T.C k)) (.type "type") m=some (.val (.ref f)) ∧
  PySem.W.specialIn K (.ref (T.C k)) "__getattribute__" = some (some (.builtin "type.__getattribute__"))∧PySem.W.keepIn K (.ref f)=true∧KBinds K fd ps ks (yq a b sl ds) (yq a b sl dV)∧∀ W:Wd,W.T=T->yf W dP dV
section
variable {X:Cx} {T:Tb} {ES:St->XK} {x m:Str} {k j:Nat} {ps ks:List Str} {a b:Nat} {sl:List Sl} {dP:List PV} {D:List PV->Sto->Res PV} {p apos pos:Pos} {e:Expr} {es:List Expr} {kws:List Keyword} {da dk:DA}
theorem jcG {pl:Sem Bool} (N:ClsD X.prog X.w X.K X.mg X.base T k x m j ps ks a b sl dP D) (hr:Room j X.A) (hg:Gl X x) (hx:xG (CX1 X.prog X.w) X ES) (ha:QA X T ES (e :: es) da) (hkw:QK X T ES kws dk)
  (hall:(backToKw pos (keywordEach kws X.env)).all (·.1.isSome)=true:=by rfl) (hks:(backToKw pos (keywordEach kws X.env)).filterMap (·.1)=ks:=by rfl)
  (hdb:(x == ("__debug__":Str))=false:=by decide) (he:starEach (e :: es) X.env=(false,eval e X.env) :: starEach es X.env:=by rfl)
  (hpl:((backTo pos (starEach (e :: es) X.env)).any (·.1) || (backToKw pos (keywordEach kws X.env)).any (·.1.isNone))=false:=by rfl)
  (ht:eval (.Call (.Attribute (.Name x p) m apos) (e :: es) kws pos) X.env=(do
   let ov <- eval (.Name x p) X.env
   standAt apos.atName
   let (f,first) <- holding [ov] (getMethod ov m pl)
   callWith pos f first (backTo pos (starEach (e :: es) X.env)) (backToKw pos (keywordEach kws X.env))):=by rfl):QE X T ES (.Call (.Attribute (.Name x p) m apos) (e :: es) kws pos) (jq D a b sl dP da dk):=⟨by
 obtain ⟨f,fd,dV,ds,F,hm,hrd,hfc,hsp,hk,hb,hdV⟩:=N.ex;rintro pins s0 σ H Q I0 ⟨W,ρ,M,k,hh,hs,q⟩;refine PySem.W.methodCall_KW (pl:=pl) (thn (jcM (v:=.ref (T.C _)) hg hm rfl hdb pins s0 σ H (fun v H1=>v = .ref (T.C _)∧H1=H) I0 ⟨rfl,rfl⟩) fun u s1 hQQ=>?_) ht;obtain ⟨v,H1,I1,rx,rfl,rfl⟩:=hQQ;obtain rfl:u=Value.ref (T.C _):=rx;refine PySem.W.method_cls I1.kIn hsp (PySem.W.cls_value I1.kIn hrd hfc rfl ?_);have I:=I1.tok (s1.toks + 1)
 refine PySem.W.callWith_KW (first:=[]) (h₀:=X.base) I.ok.mod.kin hk hall (thn (ha.h pos pins _ σ H1 _ I ⟨W,ρ,M,k,hh,hs,ym.bind (Q1:=fun vs H1=>∃ W1 M1 xs,W1.T=T∧Held W1 M1 H1∧yF W1 ρ σ∧yf W1 xs vs∧ym W1 Rep ((dk ρ M1).bind fun zs M2=>D (yq a b sl dP xs zs) M2) Q (ES σ)) q
   fun W1 M1 xs vs H1 l1 h1 r1 q1=>⟨W1,M1,xs,l1.k.trans k,h1,hs.up l1,r1,q1⟩⟩) fun us s1 hQQ=>?_) hpl he
 obtain ⟨vs,H1,I1,r,W1,M1,xs,k1,h1,hs1,r1,q1⟩:=hQQ;refine thn (hkw.h pos pins s1 σ H1 (fun zs H2=>spD T D (yq a b sl dV vs zs) H2 Q (ES σ)) I1 ⟨W1,ρ,M1,k1,h1,hs1,ym.bind q1 fun W2 M2 zs' zs H2 l2 h2 r2 q2=>⟨W2,_,M2,l2.k.trans k1,h2,vF (hdV W2 (l2.k.trans k1)) (r1.up l2) r2,q2⟩⟩) fun ws s2 hQQ=>?_;obtain ⟨zs,H2,I2,rz,q2⟩:=hQQ;refine ⟨I2.kIn,?_⟩;rw [hks]
 exact jcB F hr hb hx I2 r rz q2⟩
end
def tabS (w:World):List DictEntry->List (Str × Int)->Prop
 | [],[]=>True
 | e :: es,p :: kvs=>Value.isStrOf p.1 e.key=true∧e.hash=hashStr w p.1∧Value.isInt p.2 e.val=true∧tabS w es kvs
 | _,_=>False
structure TabS (w:World) (K:PySem.W.Frag) (mg:Str->Option Value) (x:Str) (kvs:List (Str × Int)):Prop where
 ex:∃ a es ep,mg x=some (.ref a)∧K.lookup a=some ⟨.type "dict",none,.dict es ep,#[]⟩∧(a == sysModules)=false∧tabS w es.toList kvs
section
variable {X:Cx} {T:Tb} {ES:St->XK} {e:Expr} {x:Str} {p apos cpos:Pos} {d:DE} {kvs:List (Str × Int)} {te:TE}
end
end L3

namespace L3
open PySem L2
def getL (l:List (List Int × Int)) (k:List Int):Option Int:=(l.find? fun p=>decide (p.1=k)).map (·.2)
def putL (l:List (List Int × Int)) (k:List Int) (v:Int):List (List Int × Int) :=
 if (l.any fun p=>decide (p.1=k))=true then l.map (fun p=>if p.1=k then (p.1,v) else p) else l ++ [(k,v)]
theorem jio {a b:List Int}:(a.map (Sum.inl:Int->Key)=b.map Sum.inl)↔a=b:=by
 constructor
 ·intro h
  induction a generalizing b with
  | nil=>cases b with
   | nil=>rfl
   | cons _ _=>cases h
  | cons x a ih=>cases b with
   | nil=>cases h
   | cons y b =>
    rw [List.map_cons,List.map_cons] at h
    injection h with h1 h2
    rw [Sum.inl.inj h1,ih h2]
 ·rintro rfl; rfl
theorem jii (ns:List Int):(ns.map (Sum.inl:Int->Key)).map kV=ns.map V.int:=by
 rw [List.map_map];rfl
section
variable {X:Cx} {T:Tb} {ES:St->XK} {e o:Expr} {es:List Expr} {pos p2 kp:Pos} {x1:Nat} {d do_ dz:DE} {dk:DA}
theorem hu1 {A:Around} {k:Nat} (hr:Room k A):A.units + 1 < cLine:=by have:=Xd hr; omega
end
end L3

namespace L2
open PySem PySem.Spec PyProof.Rows
section
variable {X:Cx} {tg:Expr} {pins:List (Addr × Obj)} {σ:St} {H:Hp} {s:Shared}
def iSeq (K:PySem.W.Frag) (tl:TE):TI:=fun σ H R=>tl σ H fun x H1=>∃ a,x = .ref a∧(((∃ xs,SqL K H1 a xs)∧R (Itl K a) H1)∨((∃ xs,SqT K H1 a xs)∧R (Itt K a) H1))
theorem pi_seq {l:Expr} {tl:TE} (hl:PE X l tl):PI X tg l (iSeq X.K tl):=by
 intro pins s σ H R I h;refine thn (hl pins s σ H _ I h) fun v s1 hS=>?_;obtain ⟨x,H1,I1,r1,a,e,q1⟩:=hS;subst e;cases r1
 have fp:∀ b ∈ [s1.heap.objs.size],uy X pins H1 b:=fun b hb=>by
  cases (List.mem_singleton.mp hb);exact I1.fpOk (Nat.le_refl _) (I1.hok.fresh (Nat.le_refl _))
 rcases q1 with ⟨⟨xs,hq⟩,q⟩ | ⟨⟨xs,hq⟩,q⟩
 ·obtain ⟨its,_,p,_⟩:=I1.list hq;exact wpAny_pyIter_list p.isList ⟨_,_,_,_,H1,rfl,I1.kept (t':=s1.toks) fun b o e=>Heap.get?_push_of_some _ e,XS a _,⟨_,Heap.get?_push_size _ rfl,rfl,rfl⟩,fp,q⟩
 ·obtain ⟨its,_,p,_⟩:=I1.tuple hq;exact wpAny_pyIter_tuple (show s1.heap.IsTuple a its.toArray from p) ⟨_,_,_,_,H1,rfl,I1.kept (t':=s1.toks) fun b o e=>Heap.get?_push_of_some _ e,jbD a _,⟨_,Heap.get?_push_size _ rfl,rfl,rfl⟩,fp,q⟩
end
end L2

namespace L3
open PySem L2
section
variable {X:Cx} {T:Tb} {ES:St->XK} {a b e tg iter:Expr} {es:List Expr} {p pos:Pos} {d:DE} {ds:DA}
def dItS (d:DE):En->Sto->Res ItP:=fun ρ M=>(d ρ M).bind fun x M1=>match x with
 | .tup xs=>.ok (.fix xs) M1
 | x=>ofO (itOf M1 x) M1
theorem qi_seq (hT:T.K=X.K) (h:QE X T ES e d):QI X T ES tg e (dItS d):=⟨YT (pi_seq h.h) fun σ H R hS=>jF hS fun W ρ M k hh hs q=>⟨W,ρ,M,k,hh,hs,ym.bind q fun W1 M1 x v H1 l1 h1 r1 p1=>by
 cases x with
 | tup xs =>
  obtain ⟨a,vs,rfl,ha,rr⟩:=r1
  have kk:W1.T.K=X.K:=by rw [l1.k,k]; exact hT
  have ha1:SqT X.K H1 a vs:=kk ▸ UI h1.f ha;refine ⟨a,rfl,.inr ⟨⟨vs,ha1⟩,p1 W1 H1 _ (.refl W1) h1 fun W' M' H' le hh' i=>?_⟩⟩;have hq:SqT X.K H' a vs:=kk ▸ UI (fun b o q=>hh'.f b o (le.f b o q)) ha;refine ⟨fun z e=>?_,fun e=>?_⟩
  ·obtain ⟨u,e2,r2⟩:=rr.get (show xs[i]? = some z from Option.some.inj e);refine ⟨⟨vs,u,hq,e2⟩,fun w H'' hS=>?_⟩;obtain ⟨eH,q⟩:=hS;subst eH
   have:=q vs hq
   rw [e2] at this;cases this;exact ⟨W',.refl W',hh',r2.up0 le⟩
  ·exact ⟨vs,hq,by rw [rr.length]; exact List.getElem?_eq_none_iff.mp (show xs[i]? = none from Option.some.inj e)⟩
 | lst xs =>
  obtain ⟨a,vs,rfl,ha,rr⟩:=r1;refine ⟨a,rfl,.inl ⟨⟨vs,SqL.of (h1.f _ _ ha)⟩,p1 W1 H1 _ (.refl W1) h1 (Yp rfl (fun W' M' H' le hh' ys hy=>?_) fun M=>.inl ⟨xs,fun i=>rfl⟩)⟩⟩
  have:ys=xs:=List.ext_getElem? (fun i=>(Option.some.inj (hy i)).symm)
  subst this;exact ⟨vs,hh'.f _ _ (le.f _ _ ha),rr.up0 le⟩
 | ref j =>
  have p1:ym W1 RI (ofO (match M1.g j with
   | some (.lst _)=>some (ItP.live j)
   | _=>none) M1) R (ES σ):=p1
  split at p1
  ·rename_i xs e1;obtain ⟨a,rfl,ea⟩:=r1;obtain ⟨b,o,h2,h3,h4,vs,rfl,rr⟩:=h1.m j _ e1;rw [ea] at h2;cases h2;refine ⟨a,rfl,.inl ⟨⟨vs,SqL.of h4⟩,p1 W1 H1 _ (.refl W1) h1 (Yp rfl (fun W' M' H' le hh' ys hy=>?_) fun M=>?_)⟩⟩
   ·cases e2:yZ M' (.ref j) with
    | none =>
     have:=hy 0
     rw [xq e2] at this;cases this
    | some zs =>
     have:ys=zs:=List.ext_getElem? (fun i=>by
      have:=hy i
      rw [Jj e2] at this
      exact (Option.some.inj this).symm)
     subst this;obtain ⟨a',vs',e3,h5,r5⟩:=xv (v:=.ref a) hh' (show Rep W' (.ref j) (.ref a) from ⟨a,rfl,le.a _ _ ea⟩) e2;cases e3;exact ⟨vs',h5,r5⟩
   ·cases e2:yZ M (.ref j) with
    | none=>exact .inr fun i=>xq e2
    | some zs=>exact .inl ⟨zs,fun i=>Jj e2⟩
  ·exact p1.elim
 | _=>exact p1.elim⟩⟩
end
end L3

namespace L3
open PySem L2
section
variable {X:Cx} {T:Tb} {ES:St->XK} {osc sc:Scope} {own fr:List Str} {js:List Nat} {elt target iter a b:Expr} {ifs:List Expr} {pos:Pos} {di:En->Sto->Res ItP} {g:TG} {bnd:PV->En->Option En} {dt:DT} {de da db:DE}
end
end L3

namespace L2
open PySem PySem.Spec PyProof.Rows
section
variable {prog:Program} {w:World} {A:Around} {E:Value->Shared->Prop} {s:Shared} {xs:List (List Key × Addr × Value)}
end
section
variable {X:Cx}
end
end L2

namespace L3
open PySem L2
section
variable {X:Cx} {T:Tb}
end
end L3

namespace L2
open PySem PySem.Spec PyProof.Rows
section
variable {prog:Program} {w:World} {A:Around} {R:Result->Shared->Prop} {s:Shared}
end
def BodyOk (X:Cx) (elt:Expr) (gens:List Comprehension) (scope:Scope) (pos:Pos) (d:Nat) (acc:Addr) (s:Shared) (Po:Shared->Prop):Prop:=match gens[d + 1]? with
 | none=>wpAny (model X.prog X.w) X.A (eval elt X.env) (fun x s₄=>wpAny (model X.prog X.w) X.A (call (.builtin "list.append") [.ref acc,x]) (fun _ s₅=>Po s₅) (fun _ _=>False) s₄) (fun _ _=>False) s
 | some g=>wpAny (model X.prog X.w) X.A (eval g.iter X.env) (fun x s₃=>wpAny (model X.prog X.w) X.A (pyIter x) (fun it' s₄ =>
   codeAny (model X.prog X.w) X.A (.compStart (.ListComp elt gens scope pos) (d + 1) it' (.ref acc) X.env) (fun r s₅=>match r with
    | .ok _=>Po s₅
    | .error _=>False) s₄) (fun _ _=>False) s₃) (fun _ _=>False) s
structure Plainly (env:Env) (gens:List Comprehension) (d:Nat):Prop where
 h:∀ g,gens[d + 1]? = some g->g.ifs=[]∧g.is_async=0∧∀ x,foldedSetIterable g.iter env x=pure x
abbrev TB:=Addr->St->Hp->(St->Hp->Prop)->Prop
def PMb (X:Cx) (elt:Expr) (gens:List Comprehension) (scope:Scope) (pos:Pos) (d:Nat) (tb:TB):Prop :=
 ∀ (acc:Addr) (pins:List (Addr × Obj)) (s:Shared) (σ:St) (H:Hp) (N:St->Hp->Prop),Inv X pins σ H s->tb acc σ H N->BodyOk X elt gens scope pos d acc s fun s'=>∃ σ' H',Inv X pins σ' H' s'∧N σ' H'
section
variable {X:Cx} {pins:List (Addr × Obj)} {σ:St} {H:Hp} {s:Shared} {osc sc:Scope} {own fr:List Str} {js:List Nat} {fp:List Addr}
end
section
variable {X:Cx} {osc sc:Scope} {own fr:List Str} {js:List Nat} {elt target iter:Expr} {rest:List Comprehension} {pos:Pos} {wi:TI} {g:TG} {tb:TB}
end
end L2

namespace L3
open PySem L2
abbrev EM:=En->Sto->Res (List PV)
def FinM (W:Wd) (acc:Addr) (ρ:En) (vs:List V) (N:St->Hp->Prop) (r:Res (List PV)):Prop:=match r with
 | .ok zs M'=>vs.length + zs.length<=sizeLine∧∀ W' σ' H' ws,W.le0 W'->W'.G=L2.upd W.G acc (.lst (vs ++ ws))->Held W' M' H'->yf W' zs ws->yF W' ρ σ'->N σ' H'
 | _=>False
def lfM (T:Tb) (own d:Nat) (em:EM):TB:=fun acc σ H N=>∃ W ρ M vs,W.T=T∧Held W M H∧yF W ρ σ∧W.G acc=some (.lst vs)∧(∀ j,d < j->j < own->ρ[j]? = some none)∧FinM W acc ρ vs N (em ρ M)
structure QM (X:Cx) (T:Tb) (own:Nat) (elt:Expr) (gens:List Comprehension) (sc:Scope) (pos:Pos) (d:Nat) (em:EM):Prop where
 h:PMb X elt gens sc pos d (lfM T own d em)
section
variable {X:Cx} {T:Tb} {ES:St->XK} {own d:Nat} {elt target iter:Expr} {gens:List Comprehension} {sc:Scope} {pos:Pos} {di:En->Sto->Res ItP} {em:EM} {de:DE}
end
section
variable {X:Cx} {T:Tb} {ES:St->XK} {osc sc:Scope} {own fr:List Str} {js:List Nat} {elt target iter:Expr} {rest:List Comprehension} {pos:Pos} {di:En->Sto->Res ItP} {em:EM}
end
structure CalZ (P:Program) (w:World) (K:PySem.W.Frag) (mg:Str->Option Value) (base:Heap) (T:Tb) (x:Str) (j:Nat) (D:List PV->Sto->Res PV):Prop where
 ex:∃ f fd,FnOk P w K mg base (CX1 P w) j f fd [] (spD T D)∧mg x=some (.ref f)∧PySem.W.keepIn K (.ref f)=true∧∀ s:Shared,K.In s.heap->BindsTo s fd ⟨[],[]⟩ []
end L3

namespace L2
open PySem PySem.Spec PyProof.Rows
section
variable {prog:Program} {w:World} {A:Around} {R:Result->Shared->Prop} {s:Shared}
end
def jiQ (X:Cx) (kx vx:Expr) (gens:List Comprehension) (scope:Scope) (pos:Pos) (d:Nat) (acc:Addr) (s:Shared) (Po:Shared->Prop):Prop:=match gens[d + 1]? with
 | none=>wpAny (model X.prog X.w) X.A (eval kx X.env) (fun kv s₃=>wpAny (model X.prog X.w) X.A (eval vx X.env) (fun vv s₄=>wpAny (model X.prog X.w) X.A (dictSet acc kv vv) (fun _ s₅=>Po s₅) (fun _ _=>False) s₄) (fun _ _=>False) s₃) (fun _ _=>False) s
 | some g=>wpAny (model X.prog X.w) X.A (eval g.iter X.env) (fun x s₃=>wpAny (model X.prog X.w) X.A (pyIter x) (fun it' s₄ =>
   codeAny (model X.prog X.w) X.A (.compStart (.DictComp kx vx gens scope pos) (d + 1) it' (.ref acc) X.env) (fun r s₅=>match r with
    | .ok _=>Po s₅
    | .error _=>False) s₄) (fun _ _=>False) s₃) (fun _ _=>False) s
def PMbD (X:Cx) (kx vx:Expr) (gens:List Comprehension) (scope:Scope) (pos:Pos) (d:Nat) (tb:TB):Prop :=
 ∀ (acc:Addr) (pins:List (Addr × Obj)) (s:Shared) (σ:St) (H:Hp) (N:St->Hp->Prop),Inv X pins σ H s->tb acc σ H N->jiQ X kx vx gens scope pos d acc s fun s'=>∃ σ' H',Inv X pins σ' H' s'∧N σ' H'
section
variable {X:Cx} {pins:List (Addr × Obj)} {σ:St} {H:Hp} {s:Shared} {osc sc:Scope} {own fr:List Str} {js:List Nat} {fp:List Addr}
end
section
variable {X:Cx} {osc sc:Scope} {own fr:List Str} {js:List Nat} {kx vx target iter:Expr} {rest:List Comprehension} {pos:Pos} {wi:TI} {g:TG} {tb:TB}
end
section
variable {prog:Program} {w:World} {A:Around} {E:Value->Shared->Prop} {s:Shared} {xs:List (List Key × Addr × Value)}
end
end L2

namespace L3
open PySem L2
abbrev Pr:=List Int × Int
abbrev EMD:=En->Sto->Res (List Pr)
def putAll (l zs:List Pr):List Pr:=zs.foldl (fun l p=>putL l p.1 p.2) l
def FinD (W:Wd) (acc:Addr) (ρ:En) (l:List Pr) (m:Nat) (N:St->Hp->Prop) (r:Res (List Pr)):Prop:=match r with
 | .ok zs M'=>m + zs.length<=sizeLine∧∀ W' σ' H',W.le0 W'->W'.G=L2.upd W.G acc (.dT (jix (putAll l zs)))->Held W' M' H'->yF W' ρ σ'->N σ' H'
 | _=>False
def lfD (T:Tb) (own d:Nat) (em:EMD):TB:=fun acc σ H N=>∃ W ρ M l m,W.T=T∧Held W M H∧yF W ρ σ∧W.G acc=some (.dT (jix l))∧l.length<=m∧(∀ j,d < j->j < own->ρ[j]? = some none)∧FinD W acc ρ l m N (em ρ M)
structure QMD (X:Cx) (T:Tb) (own:Nat) (kx vx:Expr) (gens:List Comprehension) (sc:Scope) (pos:Pos) (d:Nat) (em:EMD):Prop where
 h:PMbD X kx vx gens sc pos d (lfD T own d em)
section
variable {X:Cx} {T:Tb} {ES:St->XK} {own d:Nat} {kx vx target iter:Expr} {gens:List Comprehension} {sc:Scope} {pos:Pos} {di:En->Sto->Res ItP} {em:EMD} {dk:DA} {dv:DE}
end
section
variable {X:Cx} {T:Tb} {ES:St->XK} {osc sc:Scope} {own fr:List Str} {js:List Nat} {kx vx target iter:Expr} {rest:List Comprehension} {pos:Pos} {di:En->Sto->Res ItP} {em:EMD}
end
end L3

namespace L3
open PySem L2
section
variable {X:Cx} {T:Tb} {ES:St->XK} {a:Expr} {es:List Expr} {p pos:Pos} {ds:DA}
end
end L3

namespace L2
open PySem PySem.Spec PyProof.Rows
section
variable {prog:Program} {w:World} {A:Around} {E:Value->Shared->Prop} {s:Shared} {xs:List (List Key × Addr × Value)}
theorem jhn {d a:Addr} {k:List Key} {v:Value} {Q:Value->Shared->Prop} (hu:A.units < cLine) (hkey:(tupleKind (yk prog w)).is s.heap k a) (hm:s.heap.DictOfH (tupleKind (yk prog w)) d xs)
  (h1:∀ p,atKey xs k=some p->Q p.2 { s with toks:=s.toks + (tupleKind (yk prog w)).draws k })
  (h2:atKey xs k=none->∀ h',h'.DictOfH (tupleKind (yk prog w)) d (storedH xs k a v)->Heap.SameBut d s.heap h'->Q v { s with heap:=h',toks:=s.toks + (tupleKind (yk prog w)).draws k })
  (hsz:xs.length<=sizeLine):wpAny (model prog w) A (dictSetDefault d (.ref a) v) Q E s:=by
 obtain ⟨o,es,ep,ho,hc,hd,he,his,hn⟩:=hm;unfold dictSetDefault
 try with_reducible refine wpAny_holding ?_
 refine wpAny_bind ((tupleKind (yk prog w)).pyHash hu hkey ?_);refine wpAny_bind (wpAny_dictFind_heap (knd:=tupleKind (yk prog w)) (s:={ s with toks:=s.toks + (tupleKind (yk prog w)).draws k }) hu hkey ho hd he his hn ?_ ?_)
 ·intro hno;have hnot:k ∉ xs.map (·.1):=not_mem_keys_of_get hno;have hnn:=atKey_none_of_get hno
  refine wpAny_bind (wpAny_rule (wpAny_bind (wpAny_updateDictKeys (hz:=by have e:=size_of_entries he; omega) (s:={ s with toks:=s.toks + (tupleKind (yk prog w)).draws k }) ho hd (wpAny_pure (h2 hnn _ ⟨_,_,ep + 1,Heap.get?_update_self _ ho (Obj.isFreed_of_dict (Obj.data_mapDictKeys hd _)),
   hc.mapDictKeys _,Obj.data_mapDictKeys hd _,?_,?_,?_⟩ (Heap.SameBut.update ..))))))
  ·rw [storedH_new hnn];simp [he,entryOfKey]
  ·rw [storedH_new hnn];intro x hx
   rcases List.mem_append.mp hx with hx | hx
   ·exact (tupleKind (yk prog w)).keeps (his x hx) ho hd (Heap.SameBut.update ..)
   ·simp only [List.mem_singleton] at hx;subst hx;exact (tupleKind (yk prog w)).keeps hkey ho hd (Heap.SameBut.update ..)
  ·rw [storedH_new hnn,List.map_append,List.nodup_append];refine ⟨hn,by simp,?_⟩;intro x hx y hy;simp only [List.map_cons,List.map_nil,List.mem_singleton] at hy;subst hy;exact fun e=>hnot (e ▸ hx)
 ·intro j p hj;refine wpAny_bind (wpAny_dictEntries (s:={ s with toks:=s.toks + (tupleKind (yk prog w)).draws k }) ho hd ?_);rw [entry_at he j,hj];exact wpAny_bind (wpAny_rule (wpAny_pure (h1 p (atKey_of_get hn hj))))
theorem XI (d a:Addr) (hd:(d == sysModules)=false) (dflt:Value) :
  MeetsIn prog w (Builtin.«dict.setdefault» ⟨[.ref d,.ref a,dflt],[]⟩) (fun A R s=>A.units + 1 < cLine∧∃ k xs,(tupleKind (yk prog w)).is s.heap k a∧s.heap.DictOfH (tupleKind (yk prog w)) d xs∧xs.length<=sizeLine ∧
   (∀ p,atKey xs k=some p->R (.ok (.ret p.2)) { s with toks:=s.toks + (tupleKind (yk prog w)).draws k }) ∧
   (atKey xs k=none->∀ h',h'.DictOfH (tupleKind (yk prog w)) d (storedH xs k a dflt)->Heap.SameBut d s.heap h'->R (.ok (.ret dflt)) { s with heap:=h',toks:=s.toks + (tupleKind (yk prog w)).draws k })) :=
 .of_wp fun A R s hQQ=>by
  obtain ⟨hu,k,xs,hkey,hm,hsz,h1,h2⟩:=hQQ;unfold Builtin.«dict.setdefault»;refine wpAny_bind ?_;unfold Builtin.Dict.keyAndDefault;refine wpAny_bind (wpAny_notOrdered_dict hm.typeIs ?_);show wpAny _ _ (pure (d,Value.ref a,some dflt)) _ _ s;refine wpAny_pure ?_;show wpAny _ _ (if (d == sysModules)=true then _ else (dictSetDefault d (.ref a) dflt >>= _)) _ _ s;rw [if_neg (by rw [hd]; exact Bool.false_ne_true)];exact wpAny_bind (jhn (by show A.units + 1 < cLine; omega) hkey hm (fun p hp=>wpAny_pure ⟨p.2,rfl,h1 p hp⟩) (fun hn h' hm' hs'=>wpAny_pure ⟨dflt,rfl,h2 hn h' hm' hs'⟩) hsz)
end
section
variable {X:Cx} {pins:List (Addr × Obj)} {σ:St} {H:Hp} {s:Shared} {a b:Addr} {d:V} {r:Value} {A:Around} {E:Value->Shared->Prop} {kvs:List (List Key × V)} {k:List Key}
theorem jgJ {Q:Value->Shared->Prop} (hu:A.units + 1 < cLine) (I:Inv X pins σ H s) (e:H a=some (.dT kvs)) (eb:H b=some (.tup (k.map kV))) (l:kvs.length < sizeLine) (rd:yl d r)
  (h1:∀ v w' s',xI kvs k=some v->Inv X pins σ H s'->yl v w'->Q w' s') (h2:xI kvs k=none->∀ s',Inv X pins σ (upd H a (.dT (vC kvs k d))) s'->Q r s'):wpAny (model X.prog X.w) A (call (.builtin "dict.setdefault") [.ref a,.ref b,r]) Q E s:=by
 obtain ⟨z,hd,xs,rel,dd⟩:=dt_of I.hok e
 have hz:xs.length<=sizeLine:=by rw [<- Paired.length rel]; exact z
 have hl:(vC kvs k d).length<=sizeLine:=by have:=uk kvs k d; omega
 have rv:=rel.val k;refine call_meetsIn PySem.F.slot_dict_setdefault dd.typeIs PySem.F.entry_dict_setdefault (PySem.F.args_dict_setdefault_3 _ _ _) (XI a b hd r) ⟨hu,k,xs,uU I.hok eb,dd,hz,fun p hp=>?_,fun hn h' dd' hs=>?_⟩
 ·rw [hp] at rv
  cases ev:xI kvs k with
  | none=>rw [ev] at rv; exact absurd rv (by intro z; cases z)
  | some v =>
   rw [ev] at rv;exact h1 v _ _ ev (I.tok _) rv
 ·rw [hn] at rv
  have en:xI kvs k=none:=by
   cases ev:xI kvs k with
   | none=>rfl
   | some v=>rw [ev] at rv; exact absurd rv (by intro z; cases z)
  refine h2 en _ ?_;obtain ⟨q,es,ep,hq,g2,g3,g4,_,g5⟩:=dd';refine jae I (by rw [e]; exact True.intro) hs ⟨q,hq⟩ ⟨hl,hd,_,(rel.put k eb rd).keeps fun c ys ec=>?_,q,es,ep,hq,g2,g3,g4,g5⟩;rw [jm (jiW ec e (fun z=>nomatch z))];exact ec
end
section
variable {X:Cx} {o e f:Expr} {apos cpos:Pos} {td ty tx:TE}
def tDSet2 (td ty tx:TE):TE:=fun σ H Q=>td σ H fun x H1=>∃ a,x = .ref a∧IsD H1 a∧ty σ H1 fun y H2=>tx σ H2 fun z H3=>∃ b k kvs,y = .ref b∧H3 b=some (.tup (k.map kV))∧H3 a=some (.dT kvs)∧kvs.length < sizeLine ∧
 (∀ v,xI kvs k=some v->Q v H3)∧(xI kvs k=none->Q z (upd H3 a (.dT (vC kvs k z))))
theorem jbS (hu:X.A.units + 1 < cLine) (ho:PE X o td) (he:PE X e ty) (hf:PE X f tx) (m:M2 X o "setdefault" apos e f cpos):PE X (.Call (.Attribute o "setdefault" apos) [e,f] [] cpos) (tDSet2 td ty tx):=by
 intro pins s σ H Q I h;refine wpAny_Call_method m.base m.few m.line PySem.F.plainAttrs_dict PySem.F.slot_dict_setdefault PySem.F.type_dict_setdefault (thn (ho pins s σ H _ I h) fun u s1 hQQ=>?_);obtain ⟨x,H1,I1,rx,a,ex,d,q1⟩:=hQQ;subst ex;obtain rfl:u=Value.ref a:=rx;obtain ⟨t1,t2,_⟩:=UW I1 d;refine ⟨t1,t2,?_⟩;rw [m.trees];refine Calls.callWith_builtin rfl (Calls.evalArgs_plain (Calls.spliced_cons (thn (he pins s1 σ H1 _ I1 q1) fun iv s2 hQQ=>?_)));obtain ⟨y,H2,I2,ry,q2⟩:=hQQ;refine Calls.spliced_cons (thn (hf pins s2 σ H2 _ I2 q2) fun fv s3 hQQ=>?_);obtain ⟨z,H3,I3,rz,b,k,kvs,ey,hb,ha,hl,c1,c2⟩:=hQQ;subst ey;cases ry;refine Calls.spliced_nil ?_
 exact jgJ hu I3 ha hb hl rz (fun v w' s4 ev I4 rw'=>⟨v,H3,I4,rw',c1 v ev⟩) fun en s4 I4=>⟨z,_,I4,rz,c2 en⟩
end
end L2

namespace L2
open PySem PySem.Spec PyProof.Rows PySem.W
section
variable {prog:Program} {w:World} {A:Around} {E:Value->Shared->Prop} {s:Shared}
theorem iterK {d:Addr} {od:Obj} {es:Array DictEntry} {ep:Nat} {Q:Value->Shared->Prop} (nd:(d == sysModules)=false) (ho:s.heap.get? d=some od) (hx:od.ExactDict) (hd:od.data = .dict es ep)
  (hQ:Q (.ref s.heap.objs.size) { s with heap:=s.heap.push { cls:=.type "dict_keyiterator",data:=.fields #[.ref d,.int 0 0,.int es.size 0,.int ep 0] } }):wpAny (model prog w) A (pyIter (.ref d)) Q E s:=by
 have hT:s.TypeIs (.ref d) "dict":=⟨od,ho,hx.1⟩
 refine wpAny_pyIter_slot hT PySem.F.slot_dict_iter (wpAny_call_entry PySem.F.slot_dict_iter hT PySem.F.entry_dict_iter ?_ (PySem.F.args_dict_iter_1 _));unfold Builtin.«dict.__iter__»;refine wpAny_bind ?_;unfold Builtin.Dict.dictSlotNone;refine wpAny_bind (wpAny_notOrdered_dict hT ?_);show wpAny _ _ (pure (Value.ref d)) _ _ s;refine wpAny_pure ?_;show wpAny _ _ (Builtin.Dict.showsAll d >>= _) _ _ s;unfold Builtin.Dict.showsAll;rw [if_neg (by rw [nd]; exact Bool.false_ne_true)];refine wpAny_bind (wpAny_pure ?_);refine wpAny_bind (wpAny_dictEntries ho hd ?_);refine wpAny_bind (wpAny_dictEpoch ho hd ?_);refine wpAny_bind (wpAny_newObj_type (wpAny_pure ⟨_,rfl,"dict_keyiterator",_,⟨_,Heap.get?_push_size _ rfl,rfl⟩,PySem.F.slot_dict_keyiterator_next.lookup,?_⟩));simpa [rawInt] using hQ
theorem jbV {it d:Addr} {i ep:Nat} {es:Array DictEntry} {od:Obj} {Q:Option Value->Shared->Prop} (hit:s.heap.IsKeyIter it d i es.size ep) (hod:s.heap.get? d=some od) (hdd:od.data = .dict es ep) (hlt':i < es.size)
  (hQ:∀ h',h'.IsKeyIter it d (i + 1) es.size ep->Heap.SameBut it s.heap h'->Q (some es[i].key) { s with heap:=h' }):wpAny (model prog w) A (pyNext (.ref it)) Q E s:=by
 obtain ⟨o,ho,hc,hd⟩:=id hit;unfold pyNext
 refine wpAny_bind (wpAny_attempt (wpAny_callSpecial?_slot (name:=Str.ofString "__next__") hit.typeIs PySem.F.slot_dict_keyiterator_next
  (wpAny_call_entry PySem.F.slot_dict_keyiterator_next hit.typeIs PySem.F.entry_dict_keyiterator_next ?_ (PySem.F.args_dict_keyiterator_next_1 _))))
 refine wpAny_bind (wpAny_pure ?_);refine wpAny_bind ?_;refine wpAny_bind ?_
 first | refine wpAny_bind (wpAny_typeNameOfWhole_keyiter hit.typeIs (wpAny_pure ?_)) | refine wpAny_bind (wpAny_typeNameOf_keyiter hit.typeIs (wpAny_pure ?_))
 refine wpAny_bind (wpAny_fieldsOf ho hd ?_)
 have hown:Builtin.Dict_items.ownsTuple "dict_keyiterator" = false:=by decide
 simp only [hown,Bool.false_eq_true,if_false];show wpAny _ _ (if (Value.ref d == Value.none)=true then _ else _) _ _ s;rw [if_neg (show ¬ ((Value.ref d == Value.none)=true) from Bool.false_ne_true)];refine wpAny_bind (wpAny_pure ?_);refine wpAny_bind (wpAny_dictEntries hod hdd ?_);rw [if_neg (by simp)];refine wpAny_bind (wpAny_pure ?_);refine wpAny_bind (wpAny_dictEpoch hod hdd ?_);rw [if_neg (by simp)];refine wpAny_pure ?_;simp only [show ¬ ((i:Int) < 0) from by omega,if_false,Int.toNat_natCast,Array.getElem?_eq_getElem hlt'];refine wpAny_bind ?_
 first | refine wpAny_bind (wpAny_typeNameOfWhole_keyiter hit.typeIs (wpAny_pure ?_)) | refine wpAny_bind (wpAny_typeNameOf_keyiter hit.typeIs (wpAny_pure ?_))
 refine wpAny_bind (wpAny_isOneOf_keyiter hit.typeIs ?_);show wpAny _ _ (setField (.ref it) 1 (rawInt ((i:Int) + 1)) >>= _) _ _ s;refine wpAny_bind (wpAny_setField ho hd (by simp) ?_)
 have hit':(s.heap.update it (Obj.mapFields (·.setIfInBounds 1 (rawInt ((i:Int) + 1))))).IsKeyIter it d (i + 1) es.size ep :=
  ⟨_,Heap.get?_update_self _ ho (Obj.isFreed_of_fields (Obj.data_mapFields hd _)),(Obj.cls_mapFields ..).trans hc,by rw [Obj.data_mapFields hd]; simp [rawInt]⟩
 refine wpAny_bind (wpAny_holding ?_);refine wpAny_bind (wpAny_isOneOf_keyiter (s:={ s with heap:=s.heap.update it (Obj.mapFields (·.setIfInBounds 1 (rawInt ((i:Int) + 1)))) }) hit'.typeIs ?_);show wpAny _ _ (pure es[i].key) _ _ _;exact wpAny_pure (wpAny_pure ⟨_,rfl,wpAny_pure (hQ _ hit' (Heap.SameBut.update ..))⟩)
theorem jdM {it d:Addr} {i ep:Nat} {es:Array DictEntry} {od:Obj} {Q:Option Value->Shared->Prop} (hh:A.handled=none) (hit:s.heap.IsKeyIter it d i es.size ep) (hod:s.heap.get? d=some od) (hdd:od.data = .dict es ep) (hge:es.size<=i)
  (hQ:∀ h',Heap.ExtBut it s.heap h'->Q none { s with heap:=h' }):wpAny (model prog w) A (pyNext (.ref it)) Q E s:=by
 obtain ⟨o,ho,hc,hd⟩:=id hit;unfold pyNext
 refine wpAny_bind (wpAny_attempt (wpAny_callSpecial?_slot (name:=Str.ofString "__next__") hit.typeIs PySem.F.slot_dict_keyiterator_next
  (wpAny_call_entry PySem.F.slot_dict_keyiterator_next hit.typeIs PySem.F.entry_dict_keyiterator_next ?_ (PySem.F.args_dict_keyiterator_next_1 _))))
 refine wpAny_bind (wpAny_pure ?_);refine wpAny_bind ?_;refine wpAny_bind ?_
 first | refine wpAny_bind (wpAny_typeNameOfWhole_keyiter hit.typeIs (wpAny_pure ?_)) | refine wpAny_bind (wpAny_typeNameOf_keyiter hit.typeIs (wpAny_pure ?_))
 refine wpAny_bind (wpAny_fieldsOf ho hd ?_)
 have hown:Builtin.Dict_items.ownsTuple "dict_keyiterator" = false:=by decide
 simp only [hown,Bool.false_eq_true,if_false];show wpAny _ _ (if (Value.ref d == Value.none)=true then _ else _) _ _ s;rw [if_neg (show ¬ ((Value.ref d == Value.none)=true) from Bool.false_ne_true)];refine wpAny_bind (wpAny_pure ?_);refine wpAny_bind (wpAny_dictEntries hod hdd ?_);rw [if_neg (by simp)];refine wpAny_bind (wpAny_pure ?_);refine wpAny_bind (wpAny_dictEpoch hod hdd ?_);rw [if_neg (by simp)];refine wpAny_pure ?_;simp only [show ¬ ((i:Int) < 0) from by omega,if_false,Int.toNat_natCast,Array.getElem?_eq_none hge];refine wpAny_bind ?_
 first | refine wpAny_bind (wpAny_typeNameOfWhole_keyiter hit.typeIs (wpAny_pure ?_)) | refine wpAny_bind (wpAny_typeNameOf_keyiter hit.typeIs (wpAny_pure ?_))
 show wpAny _ _ (setField (.ref it) 0 .none >>= _) _ _ s;refine wpAny_bind (wpAny_setField ho hd (by simp) ?_);show wpAny _ _ (newExc (.type "StopIteration") [] >>= _) _ _ _;refine wpAny_bind ?_;simp only [newExc,newTuple];refine wpAny_bind (wpAny_newObj_type ?_ (by size_fits));refine wpAny_bind (m:=firstArgMember _ _) (wpAny_of_eq (a:=Value.none) (by first | rfl | (simp only [firstArgMember]; rfl)) ?_);refine wpAny_newObj_type ?_ (by size_fits);simp only [raiseNew];refine wpAny_bind (wpAny_handled ?_);rw [show A.in1.handled=none from hh];refine wpAny_bind (wpAny_pure (wpAny_throw ?_));refine wpAny_bind (wpAny_isInstance (T:="StopIteration") (b:=true) ⟨_,Heap.get?_push_size _ rfl,rfl⟩ isSubtype_stop ?_);exact wpAny_pure (hQ _ (((Heap.SameBut.update ..).extBut.push _).push _))
theorem walksK (hh:A.handled=none) (I d:Addr) (hne:d≠I) {od:Obj} {es:Array DictEntry} {ep:Nat} (hdd:od.data = .dict es ep) :
  Walks prog w A I [I,d] [I] es.size (fun i v=>∃ e,es[i]? = some e∧v=e.key) (fun i h=>h.IsKeyIter I d i es.size ep∧h.get? d=some od) where
 sub:=fun b hb=>by simp at hb; simp [hb]
 frame:=fun _ _ _ st hk=>⟨st.1.at fun o e=>hk I (by simp) o e,hk d (by simp) _ st.2⟩
 item:=fun i s Q E hi st hQ=>by
  refine jbV st.1 st.2 hdd hi fun h' hit' hs'=>?_;exact hQ _ h' s.toks ⟨es[i],Array.getElem?_eq_getElem hi,rfl⟩ ⟨hit',(hs'.2 d hne).trans st.2⟩ fun b o hb e=>hs'.extBut b o (fun h=>hb (by simp [h])) e
 done:=fun s Q E st hQ=>jdM hh st.1 st.2 hdd (Nat.le_refl _) fun h' he'=>hQ h' s.toks fun b o hb e=>he' b o (fun h=>hb (by simp [h])) e
 self:=fun _ _ _ _ st hQ=>wpAny_pyIter_keyiter st.1 hQ
theorem srcK {d:Addr} {od:Obj} {es:Array DictEntry} {ep:Nat} (nd:(d == sysModules)=false) (hx:od.ExactDict) (hdd:od.data = .dict es ep):KdlSrc prog w "dict" d d es.size (fun i v=>∃ e,es[i]? = some e∧v=e.key) (fun h=>h.get? d=some od) where
 type:=fun _ ho=>⟨od,ho,hx.1⟩
 there:=fun _ ho=>⟨Heap.lt_size ho,Heap.lt_size ho⟩
 keep:=fun _ _ ho hk=>hk d (.inl rfl) _ ho
 notList:=by decide
 notTuple:=by decide
 hint:=fun _ _ _ _ ho hq=>kdl_hint_dict ⟨od,ho,hx.1⟩ hq
 iter:=fun _ _ hh ho=>⟨_,_,(fun _ _ hq=>iterK nd ho hx hdd hq),walksK hh _ d (Nat.ne_of_lt (Heap.lt_size ho)) hdd,⟨⟨_,Heap.get?_push_size _ rfl,rfl,rfl⟩,Heap.get?_push_of_some _ ho⟩⟩
end
theorem jdQ {P:Program} {w:World} {H:Hp} {kvs:List (List Key × V)} {xs:List (List Key × Addr × Value)} (r:KT H kvs xs):∃ bs:List Addr,bs.length=kvs.length∧(xs.map fun x=>Value.ref x.2.1)=bs.map Value.ref∧∀ (j:Nat) (kv:List Key × V) (b:Addr),kvs[j]? = some kv->bs[j]? = some b->H b=some (.tup (kv.1.map kV)):=by
 refine ⟨xs.map fun x=>x.2.1,by rw [List.length_map]; exact (Paired.length r).symm,by rw [List.map_map]; rfl,fun j kv b e1 e2=>?_⟩;obtain ⟨q,hq,z1,z2,z3⟩:=L2.Paired.at r e1;rw [List.getElem?_map,hq] at e2;cases e2;exact z2
theorem XR:∀ bs:List Addr,yj (bs.map V.ref) (bs.map Value.ref)
 | []=>.nil
 | _ :: bs=>.cons rfl (XR bs)
section
variable {X:Cx}
theorem Xz (hc:X.calm=true):yx X (.type "list") (fun xs H Q=>∃ p kvs,xs=[.ref p]∧H p=some (.dT kvs)∧∀ (l:Addr) (bs:List Addr),H l=none->bs.length=kvs.length->(∀ (j:Nat) (kv:List Key × V) (b:Addr),kvs[j]? = some kv->bs[j]? = some b->H b=some (.tup (kv.1.map kV)))->Q (.ref l) (upd H l (.lst (bs.map V.ref)))):=by
 intro pins s σ H xs us Q I r h;obtain ⟨p,kvs,rfl,hp,q⟩:=h;obtain ⟨u,rfl,rx⟩:=Yx r;cases rx
 obtain ⟨hz,hd,ys,rel,o,es,ep,ho,hx,hdat,hes,nd⟩:=(show yE X.prog X.w H s.heap p (.dT kvs) from I.hok p _ hp)
 obtain ⟨bs,hbl,hbv,hbt⟩:=jdQ (P:=X.prog) (w:=X.w) rel;have hsz:es.size=ys.length:=size_of_entries hes;have hyl:ys.length=kvs.length:=(Paired.length rel).symm;refine kdl_call (srcK hd hx hdat) (I.ok.hd hc) ho (by rw [hsz,hyl]; exact hz) fun h' tk acc c kp e it=>?_
 have hacc:acc.toList=bs.map Value.ref:=by
  rw [<- hbv];refine List.ext_getElem? fun j=>?_
  by_cases hj:j < es.size
  ·obtain ⟨v,hv⟩:∃ v,acc.toList[j]? = some v:=⟨_,List.getElem?_eq_getElem (by rw [Array.length_toList,it.1]; exact hj)⟩
   obtain ⟨e1,e2,e3⟩:=it.2 j v (by rw [<- Array.getElem?_toList]; exact hv);rw [entry_at hes j] at e2;rw [hv,List.getElem?_map]
   cases ey:ys[j]? with
   | none=>rw [ey] at e2; cases e2
   | some y =>
    rw [ey] at e2;cases e2;rw [e3];rfl
  ·rw [List.getElem?_eq_none (by rw [Array.length_toList,it.1]; omega),List.getElem?_map,List.getElem?_eq_none (by omega)];rfl
 refine ⟨.ref s.heap.objs.size,_,I.laid (t':=tk) kp (Nat.le_refl _) (show yE X.prog X.w _ h' _ (.lst (bs.map V.ref)) from ⟨by rw [List.length_map,hbl]; exact hz,bs.map Value.ref,c,XR bs,?_⟩),rfl,q _ bs (I.hok.fresh (Nat.le_refl _)) hbl hbt⟩;rw [<- hacc,Array.toArray_toList];exact e
end
end L2

namespace L3
open PySem L2
section
variable {α κ:Type} [DecidableEq α] [DecidableEq κ]
def xa (l:List (α × PV)) (k:α):Option PV:=(l.find? fun p=>decide (p.1=k)).map (·.2)
def vc (l:List (α × PV)) (k:α) (x:PV):List (α × PV) :=
 if (l.any fun p=>decide (p.1=k))=true then l.map (fun p=>if p.1=k then (p.1,x) else p) else l ++ [(k,x)]
variable {W:Wd} {f:α->κ}
theorem xh.length:∀ {l:List (α × PV)} {vs:List (κ × V)},xh W f l vs->vs.length=l.length
 | [],_,e=>by cases e; rfl
 | _ :: _,_,⟨_,_,e,_,t⟩=>by subst e; rw [List.length_cons,List.length_cons,xh.length t]
theorem xh.any (hf:∀ a b,f a=f b->a=b) (k:α):∀ {l:List (α × PV)} {vs:List (κ × V)},xh W f l vs->(vs.any fun p=>decide (p.1=f k))=l.any fun p=>decide (p.1=k)
 | [],_,e=>by cases e; rfl
 | p :: _,_,⟨_,_,e,_,t⟩=>by
  subst e;rw [List.any_cons,List.any_cons,xh.any hf k t];congr 1;exact decide_eq_decide.mpr ⟨hf _ _,fun z=>by rw [z]⟩
theorem xh.get (hf:∀ a b,f a=f b->a=b) (k:α):∀ {l:List (α × PV)} {vs:List (κ × V)},xh W f l vs->(xa l k=none∧xI vs (f k)=none)∨∃ x v,xa l k=some x∧xI vs (f k)=some v∧Rep W x v
 | [],_,e=>by cases e; exact .inl ⟨rfl,rfl⟩
 | p :: r,_,⟨v,rs,e,rv,t⟩=>by
  subst e;unfold xa;rw [List.find?_cons]
  by_cases h:p.1=k
  ·rw [decide_eq_true h];exact .inr ⟨p.2,v,rfl,Jd (by rw [h]),rv⟩
  ·rw [decide_eq_false h];have hv:xI ((f p.1,v) :: rs) (f k)=xI rs (f k):=Je (fun z=>h (hf _ _ z));rw [hv];exact xh.get hf k t
theorem xh.snoc {k:α} {x:PV} {v:V} (rv:Rep W x v):∀ {l:List (α × PV)} {vs:List (κ × V)},xh W f l vs->xh W f (l ++ [(k,x)]) (vs ++ [(f k,v)])
 | [],_,e=>by cases e; exact ⟨v,[],rfl,rv,rfl⟩
 | _ :: _,_,⟨u,rs,e,r,t⟩=>by subst e; exact ⟨u,_,rfl,r,xh.snoc rv t⟩
theorem xh.repl (hf:∀ a b,f a=f b->a=b) {k:α} {x:PV} {v:V} (rv:Rep W x v):∀ {l:List (α × PV)} {vs:List (κ × V)},xh W f l vs->xh W f (l.map fun p=>if p.1=k then (p.1,x) else p) (vs.map fun p=>if p.1=f k then (p.1,v) else p)
 | [],_,e=>by cases e; exact rfl
 | p :: _,_,⟨u,rs,e,r,t⟩=>by
  subst e;rw [List.map_cons,List.map_cons]
  by_cases h:p.1=k
  ·rw [if_pos h,if_pos (by rw [h])];exact ⟨v,_,rfl,rv,xh.repl hf rv t⟩
  ·rw [if_neg h,if_neg (fun z=>h (hf _ _ z))];exact ⟨u,_,rfl,r,xh.repl hf rv t⟩
theorem xh.put (hf:∀ a b,f a=f b->a=b) {k:α} {x:PV} {v:V} {l:List (α × PV)} {vs:List (κ × V)} (r:xh W f l vs) (rv:Rep W x v):xh W f (vc l k x) (vC vs (f k) v):=by
 unfold vc vC;rw [r.any hf k];split
 ·exact r.repl hf rv
 ·exact r.snoc rv
end
theorem xP (a b:List Int) (h:Jp a=Jp b):a=b:=jio.mp h
theorem jfS (a b:Int) (h:jfT a=jfT b):a=b:=Sum.inl.inj h
theorem uG (ns:List Int):(Jp ns).map kV=ns.map V.int:=jii ns
def jiA:DE:=fun _ M=>.ok (.ref M.n) (M.new (.dtv []))
def jbk:DE:=fun _ M=>.ok (.ref M.n) (M.new (.dkv []))
def VI (M:Sto) (o:PV) (ks:List PV) (x:PV):Option Sto:=match o with
 | .ref i=>(match M.g i with
  | some (.dtv l)=>(match ua ks with
   | some ns=>if ns.length<=sizeLine∧l.length < sizeLine then some (M.set i (.dtv (vc l ns x))) else none
   | none=>none)
  | _=>none)
 | _=>none
def JM (d do_:DE) (dk:DA):DS:=fun ρ M=>(d ρ M).st ρ fun x M1=>(do_ ρ M1).st ρ fun o M2=>(dk ρ M2).st ρ fun ks M3=>match VI M3 o ks x with
 | some M4=>.nx ρ M4
 | none=>.bad
def YR (M:Sto) (o k x:PV):Option Sto:=match o,k with
 | .ref i,.int n=>(match M.g i with
  | some (.dkv l)=>if l.length < sizeLine then some (M.set i (.dkv (vc l n x))) else none
  | _=>none)
 | _,_=>none
def jbK (d do_ dk:DE):DS:=fun ρ M=>(d ρ M).st ρ fun x M1=>(do_ ρ M1).st ρ fun o M2=>(dk ρ M2).st ρ fun k M3=>match YR M3 o k x with
 | some M4=>.nx ρ M4
 | none=>.bad
def jdU (neg:Bool) (M:Sto) (ks:List PV) (o:PV):Option PV:=match o with
 | .ref i=>(match M.g i with
  | some (.dtv l)=>(match ua ks with
   | some ns=>if ns.length<=sizeLine then some (.bl (if neg then !(xa l ns).isSome else (xa l ns).isSome)) else none
   | none=>none)
  | _=>none)
 | _=>none
def uu (neg:Bool) (dk:DA) (do_:DE):DE:=fun ρ M=>(dk ρ M).bind fun ks M1=>if ks.length<=sizeLine then (do_ ρ M1).bind fun o M2=>(match jdU neg M2 ks o with
 | some z=>.ok z M2
 | none=>.bad) else .bad
def Jx (do_:DE) (dk:DA) (dz:DE):DE:=fun ρ M=>(do_ ρ M).bind fun o M1=>match o with
 | .ref i=>(match M1.g i with
  | some (.dtv _)=>(dk ρ M1).bind fun ks M2=>(match ua ks with
   | some ns=>if ns.length<=sizeLine then (dz ρ M2).bind fun z M3=>(match M3.g i with
    | some (.dtv l)=>if l.length < sizeLine then (match xa l ns with
     | some x=>.ok x M3
     | none=>.ok z (M3.set i (.dtv (vc l ns z)))) else .bad
    | _=>.bad) else .bad
   | none=>.bad)
  | _=>.bad)
 | _=>.bad
def jah (do_:DE) (dk:DA) (dz:DE):DE:=fun ρ M=>(do_ ρ M).bind fun o M1=>match o with
 | .ref i=>(match M1.g i with
  | some (.dtv _)=>(dk ρ M1).bind fun ks M2=>(match ua ks with
   | some ns=>if ns.length<=sizeLine then (dz ρ M2).bind fun z M3=>(match M3.g i with
    | some (.dtv l)=>.ok ((xa l ns).getD z) M3
    | _=>.bad) else .bad
   | none=>.bad)
  | _=>.bad)
 | _=>.bad
def jaZ:Sto->PV->Option PV:=fun M x=>match x with
 | .ref i=>(match M.g i with
  | some (.dkv l)=>some (.int l.length)
  | _=>none)
 | _=>none
def jab:Sto->PV->Option PV:=fun M x=>match x with
 | .ref i=>(match M.g i with
  | some (.dtv l)=>some (.lst (l.map fun p=>.tup (p.1.map PV.int)))
  | _=>none)
 | _=>none
section
variable {X:Cx} {T:Tb} {ES:St->XK} {e o f:Expr} {es:List Expr} {pos p2 kp:Pos} {x1:Nat} {d do_ dz dk1:DE} {dk:DA}
theorem jbO:QE X T ES (.Dict [] [] pos) jiA:=⟨jQ jfq fun σ H Q hQQ=>jF hQQ fun W ρ M k hh hs q=>fun p hp=>by
 obtain ⟨le,h1,h2⟩:=hh.put (l:=p) (o:=.dT []) (c:=.dtv []) hp ⟨[],rfl,rfl⟩
 exact q _ _ _ le h1 ⟨p,rfl,h2⟩⟩
theorem jeT:QE X T ES (.Dict [] [] pos) jbk:=⟨jQ jfr fun σ H Q hQQ=>jF hQQ fun W ρ M k hh hs q=>fun p hp=>by
 obtain ⟨le,h1,h2⟩:=hh.put (l:=p) (o:=.dK []) (c:=.dkv []) hp ⟨[],rfl,rfl⟩
 exact q _ _ _ le h1 ⟨p,rfl,h2⟩⟩
theorem jaI (hu:X.A.units + 1 < cLine) (he:QE X T ES e d) (ho:QE X T ES o do_) (hk:QA X T ES es dk) (hw:swapsWith e (some (.Subscript o (.Tuple es x1 kp) p2)) pos.line X.env=pure false:=by rfl) :
  QS X T ES (.Assign [.Subscript o (.Tuple es x1 kp) p2] e pos) (JM d do_ dk) :=
 ⟨yQ (jcI hu ho.h (uS hk.h) he.h hw) fun D σ H hQQ=>yM hQQ fun W ρ M k hh hs q=>⟨W,ρ,M,k,hh,hs,yt.bind hs q fun W1 M1 x v H1 l1 h1 r1 q1=>by
  have hs1:=hs.up l1;refine ⟨W1,ρ,M1,l1.k.trans k,h1,hs1,yt.bind hs1 q1 fun W2 M2 o' ov H2 l2 h2 r2 q2=>?_⟩;have hs2:=hs1.up l2;refine ⟨W2,ρ,M2,l2.k.trans (l1.k.trans k),h2,hs2,yt.bind hs2 q2 fun W3 M3 ks kv H3 l3 h3 r3 q3=>?_⟩;split at q3
  rotate_left
  ·exact q3.elim
  rename_i M4 e4;unfold VI at e4;split at e4
  rotate_left
  ·cases e4
  rename_i i;split at e4
  rotate_left
  ·cases e4
  rename_i l e5;split at e4
  rotate_left
  ·cases e4
  rename_i ns e6;split at e4
  rotate_left
  ·cases e4
  rename_i hc;cases e4;have ek:=xQ e6;subst ek;have ev:kv=ns.map V.int:=yf.ints.mp r3;subst ev;obtain ⟨a,rfl,ea⟩:=r2.up l3;obtain ⟨b,ob,g1,g2,g3,vs,rfl,ra⟩:=h3.m i _ e5;rw [ea] at g1;cases g1;refine ⟨by rw [List.length_map]; exact hc.1,fun p hp=>?_⟩;obtain ⟨l4,h4,f4⟩:=h3.frz (o:=.tup (ns.map V.int)) hp;have na:a≠p:=jy g3 hp;refine ⟨a,_,rfl,jbC.t (k:=Jp ns) (kvs:=vs) (by rw [jm na]; exact g3) (by rw [jv,uG]) (by rw [ra.length]; exact hc.2),?_⟩
  exact q3 _ σ _ l4 (h4.upd e5 (l4.a _ _ ea) (c':=.dtv (vc l ns x)) (o:=.dT (vC vs (Jp ns) v)) ⟨_,rfl,(ra.up0 l4.toLe0).put xP (((r1.up l2).up l3).up l4)⟩) ((hs2.up l3).up l4)⟩⟩
theorem jeM (hu:X.A.units + 1 < cLine) (he:QE X T ES e d) (ho:QE X T ES o do_) (hk:QE X T ES f dk1) (hw:swapsWith e (some (.Subscript o f p2)) pos.line X.env=pure false:=by rfl) :
  QS X T ES (.Assign [.Subscript o f p2] e pos) (jbK d do_ dk1) :=
 ⟨yQ (jcI hu ho.h hk.h he.h hw) fun D σ H hQQ=>yM hQQ fun W ρ M k hh hs q=>⟨W,ρ,M,k,hh,hs,yt.bind hs q fun W1 M1 x v H1 l1 h1 r1 q1=>by
  have hs1:=hs.up l1;refine ⟨W1,ρ,M1,l1.k.trans k,h1,hs1,yt.bind hs1 q1 fun W2 M2 o' ov H2 l2 h2 r2 q2=>?_⟩;have hs2:=hs1.up l2;refine ⟨W2,ρ,M2,l2.k.trans (l1.k.trans k),h2,hs2,yt.bind hs2 q2 fun W3 M3 kk kv H3 l3 h3 r3 q3=>?_⟩;split at q3
  rotate_left
  ·exact q3.elim
  rename_i M4 e4;unfold YR at e4;split at e4
  rotate_left
  ·cases e4
  rename_i i n;split at e4
  rotate_left
  ·cases e4
  rename_i l e5;split at e4
  rotate_left
  ·cases e4
  rename_i hc;cases e4;cases (show kv = .int n from r3);obtain ⟨a,rfl,ea⟩:=r2.up l3;obtain ⟨b,ob,g1,g2,g3,vs,rfl,ra⟩:=h3.m i _ e5;rw [ea] at g1;cases g1;refine ⟨a,_,rfl,jbC.k (k:=jfT n) (kvs:=vs) g3 (by rw [ra.length]; exact hc),?_⟩
  exact q3 _ σ _ (.refl W3) (h3.upd e5 ea (c':=.dkv (vc l n x)) (o:=.dK (vC vs (jfT n) v)) ⟨_,rfl,ra.put jfS ((r1.up l2).up l3)⟩) (hs2.up l3)⟩⟩
theorem VU {neg:Bool} {σ:St} {H:Hp} {Q:VK} {td:TE} {ta:TA} (hta:ta=lft T yf ES dk) (htd:td=lft T Rep ES do_) (h:lft T Rep ES (uu neg dk do_) σ H Q) :
  tTup ta σ H fun y H1=>td σ H1 fun x H2=>∃ a r,x = .ref a∧JG H2 a y r∧Q (.bl (if neg then !r.isSome else r.isSome)) H2:=by
 subst hta htd
 refine jF h fun W ρ M k hh hs q=>⟨W,ρ,M,k,hh,hs,ym.bind q fun W1 M1 ks kv H1 l1 h1 r1 q1=>?_⟩
 split at q1
 rotate_left
 ·exact q1.elim
 rename_i hz;refine ⟨by rw [r1.length]; exact hz,fun p hp=>?_⟩;obtain ⟨l4,h4,f4⟩:=h1.frz (o:=.tup kv) hp;refine ⟨_,ρ,M1,l4.k.trans (l1.k.trans k),h4,(hs.up l1).up l4,ym.bind (q1.up l4) fun W2 M2 o' ov H2 l2 h2 r2 q2=>?_⟩;split at q2
 rotate_left
 ·exact q2.elim
 rename_i z e4;unfold jdU at e4;split at e4
 rotate_left
 ·cases e4
 rename_i i;split at e4
 rotate_left
 ·cases e4
 rename_i l e5;split at e4
 rotate_left
 ·cases e4
 rename_i ns e6;split at e4
 rotate_left
 ·cases e4
 cases e4;have ek:=xQ e6;subst ek;have ev:kv=ns.map V.int:=yf.ints.mp r1;subst ev;obtain ⟨a,rfl,ea⟩:=r2;obtain ⟨b,ob,g1,g2,g3,vs,rfl,ra⟩:=h2.m i _ e5;rw [ea] at g1;cases g1;refine ⟨a,_,rfl,JG.t (k:=Jp ns) g3 (by rw [uG]; exact h2.f _ _ (l2.f _ _ f4)),?_⟩
 have hv:(xI vs (Jp ns)).isSome=(xa l ns).isSome:=by
  rcases ra.get xP ns with ⟨a1,a2⟩ | ⟨x,v,a1,a2,_⟩
  ·rw [a1,a2]; rfl
  ·rw [a1,a2]; rfl
 rw [hv];exact q2 W2 H2 _ (.refl W2) h2 rfl
theorem jhz (hu:X.A.units + 1 < cLine) (hk:QA X T ES es dk) (ho:QE X T ES o do_) (hm:behindInMarks .In o=false):QE X T ES (.Compare (.Tuple es x1 kp) [.In] [o] pos) (uu false dk do_) :=
 ⟨jQ (pe_cmp (pc_din hu (uS hk.h) ho.h) hm) fun σ H Q h=>VU rfl rfl h⟩
theorem jbM (hu:X.A.units + 1 < cLine) (hk:QA X T ES es dk) (ho:QE X T ES o do_) (hm:behindInMarks .NotIn o=false):QT X T ES (.Compare (.Tuple es x1 kp) [.NotIn] [o] pos) (yg (uu true dk do_)) :=
 ⟨UO (pt_cmp (jdI hu (uS hk.h) ho.h) hm) fun σ H Q hQQ=>jF hQQ fun W ρ M k hh hs p=>show jcw _ _ σ H (fun v H'=>∃ b,v=V.bl b∧Q b H') from VU (Q:=fun v H'=>∃ b,v=V.bl b∧Q b H') (neg:=true) (dk:=dk) (do_:=do_) (T:=T) (ES:=ES) rfl rfl ⟨W,ρ,M,k,hh,hs,ym.bind (R1:=Rep) p fun W1 M1 x v H1 l1 h1 r1 p1=>by
  cases x with
  | bl b=>exact ⟨b,r1,p1 W1 H1 b (.refl W1) h1 rfl⟩
  | _=>exact p1.elim⟩⟩
theorem jdA {apos cpos:Pos} (hu:X.A.units + 1 < cLine) (ho:QE X T ES o do_) (hk:QA X T ES es dk) (hz:QE X T ES f dz) (m:M2 X o "setdefault" apos (.Tuple es x1 kp) f cpos):QE X T ES (.Call (.Attribute o "setdefault" apos) [.Tuple es x1 kp,f] [] cpos) (Jx do_ dk dz) :=
 ⟨jQ (jbS hu ho.h (uS hk.h) hz.h m) fun σ H Q hQQ=>jF hQQ fun W ρ M k hh hs q=>⟨W,ρ,M,k,hh,hs,ym.bind q fun W1 M1 x v H1 l1 h1 r1 q1=>by
  split at q1
  rotate_left
  ·exact q1.elim
  rename_i i;split at q1
  rotate_left
  ·exact q1.elim
  rename_i l0 e0;obtain ⟨a,rfl,ea⟩:=r1;obtain ⟨b,ob,g1,g2,g3,vs0,rfl,ra0⟩:=h1.m i _ e0;rw [ea] at g1;cases g1;refine ⟨a,rfl,.inr ⟨vs0,.inl g3⟩,W1,ρ,M1,l1.k.trans k,h1,hs.up l1,ym.bind q1 fun W2 M2 ks kv H2 l2 h2 r2 q2=>?_⟩;split at q2
  rotate_left
  ·exact q2.elim
  rename_i ns e6;split at q2
  rotate_left
  ·exact q2.elim
  rename_i hzz;have ek:=xQ e6;subst ek;have ev:kv=ns.map V.int:=yf.ints.mp r2;subst ev;refine ⟨by rw [List.length_map]; exact hzz,fun p hp=>?_⟩;obtain ⟨l4,h4,f4⟩:=h2.frz (o:=.tup (ns.map V.int)) hp;refine ⟨_,ρ,M2,l4.k.trans (l2.k.trans (l1.k.trans k)),h4,((hs.up l1).up l2).up l4,ym.bind (q2.up l4) fun W3 M3 z zv H3 l3 h3 r3 q3=>?_⟩;split at q3
  rotate_left
  ·exact q3.elim
  rename_i l e5;split at q3
  rotate_left
  ·exact q3.elim
  rename_i hl;have ea3:W3.α i=some a:=l3.a _ _ (l4.a _ _ (l2.a _ _ ea));obtain ⟨b,ob,g1,g2',g3',vs,rfl,ra⟩:=h3.m i _ e5;rw [ea3] at g1;cases g1;refine ⟨p,Jp ns,vs,rfl,by rw [uG]; exact h3.f _ _ (l3.f _ _ f4),g3',by rw [ra.length]; exact hl,fun v hv=>?_,fun hv=>?_⟩
  ·rcases ra.get xP ns with ⟨a1,a2⟩ | ⟨x,v',a1,a2,rv⟩
   ·rw [a2] at hv; cases hv
   ·rw [a2] at hv;cases hv;rw [a1] at q3;exact q3 W3 H3 _ (.refl W3) h3 rv
  ·rcases ra.get xP ns with ⟨a1,a2⟩ | ⟨x,v',a1,a2,rv⟩
   ·rw [a1] at q3;exact q3 W3 _ _ (.refl W3) (h3.upd e5 ea3 (c':=.dtv (vc l ns z)) (o:=.dT (vC vs (Jp ns) zv)) ⟨_,rfl,ra.put xP r3⟩) r3
   ·rw [a2] at hv; cases hv⟩⟩
theorem jeS {apos cpos:Pos} (hu:X.A.units + 1 < cLine) (ho:QE X T ES o do_) (hk:QA X T ES es dk) (hz:QE X T ES f dz) (m:M2 X o "get" apos (.Tuple es x1 kp) f cpos):QE X T ES (.Call (.Attribute o "get" apos) [.Tuple es x1 kp,f] [] cpos) (jah do_ dk dz) :=
 ⟨jQ (jfs hu ho.h (uS hk.h) hz.h m) fun σ H Q hQQ=>jF hQQ fun W ρ M k hh hs q=>⟨W,ρ,M,k,hh,hs,ym.bind q fun W1 M1 x v H1 l1 h1 r1 q1=>by
  split at q1
  rotate_left
  ·exact q1.elim
  rename_i i;split at q1
  rotate_left
  ·exact q1.elim
  rename_i l0 e0;obtain ⟨a,rfl,ea⟩:=r1;obtain ⟨b,ob,g1,g2,g3,vs0,rfl,ra0⟩:=h1.m i _ e0;rw [ea] at g1;cases g1;refine ⟨a,rfl,.inr ⟨vs0,.inl g3⟩,W1,ρ,M1,l1.k.trans k,h1,hs.up l1,ym.bind q1 fun W2 M2 ks kv H2 l2 h2 r2 q2=>?_⟩;split at q2
  rotate_left
  ·exact q2.elim
  rename_i ns e6;split at q2
  rotate_left
  ·exact q2.elim
  rename_i hzz;have ek:=xQ e6;subst ek;have ev:kv=ns.map V.int:=yf.ints.mp r2;subst ev;refine ⟨by rw [List.length_map]; exact hzz,fun p hp=>?_⟩;obtain ⟨l4,h4,f4⟩:=h2.frz (o:=.tup (ns.map V.int)) hp;refine ⟨_,ρ,M2,l4.k.trans (l2.k.trans (l1.k.trans k)),h4,((hs.up l1).up l2).up l4,ym.bind (q2.up l4) fun W3 M3 z zv H3 l3 h3 r3 q3=>?_⟩;split at q3
  rotate_left
  ·exact q3.elim
  rename_i l e5;have ea3:W3.α i=some a:=l3.a _ _ (l4.a _ _ (l2.a _ _ ea));obtain ⟨b,ob,g1,g2',g3',vs,rfl,ra⟩:=h3.m i _ e5;rw [ea3] at g1;cases g1;refine ⟨_,JG.t (k:=Jp ns) g3' (by rw [uG]; exact h3.f _ _ (l3.f _ _ f4)),?_⟩
  rcases ra.get xP ns with ⟨a1,a2⟩ | ⟨x,v',a1,a2,rv⟩
  ·rw [a2];rw [a1] at q3;exact q3 W3 H3 _ (.refl W3) h3 r3
  ·rw [a2];rw [a1] at q3
   exact q3 W3 H3 _ (.refl W3) h3 rv⟩⟩
theorem jen:yx X (.builtin "len") (fun xs H Q=>∃ p kvs,xs=[.ref p]∧Rd H p (.dK kvs)∧Q (.int kvs.length) H):=by
 intro pins s σ H xs us Q I r h;obtain ⟨p,kvs,rfl,hp,q⟩:=h;obtain ⟨u,rfl,rx⟩:=Yx r;cases rx
 exact d_len I hp fun t s' I'=>⟨.int kvs.length,H,I',⟨t,rfl⟩,q⟩
theorem b_lenK:yx X (.builtin "len") (rC T (one jaZ)):=xn jen fun W M H x v z Q k hh r e q=>by
 unfold jaZ at e;split at e
 rotate_left
 ·cases e
 rename_i i;split at e
 rotate_left
 ·cases e
 rename_i l e5;cases e;obtain ⟨a,rfl,ea⟩:=r;obtain ⟨b,ob,g1,g2,g3,vs,rfl,ra⟩:=hh.m i _ e5;rw [ea] at g1;cases g1;exact ⟨a,vs,rfl,.inl g3,q W H _ (.refl W) hh (by rw [ra.length]; rfl)⟩
theorem jhb {M:Sto} {H:Hp}:∀ (l:List (List Int × PV)) (bs:List Addr) {W:Wd},Held W M H->bs.length=l.length->(∀ (j:Nat) (p:List Int × PV) (b:Addr),l[j]? = some p->bs[j]? = some b->H b=some (.tup (p.1.map V.int))) ->
  ∃ W',W.le W'∧Held W' M H∧yf W' (l.map fun p=>PV.tup (p.1.map PV.int)) (bs.map V.ref)
 | [],bs,W,h,hl,_=>by
  cases bs with
  | nil=>exact ⟨W,.refl W,h,rfl⟩
  | cons _ _=>cases hl
 | p :: l,bs,W,h,hl,hb=>by
  cases bs with
  | nil=>cases hl
  | cons b bs =>
   obtain ⟨W1,l1,h1,f1⟩:=h.adopt (hb 0 p b rfl rfl);obtain ⟨W2,l2,h2,r2⟩:=jhb l bs h1 (Nat.succ.inj hl) fun j p' b' e1 e2=>hb (j + 1) p' b' e1 e2;exact ⟨W2,l1.trans l2,h2,.ref b,bs.map V.ref,rfl,⟨b,p.1.map V.int,rfl,.inl (.inl (l2.f _ _ f1)),yf.ints.mpr rfl⟩,r2⟩
theorem jiK (hc:X.calm=true):yx X (.type "list") (rC T (one jab)):=xn (Xz hc) fun W M H x v z Q k hh r e q=>by
 unfold jab at e;split at e
 rotate_left
 ·cases e
 rename_i i;split at e
 rotate_left
 ·cases e
 rename_i l e5;cases e;obtain ⟨a,rfl,ea⟩:=r;obtain ⟨b,ob,g1,g2,g3,vs,rfl,ra⟩:=hh.m i _ e5;rw [ea] at g1;cases g1
 have key:∀ {l:List (List Int × PV)} {vs:List (List Key × V)},xh W Jp l vs->∀ (j:Nat) (p:List Int × PV),l[j]? = some p->∃ kv,vs[j]? = some kv∧kv.1=Jp p.1:=by
  intro l
  induction l with
  | nil=>intro vs _ j p e; cases e
  | cons q l ih =>
   intro vs hr j p e;obtain ⟨v,rs,rfl,_,t⟩:=hr
   cases j with
   | zero=>cases e; exact ⟨_,rfl,rfl⟩
   | succ j=>exact ih t j p e
 refine ⟨a,vs,rfl,g3,fun l' bs hl' hbl hbt=>?_⟩
 obtain ⟨W1,l1,h1,r1⟩:=jhb l bs hh (by rw [hbl,ra.length]) fun j p b e1 e2=>by
  obtain ⟨kv,e3,e4⟩:=key ra j p e1
  have:=hbt j kv b e3 e2
  rw [e4,uG] at this;exact this
 obtain ⟨W2,l2,h2,r2⟩:=uF h1 r1 hl';exact q W2 _ _ (l1.trans l2) h2 r2
end
end L3

namespace L2
open PySem PySem.Spec PyProof.Rows PySem.W
section
variable {X:Cx} {pins:List (Addr × Obj)} {σ:St} {H:Hp} {s:Shared} {a:Addr} {o:Obj} {kvs:List (List Key × V)}
end
section
variable {X:Cx} {tg l e:Expr} {te:TE}
end
end L2

namespace L3
open PySem L2
section
variable {X:Cx} {T:Tb} {ES:St->XK} {osc sc:Scope} {own fr:List Str} {js:List Nat} {elt target iter:Expr} {ifs:List Expr} {pos:Pos} {d:DE} {g:TG} {bnd:PV->En->Option En} {dt:DT} {de:DE}
end
end L3

namespace L2
open PySem PySem.Spec PyProof.Rows PySem.W
section
variable {X:Cx}
end
end L2

namespace L3
open PySem L2
section
variable {X:Cx} {T:Tb} {ES:St->XK} {e:Expr} {p p2 pos pos2:Pos} {d:DE}
end
end L3

namespace L3
open PySem L2
def jag (do_:DE) (dk:DA):DE:=fun ρ M=>(do_ ρ M).bind fun o M1=>match o with
 | .ref i=>(match M1.g i with
  | some (.dtv _)=>(dk ρ M1).bind fun ks M2=>(match ua ks with
   | some ns=>if ns.length<=sizeLine then (match M2.g i with
    | some (.dtv l)=>.ok ((xa l ns).getD .non) M2
    | _=>.bad) else .bad
   | none=>.bad)
  | _=>.bad)
 | _=>.bad
section
variable {X:Cx} {T:Tb} {ES:St->XK} {e o:Expr} {es:List Expr} {pos p2 kp:Pos} {x1:Nat} {d do_ dz dk1:DE} {dk:DA}
theorem jdB {apos cpos:Pos} (hu:X.A.units + 1 < cLine) (ho:QE X T ES o do_) (hk:QA X T ES es dk) (m:M1 X o "get" apos (.Tuple es x1 kp) cpos):QE X T ES (.Call (.Attribute o "get" apos) [.Tuple es x1 kp] [] cpos) (jag do_ dk) :=
 ⟨jQ (jft hu ho.h (uS hk.h) m) fun σ H Q hQQ=>jF hQQ fun W ρ M k hh hs q=>⟨W,ρ,M,k,hh,hs,ym.bind q fun W1 M1 x v H1 l1 h1 r1 q1=>by
  split at q1
  rotate_left
  ·exact q1.elim
  rename_i i;split at q1
  rotate_left
  ·exact q1.elim
  rename_i l0 e0;obtain ⟨a,rfl,ea⟩:=r1;obtain ⟨b,ob,g1,g2,g3,vs0,rfl,ra0⟩:=h1.m i _ e0;rw [ea] at g1;cases g1;refine ⟨a,rfl,.inr ⟨vs0,.inl g3⟩,W1,ρ,M1,l1.k.trans k,h1,hs.up l1,ym.bind q1 fun W2 M2 ks kv H2 l2 h2 r2 q2=>?_⟩;split at q2
  rotate_left
  ·exact q2.elim
  rename_i ns e6;split at q2
  rotate_left
  ·exact q2.elim
  rename_i hzz;split at q2
  rotate_left
  ·exact q2.elim
  rename_i l e5;have ek:=xQ e6;subst ek;have ev:kv=ns.map V.int:=yf.ints.mp r2;subst ev;refine ⟨by rw [List.length_map]; exact hzz,fun p hp=>?_⟩;obtain ⟨l4,h4,f4⟩:=h2.frz (o:=.tup (ns.map V.int)) hp;have ea3:(W2.frz p (.tup (ns.map V.int))).α i=some a:=l4.a _ _ (l2.a _ _ ea);obtain ⟨b,ob,g1,g2',g3',vs,rfl,ra⟩:=h4.m i _ e5;rw [ea3] at g1;cases g1;refine ⟨_,JG.t (k:=Jp ns) g3' (by rw [uG]; exact h4.f _ _ f4),?_⟩
  rcases ra.get xP ns with ⟨a1,a2⟩ | ⟨x,v',a1,a2,rv⟩
  ·rw [a2];rw [a1] at q2;exact q2 _ _ _ l4 h4 rfl
  ·rw [a2];rw [a1] at q2
   exact q2 _ _ _ l4 h4 rv⟩⟩
end
end L3

set_option maxHeartbeats 4000000


namespace My
open PySem L2 L3
def top (i:Nat):Stmt:=PySem.Challenge.pw_liarclocks_k41_whole_in_time.main.body.getD i (.Pass ⟨0,0,0,0⟩)
abbrev tb (K:PySem.W.Frag) (C:Nat->Addr):Tb:=⟨K,C⟩
abbrev Ve:Stmt:=top 32
abbrev Vd:Stmt:=top 33
abbrev Vk:Stmt:=top 36
abbrev YG:Stmt:=top 37
abbrev Vc:Stmt:=top 34
abbrev XW:Stmt:=top 10
abbrev Vb:Stmt:=top 11
abbrev Vq:Stmt:=top 14
abbrev Vp:Stmt:=top 16
abbrev XZ:Stmt:=top 15
abbrev XV:Stmt:=top 12
abbrev YF:Stmt:=top 13
abbrev YI:Stmt:=top 17
abbrev Vs:Stmt:=yr (top 25) 0
abbrev Vv:Stmt:=yr (top 26) 0
abbrev VE:Stmt:=yr (top 30) 0
abbrev Vn:Stmt:=top 18
abbrev Vo:Stmt:=top 19
abbrev VH:Stmt:=yr (top 25) 3
abbrev XU:Stmt:=top 22
abbrev Vu:Stmt:=yr (top 26) 7
abbrev Vm:Stmt:=top 23
abbrev YH:Stmt:=yr (top 25) 1
abbrev Vw:Stmt:=yr (top 24) 0
abbrev Vj:Stmt:=yr (top 25) 5
abbrev VB:Stmt:=yr (top 25) 6
abbrev VA:Stmt:=yr (top 26) 5
abbrev Vl:Stmt:=yr (top 26) 1
abbrev VC:Stmt:=yr (top 25) 4
abbrev XY:Stmt:=yr (top 26) 2
abbrev YJ:Stmt:=yr (top 30) 1
abbrev VD:Stmt:=yr (top 30) 2
abbrev VG:Stmt:=yr (top 30) 3
abbrev XX:Stmt:=yr (top 25) 7
abbrev Vr:Stmt:=yr (top 25) 8
abbrev Vz:Stmt:=yr (top 30) 5
abbrev Vi:Stmt:=yr (top 26) 4
abbrev Vh:Stmt:=yr (top 24) 1
abbrev Vg:Stmt:=yr (top 26) 3
abbrev Vx:Stmt:=yr (top 30) 4
abbrev VF:Stmt:=yr (top 30) 7
abbrev Vt:Stmt:=yr (top 30) 6
abbrev Vy:Stmt:=yr (top 26) 9
abbrev Vf:Stmt:=top 35
abbrev xJ:Stmt:=top 38
theorem sc_zbg:FnScope ["_law_script"] ["_law_script"] (jc Ve):=⟨rfl,rfl,rfl,by decide +kernel,rfl,by decide +kernel,by decide +kernel⟩
theorem JK:FnScope ["_law_town_here","_law_many","_law_row","_law_at","_law_cell","_law_mixed"] ["_law_town_here","_law_many"] (jc Vd):=⟨rfl,rfl,rfl,by decide +kernel,rfl,by decide +kernel,by decide +kernel⟩
theorem jbH:FnScope ["_law_town_here","_law_crew_here","_law_most","_law_found","_law_house"] ["_law_town_here","_law_crew_here","_law_most"] (jc Vk):=⟨rfl,rfl,rfl,by decide +kernel,rfl,by decide +kernel,by decide +kernel⟩
theorem UJ:FnScope ["_law_town_here","_law_some","_law_crew_here","_law_foes"] ["_law_town_here"] (jc YG):=⟨rfl,rfl,rfl,by decide +kernel,rfl,by decide +kernel,by decide +kernel⟩
theorem sc_zbj:FnScope ["_law_town_here","_law_some"] ["_law_town_here","_law_some"] (jc Vc):=⟨rfl,rfl,rfl,by decide +kernel,rfl,by decide +kernel,by decide +kernel⟩
theorem sc_zbp:FnScope ["thing"] ["thing"] (jc XW):=⟨rfl,rfl,rfl,by decide +kernel,rfl,by decide +kernel,by decide +kernel⟩
theorem sc_zbk:FnScope ["thing","least","most"] ["thing","least","most"] (jc Vb):=⟨rfl,rfl,rfl,by decide +kernel,rfl,by decide +kernel,by decide +kernel⟩
theorem sc_zat:FnScope ["thing","least","most"] ["thing","least","most"] (jc Vq):=⟨rfl,rfl,rfl,by decide +kernel,rfl,by decide +kernel,by decide +kernel⟩
theorem sc_zau:FnScope ["houses"] ["houses"] (jc Vp):=⟨rfl,rfl,rfl,by decide +kernel,rfl,by decide +kernel,by decide +kernel⟩
theorem sc_zbl:FnScope ["few"] ["few"] (jc XZ):=⟨rfl,rfl,rfl,by decide +kernel,rfl,by decide +kernel,by decide +kernel⟩
theorem sc_zbq:FnScope ["thing","houses"] ["thing","houses"] (jc XV):=⟨rfl,rfl,rfl,by decide +kernel,rfl,by decide +kernel,by decide +kernel⟩
theorem sc_zbm:FnScope ["numbers"] ["numbers"] (jc YF):=⟨rfl,rfl,rfl,by decide +kernel,rfl,by decide +kernel,by decide +kernel⟩
theorem sc_zah:FnScope ["some","houses","most"] ["some","houses","most"] (jc YI):=⟨rfl,rfl,rfl,by decide +kernel,rfl,by decide +kernel,by decide +kernel⟩
theorem sc_zar:FnScope ["self","houses","few","liars"] ["self","houses","few","liars"] (jc Vs):=⟨rfl,rfl,rfl,by decide +kernel,rfl,by decide +kernel,by decide +kernel⟩
theorem sc_zao:FnScope ["self","houses","few","liars"] ["self","houses","few","liars"] (jc Vv):=⟨rfl,rfl,rfl,by decide +kernel,rfl,by decide +kernel,by decide +kernel⟩
theorem sc_zae:FnScope ["self","houses","few","liars","delay"] ["self","houses","few","liars","delay"] (jc VE):=⟨rfl,rfl,rfl,by decide +kernel,rfl,by decide +kernel,by decide +kernel⟩
theorem sc_zaw:FnScope ["house","houses"] ["house","houses"] (jc Vn):=⟨rfl,rfl,rfl,by decide +kernel,rfl,by decide +kernel,by decide +kernel⟩
theorem sc_zav:FnScope ["house","houses","liars"] ["house","houses","liars"] (jc Vo):=⟨rfl,rfl,rfl,by decide +kernel,rfl,by decide +kernel,by decide +kernel⟩
theorem sc_zab:FnScope ["self","house"] ["self","house"] (jc VH):=⟨rfl,rfl,rfl,by decide +kernel,rfl,by decide +kernel,by decide +kernel⟩
theorem sc_zbr:FnScope ["thing"] ["thing"] (jc XU):=⟨rfl,rfl,rfl,by decide +kernel,rfl,by decide +kernel,by decide +kernel⟩
theorem sc_zap:FnScope ["self","house","count"] ["self","house","count"] (jc Vu):=⟨rfl,rfl,rfl,by decide +kernel,rfl,by decide +kernel,by decide +kernel⟩
theorem sc_zax:FnScope ["count"] ["count"] (jc Vm):=⟨rfl,rfl,rfl,by decide +kernel,rfl,by decide +kernel,by decide +kernel⟩
theorem sc_zay:FnScope ["self"] ["self"] (jc YH):=⟨rfl,rfl,rfl,by decide +kernel,rfl,by decide +kernel,by decide +kernel⟩
theorem sc_zan:FnScope ["self","sender","house","what"] ["self","sender","house","what"] (jc Vw):=⟨rfl,rfl,rfl,by decide +kernel,rfl,by decide +kernel,by decide +kernel⟩
theorem sc_zbb:FnScope ["self","sender","house","what"] ["self","sender","house","what"] (jc Vj):=⟨rfl,rfl,rfl,by decide +kernel,rfl,by decide +kernel,by decide +kernel⟩
theorem jeG:FnScope ["self","sender","what","house"] ["self","sender","what"] (jc VB):=⟨rfl,rfl,rfl,by decide +kernel,rfl,by decide +kernel,by decide +kernel⟩
theorem sc_zaj:FnScope ["self","house","count"] ["self","house","count"] (jc VA):=⟨rfl,rfl,rfl,by decide +kernel,rfl,by decide +kernel,by decide +kernel⟩
theorem sc_zaz:FnScope ["self","house","count"] ["self","house","count"] (jc Vl):=⟨rfl,rfl,rfl,by decide +kernel,rfl,by decide +kernel,by decide +kernel⟩
theorem sc_zag:FnScope ["self","liar"] ["self","liar"] (jc VC):=⟨rfl,rfl,rfl,by decide +kernel,rfl,by decide +kernel,by decide +kernel⟩
theorem sc_zbn:FnScope ["self","liar","house","count"] ["self","liar","house","count"] (jc XY):=⟨rfl,rfl,rfl,by decide +kernel,rfl,by decide +kernel,by decide +kernel⟩
theorem sc_zaa:FnScope ["self","delays"] ["self","delays"] (jc YJ):=⟨rfl,rfl,rfl,by decide +kernel,rfl,by decide +kernel,by decide +kernel⟩
theorem sc_zaf:FnScope ["self","letter","place","delays"] ["self","letter","place","delays"] (jc VD):=⟨rfl,rfl,rfl,by decide +kernel,rfl,by decide +kernel,by decide +kernel⟩
theorem jbI:FnScope ["self","first","delays","place","letter"] ["self","first","delays"] (jc VG):=⟨rfl,rfl,rfl,by decide +kernel,rfl,by decide +kernel,by decide +kernel⟩
theorem jbG:FnScope ["self","at","letter","senders"] ["self","at"] (jc XX):=⟨rfl,rfl,rfl,by decide +kernel,rfl,by decide +kernel,by decide +kernel⟩
theorem sc_zas:FnScope ["self","house","what"] ["self","house","what"] (jc Vr):=⟨rfl,rfl,rfl,by decide +kernel,rfl,by decide +kernel,by decide +kernel⟩
theorem sc_zak:FnScope ["self","house","count"] ["self","house","count"] (jc Vz):=⟨rfl,rfl,rfl,by decide +kernel,rfl,by decide +kernel,by decide +kernel⟩
theorem jeF:FnScope ["self","house","count","many"] ["self","house","count"] (jc Vi):=⟨rfl,rfl,rfl,by decide +kernel,rfl,by decide +kernel,by decide +kernel⟩
theorem sc_zbd:FnScope ["self"] ["self"] (jc Vh):=⟨rfl,rfl,rfl,by decide +kernel,rfl,by decide +kernel,by decide +kernel⟩
theorem jeE:FnScope ["self","at","letter"] ["self","at"] (jc Vg):=⟨rfl,rfl,rfl,by decide +kernel,rfl,by decide +kernel,by decide +kernel⟩
theorem JL:FnScope ["self","delays","at","left"] ["self","delays"] (jc Vx):=⟨rfl,rfl,rfl,by decide +kernel,rfl,by decide +kernel,by decide +kernel⟩
theorem sc_zad:FnScope ["self","house","count"] ["self","house","count"] (jc VF):=⟨rfl,rfl,rfl,by decide +kernel,rfl,by decide +kernel,by decide +kernel⟩
theorem sc_zaq:FnScope ["self"] ["self"] (jc Vt):=⟨rfl,rfl,rfl,by decide +kernel,rfl,by decide +kernel,by decide +kernel⟩
theorem sc_zal:FnScope ["self"] ["self"] (jc Vy):=⟨rfl,rfl,rfl,by decide +kernel,rfl,by decide +kernel,by decide +kernel⟩
theorem sc_zbf:FnScope ["_law_thing"] ["_law_thing"] (jc Vf):=⟨rfl,rfl,rfl,by decide +kernel,rfl,by decide +kernel,by decide +kernel⟩
theorem yL:FnScope ["_law_script","_law_town_here","_law_some","_law_crew_here","_law_foes","_law_honest","_law_most","_law_pulse","_law_begin","_law_due","_law_times","_law_turn","_law_house","_law_late_by","_law_ahead","_law_struck"] ["_law_script"] (jc xJ):=⟨rfl,rfl,rfl,by decide +kernel,rfl,by decide +kernel,by decide +kernel⟩
def d_zbg:DS:=(yJ (Xr (jb (dIf (yg (dOp gScr (yd 0) (xl ye))) (dCB (jcf) (jb (yd 0) ye)) (Xr (jb (dC (.int 0)) ye))) (jb (dC (.int 0)) ye))))
def jbs:List PV->Sto->Res PV:=yv 1 1 d_zbg
def jgA:DS:=(yh (yI 2 (dOp gIx (yd 0) (dC (.int 0))))
 (yh (jcz (dOp vd (dOp gIx (yd 0) (dC (.int 1))) (dC (.int 1))) (yd 0) (dC (.int 1)))
 (yh (yI 3 (dOp XJ (dOp gIx (yd 0) (dC (.int 1))) (dCB (one yK) (jb (yd 2) ye))))
 (yh (yI 4 (dOp gIx (yd 2) (yd 3)))
 (yh (sIf (yg (dOp gGe (yd 4) (dC (.int 1000000000000000000)))) (yh (jcz (dOp jgh (yd 4) (yd 1)) (yd 2) (yd 3))
 (yJ (dOp XJ (yd 4) (yd 1)))) yA)
 (yh (yI 5 (dOp XJ (dOp vd (yd 4) (dOp vG (dC (.int 104729)) (dOp gIx (yd 0) (dC (.int 1))))) (dC (.int 4294967291))))
 (yh (yI 5 (dOp XJ (dOp gPow (yd 5) (dC (.int 5))) (dC (.int 4294967279))))
 (yJ (dOp XJ (dOp jgh (dOp XJ (dOp vd (dOp vG (dOp jgh (yd 5) (dC (.int 64))) (dC (.int 69621))) (yd 5)) (dC (.int 4294967231))) (dC (.int 8))) (yd 1))))))))))
def yN:List PV->Sto->Res PV:=yv 2 6 jgA
def ut:DS:=(sIf (yR (yg (dOp gLt (dCB (one yK) (jb (yd 3) ye)) (yd 2))) (yg (dOp (eqG false) (jq yN 2 0 [.p 0,.p 1] [] (jb (yd 0) (jb (dC (.int 3)) ye)) ye) (dC (.int 0))))) (yn (dMt vg (yd 3) (jb (yd 4) ye))) yA)
def jgC:DS:=(yh (yI 3 (Xr ye))
 (yh (UK 200 (xi (jb (yd 1) ye)) (gN 4) ut)
 (yJ (dFrz (yd 3)))))
def Ut:List PV->Sto->Res PV:=YV (yv 3 5 jgC)
def d_zbi:DS:=(yh (yI 1 (jq yN 2 0 [.p 0,.p 1] [] (jb (yd 0) (jb (dC (.int 3)) ye)) ye))
 (yh (yI 2 (dOp vd (dOp vd (dOp vG (dC (.int 3)) (yd 1)) (dC (.int 1))) (jq yN 2 0 [.p 0,.p 1] [] (jb (yd 0) (jb (dC (.int 2)) ye)) ye)))
 (yh (yI 3 (jq Ut 3 0 [.p 0,.p 1,.p 2] [] (jb (yd 0) (jb (yd 2) (jb (yd 1) ye))) ye))
 (yJ (jee (jb (yd 1) (jb (yd 2) (jb (yd 3) (jb (yH (xi (jb (yd 2) ye)) vy [3] (yg (dOp (gIn true) (yd 0) (yd 1))) (yd 0)) ye)))))))))
def jbr:List PV->Sto->Res PV:=yv 1 4 d_zbi
def jgz:DS:=(yJ (dOp gIx (yd 1) (jq yN 2 0 [.p 0,.p 1] [] (jb (yd 0) (jb (dCB (one yK) (jb (yd 1) ye)) ye)) ye)))
def vK:List PV->Sto->Res PV:=yv 2 2 jgz
def jgw:DS:=(yJ (Jz (dCB (Xi) (jb (yd 0) (jb (dC (.ty "int")) ye))) (jbj (dCB (Xi) (jb (yd 0) (jb (dC (.ty "bool")) ye))))))
def Ur:List PV->Sto->Res PV:=yv 1 1 jgw
def jgy:DS:=(yJ (Jz (jq Ur 1 0 [.p 0] [] (jb (yd 0) ye) ye) (jai gLe gLe (yd 1) (yd 0) (yd 2))))
def xu:List PV->Sto->Res PV:=yv 3 3 jgy
def jgF:DS:=(sIf (vV (vH (jq xu 3 0 [.p 0,.p 1,.p 2] [] (jb (yd 0) (jb (yd 1) (jb (yd 2) ye))) ye))) (xK 0 (jb (jgO (jij "not a whole number from " (jik (yd 1) (jij " to " (jik (yd 2) jNil))))) ye)) yA)
def vL:List PV->Sto->Res PV:=yv 3 3 jgF
def jgE:DS:=(yn (jq vL 3 0 [.p 0,.p 1,.p 2] [] (jb (yd 0) (jb (dC (.int 1)) (jb (dC (.int 16)) ye))) ye))
def jdm:List PV->Sto->Res PV:=yv 1 1 jgE
def jgx:DS:=(yn (jq vL 3 0 [.p 0,.p 1,.p 2] [] (jb (yd 0) (jb (dC (.int 0)) (jb (dC (.int 5)) ye))) ye))
def XB:List PV->Sto->Res PV:=yv 1 1 jgx
def d_zbq:DS:=(yJ (jq xu 3 0 [.p 0,.p 1,.p 2] [] (jb (yd 0) (jb (dC (.int 0)) (jb (dOp jaW (yd 1) (dC (.int 1))) ye))) ye))
def Yj:List PV->Sto->Res PV:=yv 2 2 d_zbq
def d_zbm:DS:=(yJ (dCB (one Xk) (jb (yH (jiz (jb (yd 0) (jb (dSl (yd 0) (dOS (dC (.int 1))) dON) ye))) jiJ [] vh (dOp gLt (yd 0) (yd 1))) ye)))
def jbq:List PV->Sto->Res PV:=yv 1 1 d_zbm
def jap:DE:=(jq Yj 2 0 [.p 0,.p 1] [] (jb (yd 0) (jb (yd 1) ye)) ye)
def jgI:DS:=(yh (sIf (dOr (vV (vH (dCB (Xi) (jb (yd 0) (jb (jee (jb (dC (.ty "list")) (jb (dC (.ty "tuple")) ye))) ye))))) (yg (dOp gGt (dCB (one yK) (jb (yd 0) ye)) (yd 2)))) (xK 3 (jb (dC (.str "not a list or tuple of houses, or too many of them")) ye)) yA)
 (sIf (dOr (vV (vH (dCB (one Xk) (jb (yH (dIt (yd 0)) vy [1] vh jap) ye)))) (vV (vH (jq jbq 1 0 [.p 0] [] (jb (yd 0) ye) ye)))) (xK 3 (jb (dC (.str "not houses, rising, each once")) ye)) yA))
def Uy:List PV->Sto->Res PV:=yv 3 3 jgI
def d_zar:DS:=(yh (yn (jq jdm 1 0 [.p 0] [] (jb (yd 1) ye) ye))
 (yh (yn (jq XB 1 0 [.p 0] [] (jb (yd 2) ye) ye))
 (yh (sIf (yg (dOp gLe (yd 1) (dOp vG (dC (.int 3)) (yd 2)))) (xK 3 (jb (dC (.str "no more than three times few")) ye)) yA)
 (yh (yn (jq Uy 3 0 [.p 0,.p 1,.p 2] [] (jb (yd 3) (jb (yd 1) (jb (yd 2) ye))) ye))
 (yh (xb 13 "houses" (yd 1) (yd 0))
 (yh (xb 13 "few" (yd 2) (yd 0))
 (yh (xb 13 "liars" (dCB (one jgn) (jb (yd 3) ye)) (yd 0))
 (yh (xb 13 "on_way" (Xr ye) (yd 0))
 (xb 13 "got" jiA (yd 0))))))))))
def jby:List PV->Sto->Res PV:=yv 4 4 d_zar
def d_zao:DS:=(yh (yn (jq jby 2 2 [.p 0,.p 1,.k 0,.k 1] [] (jb (yd 0) (jb (yd 1) ye)) (jb (yd 2) (jb (yd 3) ye))))
 (yh (xb 13 "written" jiA (yd 0))
 (xb 13 "struck" jiA (yd 0))))
def jbz:List PV->Sto->Res PV:=yv 4 4 d_zao
def d_zae:DS:=(yh (yn (jq jbz 2 2 [.p 0,.p 1,.k 0,.k 1] [] (jb (yd 0) (jb (yd 1) ye)) (jb (yd 2) (jb (yd 3) ye))))
 (yh (yn (jq vL 3 0 [.p 0,.p 1,.p 2] [] (jb (yd 4) (jb (dC (.int 1)) (jb (dC (.int 50)) ye))) ye))
 (yh (xb 13 "delay" (yd 4) (yd 0))
 (xb 13 "beat" (dC (.int 0)) (yd 0)))))
def JF:List PV->Sto->Res PV:=yv 5 5 d_zae
def jbf:DS:=(sIf (vV (vH (jq Yj 2 0 [.p 0,.p 1] [] (jb (yd 0) (jb (yd 1) ye)) ye))) jdz yA)
def Yk:List PV->Sto->Res PV:=yv 2 2 jbf
def jcZ:DS:=(yh (yn (jq Yk 2 0 [.p 0,.p 1] [] (jb (yd 0) (jb (yd 1) ye)) ye))
 (sIf (yg (dOp (gIn false) (yd 0) (yd 2))) jdz yA))
def jbw:List PV->Sto->Res PV:=yv 3 3 jcZ
def d_zab:DS:=(yn (jq jbw 3 0 [.p 0,.p 1,.p 2] [] (jb (yd 1) (jb (yo 13 "houses" (yd 0)) (jb (yo 13 "liars" (yd 0)) ye))) ye))
def uB:List PV->Sto->Res PV:=yv 2 2 d_zab
def jgv:DS:=(yJ (jq xu 3 0 [.p 0,.p 1,.p 2] [] (jb (yd 0) (jb (dC (.int 1)) (jb (dC (.int 99)) ye))) ye))
def Uq:List PV->Sto->Res PV:=yv 1 1 jgv
def d_zap:DS:=(yh (yn (yw 13 "check_is_honest" uB 2 0 [.p 0,.p 1] [] (yd 0) (jb (yd 1) ye) ye))
 (yJ (Jz (jq Uq 1 0 [.p 0] [] (jb (yd 2) ye) ye) (uu false (jb (yd 1) (jb (yd 2) ye)) (yo 13 "written" (yd 0))))))
def xA:List PV->Sto->Res PV:=yv 3 3 d_zap
def jgD:DS:=(yn (jq vL 3 0 [.p 0,.p 1,.p 2] [] (jb (yd 0) (jb (dC (.int 1)) (jb (dC (.int 99)) ye))) ye))
def JE:List PV->Sto->Res PV:=yv 1 1 jgD
def d_zay:DS:=(yJ (yH (xi (jb (yo 13 "houses" (yd 0)) ye)) vy [0] (yg (dOp (gIn true) (yd 0) (yo 13 "liars" (yd 1)))) (yd 0)))
def Uv:List PV->Sto->Res PV:=yv 1 1 d_zay
def jgG:DS:=(yh (xb 10 "sender" (yd 1) (yd 0))
 (yh (xb 10 "house" (yd 2) (yd 0))
 (yh (xb 10 "what" (yd 3) (yd 0))
 (xb 10 "due" (dC .non) (yd 0)))))
def XE:List PV->Sto->Res PV:=yv 4 4 jgG
def d_zbb:DS:=(yn (dMt vg (yo 13 "on_way" (yd 0)) (jb (jch 10 XE 4 0 [.p 0,.p 1,.p 2,.p 3] [] (jb (yd 1) (jb (yd 2) (jb (yd 3) ye))) ye) ye)))
def XD:List PV->Sto->Res PV:=yv 4 4 d_zbb
def xW:DS:=(yn (yw 13 "write" XD 4 0 [.p 0,.p 1,.p 2,.p 3] [] (yd 0) (jb (yd 1) (jb (yd 3) (jb (yd 2) ye))) ye))
def d_zai:DS:=(UK 200 (dIt (yw 13 "honest" Uv 1 0 [.p 0] [] (yd 0) ye ye)) (gN 3) xW)
def jbA:List PV->Sto->Res PV:=YV (yv 3 4 d_zai)
def d_zaj:DS:=(yh (JM (dC (.bl true)) (yo 13 "written" (yd 0)) (jb (yd 1) (jb (yd 2) ye)))
 (yn (yw 13 "write_to_all" jbA 3 0 [.p 0,.p 1,.p 2] [] (yd 0) (jb (yd 1) (jb (yd 2) ye)) ye)))
def Yl:List PV->Sto->Res PV:=yv 3 3 d_zaj
def d_zaz:DS:=(yh (yn (yw 13 "check_is_honest" uB 2 0 [.p 0,.p 1] [] (yd 0) (jb (yd 1) ye) ye))
 (yh (yn (jq JE 1 0 [.p 0] [] (jb (yd 2) ye) ye))
 (yh (sIf (vH (yw 13 "has_said" xA 3 0 [.p 0,.p 1,.p 2] [] (yd 0) (jb (yd 1) (jb (yd 2) ye)) ye)) (xK 6 (jb (dC (.str "this house has written this round")) ye)) yA)
 (yn (yw 13 "write_round" Yl 3 0 [.p 0,.p 1,.p 2] [] (yd 0) (jb (yd 1) (jb (yd 2) ye)) ye)))))
def Uu:List PV->Sto->Res PV:=yv 3 3 d_zaz
def d_zag:DS:=(yh (yn (jq Yk 2 0 [.p 0,.p 1] [] (jb (yd 1) (jb (yo 13 "houses" (yd 0)) ye)) ye))
 (sIf (yg (dOp (gIn true) (yd 1) (yo 13 "liars" (yd 0)))) jdz yA))
def jbB:List PV->Sto->Res PV:=yv 2 2 d_zag
def d_zbn:DS:=(yh (yn (yw 13 "check_is_liar" jbB 2 0 [.p 0,.p 1] [] (yd 0) (jb (yd 1) ye) ye))
 (yh (yn (yw 13 "check_is_honest" uB 2 0 [.p 0,.p 1] [] (yd 0) (jb (yd 2) ye) ye))
 (yh (yn (jq JE 1 0 [.p 0] [] (jb (yd 3) ye) ye))
 (yn (yw 13 "write" XD 4 0 [.p 0,.p 1,.p 2,.p 3] [] (yd 0) (jb (yd 1) (jb (yd 2) (jb (yd 3) ye))) ye)))))
def XA:List PV->Sto->Res PV:=yv 4 4 d_zbn
def jaq:DE:=(jq xu 3 0 [.p 0,.p 1,.p 2] [] (jb (yd 0) (jb (dC (.int 1)) (jb (yo 13 "delay" (yd 1)) ye))) ye)
def d_zaa:DS:=(yh (sIf (vV (vH (dCB (Xi) (jb (yd 1) (jb (jee (jb (dC (.ty "list")) (jb (dC (.ty "tuple")) ye))) ye))))) (xK 0 (jb (dC (.str "delays are no list or tuple")) ye)) yA)
 (sIf (vV (vH (dCB (one Xk) (jb (yH (dItS (yd 1)) vy [0] vh jaq) ye)))) (xK 0 (jb (dC (.str "not delays from 1 to the greatest")) ye)) yA))
def UA:List PV->Sto->Res PV:=yv 2 2 d_zaa
def d_zaf:DS:=(yh (sIf (dOr (yg (dOp (gIn false) (yo 10 "sender" (yd 1)) (yo 13 "liars" (yd 0)))) (yg (dOp (eqG false) (dCB (one yK) (jb (yd 3) ye)) (dC (.int 0))))) (yJ (yo 13 "delay" (yd 0))) yA)
 (yJ (dOp gIx (yd 3) (dOp XJ (yd 2) (dCB (one yK) (jb (yd 3) ye))))))
def Uz:List PV->Sto->Res PV:=yv 4 4 d_zaf
def Jv:DS:=(yh (yI 4 (dOp gIx (yo 13 "on_way" (yd 0)) (yd 3)))
 (sIf (yg (dOp gIs (yo 10 "due" (yd 4)) (dC .non))) (xb 10 "due" (dOp vd (yo 13 "beat" (yd 0)) (yw 13 "delay_of" Uz 4 0 [.p 0,.p 1,.p 2,.p 3] [] (yd 0) (jb (yd 4) (jb (yd 3) (jb (yd 2) ye))) ye)) (yd 4)) yA))
def d_zac:DS:=(UK 200 (jdb (jb (yd 1) (jb (dCB (one yK) (jb (yo 13 "on_way" (yd 0)) ye)) ye))) (gN 3) Jv)
def XF:List PV->Sto->Res PV:=YV (yv 3 5 d_zac)
def d_zbo:DS:=(yh (sIf (vV (vH (jq xu 3 0 [.p 0,.p 1,.p 2] [] (jb (yd 1) (jb (dC (.int 0)) (jb (dOp jaW (dCB (one yK) (jb (yo 13 "on_way" (yd 0)) ye)) (dC (.int 1))) ye))) ye))) (xK 5 (jb (dC (.str "no letter is on its way at this place")) ye)) yA)
 (yh (yI 2 (dMt Xh (yo 13 "on_way" (yd 0)) (jb (yd 1) ye)))
 (yh (yI 3 (Jx (yo 13 "got" (yd 0)) (jb (yo 10 "house" (yd 2)) (jb (yo 10 "what" (yd 2)) ye)) jbk))
 (yh (jbK (dC (.bl true)) (yd 3) (yo 10 "sender" (yd 2)))
 (yJ (yd 2))))))
def Us:List PV->Sto->Res PV:=yv 2 4 d_zbo
def d_zas:DS:=(yJ (dCB (one jaZ) (jb (jah (yo 13 "got" (yd 0)) (jb (yd 1) (jb (yd 2) ye)) jbk) ye)))
def jbx:List PV->Sto->Res PV:=yv 3 3 d_zas
def d_zak:DS:=(JM (yo 13 "beat" (yd 0)) (yo 13 "struck" (yd 0)) (jb (yd 1) (jb (yd 2) ye)))
def Ux:List PV->Sto->Res PV:=yv 3 3 d_zak
def d_zbc:DS:=(yh (yI 3 (yw 13 "many_got" jbx 3 0 [.p 0,.p 1,.p 2] [] (yd 0) (jb (yd 1) (jb (yd 2) ye)) ye))
 (yh (sIf (yR (yg (dOp gGt (yd 3) (yo 13 "few" (yd 0)))) (vV (vH (yw 13 "has_said" xA 3 0 [.p 0,.p 1,.p 2] [] (yd 0) (jb (yd 1) (jb (yd 2) ye)) ye)))) (yn (yw 13 "write_round" Yl 3 0 [.p 0,.p 1,.p 2] [] (yd 0) (jb (yd 1) (jb (yd 2) ye)) ye)) yA)
 (sIf (yR (yg (dOp gGt (yd 3) (dOp vG (dC (.int 2)) (yo 13 "few" (yd 0))))) (yg (uu true (jb (yd 1) (jb (yd 2) ye)) (yo 13 "struck" (yd 0))))) (yn (yw 13 "strike" Ux 3 0 [.p 0,.p 1,.p 2] [] (yd 0) (jb (yd 1) (jb (yd 2) ye)) ye)) yA)))
def jbv:List PV->Sto->Res PV:=yv 3 4 d_zbc
def d_zbd:DS:=(yJ (jee (jb (yo 10 "sender" (yd 0)) (jb (yo 10 "house" (yd 0)) (jb (yo 10 "what" (yd 0)) ye)))))
def jbu:List PV->Sto->Res PV:=yv 1 1 d_zbd
def d_zbe:DS:=(yh (yI 2 (yw 13 "take" Us 2 0 [.p 0,.p 1] [] (yd 0) (jb (yd 1) ye) ye))
 (yh (yn (yw 13 "look" jbv 3 0 [.p 0,.p 1,.p 2] [] (yd 0) (jb (yo 10 "house" (yd 2)) (jb (yo 10 "what" (yd 2)) ye)) ye))
 (yJ (yw 10 "row" jbu 1 0 [.p 0] [] (yd 2) ye ye))))
def jbt:List PV->Sto->Res PV:=yv 2 3 d_zbe
def Ju:DS:=(sIf (yg (dOp gGt (yo 10 "due" (dOp gIx (yo 13 "on_way" (yd 0)) (yd 2))) (yo 13 "beat" (yd 0)))) (sAug 2 Yg (dC (.int 1))) (yh (yI 3 (dOp jaW (dCB (one yK) (jb (yo 13 "on_way" (yd 0)) ye)) (dC (.int 1))))
 (yh (yn (yw 13 "come" jbt 2 0 [.p 0,.p 1] [] (yd 0) (jb (yd 2) ye) ye))
 (yn (yw 13 "give_dues" XF 3 0 [.p 0,.p 1,.p 2] [] (yd 0) (jb (yd 3) (jb (yd 1) ye)) ye)))))
def jgH:DS:=(yh (yn (yw 13 "check_delays" UA 2 0 [.p 0,.p 1] [] (yd 0) (jb (yd 1) ye) ye))
 (yh (sIf (yg (dOp gGe (yo 13 "beat" (yd 0)) (dC (.int 5000)))) jdz yA)
 (yh (yn (yw 13 "give_dues" XF 3 0 [.p 0,.p 1,.p 2] [] (yd 0) (jb (dC (.int 0)) (jb (yd 1) ye)) ye))
 (yh (jaE 13 "beat" Yg (yd 0) (dC (.int 1)))
 (yh (yI 2 (dC (.int 0)))
 (yO (yg (dOp gLt (yd 2) (dCB (one yK) (jb (yo 13 "on_way" (yd 0)) ye)))) Ju 1000))))))
def dx_zam:DS:=(yh (yn (yw 13 "check_delays" UA 2 0 [.p 0,.p 1] [] (yd 0) (jb (yd 1) ye) ye))
 (yh (sIf (yg (dOp gGe (yo 13 "beat" (yd 0)) (dC (.int 5000)))) (xK 6 (jb (dC (.str "this was the last beat")) ye)) yA)
 (yh (yn (yw 13 "give_dues" XF 3 0 [.p 0,.p 1,.p 2] [] (yd 0) (jb (dC (.int 0)) (jb (yd 1) ye)) ye))
 (yh (jaE 13 "beat" Yg (yd 0) (dC (.int 1)))
 (yh (yI 2 (dC (.int 0)))
 jdz)))))
def uA:List PV->Sto->Res PV:=both (yv 2 4 jgH) (yv 2 4 dx_zam)
def d_zad:DS:=(yh (yn (yw 13 "check_is_honest" uB 2 0 [.p 0,.p 1] [] (yd 0) (jb (yd 1) ye) ye))
 (yh (yn (jq JE 1 0 [.p 0] [] (jb (yd 2) ye) ye))
 (yJ (jag (yo 13 "struck" (yd 0)) (jb (yd 1) (jb (yd 2) ye))))))
def Ym:List PV->Sto->Res PV:=yv 3 3 d_zad
def d_zaq:DS:=(yJ (yo 13 "beat" (yd 0)))
def uz:List PV->Sto->Res PV:=yv 1 1 d_zaq
def d_zal:DS:=(yJ (dCB (one jab) (jb (yo 13 "struck" (yd 0)) ye)))
def Uw:List PV->Sto->Res PV:=yv 1 1 d_zal
def jgB:DS:=(yJ (Jz (dCB (Xi) (jb (yd 0) (jb (dC (.ty "int")) ye))) (jbj (dCB (Xi) (jb (yd 0) (jb (dC (.ty "bool")) ye))))))
def XC:List PV->Sto->Res PV:=yv 1 1 jgB
def UD:DT:=(vV (vH (jq XC 1 0 [.p 0] [] (jb (yd 0) ye) ye)))
def UC:DT:=(yR (yg (dOp (eqG true) (dOp gIx (yd 1) (yd 0)) (dOp gIx (yd 2) (yd 0)))) (dOr (yg (dOp jaX (dOp gIx (yd 2) (yd 0)) (dC .non))) (yg (dOp (eqG true) (dOp gIx (yd 1) (yd 0)) (yw 13 "now" uz 1 0 [.p 0] [] (yd 3) ye ye)))))
def Yv:DE:=(dOp vd (dC (.int 1)) (jq yN 2 0 [.p 0,.p 1] [] (jb (yd 1) (jb (yd 2) ye)) ye))
def xX:DS:=(sIf (yR (yg (dOp gLt (yd 11) (yd 8))) (yR (vV (vH (yw 13 "has_said" xA 3 0 [.p 0,.p 1,.p 2] [] (yd 7) (jb (yd 12) (jb (dC (.int 3)) ye)) ye))) (yg (dOp (eqG false) (jq yN 2 0 [.p 0,.p 1] [] (jb (yd 1) (jb (dC (.int 8)) ye)) ye) (dC (.int 0)))))) (yh (yn (yw 13 "ready" Uu 3 0 [.p 0,.p 1,.p 2] [] (yd 7) (jb (yd 12) (jb (dC (.int 3)) ye)) ye))
 (yI 9 (dC (.bl true)))) yA)
def Jw:DS:=(yh (UK 200 (dIt (yd 5)) (gN 12) xX)
 (yh (sIf (yR (yg (dOp (eqG true) (yd 4) (xl ye))) (yg (dOp (eqG false) (jq yN 2 0 [.p 0,.p 1] [] (jb (yd 1) (jb (dC (.int 2)) ye)) ye) (dC (.int 0))))) (yn (yw 13 "lie" XA 4 0 [.p 0,.p 1,.p 2,.p 3] [] (yd 7) (jb (jq vK 2 0 [.p 0,.p 1] [] (jb (yd 1) (jb (yd 4) ye)) ye) (jb (jq vK 2 0 [.p 0,.p 1] [] (jb (yd 1) (jb (yd 5) ye)) ye) (jb (dC (.int 3)) ye))) ye)) yA)
 (yh (yI 13 (yH (xi (jb (jq yN 2 0 [.p 0,.p 1] [] (jb (yd 1) (jb (dC (.int 4)) ye)) ye) ye)) vy [1,6] vh Yv))
 (yh (sIf (yg (dOp (eqG true) (yd 13) (xl ye))) (yn (yw 13 "go_on" uA 1 1 [.p 0,.k 0] [] (yd 7) ye (jb (yd 13) ye))) (yn (yw 13 "go_on" uA 1 0 [.p 0,.d 0] [.tup []] (yd 7) ye ye)))
 (yh (yI 14 (yd 10))
 (yh (yI 10 (yH (dIt (yd 5)) vy [7] vh (yw 13 "struck_at" Ym 3 0 [.p 0,.p 1,.p 2] [] (yd 1) (jb (yd 0) (jb (dC (.int 3)) ye)) ye)))
 (yh (sIf (yg (dOp (eqG true) (yH (xi (jb (dCB (one yK) (jb (yd 10) ye)) ye)) vy [10,14,7] UC (yd 0)) (xl ye))) (yJ (dC (.bl false))) yA)
 (yh (yI 15 (yH (dIt (yd 10)) vy [] (yg (dOp jaX (yd 0) (dC .non))) (yd 0)))
 (yh (sIf (dOr (yg (dOp (eqG true) (yw 13 "now" uz 1 0 [.p 0] [] (yd 7) ye ye) (dOp vd (yd 11) (dC (.int 1))))) (yR (yg (dOp (eqG true) (yd 15) (xl ye))) (vV (vH (yd 9))))) (yJ (dC (.bl false))) yA)
 (yh (sIf (yR (yg (dOp (eqG true) (yd 15) (xl ye))) (dOr (yR (yg (dOp gGe (yw 13 "now" uz 1 0 [.p 0] [] (yd 7) ye ye) (dOp vd (dCB (jaa) (jb (yd 15) ye)) (dOp vG (dC (.int 2)) (yd 6))))) (yg (dOp (gIn false) (dC .non) (yd 10)))) (yg (dOp gGt (dCB (jdZ) (jb (yd 15) ye)) (dOp vd (dCB (jaa) (jb (yd 15) ye)) (dOp vG (dC (.int 2)) (yd 6))))))) (yJ (dC (.bl false))) yA)
 (sIf (dOr (yg (dOp (eqG true) (dCB (one yK) (jb (yd 15) ye)) (dCB (one yK) (jb (yw 13 "all_strikes" Uw 1 0 [.p 0] [] (yd 7) ye ye) ye)))) (yg (dOp (eqG true) (yH (dIt (yd 15)) vy [] UD (yd 0)) (xl ye)))) (yJ (dC (.bl false))) yA)))))))))))
def jbg:DS:=(yh (yI 1 (jq jbs 1 0 [.p 0] [] (jb (yd 0) ye) ye))
 (yh (jhr (jq jbr 1 0 [.p 0] [] (jb (yd 1) ye) ye) (gT 4 (Xe (gN 2) (Xe (gN 3) (Xe (gN 4) (Xe (gN 5) jiZ))))))
 (yh (yI 6 (jq vK 2 0 [.p 0,.p 1] [] (jb (yd 1) (jb (xl (jb (dC (.int 1)) (jb (dC (.int 3)) (jb (dC (.int 10)) ye)))) ye)) ye))
 (yh (yI 7 (dIf (yg (dOp (eqG false) (yd 6) (dC (.int 10)))) (jch 13 JF 2 2 [.p 0,.p 1,.k 0,.k 1,.d 0] [.int 10] (jb (yd 3) ye) (jb (yd 2) (jb (yd 4) ye))) (jch 13 JF 2 3 [.p 0,.p 1,.k 0,.k 1,.k 2] [] (jb (yd 3) ye) (jb (yd 2) (jb (yd 4) (jb (yd 6) ye))))))
 (yh (yI 8 (dOp vd (dC (.int 2)) (jq yN 2 0 [.p 0,.p 1] [] (jb (yd 1) (jb (dC (.int 14)) ye)) ye)))
 (yh (yI 9 (dC (.bl false)))
 (yh (yI 10 (dOp vG (xl (jb (dC .non) ye)) (dCB (one yK) (jb (yd 5) ye))))
 (yh (UK 200 (xi (jb (dOp vd (dOp vd (yd 8) (dOp vG (dC (.int 4)) (yd 6))) (dC (.int 6))) ye)) (gN 11) Jw)
 (yJ (dOp (eqG false) (yH (dIt (yd 5)) vy [7] vh (yw 13 "struck_at" Ym 3 0 [.p 0,.p 1,.p 2] [] (yd 1) (jb (yd 0) (jb (dC (.int 4)) ye)) ye)) (dOp vG (xl (jb (dC .non) ye)) (dCB (one yK) (jb (yd 5) ye)))))))))))))
def Tw (M:Sto):Prop:=∃ ns c,Town M ns c
theorem jhf (ns:List Int):∃ M,jbs [.scr ns] ⟨0,fun _=>none⟩ = .ok (.ref 1) M∧Tw M∧M.n=2:=by
 cases ns with
 | nil=>exact ⟨_,rfl,⟨[0],0,rfl,rfl,by simp,Nat.le_refl _⟩,rfl⟩
 | cons n r=>exact ⟨_,rfl,⟨n :: r,0,rfl,rfl,by simp,Nat.le_refl _⟩,rfl⟩
theorem xE {M:Sto} (T:Tw M) {k:Int} (h1:1<=k) (h2:k < 1073741824):∃ d M',yN [.ref 1,.int k] M = .ok (.int d) M'∧0<=d∧d < k∧Tw M'∧Off M M':=by
 obtain ⟨ns,c,T⟩:=T
 have hl:(0:Int) < (ns.length:Int):=by
  have:ns.length≠0:=fun z=>T.ne (List.eq_nil_of_length_eq_zero z)
  omega
 have e0:yN [.ref 1,.int k] M=fin (jgA [some (.ref 1),some (.int k),none,none,none,none] M):=rfl;rw [e0];have a1:=yT T.tw;have a0:=yT T.row
 obtain ⟨M1,eM1⟩:∃ M1,M1=M.set 1 (.lst [.ref 0,.int (c + 1)]):=⟨_,rfl⟩
 have g0:M1.g 0=some (.lst (ns.map PV.int)):=by rw [eM1,Sto.set_ne (by decide)]; exact T.row
 have g1:M1.g 1=some (.lst [.ref 0,.int (c + 1)]):=by rw [eM1,Sto.set_same]
 have gi:∀ i,2<=i->i < M.n->M1.g i=M.g i:=fun i hi _=>by rw [eM1,Sto.set_ne (by omega)]
 have n1:M1.n=M.n:=by rw [eM1]; rfl
 have p1:jhC M (.ref 1) (.int 1) (.int (c + 1))=some M1:=by
  show (match M.g 1 with
   | some (.lst xs)=>(ixN xs.length 1).map fun n=>M.set 1 (.lst (xs.set n (.int (c + 1))))
   | _=>none)=_
  rw [T.tw,eM1];rfl
 have at0:0<=(c + 1) % (ns.length:Int):=Int.emod_nonneg _ (by omega);have at1:(c + 1) % (ns.length:Int) < ns.length:=Int.emod_lt_of_pos _ hl
 obtain ⟨at_,eat⟩:∃ a,a=(c + 1) % (ns.length:Int):=⟨_,rfl⟩
 rw [<- eat] at at0 at1
 obtain ⟨cell,ecell⟩:∃ z,ns[at_.toNat]? = some z:=⟨_,List.getElem?_eq_getElem (by omega)⟩
 have b1:=yT g1;have b0:=yT g0;unfold jgA
 have s1:dOp gIx (yd 0) (dC (.int 0)) [some (.ref 1),some (.int k),none,none,none,none] M = .ok (.ref 0) M:=by
  simp [xT a1]; rfl
 have ix0:atI (ns.map PV.int) at_=some (.int cell):=by
  rw [ux at0 (by simpa using at1),List.getElem?_map,ecell];rfl
 simp [s1,xT a1,xT b1,xT b0,yU b0,jcz,p1,ux,xS hl,<- eat,ix0,dMt]
 by_cases hc:1000000000000000000<=cell
 ·rw [if_pos hc,Xj (by omega) h2]
  obtain ⟨M2,eM2⟩:∃ M2,M2=M1.set 0 (.lst ((ns.set at_.toNat (cell / k)).map PV.int)):=⟨_,rfl⟩
  have p2:jhC M1 (.ref 0) (.int at_) (.int (cell / k))=some M2:=by
   show (match M1.g 0 with
    | some (.lst xs)=>(ixN xs.length at_).map fun n=>M1.set 0 (.lst (xs.set n (.int (cell / k))))
    | _=>none)=_
   rw [g0,eM2]
   have:ixN (ns.map PV.int).length at_=some at_.toNat:=by
    unfold ixN;rw [if_pos at0,if_pos (by simpa using at1)]
   simp only [this];rw [List.map_set];rfl
  simp [p2,xS (show 0 < k by omega)];refine ⟨_,_,⟨rfl,rfl⟩,Int.emod_nonneg _ (by omega),Int.emod_lt_of_pos _ (by omega),⟨ns.set at_.toNat (cell / k),c + 1,?_,?_,?_,?_⟩,?_,fun i hi hn=>?_⟩
  ·rw [eM2,Sto.set_same]
  ·rw [eM2,Sto.set_ne (by decide)]; exact g1
  ·intro z
   have:=congrArg List.length z
   rw [List.length_set] at this;exact T.ne (List.eq_nil_of_length_eq_zero this)
  ·rw [eM2]; show 2<=M1.n; rw [n1]; exact T.n
  ·rw [eM2]; exact Nat.le_of_eq n1.symm
  ·rw [eM2,Sto.set_ne (by omega)]; exact gi i hi hn
 ·rw [if_neg hc]
  obtain ⟨x,ex⟩:∃ x,x=(cell + 104729 * (c + 1)) % 4294967291:=⟨_,rfl⟩
  have x0:0<=x:=by rw [ex]; exact Int.emod_nonneg _ (by decide)
  have x1:x < 4294967291:=by rw [ex]; exact Int.emod_lt_of_pos _ (by decide)
  obtain ⟨y,ey⟩:∃ y,y=x ^ 5 % 4294967279:=⟨_,rfl⟩
  have y0:0<=y:=by rw [ey]; exact Int.emod_nonneg _ (by decide)
  have y1:y < 4294967279:=by rw [ey]; exact Int.emod_lt_of_pos _ (by decide)
  have ix1:atI [PV.ref 0,PV.int (c + 1)] 1=some (.int (c + 1)):=rfl
  simp [xT b1,ix1,xR (i:=104729) (j:=c + 1) (.inl (by decide)),xS (show (0:Int) < 4294967291 by decide),<- ex,jgf (i:=x) (j:=5) (by decide) (by decide) (by omega),xS (show (0:Int) < 4294967279 by decide),<- ey,
   Xj (show (0:Int) < 64 by decide) (by decide),xR (i:=y / 64) (j:=69621) (.inr (by decide)),xS (show (0:Int) < 4294967231 by decide),Xj (show (0:Int) < 8 by decide) (by decide),xS (show 0 < k by omega)]
  exact ⟨_,_,⟨rfl,rfl⟩,Int.emod_nonneg _ (by omega),Int.emod_lt_of_pos _ (by omega),⟨ns,c + 1,g0,g1,T.ne,by rw [n1]; exact T.n⟩,Nat.le_of_eq n1.symm,gi⟩
theorem jhL {M:Sto} (T:Tw M) {xs:List PV} (hne:xs≠[]) (hl:xs.length < 1073741824):∃ x M',vK [.ref 1,.lst xs] M = .ok x M'∧x ∈ xs∧Tw M'∧Off M M':=by
 have h0:xs.length≠0:=fun z=>hne (List.eq_nil_of_length_eq_zero z);obtain ⟨d,M',e,d0,d1,T',o⟩:=xE T (k:=(xs.length:Int)) (by omega) (by omega)
 have hd:d.toNat < xs.length:=by omega
 refine ⟨xs[d.toNat],M',?_,List.getElem_mem hd,T',o⟩;have e0:vK [.ref 1,.lst xs] M=fin (jgz [some (.ref 1),some (.lst xs)] M):=rfl;rw [e0];unfold jgz;simp [yq,gen,yU (M:=M) (x:=.lst xs) rfl,e,xT (M:=M') (x:=.lst xs) rfl,ux d0 d1,List.getElem?_eq_getElem hd]
theorem jfP {M:Sto} (T:Tw M) {crew most:Int} (h0:0<=crew) (h1:crew<=1000) (hm:0<=most):∃ (fs:List Int) (M':Sto),Ut [.ref 1,.int crew,.int most] M = .ok (.lst (fs.map PV.int)) M'∧(fs.length:Int)<=most∧(∀ f ∈ fs,0<=f∧f < crew)∧fs.Pairwise (· < ·)∧Tw M'∧Off M M':=by
 have hn2:2<=M.n:=by obtain ⟨ns,c,t⟩:=T; exact t.n
 have e0:Ut [.ref 1,.int crew,.int most] M=(fin (jgC [some (.ref 1),some (.int crew),some (.int most),none,none] M)).noX:=rfl;have sz:(0:Nat)<=sizeLine:=Nat.zero_le _
 have T0:Tw (M.new (.lst [])):=by
  obtain ⟨ns,c,t⟩:=T;exact ⟨ns,c,by rw [Sto.new_ne (by omega)]; exact t.row,by rw [Sto.new_ne (by omega)]; exact t.tw,t.ne,Nat.le_succ_of_le t.n⟩
 have dr:xi (jb (yd 1) ye) [some (.ref 1),some (.int crew),some (.int most),some (.ref M.n),none] (M.new (.lst [])) = .ok (.fix (xw 0 crew.toNat)) (M.new (.lst [])):=by
  have:xy crew=true:=yz.mpr (by omega)
  simp [xi,this]
 have lp:=Jo (g:=gN 4) (db:=ut)
  (fun i ρ M'=>∃ (h:Option PV) (fs:List Int),ρ=[some (.ref 1),some (.int crew),some (.int most),some (.ref M.n),h]∧M'.g M.n=some (.lst (fs.map PV.int))∧Tw M'∧M.n < M'.n∧(∀ j,2<=j->j < M.n->M'.g j=M.g j)∧(fs.length:Int)<=most∧(∀ f ∈ fs,0<=f∧f < i)∧fs.Pairwise (· < ·)∧fs.length<=i)
  (xw 0 crew.toNat) 0 [some (.ref 1),some (.int crew),some (.int most),some (.ref M.n),none] (M.new (.lst []))
  ⟨none,[],rfl,Sto.new_same,T0,Nat.lt_succ_self _,fun j _ hj=>Sto.new_ne (by omega),by simpa using hm,by simp,.nil,Nat.le_refl _⟩ (by
   rintro i x hx ρ M1 ⟨hh,fs,rfl,g1,T1,n1,of1,len1,mem1,pw1,li1⟩;rw [uf] at hx;split at hx
   ·rename_i hi;cases hx;generalize hzi:(0 + (i:Int))=z;obtain ⟨d,M2,ed,d0,d1,T2,o2⟩:=xE T1 (k:=3) (by decide) (by decide)
    have g2:M2.g M.n=some (.lst (fs.map PV.int)):=by rw [o2.g M.n hn2 n1]; exact g1
    have of2:∀ j,2<=j->j < M.n->M2.g j=M.g j:=fun j hj hn=>by rw [o2.g j hj (by omega)]; exact of1 j hj hn
    have n2:M.n < M2.n:=Nat.lt_of_lt_of_le n1 o2.n
    have mem2:∀ f ∈ fs,0<=f∧f < ((0 + i + 1:Nat):Int):=fun f hf=>by have:=mem1 f hf; omega
    have stay1:∃ (h:Option PV) (fs:List Int),[some (.ref 1),some (.int crew),some (.int most),some (.ref M.n),some (PV.int z)]=[some (.ref 1),some (.int crew),some (.int most),some (.ref M.n),h]∧M1.g M.n=some (.lst (fs.map PV.int))∧Tw M1∧M.n < M1.n∧(∀ j,2<=j->j < M.n->M1.g j=M.g j)∧(fs.length:Int)<=most∧(∀ f ∈ fs,0<=f∧f < ((0 + i + 1:Nat):Int))∧fs.Pairwise (· < ·)∧fs.length<=0 + i + 1:=⟨_,fs,rfl,g1,T1,n1,of1,len1,mem2,pw1,by omega⟩
    have lenE:yK M1 (.ref M.n)=some (.int fs.length):=by
     rw [yU (yT g1),List.length_map]
    by_cases hl:(fs.length:Int) < most
    ·by_cases hd:d=0
     ·subst hd;have eq:eqG false M2 (.int 0) (.int 0)=some (.bl true):=rfl
      have hz:fs.length < sizeLine:=by
       exact Nat.lt_of_le_of_lt (show fs.length<=1000 by omega) (by decide)
      have ap:vg M2 (.ref M.n) [.int z]=some (.non,M2.set M.n (.lst ((fs ++ [z]).map PV.int))):=by
       unfold vg
       have:Ug M2 (.ref M.n)=some (M.n,fs.map PV.int):=by
        show (match M2.g M.n with
         | some (.lst xs)=>some (M.n,xs)
         | _=>none)=_
        rw [g2]
       rw [this];simp [hz]
      refine ⟨_,[some (.ref 1),some (.int crew),some (.int most),some (.ref M.n),some (PV.int z)],M2.set M.n (.lst ((fs ++ [z]).map PV.int)),rfl,?_,_,fs ++ [z],rfl,Sto.set_same,?_,n2,fun j hj hn=>?_,by simp; omega,fun f hf=>?_,?_,by simp; omega⟩
      ·have sq:yZ M2 (.ref M.n)=some (fs.map PV.int):=Jf g2;simp [ut,yq,gen,gN,lenE,hl,ed,eq,dMt,sq,ap]
      ·obtain ⟨ns,c,t⟩:=T2;exact ⟨ns,c,by rw [Sto.set_ne (by omega)]; exact t.row,by rw [Sto.set_ne (by omega)]; exact t.tw,t.ne,t.n⟩
      ·rw [Sto.set_ne (by omega)];exact of2 j hj hn
      ·rcases List.mem_append.mp hf with hf | hf
       ·exact mem2 f hf
       ·rw [List.mem_singleton.mp hf];omega
      ·refine List.pairwise_append.mpr ⟨pw1,List.pairwise_singleton _ _,fun a ha b hb=>?_⟩;rw [List.mem_singleton.mp hb]
       have:=mem1 a ha
       omega
     ·have eq:eqG false M2 (.int d) (.int 0)=some (.bl false):=by
       show some (PV.bl (d == 0))=_;rw [show (d == 0)=false by simpa using hd]
      refine ⟨_,[some (.ref 1),some (.int crew),some (.int most),some (.ref M.n),some (PV.int z)],M2,rfl,?_,_,fs,rfl,g2,T2,n2,of2,len1,mem2,pw1,by omega⟩;simp [ut,yq,gen,gN,lenE,hl,ed,eq]
    ·refine ⟨_,[some (.ref 1),some (.int crew),some (.int most),some (.ref M.n),some (PV.int z)],M1,rfl,?_,stay1⟩;simp [ut,gN,lenE,hl]
   ·cases hx)
 obtain ⟨ρ',M',e,hh,fs,rfl,g',T',n',of',len',mem',pw',_⟩:=lp;rw [xL] at mem';refine ⟨fs,M'.drop M.n,?_,len',fun f hf=>by have:=mem' f hf; omega,pw',?_,Nat.le_of_lt n',fun i hi hn=>?_⟩
 ·rw [e0];unfold jgC
  have e1:(Xr ye [some (.ref 1),some (.int crew),some (.int most),none,none] M) = .ok (.ref M.n) (M.new (.lst [])):=by simp [sz]
  simp only [jhp,jho,e1,Res.st_ok,RS.then_nx,List.set_cons_succ,List.set_cons_zero];rw [ue dr,e];simp [dFrz,g']
 ·obtain ⟨ns,c,t⟩:=T';exact ⟨ns,c,by show (if 0=M.n then none else M'.g 0)=_; rw [if_neg (by omega)]; exact t.row,by show (if 1=M.n then none else M'.g 1)=_; rw [if_neg (by omega)]; exact t.tw,t.ne,t.n⟩
 ·show (if i=M.n then none else M'.g i)=_;rw [if_neg (by omega)];exact of' i hi hn

def UB:PV->Bool
 | .int _=>true
 | _=>false
def jaT (x:PV) (a b:Int):Bool:=match x with
 | .int i=>decide (a<=i) && decide (i<=b)
 | _=>false
def Kd (M:Sto) (x:PV):Prop:=∃ n,Ye M x=some n
theorem UU {M:Sto} {x:PV} {n m:String} (h:Ye M x=some n) (hm:m ∈ yY):Xi M [x,.ty m]=some (.bl (sub n m),M):=by
 show (match Ye M x with
  | some n=>if m ∈ yY then some (PV.bl (sub n m),M) else none
  | none=>none)=_
 rw [h];exact if_pos hm
theorem XO {M:Sto} {x:PV} {n:String} (h:Ye M x=some n):(sub n "int" && !sub n "bool")=UB x:=by
 cases x with
 | ref i =>
  have h:(match M.g i with
   | some (.lst _)=>some "list"
   | _=>none)=some n:=h
  split at h
  ·cases h; rfl
  ·cases h
 | non=>cases h; rfl
 | bl _=>cases h; rfl
 | int _=>cases h; rfl
 | str _=>cases h; rfl
 | tup _=>cases h; rfl
 | lst _=>cases h; rfl
 | dct _=>cases h; rfl
 | _=>cases h
theorem jaS {M:Sto} {x:PV} (h:Kd M x):Ur [x] M = .ok (.bl (UB x)) M:=by
 obtain ⟨n,h⟩:=h;have e0:Ur [x] M=fin (jgw [some x] M):=rfl;rw [e0,<- XO h];unfold jgw;simp [Jz,jbj,UU h (show "int" ∈ yY by decide),UU h (show "bool" ∈ yY by decide)];cases sub n "int" <;> simp
theorem UT {M:Sto} {x:PV} (h:Kd M x):XC [x] M = .ok (.bl (UB x)) M:=by
 obtain ⟨n,h⟩:=h;have e0:XC [x] M=fin (jgB [some x] M):=rfl;rw [e0,<- XO h];unfold jgB;simp [Jz,jbj,UU h (show "int" ∈ yY by decide),UU h (show "bool" ∈ yY by decide)];cases sub n "int" <;> simp
theorem xg {M:Sto} {x:PV} {a b:Int} (h:Kd M x):xu [x,.int a,.int b] M = .ok (.bl (jaT x a b)) M:=by
 have e0:xu [x,.int a,.int b] M=fin (jgy [some x,some (.int a),some (.int b)] M):=rfl;rw [e0];unfold jgy;simp [yq,gen,jaS h,Jz,jai]
 cases x with
 | int i =>
  simp [UB,jaT]
  by_cases h:a<=i <;> simp [h]
 | _=>rfl
theorem Kd.int {M:Sto} (i:Int):Kd M (.int i):=⟨_,rfl⟩
theorem jD {M:Sto} {x:PV} {a b:Int} (h:Kd M x) (ha:xy a=true) (hb:xy b=true):vL [x,.int a,.int b] M=if jaT x a b=true then .ok .non M else .exc 0 M:=by
 have e0:vL [x,.int a,.int b] M=fin (jgF [some x,some (.int a),some (.int b)] M):=rfl;rw [e0];unfold jgF;simp [yq,gen,xg h]
 cases jaT x a b with
 | true=>simp
 | false =>
  have sz:(1:Nat)<=sizeLine:=by decide
  simp [jgO,jij,jik,jNil,ha,hb,sz]
theorem jam {M:Sto} {x:PV} (h:Kd M x):XB [x] M=if jaT x 0 5=true then .ok .non M else .exc 0 M:=by
 have e0:XB [x] M=fin (jgx [some x] M):=rfl;rw [e0];unfold jgx;simp [yq,gen,jD h (a:=0) (b:=5) (by decide) (by decide)];cases jaT x 0 5 <;> simp
theorem jac {M:Sto} {n m:Int}:eqG false M (.int n) (.int m)=some (.bl (n == m)):=rfl
theorem jfI {M:Sto} {n m:Int}:eqG true M (.int n) (.int m)=some (.bl (!(n == m))):=rfl
theorem Yy {n:Nat} (h:n<=1000):n < sizeLine:=Nat.lt_of_le_of_lt h (by decide)
theorem jea {M:Sto} {n:Int} {ns:List Int}:jgl M (.lst ((n :: ns).map PV.int))=some (.int (uJ (n :: ns))):=by
 unfold jgl jcb;simp only [ud,Option.bind_some,JT]
theorem jeb {M:Sto} {n:Int} {ns:List Int}:jgm M (.lst ((n :: ns).map PV.int))=some (.int (Jn (n :: ns))):=by
 unfold jgm jcb;simp only [ud,Option.bind_some,JT]
theorem jdX {M:Sto} {n:Int} {ns:List Int}:jaa M [.lst ((n :: ns).map PV.int)]=some (.int (uJ (n :: ns)),M):=by
 unfold jaa orC;rw [jbT,jea]
theorem jdY {M:Sto} {n:Int} {ns:List Int}:jdZ M [.lst ((n :: ns).map PV.int)]=some (.int (Jn (n :: ns)),M):=by
 unfold jdZ orC;rw [jbT,jeb]

theorem UH {M:Sto} {c:Nat} {x y:Cell}:(M.set c x).set c y=M.set c y:=by
 unfold Sto.set;congr 1;funext j
 by_cases h:j=c <;> simp [h]
structure Ex (M M':Sto):Prop where
 n:M.n<=M'.n
 g:∀ i,i < M.n->M'.g i=M.g i
theorem Ex.refl (M:Sto):Ex M M:=⟨Nat.le_refl _,fun _ _=>rfl⟩
theorem Ex.trans {A B C:Sto} (h:Ex A B) (k:Ex B C):Ex A C:=⟨Nat.le_trans h.n k.n,fun i hi=>(k.g i (Nat.lt_of_lt_of_le hi h.n)).trans (h.g i hi)⟩
theorem Ex.tw {M M':Sto} (h:Ex M M') (T:Tw M):Tw M':=by
 obtain ⟨ns,c,t⟩:=T
 have:=t.n
 exact ⟨ns,c,by rw [h.g 0 (by omega)]; exact t.row,by rw [h.g 1 (by omega)]; exact t.tw,t.ne,Nat.le_trans t.n h.n⟩
theorem VZ:∀ ns:List Int,xF (ns.map PV.int)=0
 | []=>rfl
 | _ :: ns=>by
  show max 0 (xF (ns.map PV.int))=0;rw [VZ ns];rfl
theorem jgp {neg:Bool} {M:Sto} {x y z:PV} (hx:look M x=z) (hy:look M y=z) (p:plain z=true) (d:dep z<=60):eqG neg M x y=some (.bl (!neg)):=by
 unfold eqG;rw [hx,hy,if_pos ⟨p,p,d⟩,Js p];cases neg <;> rfl
theorem jaL (ns:List Int):plain (.lst (ns.map PV.int))=true:=uh ns
theorem jec (ns:List Int):dep (.lst (ns.map PV.int))<=60:=by
 show xF (ns.map PV.int) + 1<=60;rw [VZ];decide
theorem um {M:Sto} {i k:Nat} {fs:List (Str × PV)} (h:M.g i=some (.ins k fs)):Jr M k (.ref i)=some (i,fs):=by
 show (match M.g i with
  | some (.ins c fs)=>if c=k then some (i,fs) else none
  | _=>none)=_
 rw [h];exact if_pos rfl
def hon (n:Nat) (fs:List Int):List Int:=((List.range n).map fun k:Nat=>(0 + (k:Int))).filter fun h=>!decide (h ∈ fs)
theorem US {n:Nat} {fs:List Int} {h:Int}:h ∈ hon n fs↔(0<=h∧h < n)∧h ∉ fs:=by
 unfold hon;rw [List.mem_filter,List.mem_map];constructor
 ·rintro ⟨⟨k,hk,rfl⟩,h2⟩
  have:=List.mem_range.mp hk
  exact ⟨⟨by omega,by omega⟩,by simpa using h2⟩
 ·rintro ⟨⟨h0,h1⟩,h2⟩;exact ⟨⟨h.toNat,List.mem_range.mpr (by omega),by omega⟩,by simpa using h2⟩
theorem jcC (n:Nat):xw 0 n=((List.range n).map fun k:Nat=>(0 + (k:Int))).map PV.int:=by
 unfold xw;rw [List.map_map];rfl
theorem ul {M:Sto} {h n:Int}:Yj [.int h,.int n] M = .ok (.bl (jaT (.int h) 0 (n - 1))) M:=by
 refine jY (ρ:=[some (.int h),some (.int n)]) rfl rfl ?_;unfold d_zbq;refine jR ?_;simp only [jW,jr,jC,jI,jx,vj,yb,Res.bind_ok,jge,jB];exact xg (Kd.int h)
theorem vt {h a b:Int} (h0:a<=h) (h1:h<=b):jaT (.int h) a b=true:=by
 show (decide (a<=h) && decide (h<=b))=true;simp [h0,h1]
theorem cut1 (fs:List Int):jaj (fs.map PV.int) (some 1) none=(fs.drop 1).map PV.int:=by
 cases fs with
 | nil=>rfl
 | cons a r =>
  unfold jaj
  have e1:HT.sIx ((a :: r).map PV.int).length 0 (some 1)=1:=by
   unfold HT.sIx;simp
  have e2:HT.sIx ((a :: r).map PV.int).length ((a :: r).map PV.int).length none=((a :: r).map PV.int).length:=rfl;rw [e1,e2,List.map_drop,List.take_of_length_le];rw [List.length_drop];exact Nat.le_refl _
theorem UV {M:Sto} {fs:List Int} (h:fs.Pairwise (· < ·)) (hl:fs.length<=40):jbq [.lst (fs.map PV.int)] M = .ok (.bl true) M:=by
 refine jY (ρ:=[some (.lst (fs.map PV.int))]) rfl rfl ?_;unfold d_zbm;refine jR ?_
 have gs:gSl M (.lst (fs.map PV.int)) (some 1) none=some (.lst ((fs.drop 1).map PV.int)):=by
  show some (PV.lst (jaj (fs.map PV.int) (some 1) none))=_;rw [cut1]
 have q2:yH (jiz (jb (yd 0) (jb (dSl (yd 0) (dOS (dC (.int 1))) dON) ye))) jiJ [] vh (dOp gLt (yd 0) (yd 1)) [some (.lst (fs.map PV.int))] M = .ok (.lst ((fs.zip (fs.drop 1)).map fun _=>.bl true)) M:=by
  refine jN (xs:=(fs.zip (fs.drop 1)).map fun p=>PV.tup [.int p.1,.int p.2]) (M1:=M) ?_ (by rw [List.length_map,List.length_zip]; exact Yy (by omega)) ?_
  ·have e3:dSl (yd 0) (dOS (dC (.int 1))) dON [some (.lst (fs.map PV.int))] M = .ok (.lst ((fs.drop 1).map PV.int)) M:=by
    show ofO (gSl M (.lst (fs.map PV.int)) (some 1) none) M=_;rw [gs];rfl
   unfold jiz;simp only [jr,jC,e3,jx,Res.bind_ok];congr 2;unfold jav;rw [List.zipWith_map];unfold List.zip;rw [List.map_zipWith]
  ·refine jZ (fun p:Int × Int=>PV.tup [.int p.1,.int p.2]) (fun _=>.bl true) _ fun p hp=>⟨[some (.int p.1),some (.int p.2)],rfl,rfl,?_⟩
   have lt:p.1 < p.2:=by
    obtain ⟨k,hk⟩:=List.getElem?_of_mem hp;rw [List.getElem?_zip_eq_some] at hk;obtain ⟨k1,k2⟩:=hk;rw [List.getElem?_drop] at k2;obtain ⟨l1,e1⟩:=List.getElem?_eq_some_iff.mp k1;obtain ⟨l2,e2⟩:=List.getElem?_eq_some_iff.mp k2;rw [<- e1,<- e2];exact List.pairwise_iff_getElem.mp h k (1 + k) l1 l2 (by omega)
   have gl:gLt M (.int p.1) (.int p.2)=some (.bl true):=by
    show some (PV.bl (decide (p.1 < p.2)))=_;rw [decide_eq_true lt]
   simp only [yb,jC,jI,Res.bind_ok,gl,jB]
 have q3:Xk M (.lst ((fs.zip (fs.drop 1)).map fun _=>PV.bl true))=some (.bl true):=by
  have e1:((fs.zip (fs.drop 1)).map fun _=>PV.bl true)=((fs.zip (fs.drop 1)).map fun _=>true).map PV.bl:=by rw [List.map_map]; rfl
  unfold Xk jep;rw [e1];simp only [ud,Option.bind_some,vY]
  have:((fs.zip (fs.drop 1)).map fun _=>true).all id=true:=by simp
  rw [this]
 simp only [Xs,jr,q2,jx,Res.bind_ok,one,q3,Option.map_some]
theorem YA {M:Sto} {fs:List Int} {n s:Int} (h:fs.Pairwise (· < ·)) (hb:∀ f ∈ fs,0<=f∧f < n) (hl:(fs.length:Int)<=s) (s5:s<=40):Uy [.lst (fs.map PV.int),.int n,.int s] M = .ok .non M:=by
 show fin (jgI [some (.lst (fs.map PV.int)),some (.int n),some (.int s)] M)=_;unfold jgI;have q1:Xi M [.lst (fs.map PV.int),.tup [.ty "list",.ty "tuple"]]=some (.bl true,M):=rfl
 have hlen:yK M (.lst (fs.map PV.int))=some (.int fs.length):=by rw [yU (x:=.lst (fs.map PV.int)) rfl,List.length_map]
 have hg:gGt M (.int fs.length) (.int s)=some (.bl false):=by
  show some (PV.bl (decide (s < (fs.length:Int))))=_;rw [decide_eq_false (by omega)]
 have q2:yH (dIt (yd 0)) vy [1] vh jap [some (.lst (fs.map PV.int)),some (.int n),some (.int s)] M = .ok (.lst (fs.map fun _=>.bl true)) M:=by
  refine jN (xs:=fs.map PV.int) (M1:=M) rfl (by rw [List.length_map]; exact Yy (by omega)) ?_
  refine jZ PV.int (fun _=>.bl true) _ fun f hf=>⟨[some (.int f),some (.int n)],rfl,rfl,?_⟩
  obtain ⟨f0,f1⟩:=hb f hf;unfold jap;simp only [jW,jr,jC,jI,jx,Res.bind_ok];rw [show Yj (yq 2 0 [Sl.p 0,Sl.p 1] [] [PV.int f,PV.int n] []) M=_ from ul,vt f0 (by omega)]
 have q3:Xk M (.lst (fs.map fun _=>PV.bl true))=some (.bl true):=by
  have e1:(fs.map fun _=>PV.bl true)=(fs.map fun _=>true).map PV.bl:=by rw [List.map_map]; rfl
  unfold Xk jep;rw [e1];simp only [ud,Option.bind_some,vY]
  have:(fs.map fun _=>true).all id=true:=by simp
  rw [this]
 have s2:(2:Nat)<=sizeLine:=by decide
 simp [yq,gen,q1,hlen,hg,q2,q3,jex,UV h (by omega),s2]
theorem jP {M M1 M2:Sto} {i c a b:Nat} {fl:List (Str × PV)} {nm:Str} {D:List PV->Sto->Res PV} {sl:List Sl} {dP xs zs:List PV} {do_:DE} {da dk:DA} {ρ:En} (ho:do_ ρ M = .ok (.ref i) M) (hi:M.g i=some (.ins c fl)) (hn:fl.lookup nm=none) (ha:da ρ M = .ok xs M1) (hk:dk ρ M1 = .ok zs M2) :
  yw c nm D a b sl dP do_ da dk ρ M=D (yq a b sl dP (.ref i :: xs) zs) M2:=by
 unfold yw;rw [ho];simp only [Res.bind_ok,um hi,hn,if_true];rw [ha];simp only [Res.bind_ok];rw [hk];simp only [Res.bind_ok]
theorem jS {M:Sto} {i c:Nat} {fl:List (Str × PV)} {x:Str} {v:PV} {d:DE} {ρ:En} (ho:d ρ M = .ok (.ref i) M) (hi:M.g i=some (.ins c fl)) (hx:fl.lookup x=some v):yo c x d ρ M = .ok v M:=by
 unfold yo;rw [ho];simp only [Res.bind_ok,um hi,hx,jB]
theorem vR {M Ma:Sto} {i k:Nat} {fs0:List (Str × PV)} {f:Str} {v:PV} {d do_:DE} {c:DS} {ρ:En} {r:RS} (hd:d ρ M = .ok v Ma) (ho:do_ ρ Ma = .ok (.ref i) Ma) (hg:Ma.g i=some (.ins k fs0)) (hl:fs0.length < 1000) (hc:c ρ (Ma.set i (.ins k (yW f v fs0)))=r):yh (xb k f d do_) c ρ M=r:=by
 unfold yh xb;rw [hd];simp only [Res.st_ok];rw [ho];simp only [Res.st_ok,um hg,hl,if_true];exact hc
theorem Jm {M Ma:Sto} {i k:Nat} {fs0:List (Str × PV)} {f:Str} {v:PV} {d do_:DE} {ρ:En} (hd:d ρ M = .ok v Ma) (ho:do_ ρ Ma = .ok (.ref i) Ma) (hg:Ma.g i=some (.ins k fs0)) (hl:fs0.length < 1000):xb k f d do_ ρ M = .nx ρ (Ma.set i (.ins k (yW f v fs0))):=by
 unfold xb;rw [hd];simp only [Res.st_ok];rw [ho];simp only [Res.st_ok,um hg,hl,if_true]
theorem jib {M:Sto} {c d:Cell}:(M.new c).set M.n d=M.new d:=by
 unfold Sto.new Sto.set;congr 1;funext j
 by_cases h:j=M.n
 ·rw [if_pos h,if_pos h]
 ·rw [if_neg h,if_neg h];exact if_neg h
structure Ck where
 f:Int
 r:Int
 t:Int
def Ck.at (q:Ck) (b:Int):Int:=q.f + b * (1000 + q.r) / 1000 + q.t
def Ck.to (q:Ck) (x b:Int):Ck:=⟨q.f,q.r,q.t + (x - q.at b)⟩
theorem jck {M:Sto} {h:Int} {n:Nat} {fs:List Int} (h0:0<=h) (h1:h < n) (h2:h ∉ fs):jbw [.int h,.int n,.lst (fs.map PV.int)] M = .ok .non M:=by
 have gi:gIn false M (.int h) (.lst (fs.map PV.int))=some (.bl (decide (h ∈ fs))):=uo (neg:=false) (M:=M) (x:=.lst (fs.map PV.int)) (k:=h) (ns:=fs) rfl;rw [decide_eq_false h2] at gi
 have c1:Yk [.int h,.int n] M = .ok .non M:=by
  show fin (jbf [some (.int h),some (.int n)] M)=_;unfold jbf;have q:=ul (M:=M) (h:=h) (n:=n);rw [vt h0 (by omega)] at q;simp [yq,gen,q]
 show fin (jcZ [some (.int h),some (.int n),some (.lst (fs.map PV.int))] M)=_
 obtain ⟨F,hF⟩:∃ F,F=PV.lst (fs.map PV.int):=⟨_,rfl⟩
 rw [<- hF] at gi ⊢
 have e:jcZ [some (.int h),some (.int n),some F] M = .nx [some (.int h),some (.int n),some F] M:=by
  unfold jcZ;refine yB (v:=.non) (M1:=M) (by simpa [yq,gen] using c1) ?_;exact Jl (by simp [gi])
 rw [e];rfl
theorem yp {d:DE} {ρ:En} {M M1:Sto} {b:Bool} (h:d ρ M = .ok (.bl b) M1):yg d ρ M = .ok b M1:=by
 rw [jbh,h];rfl
theorem yi {g:G2} {da db:DE} {ρ:En} {M M1 M2:Sto} {x y z:PV} (h1:da ρ M = .ok x M1) (h2:db ρ M1 = .ok y M2) (h3:g M2 x y=some z):dOp g da db ρ M = .ok z M2:=by
 rw [yb,h1];simp only [Res.bind_ok];rw [h2];simp only [Res.bind_ok];rw [h3];rfl
theorem YX {t:DT} {A B c:DS} {ρ ρ':En} {M M1 M2:Sto} {bb:Bool} {r:RS} (h:t ρ M = .ok bb M1) (hb:(if bb=true then A else B) ρ M1 = .nx ρ' M2) (k:c ρ' M2=r):yh (sIf t A B) c ρ M=r:=by
 unfold yh sIf;rw [h]
 have e:(Res.ok bb M1).st ρ (fun b M1=>if b=true then A ρ M1 else B ρ M1) = .nx ρ' M2:=by
  rw [<- hb];cases bb <;> rfl
 rw [e];exact k
theorem jeH {t:DT} {A B:DS} {ρ:En} {M M1:Sto} {r:RS} (h:t ρ M = .ok true M1) (k:A ρ M1=r):sIf t A B ρ M=r:=by
 unfold sIf;rw [h];exact k
theorem jcA {t:DT} {A B:DS} {ρ:En} {M M1:Sto} {r:RS} (h:t ρ M = .ok false M1) (k:B ρ M1=r):sIf t A B ρ M=r:=by
 unfold sIf;rw [h];exact k
theorem JA {d:DE} {ρ:En} {M M1:Sto} {x:PV} (h:d ρ M = .ok x M1):jb d ye ρ M = .ok [x] M1:=by
 rw [jr,h];rfl

abbrev T3:=Int × Int × Int
def p2 (x:Int × Int):PV:=.tup [.int x.1,.int x.2]
def p3 (x:T3):PV:=.tup [.int x.1,.int x.2.1,.int x.2.2]
def yu:Option Int->PV
 | none=>.non
 | some d=>.int d
abbrev TL:=T3 × Option Int
def ltF (x:TL):List (Str × PV):=[("sender",.int x.1.1),("house",.int x.1.2.1),("what",.int x.1.2.2),("due",yu x.2)]
def k2 (x:Int × Int):List Int × PV:=([x.1,x.2],.bl true)
def ks (x:(Int × Int) × Int):List Int × PV:=([x.1.1,x.1.2],.int x.2)
def kg (e:Nat × Int × Int):List Int × PV:=([e.2.1,e.2.2],.ref e.1)
def puF (i n:Nat) (s:Int) (fs:List Int) (dl b:Int):List (Str × PV):=[("houses",.int n),("few",.int s),("liars",.lst (fs.map PV.int)),("on_way",.ref (i + 1)),("got",.ref (i + 2)),("written",.ref (i + 3)),("struck",.ref (i + 4)),("delay",.int dl),("beat",.int b)]
structure Ps where
 wr:List (Int × Int)
 gt:List T3
 st:List ((Int × Int) × Int)
 ls:List TL
 bt:Int
def Ps.say (q:Ps) (hs:List Int) (p:Int × Int):Ps:=⟨q.wr ++ [p],q.gt,q.st,q.ls ++ hs.map fun o=>((p.1,o,p.2),none),q.bt⟩
def Ps.add (q:Ps) (t:T3):Ps:=if t ∈ q.gt then q else ⟨q.wr,q.gt ++ [t],q.st,q.ls,q.bt⟩
def Ps.many (q:Ps) (p:Int × Int):Nat:=(q.gt.filter fun t=>decide (t.2=p)).length
def Ps.strike (q:Ps) (p:Int × Int):Ps:=⟨q.wr,q.gt,q.st ++ [(p,q.bt)],q.ls,q.bt⟩
def Ps.look1 (q:Ps) (s:Int) (hs:List Int) (p:Int × Int):Ps:=if s < (q.many p:Int)∧p ∉ q.wr then q.say hs p else q
def Ps.look2 (q:Ps) (s:Int) (m:Nat) (p:Int × Int):Ps:=if 2 * s < (m:Int)∧p ∉ q.st.map (·.1) then q.strike p else q
def Ps.come (q:Ps) (s:Int) (hs:List Int) (t:T3):Ps:=((q.add t).look1 s hs t.2).look2 s ((q.add t).many t.2) t.2
def vm (gt:List T3) (p:Int × Int):List (Int × PV):=(gt.filter fun t=>decide (t.2=p)).map fun t=>(t.1,PV.bl true)
structure Pu (M:Sto) (i lo n:Nat) (s:Int) (fs:List Int) (dl:Int) (es:List (Nat × TL)) (gs:List (Nat × Int × Int)) (q:Ps):Prop where
 pu:M.g i=some (.ins 13 (puF i n s fs dl q.bt))
 ow:M.g (i + 1)=some (.lst (es.map fun e=>PV.ref e.1))
 go:M.g (i + 2)=some (.dtv (gs.map kg))
 wt:M.g (i + 3)=some (.dtv (q.wr.map k2))
 sk:M.g (i + 4)=some (.dtv (q.st.map ks))
 el:∀ e ∈ es,lo<=e.1∧e.1 < M.n∧M.g e.1=some (.ins 10 (ltF e.2))
 ed:es.Pairwise fun a b=>a.1≠b.1
 gl:∀ e ∈ gs,lo<=e.1∧e.1 < M.n∧M.g e.1=some (.dkv (vm q.gt e.2))
 gd:gs.Pairwise fun a b=>a.1≠b.1
 gk:gs.Pairwise fun a b=>a.2≠b.2
 gc:∀ t ∈ q.gt,∃ e ∈ gs,e.2=t.2
 le:es.map (·.2)=q.ls
 li:i + 5<=lo
 ln:lo<=M.n
structure Fr (M M':Sto) (i lo:Nat):Prop where
 n:M.n<=M'.n
 g:∀ j,j < lo->(j < i∨i + 5<=j)->M'.g j=M.g j
 l:∀ j xs,lo<=j->j < M.n->M.g j=some (.lst xs)->M'.g j=some (.lst xs)
theorem Fr.refl (M:Sto) (i lo:Nat):Fr M M i lo:=⟨Nat.le_refl _,fun _ _ _=>rfl,fun _ _ _ _ e=>e⟩
theorem Fr.trans {A B C:Sto} {i lo:Nat} (h:Fr A B i lo) (k:Fr B C i lo):Fr A C i lo:=⟨Nat.le_trans h.n k.n,fun j a b=>(k.g j a b).trans (h.g j a b),fun j xs a b e=>k.l j xs a (Nat.lt_of_lt_of_le b h.n) (h.l j xs a b e)⟩
theorem Fr.weak {A B:Sto} {i lo lo':Nat} (h:Fr A B i lo) (l:lo'<=lo) (li:i + 5<=lo'):Fr A B i lo':=⟨h.n,fun j a b=>h.g j (Nat.lt_of_lt_of_le a l) b,fun j xs a b e=>by
 by_cases hj:j < lo
 ·rw [h.g j hj (.inr (Nat.le_trans li a))];exact e
 ·exact h.l j xs (Nat.le_of_not_lt hj) b e⟩
theorem Fr.mk0 {M M':Sto} {i:Nat} (n:M.n<=M'.n) (g:∀ j,j < M.n->(j < i∨i + 5<=j)->M'.g j=M.g j):Fr M M' i M.n:=⟨n,g,fun j xs a b _=>absurd b (Nat.not_lt.mpr a)⟩
theorem Fr.tr {A B C:Sto} {i:Nat} (h:Fr A B i A.n) (k:Fr B C i B.n):Fr A C i A.n:=Fr.mk0 (Nat.le_trans h.n k.n) fun j a b=>(k.g j (Nat.lt_of_lt_of_le a h.n) b).trans (h.g j a b)
theorem szB {n:Nat} (h:n<=100000):n < sizeLine:=Nat.lt_of_le_of_lt h (by decide)
theorem jiu {r:RS} {ρ:En} {M:Sto} (h:r = .nx ρ M):fin r = .ok .non M:=by rw [h]; rfl
theorem yX {n N:Nat} {pvs:List PV} {ρ ρ':En} {dd:DS} {M M1:Sto} (hn:pvs.length=n) (hρ:pvs.map some ++ List.replicate (N - n) none=ρ) (h:dd ρ M = .nx ρ' M1):yv n N dd pvs M = .ok .non M1:=by
 unfold yv;rw [if_pos hn,hρ,h];rfl
theorem jgL {g:GM} {do_:DE} {da:DA} {ρ:En} {M M1 M2 M3:Sto} {x z:PV} {ys xs:List PV} (h1:do_ ρ M = .ok x M1) (h2:yZ M1 x=some ys) (h3:da ρ M1 = .ok xs M2) (h4:g M2 x xs=some (z,M3)):dMt g do_ da ρ M = .ok z M3:=by
 unfold dMt;rw [h1];simp only [Res.bind_ok];rw [h2];simp only [];rw [h3];simp only [Res.bind_ok];rw [h4]
theorem app_of {M:Sto} {j:Nat} {xs:List PV} {y:PV} (h:M.g j=some (.lst xs)) (hl:xs.length < sizeLine):vg M (.ref j) [y]=some (.non,M.set j (.lst (xs ++ [y]))):=by
 unfold vg
 have:Ug M (.ref j)=some (j,xs):=by
  show (match M.g j with
   | some (.lst xs)=>some (j,xs)
   | _=>none)=_
  rw [h]
 rw [this];exact if_pos hl
theorem xk {f:Sto->PV->Option PV} {d:DE} {ρ:En} {M M1:Sto} {x z:PV} (h1:d ρ M = .ok x M1) (h2:f M1 x=some z):dCB (one f) (jb d ye) ρ M = .ok z M1:=by
 rw [Xs,jr,h1];simp only [Res.bind_ok,jx,jbT,h2]
theorem yV {d:DE} {ρ:En} {M M1:Sto} {v:PV} (h:d ρ M = .ok v M1):yn d ρ M = .nx ρ M1:=by
 unfold yn;rw [h];rfl
section
variable {M M':Sto} {i lo n:Nat} {s:Int} {fs:List Int} {dl:Int} {es:List (Nat × TL)} {gs:List (Nat × Int × Int)} {q:Ps}
theorem Pu.off (P:Pu M i lo n s fs dl es gs q) (hn:M.n<=M'.n) (hg:∀ j,((i<=j∧j < i + 5)∨(lo<=j∧j < M.n))->M'.g j=M.g j):Pu M' i lo n s fs dl es gs q:=by
 have a:=P.li;have b:=P.ln
 exact ⟨by rw [hg i (by omega)]; exact P.pu,by rw [hg _ (by omega)]; exact P.ow,by rw [hg _ (by omega)]; exact P.go,by rw [hg _ (by omega)]; exact P.wt,by rw [hg _ (by omega)]; exact P.sk,
  fun e he=>by
   obtain ⟨h1,h2,h3⟩:=P.el e he
   exact ⟨h1,by omega,by rw [hg _ (.inr ⟨h1,h2⟩)]; exact h3⟩,P.ed,
  fun e he=>by
   obtain ⟨h1,h2,h3⟩:=P.gl e he
   exact ⟨h1,by omega,by rw [hg _ (.inr ⟨h1,h2⟩)]; exact h3⟩,P.gd,P.gk,P.gc,P.le,P.li,by omega⟩
theorem Pu.fld {x:Str} {v:PV} {d:DE} {ρ:En} (P:Pu M i lo n s fs dl es gs q) (ho:d ρ M = .ok (.ref i) M) (hx:(puF i n s fs dl q.bt).lookup x=some v):yo 13 x d ρ M = .ok v M:=jS ho P.pu hx
theorem Pu.mth {M1 M2:Sto} {a b:Nat} {nm:Str} {D:List PV->Sto->Res PV} {sl:List Sl} {dP xs zs:List PV} {do_:DE} {da dk:DA} {ρ:En} (P:Pu M i lo n s fs dl es gs q) (ho:do_ ρ M = .ok (.ref i) M) (hn:(puF i n s fs dl q.bt).lookup nm=none) (ha:da ρ M = .ok xs M1) (hk:dk ρ M1 = .ok zs M2) :
  yw 13 nm D a b sl dP do_ da dk ρ M=D (yq a b sl dP (.ref i :: xs) zs) M2:=jP ho P.pu hn ha hk
theorem jfX (P:Pu M i lo n s fs dl es gs q) (hn:n<=40):Uv [.ref i] M = .ok (.lst ((hon n fs).map PV.int)) M:=by
 refine jY (ρ:=[some (.ref i)]) rfl rfl ?_;unfold d_zay;refine jR ?_;refine jN (xs:=xw 0 n) (M1:=M) ?_ (by rw [xL]; exact Yy (by omega)) ?_
 ·have hs:xy (n:Int)=true:=yz.mpr ⟨by omega,by omega⟩;unfold xi;simp only [jr,P.fld (x:="houses") (v:=.int n) (d:=yd 0) (ρ:=[some (.ref i)]) rfl rfl,jx,Res.bind_ok,hs,if_true,Int.toNat_natCast]
 ·rw [jcC]
  refine xm PV.int (fun x=>!decide (x ∈ fs)) PV.int _ fun x hx=>⟨[some (.int x),some (.ref i)],rfl,?_,fun _=>rfl⟩
  have gi:gIn true M (.int x) (.lst (fs.map PV.int))=some (.bl (!decide (x ∈ fs))):=uo (neg:=true) (M:=M) (x:=.lst (fs.map PV.int)) (k:=x) (ns:=fs) rfl;simp only [jbh,yb,jC,Res.bind_ok,P.fld (x:="liars") (v:=.lst (fs.map PV.int)) (d:=yd 1) (ρ:=[some (.int x),some (.ref i)]) rfl rfl,gi,jB];rfl
theorem jdf (P:Pu M i lo n s fs dl es gs q) {h:Int} (hh:h ∈ hon n fs):uB [.ref i,.int h] M = .ok .non M:=by
 obtain ⟨⟨h0,h1⟩,h2⟩:=US.mp hh;refine yX (ρ:=[some (.ref i),some (.int h)]) (ρ':=[some (.ref i),some (.int h)]) rfl rfl ?_;unfold d_zab;refine yV (v:=.non) ?_;simp only [jW,jr,jC,jI,jx,P.fld (x:="houses") (v:=.int n) (d:=yd 0) (ρ:=[some (.ref i),some (.int h)]) rfl rfl,P.fld (x:="liars") (v:=.lst (fs.map PV.int)) (d:=yd 0) (ρ:=[some (.ref i),some (.int h)]) rfl rfl,Res.bind_ok];exact jck h0 h1 h2
theorem chk_l (P:Pu M i lo n s fs dl es gs q) {h:Int} (hh:h ∈ fs) (h0:0<=h) (h1:h < n):jbB [.ref i,.int h] M = .ok .non M:=by
 have c1:Yk [.int h,.int n] M = .ok .non M:=by
  show fin (jbf [some (.int h),some (.int n)] M)=_;unfold jbf;have q:=ul (M:=M) (h:=h) (n:=n);rw [vt h0 (by omega)] at q;simp [yq,gen,q]
 have gi:gIn true M (.int h) (.lst (fs.map PV.int))=some (.bl (!decide (h ∈ fs))):=uo (neg:=true) (M:=M) (x:=.lst (fs.map PV.int)) (k:=h) (ns:=fs) rfl;rw [decide_eq_true hh] at gi;refine yX (ρ:=[some (.ref i),some (.int h)]) (ρ':=[some (.ref i),some (.int h)]) rfl rfl ?_;unfold d_zag;refine yB (v:=.non) (M1:=M) ?_ ?_
 ·simp only [jW,jr,jC,jI,jx,P.fld (x:="houses") (v:=.int n) (d:=yd 0) (ρ:=[some (.ref i),some (.int h)]) rfl rfl,Res.bind_ok];exact c1
 ·refine Jl ?_;exact yp (yi (x:=.int h) (y:=.lst (fs.map PV.int)) (M1:=M) rfl (P.fld (x:="liars") (d:=yd 0) rfl rfl) gi)
theorem jgT {c:Int} (c0:1<=c) (c1:c<=99):JE [.int c] M = .ok .non M:=by
 show fin (jgD [some (.int c)] M)=_;unfold jgD;simp [yq,gen,jD (M:=M) (a:=1) (b:=99) (Kd.int c) (by decide) (by decide),vt c0 c1]
theorem is_r {c:Int} (c0:1<=c) (c1:c<=99):Uq [.int c] M = .ok (.bl true) M:=by
 show fin (jgv [some (.int c)] M)=_;unfold jgv;simp [yq,gen,xg (M:=M) (a:=1) (b:=99) (Kd.int c),vt c0 c1]
theorem get_k2 (l:List (Int × Int)) (h c:Int):(xa (l.map k2) [h,c]).isSome=decide ((h,c) ∈ l):=by
 unfold xa;rw [Option.isSome_map,Bool.eq_iff_iff,List.find?_isSome,decide_eq_true_eq];constructor
 ·rintro ⟨x,hx,e⟩;obtain ⟨y,hy,rfl⟩:=List.mem_map.mp hx;have e:=of_decide_eq_true e;have e:[y.1,y.2]=[h,c]:=e;cases e;exact hy
 ·intro hm;exact ⟨k2 (h,c),List.mem_map.mpr ⟨_,hm,rfl⟩,decide_eq_true rfl⟩
theorem put_k2 {l:List (Int × Int)} {h c:Int} (hm:(h,c) ∉ l):vc (l.map k2) [h,c] (.bl true)=(l ++ [(h,c)]).map k2:=by
 unfold vc
 have e:((l.map k2).any fun p=>decide (p.1=[h,c]))=false:=by
  rw [List.any_eq_false];intro x hx e;obtain ⟨y,hy,rfl⟩:=List.mem_map.mp hx;have e:=of_decide_eq_true e;have e:[y.1,y.2]=[h,c]:=e;cases e;exact hm hy
 rw [e,List.map_append];rfl
theorem jip {neg:Bool} {j:Nat} {l:List (Int × Int)} {h c:Int} (hj:M.g j=some (.dtv (l.map k2))):jdU neg M [.int h,.int c] (.ref j)=some (.bl (if neg then !decide ((h,c) ∈ l) else decide ((h,c) ∈ l))):=by
 unfold jdU;simp only [hj];show (if (2:Nat)<=sizeLine then some (PV.bl (if neg=true then !(xa (l.map k2) [h,c]).isSome else (xa (l.map k2) [h,c]).isSome)) else none)=_;rw [if_pos (by decide),get_k2]
theorem jgM {neg:Bool} {dk:DA} {do_:DE} {ρ:En} {j:Nat} {l:List (Int × Int)} {h c:Int} (hk:dk ρ M = .ok [.int h,.int c] M) (ho:do_ ρ M = .ok (.ref j) M) (hj:M.g j=some (.dtv (l.map k2))):uu neg dk do_ ρ M = .ok (.bl (if neg then !decide ((h,c) ∈ l) else decide ((h,c) ∈ l))) M:=by
 unfold uu;rw [hk];simp only [Res.bind_ok];rw [if_pos (show [PV.int h,PV.int c].length<=sizeLine from (show (2:Nat)<=sizeLine by decide)),ho];simp only [Res.bind_ok,jip hj]
theorem get_ks (l:List ((Int × Int) × Int)) (h c:Int):(xa (l.map ks) [h,c]).isSome=decide ((h,c) ∈ l.map (·.1)):=by
 unfold xa;rw [Option.isSome_map,Bool.eq_iff_iff,List.find?_isSome,decide_eq_true_eq];constructor
 ·rintro ⟨x,hx,e⟩;obtain ⟨y,hy,rfl⟩:=List.mem_map.mp hx;have e:[y.1.1,y.1.2]=[h,c]:=of_decide_eq_true e
  injection e with e1 e2
  injection e2 with e2 _
  exact List.mem_map.mpr ⟨y,hy,Prod.ext e1 e2⟩
 ·intro hm;obtain ⟨y,hy,e⟩:=List.mem_map.mp hm;exact ⟨ks y,List.mem_map.mpr ⟨_,hy,rfl⟩,decide_eq_true (by show [y.1.1,y.1.2]=_; rw [e])⟩
theorem jgN {neg:Bool} {dk:DA} {do_:DE} {ρ:En} {j:Nat} {l:List ((Int × Int) × Int)} {h c:Int} (hk:dk ρ M = .ok [.int h,.int c] M) (ho:do_ ρ M = .ok (.ref j) M) (hj:M.g j=some (.dtv (l.map ks))):uu neg dk do_ ρ M = .ok (.bl (if neg then !decide ((h,c) ∈ l.map (·.1)) else decide ((h,c) ∈ l.map (·.1)))) M:=by
 have e:jdU neg M [.int h,.int c] (.ref j)=some (.bl (if neg then !decide ((h,c) ∈ l.map (·.1)) else decide ((h,c) ∈ l.map (·.1)))):=by
  unfold jdU;simp only [hj];show (if (2:Nat)<=sizeLine then some (PV.bl (if neg=true then !(xa (l.map ks) [h,c]).isSome else (xa (l.map ks) [h,c]).isSome)) else none)=_;rw [if_pos (by decide),get_ks]
 unfold uu;rw [hk];simp only [Res.bind_ok];rw [if_pos (show [PV.int h,PV.int c].length<=sizeLine from (show (2:Nat)<=sizeLine by decide)),ho];simp only [Res.bind_ok,e]
theorem jbJ (P:Pu M i lo n s fs dl es gs q) {h c:Int} (hh:h ∈ hon n fs) (c0:1<=c) (c1:c<=99):xA [.ref i,.int h,.int c] M = .ok (.bl (decide ((h,c) ∈ q.wr))) M:=by
 refine jY (ρ:=[some (.ref i),some (.int h),some (.int c)]) rfl rfl ?_;unfold d_zap;refine yB (v:=.non) (M1:=M) ?_ ?_
 ·rw [P.mth (xs:=[.int h]) (zs:=[]) (M1:=M) (M2:=M) rfl rfl rfl rfl];exact jdf P hh
 refine jR ?_;unfold Jz;simp only [jW,jr,jC,jI,jx,Res.bind_ok];rw [show Uq (yq 1 0 [Sl.p 0] [] [PV.int c] []) M=_ from is_r c0 c1];simp only [Res.bind_ok];exact jgM (neg:=false) rfl (P.fld (x:="written") (d:=yd 0) rfl rfl) P.wt
theorem jie {c:Nat} {x:T3} (h:M.g c=some (.ins 10 [])):XE [.ref c,.int x.1,.int x.2.1,.int x.2.2] M = .ok .non (M.set c (.ins 10 (ltF (x,none)))):=by
 show fin (jgG [some (.ref c),some (.int x.1),some (.int x.2.1),some (.int x.2.2)] M)=_;unfold jgG;refine jiu (ρ:=[some (.ref c),some (.int x.1),some (.int x.2.1),some (.int x.2.2)]) ?_;refine vR (v:=.int x.1) (Ma:=M) (i:=c) rfl rfl h (by decide) ?_;refine vR (v:=.int x.2.1) (Ma:=M.set c (.ins 10 (yW "sender" (.int x.1) []))) (i:=c) rfl rfl Sto.set_same (show 1 < 1000 by decide) ?_;rw [UH];refine vR (v:=.int x.2.2) (Ma:=M.set c (.ins 10 (yW "house" (.int x.2.1) (yW "sender" (.int x.1) [])))) (i:=c) rfl rfl Sto.set_same (show 2 < 1000 by decide) ?_;rw [UH];rw [Jm (v:=.non) (Ma:=M.set c (.ins 10 (yW "what" (.int x.2.2) (yW "house" (.int x.2.1) (yW "sender" (.int x.1) []))))) (i:=c) rfl rfl Sto.set_same (show 3 < 1000 by decide),UH];rfl
theorem lt_new {x:T3}:made 10 XE (fun y=>[y,.int x.1,.int x.2.1,.int x.2.2]) M = .ok (.ref M.n) (M.new (.ins 10 (ltF (x,none)))):=by
 unfold made;rw [jie (M:=M.new (.ins 10 [])) Sto.new_same,jib]
theorem jct (P:Pu M i lo n s fs dl es gs q) (hl:es.length<=90000) (x:T3):∃ M',XD [.ref i,.int x.1,.int x.2.1,.int x.2.2] M = .ok .non M'∧Pu M' i lo n s fs dl (es ++ [(M.n,(x,none))]) gs ⟨q.wr,q.gt,q.st,q.ls ++ [(x,none)],q.bt⟩∧Fr M M' i M.n:=by
 obtain ⟨M1,e1⟩:∃ M1,M1=M.new (.ins 10 (ltF (x,none))):=⟨_,rfl⟩
 obtain ⟨M2,e2⟩:∃ M2,M2=M1.set (i + 1) (.lst ((es ++ [(M.n,(x,none))]).map fun e:Nat × TL=>PV.ref e.1)):=⟨_,rfl⟩
 have a:=P.li;have b:=P.ln
 have gj:∀ j,j≠i + 1->j≠M.n->M2.g j=M.g j:=fun j h1 h2=>by rw [e2,Sto.set_ne h1,e1,Sto.new_ne h2]
 have n2:M2.n=M.n + 1:=by rw [e2,e1]; rfl
 refine ⟨M2,?_,⟨by rw [gj _ (by omega) (by omega)]; exact P.pu,by rw [e2,Sto.set_same],by rw [gj _ (by omega) (by omega)]; exact P.go,by rw [gj _ (by omega) (by omega)]; exact P.wt,by rw [gj _ (by omega) (by omega)]; exact P.sk,fun e he=>?_,List.pairwise_append.mpr ⟨P.ed,List.pairwise_singleton _ _,fun y hy z hz=>?_⟩,fun e he=>?_,P.gd,P.gk,P.gc,by rw [List.map_append,P.le]; rfl,a,by omega⟩,Fr.mk0 (by omega) fun j h1 h2=>gj j (by omega) (by omega)⟩
 ·refine yX (ρ:=[some (.ref i),some (.int x.1),some (.int x.2.1),some (.int x.2.2)]) (ρ':=[some (.ref i),some (.int x.1),some (.int x.2.1),some (.int x.2.2)]) rfl rfl ?_;unfold d_zbb;refine yV (v:=.non) ?_;refine jgL (x:=.ref (i + 1)) (M1:=M) (M2:=M1) (xs:=[.ref M.n]) (P.fld (x:="on_way") (d:=yd 0) rfl rfl) (Jf P.ow) ?_ ?_
  ·rw [jr];unfold jch;simp only [jr,jC,jI,jx,Res.bind_ok];rw [show made 10 XE (fun y=>yq 4 0 [Sl.p 0,Sl.p 1,Sl.p 2,Sl.p 3] [] [y,PV.int x.1,.int x.2.1,.int x.2.2] []) M=_ from lt_new];simp only [Res.bind_ok];rw [e1]
  ·rw [app_of (M:=M1) (xs:=es.map fun e:Nat × TL=>PV.ref e.1) (by rw [e1,Sto.new_ne (by omega)]; exact P.ow) (by rw [List.length_map]; exact szB (by omega)),e2,List.map_append];rfl
 ·rcases List.mem_append.mp he with he | he
  ·obtain ⟨h1,h2,h3⟩:=P.el e he;exact ⟨h1,by omega,by rw [gj _ (by omega) (by omega)]; exact h3⟩
  ·rw [List.mem_singleton.mp he];exact ⟨b,by rw [n2]; exact Nat.lt_succ_self _,by rw [e2,Sto.set_ne (by show M.n≠i + 1; omega),e1]; exact Sto.new_same⟩
 ·rw [List.mem_singleton.mp hz]
  have:=(P.el y hy).2.1
  show y.1≠M.n;omega
 ·obtain ⟨h1,h2,h3⟩:=P.gl e he;exact ⟨h1,by omega,by rw [gj _ (by omega) (by omega)]; exact h3⟩
end

section
variable {M M':Sto} {i lo n:Nat} {s:Int} {fs:List Int} {dl:Int} {es:List (Nat × TL)} {gs:List (Nat × Int × Int)} {q:Ps}
theorem Pu.elen (P:Pu M i lo n s fs dl es gs q):es.length=q.ls.length:=by rw [<- P.le,List.length_map]
theorem Pu.setw (P:Pu M i lo n s fs dl es gs q) (l:List (Int × Int)):Pu (M.set (i + 3) (.dtv (l.map k2))) i lo n s fs dl es gs ⟨l,q.gt,q.st,q.ls,q.bt⟩∧Fr M (M.set (i + 3) (.dtv (l.map k2))) i M.n:=by
 have a:=P.li;have b:=P.ln;have gj:∀ j,j≠i + 3->(M.set (i + 3) (.dtv (l.map k2))).g j=M.g j:=fun j h=>Sto.set_ne h;refine ⟨⟨by rw [gj _ (by omega)]; exact P.pu,by rw [gj _ (by omega)]; exact P.ow,by rw [gj _ (by omega)]; exact P.go,Sto.set_same,by rw [gj _ (by omega)]; exact P.sk,fun e he=>?_,P.ed,fun e he=>?_,P.gd,P.gk,P.gc,P.le,a,b⟩,Fr.mk0 (Nat.le_refl _) fun j h1 h2=>gj j (by omega)⟩
 ·obtain ⟨h1,h2,h3⟩:=P.el e he;exact ⟨h1,h2,by rw [gj _ (by omega)]; exact h3⟩
 ·obtain ⟨h1,h2,h3⟩:=P.gl e he;exact ⟨h1,h2,by rw [gj _ (by omega)]; exact h3⟩
theorem Pu.setk (P:Pu M i lo n s fs dl es gs q) (l:List ((Int × Int) × Int)):Pu (M.set (i + 4) (.dtv (l.map ks))) i lo n s fs dl es gs ⟨q.wr,q.gt,l,q.ls,q.bt⟩∧Fr M (M.set (i + 4) (.dtv (l.map ks))) i M.n:=by
 have a:=P.li;have b:=P.ln;have gj:∀ j,j≠i + 4->(M.set (i + 4) (.dtv (l.map ks))).g j=M.g j:=fun j h=>Sto.set_ne h;refine ⟨⟨by rw [gj _ (by omega)]; exact P.pu,by rw [gj _ (by omega)]; exact P.ow,by rw [gj _ (by omega)]; exact P.go,by rw [gj _ (by omega)]; exact P.wt,Sto.set_same,fun e he=>?_,P.ed,fun e he=>?_,P.gd,P.gk,P.gc,P.le,a,b⟩,Fr.mk0 (Nat.le_refl _) fun j h1 h2=>gj j (by omega)⟩
 ·obtain ⟨h1,h2,h3⟩:=P.el e he;exact ⟨h1,h2,by rw [gj _ (by omega)]; exact h3⟩
 ·obtain ⟨h1,h2,h3⟩:=P.gl e he;exact ⟨h1,h2,by rw [gj _ (by omega)]; exact h3⟩
theorem jeY {j:Nat} {l:List (Int × Int)} {h c:Int} (hj:M.g j=some (.dtv (l.map k2))) (hl:l.length<=90000) (hm:(h,c) ∉ l):VI M (.ref j) [.int h,.int c] (.bl true)=some (M.set j (.dtv ((l ++ [(h,c)]).map k2))):=by
 unfold VI;simp only [hj];show (if (2:Nat)<=sizeLine∧(l.map k2).length < sizeLine then some (M.set j (.dtv (vc (l.map k2) [h,c] (.bl true)))) else none)=_;rw [if_pos ⟨by decide,by rw [List.length_map]; exact szB (by omega)⟩,put_k2 hm]
theorem jdy {d do_:DE} {dk:DA} {ρ:En} {j:Nat} {l:List (Int × Int)} {h c:Int} (hd:d ρ M = .ok (.bl true) M) (ho:do_ ρ M = .ok (.ref j) M) (hk:dk ρ M = .ok [.int h,.int c] M) (hj:M.g j=some (.dtv (l.map k2))) (hl:l.length<=90000) (hm:(h,c) ∉ l):JM d do_ dk ρ M = .nx ρ (M.set j (.dtv ((l ++ [(h,c)]).map k2))):=by
 unfold JM;rw [hd];simp only [Res.st_ok];rw [ho];simp only [Res.st_ok];rw [hk];simp only [Res.st_ok,jeY hj hl hm]
theorem XQ (a c:Int):∀ (xs:List Int) (M:Sto) (es:List (Nat × TL)) (q:Ps) (x3:Option PV),Pu M i lo n s fs dl es gs q->q.ls.length + xs.length<=90000->∃ ρ' M' es',xN (gN 3) xW (xs.map PV.int) [some (.ref i),some (.int a),some (.int c),x3] M = .nx ρ' M'∧Pu M' i lo n s fs dl es' gs ⟨q.wr,q.gt,q.st,q.ls ++ xs.map fun o=>((a,o,c),none),q.bt⟩∧Fr M M' i M.n
 | [],M,es,q,x3,P,_=>⟨_,M,es,rfl,by rw [List.map_nil,List.append_nil]; exact P,.refl _ _ _⟩
 | x :: xs,M,es,q,x3,P,hl=>by
  rw [List.length_cons] at hl;obtain ⟨M1,e1,P1,f1⟩:=jct P (by rw [P.elen]; omega) (a,x,c);obtain ⟨ρ',M2,es2,e2,P2,f2⟩:=XQ a c xs M1 _ _ (some (.int x)) P1 (by show (q.ls ++ [_]).length + _<=_; rw [List.length_append]; show q.ls.length + 1 + _<=_; omega);refine ⟨ρ',M2,es2,?_,?_,f1.tr f2⟩
  ·have eb:xW [some (.ref i),some (.int a),some (.int c),some (.int x)] M = .nx [some (.ref i),some (.int a),some (.int c),some (.int x)] M1:=by
    unfold xW;refine yV (v:=.non) ?_;rw [P.mth (xs:=[.int a,.int x,.int c]) (zs:=[]) (M1:=M) (M2:=M) rfl rfl rfl rfl];exact e1
   rw [List.map_cons];unfold xN
   show (match xW [some (.ref i),some (.int a),some (.int c),some (.int x)] M with
    | .nx ρ2 M2=>xN (gN 3) xW (xs.map PV.int) ρ2 M2
    | .ct ρ2 M2=>xN (gN 3) xW (xs.map PV.int) ρ2 M2
    | .bk ρ2 M2=>.nx ρ2 M2
    | r=>r)=_
   rw [eb];exact e2
  ·have:(q.ls ++ (x :: xs).map fun o=>(((a,o,c),none):TL))=(q.ls ++ [((a,x,c),none)]) ++ xs.map fun o=>((a,o,c),none):=by simp
   rw [this];exact P2
theorem wall_p (P:Pu M i lo n s fs dl es gs q) (hn:n<=40) (hl:q.ls.length<=80000) (a c:Int):∃ M' es',jbA [.ref i,.int a,.int c] M = .ok .non M'∧Pu M' i lo n s fs dl es' gs ⟨q.wr,q.gt,q.st,q.ls ++ (hon n fs).map fun o=>((a,o,c),none),q.bt⟩∧Fr M M' i M.n:=by
 have hh:(hon n fs).length<=40:=Nat.le_trans (List.length_filter_le _ _) (by rw [List.length_map,List.length_range]; exact hn);obtain ⟨ρ',M1,es1,e1,P1,f1⟩:=XQ (i:=i) (lo:=lo) (n:=n) (s:=s) (fs:=fs) (dl:=dl) (gs:=gs) a c (hon n fs) M es q none P (by omega);refine ⟨M1,es1,?_,P1,f1⟩
 have nox:∀ {r:Res PV},r = .ok .non M1->r.noX = .ok .non M1:=fun h=>by rw [h]; rfl
 refine nox (yX (ρ:=[some (.ref i),some (.int a),some (.int c),none]) (ρ':=ρ') rfl rfl ?_);unfold d_zai
 have h1:dIt (yw 13 "honest" Uv 1 0 [.p 0] [] (yd 0) ye ye) [some (.ref i),some (.int a),some (.int c),none] M = .ok (.fix ((hon n fs).map PV.int)) M:=by
  refine uH ?_;rw [P.mth (xs:=[]) (zs:=[]) (M1:=M) (M2:=M) rfl rfl rfl rfl];exact jfX P hn
 rw [ue h1,e1]
theorem jaw (P:Pu M i lo n s fs dl es gs q) (hn:n<=40) (hl:q.ls.length<=80000) (hw:q.wr.length<=80000) {h c:Int} (hm:(h,c) ∉ q.wr):∃ M' es',Yl [.ref i,.int h,.int c] M = .ok .non M'∧Pu M' i lo n s fs dl es' gs (q.say (hon n fs) (h,c))∧Fr M M' i M.n:=by
 obtain ⟨P1,f1⟩:=P.setw (q.wr ++ [(h,c)])
 obtain ⟨M1,hM1⟩:∃ M1,M1=M.set (i + 3) (.dtv ((q.wr ++ [(h,c)]).map k2)):=⟨_,rfl⟩
 rw [<- hM1] at P1 f1;obtain ⟨M2,es2,e2,P2,f2⟩:=wall_p P1 hn hl h c;refine ⟨M2,es2,?_,P2,f1.tr f2⟩;refine yX (ρ:=[some (.ref i),some (.int h),some (.int c)]) (ρ':=[some (.ref i),some (.int h),some (.int c)]) rfl rfl ?_;unfold d_zaj;unfold yh;rw [jdy (j:=i + 3) (l:=q.wr) (h:=h) (c:=c) rfl (P.fld (x:="written") (d:=yd 0) rfl rfl) rfl P.wt (by omega) hm,<- hM1];show yn _ [some (.ref i),some (.int h),some (.int c)] M1=_;refine yV (v:=.non) ?_;rw [P1.mth (xs:=[.int h,.int c]) (zs:=[]) (M1:=M1) (M2:=M1) rfl rfl rfl rfl];exact e2
theorem jhs (P:Pu M i lo n s fs dl es gs q) (hn:n<=40) (hl:q.ls.length<=80000) (hw:q.wr.length<=80000) {h c:Int} (hh:h ∈ hon n fs) (c0:1<=c) (c1:c<=99) (hm:(h,c) ∉ q.wr):∃ M' es',Uu [.ref i,.int h,.int c] M = .ok .non M'∧Pu M' i lo n s fs dl es' gs (q.say (hon n fs) (h,c))∧Fr M M' i M.n:=by
 obtain ⟨M2,es2,e2,P2,f2⟩:=jaw P hn hl hw hm;refine ⟨M2,es2,?_,P2,f2⟩;refine yX (ρ:=[some (.ref i),some (.int h),some (.int c)]) (ρ':=[some (.ref i),some (.int h),some (.int c)]) rfl rfl ?_;unfold d_zaz;refine yB (v:=.non) (M1:=M) ?_ ?_
 ·rw [P.mth (xs:=[.int h]) (zs:=[]) (M1:=M) (M2:=M) rfl rfl rfl rfl];exact jdf P hh
 refine yB (v:=.non) (M1:=M) ?_ ?_
 ·simp only [jW,jr,jC,jI,jx,Res.bind_ok];exact jgT c0 c1
 refine Jk (M1:=M) ?_ ?_
 ·rw [vi,P.mth (xs:=[.int h,.int c]) (zs:=[]) (M1:=M) (M2:=M) rfl rfl rfl rfl];rw [show xA (yq 3 0 [Sl.p 0,Sl.p 1,Sl.p 2] [] [PV.ref i,.int h,.int c] []) M=_ from jbJ P hh c0 c1,decide_eq_false hm];rfl
 refine yV (v:=.non) ?_;rw [P.mth (xs:=[.int h,.int c]) (zs:=[]) (M1:=M) (M2:=M) rfl rfl rfl rfl];exact e2
theorem lie_p (P:Pu M i lo n s fs dl es gs q) (hl:q.ls.length<=80000) {f h c:Int} (hf:f ∈ fs) (f0:0<=f) (f1:f < n) (hh:h ∈ hon n fs) (c0:1<=c) (c1:c<=99):∃ M' es',XA [.ref i,.int f,.int h,.int c] M = .ok .non M'∧Pu M' i lo n s fs dl es' gs ⟨q.wr,q.gt,q.st,q.ls ++ [((f,h,c),none)],q.bt⟩∧Fr M M' i M.n:=by
 obtain ⟨M2,e2,P2,f2⟩:=jct P (by rw [P.elen]; omega) (f,h,c);refine ⟨M2,_,?_,P2,f2⟩;refine yX (ρ:=[some (.ref i),some (.int f),some (.int h),some (.int c)]) (ρ':=[some (.ref i),some (.int f),some (.int h),some (.int c)]) rfl rfl ?_;unfold d_zbn;refine yB (v:=.non) (M1:=M) ?_ ?_
 ·rw [P.mth (xs:=[.int f]) (zs:=[]) (M1:=M) (M2:=M) rfl rfl rfl rfl];exact chk_l P hf f0 f1
 refine yB (v:=.non) (M1:=M) ?_ ?_
 ·rw [P.mth (xs:=[.int h]) (zs:=[]) (M1:=M) (M2:=M) rfl rfl rfl rfl];exact jdf P hh
 refine yB (v:=.non) (M1:=M) ?_ ?_
 ·simp only [jW,jr,jC,jI,jx,Res.bind_ok];exact jgT c0 c1
 refine yV (v:=.non) ?_;rw [P.mth (xs:=[.int f,.int h,.int c]) (zs:=[]) (M1:=M) (M2:=M) rfl rfl rfl rfl];exact e2
theorem row_p {j:Nat} {x:TL} (h:M.g j=some (.ins 10 (ltF x))):jbu [.ref j] M = .ok (p3 x.1) M:=by
 refine jY (ρ:=[some (.ref j)]) rfl rfl ?_;unfold d_zbd;refine jR ?_;simp only [jda,jr,jx,jS (x:="sender") (d:=yd 0) (ρ:=[some (.ref j)]) (v:=.int x.1.1) rfl h rfl,jS (x:="house") (d:=yd 0) (ρ:=[some (.ref j)]) (v:=.int x.1.2.1) rfl h rfl,jS (x:="what") (d:=yd 0) (ρ:=[some (.ref j)]) (v:=.int x.1.2.2) rfl h rfl,Res.bind_ok];exact if_pos (show (3:Nat)<=sizeLine by decide)
end

section
variable {M M':Sto} {i lo n:Nat} {s:Int} {fs:List Int} {dl:Int} {es:List (Nat × TL)} {gs:List (Nat × Int × Int)} {q:Ps}
theorem jeW {α:Type} {R:α->α->Prop} (hs:∀ a b,R a b->R b a):∀ {l:List α},l.Pairwise R->∀ {x y:α},x ∈ l->y ∈ l->x≠y->R x y
 | [],_,_,_,hx,_,_=>by cases hx
 | a :: l,h,x,y,hx,hy,hne=>by
  obtain ⟨h1,h2⟩:=List.pairwise_cons.mp h
  rcases List.mem_cons.mp hx with rfl | hx1
  ·rcases List.mem_cons.mp hy with rfl | hy
   ·exact absurd rfl hne
   ·exact h1 _ hy
  ·rcases List.mem_cons.mp hy with rfl | hy
   ·exact hs _ _ (h1 _ hx1)
   ·exact jeW hs h2 hx1 hy hne
theorem jgd (gs:List (Nat × Int × Int)) (o c:Int):(∃ e ∈ gs,e.2=(o,c)∧xa (gs.map kg) [o,c]=some (.ref e.1))∨((∀ e ∈ gs,e.2≠(o,c))∧xa (gs.map kg) [o,c]=none):=by
 induction gs with
 | nil=>exact .inr ⟨fun e he=>(by cases he),rfl⟩
 | cons g gs ih =>
  by_cases h:g.2=(o,c)
  ·refine .inl ⟨g,List.mem_cons_self,h,?_⟩;unfold xa;rw [List.map_cons,List.find?_cons,decide_eq_true (show (kg g).1=[o,c] by show [g.2.1,g.2.2]=_; rw [h])];rfl
  ·have hk:(kg g).1≠[o,c]:=fun z=>h (by
    have z:[g.2.1,g.2.2]=[o,c]:=z
    injection z with z1 z2
    injection z2 with z2 _
    exact Prod.ext z1 z2)
   have e:xa ((g :: gs).map kg) [o,c]=xa (gs.map kg) [o,c]:=by
    unfold xa;rw [List.map_cons,List.find?_cons,decide_eq_false hk]
   rw [e]
   rcases ih with ⟨x,hx,h1,h2⟩ | ⟨h1,h2⟩
   ·exact .inl ⟨x,List.mem_cons_of_mem _ hx,h1,h2⟩
   ·exact .inr ⟨fun x hx=>by
     rcases List.mem_cons.mp hx with rfl | hx
     ·exact h
     ·exact h1 x hx,h2⟩
theorem YB (q:Ps) (p:Int × Int):(vm q.gt p).length=q.many p:=List.length_map ..
theorem JI {gt:List T3} {p:Int × Int} (h:∀ t ∈ gt,t.2≠p):vm gt p=[]:=by
 unfold vm;rw [List.filter_eq_nil_iff.mpr (fun t ht z=>h t ht (of_decide_eq_true z))];rfl
theorem YC (q:Ps) (t:T3) (p:Int × Int):vm (q.add t).gt p=if p=t.2 then vc (vm q.gt p) t.1 (.bl true) else vm q.gt p:=by
 unfold Ps.add
 by_cases ht:t ∈ q.gt
 ·rw [if_pos ht];split
  ·rename_i hp;subst hp;unfold vc;have h1:((vm q.gt t.2).any fun p=>decide (p.1=t.1))=true:=List.any_eq_true.mpr ⟨(t.1,.bl true),List.mem_map.mpr ⟨t,List.mem_filter.mpr ⟨ht,decide_eq_true rfl⟩,rfl⟩,decide_eq_true rfl⟩;rw [if_pos h1]
   have:∀ x ∈ vm q.gt t.2,(if x.1=t.1 then (x.1,PV.bl true) else x)=x:=fun x hx=>by
    obtain ⟨y,_,rfl⟩:=List.mem_map.mp hx;split <;> rfl
   rw [List.map_congr_left this,List.map_id']
  ·rfl
 ·rw [if_neg ht];show vm (q.gt ++ [t]) p=_
  have ea:vm (q.gt ++ [t]) p=vm q.gt p ++ vm [t] p:=by
   unfold vm;rw [List.filter_append,List.map_append]
  rw [ea];split
  ·rename_i hp;subst hp;unfold vc
   have h1:((vm q.gt t.2).any fun p=>decide (p.1=t.1))=false:=by
    rw [List.any_eq_false];intro x hx e;obtain ⟨y,hy,rfl⟩:=List.mem_map.mp hx;obtain ⟨hy1,hy2⟩:=List.mem_filter.mp hy;have e:y.1=t.1:=of_decide_eq_true e;exact ht (by rw [show t=y from Prod.ext e.symm (of_decide_eq_true hy2).symm]; exact hy1)
   have h2:vm [t] t.2=[(t.1,.bl true)]:=by
    unfold vm
    have:[t].filter (fun x=>decide (x.2=t.2))=[t]:=by simp
    rw [this];rfl
   rw [h1,h2];rfl
  ·rename_i hp
   have h2:vm [t] p=[]:=JI fun x hx=>by rw [List.mem_singleton.mp hx]; exact fun z=>hp z.symm
   rw [h2,List.append_nil]
theorem Pu.garb (P:Pu M i lo n s fs dl es gs q) (c:Cell):Pu (M.new c) i lo n s fs dl es gs q∧Fr M (M.new c) i M.n:=by
 have a:=P.li;have b:=P.ln;exact ⟨P.off (Nat.le_succ _) fun j h=>Sto.new_ne (by omega),Fr.mk0 (Nat.le_succ _) fun j h1 h2=>Sto.new_ne (by omega)⟩
theorem many_p (P:Pu M i lo n s fs dl es gs q) (o c:Int):∃ M',jbx [.ref i,.int o,.int c] M = .ok (.int (q.many (o,c))) M'∧Pu M' i lo n s fs dl es gs q∧Fr M M' i M.n:=by
 obtain ⟨P1,f1⟩:=P.garb (.dkv []);refine ⟨_,?_,P1,f1⟩;have b:=P.ln;refine jY (ρ:=[some (.ref i),some (.int o),some (.int c)]) rfl rfl ?_;unfold d_zas;refine jR ?_
 have eg:∀ {x:PV},x=(xa (gs.map kg) [o,c]).getD (.ref M.n)->jah (yo 13 "got" (yd 0)) (jb (yd 1) (jb (yd 2) ye)) jbk [some (.ref i),some (.int o),some (.int c)] M = .ok x (M.new (.dkv [])):=fun {x} hx=>by
  unfold jah;rw [P.fld (x:="got") (v:=.ref (i + 2)) (d:=yd 0) (ρ:=[some (.ref i),some (.int o),some (.int c)]) rfl rfl];simp only [Res.bind_ok,P.go,jr,jC,jI,jx];show (if (2:Nat)<=sizeLine then (jbk [some (.ref i),some (.int o),some (.int c)] M).bind _ else _)=_;rw [if_pos (by decide)]
  show (match (M.new (.dkv [])).g (i + 2) with
    | some (.dtv l)=>Res.ok ((xa l [o,c]).getD (.ref M.n)) (M.new (.dkv []))
    | _=>.bad)=_
  rw [P1.go,hx]
 rcases jgd gs o c with ⟨e,he,h1,h2⟩ | ⟨h1,h2⟩
 ·refine xk (eg (x:=.ref e.1) (by rw [h2]; rfl)) ?_;obtain ⟨a1,a2,a3⟩:=P1.gl e he;unfold jaZ;simp only [a3];rw [YB,h1]
 ·refine xk (eg (x:=.ref M.n) (by rw [h2]; rfl)) ?_;unfold jaZ;simp only [Sto.new_same]
  have:q.many (o,c)=0:=by
   rw [<- YB,JI fun t ht z=>by
    obtain ⟨e,he,e2⟩:=P.gc t ht
    exact h1 e he (e2.trans z)]
   rfl
  rw [this];rfl
theorem jff {j k:Nat} {xs:List PV} {y:PV} (h:M.g j=some (.lst xs)) (hy:xs[k]? = some y) (hl:xs.length<=100000):Xh M (.ref j) [.int k]=some (y,M.set j (.lst (xs.eraseIdx k))):=by
 unfold Xh
 have:Ug M (.ref j)=some (j,xs):=by
  show (match M.g j with
   | some (.lst xs)=>some (j,xs)
   | _=>none)=_
  rw [h]
 rw [this];obtain ⟨hk,_⟩:=List.getElem?_eq_some_iff.mp hy;simp only [];rw [if_pos ⟨by omega,by omega,by omega⟩,Int.toNat_natCast,hy];rfl
theorem xH {α:Type} {x:α} {l:List α} {k:Nat} (h:x ∈ l.eraseIdx k):x ∈ l:=List.mem_of_mem_eraseIdx h
theorem JQ {α β:Type} (f:α->β):∀ (l:List α) (k:Nat),(l.map f).eraseIdx k=(l.eraseIdx k).map f
 | [],_=>rfl
 | _ :: _,0=>rfl
 | x :: l,k + 1=>by
  show f x :: (l.map f).eraseIdx k=f x :: (l.eraseIdx k).map f;rw [JQ f l k]
theorem Pu.pop (P:Pu M i lo n s fs dl es gs q) (k:Nat):Pu (M.set (i + 1) (.lst ((es.eraseIdx k).map fun e=>PV.ref e.1))) i lo n s fs dl (es.eraseIdx k) gs ⟨q.wr,q.gt,q.st,q.ls.eraseIdx k,q.bt⟩∧Fr M (M.set (i + 1) (.lst ((es.eraseIdx k).map fun e=>PV.ref e.1))) i M.n:=by
 have a:=P.li;have b:=P.ln;have gj:∀ j,j≠i + 1->(M.set (i + 1) (.lst ((es.eraseIdx k).map fun e=>PV.ref e.1))).g j=M.g j:=fun j h=>Sto.set_ne h;refine ⟨⟨by rw [gj _ (by omega)]; exact P.pu,Sto.set_same,by rw [gj _ (by omega)]; exact P.go,by rw [gj _ (by omega)]; exact P.wt,by rw [gj _ (by omega)]; exact P.sk,fun e he=>?_,P.ed.sublist (List.eraseIdx_sublist _ _),fun e he=>?_,P.gd,P.gk,P.gc,by show _=q.ls.eraseIdx k; rw [<- P.le,JQ],a,b⟩,Fr.mk0 (Nat.le_refl _) fun j h1 h2=>gj j (by omega)⟩
 ·obtain ⟨h1,h2,h3⟩:=P.el e (xH he);exact ⟨h1,h2,by rw [gj _ (by omega)]; exact h3⟩
 ·obtain ⟨h1,h2,h3⟩:=P.gl e he;exact ⟨h1,h2,by rw [gj _ (by omega)]; exact h3⟩
theorem take_p (P:Pu M i lo n s fs dl es gs q) (hl:q.ls.length<=80000) (hg:gs.length<=80000) (hq:q.gt.length<=80000) {k:Nat} {t:T3} {d0:Option Int} (hk:q.ls[k]? = some (t,d0)):∃ j M' gs',Us [.ref i,.int k] M = .ok (.ref j) M'∧Pu M' i lo n s fs dl (es.eraseIdx k) gs' ((⟨q.wr,q.gt,q.st,q.ls.eraseIdx k,q.bt⟩:Ps).add t)∧Fr M M' i lo∧M'.g j=some (.ins 10 (ltF (t,d0)))∧lo<=j∧j < M'.n∧gs'.length<=gs.length + 1:=by
 have a:=P.li;have b:=P.ln;obtain ⟨kl,_⟩:=List.getElem?_eq_some_iff.mp hk
 have hk2:(es.map (·.2))[k]? = some (t,d0):=by rw [P.le]; exact hk
 rw [List.getElem?_map] at hk2
 obtain ⟨e,he,het⟩:∃ e,es[k]? = some e∧e.2=(t,d0):=by
  cases h:es[k]? with
  | none=>rw [h] at hk2; cases hk2
  | some e=>rw [h] at hk2; exact ⟨e,rfl,Option.some.inj hk2⟩
 obtain ⟨e1,e2,e3⟩:=P.el e (List.mem_of_getElem? he);rw [het] at e3;obtain ⟨P1,f1⟩:=P.pop k
 obtain ⟨M1,hM1⟩:∃ M1,M1=M.set (i + 1) (.lst ((es.eraseIdx k).map fun e=>PV.ref e.1)):=⟨_,rfl⟩
 rw [<- hM1] at P1 f1
 have n1:M1.n=M.n:=by rw [hM1]; rfl
 have g1:M1.g e.1=some (.ins 10 (ltF (t,d0))):=by rw [hM1,Sto.set_ne (by omega)]; exact e3
 obtain ⟨P2,f2⟩:=P1.garb (.dkv [])
 obtain ⟨M2,hM2⟩:∃ M2,M2=M1.new (.dkv []):=⟨_,rfl⟩
 rw [<- hM2] at P2 f2
 have n2:M2.n=M.n + 1:=by rw [hM2]; show M1.n + 1=_; rw [n1]
 have g2:M2.g e.1=some (.ins 10 (ltF (t,d0))):=by rw [hM2,Sto.new_ne (by omega)]; exact g1
 obtain ⟨q1,hq1⟩:∃ q1:Ps,q1=⟨q.wr,q.gt,q.st,q.ls.eraseIdx k,q.bt⟩:=⟨_,rfl⟩
 rw [<- hq1] at P1 P2 ⊢
 have q1g:q1.gt=q.gt:=by rw [hq1]
 have addw:(q1.add t).wr=q1.wr:=by unfold Ps.add; split <;> rfl
 have adds:(q1.add t).st=q1.st:=by unfold Ps.add; split <;> rfl
 have addl:(q1.add t).ls=q1.ls:=by unfold Ps.add; split <;> rfl
 have addb:(q1.add t).bt=q1.bt:=by unfold Ps.add; split <;> rfl
 have addg:∀ x ∈ (q1.add t).gt,x=t∨x ∈ q1.gt:=fun x hx=>by
  unfold Ps.add at hx;split at hx
  ·exact .inr hx
  ·rcases List.mem_append.mp hx with hx | hx
   ·exact .inr hx
   ·exact .inl (List.mem_singleton.mp hx)
 have slen:(vm q1.gt t.2).length<=80000:=by rw [YB]; unfold Ps.many; exact Nat.le_trans (List.length_filter_le _ _) (by rw [q1g]; exact hq)
 obtain ⟨ρ0,hρ0⟩:∃ ρ0:En,ρ0=[some (.ref i),some (.int k),some (.ref e.1),none]:=⟨_,rfl⟩
 -- all but the last two steps
 have go:∀ {d:Nat} {M3 M4:Sto},Jx (yo 13 "got" (yd 0)) (jb (yo 10 "house" (yd 2)) (jb (yo 10 "what" (yd 2)) ye)) jbk ρ0 M1 = .ok (.ref d) M3->M3.g e.1=some (.ins 10 (ltF (t,d0)))->YR M3 (.ref d) (.int t.1) (.bl true)=some M4->Us [.ref i,.int k] M = .ok (.ref e.1) M4:=fun {d M3 M4} h1 h2 h3=>by
  refine jY (ρ:=[some (.ref i),some (.int k),none,none]) rfl rfl ?_;unfold d_zbo
  have ol:yK M (.ref (i + 1))=some (.int es.length):=by rw [yU (yT P.ow),List.length_map]
  refine Jk (M1:=M) ?_ ?_
  ·have ew:xu [.int k,.int 0,.int ((es.length:Int) - 1)] M = .ok (.bl true) M:=by
    rw [xg (Kd.int _),vt (by omega) (by rw [P.elen]; omega)]
   have el2:dCB (one yK) (jb (yo 13 "on_way" (yd 0)) ye) [some (.ref i),some (.int k),none,none] M = .ok (.int es.length) M:=xk (P.fld (x:="on_way") (d:=yd 0) rfl rfl) ol;have el3:dOp jaW (dCB (one yK) (jb (yo 13 "on_way" (yd 0)) ye)) (dC (.int 1)) [some (.ref i),some (.int k),none,none] M = .ok (.int ((es.length:Int) - 1)) M:=yi el2 rfl rfl;rw [vU,vi,jW];simp only [jr,jC,jI,vj,jx,Res.bind_ok,el3];rw [show xu (yq 3 0 [Sl.p 0,Sl.p 1,Sl.p 2] [] [PV.int k,.int 0,.int ((es.length:Int) - 1)] []) M=_ from ew];rfl
  refine jU (v:=.ref e.1) (M1:=M1) ?_ ?_
  ·refine jgL (x:=.ref (i + 1)) (M1:=M) (M2:=M) (xs:=[.int k]) (P.fld (x:="on_way") (d:=yd 0) rfl rfl) (Jf P.ow) rfl ?_;rw [jff (y:=.ref e.1) P.ow (by rw [List.getElem?_map,he]; rfl) (by rw [List.length_map,P.elen]; omega),JQ,hM1]
  simp only [List.set_cons_succ,List.set_cons_zero];rw [<- hρ0];refine jU (v:=.ref d) (M1:=M3) h1 ?_;rw [hρ0];simp only [List.set_cons_succ,List.set_cons_zero];unfold yh jbK;simp only [vj,jC,jI,Res.st_ok];rw [jS (x:="sender") (v:=.int t.1) (d:=yd 2) (M:=M3) (i:=e.1) rfl h2 rfl];simp only [Res.st_ok,h3];exact jR rfl
 have sd:∀ {r:Res PV},(match xa (gs.map kg) [t.2.1,t.2.2] with
     | some x=>Res.ok x M2
     | none=>.ok (.ref M.n) (M2.set (i + 2) (.dtv (vc (gs.map kg) [t.2.1,t.2.2] (.ref M.n)))))=r->Jx (yo 13 "got" (yd 0)) (jb (yo 10 "house" (yd 2)) (jb (yo 10 "what" (yd 2)) ye)) jbk ρ0 M1=r:=fun {r} hr=>by
  have w1:yo 10 "house" (yd 2) ρ0 M1 = .ok (.int t.2.1) M1:=jS (i:=e.1) (by rw [hρ0]; rfl) g1 rfl;have w2:yo 10 "what" (yd 2) ρ0 M1 = .ok (.int t.2.2) M1:=jS (i:=e.1) (by rw [hρ0]; rfl) g1 rfl;have w3:yo 13 "got" (yd 0) ρ0 M1 = .ok (.ref (i + 2)) M1:=P1.fld (by rw [hρ0]; rfl) rfl;unfold Jx;rw [w3];simp only [Res.bind_ok,P1.go,jr,w1,w2,jx];show (if (2:Nat)<=sizeLine then (jbk ρ0 M1).bind _ else _)=_;rw [if_pos (by decide)]
  show (match (M1.new (.dkv [])).g (i + 2) with
    | some (.dtv l)=>if l.length < sizeLine then (match xa l [t.2.1,t.2.2] with
     | some x=>Res.ok x (M1.new (.dkv []))
     | none=>.ok (.ref M1.n) ((M1.new (.dkv [])).set (i + 2) (.dtv (vc l [t.2.1,t.2.2] (.ref M1.n))))) else .bad
    | _=>.bad)=_
  rw [<- hM2,P2.go];simp only [];rw [if_pos (by rw [List.length_map]; exact szB (by omega)),n1];exact hr
 rcases jgd gs t.2.1 t.2.2 with ⟨x,hx,x1,x2⟩ | ⟨x1,x2⟩
 ·-- a house of which letters of this round have come to it
  obtain ⟨y1,y2,y3⟩:=P2.gl x hx;have xt:x.2=t.2:=x1;rw [xt] at y3
  obtain ⟨M4,hM4⟩:∃ M4,M4=M2.set x.1 (.dkv (vc (vm q1.gt t.2) t.1 (.bl true))):=⟨_,rfl⟩
  have pk:YR M2 (.ref x.1) (.int t.1) (.bl true)=some M4:=by
   unfold YR;simp only [y3];rw [if_pos (szB (by omega)),hM4]
  have gj:∀ j,j≠x.1->M4.g j=M2.g j:=fun j h=>by rw [hM4,Sto.set_ne h]
  have n4:M4.n=M2.n:=by rw [hM4]; rfl
  have nex:e.1≠x.1:=fun z=>by rw [z,y3] at g2; cases g2
  refine ⟨e.1,M4,gs,go (sd (by rw [x2])) g2 pk,⟨by rw [gj _ (by omega),addb]; exact P2.pu,by rw [gj _ (by omega)]; exact P2.ow,by rw [gj _ (by omega)]; exact P2.go,by rw [gj _ (by omega),addw]; exact P2.wt,by rw [gj _ (by omega),adds]; exact P2.sk,fun z hz=>?_,P2.ed,fun z hz=>?_,P.gd,P.gk,fun z hz=>?_,by rw [addl]; exact P2.le,a,by omega⟩,((f1.tr f2).weak b a).trans ⟨by omega,fun j h1 h2=>gj j (by omega),fun j xs h1 h2 e=>by rw [gj j (fun z=>by rw [z,y3] at e; cases e)]; exact e⟩,by rw [gj _ nex]; exact g2,e1,by omega,by omega⟩
  ·obtain ⟨h1,h2,h3⟩:=P2.el z hz;exact ⟨h1,by omega,by rw [gj _ (fun w=>by rw [w,y3] at h3; cases h3)]; exact h3⟩
  ·obtain ⟨h1,h2,h3⟩:=P2.gl z hz;refine ⟨h1,by omega,?_⟩;rw [YC]
   by_cases hz2:z.2=t.2
   ·rw [if_pos hz2,hz2]
    have hzx:z=x:=Classical.byContradiction fun w=>by
     have:=jeW (fun _ _ h z=>h z.symm) P.gk hz hx w
     exact this (hz2.trans xt.symm)
    rw [hzx,hM4,Sto.set_same]
   ·rw [if_neg hz2];have hzx:z.1≠x.1:=jeW (fun _ _ h z=>h z.symm) P.gd hz hx (fun w=>hz2 (by rw [w]; exact xt));rw [gj _ hzx];exact h3
  ·rcases addg z hz with rfl | hz
   ·exact ⟨x,hx,xt⟩
   ·exact P1.gc z hz
 ·-- the first one
  obtain ⟨M3,hM3⟩:∃ M3,M3=M2.set (i + 2) (.dtv ((gs ++ [(M.n,t.2)]).map kg)):=⟨_,rfl⟩
  have g3:M3.g M.n=some (.dkv []):=by rw [hM3,Sto.set_ne (by omega),hM2,<- n1]; exact Sto.new_same
  have ep:vc (gs.map kg) [t.2.1,t.2.2] (.ref M.n)=(gs ++ [(M.n,t.2)]).map kg:=by
   unfold vc
   have:((gs.map kg).any fun p=>decide (p.1=[t.2.1,t.2.2]))=false:=by
    rw [List.any_eq_false];intro y hy w;obtain ⟨z,hz,rfl⟩:=List.mem_map.mp hy;have w:[z.2.1,z.2.2]=[t.2.1,t.2.2]:=of_decide_eq_true w
    injection w with w1 w2
    injection w2 with w2 _
    exact x1 z hz (Prod.ext w1 w2)
   rw [this,List.map_append];rfl
  obtain ⟨M4,hM4⟩:∃ M4,M4=M3.set M.n (.dkv [(t.1,.bl true)]):=⟨_,rfl⟩
  have pk:YR M3 (.ref M.n) (.int t.1) (.bl true)=some M4:=by
   unfold YR;simp only [g3];rw [if_pos (by decide),hM4];rfl
  have n4:M4.n=M2.n:=by rw [hM4,hM3]; rfl
  have gj:∀ j,j≠i + 2->j≠M.n->M4.g j=M2.g j:=fun j h1 h2=>by rw [hM4,Sto.set_ne h2,hM3,Sto.set_ne h1]
  have none1:∀ z ∈ q1.gt,z.2≠t.2:=fun z hz w=>by
   obtain ⟨x,hx,h⟩:=P1.gc z hz;exact x1 x hx (h.trans w)
  refine ⟨e.1,M4,gs ++ [(M.n,t.2)],go (sd (by rw [x2,ep,<- hM3])) (by rw [hM3,Sto.set_ne (by omega)]; exact g2) pk,⟨by rw [gj _ (by omega) (by omega),addb]; exact P2.pu,by rw [gj _ (by omega) (by omega)]; exact P2.ow,by rw [hM4,Sto.set_ne (by omega),hM3,Sto.set_same],by rw [gj _ (by omega) (by omega),addw]; exact P2.wt,by rw [gj _ (by omega) (by omega),adds]; exact P2.sk,fun z hz=>?_,P2.ed,fun z hz=>?_,?_,?_,fun z hz=>?_,by rw [addl]; exact P2.le,a,by omega⟩,((f1.tr f2).weak b a).trans ⟨by omega,fun j h1 h2=>gj j (by omega) (by omega),fun j xs h1 h2 e=>by rw [gj j (by omega) (fun z=>by rw [z,hM2,<- n1,Sto.new_same] at e; cases e)]; exact e⟩,by rw [gj _ (by omega) (by omega)]; exact g2,e1,by omega,by rw [List.length_append]; exact Nat.le_refl _⟩
  ·obtain ⟨h1,h2,h3⟩:=P1.el z hz;obtain ⟨_,_,h4⟩:=P2.el z hz;exact ⟨h1,by omega,by rw [gj _ (by omega) (by omega)]; exact h4⟩
  ·rcases List.mem_append.mp hz with hz | hz
   ·obtain ⟨h1,h2,h3⟩:=P1.gl z hz;obtain ⟨_,_,h4⟩:=P2.gl z hz;refine ⟨h1,by omega,?_⟩;rw [YC,if_neg (x1 z hz),gj _ (by omega) (by omega)];exact h4
   ·rw [List.mem_singleton.mp hz];refine ⟨b,by rw [n4,n2]; exact Nat.lt_succ_self _,?_⟩;show M4.g M.n=some (.dkv (vm (q1.add t).gt t.2));rw [YC,if_pos rfl,JI none1,hM4,Sto.set_same];rfl
  ·refine List.pairwise_append.mpr ⟨P.gd,List.pairwise_singleton _ _,fun y hy z hz=>?_⟩;rw [List.mem_singleton.mp hz]
   have:=(P.gl y hy).2.1
   show y.1≠M.n;omega
  ·refine List.pairwise_append.mpr ⟨P.gk,List.pairwise_singleton _ _,fun y hy z hz=>?_⟩;rw [List.mem_singleton.mp hz];exact x1 y hy
  ·rcases addg z hz with rfl | hz
   ·exact ⟨(M.n,z.2),List.mem_append.mpr (.inr (List.mem_singleton.mpr rfl)),rfl⟩
   ·obtain ⟨x,hx,h⟩:=P1.gc z hz;exact ⟨x,List.mem_append.mpr (.inl hx),h⟩
end

section
variable {M M':Sto} {i lo n:Nat} {s:Int} {fs:List Int} {dl:Int} {es:List (Nat × TL)} {gs:List (Nat × Int × Int)} {q:Ps}
theorem jeZ {j:Nat} {l:List ((Int × Int) × Int)} {h c b:Int} (hj:M.g j=some (.dtv (l.map ks))) (hl:l.length<=90000) (hm:(h,c) ∉ l.map (·.1)):VI M (.ref j) [.int h,.int c] (.int b)=some (M.set j (.dtv ((l ++ [((h,c),b)]).map ks))):=by
 unfold VI;simp only [hj];show (if (2:Nat)<=sizeLine∧(l.map ks).length < sizeLine then some (M.set j (.dtv (vc (l.map ks) [h,c] (.int b)))) else none)=_;rw [if_pos ⟨by decide,by rw [List.length_map]; exact szB (by omega)⟩]
 have e:vc (l.map ks) [h,c] (.int b)=(l ++ [((h,c),b)]).map ks:=by
  unfold vc
  have e:((l.map ks).any fun p=>decide (p.1=[h,c]))=false:=by
   rw [List.any_eq_false];intro x hx e;obtain ⟨y,hy,rfl⟩:=List.mem_map.mp hx;have e:[y.1.1,y.1.2]=[h,c]:=of_decide_eq_true e
   injection e with e1 e2
   injection e2 with e2 _
   exact hm (List.mem_map.mpr ⟨y,hy,Prod.ext e1 e2⟩)
  rw [e,List.map_append];rfl
 rw [e]
theorem jeA (P:Pu M i lo n s fs dl es gs q) (hw:q.st.length<=80000) {h c:Int} (hm:(h,c) ∉ q.st.map (·.1)):∃ M',Ux [.ref i,.int h,.int c] M = .ok .non M'∧Pu M' i lo n s fs dl es gs (q.strike (h,c))∧Fr M M' i M.n:=by
 obtain ⟨P1,f1⟩:=P.setk (q.st ++ [((h,c),q.bt)]);refine ⟨_,?_,P1,f1⟩;refine yX (ρ:=[some (.ref i),some (.int h),some (.int c)]) (ρ':=[some (.ref i),some (.int h),some (.int c)]) rfl rfl ?_;unfold d_zak JM;rw [P.fld (x:="beat") (v:=.int q.bt) (d:=yd 0) (ρ:=[some (.ref i),some (.int h),some (.int c)]) rfl rfl];simp only [Res.st_ok];rw [P.fld (x:="struck") (v:=.ref (i + 4)) (d:=yd 0) (ρ:=[some (.ref i),some (.int h),some (.int c)]) rfl rfl];simp only [Res.st_ok,jr,jC,jI,jx,Res.bind_ok,jeZ P.sk (show q.st.length<=90000 by omega) hm]
theorem jha {t1 t2:DT} {ρ:En} {M M1 M2:Sto} {a b:Bool} (h1:t1 ρ M = .ok a M1) (h2:a=true->t2 ρ M1 = .ok b M2) (h3:a=false->M2=M1):yR t1 t2 ρ M = .ok (a && b) M2:=by
 unfold yR;rw [h1]
 cases a with
 | true=>rw [Bool.true_and]; exact h2 rfl
 | false=>rw [h3 rfl]; rfl
theorem look_p (P:Pu M i lo n s fs dl es gs q) (hn:n<=40) (s5:s<=5) (s0:0<=s) (hl:q.ls.length<=80000) (hw:q.wr.length<=80000) (hk:q.st.length<=80000) {o c:Int} (ho:o ∈ hon n fs) (c0:1<=c) (c1:c<=99):∃ M' es',jbv [.ref i,.int o,.int c] M = .ok .non M'∧Pu M' i lo n s fs dl es' gs ((q.look1 s (hon n fs) (o,c)).look2 s (q.many (o,c)) (o,c))∧Fr M M' i M.n:=by
 obtain ⟨M1,e1,P1,f1⟩:=many_p P o c
 obtain ⟨m,hm⟩:∃ m,m=q.many (o,c):=⟨_,rfl⟩
 rw [<- hm] at e1 ⊢
 obtain ⟨ρ,hρ⟩:∃ ρ:En,ρ=[some (.ref i),some (.int o),some (.int c),some (.int m)]:=⟨_,rfl⟩
 have v0:∀ M,yd 0 ρ M = .ok (.ref i) M:=fun M=>by rw [hρ]; rfl
 have v1:∀ M,yd 1 ρ M = .ok (.int o) M:=fun M=>by rw [hρ]; rfl
 have v2:∀ M,yd 2 ρ M = .ok (.int c) M:=fun M=>by rw [hρ]; rfl
 have v3:∀ M,yd 3 ρ M = .ok (.int m) M:=fun M=>by rw [hρ]; rfl
 have kk:∀ M,jb (yd 1) (jb (yd 2) ye) ρ M = .ok [.int o,.int c] M:=fun M=>by
  simp only [jr,v1,v2,jx,Res.bind_ok]
 -- the first question
 have t1:yR (yg (dOp gGt (yd 3) (yo 13 "few" (yd 0)))) (vV (vH (yw 13 "has_said" xA 3 0 [.p 0,.p 1,.p 2] [] (yd 0) (jb (yd 1) (jb (yd 2) ye)) ye))) ρ M1 = .ok (decide (s < (m:Int)) && !decide ((o,c) ∈ q.wr)) M1:=by
  refine jha (M1:=M1) (yp (yi (v3 M1) (P1.fld (x:="few") (v:=.int s) (v0 M1) rfl) rfl)) (fun _=>?_) (fun _=>rfl);rw [vU,vi,P1.mth (xs:=[.int o,.int c]) (zs:=[]) (M1:=M1) (M2:=M1) (v0 M1) rfl (kk M1) rfl];rw [show xA (yq 3 0 [Sl.p 0,Sl.p 1,Sl.p 2] [] [PV.ref i,.int o,.int c] []) M1=_ from jbJ P1 ho c0 c1];rfl
 have step1:∃ M2 es2,(∀ {k:DS} {r:RS},k ρ M2=r->yh (sIf (yR (yg (dOp gGt (yd 3) (yo 13 "few" (yd 0)))) (vV (vH (yw 13 "has_said" xA 3 0 [.p 0,.p 1,.p 2] [] (yd 0) (jb (yd 1) (jb (yd 2) ye)) ye)))) (yn (yw 13 "write_round" Yl 3 0 [.p 0,.p 1,.p 2] [] (yd 0) (jb (yd 1) (jb (yd 2) ye)) ye)) yA) k ρ M1=r)∧Pu M2 i lo n s fs dl es2 gs (q.look1 s (hon n fs) (o,c))∧Fr M1 M2 i M1.n:=by
  unfold Ps.look1;rw [<- hm]
  by_cases hc:s < (m:Int)∧(o,c) ∉ q.wr
  ·obtain ⟨M2,es2,e2,P2,f2⟩:=jaw P1 hn hl hw hc.2;rw [if_pos hc];refine ⟨M2,es2,fun {k r} hr=>YX (bb:=true) (M1:=M1) ?_ (ρ':=ρ) (M2:=M2) ?_ hr,P2,f2⟩
   ·rw [t1,decide_eq_true hc.1,decide_eq_false hc.2]; rfl
   ·rw [if_pos rfl];refine yV (v:=.non) ?_;rw [P1.mth (xs:=[.int o,.int c]) (zs:=[]) (M1:=M1) (M2:=M1) (v0 M1) rfl (kk M1) rfl];exact e2
  ·rw [if_neg hc];refine ⟨M1,es,fun {k r} hr=>YX (bb:=false) (M1:=M1) ?_ (ρ':=ρ) (M2:=M1) rfl hr,P1,.refl _ _ _⟩;rw [t1];congr 1;rw [<- Bool.not_eq_true];intro z;simp only [Bool.and_eq_true,decide_eq_true_eq,Bool.not_eq_true',decide_eq_false_iff_not] at z;exact hc z
 obtain ⟨M2,es2,e2,P2,f2⟩:=step1
 have st2:(q.look1 s (hon n fs) (o,c)).st=q.st:=by unfold Ps.look1; split <;> rfl
 have t2:yR (yg (dOp gGt (yd 3) (dOp vG (dC (.int 2)) (yo 13 "few" (yd 0))))) (yg (uu true (jb (yd 1) (jb (yd 2) ye)) (yo 13 "struck" (yd 0)))) ρ M2 = .ok (decide (2 * s < (m:Int)) && !decide ((o,c) ∈ q.st.map (·.1))) M2:=by
  refine jha (M1:=M2) (yp (yi (v3 M2) (yi (z:=.int (2 * s)) rfl (P2.fld (x:="few") (v:=.int s) (v0 M2) rfl) (xR (.inl ⟨by omega,by omega⟩))) rfl)) (fun _=>?_) (fun _=>rfl);rw [<- st2];exact yp (jgN (neg:=true) (kk M2) (P2.fld (x:="struck") (v0 M2) rfl) P2.sk)
 have step2:∃ M3,sIf (yR (yg (dOp gGt (yd 3) (dOp vG (dC (.int 2)) (yo 13 "few" (yd 0))))) (yg (uu true (jb (yd 1) (jb (yd 2) ye)) (yo 13 "struck" (yd 0))))) (yn (yw 13 "strike" Ux 3 0 [.p 0,.p 1,.p 2] [] (yd 0) (jb (yd 1) (jb (yd 2) ye)) ye)) yA ρ M2 = .nx ρ M3∧Pu M3 i lo n s fs dl es2 gs ((q.look1 s (hon n fs) (o,c)).look2 s m (o,c))∧Fr M2 M3 i M2.n:=by
  unfold Ps.look2;rw [st2];unfold sIf;rw [t2]
  by_cases hc:2 * s < (m:Int)∧(o,c) ∉ q.st.map (·.1)
  ·obtain ⟨M3,e3,P3,f3⟩:=jeA P2 (by rw [st2]; exact hk) (h:=o) (c:=c) (by rw [st2]; exact hc.2);rw [if_pos hc,decide_eq_true hc.1,decide_eq_false hc.2];refine ⟨M3,?_,P3,f3⟩;show yn _ ρ M2=_;refine yV (v:=.non) ?_;rw [P2.mth (xs:=[.int o,.int c]) (zs:=[]) (M1:=M2) (M2:=M2) (v0 M2) rfl (kk M2) rfl];exact e3
  ·rw [if_neg hc];refine ⟨M2,?_,P2,.refl _ _ _⟩
   have:(decide (2 * s < (m:Int)) && !decide ((o,c) ∈ q.st.map (·.1)))=false:=by
    rw [<- Bool.not_eq_true];intro z;simp only [Bool.and_eq_true,decide_eq_true_eq,Bool.not_eq_true',decide_eq_false_iff_not] at z;exact hc z
   rw [this];rfl
 obtain ⟨M3,e3,P3,f3⟩:=step2;refine ⟨M3,es2,?_,P3,(f1.tr f2).tr f3⟩;refine yX (ρ:=[some (.ref i),some (.int o),some (.int c),none]) (ρ':=ρ) rfl rfl ?_;unfold d_zbc;refine jU (v:=.int m) (M1:=M1) ?_ ?_
 ·rw [P.mth (xs:=[.int o,.int c]) (zs:=[]) (M1:=M) (M2:=M) rfl rfl rfl rfl];exact e1
 simp only [List.set_cons_succ,List.set_cons_zero];rw [<- hρ];exact e2 e3
theorem come_p (P:Pu M i lo n s fs dl es gs q) (hn:n<=40) (s5:s<=5) (s0:0<=s) (hl:q.ls.length<=80000) (hw:q.wr.length<=80000) (hst:q.st.length<=80000) (hg:gs.length<=80000) (hq:q.gt.length<=80000) {k:Nat} {t:T3} {d0:Option Int} (hk:q.ls[k]? = some (t,d0)) (ho:t.2.1 ∈ hon n fs) (c0:1<=t.2.2) (c1:t.2.2<=99) :
  ∃ M' es' gs',jbt [.ref i,.int k] M = .ok (p3 t) M'∧Pu M' i lo n s fs dl es' gs' ((⟨q.wr,q.gt,q.st,q.ls.eraseIdx k,q.bt⟩:Ps).come s (hon n fs) t)∧Fr M M' i lo∧gs'.length<=gs.length + 1:=by
 obtain ⟨j,M1,gs1,e1,P1,f1,g1,j1,j2,l1⟩:=take_p P hl hg hq hk
 obtain ⟨q1,hq1⟩:∃ q1:Ps,q1=⟨q.wr,q.gt,q.st,q.ls.eraseIdx k,q.bt⟩:=⟨_,rfl⟩
 rw [<- hq1] at P1 ⊢
 have addw:(q1.add t).wr=q1.wr:=by unfold Ps.add; split <;> rfl
 have adds:(q1.add t).st=q1.st:=by unfold Ps.add; split <;> rfl
 have addl:(q1.add t).ls=q1.ls:=by unfold Ps.add; split <;> rfl
 have a:=P.li;obtain ⟨M2,es2,e2,P2,f2⟩:=look_p P1 hn s5 s0 (by rw [addl,hq1]; exact Nat.le_trans (List.length_eraseIdx_le _ _) hl) (by rw [addw,hq1]; exact hw) (by rw [adds,hq1]; exact hst) ho c0 c1
 have g2:M2.g j=some (.ins 10 (ltF (t,d0))):=by rw [f2.g j j2 (by omega)]; exact g1
 refine ⟨M2,es2,gs1,?_,P2,f1.trans (f2.weak P1.ln P1.li),l1⟩;refine jY (ρ:=[some (.ref i),some (.int k),none]) rfl rfl ?_;unfold d_zbe;refine jU (v:=.ref j) (M1:=M1) ?_ ?_
 ·rw [P.mth (xs:=[.int k]) (zs:=[]) (M1:=M) (M2:=M) rfl rfl rfl rfl];exact e1
 simp only [List.set_cons_succ,List.set_cons_zero];refine yB (v:=.non) (M1:=M2) ?_ ?_
 ·rw [P1.mth (xs:=[.int t.2.1,.int t.2.2]) (zs:=[]) (M1:=M1) (M2:=M1) rfl rfl (by
   simp only [jr,jx,jS (x:="house") (v:=.int t.2.1) (d:=yd 2) (ρ:=[some (.ref i),some (.int k),some (.ref j)]) (M:=M1) (i:=j) rfl g1 rfl,jS (x:="what") (v:=.int t.2.2) (d:=yd 2) (ρ:=[some (.ref i),some (.int k),some (.ref j)]) (M:=M1) (i:=j) rfl g1 rfl,Res.bind_ok]) rfl]
  exact e2
 refine jR ?_;rw [jP (i:=j) (xs:=[]) (zs:=[]) (M1:=M2) (M2:=M2) rfl g2 rfl rfl rfl];exact row_p g2
end

theorem jcr:∀ (n:Nat) (fs:List Int),(∀ k:Nat,k < n->(k:Int) ∈ fs)->n<=fs.length
 | 0,_,_=>Nat.zero_le _
 | n + 1,fs,h=>by
  have h1:=h n (Nat.lt_succ_self _);have h2:=jcr n (fs.erase (n:Int)) fun k hk=>(List.mem_erase_of_ne (by omega)).mpr (h k (by omega));rw [List.length_erase_of_mem h1] at h2
  have:fs.length≠0:=fun z=>by rw [List.eq_nil_of_length_eq_zero z] at h1; cases h1
  omega
theorem jfY {n:Nat} {fs:List Int} (h:fs.length < n):hon n fs≠[]:=fun z=>by
 have:=jcr n fs fun k hk=>Classical.byContradiction fun hf=>by
  have:(k:Int) ∈ hon n fs:=US.mpr ⟨⟨by omega,by omega⟩,hf⟩
  rw [z] at this;cases this
 omega
theorem uV (n:Nat) (fs:List Int):(hon n fs).length<=n:=Nat.le_trans (List.length_filter_le _ _) (by rw [List.length_map,List.length_range]; exact Nat.le_refl _)
section
variable {M:Sto} {i n:Nat} {s:Int} {fs:List Int}
def psF (i n:Nat) (s:Int) (fs:List Int):List (Str × PV):=[("houses",.int n),("few",.int s),("liars",.lst (fs.map PV.int)),("on_way",.ref (i + 1)),("got",.ref (i + 2))]
theorem jdE (hi:M.g i=some (.ins 13 [])) (hn:M.n=i + 1) (n1:1<=n) (n16:n<=16) (s0:0<=s) (s5:s<=5) (hs:3 * s < n) (pw:fs.Pairwise (· < ·)) (fb:∀ f ∈ fs,0<=f∧f < (n:Int)) (fl:(fs.length:Int)<=s) :
  ∃ M',jby [.ref i,.int n,.int s,.lst (fs.map PV.int)] M = .ok .non M'∧M'.g i=some (.ins 13 (psF i n s fs))∧M'.g (i + 1)=some (.lst [])∧M'.g (i + 2)=some (.dtv [])∧M'.n=i + 3∧∀ j,j < i->M'.g j=M.g j:=by
 obtain ⟨F,hF⟩:∃ F,F=PV.lst (fs.map PV.int):=⟨_,rfl⟩
 have c4:Uy [F,.int n,.int s] M = .ok .non M:=by rw [hF]; exact YA pw fb fl (by omega)
 obtain ⟨ρ,hρ⟩:∃ ρ:En,ρ=[some (.ref i),some (.int n),some (.int s),some F]:=⟨_,rfl⟩
 have v0:∀ M,yd 0 ρ M = .ok (.ref i) M:=fun M=>by rw [hρ]; rfl
 have v1:∀ M,yd 1 ρ M = .ok (.int n) M:=fun M=>by rw [hρ]; rfl
 have v2:∀ M,yd 2 ρ M = .ok (.int s) M:=fun M=>by rw [hρ]; rfl
 have v3:∀ M,yd 3 ρ M = .ok F M:=fun M=>by rw [hρ]; rfl
 obtain ⟨M1,e1⟩:∃ M1,M1=M.set i (.ins 13 [("houses",.int n)]):=⟨_,rfl⟩
 obtain ⟨M2,e2⟩:∃ M2,M2=M1.set i (.ins 13 [("houses",.int n),("few",.int s)]):=⟨_,rfl⟩
 obtain ⟨M3,e3⟩:∃ M3,M3=M2.set i (.ins 13 [("houses",.int n),("few",.int s),("liars",F)]):=⟨_,rfl⟩
 obtain ⟨M4,e4⟩:∃ M4,M4=M3.new (.lst []):=⟨_,rfl⟩
 obtain ⟨M5,e5⟩:∃ M5,M5=M4.set i (.ins 13 [("houses",.int n),("few",.int s),("liars",F),("on_way",.ref (i + 1))]):=⟨_,rfl⟩
 obtain ⟨M6,e6⟩:∃ M6,M6=M5.new (.dtv []):=⟨_,rfl⟩
 obtain ⟨M7,e7⟩:∃ M7,M7=M6.set i (.ins 13 [("houses",.int n),("few",.int s),("liars",F),("on_way",.ref (i + 1)),("got",.ref (i + 2))]):=⟨_,rfl⟩
 have n3:M3.n=i + 1:=by rw [e3,e2,e1]; exact hn
 have n5:M5.n=i + 2:=by rw [e5,e4]; show M3.n + 1=_; rw [n3]
 have g1:M1.g i=some (.ins 13 [("houses",.int n)]):=by rw [e1]; exact Sto.set_same
 have g2:M2.g i=some (.ins 13 [("houses",.int n),("few",.int s)]):=by rw [e2]; exact Sto.set_same
 have g3:M3.g i=some (.ins 13 [("houses",.int n),("few",.int s),("liars",F)]):=by rw [e3]; exact Sto.set_same
 have g4:M4.g i=some (.ins 13 [("houses",.int n),("few",.int s),("liars",F)]):=by rw [e4,Sto.new_ne (by omega)]; exact g3
 have g5:M5.g i=some (.ins 13 [("houses",.int n),("few",.int s),("liars",F),("on_way",.ref (i + 1))]):=by rw [e5]; exact Sto.set_same
 have g6:M6.g i=some (.ins 13 [("houses",.int n),("few",.int s),("liars",F),("on_way",.ref (i + 1))]):=by rw [e6,Sto.new_ne (by omega)]; exact g5
 refine ⟨M7,?_,by rw [e7,hF]; exact Sto.set_same,?_,?_,by rw [e7,e6]; show M5.n + 1=_; rw [n5],fun j hj=>?_⟩
 ·rw [<- hF];refine yX (ρ:=ρ) (ρ':=ρ) rfl (by rw [hρ]; rfl) ?_;unfold d_zar;refine yB (v:=.non) (M1:=M) ?_ ?_
  ·simp only [jW,jr,v1,jx,Res.bind_ok];show fin (jgE [some (.int n)] M)=_;unfold jgE;simp [yq,gen,jD (M:=M) (a:=1) (b:=16) (Kd.int (n:Int)) (by decide) (by decide),vt (h:=(n:Int)) (a:=1) (b:=16) (by omega) (by omega)]
  refine yB (v:=.non) (M1:=M) ?_ ?_
  ·simp only [jW,jr,v2,jx,Res.bind_ok];show XB [.int s] M=_;rw [jam (Kd.int s),vt s0 s5];rfl
  refine Jk (M1:=M) (yp (yi (v1 M) (yi (z:=.int (3 * s)) rfl (v2 M) (xR (.inl ⟨by omega,by omega⟩))) (by show some (PV.bl (decide ((n:Int)<=3 * s)))=_; rw [decide_eq_false (by omega)]))) ?_;refine yB (v:=.non) (M1:=M) ?_ ?_
  ·simp only [jW,jr,v1,v2,v3,jx,Res.bind_ok];exact c4
  refine vR (v:=.int n) (Ma:=M) (i:=i) (v1 M) (v0 M) hi (by decide) ?_;rw [show M.set i (.ins 13 (yW "houses" (.int n) []))=M1 from e1.symm];refine vR (v:=.int s) (Ma:=M1) (i:=i) (v2 M1) (v0 M1) g1 (show 1 < 1000 by decide) ?_;rw [show M1.set i (.ins 13 (yW "few" (.int s) [("houses",.int n)]))=M2 from e2.symm];refine vR (v:=F) (Ma:=M2) (i:=i) (xk (v3 M2) (by rw [hF]; rfl)) (v0 M2) g2 (show 2 < 1000 by decide) ?_;rw [show M2.set i (.ins 13 (yW "liars" F [("houses",.int n),("few",.int s)]))=M3 from e3.symm];refine vR (v:=.ref (i + 1)) (Ma:=M4) (i:=i) ?_ (v0 M4) g4 (show 3 < 1000 by decide) ?_
  ·show (if (0:Nat)<=sizeLine then Res.ok (PV.ref M3.n) (M3.new (.lst [])) else .bad)=_;rw [if_pos (Nat.zero_le _),n3,e4]
  rw [show M4.set i (.ins 13 (yW "on_way" (.ref (i + 1)) [("houses",.int n),("few",.int s),("liars",F)]))=M5 from e5.symm];rw [Jm (v:=.ref (i + 2)) (Ma:=M6) (i:=i) (by show Res.ok (PV.ref M5.n) (M5.new (.dtv []))=_; rw [n5,e6]) (v0 M6) g6 (show 4 < 1000 by decide)];rw [e7];rfl
 ·rw [e7,Sto.set_ne (by omega),e6,Sto.new_ne (by omega),e5,Sto.set_ne (by omega),e4,<- n3];exact Sto.new_same
 ·rw [e7,Sto.set_ne (by omega),e6,<- n5];exact Sto.new_same
 ·rw [e7,Sto.set_ne (by omega),e6,Sto.new_ne (by omega),e5,Sto.set_ne (by omega),e4,Sto.new_ne (by omega),e3,Sto.set_ne (by omega),e2,Sto.set_ne (by omega),e1,Sto.set_ne (by omega)]
theorem jbP (hi:M.g i=some (.ins 13 [])) (hn:M.n=i + 1) (n1:1<=n) (n16:n<=16) (s0:0<=s) (s5:s<=5) (hs:3 * s < n) (pw:fs.Pairwise (· < ·)) (fb:∀ f ∈ fs,0<=f∧f < (n:Int)) (fl:(fs.length:Int)<=s) {dl:Int} (d1:1<=dl) (d50:dl<=50) :
  ∃ M',JF [.ref i,.int n,.int s,.lst (fs.map PV.int),.int dl] M = .ok .non M'∧M'.n=i + 5∧Pu M' i (i + 5) n s fs dl [] [] ⟨[],[],[],[],0⟩∧∀ j,j < i->M'.g j=M.g j:=by
 obtain ⟨M1,e1,g1,g2,g3,n3,g4⟩:=jdE hi hn n1 n16 s0 s5 hs pw fb fl
 obtain ⟨F,hF⟩:∃ F,F=PV.lst (fs.map PV.int):=⟨_,rfl⟩
 obtain ⟨M2,e2⟩:∃ M2,M2=M1.new (.dtv []):=⟨_,rfl⟩
 obtain ⟨M3,e3⟩:∃ M3,M3=M2.set i (.ins 13 (yW "written" (.ref (i + 3)) (psF i n s fs))):=⟨_,rfl⟩
 obtain ⟨M4,e4⟩:∃ M4,M4=M3.new (.dtv []):=⟨_,rfl⟩
 obtain ⟨M5,e5⟩:∃ M5,M5=M4.set i (.ins 13 (yW "struck" (.ref (i + 4)) (yW "written" (.ref (i + 3)) (psF i n s fs)))):=⟨_,rfl⟩
 obtain ⟨M6,e6⟩:∃ M6,M6=M5.set i (.ins 13 (yW "delay" (.int dl) (yW "struck" (.ref (i + 4)) (yW "written" (.ref (i + 3)) (psF i n s fs))))):=⟨_,rfl⟩
 obtain ⟨M7,e7⟩:∃ M7,M7=M6.set i (.ins 13 (puF i n s fs dl 0)):=⟨_,rfl⟩
 have nn3:M3.n=i + 4:=by rw [e3,e2]; show M1.n + 1=_; rw [n3]
 have nn7:M7.n=i + 5:=by rw [e7,e6,e5,e4]; show M3.n + 1=_; rw [nn3]
 have k2':M2.g i=some (.ins 13 (psF i n s fs)):=by rw [e2,Sto.new_ne (by omega)]; exact g1
 have k4:M4.g i=some (.ins 13 (yW "written" (.ref (i + 3)) (psF i n s fs))):=by rw [e4,Sto.new_ne (by omega),e3]; exact Sto.set_same
 have k5:M5.g i=some (.ins 13 (yW "struck" (.ref (i + 4)) (yW "written" (.ref (i + 3)) (psF i n s fs)))):=by rw [e5]; exact Sto.set_same
 have k6:M6.g i=some (.ins 13 (yW "delay" (.int dl) (yW "struck" (.ref (i + 4)) (yW "written" (.ref (i + 3)) (psF i n s fs))))):=by rw [e6]; exact Sto.set_same
 have up:∀ j,j≠i->j≠i + 3->j≠i + 4->M7.g j=M1.g j:=fun j h1 h2 h3=>by rw [e7,Sto.set_ne h1,e6,Sto.set_ne h1,e5,Sto.set_ne h1,e4,Sto.new_ne (by omega),e3,Sto.set_ne h1,e2,Sto.new_ne (by omega)]
 refine ⟨M7,?_,nn7,⟨by rw [e7]; exact Sto.set_same,by rw [up _ (by omega) (by omega) (by omega)]; exact g2,by rw [up _ (by omega) (by omega) (by omega)]; exact g3,?_,?_,fun e he=>(by cases he),.nil,fun e he=>(by cases he),.nil,.nil,fun t ht=>(by cases ht),rfl,Nat.le_refl _,Nat.le_of_eq nn7.symm⟩,fun j hj=>?_⟩
 ·have ep:jbz [.ref i,.int n,.int s,F] M = .ok .non M5:=by
   obtain ⟨ρ,hρ⟩:∃ ρ:En,ρ=[some (.ref i),some (.int n),some (.int s),some F]:=⟨_,rfl⟩
   have v0:∀ M,yd 0 ρ M = .ok (.ref i) M:=fun M=>by rw [hρ]; rfl
   refine yX (ρ:=ρ) (ρ':=ρ) rfl (by rw [hρ]; rfl) ?_;unfold d_zao;refine yB (v:=.non) (M1:=M1) ?_ ?_
   ·rw [hρ];simp only [jW,jr,jC,jI,jx,Res.bind_ok];rw [hF];exact e1
   refine vR (v:=.ref (i + 3)) (Ma:=M2) (i:=i) (by show Res.ok (PV.ref M1.n) (M1.new (.dtv []))=_; rw [n3,e2]) (v0 M2) k2' (show 5 < 1000 by decide) ?_;rw [<- e3];rw [Jm (v:=.ref (i + 4)) (Ma:=M4) (i:=i) (by show Res.ok (PV.ref M3.n) (M3.new (.dtv []))=_; rw [nn3,e4]) (v0 M4) k4 (show 6 < 1000 by decide),<- e5]
  obtain ⟨ρ,hρ⟩:∃ ρ:En,ρ=[some (.ref i),some (.int n),some (.int s),some F,some (.int dl)]:=⟨_,rfl⟩
  have v0:∀ M,yd 0 ρ M = .ok (.ref i) M:=fun M=>by rw [hρ]; rfl
  have v4:∀ M,yd 4 ρ M = .ok (.int dl) M:=fun M=>by rw [hρ]; rfl
  rw [<- hF];refine yX (ρ:=ρ) (ρ':=ρ) rfl (by rw [hρ]; rfl) ?_;unfold d_zae;refine yB (v:=.non) (M1:=M5) ?_ ?_
  ·rw [hρ];simp only [jW,jr,jC,jI,jx,Res.bind_ok];exact ep
  refine yB (v:=.non) (M1:=M5) ?_ ?_
  ·simp only [jW,jr,v4,vj,jx,Res.bind_ok];show vL [.int dl,.int 1,.int 50] M5=_;rw [jD (Kd.int dl) (by decide) (by decide),if_pos (vt d1 d50)]
  refine vR (v:=.int dl) (Ma:=M5) (i:=i) (v4 M5) (v0 M5) k5 (show 7 < 1000 by decide) ?_;rw [<- e6];rw [Jm (v:=.int 0) (Ma:=M6) (i:=i) rfl (v0 M6) k6 (show 8 < 1000 by decide)];rw [e7];rfl
 ·rw [e7,Sto.set_ne (by omega),e6,Sto.set_ne (by omega),e5,Sto.set_ne (by omega),e4,Sto.new_ne (by omega),e3,Sto.set_ne (by omega),e2,<- n3];exact Sto.new_same
 ·rw [e7,Sto.set_ne (by omega),e6,Sto.set_ne (by omega),e5,Sto.set_ne (by omega),e4,<- nn3];exact Sto.new_same
 ·rw [up j (by omega) (by omega) (by omega),g4 j hj]
theorem jdu (n1:1<=n) (n16:n<=16) (s0:0<=s) (s5:s<=5) (hs:3 * s < n) (pw:fs.Pairwise (· < ·)) (fb:∀ f ∈ fs,0<=f∧f < (n:Int)) (fl:(fs.length:Int)<=s) {dl:Int} (d1:1<=dl) (d50:dl<=50) :
  ∃ M',made 13 JF (fun y=>[y,.int n,.int s,.lst (fs.map PV.int),.int dl]) M = .ok (.ref M.n) M'∧M'.n=M.n + 5∧Pu M' M.n (M.n + 5) n s fs dl [] [] ⟨[],[],[],[],0⟩∧∀ j,j < M.n->M'.g j=M.g j:=by
 obtain ⟨M1,e1,h⟩:=jbP (M:=M.new (.ins 13 [])) (i:=M.n) (n:=n) (s:=s) (fs:=fs) Sto.new_same rfl n1 n16 s0 s5 hs pw fb fl d1 d50;refine ⟨M1,?_,h.1,h.2.1,fun j hj=>by rw [h.2.2 j hj,Sto.new_ne (by omega)]⟩;unfold made;rw [e1]
end
theorem jiD {M:Sto} (T:Tw M):∃ (s:Int) (n:Nat) (fs:List Int) (M':Sto),jbr [.ref 1] M = .ok (.tup [.int s,.int n,.lst (fs.map PV.int),.lst ((hon n fs).map PV.int)]) M'∧0<=s∧s<=2∧3 * s < n∧n<=8∧(fs.length:Int)<=s∧(∀ f ∈ fs,0<=f∧f < (n:Int))∧fs.Pairwise (· < ·)∧Tw M'∧Off M M':=by
 obtain ⟨s,M1,e1,s0,s1,T1,o1⟩:=xE T (k:=3) (by decide) (by decide);obtain ⟨d,M2,e2,d0,d1,T2,o2⟩:=xE T1 (k:=2) (by decide) (by decide)
 obtain ⟨n,hn⟩:∃ n:Nat,(n:Int)=3 * s + 1 + d:=⟨(3 * s + 1 + d).toNat,by omega⟩
 obtain ⟨fs,M3,e3,fl,fb,pw,T3,o3⟩:=jfP T2 (crew:=n) (most:=s) (by omega) (by omega) s0;refine ⟨s,n,fs,M3,?_,s0,by omega,by omega,by omega,fl,fb,pw,T3,(o1.trans o2).trans o3⟩
 obtain ⟨F,hF⟩:∃ F,F=PV.lst (fs.map PV.int):=⟨_,rfl⟩
 refine jY (ρ:=[some (.ref 1),none,none,none]) rfl rfl ?_;unfold d_zbi;refine jU (v:=.int s) (M1:=M1) (by simpa [yq,gen] using e1) ?_;simp only [List.set_cons_succ,List.set_cons_zero];refine jU (v:=.int n) (M1:=M2) (by simp [yq,gen,e2,hn,xR (M:=M1) (i:=3) (j:=s) (.inl (by decide))]) ?_;simp only [List.set_cons_succ,List.set_cons_zero];refine jU (v:=F) (M1:=M3) (by rw [hF]; simpa [yq,gen] using e3) ?_;simp only [List.set_cons_succ,List.set_cons_zero];refine jR ?_
 have ec:yH (xi (jb (yd 2) ye)) vy [3] (yg (dOp (gIn true) (yd 0) (yd 1))) (yd 0) [some (.ref 1),some (.int s),some (.int n),some F] M3 = .ok (.lst ((hon n fs).map PV.int)) M3:=by
  refine jN (xs:=xw 0 n) (M1:=M3) ?_ (by rw [xL]; exact Yy (by omega)) ?_
  ·have hs:xy (n:Int)=true:=yz.mpr ⟨by omega,by omega⟩;unfold xi;simp only [jr,jC,jI,jx,Res.bind_ok,hs,if_true,Int.toNat_natCast]
  ·rw [jcC]
   refine xm PV.int (fun x=>!decide (x ∈ fs)) PV.int _ fun x hx=>⟨[some (.int x),some F],rfl,?_,fun _=>rfl⟩
   have gi:gIn true M3 (.int x) F=some (.bl (!decide (x ∈ fs))):=by rw [hF]; exact uo (neg:=true) (M:=M3) (x:=.lst (fs.map PV.int)) (k:=x) (ns:=fs) rfl
   exact yp (yi rfl rfl gi)
 rw [jda];simp only [jr,jC,jI,jx,Res.bind_ok,ec];rw [hF];exact if_pos (show (4:Nat)<=sizeLine by decide)

def vq (fs:List Int) (dl:Int) (ds:List Int) (k:Nat) (t:T3):Int:=if t.1 ∈ fs∨ds=[] then dl else ds.getD (k % ds.length) 0
def JY (fs:List Int) (dl:Int) (ds:List Int) (b:Int) (k:Nat) (x:TL):TL:=match x.2 with
 | none=>(x.1,some (b + vq fs dl ds k x.1))
 | some _=>x
def xY (fs:List Int) (dl:Int) (ds:List Int) (b:Int):Nat->List TL->List TL
 | _,[]=>[]
 | k,x :: r=>JY fs dl ds b k x :: xY fs dl ds b (k + 1) r
section
variable {fs:List Int} {dl:Int} {ds:List Int} {b:Int}
theorem vI:∀ (l:List TL) (k:Nat),(xY fs dl ds b k l).length=l.length
 | [],_=>rfl
 | _ :: l,k=>by
  show (xY fs dl ds b (k + 1) l).length + 1=_;rw [vI l (k + 1)];rfl
theorem vW:∀ (l:List TL) (k j:Nat),(xY fs dl ds b k l)[j]? = (l[j]?).map (JY fs dl ds b (k + j))
 | [],_,_=>rfl
 | _ :: _,_,0=>rfl
 | _ :: l,k,j + 1=>by
  show (xY fs dl ds b (k + 1) l)[j]? = _;rw [vW l (k + 1) j,show k + 1 + j=k + (j + 1) by omega];rfl
theorem jbi (k:Nat) (x:TL):(JY fs dl ds b k x).2≠none:=by
 unfold JY;split
 ·exact fun z=>by cases z
 ·rename_i h;rw [h]
  exact fun z=>by cases z
theorem Jy {k:Nat} {x:TL} (h:x.2≠none):JY fs dl ds b k x=x:=by
 unfold JY;split
 ·rename_i e;exact absurd e h
 ·rfl
theorem jgK (k:Nat) (x:TL):(JY fs dl ds b k x).1=x.1:=by
 unfold JY;split <;> rfl
theorem uv {l:List TL} {k:Nat}:∀ x ∈ xY fs dl ds b k l,x.2≠none:=fun x hx=>by
 obtain ⟨j,hj⟩:=List.getElem?_of_mem hx;rw [vW] at hj
 cases e:l[j]? with
 | none=>rw [e] at hj; cases hj
 | some y =>
  rw [e] at hj;cases hj;exact jbi _ _
theorem jgP (l:List TL) (k:Nat):(xY fs dl ds b k l).map (·.1)=l.map (·.1):=by
 refine List.ext_getElem? fun j=>?_;rw [List.getElem?_map,List.getElem?_map,vW,Option.map_map]
 cases l[j]? with
 | none=>rfl
 | some x=>exact congrArg some (jgK _ _)
end
def Dly (D:PV) (ds:List Int):Prop:=D = .lst (ds.map PV.int)∨D = .tup (ds.map PV.int)
theorem Dly.any {D:PV} {ds:List Int} (h:Dly D ds) (M:Sto):uZ M D=some (ds.map PV.int):=by
 rcases h with rfl | rfl <;> rfl
section
variable {M M':Sto} {i lo n:Nat} {s:Int} {fs:List Int} {dl:Int} {es:List (Nat × TL)} {gs:List (Nat × Int × Int)} {q:Ps} {D:PV} {ds:List Int}
theorem jiw (P:Pu M i lo n s fs dl es gs q) (hD:Dly D ds) (hl:ds.length<=1000) {j k:Nat} {x:TL} (hj:M.g j=some (.ins 10 (ltF x))):Uz [.ref i,.ref j,.int k,D] M = .ok (.int (vq fs dl ds k x.1)) M:=by
 refine jY (ρ:=[some (.ref i),some (.ref j),some (.int k),some D]) rfl rfl ?_;unfold d_zaf;have flen:dCB (one yK) (jb (yd 3) ye) [some (.ref i),some (.ref j),some (.int k),some D] M = .ok (.int ds.length) M:=xk (x:=D) rfl (by rw [yU (hD.any M),List.length_map]);have t1:yg (dOp (gIn false) (yo 10 "sender" (yd 1)) (yo 13 "liars" (yd 0))) [some (.ref i),some (.ref j),some (.int k),some D] M = .ok (decide (x.1.1 ∈ fs)) M:=yp (yi (jS (x:="sender") (v:=.int x.1.1) (i:=j) rfl hj rfl) (P.fld (x:="liars") (v:=.lst (fs.map PV.int)) rfl rfl) (uo (neg:=false) (x:=.lst (fs.map PV.int)) rfl));have t2:yg (dOp (eqG false) (dCB (one yK) (jb (yd 3) ye)) (dC (.int 0))) [some (.ref i),some (.ref j),some (.int k),some D] M = .ok ((ds.length:Int) == 0) M:=yp (yi flen rfl jac);unfold vq
 by_cases hc:x.1.1 ∈ fs∨ds=[]
 ·rw [if_pos hc];refine jfB (M1:=M) ?_ (jR (P.fld (x:="delay") rfl rfl));unfold dOr;rw [t1]
  by_cases h1:x.1.1 ∈ fs
  ·rw [decide_eq_true h1];rfl
  ·rw [decide_eq_false h1];simp only [Res.bind_ok,Bool.false_eq_true,if_false];rw [t2,hc.resolve_left h1];rfl
 ·rw [if_neg hc];have h0:ds.length≠0:=fun z=>hc (.inr (List.eq_nil_of_length_eq_zero z));refine Jk (M1:=M) ?_ (jR ?_)
  ·unfold dOr;rw [t1,decide_eq_false fun z=>hc (.inl z)];simp only [Res.bind_ok,Bool.false_eq_true,if_false];rw [t2];congr 1;rw [<- Bool.not_eq_true];intro z
   have:=beq_iff_eq.mp z
   omega
  ·have e1:dOp XJ (yd 2) (dCB (one yK) (jb (yd 3) ye)) [some (.ref i),some (.ref j),some (.int k),some D] M = .ok (.int ((k:Int) % ds.length)) M:=yi (x:=.int k) rfl flen (xS (by omega));refine yi (x:=D) rfl e1 ?_;rw [xT (hD.any M)];have hk:k % ds.length < ds.length:=Nat.mod_lt _ (by omega);rw [show ((k:Int) % ds.length)=((k % ds.length:Nat):Int) by omega,ux (by omega) (by rw [List.length_map]; omega),Int.toNat_natCast,List.getElem?_map,List.getD_eq_getElem?_getD,List.getElem?_eq_getElem hk];rfl
theorem Pu.setd (P:Pu M i lo n s fs dl es gs q) {k:Nat} {e:Nat × TL} (he:es[k]? = some e) (x:TL):Pu (M.set e.1 (.ins 10 (ltF x))) i lo n s fs dl (es.set k (e.1,x)) gs ⟨q.wr,q.gt,q.st,q.ls.set k x,q.bt⟩∧Fr M (M.set e.1 (.ins 10 (ltF x))) i lo:=by
 have a:=P.li;have b:=P.ln;obtain ⟨e1,e2,e3⟩:=P.el e (List.mem_of_getElem? he);obtain ⟨kl,ke⟩:=List.getElem?_eq_some_iff.mp he;have gj:∀ j,j≠e.1->(M.set e.1 (.ins 10 (ltF x))).g j=M.g j:=fun j h=>Sto.set_ne h
 have em:(es.set k (e.1,x)).map (·.1)=es.map (·.1):=by
  rw [List.map_set];refine List.ext_getElem? fun j=>?_;rw [List.getElem?_set];split
  ·rename_i h;subst h;rw [if_pos (by rw [List.length_map]; exact kl),List.getElem?_map,he];rfl
  ·rfl
 refine ⟨⟨by rw [gj _ (by omega)]; exact P.pu,?_,by rw [gj _ (by omega)]; exact P.go,by rw [gj _ (by omega)]; exact P.wt,by rw [gj _ (by omega)]; exact P.sk,fun z hz=>?_,?_,fun z hz=>?_,P.gd,P.gk,P.gc,by rw [List.map_set,P.le],a,b⟩,Nat.le_refl _,fun j h1 h2=>gj j (by omega),fun j xs h1 h2 e=>by rw [gj j (fun z=>by rw [z,e3] at e; cases e)]; exact e⟩
 ·rw [gj _ (by omega),P.ow]
  have h1:∀ l:List (Nat × TL),(l.map fun e=>PV.ref e.1)=(l.map (·.1)).map PV.ref:=fun l=>by rw [List.map_map]; rfl
  rw [h1,h1,em]
 ·obtain ⟨j,hj⟩:=List.getElem?_of_mem hz;rw [List.getElem?_set] at hj;split at hj
  ·cases hj;exact ⟨e1,e2,Sto.set_same⟩
  ·rename_i hkj;obtain ⟨h1,h2,h3⟩:=P.el z (List.mem_of_getElem? hj);refine ⟨h1,h2,?_⟩;rw [gj]
   ·exact h3
   ·obtain ⟨jl,je⟩:=List.getElem?_eq_some_iff.mp hj
    rcases Nat.lt_or_gt_of_ne hkj with h | h
    ·have:=List.pairwise_iff_getElem.mp P.ed k j kl jl h
     rw [ke,je] at this;exact Ne.symm this
    ·have:=List.pairwise_iff_getElem.mp P.ed j k jl kl h
     rw [ke,je] at this;exact this
 ·have h1:(es.map (·.1)).Pairwise (·≠·):=List.pairwise_map.mpr P.ed;rw [<- em] at h1;exact List.pairwise_map.mp h1
 ·obtain ⟨h1,h2,h3⟩:=P.gl z hz;exact ⟨h1,h2,by rw [gj _ (fun w=>by rw [w,e3] at h3; cases h3)]; exact h3⟩
theorem jic {α:Type} {A l:List α} {k:Nat} {a:α} (hl:A.length=l.length) (ha:A[k]? = some a):(A.take k ++ l.drop k).set k a=A.take (k + 1) ++ l.drop (k + 1):=by
 obtain ⟨kl,ke⟩:=List.getElem?_eq_some_iff.mp ha
 have hk:(A.take k).length=k:=by rw [List.length_take]; omega
 rw [List.set_append_right _ _ (by omega),hk,Nat.sub_self,List.drop_eq_getElem_cons (by omega),List.set_cons_zero,List.take_succ_eq_append_getElem kl,ke,List.append_assoc];rfl
theorem mix_at {α:Type} {A l:List α} {k:Nat} (hl:A.length=l.length) (hk:k<=l.length):(A.take k ++ l.drop k)[k]? = l[k]?:=by
 have h:(A.take k).length=k:=by rw [List.length_take]; omega
 rw [List.getElem?_append_right (by omega),h,Nat.sub_self,List.getElem?_drop];rfl
theorem Pu.at_ (P:Pu M i lo n s fs dl es gs q) {k:Nat} {x:TL} (hx:q.ls[k]? = some x):∃ e,es[k]? = some e∧e.2=x:=by
 rw [<- P.le,List.getElem?_map] at hx
 cases h:es[k]? with
 | none=>rw [h] at hx; cases hx
 | some e=>rw [h] at hx; exact ⟨e,rfl,Option.some.inj hx⟩
theorem jgq (P:Pu M i lo n s fs dl es gs q) (hD:Dly D ds) (hl:ds.length<=1000) {f k:Nat} {x:TL} (hx:q.ls[k]? = some x) (x4:Option PV):∃ y4 M' es',Jv [some (.ref i),some (.int f),some D,some (.int k),x4] M = .nx [some (.ref i),some (.int f),some D,some (.int k),y4] M'∧Pu M' i lo n s fs dl es' gs ⟨q.wr,q.gt,q.st,q.ls.set k (JY fs dl ds q.bt k x),q.bt⟩∧Fr M M' i lo:=by
 obtain ⟨e,he,ex⟩:=P.at_ hx;obtain ⟨e1,e2,e3⟩:=P.el e (List.mem_of_getElem? he);rw [ex] at e3;obtain ⟨kl,_⟩:=List.getElem?_eq_some_iff.mp he
 have ei:dOp gIx (yo 13 "on_way" (yd 0)) (yd 3) [some (.ref i),some (.int f),some D,some (.int k),x4] M = .ok (.ref e.1) M:=by
  refine yi (P.fld (x:="on_way") (v:=.ref (i + 1)) rfl rfl) (y:=.int k) rfl ?_;rw [xT (yT P.ow),ux (by omega) (by rw [List.length_map]; omega),Int.toNat_natCast,List.getElem?_map,he];rfl
 obtain ⟨t,u⟩:=x;have td:∀ {b:Bool},gIs M (yu u) .non=some (.bl b)->yg (dOp gIs (yo 10 "due" (yd 4)) (dC .non)) [some (.ref i),some (.int f),some D,some (.int k),some (.ref e.1)] M = .ok b M:=fun {b} h=>yp (yi (jS (x:="due") (v:=yu u) (i:=e.1) rfl e3 rfl) rfl h);unfold Jv
 cases u with
 | some d =>
  refine ⟨some (.ref e.1),M,es,?_,?_,.refl _ _ _⟩
  ·refine jU ei ?_;simp only [List.set_cons_succ,List.set_cons_zero];exact Jl (td (b:=false) rfl)
  ·have:q.ls.set k (JY fs dl ds q.bt k (t,some d))=q.ls:=by
    rw [Jy (show (t,some d).2≠none from fun z=>by cases z)];refine List.ext_getElem? fun j=>?_;rw [List.getElem?_set];split
    ·rename_i h;subst h;rw [if_pos (List.getElem?_eq_some_iff.mp hx).1,hx]
    ·rfl
   rw [this];exact P
 | none =>
  obtain ⟨P1,f1⟩:=P.setd he (t,some (q.bt + vq fs dl ds k t));refine ⟨some (.ref e.1),_,_,?_,P1,f1⟩;refine jU ei ?_;simp only [List.set_cons_succ,List.set_cons_zero];refine jeH (td (b:=true) rfl) ?_
  have ea:dOp vd (yo 13 "beat" (yd 0)) (yw 13 "delay_of" Uz 4 0 [.p 0,.p 1,.p 2,.p 3] [] (yd 0) (jb (yd 4) (jb (yd 3) (jb (yd 2) ye))) ye) [some (.ref i),some (.int f),some D,some (.int k),some (.ref e.1)] M = .ok (.int (q.bt + vq fs dl ds k t)) M:=by
   refine yi (P.fld (x:="beat") (v:=.int q.bt) rfl rfl) (y:=.int (vq fs dl ds k t)) (M2:=M) ?_ rfl;rw [P.mth (xs:=[.ref e.1,.int k,D]) (zs:=[]) (M1:=M) (M2:=M) rfl rfl rfl rfl];exact jiw P hD hl e3
  rw [Jm (v:=.int (q.bt + vq fs dl ds k t)) (Ma:=M) (i:=e.1) ea rfl e3 (show 4 < 1000 by decide)];rfl
theorem jgb (P:Pu M i lo n s fs dl es gs q) (hD:Dly D ds) (hl:ds.length<=1000) {f:Nat} (hf:f<=q.ls.length) (hn:q.ls.length<=80000) (old:∀ j < f,∀ x,q.ls[j]? = some x->x.2≠none):∃ M' es',XF [.ref i,.int f,D] M = .ok .non M'∧Pu M' i lo n s fs dl es' gs ⟨q.wr,q.gt,q.st,xY fs dl ds q.bt 0 q.ls,q.bt⟩∧Fr M M' i lo:=by
 obtain ⟨A,hA⟩:∃ A,A=xY fs dl ds q.bt 0 q.ls:=⟨_,rfl⟩
 have lA:A.length=q.ls.length:=by rw [hA,vI]
 have e0:A.take f ++ q.ls.drop f=q.ls:=by
  have:A.take f=q.ls.take f:=by
   refine List.ext_getElem? fun j=>?_;rw [List.getElem?_take,List.getElem?_take];split
   ·rename_i hj;rw [hA,vW]
    cases e:q.ls[j]? with
    | none=>rfl
    | some x=>exact congrArg some (Jy (old j hj x e))
   ·rfl
  rw [this,List.take_append_drop]
 obtain ⟨ρ',M',e',x3,x4,es',hρ,P',fr⟩:=Jo (g:=gN 3) (db:=Jv)
  (fun m ρ M'=>∃ x3 x4 es',ρ=[some (.ref i),some (.int f),some D,x3,x4]∧Pu M' i lo n s fs dl es' gs ⟨q.wr,q.gt,q.st,A.take (f + m) ++ q.ls.drop (f + m),q.bt⟩∧Fr M M' i lo)
  (xw f (q.ls.length - f)) 0 [some (.ref i),some (.int f),some D,none,none] M ⟨none,none,es,rfl,by rw [Nat.add_zero,e0]; exact P,.refl _ _ _⟩ (by
   rintro m z hz ρ M1 ⟨x3,x4,es1,rfl,P1,f1⟩;rw [Nat.zero_add] at P1 ⊢;rw [uf] at hz;split at hz
   ·rename_i hm;cases hz
    have hk:f + m < q.ls.length:=by omega
    obtain ⟨x,hx⟩:∃ x,q.ls[f + m]? = some x:=⟨_,List.getElem?_eq_getElem hk⟩
    obtain ⟨y4,M2,es2,e2,P2,f2⟩:=jgq P1 hD hl (f:=f) (k:=f + m) (x:=x) (by show (A.take (f + m) ++ q.ls.drop (f + m))[f + m]? = _; rw [mix_at lA (by omega)]; exact hx) x4;refine ⟨[some (.ref i),some (.int f),some D,some (.int ((f:Int) + (m:Nat))),x4],_,M2,rfl,e2,some (.int ((f:Int) + (m:Nat))),y4,es2,?_,?_,f1.trans f2⟩
    ·rfl
    ·have:=P2
     rw [show (Ps.mk q.wr q.gt q.st (A.take (f + m) ++ q.ls.drop (f + m)) q.bt).ls=A.take (f + m) ++ q.ls.drop (f + m) from rfl] at this;rw [jic lA (by rw [hA,vW,hx,Nat.zero_add]; rfl)] at this;rw [show f + (m + 1)=f + m + 1 by omega];exact this
   ·cases hz)
 refine ⟨M',es',?_,?_,fr⟩
 ·have nox:∀ {r:Res PV},r = .ok .non M'->r.noX = .ok .non M':=fun h=>by rw [h]; rfl
  refine nox (yX (ρ:=[some (.ref i),some (.int f),some D,none,none]) (ρ':=ρ') rfl rfl ?_);unfold d_zac
  have h1:jdb (jb (yd 1) (jb (dCB (one yK) (jb (yo 13 "on_way" (yd 0)) ye)) ye)) [some (.ref i),some (.int f),some D,none,none] M = .ok (.fix (xw f (q.ls.length - f))) M:=by
   have flen:dCB (one yK) (jb (yo 13 "on_way" (yd 0)) ye) [some (.ref i),some (.int f),some D,none,none] M = .ok (.int q.ls.length) M:=xk (P.fld (x:="on_way") rfl rfl) (by rw [yU (yT P.ow),List.length_map,P.elen]);unfold jdb;simp only [jr,jC,jI,Res.bind_ok,flen,jx];rw [if_pos ⟨yz.mpr ⟨by omega,by omega⟩,yz.mpr ⟨by omega,by omega⟩⟩,show ((q.ls.length:Int) - (f:Int)).toNat=q.ls.length - f by omega]
  rw [ue h1,e']
 ·rw [xL,Nat.zero_add,show f + (q.ls.length - f)=q.ls.length by omega,List.drop_length,List.append_nil,<- lA,List.take_length,hA] at P';exact P'
end

def vz (s:Int) (hs fs:List Int) (dl:Int) (ds:List Int) (q:Ps) (k:Nat) (t:T3):Ps :=
 ⟨((⟨q.wr,q.gt,q.st,q.ls.eraseIdx k,q.bt⟩:Ps).come s hs t).wr,((⟨q.wr,q.gt,q.st,q.ls.eraseIdx k,q.bt⟩:Ps).come s hs t).gt,((⟨q.wr,q.gt,q.st,q.ls.eraseIdx k,q.bt⟩:Ps).come s hs t).st,xY fs dl ds q.bt 0 ((⟨q.wr,q.gt,q.st,q.ls.eraseIdx k,q.bt⟩:Ps).come s hs t).ls,q.bt⟩
def OkT (n:Nat) (fs:List Int) (q:Ps):Prop:=(∀ x ∈ q.ls,x.1.2.1 ∈ hon n fs∧1<=x.1.2.2∧x.1.2.2<=99)∧q.ls.length<=500∧q.wr.length<=60000∧q.st.length<=60000∧q.gt.length<=60000
inductive Run (s:Int) (n:Nat) (fs:List Int) (dl:Int) (ds:List Int):Nat->Ps->Ps->Prop where
 | stop (q:Ps) (ok:OkT n fs q) (h:∀ x ∈ q.ls,∃ d,x.2=some d∧q.bt < d):Run s n fs dl ds 0 q q
 | step (m:Nat) (q q':Ps) (k:Nat) (t:T3) (d:Int) (ok:OkT n fs q) (hk:q.ls[k]? = some (t,some d)) (hd:d<=q.bt) (hb:∀ j < k,∀ x,q.ls[j]? = some x->∃ d,x.2=some d∧q.bt < d) (hr:Run s n fs dl ds m (vz s (hon n fs) fs dl ds q k t) q'):Run s n fs dl ds (m + 1) q q'
theorem jiE (q:Ps) (s:Int) (hs:List Int) (t:T3):(q.come s hs t).bt=q.bt:=by
 have a:(q.add t).bt=q.bt:=by unfold Ps.add; split <;> rfl
 have b:((q.add t).look1 s hs t.2).bt=q.bt:=by unfold Ps.look1; split <;> exact a
 unfold Ps.come Ps.look2;split <;> exact b
theorem jal (q:Ps) (s:Int) (hs:List Int) (t:T3):((q.come s hs t).wr=q.wr∧(q.come s hs t).ls=q.ls)∨(s < ((q.add t).many t.2:Int)∧t.2 ∉ q.wr∧(q.come s hs t).wr=q.wr ++ [t.2]∧(q.come s hs t).ls=q.ls ++ hs.map fun o=>((t.2.1,o,t.2.2),none)):=by
 have addw:(q.add t).wr=q.wr:=by unfold Ps.add; split <;> rfl
 have addl:(q.add t).ls=q.ls:=by unfold Ps.add; split <;> rfl
 have l2:∀ q':Ps,∀ m,(q'.look2 s m t.2).wr=q'.wr∧(q'.look2 s m t.2).ls=q'.ls:=fun q' m=>by unfold Ps.look2; split <;> exact ⟨rfl,rfl⟩
 unfold Ps.come;rw [(l2 _ _).1,(l2 _ _).2];unfold Ps.look1;split
 ·rename_i h;refine .inr ⟨h.1,by rw [<- addw]; exact h.2,?_,?_⟩
  ·show (q.add t).wr ++ _=_;rw [addw]
  ·show (q.add t).ls ++ _=_;rw [addl]
 ·exact .inl ⟨addw,addl⟩
section
variable {M M':Sto} {i lo n:Nat} {s:Int} {fs:List Int} {dl:Int} {es:List (Nat × TL)} {gs:List (Nat × Int × Int)} {q:Ps} {D:PV} {ds:List Int}
theorem chkD_p (P:Pu M i lo n s fs dl es gs q) (hD:Dly D ds) (hl:ds.length<=1000) (hd:∀ d ∈ ds,1<=d∧d<=dl):UA [.ref i,D] M = .ok .non M:=by
 refine yX (ρ:=[some (.ref i),some D]) (ρ':=[some (.ref i),some D]) rfl rfl ?_;unfold d_zaa
 have q1:Xi M [D,.tup [.ty "list",.ty "tuple"]]=some (.bl true,M):=by rcases hD with rfl | rfl <;> rfl
 refine Jk (M1:=M) ?_ (Jl ?_)
 ·rw [vU,vi,Xs]
  have s2:(2:Nat)<=sizeLine:=by decide
  simp [q1,s2]
 ·have q2:yH (dItS (yd 1)) vy [0] vh jaq [some (.ref i),some D] M = .ok (.lst (ds.map fun _=>.bl true)) M:=by
   refine jN (xs:=ds.map PV.int) (M1:=M) (by rcases hD with rfl | rfl <;> rfl) (by rw [List.length_map]; exact Yy hl) ?_
   refine jZ PV.int (fun _=>.bl true) ds fun x hx=>⟨[some (.int x),some (.ref i)],rfl,rfl,?_⟩
   unfold jaq;rw [jW];simp only [jr,jC,vj,jx,Res.bind_ok,P.fld (x:="delay") (v:=.int dl) (d:=yd 1) (ρ:=[some (.int x),some (.ref i)]) rfl rfl];show xu [.int x,.int 1,.int dl] M=_;rw [xg (Kd.int x),vt (hd x hx).1 (hd x hx).2]
  have q3:Xk M (.lst (ds.map fun _=>PV.bl true))=some (.bl true):=by
   have e1:(ds.map fun _=>PV.bl true)=(ds.map fun _=>true).map PV.bl:=by rw [List.map_map]; rfl
   unfold Xk jep;rw [e1];simp only [ud,Option.bind_some,vY]
   have:(ds.map fun _=>true).all id=true:=by simp
   rw [this]
  rw [vU,vi,xk q2 q3];rfl
theorem Pu.setb (P:Pu M i lo n s fs dl es gs q) (b:Int):Pu (M.set i (.ins 13 (puF i n s fs dl b))) i lo n s fs dl es gs ⟨q.wr,q.gt,q.st,q.ls,b⟩∧Fr M (M.set i (.ins 13 (puF i n s fs dl b))) i M.n:=by
 have a:=P.li;have b':=P.ln;have gj:∀ j,j≠i->(M.set i (.ins 13 (puF i n s fs dl b))).g j=M.g j:=fun j h=>Sto.set_ne h;refine ⟨⟨Sto.set_same,by rw [gj _ (by omega)]; exact P.ow,by rw [gj _ (by omega)]; exact P.go,by rw [gj _ (by omega)]; exact P.wt,by rw [gj _ (by omega)]; exact P.sk,fun e he=>?_,P.ed,fun e he=>?_,P.gd,P.gk,P.gc,P.le,a,b'⟩,Fr.mk0 (Nat.le_refl _) fun j h1 h2=>gj j (by omega)⟩
 ·obtain ⟨h1,h2,h3⟩:=P.el e he;exact ⟨h1,h2,by rw [gj _ (by omega)]; exact h3⟩
 ·obtain ⟨h1,h2,h3⟩:=P.gl e he;exact ⟨h1,h2,by rw [gj _ (by omega)]; exact h3⟩
theorem jcu {t:DT} {db:DS} {f:Nat} {ρ ρ2:En} {M M1 M2:Sto} {r:RS} (h1:t ρ M = .ok true M1) (h2:db ρ M1 = .nx ρ2 M2) (h3:yO t db f ρ2 M2=r):yO t db (f + 1) ρ M=r:=by
 unfold yO;rw [h1]
 show (match db ρ M1 with
   | .nx ρ2 M2=>yO t db f ρ2 M2
   | .ct ρ2 M2=>yO t db f ρ2 M2
   | .bk ρ2 M2=>.nx ρ2 M2
   | r=>r)=r
 rw [h2];exact h3
theorem jhd {t:DT} {db:DS} {f:Nat} {ρ:En} {M M1:Sto} (h1:t ρ M = .ok false M1):yO t db (f + 1) ρ M = .nx ρ M1:=by
 unfold yO;rw [h1];rfl
theorem YK (hD:Dly D ds) (hl:ds.length<=1000) (n40:n<=40) (s0:0<=s) (s5:s<=5) {q':Ps}:∀ (f m:Nat) (q:Ps) (at_:Nat) (M:Sto) (es:List (Nat × TL)) (gs:List (Nat × Int × Int)) (x3:Option PV),Run s n fs dl ds m q q'->Pu M i lo n s fs dl es gs q->(∀ x ∈ q.ls,x.2≠none)->at_<=q.ls.length->(∀ j < at_,∀ x,q.ls[j]? = some x->∃ d,x.2=some d∧q.bt < d)->m + (500 - at_) < f->gs.length + m<=60000 ->
  ∃ ρ' M' es' gs',yO (yg (dOp gLt (yd 2) (dCB (one yK) (jb (yo 13 "on_way" (yd 0)) ye)))) Ju f [some (.ref i),some D,some (.int at_),x3] M = .nx ρ' M'∧Pu M' i lo n s fs dl es' gs' q'∧Fr M M' i lo∧gs'.length<=gs.length + m
 | 0,_,_,_,_,_,_,_,_,_,_,_,_,h,_=>absurd h (Nat.not_lt_zero _)
 | f + 1,m,q,at_,M,es,gs,x3,R,P,due,hat,hb,hf,hg=>by
  have hok:OkT n fs q:=by cases R with
   | stop _ ok _=>exact ok
   | step _ _ _ _ _ _ ok _ _ _ _=>exact ok
  obtain ⟨ok1,ok2,ok3,ok4,ok5⟩:=hok;have flen:∀ {y3:Option PV},dCB (one yK) (jb (yo 13 "on_way" (yd 0)) ye) [some (.ref i),some D,some (.int at_),y3] M = .ok (.int q.ls.length) M:=fun {y3}=>xk (P.fld (x:="on_way") rfl rfl) (by rw [yU (yT P.ow),List.length_map,P.elen]);have tt:yg (dOp gLt (yd 2) (dCB (one yK) (jb (yo 13 "on_way" (yd 0)) ye))) [some (.ref i),some D,some (.int at_),x3] M = .ok (decide ((at_:Int) < q.ls.length)) M:=yp (yi (x:=.int at_) rfl flen rfl)
  by_cases hlt:at_ < q.ls.length
  ·rw [decide_eq_true (by omega)] at tt
   obtain ⟨x,hx⟩:∃ x,q.ls[at_]? = some x:=⟨_,List.getElem?_eq_getElem hlt⟩
   obtain ⟨t,u⟩:=x
   obtain ⟨d,rfl⟩:∃ d,u=some d:=by
    cases u with
    | none=>exact absurd rfl (due _ (List.mem_of_getElem? hx))
    | some d=>exact ⟨d,rfl⟩
   obtain ⟨e,he,ex⟩:=P.at_ hx;obtain ⟨e1,e2,e3⟩:=P.el e (List.mem_of_getElem? he);rw [ex] at e3;have kl:=(List.getElem?_eq_some_iff.mp he).1
   have ei:dOp gIx (yo 13 "on_way" (yd 0)) (yd 2) [some (.ref i),some D,some (.int at_),x3] M = .ok (.ref e.1) M:=by
    refine yi (P.fld (x:="on_way") (v:=.ref (i + 1)) rfl rfl) (y:=.int at_) rfl ?_;rw [xT (yT P.ow),ux (by omega) (by rw [List.length_map]; omega),Int.toNat_natCast,List.getElem?_map,he];rfl
   have td:yg (dOp gGt (yo 10 "due" (dOp gIx (yo 13 "on_way" (yd 0)) (yd 2))) (yo 13 "beat" (yd 0))) [some (.ref i),some D,some (.int at_),x3] M = .ok (decide (q.bt < d)) M:=yp (yi (jS (x:="due") (v:=.int d) (i:=e.1) ei e3 rfl) (P.fld (x:="beat") (v:=.int q.bt) rfl rfl) rfl)
   by_cases hdue:q.bt < d
   ·rw [decide_eq_true hdue] at td
    obtain ⟨ρ',M',es',gs',e',P',f',g'⟩:=YK hD hl n40 s0 s5 f m q (at_ + 1) M es gs x3 R P due (by omega) (fun j hj x hx'=>by
     by_cases hja:j=at_
     ·rw [hja,hx] at hx';cases hx';exact ⟨d,rfl,hdue⟩
     ·exact hb j (by omega) x hx') (by omega) hg
    refine ⟨ρ',M',es',gs',jcu (ρ2:=[some (.ref i),some D,some (.int ((at_ + 1:Nat):Int)),x3]) (M2:=M) tt ?_ e',P',f',g'⟩;unfold Ju;exact jeH td rfl
   ·rw [decide_eq_false hdue] at td
    cases R with
    | stop _ ok h =>
     obtain ⟨d',h1,h2⟩:=h _ (List.mem_of_getElem? hx);cases h1;exact absurd h2 hdue
    | step m' _ _ k t' d' ok hk hd hb' hr =>
     have hka:k=at_:=by
      rcases Nat.lt_trichotomy k at_ with h | h | h
      ·obtain ⟨d2,h1,h2⟩:=hb k h _ hk;cases h1;omega
      ·exact h
      ·obtain ⟨d2,h1,h2⟩:=hb' at_ h _ hx;cases h1;exact absurd h2 hdue
     subst hka;rw [hx] at hk;cases hk;obtain ⟨c1,c2,c3⟩:=ok1 _ (List.mem_of_getElem? hx);obtain ⟨M1,es1,gs1,e4,P1,f1,l1⟩:=come_p P n40 s5 s0 (by omega) (by omega) (by omega) (by omega) (by omega) hx c1 c2 c3
     obtain ⟨q1,hq1⟩:∃ q1:Ps,q1=(⟨q.wr,q.gt,q.st,q.ls.eraseIdx k,q.bt⟩:Ps).come s (hon n fs) t:=⟨_,rfl⟩
     rw [<- hq1] at P1;have el:(q.ls.eraseIdx k).length=q.ls.length - 1:=List.length_eraseIdx_of_lt hlt
     have b1:q1.bt=q.bt:=by rw [hq1]; exact jiE _ _ _ _
     have ls1:∃ new:List TL,q1.ls=q.ls.eraseIdx k ++ new∧new.length<=n:=by
      rw [hq1]
      rcases jal ⟨q.wr,q.gt,q.st,q.ls.eraseIdx k,q.bt⟩ s (hon n fs) t with ⟨_,h⟩ | ⟨_,_,_,h⟩
      ·exact ⟨[],by rw [h,List.append_nil],Nat.zero_le _⟩
      ·exact ⟨_,h,by rw [List.length_map]; exact uV n fs⟩
     obtain ⟨new,hnew,hnl⟩:=ls1
     obtain ⟨M2,es2,e5,P2,f2⟩:=jgb P1 hD hl (f:=q.ls.length - 1) (by rw [hnew,List.length_append]; omega) (by rw [hnew,List.length_append]; omega) (fun j hj x hx'=>by
      rw [hnew,List.getElem?_append_left (by omega)] at hx'
      exact due x (xH (List.mem_of_getElem? hx')))
     have hq2:(⟨q1.wr,q1.gt,q1.st,xY fs dl ds q1.bt 0 q1.ls,q1.bt⟩:Ps)=vz s (hon n fs) fs dl ds q k t:=by
      unfold vz;rw [<- hq1,b1]
     rw [hq2] at P2
     have hls:(vz s (hon n fs) fs dl ds q k t).ls=xY fs dl ds q.bt 0 q1.ls:=by rw [<- hq2,b1]
     obtain ⟨ρ',M',es',gs',e',P',f',g'⟩:=YK hD hl n40 s0 s5 f m' _ k M2 es2 gs1 (some (.int ((q.ls.length:Int) - 1))) hr P2 (by rw [hls]; exact uv) (by rw [hls,vI,hnew,List.length_append]; omega) (fun j hj x hx'=>by
      rw [hls,vW,hnew,List.getElem?_append_left (by omega),List.getElem?_eraseIdx_of_lt hj] at hx'
      cases hj':q.ls[j]? with
      | none=>rw [hj'] at hx'; cases hx'
      | some y =>
       rw [hj'] at hx';cases hx';obtain ⟨d2,h1,h2⟩:=hb j hj y hj';rw [Jy (by rw [h1]; exact fun z=>by cases z)]
       exact ⟨d2,h1,by show (vz s (hon n fs) fs dl ds q k t).bt < d2; exact h2⟩) (by omega) (by omega)
     refine ⟨ρ',M',es',gs',jcu (ρ2:=[some (.ref i),some D,some (.int k),some (.int ((q.ls.length:Int) - 1))]) (M2:=M2) tt ?_ e',P',(f1.trans f2).trans f',by omega⟩;unfold Ju;refine jcA td ?_;refine jU (v:=.int ((q.ls.length:Int) - 1)) (M1:=M) (yi flen rfl rfl) ?_;simp only [List.set_cons_succ,List.set_cons_zero];refine yB (v:=p3 t) (M1:=M1) ?_ (yV (v:=.non) ?_)
     ·rw [P.mth (xs:=[.int k]) (zs:=[]) (M1:=M) (M2:=M) rfl rfl rfl rfl];exact e4
     ·rw [P1.mth (xs:=[.int ((q.ls.length:Int) - 1),D]) (zs:=[]) (M1:=M1) (M2:=M1) rfl rfl rfl rfl];rw [show ((q.ls.length:Int) - 1)=((q.ls.length - 1:Nat):Int) by omega];exact e5
  ·rw [decide_eq_false (by omega)] at tt
   have hm:m=0∧q'=q:=by
    cases R with
    | stop _ _ _=>exact ⟨rfl,rfl⟩
    | step m' _ _ k t' d' ok hk hd hb' hr =>
     obtain ⟨d2,h1,h2⟩:=hb k (by have:=(List.getElem?_eq_some_iff.mp hk).1; omega) _ hk;cases h1;omega
   refine ⟨_,M,es,gs,jhd tt,?_,.refl _ _ _,by omega⟩;rw [hm.2];exact P
end

theorem jit (l:List ((Int × Int) × Int)) (h c:Int):xa (l.map ks) [h,c]=(l.find? fun p=>decide (p.1=(h,c))).map fun p=>PV.int p.2:=by
 induction l with
 | nil=>rfl
 | cons x l ih =>
  unfold xa at ih ⊢;rw [List.map_cons,List.find?_cons,List.find?_cons]
  by_cases hx:x.1=(h,c)
  ·rw [decide_eq_true hx,decide_eq_true (show (ks x).1=[h,c] by show [x.1.1,x.1.2]=_; rw [hx])];rfl
  ·have hk:(ks x).1≠[h,c]:=fun z=>hx (by
    have z:[x.1.1,x.1.2]=[h,c]:=z
    injection z with z1 z2
    injection z2 with z2 _
    exact Prod.ext z1 z2)
   rw [decide_eq_false hx,decide_eq_false hk];exact ih
def yC (q:Ps) (p:Int × Int):Option Int:=(q.st.find? fun x=>decide (x.1=p)).map (·.2)
section
variable {M M':Sto} {i lo n:Nat} {s:Int} {fs:List Int} {dl:Int} {es:List (Nat × TL)} {gs:List (Nat × Int × Int)} {q:Ps} {D:PV} {ds:List Int}
theorem jiV (P:Pu M i lo n s fs dl es gs q):uz [.ref i] M = .ok (.int q.bt) M:=by
 refine jY (ρ:=[some (.ref i)]) rfl rfl ?_;unfold d_zaq;exact jR (P.fld (x:="beat") rfl rfl)
theorem jaB (P:Pu M i lo n s fs dl es gs q) {h c:Int} (hh:h ∈ hon n fs) (c0:1<=c) (c1:c<=99):Ym [.ref i,.int h,.int c] M = .ok (yu (yC q (h,c))) M:=by
 refine jY (ρ:=[some (.ref i),some (.int h),some (.int c)]) rfl rfl ?_;unfold d_zad;refine yB (v:=.non) (M1:=M) ?_ ?_
 ·rw [P.mth (xs:=[.int h]) (zs:=[]) (M1:=M) (M2:=M) rfl rfl rfl rfl];exact jdf P hh
 refine yB (v:=.non) (M1:=M) ?_ ?_
 ·simp only [jW,jr,jC,jI,jx,Res.bind_ok];exact jgT c0 c1
 refine jR ?_;unfold jag;rw [P.fld (x:="struck") (v:=.ref (i + 4)) (d:=yd 0) (ρ:=[some (.ref i),some (.int h),some (.int c)]) rfl rfl];simp only [Res.bind_ok,P.sk,jr,jC,jI,jx];show (if (2:Nat)<=sizeLine then Res.ok ((xa (q.st.map ks) [h,c]).getD .non) M else .bad)=_;rw [if_pos (by decide),jit];unfold yC
 cases q.st.find? fun x=>decide (x.1=(h,c)) with
 | none=>rfl
 | some p=>rfl
theorem jiq (P:Pu M i lo n s fs dl es gs q) (hD:Dly D ds) (hl:ds.length<=1000) (hd:∀ d ∈ ds,1<=d∧d<=dl) (n40:n<=40) (s0:0<=s) (s5:s<=5) (hb:q.bt < 5000) (hn:q.ls.length<=500) {m:Nat} {q':Ps} (R:Run s n fs dl ds m ⟨q.wr,q.gt,q.st,xY fs dl ds q.bt 0 q.ls,q.bt + 1⟩ q') (hm:m<=400) (hg:gs.length + m<=60000) :
  ∃ M' es' gs',uA [.ref i,D] M = .ok .non M'∧Pu M' i lo n s fs dl es' gs' q'∧Fr M M' i lo∧gs'.length<=gs.length + m:=by
 obtain ⟨M1,es1,e1,P1,f1⟩:=jgb P hD hl (f:=0) (Nat.zero_le _) (by omega) (fun j hj=>absurd hj (Nat.not_lt_zero _));obtain ⟨P2,f2⟩:=P1.setb (q.bt + 1)
 obtain ⟨M2,hM2⟩:∃ M2,M2=M1.set i (.ins 13 (puF i n s fs dl (q.bt + 1))):=⟨_,rfl⟩
 rw [<- hM2] at P2 f2;obtain ⟨ρ',M3,es3,gs3,e3,P3,f3,g3⟩:=YK hD hl n40 s0 s5 1000 m _ 0 M2 es1 gs none R P2 (by show ∀ x ∈ xY _ _ _ _ _ _,_; exact uv) (Nat.zero_le _) (fun j hj=>absurd hj (Nat.not_lt_zero _)) (by omega) hg;refine ⟨M3,es3,gs3,?_,P3,(f1.trans (f2.weak P1.ln P1.li)).trans f3,g3⟩
 have e0:yv 2 4 jgH [.ref i,D] M = .ok .non M3:=by
  refine yX (ρ:=[some (.ref i),some D,none,none]) (ρ':=ρ') rfl rfl ?_;unfold jgH;refine yB (v:=.non) (M1:=M) ?_ ?_
  ·rw [P.mth (xs:=[D]) (zs:=[]) (M1:=M) (M2:=M) rfl rfl rfl rfl];exact chkD_p P hD hl hd
  refine Jk (M1:=M) (yp (yi (P.fld (x:="beat") (v:=.int q.bt) rfl rfl) rfl (by show some (PV.bl (decide ((5000:Int)<=q.bt)))=_; rw [decide_eq_false (by omega)]))) ?_;refine yB (v:=.non) (M1:=M1) ?_ ?_
  ·rw [P.mth (xs:=[.int 0,D]) (zs:=[]) (M1:=M) (M2:=M) rfl rfl rfl rfl];exact e1
  have ea:jaE 13 "beat" Yg (yd 0) (dC (.int 1)) [some (.ref i),some D,none,none] M1 = .nx [some (.ref i),some D,none,none] M2:=by
   unfold jaE;simp only [jC,Res.st_ok,um P1.pu,vj,show (puF i n s fs dl q.bt).lookup ("beat":Str)=some (.int q.bt) from rfl,show Yg M1 (.int q.bt) (.int 1)=some (.int (q.bt + 1)) from rfl,show (puF i n s fs dl q.bt).length < 1000 from (show 9 < 1000 by decide),if_true];rw [hM2];rfl
  unfold yh;rw [ea];exact e3
 show both _ _ _ _=_;unfold both;rw [e0]
end
structure Wv (n:Nat) (fs:List Int) (c:Int) (q:Ps):Prop where
 ls:∀ x ∈ q.ls,x.1.2.1 ∈ hon n fs∧x.1.2.2=c
 wr:∀ p ∈ q.wr,p.1 ∈ hon n fs∧p.2=c
 nd:q.wr.Nodup
theorem vN {α:Type} [DecidableEq α]:∀ (l m:List α),l.Nodup->(∀ x ∈ l,x ∈ m)->l.length<=m.length
 | [],_,_,_=>Nat.zero_le _
 | a :: l,m,hn,h=>by
  obtain ⟨h1,h2⟩:=List.nodup_cons.mp hn;have ha:=h a List.mem_cons_self
  have:=vN l (m.erase a) h2 fun x hx=>(List.mem_erase_of_ne (fun z:x=a=>h1 (by rw [<- z]; exact hx))).mpr (h x (List.mem_cons_of_mem _ hx))
  rw [List.length_erase_of_mem ha] at this
  have:m.length≠0:=fun z=>by rw [List.eq_nil_of_length_eq_zero z] at ha; cases ha
  rw [List.length_cons];omega
theorem xM {α:Type} {l:List α} {x:α} (h:l.Nodup) (hx:x ∉ l):(l ++ [x]).Nodup:=List.nodup_append.mpr ⟨h,List.nodup_cons.mpr ⟨fun z=>(by cases z),.nil⟩,fun a ha b hb e=>hx (by
 rw [List.mem_singleton.mp hb] at e
 exact e ▸ ha)⟩
section
variable {n:Nat} {fs:List Int} {s:Int} {dl:Int} {ds:List Int} {q:Ps} {c:Int}
theorem Wv.len (W:Wv n fs c q):q.wr.length<=n:=by
 have h:=vN q.wr ((hon n fs).map fun h=>(h,c)) W.nd fun p hp=>by
  obtain ⟨h1,h2⟩:=W.wr p hp;exact List.mem_map.mpr ⟨p.1,h1,Prod.ext rfl h2.symm⟩
 rw [List.length_map] at h
 have:=uV n fs
 omega
theorem jeh (q:Ps) (s:Int) (hs:List Int) (t:T3):(q.come s hs t).gt.length<=q.gt.length + 1∧(q.come s hs t).st.length<=q.st.length + 1:=by
 have addn:(q.add t).gt.length<=q.gt.length + 1:=by
  unfold Ps.add;split
  ·exact Nat.le_succ _
  ·show (q.gt ++ [_]).length<=_;rw [List.length_append];exact Nat.le_refl _
 have adds:(q.add t).st=q.st:=by unfold Ps.add; split <;> rfl
 have l1:((q.add t).look1 s hs t.2).gt=(q.add t).gt∧((q.add t).look1 s hs t.2).st=q.st:=by
  unfold Ps.look1;split <;> exact ⟨rfl,adds⟩
 unfold Ps.come Ps.look2;split
 ·refine ⟨by show ((q.add t).look1 s hs t.2).gt.length<=_; rw [l1.1]; exact addn,?_⟩;show (((q.add t).look1 s hs t.2).st ++ [_]).length<=_;rw [l1.2,List.length_append];exact Nat.le_refl _
 ·exact ⟨by rw [l1.1]; exact addn,by rw [l1.2]; exact Nat.le_succ _⟩
theorem Wv.dated (W:Wv n fs c q) (b:Int) (k:Nat):Wv n fs c ⟨q.wr,q.gt,q.st,xY fs dl ds b k q.ls,q.bt⟩:=by
 refine ⟨fun x hx=>?_,W.wr,W.nd⟩
 have h1:x.1 ∈ q.ls.map (·.1):=by
  rw [<- jgP (fs:=fs) (dl:=dl) (ds:=ds) (b:=b) q.ls k];exact List.mem_map.mpr ⟨x,hx,rfl⟩
 obtain ⟨y,hy,e⟩:=List.mem_map.mp h1;rw [<- e];exact W.ls y hy
theorem Wv.bt (W:Wv n fs c q) (b:Int):Wv n fs c ⟨q.wr,q.gt,q.st,q.ls,b⟩:=⟨W.ls,W.wr,W.nd⟩
theorem Wv.step (W:Wv n fs c q) {k:Nat} {t:T3} {u:Option Int} (hk:q.ls[k]? = some (t,u)):Wv n fs c (vz s (hon n fs) fs dl ds q k t):=by
 obtain ⟨t1,t2⟩:=W.ls _ (List.mem_of_getElem? hk)
 have W1:Wv n fs c ((⟨q.wr,q.gt,q.st,q.ls.eraseIdx k,q.bt⟩:Ps).come s (hon n fs) t):=by
  rcases jal ⟨q.wr,q.gt,q.st,q.ls.eraseIdx k,q.bt⟩ s (hon n fs) t with ⟨h1,h2⟩ | ⟨_,h0,h1,h2⟩
  ·exact ⟨by rw [h2]; exact fun x hx=>W.ls x (xH hx),by rw [h1]; exact W.wr,by rw [h1]; exact W.nd⟩
  ·refine ⟨?_,?_,?_⟩
   ·rw [h2];intro x hx
    rcases List.mem_append.mp hx with hx | hx
    ·exact W.ls x (xH hx)
    ·obtain ⟨o,ho,rfl⟩:=List.mem_map.mp hx;exact ⟨ho,t2⟩
   ·rw [h1];intro p hp
    rcases List.mem_append.mp hp with hp | hp
    ·exact W.wr p hp
    ·rw [List.mem_singleton.mp hp];exact ⟨t1,t2⟩
   ·rw [h1];exact xM W.nd h0
 have:=(W1.dated (dl:=dl) (ds:=ds) q.bt 0).bt q.bt
 exact this
theorem jeI (n8:n<=8) (c0:1<=c) (c1:c<=99):∀ (N:Nat) (q:Ps),Wv n fs c q->(∀ x ∈ q.ls,x.2≠none)->q.ls.length + 8 * (8 - q.wr.length)<=N->N<=400->q.st.length + N<=50000->q.gt.length + N<=50000 ->
  ∃ m q',Run s n fs dl ds m q q'∧m<=N∧Wv n fs c q'∧(∀ x ∈ q'.ls,x.2≠none)∧q'.ls.length + 8 * (8 - q'.wr.length)<=q.ls.length + 8 * (8 - q.wr.length)∧q'.st.length<=q.st.length + m∧q'.gt.length<=q.gt.length + m∧q'.bt=q.bt
 | N,q,W,due,hN,h400,hst,hgt=>by
  have wl:=W.len
  have ok:OkT n fs q:=⟨fun x hx=>⟨(W.ls x hx).1,by rw [(W.ls x hx).2]; exact c0,by rw [(W.ls x hx).2]; exact c1⟩,by omega,by omega,by omega,by omega⟩
  cases hf:q.ls.findIdx? fun x=>match x.2 with
    | some d=>decide (d<=q.bt)
    | none=>false with
  | none =>
   refine ⟨0,q,.stop q ok fun x hx=>?_,Nat.zero_le _,W,due,Nat.le_refl _,by omega,by omega,rfl⟩;have h:=List.findIdx?_eq_none_iff.mp hf x hx
   cases hx2:x.2 with
   | none=>exact absurd hx2 (due x hx)
   | some d =>
    rw [hx2] at h;have h:decide (d<=q.bt)=false:=h;exact ⟨d,rfl,by have:=of_decide_eq_false h; omega⟩
  | some k =>
   obtain ⟨kl,h1,h2⟩:=List.findIdx?_eq_some_iff_getElem.mp hf
   obtain ⟨x,hx⟩:∃ x,x=q.ls[k]:=⟨_,rfl⟩
   rw [<- hx] at h1;obtain ⟨t,u⟩:=x
   cases u with
   | none=>cases h1
   | some d =>
    have h1:decide (d<=q.bt)=true:=h1
    have hk:q.ls[k]? = some (t,some d):=by rw [List.getElem?_eq_getElem kl,hx]
    have hb:∀ j < k,∀ x,q.ls[j]? = some x->∃ d,x.2=some d∧q.bt < d:=fun j hj x hx'=>by
     obtain ⟨jl,je⟩:=List.getElem?_eq_some_iff.mp hx';have h:=h2 j hj;rw [je] at h
     cases hx2:x.2 with
     | none=>exact absurd hx2 (due x (List.mem_of_getElem? hx'))
     | some d' =>
      rw [hx2] at h;have h:¬ (decide (d'<=q.bt)=true):=h;exact ⟨d',rfl,by have:=of_decide_eq_false (Bool.not_eq_true _ ▸ h); omega⟩
    have W1:Wv n fs c (vz s (hon n fs) fs dl ds q k t):=W.step hk;have wl1:=W1.len;have el:(q.ls.eraseIdx k).length=q.ls.length - 1:=List.length_eraseIdx_of_lt kl;have hnl:=uV n fs;obtain ⟨z1,z2⟩:=jeh ⟨q.wr,q.gt,q.st,q.ls.eraseIdx k,q.bt⟩ s (hon n fs) t;have z1:(vz s (hon n fs) fs dl ds q k t).gt.length<=q.gt.length + 1:=z1;have z2:(vz s (hon n fs) fs dl ds q k t).st.length<=q.st.length + 1:=z2
    have hphi:(vz s (hon n fs) fs dl ds q k t).ls.length + 8 * (8 - (vz s (hon n fs) fs dl ds q k t).wr.length) + 1<=q.ls.length + 8 * (8 - q.wr.length):=by
     have e1:(vz s (hon n fs) fs dl ds q k t).ls.length=((⟨q.wr,q.gt,q.st,q.ls.eraseIdx k,q.bt⟩:Ps).come s (hon n fs) t).ls.length:=vI _ _;have e2:(vz s (hon n fs) fs dl ds q k t).wr=((⟨q.wr,q.gt,q.st,q.ls.eraseIdx k,q.bt⟩:Ps).come s (hon n fs) t).wr:=rfl;rw [e2] at wl1;rw [e1,e2]
     rcases jal ⟨q.wr,q.gt,q.st,q.ls.eraseIdx k,q.bt⟩ s (hon n fs) t with ⟨g1,g2⟩ | ⟨_,_,g1,g2⟩
     ·rw [g1,g2];show (q.ls.eraseIdx k).length + 8 * (8 - q.wr.length) + 1<=_;omega
     ·rw [g1,List.length_append] at wl1;have wl1:q.wr.length + 1<=n:=wl1;rw [g1,g2,List.length_append,List.length_append,List.length_map];show (q.ls.eraseIdx k).length + _ + 8 * (8 - (q.wr.length + 1)) + 1<=_;omega
    cases N with
    | zero=>omega
    | succ N =>
     obtain ⟨m,q',R,hm,W',due',phi',st',gt',bt'⟩:=jeI n8 c0 c1 N (vz s (hon n fs) fs dl ds q k t) W1 (by show ∀ x ∈ xY _ _ _ _ _ _,_; exact uv) (by omega) (by omega) (by omega) (by omega);exact ⟨m + 1,q',.step m q q' k t d ok hk (of_decide_eq_true h1) hb R,by omega,W',due',by omega,by omega,by omega,bt'⟩
end

structure J0 (n:Nat) (fs:List Int) (s dl c:Int) (w:Int->Int) (q:Ps):Prop where
 nd:q.gt.Nodup
 gs:∀ t ∈ q.gt,t.1 ∈ fs∨(t.1,c) ∈ q.wr
 lx:∀ x ∈ q.ls,x.1.1 ∈ fs∨(x.1.1,c) ∈ q.wr
 ww:∀ p ∈ q.wr,w p.1<=q.bt
 wl:∀ p ∈ q.wr,∀ o ∈ hon n fs,(p.1,o,c) ∈ q.gt∨∃ x ∈ q.ls,x.1=(p.1,o,c)∧(x.2=none->w p.1=q.bt)∧∀ d,x.2=some d->d<=w p.1 + dl
 sb:∀ x ∈ q.st,x.2<=q.bt∧x.1.1 ∈ hon n fs∧x.1.2=c∧s < (((hon n fs).filter fun h=>decide ((h,c) ∈ q.wr∧w h<=x.2)).length:Int)
 sn:(q.st.map (·.1)).Nodup
structure J1 (n:Nat) (fs:List Int) (s c:Int) (q:Ps):Prop where
 mw:∀ o ∈ hon n fs,s < (q.many (o,c):Int)->(o,c) ∈ q.wr
 ms:∀ o ∈ hon n fs,2 * s < (q.many (o,c):Int)->(o,c) ∈ q.st.map (·.1)
theorem JP {α β:Type} {f:α->β} {l:List α} (h:l.Nodup) (hi:∀ a ∈ l,∀ b ∈ l,f a=f b->a=b):(l.map f).Nodup:=by
 induction l with
 | nil=>exact .nil
 | cons a l ih =>
  obtain ⟨h1,h2⟩:=List.nodup_cons.mp h;rw [List.map_cons];refine List.nodup_cons.mpr ⟨fun hm=>?_,ih h2 fun x hx y hy=>hi x (List.mem_cons_of_mem _ hx) y (List.mem_cons_of_mem _ hy)⟩;obtain ⟨b,hb,e⟩:=List.mem_map.mp hm;rw [hi b (List.mem_cons_of_mem _ hb) a List.mem_cons_self e] at hb;exact h1 hb
theorem UY (n:Nat) (fs:List Int):(hon n fs).Nodup:=by
 refine List.Nodup.sublist List.filter_sublist ?_;refine JP List.nodup_range fun a _ b _ h=>?_;omega
section
variable {n:Nat} {fs:List Int} {s dl c:Int} {w:Int->Int} {q:Ps}
def frm (q:Ps) (p:Int × Int):List Int:=(q.gt.filter fun t=>decide (t.2=p)).map (·.1)
theorem jcW (q:Ps) (p:Int × Int):(frm q p).length=q.many p:=List.length_map ..
theorem jcQ {q:Ps} {p:Int × Int} {a:Int}:a ∈ frm q p↔(a,p) ∈ q.gt:=by
 constructor
 ·intro h;obtain ⟨t,ht,rfl⟩:=List.mem_map.mp h;obtain ⟨h1,h2⟩:=List.mem_filter.mp ht;have h2:t.2=p:=of_decide_eq_true h2;rw [<- h2];exact h1
 ·exact fun h=>List.mem_map.mpr ⟨_,List.mem_filter.mpr ⟨h,decide_eq_true rfl⟩,rfl⟩
theorem frm_nd (h:q.gt.Nodup) (p:Int × Int):(frm q p).Nodup:=by
 refine JP (h.sublist List.filter_sublist) fun a ha b hb e=>?_;have h1:a.2=p:=of_decide_eq_true (List.mem_filter.mp ha).2;have h2:b.2=p:=of_decide_eq_true (List.mem_filter.mp hb).2;exact Prod.ext e (h1.trans h2.symm)
theorem jfL {S:List Int} (hS:S.Nodup) {o c:Int} (h:∀ a ∈ S,(a,o,c) ∈ q.gt):S.length<=q.many (o,c):=by
 rw [<- jcW];exact vN S _ hS fun a ha=>jcQ.mpr (h a ha)
theorem jfK (J:J0 n fs s dl c w q) (V:Wv n fs c q) (o:Int):q.many (o,c)<=fs.length + ((hon n fs).filter fun h=>decide ((h,c) ∈ q.wr∧w h<=q.bt)).length:=by
 rw [<- jcW,<- List.length_append];refine vN _ _ (frm_nd J.nd _) fun a ha=>?_
 rcases J.gs _ (jcQ.mp ha) with h | h
 ·exact List.mem_append_left _ h
 ·exact List.mem_append_right _ (List.mem_filter.mpr ⟨(V.wr _ h).1,decide_eq_true ⟨h,J.ww _ h⟩⟩)
theorem J0.beat (J:J0 n fs s dl c w q) (due:∀ x ∈ q.ls,x.2≠none) {b:Int} (hb:q.bt<=b):J0 n fs s dl c w ⟨q.wr,q.gt,q.st,q.ls,b⟩ :=
 ⟨J.nd,J.gs,J.lx,fun p hp=>Int.le_trans (J.ww p hp) hb,fun p hp o ho=>by
  rcases J.wl p hp o ho with h | ⟨x,hx,h1,h2,h3⟩
  ·exact .inl h
  ·exact .inr ⟨x,hx,h1,fun z=>absurd z (due x hx),h3⟩,fun x hx=>by
  obtain ⟨h1,h2,h3,h4⟩:=J.sb x hx
  exact ⟨Int.le_trans h1 hb,h2,h3,h4⟩,J.sn⟩
theorem jih {ds:List Int} (hd:∀ d ∈ ds,1<=d∧d<=dl) (k:Nat) (t:T3):vq fs dl ds k t<=dl:=by
 unfold vq;split
 ·exact Int.le_refl _
 ·rename_i h;have hz:ds.length≠0:=fun z=>h (.inr (List.eq_nil_of_length_eq_zero z));have hk:k % ds.length < ds.length:=Nat.mod_lt _ (by omega);rw [List.getD_eq_getElem?_getD,List.getElem?_eq_getElem hk];exact (hd _ (List.getElem_mem hk)).2
theorem J0.dated (J:J0 n fs s dl c w q) {ds:List Int} (hd:∀ d ∈ ds,1<=d∧d<=dl):J0 n fs s dl c w ⟨q.wr,q.gt,q.st,xY fs dl ds q.bt 0 q.ls,q.bt⟩ :=
 ⟨J.nd,J.gs,fun x hx=>by
  have h1:x.1 ∈ q.ls.map (·.1):=by
   rw [<- jgP (fs:=fs) (dl:=dl) (ds:=ds) (b:=q.bt) q.ls 0];exact List.mem_map.mpr ⟨x,hx,rfl⟩
  obtain ⟨y,hy,e⟩:=List.mem_map.mp h1;rw [<- e]
  exact J.lx y hy,J.ww,fun p hp o ho=>by
  rcases J.wl p hp o ho with h | ⟨x,hx,h1,h2,h3⟩
  ·exact .inl h
  ·obtain ⟨j,hj⟩:=List.getElem?_of_mem hx;have hm:JY fs dl ds q.bt j x ∈ xY fs dl ds q.bt 0 q.ls:=List.mem_of_getElem? (i:=j) (by rw [vW,hj,Nat.zero_add]; rfl);refine .inr ⟨_,hm,by rw [jgK]; exact h1,fun z=>absurd z (jbi _ _),fun d hd'=>?_⟩
   cases e:x.2 with
   | none =>
    have e2:JY fs dl ds q.bt j x=(x.1,some (q.bt + vq fs dl ds j x.1)):=by unfold JY; rw [e]
    rw [e2] at hd';cases hd'
    have:=jih (fs:=fs) hd j x.1
    have:=h2 e
    omega
   | some d2 =>
    rw [Jy (by rw [e]; exact fun z=>by cases z)] at hd'
    exact h3 d hd',J.sb,J.sn⟩
theorem J1.dated (J:J1 n fs s c q) (l:List TL) (b:Int):J1 n fs s c ⟨q.wr,q.gt,q.st,l,b⟩:=⟨J.mw,J.ms⟩
theorem J0.got (J:J0 n fs s dl c w q) {k:Nat} {t:T3} {u:Option Int} (hk:q.ls[k]? = some (t,u)):J0 n fs s dl c w ((⟨q.wr,q.gt,q.st,q.ls.eraseIdx k,q.bt⟩:Ps).add t):=by
 have ht:=J.lx _ (List.mem_of_getElem? hk);obtain ⟨kl,ke⟩:=List.getElem?_eq_some_iff.mp hk
 have er:∀ x ∈ q.ls,x ∈ q.ls.eraseIdx k∨x=(t,u):=fun x hx=>by
  obtain ⟨j,hj⟩:=List.getElem?_of_mem hx
  by_cases z:j=k
  ·rw [z,hk] at hj;exact .inr (Option.some.inj hj).symm
  ·exact .inl (List.mem_eraseIdx_iff_getElem?.mpr ⟨j,z,hj⟩)
 have key:∀ g:List T3,q.gt ⊆ g->t ∈ g->g.Nodup->(∀ x ∈ g,x ∈ q.gt∨x=t)->J0 n fs s dl c w ⟨q.wr,g,q.st,q.ls.eraseIdx k,q.bt⟩:=fun g h1 h2 h3 h4 =>
  ⟨h3,fun x hx=>by
   rcases h4 x hx with h | rfl
   ·exact J.gs x h
   ·exact ht,fun x hx=>J.lx x (xH hx),J.ww,fun p hp o ho=>by
   rcases J.wl p hp o ho with h | ⟨x,hx,z1,z2,z3⟩
   ·exact .inl (h1 h)
   ·rcases er x hx with h | rfl
    ·exact .inr ⟨x,h,z1,z2,z3⟩
    ·have z1:t=_:=z1
     exact .inl (z1 ▸ h2),J.sb,J.sn⟩
 unfold Ps.add;split
 ·rename_i h;exact key q.gt (fun _ h=>h) h J.nd fun x hx=>.inl hx
 ·rename_i h
  exact key (q.gt ++ [t]) (fun _ h=>List.mem_append_left _ h) (List.mem_append_right _ (List.mem_singleton.mpr rfl)) (xM J.nd h) fun x hx=>by
   rcases List.mem_append.mp hx with hx | hx
   ·exact .inl hx
   ·exact .inr (List.mem_singleton.mp hx)
def jax (w:Int->Int) (h b:Int):Int->Int:=fun x=>if x=h then b else w x
theorem J0.say (J:J0 n fs s dl c w q) {h:Int} (hm:(h,c) ∉ q.wr):J0 n fs s dl c (jax w h q.bt) (q.say (hon n fs) (h,c)):=by
 have old:∀ p ∈ q.wr,p.2=c->jax w h q.bt p.1=w p.1:=fun p hp hc=>if_neg fun z=>hm (by rw [<- z,<- hc]; exact hp);have oldc:∀ a,(a,c) ∈ q.wr->jax w h q.bt a=w a:=fun a ha=>old (a,c) ha rfl
 have le:∀ a,w a<=q.bt->jax w h q.bt a<=q.bt:=fun a ha=>by
  unfold jax;split
  ·exact Int.le_refl _
  ·exact ha
 refine ⟨J.nd,fun t ht=>(J.gs t ht).imp id fun z=>List.mem_append_left _ z,fun x hx=>?_,fun p hp=>?_,fun p hp o ho=>?_,fun x hx=>?_,J.sn⟩
 ·rcases List.mem_append.mp hx with hx | hx
  ·exact (J.lx x hx).imp id fun z=>List.mem_append_left _ z
  ·obtain ⟨o,ho,rfl⟩:=List.mem_map.mp hx;exact .inr (List.mem_append_right _ (List.mem_singleton.mpr rfl))
 ·rcases List.mem_append.mp hp with hp | hp
  ·exact le _ (J.ww p hp)
  ·rw [List.mem_singleton.mp hp];exact Int.le_of_eq (if_pos rfl)
 ·rcases List.mem_append.mp hp with hp | hp
  ·by_cases z:p.1=h
   ·refine .inr ⟨((p.1,o,c),none),List.mem_append_right _ (List.mem_map.mpr ⟨o,ho,by rw [z]⟩),rfl,fun _=>if_pos z,fun d hd=>by cases hd⟩
   ·have e:jax w h q.bt p.1=w p.1:=if_neg z;rw [e]
    rcases J.wl p hp o ho with h1 | ⟨x,hx,z1,z2,z3⟩
    ·exact .inl h1
    ·exact .inr ⟨x,List.mem_append_left _ hx,z1,z2,z3⟩
  ·rw [List.mem_singleton.mp hp];exact .inr ⟨((h,o,c),none),List.mem_append_right _ (List.mem_map.mpr ⟨o,ho,rfl⟩),rfl,fun _=>if_pos rfl,fun d hd=>by cases hd⟩
 ·obtain ⟨h1,h2,h3,h4⟩:=J.sb x hx;refine ⟨h1,h2,h3,Int.lt_of_lt_of_le h4 (Int.ofNat_le.mpr ?_)⟩;refine vN _ _ ((UY n fs).sublist List.filter_sublist) fun a ha=>?_;obtain ⟨a1,a2⟩:=List.mem_filter.mp ha;obtain ⟨a2,a3⟩:=of_decide_eq_true a2;exact List.mem_filter.mpr ⟨a1,decide_eq_true ⟨List.mem_append_left _ a2,by rw [oldc a a2]; exact a3⟩⟩
theorem J0.strike (J:J0 n fs s dl c w q) (V:Wv n fs c q) (fl:(fs.length:Int)<=s) {o:Int} (ho:o ∈ hon n fs) (hm:2 * s < (q.many (o,c):Int)) (hn:(o,c) ∉ q.st.map (·.1)):J0 n fs s dl c w (q.strike (o,c)):=by
 refine ⟨J.nd,J.gs,J.lx,J.ww,J.wl,fun x hx=>?_,?_⟩
 ·rcases List.mem_append.mp hx with hx | hx
  ·exact J.sb x hx
  ·rw [List.mem_singleton.mp hx]
   have:=jfK J V o
   exact ⟨Int.le_refl _,ho,rfl,by
    show s < (((hon n fs).filter fun h=>decide ((h,c) ∈ q.wr∧w h<=q.bt)).length:Int)
    omega⟩
 ·show ((q.st ++ [((o,c),q.bt)]).map (·.1)).Nodup;rw [List.map_append];exact xM J.sn hn
structure Gr (w w':Int->Int) (q q':Ps):Prop where
 wr:∀ p ∈ q.wr,p ∈ q'.wr
 ww:∀ p ∈ q.wr,w' p.1=w p.1
 st:∃ new,q'.st=q.st ++ new∧∀ x ∈ new,x.2=q.bt
 bt:q'.bt=q.bt
theorem Gr.refl (w:Int->Int) (q:Ps):Gr w w q q:=⟨fun _ h=>h,fun _ _=>rfl,⟨[],(List.append_nil _).symm,fun _ h=>(by cases h)⟩,rfl⟩
theorem Gr.trans {w1 w2 w3:Int->Int} {q1 q2 q3:Ps} (h:Gr w1 w2 q1 q2) (k:Gr w2 w3 q2 q3):Gr w1 w3 q1 q3:=by
 obtain ⟨a,ea,ha⟩:=h.st;obtain ⟨b,eb,hb⟩:=k.st
 exact ⟨fun p hp=>k.wr p (h.wr p hp),fun p hp=>(k.ww p (h.wr p hp)).trans (h.ww p hp),⟨a ++ b,by rw [eb,ea,List.append_assoc],fun x hx=>by
  rcases List.mem_append.mp hx with hx | hx
  ·exact ha x hx
  ·rw [hb x hx,h.bt]⟩,k.bt.trans h.bt⟩
theorem step_J {ds:List Int} (hd:∀ d ∈ ds,1<=d∧d<=dl) (s0:0<=s) (fl:(fs.length:Int)<=s) (J:J0 n fs s dl c w q) (I:J1 n fs s c q) (V:Wv n fs c q) {k:Nat} {t:T3} {u:Option Int} (hk:q.ls[k]? = some (t,u)) :
  ∃ w',J0 n fs s dl c w' (vz s (hon n fs) fs dl ds q k t)∧J1 n fs s c (vz s (hon n fs) fs dl ds q k t)∧Gr w w' q (vz s (hon n fs) fs dl ds q k t)∧(q.wr=[]->(vz s (hon n fs) fs dl ds q k t).wr=[]):=by
 obtain ⟨t1,t2⟩:=V.ls _ (List.mem_of_getElem? hk);obtain ⟨a,o,c'⟩:=t;have t2:c=c':=Eq.symm t2;subst t2;have t1:o ∈ hon n fs:=t1
 obtain ⟨q0,hq0⟩:∃ q0:Ps,q0=⟨q.wr,q.gt,q.st,q.ls.eraseIdx k,q.bt⟩:=⟨_,rfl⟩
 obtain ⟨q1,hq1⟩:∃ q1,q1=q0.add (a,o,c):=⟨_,rfl⟩
 have Ja:J0 n fs s dl c w q1:=by rw [hq1,hq0]; exact J.got hk
 have addw:q1.wr=q.wr:=by rw [hq1,hq0]; unfold Ps.add; split <;> rfl
 have adds:q1.st=q.st:=by rw [hq1,hq0]; unfold Ps.add; split <;> rfl
 have addb:q1.bt=q.bt:=by rw [hq1,hq0]; unfold Ps.add; split <;> rfl
 have addl:q1.ls=q.ls.eraseIdx k:=by rw [hq1,hq0]; unfold Ps.add; split <;> rfl
 have oth:∀ o',o'≠o->q1.many (o',c)=q.many (o',c):=fun o' ho=>by
  rw [hq1,hq0];unfold Ps.add;split
  ·rfl
  ·unfold Ps.many;show ((q.gt ++ [(a,o,c)]).filter _).length=_;rw [List.filter_append]
   have:[(a,o,c)].filter (fun t=>decide (t.2=(o',c)))=[]:=by
    rw [List.filter_cons_of_neg]
    ·rfl
    ·intro z;have z:(o,c)=(o',c):=of_decide_eq_true z;exact ho (congrArg (·.1) z).symm
   rw [this,List.append_nil]
 have Va:Wv n fs c q1:=⟨by rw [addl]; exact fun x hx=>V.ls x (xH hx),by rw [addw]; exact V.wr,by rw [addw]; exact V.nd⟩
 obtain ⟨m,hm⟩:∃ m,m=q1.many (o,c):=⟨_,rfl⟩
 obtain ⟨q2,hq2⟩:∃ q2,q2=q1.look1 s (hon n fs) (o,c):=⟨_,rfl⟩
 have g2:q2.gt=q1.gt∧q2.st=q.st∧q2.bt=q.bt:=by rw [hq2]; unfold Ps.look1; split <;> exact ⟨rfl,adds,addb⟩
 have L1:∃ w',J0 n fs s dl c w' q2∧Wv n fs c q2∧(∀ p ∈ q.wr,p ∈ q2.wr)∧(∀ p ∈ q.wr,w' p.1=w p.1)∧(s < (m:Int)->(o,c) ∈ q2.wr)∧(q.wr=[]->q2.wr=[]):=by
  rw [hq2];unfold Ps.look1;rw [<- hm];split
  ·rename_i hc;refine ⟨_,Ja.say hc.2,⟨fun x hx=>?_,fun p hp=>?_,xM Va.nd hc.2⟩,fun p hp=>List.mem_append_left _ (by rw [addw]; exact hp),fun p hp=>?_,fun _=>List.mem_append_right _ (List.mem_singleton.mpr rfl),fun hz=>?_⟩
   ·rcases List.mem_append.mp hx with hx | hx
    ·exact Va.ls x hx
    ·obtain ⟨o',ho',rfl⟩:=List.mem_map.mp hx;exact ⟨ho',rfl⟩
   ·rcases List.mem_append.mp hp with hp | hp
    ·exact Va.wr p hp
    ·rw [List.mem_singleton.mp hp];exact ⟨t1,rfl⟩
   ·refine if_neg fun z=>hc.2 ?_;rw [addw,<- z,<- (V.wr p hp).2];exact hp
   ·exfalso
    have h1:=jfK Ja Va o;rw [addw,hz] at h1
    have:((hon n fs).filter fun h=>decide ((h,c) ∈ ([]:List (Int × Int))∧w h<=q1.bt))=[]:=List.filter_eq_nil_iff.mpr fun h _ z=>by
     have:=(of_decide_eq_true z).1
     cases this
    rw [this] at h1;have h1:q1.many (o,c)<=fs.length:=h1
    have:=hc.1
    omega
  ·rename_i hc;refine ⟨w,Ja,Va,fun p hp=>by rw [addw]; exact hp,fun _ _=>rfl,fun h=>?_,fun hz=>by rw [addw]; exact hz⟩
   by_cases z:(o,c) ∈ q1.wr
   ·exact z
   ·exact absurd ⟨h,z⟩ hc
 obtain ⟨w',J2,V2,wr2,ww2,hw2,hz2⟩:=L1
 obtain ⟨q3,hq3⟩:∃ q3,q3=q2.look2 s m (o,c):=⟨_,rfl⟩
 have m2:q2.many (o,c)=m:=by rw [hm]; unfold Ps.many; rw [g2.1]
 have L2:J0 n fs s dl c w' q3∧q3.wr=q2.wr∧q3.gt=q2.gt∧q3.ls=q2.ls∧q3.bt=q2.bt∧(∃ new,q3.st=q2.st ++ new∧∀ x ∈ new,x.2=q2.bt)∧(2 * s < (m:Int)->(o,c) ∈ q3.st.map (·.1)):=by
  rw [hq3];unfold Ps.look2;split
  ·rename_i hc
   exact ⟨J2.strike V2 fl t1 (by rw [m2]; exact hc.1) hc.2,rfl,rfl,rfl,rfl,⟨_,rfl,fun x hx=>by rw [List.mem_singleton.mp hx]⟩,fun _=>by
    show (o,c) ∈ (q2.st ++ [((o,c),q2.bt)]).map (·.1);rw [List.map_append]
    exact List.mem_append_right _ (List.mem_singleton.mpr rfl)⟩
  ·rename_i hc;refine ⟨J2,rfl,rfl,rfl,rfl,⟨[],(List.append_nil _).symm,fun _ h=>(by cases h)⟩,fun h=>?_⟩
   by_cases z:(o,c) ∈ q2.st.map (·.1)
   ·exact z
   ·exact absurd ⟨h,z⟩ hc
 obtain ⟨J3,w3,g3,l3,b3,⟨new,st3,nb3⟩,hs3⟩:=L2
 have hcome:q0.come s (hon n fs) (a,o,c)=q3:=by rw [hq3,hq2,hm,hq1]; rfl
 have hst:vz s (hon n fs) fs dl ds q k (a,o,c)=⟨q3.wr,q3.gt,q3.st,xY fs dl ds q3.bt 0 q3.ls,q3.bt⟩:=by
  unfold vz;rw [<- hq0,hcome,b3,g2.2.2]
 rw [hst]
 have mm:∀ o',q3.many (o',c)=q1.many (o',c):=fun o'=>by unfold Ps.many; rw [g3,g2.1]
 have I3:J1 n fs s c q3:=by
  refine ⟨fun o' ho' h=>?_,fun o' ho' h=>?_⟩
  ·rw [w3];rw [mm] at h
   by_cases z:o'=o
   ·subst z;exact hw2 (by rw [hm]; exact h)
   ·rw [oth o' z] at h;exact wr2 _ (I.mw o' ho' h)
  ·rw [mm] at h
   by_cases z:o'=o
   ·subst z;exact hs3 (by rw [hm]; exact h)
   ·rw [oth o' z] at h;rw [st3,List.map_append,g2.2.1];exact List.mem_append_left _ (I.ms o' ho' h)
 refine ⟨w',J3.dated hd,I3.dated _ _,⟨fun p hp=>by show p ∈ q3.wr; rw [w3]; exact wr2 p hp,ww2,⟨new,by show q3.st=_; rw [st3,g2.2.1],fun x hx=>by rw [nb3 x hx,g2.2.2]⟩,by show q3.bt=_; rw [b3,g2.2.2]⟩,fun hz=>by show q3.wr=[]; rw [w3]; exact hz2 hz⟩
theorem run_J {ds:List Int} (hd:∀ d ∈ ds,1<=d∧d<=dl) (s0:0<=s) (fl:(fs.length:Int)<=s) {m:Nat} {q q':Ps} (R:Run s n fs dl ds m q q'):∀ {w:Int->Int},J0 n fs s dl c w q->J1 n fs s c q->Wv n fs c q->∃ w',J0 n fs s dl c w' q'∧J1 n fs s c q'∧Gr w w' q q'∧(q.wr=[]->q'.wr=[])∧∀ x ∈ q'.ls,∃ d,x.2=some d∧q'.bt < d:=by
 induction R with
 | stop q ok h=>exact fun J I V=>⟨_,J,I,.refl _ _,id,h⟩
 | step m q q' k t d ok hk _ hb hr ih =>
  intro w J I V;obtain ⟨w1,Ja,Ia,Ga,za⟩:=step_J hd s0 fl J I V hk;obtain ⟨w2,Jb,Ib,Gb,zb,hh⟩:=ih Ja Ia (V.step hk);exact ⟨w2,Jb,Ib,Ga.trans Gb,fun z=>zb (za z),hh⟩
end

structure Jt (n:Nat) (fs:List Int) (dl c:Int) (w:Int->Int) (q:Ps):Prop where
 j4:∀ x ∈ q.st,x.2 + dl<=q.bt->∀ o ∈ hon n fs,(o,c) ∈ q.wr∧w o<=x.2 + dl
 j5:∀ x ∈ q.st,x.2 + 2 * dl<=q.bt->(∀ o ∈ hon n fs,(o,c) ∈ q.st.map (·.1))∧∀ y ∈ q.st,y.2<=x.2 + 2 * dl
section
variable {n:Nat} {fs:List Int} {s dl c:Int} {w:Int->Int} {q:Ps}
theorem jiO {n:Nat} {fs:List Int}:n<=fs.length + (hon n fs).length:=by
 have:=jcr n (fs ++ hon n fs) fun k hk=>by
  by_cases h:(k:Int) ∈ fs
  ·exact List.mem_append_left _ h
  ·exact List.mem_append_right _ (US.mpr ⟨⟨by omega,by omega⟩,h⟩)
 rw [List.length_append] at this;exact this
theorem jdd (J:J0 n fs s dl c w q) (hh:∀ x ∈ q.ls,∃ d,x.2=some d∧q.bt < d) {b:Int} (hb:b + dl<=q.bt) {h o:Int} (hw:(h,c) ∈ q.wr) (hwb:w h<=b) (ho:o ∈ hon n fs):(h,o,c) ∈ q.gt:=by
 rcases J.wl _ hw o ho with h1 | ⟨x,hx,z1,z2,z3⟩
 ·exact h1
 ·obtain ⟨d,e1,e2⟩:=hh x hx
  have:=z3 d e1
  have hwb:w (h,c).1<=b:=hwb;omega
theorem end_J (J:J0 n fs s dl c w q) (I:J1 n fs s c q) (hh:∀ x ∈ q.ls,∃ d,x.2=some d∧q.bt < d) (d1:1<=dl) (s0:0<=s) (hs:3 * s < n) (fl:(fs.length:Int)<=s) {w0:Int->Int} {q0:Ps} (T:Jt n fs dl c w0 q0) (G:Gr w0 w ⟨q0.wr,q0.gt,q0.st,q0.ls,q0.bt + 1⟩ q):Jt n fs dl c w q:=by
 obtain ⟨new,est,hnew⟩:=G.st;have est:q.st=q0.st ++ new:=est;have hnew:∀ x ∈ new,x.2=q0.bt + 1:=hnew;have hbt:q.bt=q0.bt + 1:=G.bt
 have j4:∀ x ∈ q.st,x.2 + dl<=q.bt->∀ o ∈ hon n fs,(o,c) ∈ q.wr∧w o<=x.2 + dl:=by
  intro x hx hxb o ho;rw [est] at hx
  rcases List.mem_append.mp hx with hx | hx
  ·by_cases hb:x.2 + dl<=q0.bt
   ·obtain ⟨h1,h2⟩:=T.j4 x hx hb o ho;refine ⟨G.wr _ h1,?_⟩
    have:w o=w0 o:=G.ww (o,c) h1
    rw [this];exact h2
   ·obtain ⟨_,_,_,h4⟩:=J.sb x (by rw [est]; exact List.mem_append_left _ hx)
    have hm:((hon n fs).filter fun h=>decide ((h,c) ∈ q.wr∧w h<=x.2)).length<=q.many (o,c):=jfL ((UY n fs).sublist List.filter_sublist) fun a ha=>by
     obtain ⟨a1,a2⟩:=of_decide_eq_true (List.mem_filter.mp ha).2;exact jdd J hh hxb a1 a2 ho
    have hw:=I.mw o ho (by omega);refine ⟨hw,?_⟩
    have:w (o,c).1<=q.bt:=J.ww _ hw
    have:w o<=q.bt:=this
    omega
  ·have:=hnew x hx
   omega
 refine ⟨j4,fun x hx hxb=>?_⟩;have hx0:=hx;rw [est] at hx
 rcases List.mem_append.mp hx with hx | hx
 ·by_cases hb:x.2 + 2 * dl<=q0.bt
  ·obtain ⟨h1,h2⟩:=T.j5 x hx hb;refine ⟨fun o ho=>by rw [est,List.map_append]; exact List.mem_append_left _ (h1 o ho),fun y hy=>?_⟩;have hy0:=hy;rw [est] at hy
   rcases List.mem_append.mp hy with hy | hy
   ·exact h2 y hy
   ·exfalso
    obtain ⟨_,y1,y2,_⟩:=J.sb y hy0
    have:=h1 y.1.1 y1
    have e:y.1=(y.1.1,c):=Prod.ext rfl y2;rw [<- e] at this;have nd:=J.sn;rw [est,List.map_append] at nd;exact (List.nodup_append.mp nd).2.2 _ this _ (List.mem_map.mpr ⟨y,hy,rfl⟩) rfl
  ·refine ⟨fun o ho=>?_,fun y hy=>?_⟩
   ·have hm:(hon n fs).length<=q.many (o,c):=jfL (UY n fs) fun a ha=>by
     obtain ⟨a1,a2⟩:=j4 x hx0 (by omega) a ha;exact jdd J hh (b:=x.2 + dl) (by omega) a1 a2 ho
    have:=jiO (n:=n) (fs:=fs)
    exact I.ms o ho (by omega)
   ·have:=(J.sb y hy).1
    omega
 ·have:=hnew x hx
  omega
theorem beat_J {ds:List Int} (hd:∀ d ∈ ds,1<=d∧d<=dl) (d1:1<=dl) (s0:0<=s) (hs:3 * s < n) (fl:(fs.length:Int)<=s) (J:J0 n fs s dl c w q) (I:J1 n fs s c q) (T:Jt n fs dl c w q) (V:Wv n fs c q) {m:Nat} {q':Ps} (R:Run s n fs dl ds m ⟨q.wr,q.gt,q.st,xY fs dl ds q.bt 0 q.ls,q.bt + 1⟩ q') :
  ∃ w',J0 n fs s dl c w' q'∧J1 n fs s c q'∧Jt n fs dl c w' q'∧(∃ new,q'.st=q.st ++ new∧∀ x ∈ new,x.2=q.bt + 1)∧(q.wr=[]->q'.wr=[]):=by
 obtain ⟨w',J',I',G,hz,hh⟩:=run_J hd s0 fl R ((J.dated hd).beat (by show ∀ x ∈ xY _ _ _ _ _ _,_; exact uv) (by show q.bt<=q.bt + 1; omega)) (I.dated _ _) ((V.dated (dl:=dl) (ds:=ds) q.bt 0).bt (q.bt + 1))
 have G':Gr w w' ⟨q.wr,q.gt,q.st,q.ls,q.bt + 1⟩ q':=⟨G.wr,G.ww,G.st,G.bt⟩
 exact ⟨w',J',I',end_J J' I' hh d1 s0 hs fl T G',G.st,hz⟩
theorem Jt.say (T:Jt n fs dl c w q) {h:Int} (hm:(h,c) ∉ q.wr):Jt n fs dl c (jax w h q.bt) (q.say (hon n fs) (h,c)) :=
 ⟨fun x hx hb o ho=>by
  obtain ⟨h1,h2⟩:=T.j4 x hx hb o ho;refine ⟨List.mem_append_left _ h1,?_⟩
  have:jax w h q.bt o=w o:=if_neg fun z=>hm (by rw [<- z]; exact h1)
  rw [this]
  exact h2,T.j5⟩
theorem J0.lie (J:J0 n fs s dl c w q) {f h:Int} (hf:f ∈ fs):J0 n fs s dl c w ⟨q.wr,q.gt,q.st,q.ls ++ [((f,h,c),none)],q.bt⟩ :=
 ⟨J.nd,J.gs,fun x hx=>by
  rcases List.mem_append.mp hx with hx | hx
  ·exact J.lx x hx
  ·rw [List.mem_singleton.mp hx]
   exact .inl hf,J.ww,fun p hp o ho=>by
  rcases J.wl p hp o ho with h | ⟨x,hx,h1,h2,h3⟩
  ·exact .inl h
  ·exact .inr ⟨x,List.mem_append_left _ hx,h1,h2,h3⟩,J.sb,J.sn⟩
def tms (n:Nat) (fs:List Int) (c:Int) (q:Ps):List (Option Int):=(hon n fs).map fun h=>yC q (h,c)
def stk (n:Nat) (fs:List Int) (c:Int) (q:Ps):List Int:=(tms n fs c q).filterMap id
theorem vJ {q:Ps} (sn:(q.st.map (·.1)).Nodup) {p:Int × Int} {b:Int}:yC q p=some b↔(p,b) ∈ q.st:=by
 unfold yC;constructor
 ·intro h
  cases e:q.st.find? fun x=>decide (x.1=p) with
  | none=>rw [e] at h; cases h
  | some x =>
   rw [e] at h;cases h;have h0:=List.find?_some e;have h1:x.1=p:=of_decide_eq_true h0;rw [<- h1];exact List.mem_of_find?_eq_some e
 ·intro h
  cases e:q.st.find? fun x=>decide (x.1=p) with
  | none=>exact absurd (decide_eq_true rfl) (List.find?_eq_none.mp e _ h)
  | some x =>
   have h0:=List.find?_some e;have h1:x.1=p:=of_decide_eq_true h0;have h2:=List.mem_of_find?_eq_some e;obtain ⟨j,hj⟩:=List.getElem?_of_mem h;obtain ⟨k,hk⟩:=List.getElem?_of_mem h2;obtain ⟨jl,je⟩:=List.getElem?_eq_some_iff.mp hj;obtain ⟨kl,ke⟩:=List.getElem?_eq_some_iff.mp hk
   rcases Nat.lt_trichotomy j k with hlt | rfl | hlt
   ·have:=List.pairwise_iff_getElem.mp sn j k (by rw [List.length_map]; exact jl) (by rw [List.length_map]; exact kl) hlt
    rw [List.getElem_map,List.getElem_map,je,ke] at this;exact absurd h1.symm this
   ·rw [hj] at hk;cases hk;rfl
   ·have:=List.pairwise_iff_getElem.mp sn k j (by rw [List.length_map]; exact kl) (by rw [List.length_map]; exact jl) hlt
    rw [List.getElem_map,List.getElem_map,je,ke] at this;exact absurd h1 this
theorem jgX {q q':Ps} {new:List ((Int × Int) × Int)} (e:q'.st=q.st ++ new) {b:Int} (hn:∀ x ∈ new,x.2=b) (p:Int × Int):yC q' p=yC q p∨(yC q p=none∧yC q' p=some b):=by
 unfold yC;rw [e,List.find?_append]
 cases h:q.st.find? fun x=>decide (x.1=p) with
 | some x=>exact .inl rfl
 | none =>
  rw [Option.none_or]
  cases h2:new.find? fun x=>decide (x.1=p) with
  | none=>exact .inl rfl
  | some x=>exact .inr ⟨rfl,congrArg some (hn x (List.mem_of_find?_eq_some h2))⟩
theorem jcP (J:J0 n fs s dl c w q) {b:Int}:b ∈ stk n fs c q↔∃ x ∈ q.st,x.2=b:=by
 unfold stk tms;rw [List.mem_filterMap];constructor
 ·rintro ⟨a,ha,e⟩;have e:a=some b:=e;subst e;obtain ⟨h,hh,e2⟩:=List.mem_map.mp ha;exact ⟨_,(vJ J.sn).mp e2,rfl⟩
 ·rintro ⟨x,hx,rfl⟩;obtain ⟨_,h2,h3,_⟩:=J.sb x hx;refine ⟨some x.2,List.mem_map.mpr ⟨x.1.1,h2,(vJ J.sn).mpr ?_⟩,rfl⟩
  have:((x.1.1,c),x.2)=x:=Prod.ext (Prod.ext rfl h3.symm) rfl
  rw [this];exact hx
theorem vw {α β:Type} (f:α->Option β):∀ l:List α,((l.map f).filterMap id).length=(l.filter fun a=>(f a).isSome).length
 | []=>rfl
 | a :: l=>by
  rw [List.map_cons,List.filterMap_cons,List.filter_cons]
  cases h:f a with
  | none=>exact vw f l
  | some b=>exact congrArg (· + 1) (vw f l)
theorem jcx (J:J0 n fs s dl c w q):(stk n fs c q).length=q.st.length:=by
 unfold stk tms;rw [vw];refine Nat.le_antisymm ?_ ?_
 ·have h:=vN (((hon n fs).filter fun h=>(yC q (h,c)).isSome).map fun h=>(h,c)) (q.st.map (·.1)) (JP ((UY n fs).sublist List.filter_sublist) fun a _ b _ e=>congrArg (·.1) e) fun p hp=>by
   obtain ⟨h,hh,rfl⟩:=List.mem_map.mp hp
   have:=(List.mem_filter.mp hh).2
   cases e:yC q (h,c) with
   | none=>rw [e] at this; cases this
   | some b=>exact List.mem_map.mpr ⟨_,(vJ J.sn).mp e,rfl⟩
  rw [List.length_map,List.length_map] at h;exact h
 ·have h:=vN (q.st.map (·.1)) (((hon n fs).filter fun h=>(yC q (h,c)).isSome).map fun h=>(h,c)) J.sn fun p hp=>by
   obtain ⟨x,hx,rfl⟩:=List.mem_map.mp hp;obtain ⟨_,h2,h3,_⟩:=J.sb x hx;have e:x.1=(x.1.1,c):=Prod.ext rfl h3;refine List.mem_map.mpr ⟨x.1.1,List.mem_filter.mpr ⟨h2,?_⟩,e.symm⟩;rw [<- e,show yC q x.1=some x.2 from (vJ J.sn).mpr hx];rfl
  rw [List.length_map,List.length_map] at h;exact h
theorem jfF (J:J0 n fs s dl c w q) (h:∀ o ∈ hon n fs,(o,c) ∈ q.st.map (·.1)):none ∉ tms n fs c q:=by
 intro hn;obtain ⟨o,ho,e⟩:=List.mem_map.mp hn;obtain ⟨x,hx,e2⟩:=List.mem_map.mp (h o ho)
 have:yC q (o,c)=some x.2:=(vJ J.sn).mpr (by rw [<- e2]; exact hx)
 rw [e] at this;cases this
theorem jhj (J:J0 n fs s dl c w q) (s0:0<=s) (h:q.wr=[]):q.st=[]:=by
 cases e:q.st with
 | nil=>rfl
 | cons x l =>
  obtain ⟨_,_,_,h4⟩:=J.sb x (by rw [e]; exact List.mem_cons_self)
  rw [List.filter_eq_nil_iff.mpr (fun a _ z=>by
   have:=(of_decide_eq_true z).1
   rw [h] at this
   cases this)] at h4
  have h4:s < 0:=h4;omega
end

theorem UP {t1 t2:DT} {ρ:En} {M:Sto} (h1:t1 ρ M = .ok false M) (h2:t2 ρ M = .ok false M):dOr t1 t2 ρ M = .ok false M:=by
 unfold dOr;rw [h1];exact h2
theorem jat {t1 t2:DT} {ρ:En} {M:Sto} {b:Bool} (h1:t1 ρ M = .ok b M) (h2:b=true->t2 ρ M = .ok false M):yR t1 t2 ρ M = .ok false M:=by
 unfold yR;rw [h1]
 cases b with
 | false=>rfl
 | true=>exact h2 rfl
theorem seq_of {d1 d2:DS} {ρ ρ':En} {M M1:Sto} {r:RS} (h:d1 ρ M = .nx ρ' M1) (k:d2 ρ' M1=r):yh d1 d2 ρ M=r:=by
 unfold yh;rw [h];exact k
theorem jbR {M:Sto} (t:Tw M) {l:List Int} (hne:l≠[]) (hl:l.length<=1000):∃ x M',vK [.ref 1,.lst (l.map PV.int)] M = .ok (.int x) M'∧x ∈ l∧Tw M'∧Off M M':=by
 obtain ⟨x,M1,e,hx,t1,o1⟩:=jhL t (xs:=l.map PV.int) (fun z=>hne (List.map_eq_nil_iff.mp z)) (by rw [List.length_map]; omega);obtain ⟨y,hy,rfl⟩:=List.mem_map.mp hx;exact ⟨y,M1,e,hy,t1,o1⟩
theorem jiR {M M':Sto} (t:Tw M) (h0:M'.g 0=M.g 0) (h1:M'.g 1=M.g 1) (hn:M.n<=M'.n):Tw M':=by
 obtain ⟨ns,c,t⟩:=t;exact ⟨ns,c,by rw [h0]; exact t.row,by rw [h1]; exact t.tw,t.ne,Nat.le_trans t.n hn⟩
theorem vQ:∀ l:List (Option Int),yD (l.map yu)=true
 | []=>rfl
 | none :: l=>by
  show (true && yD (l.map yu))=true;rw [vQ l];rfl
 | some _ :: l=>by
  show (true && yD (l.map yu))=true;rw [vQ l];rfl
theorem Xo:∀ l:List (Option Int),xF (l.map yu)=0
 | []=>rfl
 | none :: l=>by
  show max 0 (xF (l.map yu))=0;rw [Xo l];rfl
 | some _ :: l=>by
  show max 0 (xF (l.map yu))=0;rw [Xo l];rfl
theorem Xq:∀ l:List (Option Int),vT (l.map yu)=true
 | []=>rfl
 | none :: l=>by
  show (decide (dep (yu none)<=60) && vT (l.map yu))=true;rw [Xq l];rfl
 | some x :: l=>by
  show (decide (dep (yu (some x))<=60) && vT (l.map yu))=true;rw [Xq l];rfl
theorem jad (a b:Option Int):eqB (yu a) (yu b)=decide (a=b):=by
 cases a with
 | none =>
  cases b with
  | none=>rfl
  | some y=>rfl
 | some x =>
  cases b with
  | none=>rfl
  | some y =>
   show (x == y)=decide (some x=some y);rw [Bool.eq_iff_iff,beq_iff_eq,decide_eq_true_eq];exact ⟨fun h=>by rw [h],fun h=>Option.some.inj h⟩
theorem ne_due {M:Sto} (a b:Option Int):eqG true M (yu a) (yu b)=some (.bl (!decide (a=b))):=by
 have l:∀ x,look M (yu x)=yu x:=fun x=>by cases x <;> rfl
 have p:∀ x,plain (yu x)=true:=fun x=>by cases x <;> rfl
 have d:∀ x,dep (yu x)<=60:=fun x=>by cases x <;> exact (by decide:(0:Nat)<=60)
 unfold eqG;rw [l,l,if_pos ⟨p a,p b,d a⟩,jad];rfl
theorem in_due {M:Sto} (l:List (Option Int)):gIn false M .non (.lst (l.map yu))=some (.bl (decide (none ∈ l))):=by
 show (if _ then some (PV.bl ((l.map yu).any fun z=>eqB z .non)) else none)=_;rw [if_pos ⟨rfl,vQ l,Xq l⟩];congr 2;rw [List.any_map,Bool.eq_iff_iff,List.any_eq_true,decide_eq_true_eq];constructor
 ·rintro ⟨y,hy,e⟩;have e:eqB (yu y) (yu none)=true:=e;rw [jad,decide_eq_true_eq] at e;rw [<- e];exact hy
 ·intro h;refine ⟨none,h,?_⟩;show eqB (yu none) (yu none)=true;rw [jad,decide_eq_true_eq]
theorem jbW {M:Sto} {ds:List Int}:eqG true M (.lst (ds.map PV.int)) (.lst [])=some (.bl (!decide (ds=[]))):=by
 unfold eqG;rw [show look M (.lst (ds.map PV.int)) = .lst (ds.map PV.int) from rfl,show look M (.lst []) = .lst [] from rfl,if_pos ⟨jaL ds,rfl,jec ds⟩]
 cases ds with
 | nil=>rfl
 | cons a l=>rfl
theorem jif {ρ:En} {M:Sto}:xl ye ρ M = .ok (.lst []) M:=by
 rw [jaf,jx];simp only [Res.bind_ok];exact if_pos (Nat.zero_le _)
theorem jfH {M:Sto} {d:DE} {ρ:En} (h:d ρ M = .ok (.lst []) M):yg (dOp (eqG true) d (xl ye)) ρ M = .ok false M:=yp (yi h jif rfl)
def phi (q:Ps):Nat:=q.ls.length + 8 * (8 - q.wr.length)
structure K41 (M:Sto) (i n:Nat) (s:Int) (fs:List Int) (dl:Int) (q:Ps) (w:Int->Int) (b:Bool) (T U:Nat):Prop where
 tw:Tw M
 pu:∃ es gs,Pu M i (i + 5) n s fs dl es gs q∧gs.length<=200 * U
 i2:2<=i
 wv:Wv n fs 3 q
 j0:J0 n fs s dl 3 w q
 j1:J1 n fs s 3 q
 jt:Jt n fs dl 3 w q
 no:b=false->q.wr=[]
 ph:phi q<=64 + T
 lg:q.gt.length<=200 * U
 lk:q.st.length<=200 * U
 bt:q.bt=U
section
variable {M M':Sto} {i n:Nat} {s:Int} {fs:List Int} {dl:Int} {q:Ps} {w:Int->Int} {b:Bool} {T U:Nat}
theorem K41.ls (K:K41 M i n s fs dl q w b T U):q.ls.length<=64 + T:=by
 have:=K.ph
 unfold phi at this;omega
theorem K41.off (K:K41 M i n s fs dl q w b T U) (o:Off M M') (t:Tw M'):K41 M' i n s fs dl q w b T U:=by
 obtain ⟨es,gs,P,hg⟩:=K.pu
 have:=K.i2
 have:=P.ln
 exact ⟨t,⟨es,gs,P.off o.n fun j hj=>o.g j (by omega) (by omega),hg⟩,K.i2,K.wv,K.j0,K.j1,K.jt,K.no,K.ph,K.lg,K.lk,K.bt⟩
theorem K41.both {es':List (Nat × TL)} {gs':List (Nat × Int × Int)} {q':Ps} {w':Int->Int} {b':Bool} {T' U':Nat} (K:K41 M i n s fs dl q w b T U) (P:Pu M' i (i + 5) n s fs dl es' gs' q') (f1:Fr M M' i (i + 5)) (hg:gs'.length<=200 * U') (wv:Wv n fs 3 q') (j0:J0 n fs s dl 3 w' q') (j1:J1 n fs s 3 q') (jt:Jt n fs dl 3 w' q') (no:b'=false->q'.wr=[]) (ph:phi q'<=64 + T') (lg:q'.gt.length<=200 * U') (lk:q'.st.length<=200 * U') (bt:q'.bt=U'):K41 M' i n s fs dl q' w' b' T' U':=by
 have:=K.i2
 exact ⟨jiR K.tw (f1.g 0 (by omega) (by omega)) (f1.g 1 (by omega) (by omega)) f1.n,⟨es',gs',P,hg⟩,K.i2,wv,j0,j1,jt,no,ph,lg,lk,bt⟩
theorem jgs (K:K41 M i n s fs dl q w b T U) (hT:T<=100) (hU:U<=100) (n8:n<=8) {h:Int} (hh:h ∈ hon n fs) (hm:(h,(3:Int)) ∉ q.wr):∃ M1 q' w',Uu [.ref i,.int h,.int 3] M = .ok .non M1∧K41 M1 i n s fs dl q' w' true T U∧q'.st=q.st:=by
 obtain ⟨es,gs,P,hg⟩:=K.pu;have hl:=K.ls;have wl:=K.wv.len;have hnl:=uV n fs;obtain ⟨M1,es1,e1,P1,f1⟩:=jhs P (by omega) (by omega) (by omega) hh (by decide) (by decide) hm;have f1:=f1.weak P.ln P.li
 have wv:Wv n fs 3 (q.say (hon n fs) (h,3)):=⟨fun x hx=>by
  rcases List.mem_append.mp hx with hx | hx
  ·exact K.wv.ls x hx
  ·obtain ⟨o,ho,rfl⟩:=List.mem_map.mp hx
   exact ⟨ho,rfl⟩,fun p hp=>by
  rcases List.mem_append.mp hp with hp | hp
  ·exact K.wv.wr p hp
  ·rw [List.mem_singleton.mp hp]
   exact ⟨hh,rfl⟩,xM K.wv.nd hm⟩
 have wl2:=wv.len;refine ⟨M1,_,_,e1,K.both P1 f1 hg wv (K.j0.say hm) ⟨fun o ho h=>List.mem_append_left _ (K.j1.mw o ho h),K.j1.ms⟩ (K.jt.say hm) (fun z=>by cases z) ?_ K.lg K.lk K.bt,rfl⟩;have hp:=K.ph;unfold phi at hp ⊢;have e3:(q.say (hon n fs) (h,3)).wr.length=q.wr.length + 1:=List.length_append
 have e4:(q.say (hon n fs) (h,3)).ls.length=q.ls.length + (hon n fs).length:=by
  show (q.ls ++ _).length=_;rw [List.length_append,List.length_map]
 omega
theorem do_lie (K:K41 M i n s fs dl q w b T U) (hT:T<=100) (hU:U<=100) {f h:Int} (hf:f ∈ fs) (fb:∀ f ∈ fs,0<=f∧f < (n:Int)) (hh:h ∈ hon n fs):∃ M1 q',XA [.ref i,.int f,.int h,.int 3] M = .ok .non M1∧K41 M1 i n s fs dl q' w b (T + 1) U∧q'.st=q.st:=by
 obtain ⟨es,gs,P,hg⟩:=K.pu;have hl:=K.ls;obtain ⟨M1,es1,e1,P1,f1⟩:=lie_p P (by omega) hf (fb f hf).1 (fb f hf).2 hh (by decide:(1:Int)<=3) (by decide);have f1:=f1.weak P.ln P.li
 refine ⟨M1,_,e1,K.both P1 f1 hg ⟨fun x hx=>by
  rcases List.mem_append.mp hx with hx | hx
  ·exact K.wv.ls x hx
  ·rw [List.mem_singleton.mp hx]
   exact ⟨hh,rfl⟩,K.wv.wr,K.wv.nd⟩ (K.j0.lie hf) ⟨K.j1.mw,K.j1.ms⟩ ⟨K.jt.j4,K.jt.j5⟩ K.no ?_ K.lg K.lk K.bt,rfl⟩
 have hp:=K.ph;unfold phi at hp ⊢;show (q.ls ++ [_]).length + _<=_;rw [List.length_append];show q.ls.length + 1 + 8 * (8 - q.wr.length)<=_;omega
theorem jcX (K:K41 M i n s fs dl q w b T U) (hT:T<=70) (hU:U<=70) (n8:n<=8) (s0:0<=s) (s5:s<=5) (hs:3 * s < n) (fl:(fs.length:Int)<=s) (d1:1<=dl) {D:PV} {ds:List Int} (hD:Dly D ds) (hl:ds.length<=1000) (hd:∀ d ∈ ds,1<=d∧d<=dl):∃ M1 q' w',uA [.ref i,D] M = .ok .non M1∧K41 M1 i n s fs dl q' w' b T (U + 1)∧∃ new,q'.st=q.st ++ new∧∀ x ∈ new,x.2=(U:Int) + 1:=by
 obtain ⟨es,gs,P,hg⟩:=K.pu;have hls:=K.ls;have hp:=K.ph;have hlg:=K.lg;have hlk:=K.lk;have hb:=K.bt;unfold phi at hp;obtain ⟨m,q',R,hm,wv,due,ph,st,gt,bt⟩:=jeI (s:=s) (dl:=dl) (ds:=ds) n8 (by decide) (by decide) 200 ⟨q.wr,q.gt,q.st,xY fs dl ds q.bt 0 q.ls,q.bt + 1⟩ ((K.wv.dated (dl:=dl) (ds:=ds) q.bt 0).bt (q.bt + 1)) (by show ∀ x ∈ xY _ _ _ _ _ _,_; exact uv) (by rw [vI]; show q.ls.length + 8 * (8 - q.wr.length)<=_; omega) (by omega) (by show q.st.length + _<=_; omega) (by show q.gt.length + _<=_; omega);obtain ⟨M1,es1,gs1,e1,P1,f1,g1⟩:=jiq P hD hl hd (by omega) s0 s5 (by omega) (by omega) R (by omega) (by omega);obtain ⟨w',J',I',T',hnew,hz⟩:=beat_J hd d1 s0 hs fl K.j0 K.j1 K.jt K.wv R;have st:q'.st.length<=q.st.length + m:=st;have gt:q'.gt.length<=q.gt.length + m:=gt;have bt:q'.bt=q.bt + 1:=bt;refine ⟨M1,q',w',e1,K.both P1 f1 (by omega) wv J' I' T' (fun z=>hz (K.no z)) ?_ (by omega) (by omega) (by rw [bt,hb]; rfl),?_⟩
 ·rw [vI] at ph;have ph:q'.ls.length + 8 * (8 - q'.wr.length)<=q.ls.length + 8 * (8 - q.wr.length):=ph;unfold phi;omega
 ·obtain ⟨new,h1,h2⟩:=hnew;exact ⟨new,h1,fun x hx=>by rw [h2 x hx,hb]⟩
theorem lates {ρ:En} (t:Tw M) (d1:1<=dl) (d6:dl<=1000) (v1:∀ M,yd 1 ρ M = .ok (.ref 1) M) (hr:L3.rest [1,6] ρ=[some (.ref 1),some (.int dl)]):∃ (ds:List Int) (M':Sto),yH (xi (jb (jq yN 2 0 [.p 0,.p 1] [] (jb (yd 1) (jb (dC (.int 4)) ye)) ye) ye)) vy [1,6] vh Yv ρ M = .ok (.lst (ds.map PV.int)) M'∧ds.length<=4∧(∀ d ∈ ds,1<=d∧d<=dl)∧Tw M'∧Off M M':=by
 obtain ⟨k,M1,e1,k0,k1,T1,o1⟩:=xE t (k:=4) (by decide) (by decide)
 obtain ⟨ys,M2,e2,ds,hy,hl,hb,T2,o2⟩:=Xu (bnd:=vy) (r:=[some (.ref 1),some (.int dl)]) (dt:=vh) (de:=Yv) (fun m acc M'=>∃ ds:List Int,acc=ds.map PV.int∧ds.length=m∧(∀ d ∈ ds,1<=d∧d<=dl)∧Tw M'∧Off M1 M') (xw 0 k.toNat) 0 [] M1 ⟨[],rfl,rfl,fun _ h=>(by cases h),T1,.refl _⟩ (by
  rintro j x hx acc M' ⟨ds,rfl,hl,hb,T',o'⟩;obtain ⟨d,M3,e3,d0,d2,T3,o3⟩:=xE T' (k:=dl) d1 (by omega);refine ⟨[some x,some (.ref 1),some (.int dl)],true,M',rfl,rfl,fun z=>(by cases z),fun _=>⟨.int (1 + d),M3,?_,ds ++ [1 + d],by rw [List.map_append]; rfl,by rw [List.length_append,hl]; rfl,fun z hz=>?_,T3,o'.trans o3⟩⟩
  ·unfold Yv;refine yi (x:=.int 1) (M1:=M') rfl (y:=.int d) (M2:=M3) ?_ rfl;rw [jW];simp only [jr,jC,jI,jx,Res.bind_ok];exact e3
  ·rcases List.mem_append.mp hz with hz | hz
   ·exact hb z hz
   ·rw [List.mem_singleton.mp hz]
    omega)
 rw [xL] at hl;rw [List.nil_append] at hy;subst hy;refine ⟨ds,M2,jN (xs:=xw 0 k.toNat) (M1:=M1) ?_ (by rw [xL]; exact Yy (by omega)) (by rw [hr]; exact e2),by omega,hb,T2,o1.trans o2⟩;have hs:xy k=true:=yz.mpr ⟨by omega,by omega⟩
 have ed:jq yN 2 0 [.p 0,.p 1] [] (jb (yd 1) (jb (dC (.int 4)) ye)) ye ρ M = .ok (.int k) M1:=by
  rw [jW];simp only [jr,v1,vj,jx,Res.bind_ok];exact e1
 unfold xi;rw [jr,ed];simp only [jx,Res.bind_ok,hs,if_true]
theorem jaC {es:List (Nat × TL)} {gs:List (Nat × Int × Int)} {lo:Nat} (P:Pu M i lo n s fs dl es gs q):Uw [.ref i] M = .ok (.lst ((q.st.map (·.1)).map p2)) M:=by
 refine jY (ρ:=[some (.ref i)]) rfl rfl ?_;unfold d_zal;refine jR ?_;refine xk (P.fld (x:="struck") (d:=yd 0) rfl rfl) ?_;unfold jab;simp only [P.sk,List.map_map];rfl
end

section
variable {M M':Sto} {i n:Nat} {s:Int} {fs:List Int} {dl:Int} {q:Ps} {w:Int->Int} {b:Bool} {T U:Nat}
theorem jht (K:K41 M i n s fs dl q w b T U) (hT:T<=100) (hU:U<=100) (n8:n<=8) {tn bg:Int} (x0 x2 x3 x4 x5 x6 x10 x12 x13 x14 x15:Option PV) :
  ∃ y12 M' q' w' b',xN (gN 12) xX ((hon n fs).map PV.int) [x0,some (.ref 1),x2,x3,x4,x5,x6,some (.ref i),some (.int bg),some (.bl b),x10,some (.int tn),x12,x13,x14,x15] M = .nx [x0,some (.ref 1),x2,x3,x4,x5,x6,some (.ref i),some (.int bg),some (.bl b'),x10,some (.int tn),y12,x13,x14,x15] M'∧K41 M' i n s fs dl q' w' b' T U∧q'.st=q.st:=by
 obtain ⟨ρ',M',e,y12,q',w',b',rfl,K',hst⟩:=VM (g:=gN 12) (db:=xX) (fun ρ M=>∃ y12 q' w' b',ρ=[x0,some (.ref 1),x2,x3,x4,x5,x6,some (.ref i),some (.int bg),some (.bl b'),x10,some (.int tn),y12,x13,x14,x15]∧K41 M i n s fs dl q' w' b' T U∧q'.st=q.st) ((hon n fs).map PV.int) [x0,some (.ref 1),x2,x3,x4,x5,x6,some (.ref i),some (.int bg),some (.bl b),x10,some (.int tn),x12,x13,x14,x15] M ⟨_,_,_,_,rfl,K,rfl⟩ (by
  rintro z hz ρ M1 ⟨y12,q1,w1,b1,rfl,K1,hst1⟩;obtain ⟨h,hh,rfl⟩:=List.mem_map.mp hz;obtain ⟨es,gs,P,hg⟩:=K1.pu
  obtain ⟨ρ1,hρ1⟩:∃ ρ:En,ρ=[x0,some (.ref 1),x2,x3,x4,x5,x6,some (.ref i),some (.int bg),some (.bl b1),x10,some (.int tn),some (.int h),x13,x14,x15]:=⟨_,rfl⟩
  have u1:∀ M,yd 1 ρ1 M = .ok (.ref 1) M:=fun M=>by rw [hρ1]; rfl
  have u7:∀ M,yd 7 ρ1 M = .ok (.ref i) M:=fun M=>by rw [hρ1]; rfl
  have u8:∀ M,yd 8 ρ1 M = .ok (.int bg) M:=fun M=>by rw [hρ1]; rfl
  have u11:∀ M,yd 11 ρ1 M = .ok (.int tn) M:=fun M=>by rw [hρ1]; rfl
  have u12:∀ M,yd 12 ρ1 M = .ok (.int h) M:=fun M=>by rw [hρ1]; rfl
  have t1:yg (dOp gLt (yd 11) (yd 8)) ρ1 M1 = .ok (decide (tn < bg)) M1:=yp (yi (u11 M1) (u8 M1) rfl)
  have t2:vV (vH (yw 13 "has_said" xA 3 0 [.p 0,.p 1,.p 2] [] (yd 7) (jb (yd 12) (jb (dC (.int 3)) ye)) ye)) ρ1 M1 = .ok (!decide ((h,(3:Int)) ∈ q1.wr)) M1:=by
   rw [vU,vi,P.mth (xs:=[.int h,.int 3]) (zs:=[]) (M1:=M1) (M2:=M1) (u7 M1) rfl (by simp only [jr,u12,vj,jx,Res.bind_ok]) rfl];rw [show xA (yq 3 0 [Sl.p 0,Sl.p 1,Sl.p 2] [] [PV.ref i,.int h,.int 3] []) M1=_ from jbJ P hh (by decide) (by decide)];rfl
  by_cases c1:tn < bg
  rotate_left
  ·rw [decide_eq_false c1] at t1;refine ⟨ρ1,ρ1,M1,by rw [hρ1]; rfl,?_,some (.int h),q1,w1,b1,hρ1,K1,hst1⟩;unfold xX;refine jcA ?_ rfl;unfold yR;rw [t1];rfl
  rw [decide_eq_true c1] at t1
  by_cases c2:(h,(3:Int)) ∈ q1.wr
  ·rw [decide_eq_true c2] at t2;refine ⟨ρ1,ρ1,M1,by rw [hρ1]; rfl,?_,some (.int h),q1,w1,b1,hρ1,K1,hst1⟩;unfold xX;refine jcA ?_ rfl;unfold yR;rw [t1];simp only [Res.bind_ok,if_true];rw [t2];rfl
  rw [decide_eq_false c2] at t2;obtain ⟨x,M2,e2,_,_,T2,o2⟩:=xE K1.tw (k:=8) (by decide) (by decide);have K2:=K1.off o2 T2
  have t3:yg (dOp (eqG false) (jq yN 2 0 [.p 0,.p 1] [] (jb (yd 1) (jb (dC (.int 8)) ye)) ye) (dC (.int 0))) ρ1 M1 = .ok (x == 0) M2:=by
   refine yp (yi (x:=.int x) (M1:=M2) ?_ (y:=.int 0) rfl jac);rw [jW];simp only [jr,u1,vj,jx,Res.bind_ok];exact e2
  have tt:yR (yg (dOp gLt (yd 11) (yd 8))) (yR (vV (vH (yw 13 "has_said" xA 3 0 [.p 0,.p 1,.p 2] [] (yd 7) (jb (yd 12) (jb (dC (.int 3)) ye)) ye))) (yg (dOp (eqG false) (jq yN 2 0 [.p 0,.p 1] [] (jb (yd 1) (jb (dC (.int 8)) ye)) ye) (dC (.int 0))))) ρ1 M1 = .ok (x == 0) M2:=by
   unfold yR;rw [t1];simp only [Res.bind_ok,if_true];rw [t2];exact t3
  cases hx:(x == 0) with
  | false =>
   rw [hx] at tt;refine ⟨ρ1,ρ1,M2,by rw [hρ1]; rfl,?_,some (.int h),q1,w1,b1,hρ1,K2,hst1⟩;unfold xX;exact jcA tt rfl
  | true =>
   rw [hx] at tt;obtain ⟨es2,gs2,P2,_⟩:=K2.pu;obtain ⟨M3,q3,w3,e3,K3,hst3⟩:=jgs K2 hT hU n8 hh c2;refine ⟨ρ1,_,M3,by rw [hρ1]; rfl,?_,some (.int h),q3,w3,true,rfl,K3,hst3.trans hst1⟩;unfold xX;refine jeH tt ?_;refine yB (v:=.non) (M1:=M3) ?_ ?_
   ·rw [P2.mth (xs:=[.int h,.int 3]) (zs:=[]) (M1:=M2) (M2:=M2) (u7 M2) rfl (by simp only [jr,u12,vj,jx,Res.bind_ok]) rfl];exact e3
   ·rw [hρ1]
    rfl)
 exact ⟨y12,M',q',w',b',e,K',hst⟩
theorem jhi (l:List (Option Int)):(l.filter Option.isSome).map yu=(l.filterMap id).map PV.int:=by
 induction l with
 | nil=>rfl
 | cons a l ih =>
  cases a with
  | none=>exact ih
  | some x =>
   show yu (some x) :: (l.filter Option.isSome).map yu=PV.int x :: (l.filterMap id).map PV.int;rw [ih];rfl
theorem min_of {ns:List Int} (h:ns≠[]) {d:DE} {ρ:En} (hd:d ρ M = .ok (.lst (ns.map PV.int)) M):dCB jaa (jb d ye) ρ M = .ok (.int (uJ ns)) M:=by
 cases ns with
 | nil=>exact absurd rfl h
 | cons a l=>rw [Xs,JA hd]; simp only [Res.bind_ok,jdX]
theorem max_of {ns:List Int} (h:ns≠[]) {d:DE} {ρ:En} (hd:d ρ M = .ok (.lst (ns.map PV.int)) M):dCB jdZ (jb d ye) ρ M = .ok (.int (Jn ns)) M:=by
 cases ns with
 | nil=>exact absurd rfl h
 | cons a l=>rw [Xs,JA hd]; simp only [Res.bind_ok,jdY]
theorem jiF (K:K41 M i n s fs dl q w b T (U + 1)) (n8:n<=8) (s0:0<=s) (d1:1<=dl) (d9:dl<=1000) {q0:Ps} (hnew:∃ new,q.st=q0.st ++ new∧∀ x ∈ new,x.2=(U:Int) + 1) (x0 x2 x3 x4 x8 x12 x13 x14 x15:Option PV) :
  ∃ y14 y15,(yh (yI 14 (yd 10))
 (yh (yI 10 (yH (dIt (yd 5)) vy [7] vh (yw 13 "struck_at" Ym 3 0 [.p 0,.p 1,.p 2] [] (yd 1) (jb (yd 0) (jb (dC (.int 3)) ye)) ye)))
 (yh (sIf (yg (dOp (eqG true) (yH (xi (jb (dCB (one yK) (jb (yd 10) ye)) ye)) vy [10,14,7] UC (yd 0)) (xl ye))) (yJ (dC (.bl false))) yA)
 (yh (yI 15 (yH (dIt (yd 10)) vy [] (yg (dOp jaX (yd 0) (dC .non))) (yd 0)))
 (yh (sIf (dOr (yg (dOp (eqG true) (yw 13 "now" uz 1 0 [.p 0] [] (yd 7) ye ye) (dOp vd (yd 11) (dC (.int 1))))) (yR (yg (dOp (eqG true) (yd 15) (xl ye))) (vV (vH (yd 9))))) (yJ (dC (.bl false))) yA)
 (yh (sIf (yR (yg (dOp (eqG true) (yd 15) (xl ye))) (dOr (yR (yg (dOp gGe (yw 13 "now" uz 1 0 [.p 0] [] (yd 7) ye ye) (dOp vd (dCB (jaa) (jb (yd 15) ye)) (dOp vG (dC (.int 2)) (yd 6))))) (yg (dOp (gIn false) (dC .non) (yd 10)))) (yg (dOp gGt (dCB (jdZ) (jb (yd 15) ye)) (dOp vd (dCB (jaa) (jb (yd 15) ye)) (dOp vG (dC (.int 2)) (yd 6))))))) (yJ (dC (.bl false))) yA)
 (sIf (dOr (yg (dOp (eqG true) (dCB (one yK) (jb (yd 15) ye)) (dCB (one yK) (jb (yw 13 "all_strikes" Uw 1 0 [.p 0] [] (yd 7) ye ye) ye)))) (yg (dOp (eqG true) (yH (dIt (yd 15)) vy [] UD (yd 0)) (xl ye)))) (yJ (dC (.bl false))) yA)))))))
  [x0,some (.ref 1),x2,x3,x4,some (.lst ((hon n fs).map PV.int)),some (.int dl),some (.ref i),x8,some (.bl b),some (.lst ((tms n fs 3 q0).map yu)),some (.int U),x12,x13,x14,x15] M = .nx [x0,some (.ref 1),x2,x3,x4,some (.lst ((hon n fs).map PV.int)),some (.int dl),some (.ref i),x8,some (.bl b),some (.lst ((tms n fs 3 q).map yu)),some (.int U),x12,x13,y14,y15] M:=by
 obtain ⟨es,gs,P,hg⟩:=K.pu;have hbt:q.bt=(U:Int) + 1:=K.bt;have hnl:=uV n fs
 obtain ⟨H,hH⟩:∃ F,F=PV.lst ((hon n fs).map PV.int):=⟨_,rfl⟩
 obtain ⟨A,hA⟩:∃ F,F=PV.lst ((tms n fs 3 q0).map yu):=⟨_,rfl⟩
 obtain ⟨B,hB⟩:∃ F,F=PV.lst ((tms n fs 3 q).map yu):=⟨_,rfl⟩
 obtain ⟨S,hS⟩:∃ F,F=PV.lst ((stk n fs 3 q).map PV.int):=⟨_,rfl⟩
 have tl:(tms n fs 3 q).length=(hon n fs).length:=List.length_map ..
 have sl:(stk n fs 3 q).length<=(hon n fs).length:=by rw [<- tl]; exact List.length_filterMap_le _ _
 rw [<- hH,<- hA,<- hB]
 obtain ⟨ρ,hρ⟩:∃ ρ:En,ρ=[x0,some (.ref 1),x2,x3,x4,some H,some (.int dl),some (.ref i),x8,some (.bl b),some B,some (.int U),x12,x13,some A,some S]:=⟨_,rfl⟩
 have v6:yd 6 ρ M = .ok (.int dl) M:=by rw [hρ]; rfl
 have v7:yd 7 ρ M = .ok (.ref i) M:=by rw [hρ]; rfl
 have v9:yd 9 ρ M = .ok (.bl b) M:=by rw [hρ]; rfl
 have v10:yd 10 ρ M = .ok B M:=by rw [hρ]; rfl
 have v11:yd 11 ρ M = .ok (.int U) M:=by rw [hρ]; rfl
 have v15:yd 15 ρ M = .ok S M:=by rw [hρ]; rfl
 have now:yw 13 "now" uz 1 0 [.p 0] [] (yd 7) ye ye ρ M = .ok (.int q.bt) M:=by
  rw [P.mth (xs:=[]) (zs:=[]) (M1:=M) (M2:=M) v7 rfl rfl rfl];exact jiV P
 have sne:yg (dOp (eqG true) (yd 15) (xl ye)) ρ M = .ok (!decide (stk n fs 3 q=[])) M:=yp (yi v15 jif (by rw [hS]; exact jbW));refine ⟨some A,some S,?_⟩;refine jU (v:=A) (M1:=M) rfl ?_;simp only [List.set_cons_succ,List.set_cons_zero];refine jU (v:=B) (M1:=M) ?_ ?_
 ·rw [hB];refine jN (xs:=(hon n fs).map PV.int) (M1:=M) (uH (by rw [hH]; rfl)) (by rw [List.length_map]; exact Yy (by omega)) ?_;unfold tms;rw [List.map_map]
  exact jZ PV.int (yu ∘ fun h=>yC q (h,3)) (hon n fs) fun x hx=>⟨[some (.int x),some (.ref i)],rfl,rfl,by
   rw [P.mth (xs:=[.int x,.int 3]) (zs:=[]) (M1:=M) (M2:=M) rfl rfl rfl rfl]
   exact jaB P hx (by decide) (by decide)⟩
 simp only [List.set_cons_succ,List.set_cons_zero];refine Jk (M1:=M) (jfH ?_) ?_
 ·have hr:xi (jb (dCB (one yK) (jb (yd 10) ye)) ye) [x0,some (.ref 1),x2,x3,x4,some H,some (.int dl),some (.ref i),x8,some (.bl b),some B,some (.int U),x12,x13,some A,x15] M = .ok (.fix (xw 0 (hon n fs).length)) M:=by
   have fl:dCB (one yK) (jb (yd 10) ye) [x0,some (.ref 1),x2,x3,x4,some H,some (.int dl),some (.ref i),x8,some (.bl b),some B,some (.int U),x12,x13,some A,x15] M = .ok (.int (hon n fs).length) M:=xk (x:=B) rfl (by rw [yU (xs:=(tms n fs 3 q).map yu) (by rw [hB]; rfl),List.length_map,tl]);have hs:xy ((hon n fs).length:Int)=true:=yz.mpr ⟨by omega,by omega⟩;unfold xi;simp only [jr,fl,Res.bind_ok,jx,hs,if_true,Int.toNat_natCast]
  refine jN (xs:=xw 0 (hon n fs).length) (M1:=M) hr (by rw [xL]; exact Yy (by omega)) ?_
  have e0:xw 0 (hon n fs).length=(List.range (hon n fs).length).map fun k=>PV.int (k:Nat):=by
   unfold xw;refine List.map_congr_left fun k _=>?_;rw [Int.zero_add]
  rw [e0,xm (fun k:Nat=>PV.int k) (fun _=>false) (fun k:Nat=>PV.int k) (List.range (hon n fs).length) fun k hk=>⟨[some (.int k),some B,some A,some (.ref i)],rfl,?_,fun z=>by cases z⟩]
  ·rw [List.filter_eq_nil_iff.mpr (fun _ _ z=>by cases z)];rfl
  ·have hk:k < (hon n fs).length:=List.mem_range.mp hk
   obtain ⟨h,hh⟩:∃ h,(hon n fs)[k]? = some h:=⟨_,List.getElem?_eq_getElem hk⟩
   have eB:dOp gIx (yd 1) (yd 0) [some (.int k),some B,some A,some (.ref i)] M = .ok (yu (yC q (h,3))) M:=by
    refine yi (x:=B) rfl (y:=.int k) rfl ?_;rw [xT (xs:=(tms n fs 3 q).map yu) (by rw [hB]; rfl),ux (by omega) (by rw [List.length_map,tl]; omega),Int.toNat_natCast,List.getElem?_map];unfold tms;rw [List.getElem?_map,hh];rfl
   have eA:dOp gIx (yd 2) (yd 0) [some (.int k),some B,some A,some (.ref i)] M = .ok (yu (yC q0 (h,3))) M:=by
    refine yi (x:=A) rfl (y:=.int k) rfl ?_;rw [xT (xs:=(tms n fs 3 q0).map yu) (by rw [hA]; rfl),ux (by omega) (by rw [List.length_map]; unfold tms; rw [List.length_map]; omega),Int.toNat_natCast,List.getElem?_map];unfold tms;rw [List.getElem?_map,hh];rfl
   unfold UC;obtain ⟨new,hn1,hn2⟩:=hnew;refine jat (yp (yi eB eA (ne_due _ _))) fun hne=>?_
   have hne:¬ yC q (h,3)=yC q0 (h,3):=fun z=>by rw [decide_eq_true z] at hne; cases hne
   rcases jgX hn1 hn2 (h,3) with h1 | ⟨h1,h2⟩
   ·exact absurd h1 hne
   ·refine UP (yp (yi eA (y:=.non) rfl (by rw [h1]; rfl))) ?_
    have nw:yw 13 "now" uz 1 0 [.p 0] [] (yd 3) ye ye [some (.int k),some B,some A,some (.ref i)] M = .ok (.int q.bt) M:=by
     rw [P.mth (xs:=[]) (zs:=[]) (M1:=M) (M2:=M) rfl rfl rfl rfl];exact jiV P
    refine yp (yi eB nw ?_);rw [h2,hbt];show some (PV.bl (!((U:Int) + 1 == (U:Int) + 1)))=_;rw [beq_self_eq_true];rfl
 refine jU (v:=S) (M1:=M) ?_ ?_
 ·rw [hS];unfold stk;rw [<- jhi];refine jN (xs:=(tms n fs 3 q).map yu) (M1:=M) (uH (by rw [hB]; rfl)) (by rw [List.length_map,tl]; exact Yy (by omega)) ?_
  refine xm yu Option.isSome yu (tms n fs 3 q) fun a _=>⟨[some (yu a)],rfl,yp (yi (x:=yu a) (M1:=M) rfl (y:=.non) rfl ?_),fun _=>rfl⟩
  cases a <;> rfl
 simp only [List.set_cons_succ,List.set_cons_zero];rw [<- hρ];refine Jk (M1:=M) (UP (yp (yi now (yi (z:=.int ((U:Int) + 1)) v11 rfl rfl) ?_)) (jat sne fun hz=>?_)) ?_
 ·rw [hbt,jfI,beq_self_eq_true];rfl
 ·have hb:b=true:=by
   cases hb:b with
   | true=>rfl
   | false =>
    exfalso
    have h0:=jhj K.j0 s0 (K.no hb);have h1:=jcx K.j0;rw [h0] at h1;rw [decide_eq_true (List.eq_nil_of_length_eq_zero h1)] at hz;cases hz
  rw [vU,vi,v9,hb];rfl
 refine Jk (M1:=M) (jat sne fun hz=>?_) ?_
 ·have hne:stk n fs 3 q≠[]:=fun z=>by rw [decide_eq_true z] at hz; cases hz
  obtain ⟨m1,m2⟩:=YY hne;obtain ⟨m3,m4⟩:=YZ hne;obtain ⟨x,hx,ex⟩:=(jcP K.j0).mp m1;obtain ⟨y,hy,ey⟩:=(jcP K.j0).mp m3;have em:dOp vd (dCB (jaa) (jb (yd 15) ye)) (dOp vG (dC (.int 2)) (yd 6)) ρ M = .ok (.int (uJ (stk n fs 3 q) + 2 * dl)) M:=yi (min_of hne (by rw [v15,hS])) (yi (z:=.int (2 * dl)) rfl v6 (xR (.inl (by decide)))) rfl;refine UP (jat (yp (yi now em rfl)) fun hc=>yp (yi (x:=.non) rfl v10 ?_)) (yp (yi (max_of hne (by rw [v15,hS])) em ?_))
  ·have hc:uJ (stk n fs 3 q) + 2 * dl<=q.bt:=of_decide_eq_true hc;rw [hB,in_due,decide_eq_false (jfF K.j0 (K.jt.j5 x hx (by rw [ex]; exact hc)).1)]
  ·show some (PV.bl (decide (uJ (stk n fs 3 q) + 2 * dl < Jn (stk n fs 3 q))))=_;rw [decide_eq_false];rw [<- ex,<- ey]
   by_cases hc:x.2 + 2 * dl<=q.bt
   ·have:=(K.jt.j5 x hx hc).2 y hy
    omega
   ·have:=(K.j0.sb y hy).1
    omega
 refine Jl (UP (yp (yi (xk v15 (z:=.int (stk n fs 3 q).length) ?_) (y:=.int q.st.length) (M2:=M) ?_ ?_)) (jfH ?_))
 ·rw [yU (xs:=(stk n fs 3 q).map PV.int) (by rw [hS]; rfl),List.length_map]
 ·refine xk (x:=.lst ((q.st.map (·.1)).map p2)) (M1:=M) ?_ ?_
  ·rw [P.mth (xs:=[]) (zs:=[]) (M1:=M) (M2:=M) v7 rfl rfl rfl];exact jaC P
  ·rw [yU (x:=.lst _) rfl,List.length_map,List.length_map]
 ·rw [jfI,jcx K.j0,beq_self_eq_true];rfl
 ·refine jN (xs:=(stk n fs 3 q).map PV.int) (M1:=M) (uH (by rw [v15,hS])) (by rw [List.length_map]; exact Yy (by omega)) ?_;rw [xm PV.int (fun _=>false) PV.int (stk n fs 3 q) fun a _=>⟨[some (.int a)],rfl,?_,fun z=>by cases z⟩]
  ·rw [List.filter_eq_nil_iff.mpr (fun _ _ z=>by cases z)];rfl
  ·unfold UD;rw [vU,vi,jW];simp only [jr,jC,jx,Res.bind_ok];rw [show XC (yq 1 0 [Sl.p 0] [] [PV.int a] []) M=_ from UT (Kd.int a)];rfl
theorem turn41 (K:K41 M i n s fs dl q w b T U) (hT:T<=68) (hU:U<=68) (n8:n<=8) (s0:0<=s) (s2:s<=2) (hs:3 * s < n) (fl:(fs.length:Int)<=s) (fb:∀ f ∈ fs,0<=f∧f < (n:Int)) (d1:1<=dl) (d9:dl<=10) {bg:Int} (x0 x2 x3 x12 x13 x14 x15:Option PV) :
  ∃ y12 y13 y14 y15 q' w' b' M',Jw [x0,some (.ref 1),x2,x3,some (.lst (fs.map PV.int)),some (.lst ((hon n fs).map PV.int)),some (.int dl),some (.ref i),some (.int bg),some (.bl b),some (.lst ((tms n fs 3 q).map yu)),some (.int U),x12,x13,x14,x15] M = .nx [x0,some (.ref 1),x2,x3,some (.lst (fs.map PV.int)),some (.lst ((hon n fs).map PV.int)),some (.int dl),some (.ref i),some (.int bg),some (.bl b'),some (.lst ((tms n fs 3 q').map yu)),some (.int U),y12,y13,y14,y15] M'∧K41 M' i n s fs dl q' w' b' (T + 1) (U + 1):=by
 have hnl:=uV n fs
 obtain ⟨F,hF⟩:∃ F,F=PV.lst (fs.map PV.int):=⟨_,rfl⟩
 obtain ⟨H,hH⟩:∃ F,F=PV.lst ((hon n fs).map PV.int):=⟨_,rfl⟩
 obtain ⟨A,hA⟩:∃ F,F=PV.lst ((tms n fs 3 q).map yu):=⟨_,rfl⟩
 obtain ⟨y12,M1,q1,w1,b1,e1,K1,st1⟩:=jht K (by omega) (by omega) n8 (tn:=(U:Int)) (bg:=bg) x0 x2 x3 (some F) (some H) (some (.int dl)) (some A) x12 x13 x14 x15;rw [<- hF,<- hH,<- hA]
 obtain ⟨ρ1,hρ1⟩:∃ ρ:En,ρ=[x0,some (.ref 1),x2,x3,some F,some H,some (.int dl),some (.ref i),some (.int bg),some (.bl b1),some A,some (.int U),y12,x13,x14,x15]:=⟨_,rfl⟩
 have u1:∀ M,yd 1 ρ1 M = .ok (.ref 1) M:=fun M=>by rw [hρ1]; rfl
 have u4:∀ M,yd 4 ρ1 M = .ok F M:=fun M=>by rw [hρ1]; rfl
 have u5:∀ M,yd 5 ρ1 M = .ok H M:=fun M=>by rw [hρ1]; rfl
 have u7:∀ M,yd 7 ρ1 M = .ok (.ref i) M:=fun M=>by rw [hρ1]; rfl
 have sB:∃ M2 q2,(∀ {kk:DS} {r:RS},kk ρ1 M2=r->yh (sIf (yR (yg (dOp (eqG true) (yd 4) (xl ye))) (yg (dOp (eqG false) (jq yN 2 0 [.p 0,.p 1] [] (jb (yd 1) (jb (dC (.int 2)) ye)) ye) (dC (.int 0))))) (yn (yw 13 "lie" XA 4 0 [.p 0,.p 1,.p 2,.p 3] [] (yd 7) (jb (jq vK 2 0 [.p 0,.p 1] [] (jb (yd 1) (jb (yd 4) ye)) ye) (jb (jq vK 2 0 [.p 0,.p 1] [] (jb (yd 1) (jb (yd 5) ye)) ye) (jb (dC (.int 3)) ye))) ye)) yA) kk ρ1 M1=r)∧K41 M2 i n s fs dl q2 w1 b1 (T + 1) U∧q2.st=q1.st:=by
  have up:∀ {M:Sto} {q:Ps},K41 M i n s fs dl q w1 b1 T U->K41 M i n s fs dl q w1 b1 (T + 1) U:=fun K=>⟨K.tw,K.pu,K.i2,K.wv,K.j0,K.j1,K.jt,K.no,by have:=K.ph; omega,K.lg,K.lk,K.bt⟩
  have t1:yg (dOp (eqG true) (yd 4) (xl ye)) ρ1 M1 = .ok (!decide (fs=[])) M1:=yp (yi (u4 M1) jif (by rw [hF]; exact jbW))
  by_cases hf:fs=[]
  ·rw [decide_eq_true hf] at t1
   have tB:yR (yg (dOp (eqG true) (yd 4) (xl ye))) (yg (dOp (eqG false) (jq yN 2 0 [.p 0,.p 1] [] (jb (yd 1) (jb (dC (.int 2)) ye)) ye) (dC (.int 0)))) ρ1 M1 = .ok false M1:=by
    unfold yR;rw [t1];rfl
   exact ⟨M1,q1,fun {kk r} hr=>YX (bb:=false) (M1:=M1) tB (ρ':=ρ1) (M2:=M1) rfl hr,up K1,rfl⟩
  ·rw [decide_eq_false hf] at t1;obtain ⟨x,M4,e4,_,_,T4,o4⟩:=xE K1.tw (k:=2) (by decide) (by decide);have K4:=K1.off o4 T4
   have tB:yR (yg (dOp (eqG true) (yd 4) (xl ye))) (yg (dOp (eqG false) (jq yN 2 0 [.p 0,.p 1] [] (jb (yd 1) (jb (dC (.int 2)) ye)) ye) (dC (.int 0)))) ρ1 M1 = .ok (x == 0) M4:=by
    unfold yR;rw [t1];show yg _ ρ1 M1=_;refine yp (yi (x:=.int x) (M1:=M4) ?_ (y:=.int 0) rfl jac);rw [jW];simp only [jr,u1,vj,jx,Res.bind_ok];exact e4
   cases hx:(x == 0) with
   | false =>
    rw [hx] at tB;exact ⟨M4,q1,fun {kk r} hr=>YX (bb:=false) (M1:=M4) tB (ρ':=ρ1) (M2:=M4) rfl hr,up K4,rfl⟩
   | true =>
    rw [hx] at tB;obtain ⟨f,M5,e5,hff,T5,o5⟩:=jbR T4 hf (by omega);obtain ⟨h,M6,e6,hh,T6,o6⟩:=jbR T5 (l:=hon n fs) (jfY (by omega)) (by omega);have K6:=(K4.off o5 T5).off o6 T6;obtain ⟨M7,q7,e7,K7,st7⟩:=do_lie K6 (by omega) (by omega) hff fb hh;obtain ⟨es,gs,P4,_⟩:=K4.pu;refine ⟨M7,q7,fun {kk r} hr=>YX (bb:=true) (M1:=M4) tB (ρ':=ρ1) (M2:=M7) ?_ hr,K7,st7⟩;show yn _ ρ1 M4=_;refine yV (v:=.non) ?_;rw [P4.mth (xs:=[.int f,.int h,.int 3]) (zs:=[]) (M1:=M6) (M2:=M6) (u7 M4) rfl ?_ rfl]
    ·exact e7
    have p1:jq vK 2 0 [.p 0,.p 1] [] (jb (yd 1) (jb (yd 4) ye)) ye ρ1 M4 = .ok (.int f) M5:=by
     rw [jW];simp only [jr,u1,u4,jx,Res.bind_ok];rw [hF];exact e5
    have p2:jq vK 2 0 [.p 0,.p 1] [] (jb (yd 1) (jb (yd 5) ye)) ye ρ1 M5 = .ok (.int h) M6:=by
     rw [jW];simp only [jr,u1,u5,jx,Res.bind_ok];rw [hH];exact e6
    rw [jr,p1];simp only [Res.bind_ok];rw [jr,p2];simp only [Res.bind_ok,jr,vj,jx]
 obtain ⟨M2,q2,eB,K2,st2⟩:=sB;obtain ⟨ds,M3,e3,dl3,db,T3,o3⟩:=lates (ρ:=ρ1) K2.tw d1 (by omega) u1 (by rw [hρ1]; rfl);have K3:=K2.off o3 T3
 obtain ⟨L,hL⟩:∃ F,F=PV.lst (ds.map PV.int):=⟨_,rfl⟩
 rw [<- hL] at e3
 obtain ⟨ρ3,hρ3⟩:∃ ρ:En,ρ=[x0,some (.ref 1),x2,x3,some F,some H,some (.int dl),some (.ref i),some (.int bg),some (.bl b1),some A,some (.int U),y12,some L,x14,x15]:=⟨_,rfl⟩
 have z7:∀ M,yd 7 ρ3 M = .ok (.ref i) M:=fun M=>by rw [hρ3]; rfl
 have z13:∀ M,yd 13 ρ3 M = .ok L M:=fun M=>by rw [hρ3]; rfl
 obtain ⟨es3,gs3,P3,_⟩:=K3.pu
 have sC:∃ M4 q4 w4,(∀ {kk:DS} {r:RS},kk ρ3 M4=r->yh (sIf (yg (dOp (eqG true) (yd 13) (xl ye))) (yn (yw 13 "go_on" uA 1 1 [.p 0,.k 0] [] (yd 7) ye (jb (yd 13) ye))) (yn (yw 13 "go_on" uA 1 0 [.p 0,.d 0] [.tup []] (yd 7) ye ye))) kk ρ3 M3=r)∧K41 M4 i n s fs dl q4 w4 b1 (T + 1) (U + 1)∧∃ new,q4.st=q2.st ++ new∧∀ x ∈ new,x.2=(U:Int) + 1:=by
  have t1:yg (dOp (eqG true) (yd 13) (xl ye)) ρ3 M3 = .ok (!decide (ds=[])) M3:=yp (yi (z13 M3) jif (by rw [hL]; exact jbW))
  by_cases hds:ds=[]
  ·rw [decide_eq_true hds] at t1;obtain ⟨M4,q4,w4,e4,K4,hn⟩:=jcX K3 (by omega) (by omega) n8 s0 (by omega) hs fl d1 (D:=.tup []) (ds:=[]) (.inr rfl) (Nat.zero_le _) (fun d hd=>by cases hd);refine ⟨M4,q4,w4,fun {kk r} hr=>YX (bb:=false) (M1:=M3) t1 (ρ':=ρ3) (M2:=M4) ?_ hr,K4,hn⟩;show yn _ ρ3 M3=_;refine yV (v:=.non) ?_;rw [P3.mth (xs:=[]) (zs:=[]) (M1:=M3) (M2:=M3) (z7 M3) rfl rfl rfl];exact e4
  ·rw [decide_eq_false hds] at t1;obtain ⟨M4,q4,w4,e4,K4,hn⟩:=jcX K3 (by omega) (by omega) n8 s0 (by omega) hs fl d1 (D:=.lst (ds.map PV.int)) (ds:=ds) (.inl rfl) (by omega) db;refine ⟨M4,q4,w4,fun {kk r} hr=>YX (bb:=true) (M1:=M3) t1 (ρ':=ρ3) (M2:=M4) ?_ hr,K4,hn⟩;show yn _ ρ3 M3=_;refine yV (v:=.non) ?_;rw [P3.mth (xs:=[]) (zs:=[L]) (M1:=M3) (M2:=M3) (z7 M3) rfl rfl (JA (z13 M3)),hL];exact e4
 obtain ⟨M4,q4,w4,eC,K4,hn⟩:=sC;rw [st2,st1] at hn;obtain ⟨y14,y15,e5⟩:=jiF K4 n8 s0 d1 (by omega) (q0:=q) hn x0 x2 x3 (some F) (some (.int bg)) y12 (some L) x14 x15;rw [<- hH,<- hA] at e5;refine ⟨y12,some L,y14,y15,q4,w4,b1,M4,?_,K4⟩;unfold Jw;refine seq_of (ρ':=ρ1) (M1:=M1) ?_ ?_
 ·rw [ue (xs:=(hon n fs).map PV.int) (M1:=M) (uH (by rw [hH]; rfl)),hρ1];exact e1
 refine eB ?_;refine jU (v:=L) (M1:=M3) e3 ?_;rw [show ρ1.set 13 (some L)=ρ3 by rw [hρ1,hρ3]; rfl];refine eC ?_;rw [hρ3];exact e5
end
theorem law_true (ns:List Int) (hl:ns.length<=63):∃ M',yv 1 16 jbg [.scr ns] ⟨0,fun _=>none⟩ = .ok (.bl true) M':=by
 show Tru (jbg [some (.scr ns),none,none,none,none,none,none,none,none,none,none,none,none,none,none,none] ⟨0,fun _=>none⟩);obtain ⟨M1,e1,T1,n1⟩:=jhf ns;obtain ⟨s,n,fs,M2,e2,s0,s2,hs,n8,fl,fb,pw,T2,o2⟩:=jiD T1;have hnl:=uV n fs;obtain ⟨dl,M3,e3,hdl,T3,o3⟩:=jbR T2 (l:=[1,3,10]) (by simp) (show 3<=1000 by decide)
 obtain ⟨d1,d9⟩:1<=dl∧dl<=10:=by
  simp only [List.mem_cons,List.mem_nil_iff,or_false] at hdl
  rcases hdl with rfl | rfl | rfl <;> omega
 obtain ⟨M4,e4,n4,P4,g4⟩:=jdu (M:=M3) (n:=n) (s:=s) (fs:=fs) (dl:=dl) (by omega) (by omega) s0 (by omega) hs pw fb fl (by omega) (by omega)
 obtain ⟨i,hi⟩:∃ i,i=M3.n:=⟨_,rfl⟩
 rw [<- hi] at e4 n4 P4 g4
 have i2:2<=i:=by rw [hi]; obtain ⟨_,_,t⟩:=T3; exact t.n
 have T4:Tw M4:=jiR T3 (g4 0 (by omega)) (g4 1 (by omega)) (by rw [n4,<- hi]; omega);obtain ⟨x,M5,e5,x0,x1,T5,o5⟩:=xE T4 (k:=14) (by decide) (by decide)
 have K4:K41 M4 i n s fs dl ⟨[],[],[],[],0⟩ (fun _=>0) false 0 0 :=
  ⟨T4,⟨[],[],P4,Nat.zero_le _⟩,i2,⟨fun _ h=>(by cases h),fun _ h=>(by cases h),.nil⟩,⟨.nil,fun _ h=>(by cases h),fun _ h=>(by cases h),fun _ h=>(by cases h),fun _ h=>(by cases h),fun _ h=>(by cases h),.nil⟩,⟨fun o _ h=>by
   have h:s < ((0:Nat):Int):=h
   omega,fun o _ h=>by
   have h:2 * s < ((0:Nat):Int):=h
   omega⟩,⟨fun _ h=>(by cases h),fun _ h=>(by cases h)⟩,fun _=>rfl,by decide,Nat.zero_le _,Nat.zero_le _,rfl⟩
 have K5:=K4.off o5 T5
 obtain ⟨F,hF⟩:∃ F,F=PV.lst (fs.map PV.int):=⟨_,rfl⟩
 obtain ⟨H,hH⟩:∃ F,F=PV.lst ((hon n fs).map PV.int):=⟨_,rfl⟩
 have rep:∀ {ρ:En} {M:Sto},yd 5 ρ M = .ok H M->dOp vG (xl (jb (dC .non) ye)) (dCB (one yK) (jb (yd 5) ye)) ρ M = .ok (.lst ((tms n fs 3 ⟨[],[],[],[],0⟩).map yu)) M:=fun {ρ M} v5=>by
  refine yi (x:=.lst [.non]) (M1:=M) ?_ (xk (z:=.int (hon n fs).length) v5 (by rw [yU (xs:=(hon n fs).map PV.int) (by rw [hH]; rfl),List.length_map])) ?_
  ·rw [jaf,JA (x:=.non) rfl];simp only [Res.bind_ok];exact if_pos (show (1:Nat)<=sizeLine by decide)
  ·rw [jgg (x:=.lst [.non]) rfl (by omega) (by omega) (by rw [Int.toNat_natCast]; exact Nat.le_of_lt (szB (by show 1 * _<=_; omega))),Int.toNat_natCast];congr 2;unfold tms
   have:∀ l:List Int,(List.replicate l.length [PV.non]).flatten=(l.map fun h=>yC ⟨[],[],[],[],0⟩ (h,3)).map yu:=fun l=>by
    induction l with
    | nil=>rfl
    | cons a l ih =>
     rw [List.length_cons,List.replicate_succ,List.flatten_cons,ih];rfl
   exact this _
 obtain ⟨A,hA⟩:∃ F,F=PV.lst ((tms n fs 3 ⟨[],[],[],[],0⟩).map yu):=⟨_,rfl⟩
 obtain ⟨bg,hbg⟩:∃ bg,bg=2 + x:=⟨_,rfl⟩
 obtain ⟨Z,hZ⟩:∃ Z:Nat,(Z:Int)=bg + 4 * dl + 6:=⟨(bg + 4 * dl + 6).toNat,by omega⟩
 unfold jbg;refine JV (v:=.ref 1) (M1:=M1) (by simpa [yq,gen] using e1) ?_;simp only [List.set_cons_succ,List.set_cons_zero];refine go_asg (v:=.tup [.int s,.int n,F,H]) (M1:=M2) (ρ':=[some (.scr ns),some (.ref 1),some (.int s),some (.int n),some F,some H,none,none,none,none,none,none,none,none,none,none]) ?_ rfl ?_
 ·rw [jW];simp only [jr,jC,jI,jx,Res.bind_ok];rw [hF,hH];exact e2
 refine JV (v:=.int dl) (M1:=M3) ?_ ?_
 ·have l3:xl (jb (dC (.int 1)) (jb (dC (.int 3)) (jb (dC (.int 10)) ye))) [some (.scr ns),some (.ref 1),some (.int s),some (.int n),some F,some H,none,none,none,none,none,none,none,none,none,none] M2 = .ok (.lst [.int 1,.int 3,.int 10]) M2:=by
   rw [jaf];simp only [jr,vj,jx,Res.bind_ok];exact if_pos (show (3:Nat)<=sizeLine by decide)
  rw [jW];simp only [jr,jC,jI,jx,Res.bind_ok,l3];exact e3
 simp only [List.set_cons_succ,List.set_cons_zero];refine JV (v:=.ref i) (M1:=M4) ?_ ?_
 ·rw [dIf_eq,show yg (dOp (eqG false) (yd 6) (dC (.int 10))) [some (.scr ns),some (.ref 1),some (.int s),some (.int n),some F,some H,some (.int dl),none,none,none,none,none,none,none,none,none] M3 = .ok (dl == 10) M3 from yp (yi (x:=.int dl) rfl (y:=.int 10) rfl jac)];simp only [Res.bind_ok]
  cases hd:(dl == 10) with
  | true =>
   have hd:=beq_iff_eq.mp hd;rw [if_pos rfl];unfold jch;simp only [jr,jC,jI,jx,Res.bind_ok];rw [hF];rw [hd] at e4;exact e4
  | false =>
   rw [if_neg (by decide)];unfold jch;simp only [jr,jC,jI,jx,Res.bind_ok];rw [hF];exact e4
 simp only [List.set_cons_succ,List.set_cons_zero];refine JV (v:=.int bg) (M1:=M5) ?_ ?_
 ·refine yi (x:=.int 2) (M1:=M4) rfl (y:=.int x) (M2:=M5) ?_ (by rw [hbg]; rfl);rw [jW];simp only [jr,jC,jI,vj,jx,Res.bind_ok];exact e5
 simp only [List.set_cons_succ,List.set_cons_zero];refine JV (v:=.bl false) (M1:=M5) rfl ?_;simp only [List.set_cons_succ,List.set_cons_zero];refine JV (v:=A) (M1:=M5) (by rw [hA]; exact rep rfl) ?_;simp only [List.set_cons_succ,List.set_cons_zero];rw [hA]
 obtain ⟨ρ',M6,e6,x11,x12,x13,x14,x15,q,w,b,rfl,K6⟩:=Jo (g:=gN 11) (db:=Jw)
  (fun T ρ M=>∃ x11 x12 x13 x14 x15 q w b,ρ=[some (.scr ns),some (.ref 1),some (.int s),some (.int n),some F,some H,some (.int dl),some (.ref i),some (.int bg),some (.bl b),some (.lst ((tms n fs 3 q).map yu)),x11,x12,x13,x14,x15]∧K41 M i n s fs dl q w b T T)
  (xw 0 Z) 0 [some (.scr ns),some (.ref 1),some (.int s),some (.int n),some F,some H,some (.int dl),some (.ref i),some (.int bg),some (.bl false),some (.lst ((tms n fs 3 ⟨[],[],[],[],0⟩).map yu)),none,none,none,none,none] M5
  ⟨none,none,none,none,none,_,_,_,rfl,K5⟩ (by
   rintro T z hz ρ M ⟨x11,x12,x13,x14,x15,q,w,b,rfl,K⟩;rw [uf] at hz;split at hz
   ·rename_i hq;cases hz;rw [Nat.zero_add] at K ⊢;obtain ⟨y12,y13,y14,y15,q',w',b',M',ex,K'⟩:=turn41 K (by omega) (by omega) n8 s0 s2 hs fl fb d1 d9 (bg:=bg) (some (.scr ns)) (some (.int s)) (some (.int n)) x12 x13 x14 x15;rw [<- hF,<- hH] at ex;exact ⟨_,_,M',by rw [Int.zero_add]; rfl,ex,some (.int T),y12,y13,y14,y15,q',w',b',rfl,K'⟩
   ·cases hz)
 refine go_for (M1:=M5) (xs:=xw 0 Z) ?_ e6 ?_
 ·have es:dOp vd (dOp vd (yd 8) (dOp vG (dC (.int 4)) (yd 6))) (dC (.int 6)) [some (.scr ns),some (.ref 1),some (.int s),some (.int n),some F,some H,some (.int dl),some (.ref i),some (.int bg),some (.bl false),some (.lst ((tms n fs 3 ⟨[],[],[],[],0⟩).map yu)),none,none,none,none,none] M5 = .ok (.int Z) M5:=by
   rw [hZ];exact yi (yi (x:=.int bg) (M1:=M5) rfl (yi (x:=.int 4) (M1:=M5) rfl (y:=.int dl) rfl (xR (.inl (by decide)))) rfl) rfl rfl
  have hsm:xy (Z:Int)=true:=yz.mpr ⟨by omega,by omega⟩;unfold xi;simp only [jr,es,Res.bind_ok,jx,hsm,if_true,Int.toNat_natCast]
 obtain ⟨es,gs,P,_⟩:=K6.pu
 have m1:yH (dIt (yd 5)) vy [7] vh (yw 13 "struck_at" Ym 3 0 [.p 0,.p 1,.p 2] [] (yd 1) (jb (yd 0) (jb (dC (.int 4)) ye)) ye) [some (.scr ns),some (.ref 1),some (.int s),some (.int n),some F,some H,some (.int dl),some (.ref i),some (.int bg),some (.bl b),some (.lst ((tms n fs 3 q).map yu)),x11,x12,x13,x14,x15] M6 = .ok (.lst ((tms n fs 3 ⟨[],[],[],[],0⟩).map yu)) M6:=by
  refine jN (xs:=(hon n fs).map PV.int) (M1:=M6) (uH (by rw [hH]; rfl)) (by rw [List.length_map]; exact Yy (by omega)) ?_;rw [show (tms n fs 3 ⟨[],[],[],[],0⟩).map yu=(hon n fs).map (yu ∘ fun h=>yC ⟨[],[],[],[],0⟩ (h,3)) by unfold tms; rw [List.map_map]]
  refine jZ PV.int (yu ∘ fun h=>yC ⟨[],[],[],[],0⟩ (h,3)) (hon n fs) fun x hx=>⟨[some (.int x),some (.ref i)],rfl,rfl,?_⟩
  rw [P.mth (xs:=[.int x,.int 4]) (zs:=[]) (M1:=M6) (M2:=M6) rfl rfl rfl rfl]
  have e0:yC q (x,4)=none:=by
   cases e:yC q (x,4) with
   | none=>rfl
   | some z =>
    have:=(K6.j0.sb _ ((vJ K6.j0.sn).mp e)).2.2.1
    cases this
  have:=jaB P hx (by decide:(1:Int)<=4) (by decide)
  rw [e0] at this;exact this
 refine go_ret (M1:=M6) ?_;exact yi m1 (rep rfl) (jgp (neg:=false) rfl rfl (vQ _) (by show xF _ + 1<=60; rw [Xo]; omega))

section
variable {P:Program} {w:World} {K:PySem.W.Frag} {mg:Str->Option Value} {base:Heap} {C:Nat->Addr} {f:Addr} {fd:FuncData}
theorem ok_zbg (F:Fun K "_law_town" "_law_town" Ve f fd) (N_list:mg "list" = none):FnOk P w K mg base (CX1 P w) 1 f fd ["_law_script"] (spD (tb K C) jbs) :=
 have hT:(tb K C).K=K:=rfl
 jL F sc_zbg fun cdv A outer s H E hr=>(jg (jw (Yq (ja (jiU (jX (o_scr hT (hu0 hr)) (qv 0) (vo jd) (jV _)) (JO (jiL hT) rfl N_list JD (ja (qv 0) jd)) (Yq (ja jo jd))) (ja jo jd)))))
theorem ok_zbh (F:Fun K "_law_draw" "_law_draw" Vd f fd) (N_len:mg "len" = none):FnOk P w K mg base (CX1 P w) 1 f fd ["_law_town_here","_law_many"] (spD (tb K C) yN) :=
 have hT:(tb K C).K=K:=rfl
 jL F JK fun cdv A outer s H E hr=>(jf (jG (i:=2) JK.nd rfl (Or.inl rfl) (vB (JH hT) (qv 0) jo (fun _ _=>rfl)))
   (jf (jcD (jz (vD hT) (vB (JH hT) (qv 0) jo (fun _ _=>rfl)) jo) (qv 0) jo)
   (jf (jG (i:=3) JK.nd rfl (Or.inl rfl) (jz (YW) (vB (JH hT) (qv 0) jo (fun _ _=>rfl)) (jk (xZ hT) rfl N_len yS (ja (qv 2) jd))))
   (jf (jG (i:=4) JK.nd rfl (Or.inl rfl) (vB (JH hT) (qv 2) (qv 3) (fun _ _=>rfl)))
   (jf (yG (jX (jhZ) (qv 4) jo (jV _)) (jf (jcD (jz (jfA) (qv 4) (qv 1)) (qv 2) (qv 3))
   (jg (jw (jz (YW) (qv 4) (qv 1))))) jJ)
   (jf (jG (i:=5) JK.nd rfl (Or.inl rfl) (jz (YW) (jz (vD hT) (qv 4) (jz (uM) jo (vB (JH hT) (qv 0) jo (fun _ _=>rfl)))) jo))
   (jf (jG (i:=5) JK.nd rfl (Or.inl rfl) (jz (YW) (jz (o_pow) (qv 5) jo) jo))
   (jg (jw (jz (YW) (jz (jfA) (jz (YW) (jz (vD hT) (jz (uM) (jz (jfA) (qv 5) jo) jo) (qv 5)) jo) jo) (qv 1)))))))))))
theorem ok_zba (F:Fun K "_law_liars" "_law_liars" Vk f fd) (Q_zbh:CalD P w K mg base (tb K C) "_law_draw" 1 ["_law_town_here","_law_many"] [] 2 0 [.p 0,.p 1] [] yN) (N_len:mg "len" = none) (N_range:mg "range" = none):FnOk P w K mg base (CX1 P w) 2 f fd ["_law_town_here","_law_crew_here","_law_most"] (spD (tb K C) Ut) :=
 have hT:(tb K C).K=K:=rfl
 Xp (jbd F jbH fun cdv A outer s H E hr=>(jf (jG (i:=3) jbH.nd rfl (Or.inl rfl) (Yq jd))
   (jf (YN 200 PassesOwn.never rfl (uD rfl N_range (ja (qv 1) jd)) (xC (i:=4) jbH.nd rfl (Or.inl rfl)) (jg (yG (QW.qt (vn (jX (jhY) (jk (xZ hT) rfl N_len yS (ja (qv 3) jd)) (qv 2) (jV _)) (xB (jX (jdK hT hr.units) (ji Q_zbh (hr.mono (by decide)) rfl jA (ja (qv 0) (ja jo jd)) jh) jo (jV _))))) (jg (jO (jeR PySem.F.slot_list_append PySem.F.type_list_append jaR (qv 3) (ja (qv 4) jd)))) jJ)))
   (jg (jw (qe_frz (qv 3)))))))
theorem ok_zbi (F:Fun K "_law_crew" "_law_crew" YG f fd) (Q_zbh:CalD P w K mg base (tb K C) "_law_draw" 1 ["_law_town_here","_law_many"] [] 2 0 [.p 0,.p 1] [] yN) (Q_zba:CalD P w K mg base (tb K C) "_law_liars" 2 ["_law_town_here","_law_crew_here","_law_most"] [] 3 0 [.p 0,.p 1,.p 2] [] Ut) (N_range:mg "range" = none):FnOk P w K mg base (CX1 P w) 3 f fd ["_law_town_here"] (spD (tb K C) jbr) :=
 have hT:(tb K C).K=K:=rfl
 jL F UJ fun cdv A outer s H E hr=>(jf (jG (i:=1) UJ.nd rfl (Or.inl rfl) (ji Q_zbh (hr.mono (by decide)) rfl jE (ja (qv 0) (ja jo jd)) jh))
   (jf (jG (i:=2) UJ.nd rfl (Or.inl rfl) (jz (vD hT) (jz (vD hT) (jz (uM) jo (qv 1)) jo) (ji Q_zbh (hr.mono (by decide)) rfl jE (ja (qv 0) (ja jo jd)) jh)))
   (jf (jG (i:=3) UJ.nd rfl (Or.inr rfl) (ji Q_zba (hr.mono (by decide)) rfl jE (ja (qv 0) (ja (qv 2) (ja (qv 1) jd))) jh))
   (jg (jw (UL (ja (qv 1) (ja (qv 2) (ja (qv 3) (ja (xD (osc:=(jc YG)) (own:=["_law_house"]) (fr:=["_law_foes"]) (js:=[3]) uO rfl rfl (by exact ⟨rfl,by decide +kernel,by decide +kernel,by decide +kernel,by decide +kernel,by decide +kernel⟩) rfl (uD rfl N_range (ja (qv 2) jd)) (fun _ _ _=>(jM (i:=0) (show List.Nodup (["_law_house","_law_foes"]:List Str) from by decide +kernel) rfl (Or.inl rfl))) (fun _ _ _=>(Jh (jX (UR hT (Xd hr)) (qv 0) (qv 1) (by with_unfolding_all rfl)))) (fun _ _ _=>(qv 0))) jd))))))))))
theorem ok_zbj (F:Fun K "_law_pick" "_law_pick" Vc f fd) (Q_zbh:CalD P w K mg base (tb K C) "_law_draw" 1 ["_law_town_here","_law_many"] [] 2 0 [.p 0,.p 1] [] yN) (N_len:mg "len" = none):FnOk P w K mg base (CX1 P w) 2 f fd ["_law_town_here","_law_some"] (spD (tb K C) vK) :=
 have hT:(tb K C).K=K:=rfl
 jL F sc_zbj fun cdv A outer s H E hr=>(jg (jw (vB (JH hT) (qv 1) (ji Q_zbh (hr.mono (by decide)) rfl jE (ja (qv 0) (ja (jk (xZ hT) rfl N_len yS (ja (qv 1) jd)) jd)) jh) (fun _ _=>rfl))))
theorem ok_zbp (F:Fun K "is_whole" "is_whole" XW f fd) (N_bool:mg "bool" = none) (N_int:mg "int" = none) (N_isinstance:mg "isinstance" = none):FnOk P w K mg base (CX1 P w) 1 f fd ["thing"] (spD (tb K C) Ur) :=
 have hT:(tb K C).K=K:=rfl
 jL F sc_zbp fun cdv A outer s H E hr=>(jg (jw (UN (jk (Uo hT) rfl N_isinstance jK (ja (qv 0) (ja (jaJ rfl N_int jgV) jd))) (UM (jeQ (jk (Uo hT) rfl N_isinstance jK (ja (qv 0) (ja (jaJ rfl N_bool jdi) jd))))))))
theorem ok_zbk (F:Fun K "is_within" "is_within" Vb f fd) (Q_zbp:CalD P w K mg base (tb K C) "is_whole" 1 ["thing"] [] 1 0 [.p 0] [] Ur):FnOk P w K mg base (CX1 P w) 2 f fd ["thing","least","most"] (spD (tb K C) xu) :=
 have hT:(tb K C).K=K:=rfl
 jL F sc_zbk fun cdv A outer s H E hr=>(jg (jw (UN (ji Q_zbp (hr.mono (by decide)) rfl jE (ja (qv 0) jd) jh) (UM (jeV (o_le) (o_le) (qv 1) (qv 0) (qv 2))))))
theorem ok_zat (F:Fun K "check_within" "check_within" Vq f fd) (X_BadNumber:Exc K mg "BadNumber" (C 0)) (Q_zbk:CalD P w K mg base (tb K C) "is_within" 2 ["thing","least","most"] [] 3 0 [.p 0,.p 1,.p 2] [] xu):FnOk P w K mg base (CX1 P w) 3 f fd ["thing","least","most"] (spD (tb K C) vL) :=
 have hT:(tb K C).K=K:=rfl
 jL F sc_zat fun cdv A outer s H E hr=>(jg (yG (xx (xj hT (ji Q_zbk (hr.mono (by decide)) rfl jE (ja (qv 0) (ja (qv 1) (ja (qv 2) jd))) jh))) (jg (xc X_BadNumber rfl (ja (jhA (jeN (by decide +kernel) (by decide) (jeO (qv 1) (by decide) (jeN (by decide +kernel) (by decide) (jeO (qv 2) (by decide) (qj_nil (by decide))))))) jd))) jJ))
theorem ok_zau (F:Fun K "check_houses" "check_houses" Vp f fd) {t_MOST_HOUSES:Tok} (C_MOST_HOUSES:mg "MOST_HOUSES" = some (.int 16 t_MOST_HOUSES)) (Q_zat:CalD P w K mg base (tb K C) "check_within" 3 ["thing","least","most"] [] 3 0 [.p 0,.p 1,.p 2] [] vL):FnOk P w K mg base (CX1 P w) 4 f fd ["houses"] (spD (tb K C) jdm) :=
 have hT:(tb K C).K=K:=rfl
 jL F sc_zau fun cdv A outer s H E hr=>(jg (jO (ji Q_zat (hr.mono (by decide)) rfl jE (ja (qv 0) (ja jo (ja (uQ rfl C_MOST_HOUSES) jd))) jh)))
theorem ok_zbl (F:Fun K "check_few" "check_few" XZ f fd) {t_MOST_FEW:Tok} (C_MOST_FEW:mg "MOST_FEW" = some (.int 5 t_MOST_FEW)) (Q_zat:CalD P w K mg base (tb K C) "check_within" 3 ["thing","least","most"] [] 3 0 [.p 0,.p 1,.p 2] [] vL):FnOk P w K mg base (CX1 P w) 4 f fd ["few"] (spD (tb K C) XB) :=
 have hT:(tb K C).K=K:=rfl
 jL F sc_zbl fun cdv A outer s H E hr=>(jg (jO (ji Q_zat (hr.mono (by decide)) rfl jE (ja (qv 0) (ja jo (ja (uQ rfl C_MOST_FEW) jd))) jh)))
theorem ok_zbq (F:Fun K "is_house" "is_house" XV f fd) (Q_zbk:CalD P w K mg base (tb K C) "is_within" 2 ["thing","least","most"] [] 3 0 [.p 0,.p 1,.p 2] [] xu):FnOk P w K mg base (CX1 P w) 3 f fd ["thing","houses"] (spD (tb K C) Yj) :=
 have hT:(tb K C).K=K:=rfl
 jL F sc_zbq fun cdv A outer s H E hr=>(jg (jw (ji Q_zbk (hr.mono (by decide)) rfl jE (ja (qv 0) (ja jo (ja (jz (jfx) (qv 1) jo) jd))) jh)))
theorem ok_zbm (F:Fun K "is_rising" "is_rising" YF f fd) (N_all:mg "all" = none) (N_zip:mg "zip" = none):FnOk P w K mg base (CX1 P w) 1 f fd ["numbers"] (spD (tb K C) jbq) :=
 have hT:(tb K C).K=K:=rfl
 jL F sc_zbm fun cdv A outer s H E hr=>(jg (jw (jk (jgY rfl) rfl N_all jcn (ja (xD (osc:=(jc YF)) (own:=["ahead","number"]) (fr:=[]) (js:=[]) (bnd_2 (T:=tb K C)) rfl rfl (by exact ⟨rfl,by decide +kernel,by decide +kernel,by decide +kernel,by decide +kernel,by decide +kernel⟩) rfl (qi_zip hT rfl N_zip (ja (qv 0) (ja (jeP hT (qv 0) (jhv jo) jhw) jd))) (fun _ _ _=>(show PG _ _ (gTup K 2 (jaY (uN 0) (jaY (uN 1) gNil))) from (jfk rfl (YU (jM (i:=0) (show List.Nodup (["ahead","number"]:List Str) from by decide +kernel) rfl (Or.inl rfl)) (YU (jM (i:=1) (show List.Nodup (["ahead","number"]:List Str) from by decide +kernel) rfl (Or.inl rfl)) jcK))))) (fun _ _ _=>uC) (fun _ _ _=>(jeU (jhY) (qv 0) (qv 1) (jV _)))) jd))))
theorem ok_zah (F:Fun K "check_some_houses" "check_some_houses" YI f fd) (X_BadHouses:Exc K mg "BadHouses" (C 3)) (Q_zbq:CalD P w K mg base (tb K C) "is_house" 3 ["thing","houses"] [] 2 0 [.p 0,.p 1] [] Yj) (Q_zbm:CalD P w K mg base (tb K C) "is_rising" 1 ["numbers"] [] 1 0 [.p 0] [] jbq) (N_all:mg "all" = none) (N_isinstance:mg "isinstance" = none) (N_len:mg "len" = none) (N_list:mg "list" = none) (N_tuple:mg "tuple" = none):FnOk P w K mg base (CX1 P w) 4 f fd ["some","houses","most"] (spD (tb K C) Uy) :=
 have hT:(tb K C).K=K:=rfl
 jL F sc_zah fun cdv A outer s H E hr=>(jf (yG (QW.qt (YM (xx (xj hT (jk (Uo hT) rfl N_isinstance jK (ja (qv 0) (ja (UL (ja (jaJ rfl N_list JD) (ja (jaJ rfl N_tuple jbo) jd))) jd))))) (uP (jX (jfz) (jk (xZ hT) rfl N_len yS (ja (qv 0) jd)) (qv 2) (jV _))))) (jg (xc X_BadHouses rfl (ja Yb jd))) jJ)
   (jg (yG (QW.qt (YM (xx (xj hT (jk (jgY rfl) rfl N_all jcn (ja (xD (osc:=(jc YI)) (own:=["house"]) (fr:=["houses"]) (js:=[1]) uO rfl rfl (by exact ⟨rfl,by decide +kernel,by decide +kernel,by decide +kernel,by decide +kernel,by decide +kernel⟩) rfl (vO (qv 0)) (fun _ _ _=>(jM (i:=0) (show List.Nodup (["house","houses"]:List Str) from by decide +kernel) rfl (Or.inl rfl))) (fun _ _ _=>uC) (fun _ _ _=>(ji Q_zbq (hr.mono (by decide)) rfl jA (ja (qv 0) (ja (qv 1) jd)) jh))) jd)))) (uP (xx (xj hT (ji Q_zbm (hr.mono (by decide)) rfl jE (ja (qv 0) jd) jh)))))) (jg (xc X_BadHouses rfl (ja Yb jd))) jJ)))
theorem ok_zar (F:Fun K "__init__" "Post.__init__" Vs f fd) (X_BadHouses:Exc K mg "BadHouses" (C 3)) (nf_TimedPulse_few:jp K (C 13) "few") (nf_TimedPulse_got:jp K (C 13) "got") (nf_TimedPulse_houses:jp K (C 13) "houses") (nf_TimedPulse_liars:jp K (C 13) "liars") (nf_TimedPulse_on_way:jp K (C 13) "on_way") (Q_zbl:CalD P w K mg base (tb K C) "check_few" 4 ["few"] [] 1 0 [.p 0] [] XB) (Q_zau:CalD P w K mg base (tb K C) "check_houses" 4 ["houses"] [] 1 0 [.p 0] [] jdm) (Q_zah:CalD P w K mg base (tb K C) "check_some_houses" 4 ["some","houses","most"] [] 3 0 [.p 0,.p 1,.p 2] [] Uy) (N_list:mg "list" = none) (cl_TimedPulse:Cls K (C 13)):FnOk P w K mg base (CX1 P w) 5 f fd ["self","houses","few","liars"] (spD (tb K C) jby) :=
 have hT:(tb K C).K=K:=rfl
 jL F sc_zar fun cdv A outer s H E hr=>(jf (jO (ji Q_zau (hr.mono (by decide)) rfl jE (ja (qv 1) jd) jh))
   (jf (jO (ji Q_zbl (hr.mono (by decide)) rfl jE (ja (qv 2) jd) jh))
   (jf (yG (jX (o_le) (qv 1) (jz (uM) jo (qv 2)) (jV _)) (jg (xc X_BadHouses rfl (ja Yb jd))) jJ)
   (jf (jO (ji Q_zah (hr.mono (by decide)) rfl jE (ja (qv 3) (ja (qv 1) (ja (qv 2) jd))) jh))
   (jf (xf hT cl_TimedPulse nf_TimedPulse_houses (qv 0) (qv 1))
   (jf (xf hT cl_TimedPulse nf_TimedPulse_few (qv 0) (qv 2))
   (jf (xf hT cl_TimedPulse nf_TimedPulse_liars (qv 0) (JO (b_list hT) rfl N_list JD (ja (qv 3) jd)))
   (jf (xf hT cl_TimedPulse nf_TimedPulse_on_way (qv 0) (Yq jd))
   (jg (xf hT cl_TimedPulse nf_TimedPulse_got (qv 0) jbO))))))))))
theorem ok_zao (F:Fun K "__init__" "Pulse.__init__" Vv f fd) (Q_zar_2_few_liars:ClsD P w K mg base (tb K C) 11 "Post" "__init__" 5 ["self","houses","few","liars"] ["few","liars"] 2 2 [.p 0,.p 1,.k 0,.k 1] [] jby) (nf_TimedPulse_struck:jp K (C 13) "struck") (nf_TimedPulse_written:jp K (C 13) "written") (cl_TimedPulse:Cls K (C 13)):FnOk P w K mg base (CX1 P w) 7 f fd ["self","houses","few","liars"] (spD (tb K C) jbz) :=
 have hT:(tb K C).K=K:=rfl
 jL F sc_zao fun cdv A outer s H E hr=>(jf (jO (jcG Q_zar_2_few_liars (hr.mono (by decide)) rfl jE (ja (qv 0) (ja (qv 1) jd)) (xo (qv 2) (xo (qv 3) jh))))
   (jf (xf hT cl_TimedPulse nf_TimedPulse_written (qv 0) jbO)
   (jg (xf hT cl_TimedPulse nf_TimedPulse_struck (qv 0) jbO))))
theorem ok_zae (F:Fun K "__init__" "TimedPulse.__init__" VE f fd) (Q_zao_2_few_liars:ClsD P w K mg base (tb K C) 12 "Pulse" "__init__" 7 ["self","houses","few","liars"] ["few","liars"] 2 2 [.p 0,.p 1,.k 0,.k 1] [] jbz) {t_MOST_DELAY:Tok} (C_MOST_DELAY:mg "MOST_DELAY" = some (.int 50 t_MOST_DELAY)) (nf_TimedPulse_beat:jp K (C 13) "beat") (nf_TimedPulse_delay:jp K (C 13) "delay") (Q_zat:CalD P w K mg base (tb K C) "check_within" 3 ["thing","least","most"] [] 3 0 [.p 0,.p 1,.p 2] [] vL) (cl_TimedPulse:Cls K (C 13)):FnOk P w K mg base (CX1 P w) 9 f fd ["self","houses","few","liars","delay"] (spD (tb K C) JF) :=
 have hT:(tb K C).K=K:=rfl
 jL F sc_zae fun cdv A outer s H E hr=>(jf (jO (jcG Q_zao_2_few_liars (hr.mono (by decide)) rfl jE (ja (qv 0) (ja (qv 1) jd)) (xo (qv 2) (xo (qv 3) jh))))
   (jf (jO (ji Q_zat (hr.mono (by decide)) rfl jE (ja (qv 4) (ja jo (ja (uQ rfl C_MOST_DELAY) jd))) jh))
   (jf (xf hT cl_TimedPulse nf_TimedPulse_delay (qv 0) (qv 4))
   (jg (xf hT cl_TimedPulse nf_TimedPulse_beat (qv 0) jo)))))
theorem ok_zaw (F:Fun K "check_house" "check_house" Vn f fd) (Q_zbq:CalD P w K mg base (tb K C) "is_house" 3 ["thing","houses"] [] 2 0 [.p 0,.p 1] [] Yj):FnOk P w K mg base (CX1 P w) 4 f fd ["house","houses"] (spD (tb K C) Yk) :=
 have hT:(tb K C).K=K:=rfl
 jL F sc_zaw fun cdv A outer s H E hr=>(jg (yG (xx (xj hT (ji Q_zbq (hr.mono (by decide)) rfl jE (ja (qv 0) (ja (qv 1) jd)) jh))) (jg ug) jJ))
theorem ok_zav (F:Fun K "check_honest" "check_honest" Vo f fd) (Q_zaw:CalD P w K mg base (tb K C) "check_house" 4 ["house","houses"] [] 2 0 [.p 0,.p 1] [] Yk):FnOk P w K mg base (CX1 P w) 5 f fd ["house","houses","liars"] (spD (tb K C) jbw) :=
 have hT:(tb K C).K=K:=rfl
 jL F sc_zav fun cdv A outer s H E hr=>(jf (jO (ji Q_zaw (hr.mono (by decide)) rfl jE (ja (qv 0) (ja (qv 1) jd)) jh))
   (jg (yG (jX (o_in hT (Xd hr)) (qv 0) (qv 2) (by with_unfolding_all rfl)) (jg ug) jJ)))
theorem ok_zab (F:Fun K "check_is_honest" "Post.check_is_honest" VH f fd) (nf_TimedPulse_houses:jp K (C 13) "houses") (nf_TimedPulse_liars:jp K (C 13) "liars") (Q_zav:CalD P w K mg base (tb K C) "check_honest" 5 ["house","houses","liars"] [] 3 0 [.p 0,.p 1,.p 2] [] jbw) (cl_TimedPulse:Cls K (C 13)):FnOk P w K mg base (CX1 P w) 6 f fd ["self","house"] (spD (tb K C) uB) :=
 have hT:(tb K C).K=K:=rfl
 jL F sc_zab fun cdv A outer s H E hr=>(jg (jO (ji Q_zav (hr.mono (by decide)) rfl jE (ja (qv 1) (ja (ya hT cl_TimedPulse nf_TimedPulse_houses (qv 0)) (ja (ya hT cl_TimedPulse nf_TimedPulse_liars (qv 0)) jd))) jh)))
theorem ok_zbr (F:Fun K "is_round" "is_round" XU f fd) {t_LAST_ROUND:Tok} (C_LAST_ROUND:mg "LAST_ROUND" = some (.int 99 t_LAST_ROUND)) (Q_zbk:CalD P w K mg base (tb K C) "is_within" 2 ["thing","least","most"] [] 3 0 [.p 0,.p 1,.p 2] [] xu):FnOk P w K mg base (CX1 P w) 3 f fd ["thing"] (spD (tb K C) Uq) :=
 have hT:(tb K C).K=K:=rfl
 jL F sc_zbr fun cdv A outer s H E hr=>(jg (jw (ji Q_zbk (hr.mono (by decide)) rfl jE (ja (qv 0) (ja jo (ja (uQ rfl C_LAST_ROUND) jd))) jh)))
theorem ok_zap (F:Fun K "has_said" "Pulse.has_said" Vu f fd) (nf_TimedPulse_written:jp K (C 13) "written") (Q_zbr:CalD P w K mg base (tb K C) "is_round" 3 ["thing"] [] 1 0 [.p 0] [] Uq) (Q_zab:MetD P w K mg base (tb K C) 13 "check_is_honest" 6 ["self","house"] [] 2 0 [.p 0,.p 1] [] uB) (cl_TimedPulse:Cls K (C 13)):FnOk P w K mg base (CX1 P w) 7 f fd ["self","house","count"] (spD (tb K C) xA) :=
 have hT:(tb K C).K=K:=rfl
 jL F sc_zap fun cdv A outer s H E hr=>(jf (jO (yy Q_zab (hr.mono (by decide)) jE (qv 0) (ja (qv 1) jd) jh))
   (jg (jw (UN (ji Q_zbr (hr.mono (by decide)) rfl jE (ja (qv 2) jd) jh) (UM (jhz (hu1 hr) (ja (qv 1) (ja (qv 2) jd)) (ya hT cl_TimedPulse nf_TimedPulse_written (qv 0)) (by with_unfolding_all rfl)))))))
theorem ok_zax (F:Fun K "check_round" "check_round" Vm f fd) {t_LAST_ROUND:Tok} (C_LAST_ROUND:mg "LAST_ROUND" = some (.int 99 t_LAST_ROUND)) (Q_zat:CalD P w K mg base (tb K C) "check_within" 3 ["thing","least","most"] [] 3 0 [.p 0,.p 1,.p 2] [] vL):FnOk P w K mg base (CX1 P w) 4 f fd ["count"] (spD (tb K C) JE) :=
 have hT:(tb K C).K=K:=rfl
 jL F sc_zax fun cdv A outer s H E hr=>(jg (jO (ji Q_zat (hr.mono (by decide)) rfl jE (ja (qv 0) (ja jo (ja (uQ rfl C_LAST_ROUND) jd))) jh)))
theorem ok_zay (F:Fun K "honest" "Post.honest" YH f fd) (nf_TimedPulse_houses:jp K (C 13) "houses") (nf_TimedPulse_liars:jp K (C 13) "liars") (N_range:mg "range" = none) (cl_TimedPulse:Cls K (C 13)):FnOk P w K mg base (CX1 P w) 1 f fd ["self"] (spD (tb K C) Uv) :=
 have hT:(tb K C).K=K:=rfl
 jL F sc_zay fun cdv A outer s H E hr=>(jg (jw (xD (osc:=(jc YH)) (own:=["house"]) (fr:=["self"]) (js:=[0]) uO rfl rfl (by exact ⟨rfl,by decide +kernel,by decide +kernel,by decide +kernel,by decide +kernel,by decide +kernel⟩) rfl (uD rfl N_range (ja (ya hT cl_TimedPulse nf_TimedPulse_houses (qv 0)) jd)) (fun _ _ _=>(jM (i:=0) (show List.Nodup (["house","self"]:List Str) from by decide +kernel) rfl (Or.inl rfl))) (fun _ _ _=>(Jh (jX (UR hT (Xd hr)) (qv 0) (ya hT cl_TimedPulse nf_TimedPulse_liars (qv 1)) (by with_unfolding_all rfl)))) (fun _ _ _=>(qv 0)))))
theorem ok_zan (F:Fun K "__init__" "Letter.__init__" Vw f fd) (nf_Letter_due:jp K (C 10) "due") (nf_Letter_house:jp K (C 10) "house") (nf_Letter_sender:jp K (C 10) "sender") (nf_Letter_what:jp K (C 10) "what") (cl_Letter:Cls K (C 10)):FnOk P w K mg base (CX1 P w) 1 f fd ["self","sender","house","what"] (spD (tb K C) XE) :=
 have hT:(tb K C).K=K:=rfl
 jL F sc_zan fun cdv A outer s H E hr=>(jf (xf hT cl_Letter nf_Letter_sender (qv 0) (qv 1))
   (jf (xf hT cl_Letter nf_Letter_house (qv 0) (qv 2))
   (jf (xf hT cl_Letter nf_Letter_what (qv 0) (qv 3))
   (jg (xf hT cl_Letter nf_Letter_due (qv 0) YO)))))
theorem ok_zbb (F:Fun K "write" "Post.write" Vj f fd) (nf_TimedPulse_on_way:jp K (C 13) "on_way") (Q_zan:NewD P w K mg base (tb K C) 10 "Letter" 1 ["self","sender","house","what"] [] 4 0 [.p 0,.p 1,.p 2,.p 3] [] XE) (cl_TimedPulse:Cls K (C 13)):FnOk P w K mg base (CX1 P w) 3 f fd ["self","sender","house","what"] (spD (tb K C) XD) :=
 have hT:(tb K C).K=K:=rfl
 jL F sc_zbb fun cdv A outer s H E hr=>(jg (jO (jeR PySem.F.slot_list_append PySem.F.type_list_append jaR (ya hT cl_TimedPulse nf_TimedPulse_on_way (qv 0)) (ja (jbN Q_zan (hr.mono (by decide)) rfl jE (ja (qv 1) (ja (qv 2) (ja (qv 3) jd))) jh) jd))))
theorem ok_zai (F:Fun K "write_to_all" "Post.write_to_all" VB f fd) (Q_zay:MetD P w K mg base (tb K C) 13 "honest" 1 ["self"] [] 1 0 [.p 0] [] Uv) (Q_zbb:MetD P w K mg base (tb K C) 13 "write" 3 ["self","sender","house","what"] [] 4 0 [.p 0,.p 1,.p 2,.p 3] [] XD):FnOk P w K mg base (CX1 P w) 4 f fd ["self","sender","what"] (spD (tb K C) jbA) :=
 have hT:(tb K C).K=K:=rfl
 Xp (jbd F jeG fun cdv A outer s H E hr=>(jg (YN 200 PassesOwn.never rfl (vO (ve Q_zay (hr.mono (by decide)) jA (qv 0) jh)) (xC (i:=3) jeG.nd rfl (Or.inl rfl)) (jg (jO (yy Q_zbb (hr.mono (by decide)) jA (qv 0) (ja (qv 1) (ja (qv 3) (ja (qv 2) jd))) jh))))))
theorem ok_zaj (F:Fun K "write_round" "Pulse.write_round" VA f fd) (nf_TimedPulse_written:jp K (C 13) "written") (Q_zai:MetD P w K mg base (tb K C) 13 "write_to_all" 4 ["self","sender","what"] [] 3 0 [.p 0,.p 1,.p 2] [] jbA) (cl_TimedPulse:Cls K (C 13)):FnOk P w K mg base (CX1 P w) 5 f fd ["self","house","count"] (spD (tb K C) Yl) :=
 have hT:(tb K C).K=K:=rfl
 jL F sc_zaj fun cdv A outer s H E hr=>(jf (jaI (hu1 hr) jaK (ya hT cl_TimedPulse nf_TimedPulse_written (qv 0)) (ja (qv 1) (ja (qv 2) jd)))
   (jg (jO (yy Q_zai (hr.mono (by decide)) jE (qv 0) (ja (qv 1) (ja (qv 2) jd)) jh))))
theorem ok_zaz (F:Fun K "ready" "Pulse.ready" Vl f fd) (X_NotNow:Exc K mg "NotNow" (C 6)) (Q_zax:CalD P w K mg base (tb K C) "check_round" 4 ["count"] [] 1 0 [.p 0] [] JE) (Q_zab:MetD P w K mg base (tb K C) 13 "check_is_honest" 6 ["self","house"] [] 2 0 [.p 0,.p 1] [] uB) (Q_zap:MetD P w K mg base (tb K C) 13 "has_said" 7 ["self","house","count"] [] 3 0 [.p 0,.p 1,.p 2] [] xA) (Q_zaj:MetD P w K mg base (tb K C) 13 "write_round" 5 ["self","house","count"] [] 3 0 [.p 0,.p 1,.p 2] [] Yl):FnOk P w K mg base (CX1 P w) 8 f fd ["self","house","count"] (spD (tb K C) Uu) :=
 have hT:(tb K C).K=K:=rfl
 jL F sc_zaz fun cdv A outer s H E hr=>(jf (jO (yy Q_zab (hr.mono (by decide)) jE (qv 0) (ja (qv 1) jd) jh))
   (jf (jO (ji Q_zax (hr.mono (by decide)) rfl jE (ja (qv 2) jd) jh))
   (jf (yG (xj hT (yy Q_zap (hr.mono (by decide)) jE (qv 0) (ja (qv 1) (ja (qv 2) jd)) jh)) (jg (xc X_NotNow rfl (ja Yb jd))) jJ)
   (jg (jO (yy Q_zaj (hr.mono (by decide)) jE (qv 0) (ja (qv 1) (ja (qv 2) jd)) jh))))))
theorem ok_zag (F:Fun K "check_is_liar" "Post.check_is_liar" VC f fd) (nf_TimedPulse_houses:jp K (C 13) "houses") (nf_TimedPulse_liars:jp K (C 13) "liars") (Q_zaw:CalD P w K mg base (tb K C) "check_house" 4 ["house","houses"] [] 2 0 [.p 0,.p 1] [] Yk) (cl_TimedPulse:Cls K (C 13)):FnOk P w K mg base (CX1 P w) 5 f fd ["self","liar"] (spD (tb K C) jbB) :=
 have hT:(tb K C).K=K:=rfl
 jL F sc_zag fun cdv A outer s H E hr=>(jf (jO (ji Q_zaw (hr.mono (by decide)) rfl jE (ja (qv 1) (ja (ya hT cl_TimedPulse nf_TimedPulse_houses (qv 0)) jd)) jh))
   (jg (yG (jX (UR hT (Xd hr)) (qv 1) (ya hT cl_TimedPulse nf_TimedPulse_liars (qv 0)) (by with_unfolding_all rfl)) (jg ug) jJ)))
theorem ok_zbn (F:Fun K "lie" "Pulse.lie" XY f fd) (Q_zax:CalD P w K mg base (tb K C) "check_round" 4 ["count"] [] 1 0 [.p 0] [] JE) (Q_zab:MetD P w K mg base (tb K C) 13 "check_is_honest" 6 ["self","house"] [] 2 0 [.p 0,.p 1] [] uB) (Q_zag:MetD P w K mg base (tb K C) 13 "check_is_liar" 5 ["self","liar"] [] 2 0 [.p 0,.p 1] [] jbB) (Q_zbb:MetD P w K mg base (tb K C) 13 "write" 3 ["self","sender","house","what"] [] 4 0 [.p 0,.p 1,.p 2,.p 3] [] XD):FnOk P w K mg base (CX1 P w) 7 f fd ["self","liar","house","count"] (spD (tb K C) XA) :=
 have hT:(tb K C).K=K:=rfl
 jL F sc_zbn fun cdv A outer s H E hr=>(jf (jO (yy Q_zag (hr.mono (by decide)) jE (qv 0) (ja (qv 1) jd) jh))
   (jf (jO (yy Q_zab (hr.mono (by decide)) jE (qv 0) (ja (qv 2) jd) jh))
   (jf (jO (ji Q_zax (hr.mono (by decide)) rfl jE (ja (qv 3) jd) jh))
   (jg (jO (yy Q_zbb (hr.mono (by decide)) jE (qv 0) (ja (qv 1) (ja (qv 2) (ja (qv 3) jd))) jh))))))
theorem ok_zaa (F:Fun K "check_delays" "TimedPulse.check_delays" YJ f fd) (X_BadNumber:Exc K mg "BadNumber" (C 0)) (nf_TimedPulse_delay:jp K (C 13) "delay") (Q_zbk:CalD P w K mg base (tb K C) "is_within" 2 ["thing","least","most"] [] 3 0 [.p 0,.p 1,.p 2] [] xu) (N_all:mg "all" = none) (N_isinstance:mg "isinstance" = none) (N_list:mg "list" = none) (N_tuple:mg "tuple" = none) (cl_TimedPulse:Cls K (C 13)):FnOk P w K mg base (CX1 P w) 3 f fd ["self","delays"] (spD (tb K C) UA) :=
 have hT:(tb K C).K=K:=rfl
 jL F sc_zaa fun cdv A outer s H E hr=>(jf (yG (xx (xj hT (jk (Uo hT) rfl N_isinstance jK (ja (qv 1) (ja (UL (ja (jaJ rfl N_list JD) (ja (jaJ rfl N_tuple jbo) jd))) jd))))) (jg (xc X_BadNumber rfl (ja Yb jd))) jJ)
   (jg (yG (xx (xj hT (jk (jgY rfl) rfl N_all jcn (ja (xD (osc:=(jc YJ)) (own:=["delay"]) (fr:=["self"]) (js:=[0]) uO rfl rfl (by exact ⟨rfl,by decide +kernel,by decide +kernel,by decide +kernel,by decide +kernel,by decide +kernel⟩) rfl (qi_seq hT (qv 1)) (fun _ _ _=>(jM (i:=0) (show List.Nodup (["delay","self"]:List Str) from by decide +kernel) rfl (Or.inl rfl))) (fun _ _ _=>uC) (fun _ _ _=>(ji Q_zbk (hr.mono (by decide)) rfl jA (ja (qv 0) (ja jo (ja (ya hT cl_TimedPulse nf_TimedPulse_delay (qv 1)) jd))) jh))) jd)))) (jg (xc X_BadNumber rfl (ja Yb jd))) jJ)))
theorem ok_zaf (F:Fun K "delay_of" "TimedPulse.delay_of" VD f fd) (nf_Letter_sender:jp K (C 10) "sender") (nf_TimedPulse_delay:jp K (C 13) "delay") (nf_TimedPulse_liars:jp K (C 13) "liars") (N_len:mg "len" = none) (cl_Letter:Cls K (C 10)) (cl_TimedPulse:Cls K (C 13)):FnOk P w K mg base (CX1 P w) 1 f fd ["self","letter","place","delays"] (spD (tb K C) Uz) :=
 have hT:(tb K C).K=K:=rfl
 jL F sc_zaf fun cdv A outer s H E hr=>(jf (yG (QW.qt (YM (jX (o_in hT (Xd hr)) (ya hT cl_Letter nf_Letter_sender (qv 1)) (ya hT cl_TimedPulse nf_TimedPulse_liars (qv 0)) (by with_unfolding_all rfl)) (uP (jX (jdK hT hr.units) (jk (xZ hT) rfl N_len yS (ja (qv 3) jd)) jo (jV _))))) (jg (jw (ya hT cl_TimedPulse nf_TimedPulse_delay (qv 0)))) jJ)
   (jg (jw (vB (JH hT) (qv 3) (jz (YW) (qv 2) (jk (xZ hT) rfl N_len yS (ja (qv 3) jd))) (fun _ _=>rfl)))))
theorem ok_zac (F:Fun K "give_dues" "TimedPulse.give_dues" VG f fd) (nf_Letter_due:jp K (C 10) "due") (nf_TimedPulse_beat:jp K (C 13) "beat") (nf_TimedPulse_on_way:jp K (C 13) "on_way") (Q_zaf:MetD P w K mg base (tb K C) 13 "delay_of" 1 ["self","letter","place","delays"] [] 4 0 [.p 0,.p 1,.p 2,.p 3] [] Uz) (N_len:mg "len" = none) (N_range:mg "range" = none) (cl_Letter:Cls K (C 10)) (cl_TimedPulse:Cls K (C 13)):FnOk P w K mg base (CX1 P w) 2 f fd ["self","first","delays"] (spD (tb K C) XF) :=
 have hT:(tb K C).K=K:=rfl
 Xp (jbd F jbI fun cdv A outer s H E hr=>(jg (YN 200 PassesOwn.never rfl (jhx rfl N_range (ja (qv 1) (ja (jk (xZ hT) rfl N_len yS (ja (ya hT cl_TimedPulse nf_TimedPulse_on_way (qv 0)) jd)) jd))) (xC (i:=3) jbI.nd rfl (Or.inl rfl)) (jf (jG (i:=4) jbI.nd rfl (Or.inl rfl) (vB (JH hT) (ya hT cl_TimedPulse nf_TimedPulse_on_way (qv 0)) (qv 3) (fun _ _=>rfl)))
   (jg (yG (jX (o_is) (ya hT cl_Letter nf_Letter_due (qv 4)) YO (jV _)) (jg (xf hT cl_Letter nf_Letter_due (qv 4) (jz (vD hT) (ya hT cl_TimedPulse nf_TimedPulse_beat (qv 0)) (yy Q_zaf (hr.mono (by decide)) jA (qv 0) (ja (qv 4) (ja (qv 3) (ja (qv 2) jd))) jh)))) jJ))))))
theorem ok_zbo (F:Fun K "take" "Post.take" XX f fd) (X_NoLetter:Exc K mg "NoLetter" (C 5)) (nf_Letter_house:jp K (C 10) "house") (nf_Letter_sender:jp K (C 10) "sender") (nf_Letter_what:jp K (C 10) "what") (nf_TimedPulse_got:jp K (C 13) "got") (nf_TimedPulse_on_way:jp K (C 13) "on_way") (Q_zbk:CalD P w K mg base (tb K C) "is_within" 2 ["thing","least","most"] [] 3 0 [.p 0,.p 1,.p 2] [] xu) (N_len:mg "len" = none) (cl_Letter:Cls K (C 10)) (cl_TimedPulse:Cls K (C 13)):FnOk P w K mg base (CX1 P w) 3 f fd ["self","at"] (spD (tb K C) Us) :=
 have hT:(tb K C).K=K:=rfl
 jL F jbG fun cdv A outer s H E hr=>(jf (yG (xx (xj hT (ji Q_zbk (hr.mono (by decide)) rfl jE (ja (qv 1) (ja jo (ja (jz (jfx) (jk (xZ hT) rfl N_len yS (ja (ya hT cl_TimedPulse nf_TimedPulse_on_way (qv 0)) jd)) jo) jd))) jh))) (jg (xc X_NoLetter rfl (ja Yb jd))) jJ)
   (jf (jG (i:=2) jbG.nd rfl (Or.inl rfl) (jeR PySem.F.slot_list_pop PySem.F.type_list_pop jid (ya hT cl_TimedPulse nf_TimedPulse_on_way (qv 0)) (ja (qv 1) jd)))
   (jf (jG (i:=3) jbG.nd rfl (Or.inl rfl) (jdA (hu1 hr) (ya hT cl_TimedPulse nf_TimedPulse_got (qv 0)) (ja (ya hT cl_Letter nf_Letter_house (qv 2)) (ja (ya hT cl_Letter nf_Letter_what (qv 2)) jd)) jeT ⟨rfl,rfl,rfl,rfl⟩))
   (jf (jeM (hu1 hr) jaK (qv 3) (ya hT cl_Letter nf_Letter_sender (qv 2)))
   (jg (jw (qv 2)))))))
theorem ok_zas (F:Fun K "many_got" "Post.many_got" Vr f fd) (nf_TimedPulse_got:jp K (C 13) "got") (N_len:mg "len" = none) (cl_TimedPulse:Cls K (C 13)):FnOk P w K mg base (CX1 P w) 1 f fd ["self","house","what"] (spD (tb K C) jbx) :=
 have hT:(tb K C).K=K:=rfl
 jL F sc_zas fun cdv A outer s H E hr=>(jg (jw (jk (b_lenK) rfl N_len yS (ja (jeS (hu1 hr) (ya hT cl_TimedPulse nf_TimedPulse_got (qv 0)) (ja (qv 1) (ja (qv 2) jd)) jeT ⟨rfl,rfl,rfl,rfl⟩) jd))))
theorem ok_zak (F:Fun K "strike" "TimedPulse.strike" Vz f fd) (nf_TimedPulse_beat:jp K (C 13) "beat") (nf_TimedPulse_struck:jp K (C 13) "struck") (cl_TimedPulse:Cls K (C 13)):FnOk P w K mg base (CX1 P w) 1 f fd ["self","house","count"] (spD (tb K C) Ux) :=
 have hT:(tb K C).K=K:=rfl
 jL F sc_zak fun cdv A outer s H E hr=>(jg (jaI (hu1 hr) (ya hT cl_TimedPulse nf_TimedPulse_beat (qv 0)) (ya hT cl_TimedPulse nf_TimedPulse_struck (qv 0)) (ja (qv 1) (ja (qv 2) jd))))
theorem ok_zbc (F:Fun K "look" "Pulse.look" Vi f fd) (nf_TimedPulse_few:jp K (C 13) "few") (nf_TimedPulse_struck:jp K (C 13) "struck") (Q_zas:MetD P w K mg base (tb K C) 13 "many_got" 1 ["self","house","what"] [] 3 0 [.p 0,.p 1,.p 2] [] jbx) (Q_zap:MetD P w K mg base (tb K C) 13 "has_said" 7 ["self","house","count"] [] 3 0 [.p 0,.p 1,.p 2] [] xA) (Q_zaj:MetD P w K mg base (tb K C) 13 "write_round" 5 ["self","house","count"] [] 3 0 [.p 0,.p 1,.p 2] [] Yl) (Q_zak:MetD P w K mg base (tb K C) 13 "strike" 1 ["self","house","count"] [] 3 0 [.p 0,.p 1,.p 2] [] Ux) (cl_TimedPulse:Cls K (C 13)):FnOk P w K mg base (CX1 P w) 8 f fd ["self","house","count"] (spD (tb K C) jbv) :=
 have hT:(tb K C).K=K:=rfl
 jL F jeF fun cdv A outer s H E hr=>(jf (jG (i:=3) jeF.nd rfl (Or.inl rfl) (yy Q_zas (hr.mono (by decide)) jE (qv 0) (ja (qv 1) (ja (qv 2) jd)) jh))
   (jf (yG (QW.qt (vn (jX (jfz) (qv 3) (ya hT cl_TimedPulse nf_TimedPulse_few (qv 0)) (jV _)) (xB (xx (xj hT (yy Q_zap (hr.mono (by decide)) jE (qv 0) (ja (qv 1) (ja (qv 2) jd)) jh)))))) (jg (jO (yy Q_zaj (hr.mono (by decide)) jE (qv 0) (ja (qv 1) (ja (qv 2) jd)) jh))) jJ)
   (jg (yG (QW.qt (vn (jX (jfz) (qv 3) (jz (uM) jo (ya hT cl_TimedPulse nf_TimedPulse_few (qv 0))) (jV _)) (xB (jbM (hu1 hr) (ja (qv 1) (ja (qv 2) jd)) (ya hT cl_TimedPulse nf_TimedPulse_struck (qv 0)) (by with_unfolding_all rfl))))) (jg (jO (yy Q_zak (hr.mono (by decide)) jE (qv 0) (ja (qv 1) (ja (qv 2) jd)) jh))) jJ))))
theorem ok_zbd (F:Fun K "row" "Letter.row" Vh f fd) (nf_Letter_house:jp K (C 10) "house") (nf_Letter_sender:jp K (C 10) "sender") (nf_Letter_what:jp K (C 10) "what") (cl_Letter:Cls K (C 10)):FnOk P w K mg base (CX1 P w) 1 f fd ["self"] (spD (tb K C) jbu) :=
 have hT:(tb K C).K=K:=rfl
 jL F sc_zbd fun cdv A outer s H E hr=>(jg (jw (UL (ja (ya hT cl_Letter nf_Letter_sender (qv 0)) (ja (ya hT cl_Letter nf_Letter_house (qv 0)) (ja (ya hT cl_Letter nf_Letter_what (qv 0)) jd))))))
theorem ok_zbe (F:Fun K "come" "Pulse.come" Vg f fd) (nf_Letter_house:jp K (C 10) "house") (nf_Letter_what:jp K (C 10) "what") (Q_zbd:MetD P w K mg base (tb K C) 10 "row" 1 ["self"] [] 1 0 [.p 0] [] jbu) (Q_zbo:MetD P w K mg base (tb K C) 13 "take" 3 ["self","at"] [] 2 0 [.p 0,.p 1] [] Us) (Q_zbc:MetD P w K mg base (tb K C) 13 "look" 8 ["self","house","count"] [] 3 0 [.p 0,.p 1,.p 2] [] jbv) (cl_Letter:Cls K (C 10)):FnOk P w K mg base (CX1 P w) 9 f fd ["self","at"] (spD (tb K C) jbt) :=
 have hT:(tb K C).K=K:=rfl
 jL F jeE fun cdv A outer s H E hr=>(jf (jG (i:=2) jeE.nd rfl (Or.inl rfl) (yy Q_zbo (hr.mono (by decide)) jE (qv 0) (ja (qv 1) jd) jh))
   (jf (jO (yy Q_zbc (hr.mono (by decide)) jE (qv 0) (ja (ya hT cl_Letter nf_Letter_house (qv 2)) (ja (ya hT cl_Letter nf_Letter_what (qv 2)) jd)) jh))
   (jg (jw (ve Q_zbd (hr.mono (by decide)) jE (qv 2) jh)))))
theorem ok_zam (F:Fun K "go_on" "TimedPulse.go_on" Vx f fd) {t_LAST_TIMED_BEAT:Tok} (C_LAST_TIMED_BEAT:mg "LAST_TIMED_BEAT" = some (.int 5000 t_LAST_TIMED_BEAT)) (X_NotNow:Exc K mg "NotNow" (C 6)) (nf_Letter_due:jp K (C 10) "due") (nf_TimedPulse_beat:jp K (C 13) "beat") (nf_TimedPulse_on_way:jp K (C 13) "on_way") (Q_zbe:MetD P w K mg base (tb K C) 13 "come" 9 ["self","at"] [] 2 0 [.p 0,.p 1] [] jbt) (Q_zaa:MetD P w K mg base (tb K C) 13 "check_delays" 3 ["self","delays"] [] 2 0 [.p 0,.p 1] [] UA) (Q_zac:MetD P w K mg base (tb K C) 13 "give_dues" 2 ["self","first","delays"] [] 3 0 [.p 0,.p 1,.p 2] [] XF) (N_len:mg "len" = none) (cl_Letter:Cls K (C 10)) (cl_TimedPulse:Cls K (C 13)):FnOk P w K mg base (CX1 P w) 10 f fd ["self","delays"] (spD (tb K C) uA) :=
 have hT:(tb K C).K=K:=rfl
 jgu (jbd F JL fun cdv A outer s H E hr=>(jf (jO (yy Q_zaa (hr.mono (by decide)) jA (qv 0) (ja (qv 1) jd) jh))
   (jf (yG (jX (jhZ) (ya hT cl_TimedPulse nf_TimedPulse_beat (qv 0)) (uQ rfl C_LAST_TIMED_BEAT) (jV _)) (jg ug) jJ)
   (jf (jO (yy Q_zac (hr.mono (by decide)) jA (qv 0) (ja jo (ja (qv 1) jd)) jh))
   (jf (jcE hT cl_TimedPulse nf_TimedPulse_beat (qv 0) jo jbU)
   (jf (jG (i:=2) JL.nd rfl (Or.inl rfl) jo)
   (jg (jeL 1000 PassesOwn.never (jX (jhY) (qv 2) (jk (xZ hT) rfl N_len yS (ja (ya hT cl_TimedPulse nf_TimedPulse_on_way (qv 0)) jd)) (jV _)) (jg (yG (jX (jfz) (ya hT cl_Letter nf_Letter_due (vB (JH hT) (ya hT cl_TimedPulse nf_TimedPulse_on_way (qv 0)) (qv 2) (fun _ _=>rfl))) (ya hT cl_TimedPulse nf_TimedPulse_beat (qv 0)) (jV _)) (jg (qs_aug (i:=2) JL.nd rfl (Or.inl rfl) jo jbU)) (jf (jG (i:=3) JL.nd rfl (Or.inl rfl) (jz (jfx) (jk (xZ hT) rfl N_len yS (ja (ya hT cl_TimedPulse nf_TimedPulse_on_way (qv 0)) jd)) jo))
   (jf (jO (yy Q_zbe (hr.mono (by decide)) jA (qv 0) (ja (qv 2) jd) jh))
   (jg (jO (yy Q_zac (hr.mono (by decide)) jA (qv 0) (ja (qv 3) (ja (qv 1) jd)) jh))))))))))))))) (jL F JL fun cdv A outer s H E hr=>(jf (jO (yy Q_zaa (hr.mono (by decide)) jE (qv 0) (ja (qv 1) jd) jh))
   (jf (yG (jX (jhZ) (ya hT cl_TimedPulse nf_TimedPulse_beat (qv 0)) (uQ rfl C_LAST_TIMED_BEAT) (jV _)) (jg (xc X_NotNow rfl (ja Yb jd))) jJ)
   (jf (jO (yy Q_zac (hr.mono (by decide)) jE (qv 0) (ja jo (ja (qv 1) jd)) jh))
   (jf (jcE hT cl_TimedPulse nf_TimedPulse_beat (qv 0) jo jbU)
   (jf (jG (i:=2) JL.nd rfl (Or.inl rfl) jo)
   (jg ug)))))))
theorem ok_zad (F:Fun K "struck_at" "TimedPulse.struck_at" VF f fd) (nf_TimedPulse_struck:jp K (C 13) "struck") (Q_zax:CalD P w K mg base (tb K C) "check_round" 4 ["count"] [] 1 0 [.p 0] [] JE) (Q_zab:MetD P w K mg base (tb K C) 13 "check_is_honest" 6 ["self","house"] [] 2 0 [.p 0,.p 1] [] uB) (cl_TimedPulse:Cls K (C 13)):FnOk P w K mg base (CX1 P w) 7 f fd ["self","house","count"] (spD (tb K C) Ym) :=
 have hT:(tb K C).K=K:=rfl
 jL F sc_zad fun cdv A outer s H E hr=>(jf (jO (yy Q_zab (hr.mono (by decide)) jE (qv 0) (ja (qv 1) jd) jh))
   (jf (jO (ji Q_zax (hr.mono (by decide)) rfl jE (ja (qv 2) jd) jh))
   (jg (jw (jdB (hu1 hr) (ya hT cl_TimedPulse nf_TimedPulse_struck (qv 0)) (ja (qv 1) (ja (qv 2) jd)) ⟨rfl,rfl,rfl,rfl⟩)))))
theorem ok_zaq (F:Fun K "now" "TimedPulse.now" Vt f fd) (nf_TimedPulse_beat:jp K (C 13) "beat") (cl_TimedPulse:Cls K (C 13)):FnOk P w K mg base (CX1 P w) 1 f fd ["self"] (spD (tb K C) uz) :=
 have hT:(tb K C).K=K:=rfl
 jL F sc_zaq fun cdv A outer s H E hr=>(jg (jw (ya hT cl_TimedPulse nf_TimedPulse_beat (qv 0))))
theorem ok_zal (F:Fun K "all_strikes" "Pulse.all_strikes" Vy f fd) (nf_TimedPulse_struck:jp K (C 13) "struck") (N_list:mg "list" = none) (cl_TimedPulse:Cls K (C 13)):FnOk P w K mg base (CX1 P w) 1 f fd ["self"] (spD (tb K C) Uw) :=
 have hT:(tb K C).K=K:=rfl
 jL F sc_zal fun cdv A outer s H E hr=>(jg (jw (JO (jiK rfl) rfl N_list JD (ja (ya hT cl_TimedPulse nf_TimedPulse_struck (qv 0)) jd))))
theorem ok_zbf (F:Fun K "_law_whole" "_law_whole" Vf f fd) (N_bool:mg "bool" = none) (N_int:mg "int" = none) (N_isinstance:mg "isinstance" = none):FnOk P w K mg base (CX1 P w) 1 f fd ["_law_thing"] (spD (tb K C) XC) :=
 have hT:(tb K C).K=K:=rfl
 jL F sc_zbf fun cdv A outer s H E hr=>(jg (jw (UN (jk (Uo hT) rfl N_isinstance jK (ja (qv 0) (ja (jaJ rfl N_int jgV) jd))) (UM (jeQ (jk (Uo hT) rfl N_isinstance jK (ja (qv 0) (ja (jaJ rfl N_bool jdi) jd))))))))
theorem ok_law (F:Fun K "law" "law" xJ f fd) (Q_zbi:CalD P w K mg base (tb K C) "_law_crew" 3 ["_law_town_here"] [] 1 0 [.p 0] [] jbr) (Q_zbh:CalD P w K mg base (tb K C) "_law_draw" 1 ["_law_town_here","_law_many"] [] 2 0 [.p 0,.p 1] [] yN) (Q_zbj:CalD P w K mg base (tb K C) "_law_pick" 2 ["_law_town_here","_law_some"] [] 2 0 [.p 0,.p 1] [] vK) (Q_zbg:CalD P w K mg base (tb K C) "_law_town" 1 ["_law_script"] [] 1 0 [.p 0] [] jbs) (Q_zbf:CalD P w K mg base (tb K C) "_law_whole" 1 ["_law_thing"] [] 1 0 [.p 0] [] XC) (Q_zal:MetD P w K mg base (tb K C) 13 "all_strikes" 1 ["self"] [] 1 0 [.p 0] [] Uw) (Q_zap:MetD P w K mg base (tb K C) 13 "has_said" 7 ["self","house","count"] [] 3 0 [.p 0,.p 1,.p 2] [] xA) (Q_zbn:MetD P w K mg base (tb K C) 13 "lie" 7 ["self","liar","house","count"] [] 4 0 [.p 0,.p 1,.p 2,.p 3] [] XA) (Q_zaz:MetD P w K mg base (tb K C) 13 "ready" 8 ["self","house","count"] [] 3 0 [.p 0,.p 1,.p 2] [] Uu) (Q_zam_1:MetD P w K mg base (tb K C) 13 "go_on" 10 ["self","delays"] [] 1 0 [.p 0,.d 0] [.tup []] uA) (Q_zam_1_delays:MetD P w K mg base (tb K C) 13 "go_on" 10 ["self","delays"] ["delays"] 1 1 [.p 0,.k 0] [] uA) (Q_zaq:MetD P w K mg base (tb K C) 13 "now" 1 ["self"] [] 1 0 [.p 0] [] uz) (Q_zad:MetD P w K mg base (tb K C) 13 "struck_at" 7 ["self","house","count"] [] 3 0 [.p 0,.p 1,.p 2] [] Ym) (Q_zae_2_few_liars:NewD P w K mg base (tb K C) 13 "TimedPulse" 9 ["self","houses","few","liars","delay"] ["few","liars"] 2 2 [.p 0,.p 1,.k 0,.k 1,.d 0] [.int 10] JF) (Q_zae_2_few_liars_delay:NewD P w K mg base (tb K C) 13 "TimedPulse" 9 ["self","houses","few","liars","delay"] ["few","liars","delay"] 2 3 [.p 0,.p 1,.k 0,.k 1,.k 2] [] JF) (N_len:mg "len" = none) (N_max:mg "max" = none) (N_min:mg "min" = none) (N_range:mg "range" = none):FnOk P w K mg base CX0 11 f fd ["_law_script"] (jdw (tb K C) (yv 1 16 jbg)) :=
 have hT:(tb K C).K=K:=rfl
 jbd F yL fun cdv A outer s H E hr=>(jf (jG (i:=1) yL.nd rfl (Or.inr rfl) (ji Q_zbg (hr.mono (by decide)) rfl jA (ja (qv 0) jd) jh))
   (jf (qs_asg (ji Q_zbi (hr.mono (by decide)) rfl jA (ja (qv 1) jd) jh) (qg_tup hT rfl (Ji (xC (i:=2) yL.nd rfl (Or.inl rfl)) (Ji (xC (i:=3) yL.nd rfl (Or.inl rfl)) (Ji (xC (i:=4) yL.nd rfl (Or.inl rfl)) (Ji (xC (i:=5) yL.nd rfl (Or.inl rfl)) jhy))))))
   (jf (jG (i:=6) yL.nd rfl (Or.inr rfl) (ji Q_zbj (hr.mono (by decide)) rfl jA (ja (qv 1) (ja (vo (ja jo (ja jo (ja jo jd)))) jd)) jh))
   (jf (jG (i:=7) yL.nd rfl (Or.inr rfl) (jiU (jX (jdK hT hr.units) (qv 6) jo (jV _)) (jbN Q_zae_2_few_liars (hr.mono (by decide)) rfl jA (ja (qv 3) jd) (xo (qv 2) (xo (qv 4) jh))) (jbN Q_zae_2_few_liars_delay (hr.mono (by decide)) rfl jA (ja (qv 3) jd) (xo (qv 2) (xo (qv 4) (xo (qv 6) jh))))))
   (jf (jG (i:=8) yL.nd rfl (Or.inl rfl) (jz (vD hT) jo (ji Q_zbh (hr.mono (by decide)) rfl jA (ja (qv 1) (ja jo jd)) jh)))
   (jf (jG (i:=9) yL.nd rfl (Or.inl rfl) jaK)
   (jf (jG (i:=10) yL.nd rfl (Or.inr rfl) (jz (uM) (vo (ja YO jd)) (jk (xZ hT) rfl N_len yS (ja (qv 5) jd))))
   (jf (YN 200 PassesOwn.never rfl (uD rfl N_range (ja (jz (vD hT) (jz (vD hT) (qv 8) (jz (uM) jo (qv 6))) jo) jd)) (xC (i:=11) yL.nd rfl (Or.inl rfl)) (jf (YN 200 PassesOwn.never rfl (vO (qv 5)) (xC (i:=12) yL.nd rfl (Or.inl rfl)) (jg (yG (QW.qt (vn (jX (jhY) (qv 11) (qv 8) (jV _)) (vn (xx (xj hT (yy Q_zap (hr.mono (by decide)) jA (qv 7) (ja (qv 12) (ja jo jd)) jh))) (xB (jX (jdK hT hr.units) (ji Q_zbh (hr.mono (by decide)) rfl jA (ja (qv 1) (ja jo jd)) jh) jo (jV _)))))) (jf (jO (yy Q_zaz (hr.mono (by decide)) jA (qv 7) (ja (qv 12) (ja jo jd)) jh))
   (jg (jG (i:=9) yL.nd rfl (Or.inl rfl) jaK))) jJ)))
   (jf (yG (QW.qt (vn (jX (XH hT hr.units) (qv 4) (vo jd) (jV _)) (xB (jX (jdK hT hr.units) (ji Q_zbh (hr.mono (by decide)) rfl jA (ja (qv 1) (ja jo jd)) jh) jo (jV _))))) (jg (jO (yy Q_zbn (hr.mono (by decide)) jA (qv 7) (ja (ji Q_zbj (hr.mono (by decide)) rfl jA (ja (qv 1) (ja (qv 4) jd)) jh) (ja (ji Q_zbj (hr.mono (by decide)) rfl jA (ja (qv 1) (ja (qv 5) jd)) jh) (ja jo jd))) jh))) jJ)
   (jf (jcF (i:=13) (osc:=(jc xJ)) (own:=["_law_k"]) (fr:=["_law_town_here","_law_most"]) (js:=[1,6]) uO rfl rfl (by exact ⟨rfl,by decide +kernel,by decide +kernel,by decide +kernel,by decide +kernel,by decide +kernel⟩) rfl yL.nd rfl rfl (uD rfl N_range (ja (ji Q_zbh (hr.mono (by decide)) rfl jA (ja (qv 1) (ja jo jd)) jh) jd)) (fun _ _ _=>(jM (i:=0) (show List.Nodup (["_law_k","_law_town_here","_law_most"]:List Str) from by decide +kernel) rfl (Or.inl rfl))) (fun _ _ _=>uC) (fun _ _ _=>(jz (vD hT) jo (ji Q_zbh (hr.mono (by decide)) rfl jA (ja (qv 1) (ja (qv 2) jd)) jh))) rfl)
   (jf (yG (jX (XH hT hr.units) (qv 13) (vo jd) (jV _)) (jg (jO (ve Q_zam_1_delays (hr.mono (by decide)) jA (qv 7) (xo (qv 13) jh)))) (jg (jO (ve Q_zam_1 (hr.mono (by decide)) jA (qv 7) jh))))
   (jf (jG (i:=14) yL.nd rfl (Or.inr rfl) (qv 10))
   (jf (jG (i:=10) yL.nd rfl (Or.inr rfl) (xD (osc:=(jc xJ)) (own:=["_law_house"]) (fr:=["_law_pulse"]) (js:=[7]) uO rfl rfl (by exact ⟨rfl,by decide +kernel,by decide +kernel,by decide +kernel,by decide +kernel,by decide +kernel⟩) rfl (vO (qv 5)) (fun _ _ _=>(jM (i:=0) (show List.Nodup (["_law_house","_law_pulse"]:List Str) from by decide +kernel) rfl (Or.inl rfl))) (fun _ _ _=>uC) (fun _ _ _=>(yy Q_zad (hr.mono (by decide)) jA (qv 1) (ja (qv 0) (ja jo jd)) jh))))
   (jf (yG (jX (XH hT hr.units) (xD (osc:=(jc xJ)) (own:=["_law_k"]) (fr:=["_law_times","_law_ahead","_law_pulse"]) (js:=[10,14,7]) uO rfl rfl (by exact ⟨rfl,by decide +kernel,by decide +kernel,by decide +kernel,by decide +kernel,by decide +kernel⟩) rfl (uD rfl N_range (ja (jk (xZ hT) rfl N_len yS (ja (qv 10) jd)) jd)) (fun _ _ _=>(jM (i:=0) (show List.Nodup (["_law_k","_law_times","_law_ahead","_law_pulse"]:List Str) from by decide +kernel) rfl (Or.inl rfl))) (fun _ _ _=>(Jh (QW.qt (vn (jX (XH hT hr.units) (vB (JH hT) (qv 1) (qv 0) (fun _ _=>rfl)) (vB (JH hT) (qv 2) (qv 0) (fun _ _=>rfl)) (jV _)) (xB (QW.qt (YM (jX (jfy) (vB (JH hT) (qv 2) (qv 0) (fun _ _=>rfl)) YO (jV _)) (uP (jX (XH hT hr.units) (vB (JH hT) (qv 1) (qv 0) (fun _ _=>rfl)) (ve Q_zaq (hr.mono (by decide)) jA (qv 3) jh) (jV _)))))))))) (fun _ _ _=>(qv 0))) (vo jd) (jV _)) (jg (jw jaK)) jJ)
   (jf (jcF (i:=15) (osc:=(jc xJ)) (own:=["_law_one"]) (fr:=[]) (js:=[]) uO rfl rfl (by exact ⟨rfl,by decide +kernel,by decide +kernel,by decide +kernel,by decide +kernel,by decide +kernel⟩) rfl yL.nd rfl rfl (vO (qv 10)) (fun _ _ _=>(jM (i:=0) (show List.Nodup (["_law_one"]:List Str) from by decide +kernel) rfl (Or.inl rfl))) (fun _ _ _=>(Jh (jX (jfy) (qv 0) YO (jV _)))) (fun _ _ _=>(qv 0)) rfl)
   (jf (yG (QW.qt (YM (jX (XH hT hr.units) (ve Q_zaq (hr.mono (by decide)) jA (qv 7) jh) (jz (vD hT) (qv 11) jo) (jV _)) (uP (QW.qt (vn (jX (XH hT hr.units) (qv 15) (vo jd) (jV _)) (xB (xx (xj hT (qv 9))))))))) (jg (jw jaK)) jJ)
   (jf (yG (QW.qt (vn (jX (XH hT hr.units) (qv 15) (vo jd) (jV _)) (xB (QW.qt (YM (QW.qt (vn (jX (jhZ) (ve Q_zaq (hr.mono (by decide)) jA (qv 7) jh) (jz (vD hT) (jk (b_min rfl) rfl N_min jgU (ja (qv 15) jd)) (jz (uM) jo (qv 6))) (jV _)) (xB (jX (o_in hT (Xd hr)) YO (qv 10) (by with_unfolding_all rfl))))) (uP (jX (jfz) (jk (b_max rfl) rfl N_max bt_max (ja (qv 15) jd)) (jz (vD hT) (jk (b_min rfl) rfl N_min jgU (ja (qv 15) jd)) (jz (uM) jo (qv 6))) (jV _)))))))) (jg (jw jaK)) jJ)
   (jg (yG (QW.qt (YM (jX (XH hT hr.units) (jk (xZ hT) rfl N_len yS (ja (qv 15) jd)) (jk (xZ hT) rfl N_len yS (ja (ve Q_zal (hr.mono (by decide)) jA (qv 7) jh) jd)) (jV _)) (uP (jX (XH hT hr.units) (xD (osc:=(jc xJ)) (own:=["_law_one"]) (fr:=[]) (js:=[]) uO rfl rfl (by exact ⟨rfl,by decide +kernel,by decide +kernel,by decide +kernel,by decide +kernel,by decide +kernel⟩) rfl (vO (qv 15)) (fun _ _ _=>(jM (i:=0) (show List.Nodup (["_law_one"]:List Str) from by decide +kernel) rfl (Or.inl rfl))) (fun _ _ _=>(Jh (xx (xj hT (ji Q_zbf (hr.mono (by decide)) rfl jA (ja (qv 0) jd) jh))))) (fun _ _ _=>(qv 0))) (vo jd) (jV _))))) (jg (jw jaK)) jJ)))))))))))))
   (jg (jw (jeU (jdK hT hr.units) (xD (osc:=(jc xJ)) (own:=["_law_house"]) (fr:=["_law_pulse"]) (js:=[7]) uO rfl rfl (by exact ⟨rfl,by decide +kernel,by decide +kernel,by decide +kernel,by decide +kernel,by decide +kernel⟩) rfl (vO (qv 5)) (fun _ _ _=>(jM (i:=0) (show List.Nodup (["_law_house","_law_pulse"]:List Str) from by decide +kernel) rfl (Or.inl rfl))) (fun _ _ _=>uC) (fun _ _ _=>(yy Q_zad (hr.mono (by decide)) jA (qv 1) (ja (qv 0) (ja jo jd)) jh))) (jz (uM) (vo (ja YO jd)) (jk (xZ hT) rfl N_len yS (ja (qv 5) jd))) (jV _))))))))))))
end
theorem ln0 {α:Type}:∀ {us:List α},us.length=0->us=[]
 | [],_=>rfl
theorem ln1 {α:Type} {us:List α} (h:us.length=1):∃ u0,us=[u0]:=by
 cases us with
 | nil=>cases h
 | cons x0 us=>exact ⟨x0,by rw [ln0 (Nat.succ.inj h)]⟩
theorem ln2 {α:Type} {us:List α} (h:us.length=2):∃ u0 u1,us=[u0,u1]:=by
 cases us with
 | nil=>cases h
 | cons x0 us=>obtain ⟨v0,e⟩:=ln1 (Nat.succ.inj h); exact ⟨x0,v0,by rw [e]⟩
theorem ln3 {α:Type} {us:List α} (h:us.length=3):∃ u0 u1 u2,us=[u0,u1,u2]:=by
 cases us with
 | nil=>cases h
 | cons x0 us=>obtain ⟨v0,v1,e⟩:=ln2 (Nat.succ.inj h); exact ⟨x0,v0,v1,by rw [e]⟩
theorem ln4 {α:Type} {us:List α} (h:us.length=4):∃ u0 u1 u2 u3,us=[u0,u1,u2,u3]:=by
 cases us with
 | nil=>cases h
 | cons x0 us=>obtain ⟨v0,v1,v2,e⟩:=ln3 (Nat.succ.inj h); exact ⟨x0,v0,v1,v2,by rw [e]⟩
def S0:Sto:=⟨0,fun _=>none⟩
def UF (K:PySem.W.Frag):Sp:=fun vs H Q _=>∃ (a:Addr) (ns:List Int),vs=[.ref a]∧SqL K H a (ns.map V.int)∧ns.length<=63∧∀ H',Q (.bl true) H'
theorem law_sp {P:Program} {w:World} {K:PySem.W.Frag} {mg:Str->Option Value} {base:Heap} {C:Nat->Addr} {f:Addr} {fd:FuncData} (h:FnOk P w K mg base CX0 11 f fd ["_law_script"] (jdw (tb K C) (yv 1 16 jbg))):FnOk P w K mg base CX0 11 f fd ["_law_script"] (UF K):=h.imp fun vs H Q E ⟨a,ns,e,hq,hl,q⟩=>by
 subst e;obtain ⟨M',e⟩:=law_true ns hl;exact ⟨⟨tb K C,H,fun _=>none,fun _=>none⟩,[.scr ns],S0,.bl true,M',rfl,⟨fun _ _ e=>e,(fun _ _ e=>nomatch e),(fun _ _ _ _ _ e=>nomatch e),fun _ _=>rfl,(fun _ _ e=>nomatch e),(fun _ _ e=>nomatch e)⟩,⟨.ref a,[],rfl,⟨a,rfl,hq,hl⟩,rfl⟩,e,fun W' H' u _ _ r=>by cases r; exact q H'⟩
theorem all_mk {l:PySem.W.OpenLaw} {w:World} {K:PySem.W.Frag} {h:Heap} {mg:Str->Option Value} {fa:Addr} (X:K.In h) (G:h.Ns mainGlobals mg) (hfa:mg "law" = some (.ref fa))
  {c_Letter:Addr}
  {c_Post:Addr}
  {c_Pulse:Addr}
  {c_TimedPulse:Addr}
  {f_zbg:Addr} {od_zbg an_zbg:Option Addr} {sl_zbg:Array (Option Value)} {oc_zbg kV_zbg dc_zbg pm_zbg cd_zbg ct_zbg:Value}
  {f_zbh:Addr} {od_zbh an_zbh:Option Addr} {sl_zbh:Array (Option Value)} {oc_zbh kV_zbh dc_zbh pm_zbh cd_zbh ct_zbh:Value}
  {f_zba:Addr} {od_zba an_zba:Option Addr} {sl_zba:Array (Option Value)} {oc_zba kV_zba dc_zba pm_zba cd_zba ct_zba:Value}
  {f_zbi:Addr} {od_zbi an_zbi:Option Addr} {sl_zbi:Array (Option Value)} {oc_zbi kV_zbi dc_zbi pm_zbi cd_zbi ct_zbi:Value}
  {f_zbj:Addr} {od_zbj an_zbj:Option Addr} {sl_zbj:Array (Option Value)} {oc_zbj kV_zbj dc_zbj pm_zbj cd_zbj ct_zbj:Value}
  {f_zbp:Addr} {od_zbp an_zbp:Option Addr} {sl_zbp:Array (Option Value)} {oc_zbp kV_zbp dc_zbp pm_zbp cd_zbp ct_zbp:Value}
  {f_zbk:Addr} {od_zbk an_zbk:Option Addr} {sl_zbk:Array (Option Value)} {oc_zbk kV_zbk dc_zbk pm_zbk cd_zbk ct_zbk:Value}
  {f_zat:Addr} {od_zat an_zat:Option Addr} {sl_zat:Array (Option Value)} {oc_zat kV_zat dc_zat pm_zat cd_zat ct_zat:Value}
  {f_zau:Addr} {od_zau an_zau:Option Addr} {sl_zau:Array (Option Value)} {oc_zau kV_zau dc_zau pm_zau cd_zau ct_zau:Value}
  {f_zbl:Addr} {od_zbl an_zbl:Option Addr} {sl_zbl:Array (Option Value)} {oc_zbl kV_zbl dc_zbl pm_zbl cd_zbl ct_zbl:Value}
  {f_zbq:Addr} {od_zbq an_zbq:Option Addr} {sl_zbq:Array (Option Value)} {oc_zbq kV_zbq dc_zbq pm_zbq cd_zbq ct_zbq:Value}
  {f_zbm:Addr} {od_zbm an_zbm:Option Addr} {sl_zbm:Array (Option Value)} {oc_zbm kV_zbm dc_zbm pm_zbm cd_zbm ct_zbm:Value}
  {f_zah:Addr} {od_zah an_zah:Option Addr} {sl_zah:Array (Option Value)} {oc_zah kV_zah dc_zah pm_zah cd_zah ct_zah:Value}
  {f_zar:Addr} {od_zar an_zar:Option Addr} {sl_zar:Array (Option Value)} {oc_zar kV_zar dc_zar pm_zar cd_zar ct_zar:Value}
  {f_zao:Addr} {od_zao an_zao:Option Addr} {sl_zao:Array (Option Value)} {oc_zao  dc_zao pm_zao cd_zao ct_zao:Value}
  {kd_zao:Addr}
  {tu_zao_liars:Addr} {tq_zao_liars:Option Addr} {tn_zao_liars:Nat} {ts_zao_liars:Array (Option Value)}
  {f_zae:Addr} {od_zae an_zae:Option Addr} {sl_zae:Array (Option Value)} {oc_zae  dc_zae pm_zae cd_zae ct_zae:Value}
  {kd_zae:Addr}
  {tu_zae_liars:Addr} {tq_zae_liars:Option Addr} {tn_zae_liars:Nat} {ts_zae_liars:Array (Option Value)}
  {tt_zae_delay:Tok}
  {f_zaw:Addr} {od_zaw an_zaw:Option Addr} {sl_zaw:Array (Option Value)} {oc_zaw kV_zaw dc_zaw pm_zaw cd_zaw ct_zaw:Value}
  {f_zav:Addr} {od_zav an_zav:Option Addr} {sl_zav:Array (Option Value)} {oc_zav kV_zav dc_zav pm_zav cd_zav ct_zav:Value}
  {f_zab:Addr} {od_zab an_zab:Option Addr} {sl_zab:Array (Option Value)} {oc_zab kV_zab dc_zab pm_zab cd_zab ct_zab:Value}
  {f_zbr:Addr} {od_zbr an_zbr:Option Addr} {sl_zbr:Array (Option Value)} {oc_zbr kV_zbr dc_zbr pm_zbr cd_zbr ct_zbr:Value}
  {f_zap:Addr} {od_zap an_zap:Option Addr} {sl_zap:Array (Option Value)} {oc_zap kV_zap dc_zap pm_zap cd_zap ct_zap:Value}
  {f_zax:Addr} {od_zax an_zax:Option Addr} {sl_zax:Array (Option Value)} {oc_zax kV_zax dc_zax pm_zax cd_zax ct_zax:Value}
  {f_zay:Addr} {od_zay an_zay:Option Addr} {sl_zay:Array (Option Value)} {oc_zay kV_zay dc_zay pm_zay cd_zay ct_zay:Value}
  {f_zan:Addr} {od_zan an_zan:Option Addr} {sl_zan:Array (Option Value)} {oc_zan kV_zan dc_zan pm_zan cd_zan ct_zan:Value}
  {f_zbb:Addr} {od_zbb an_zbb:Option Addr} {sl_zbb:Array (Option Value)} {oc_zbb kV_zbb dc_zbb pm_zbb cd_zbb ct_zbb:Value}
  {f_zai:Addr} {od_zai an_zai:Option Addr} {sl_zai:Array (Option Value)} {oc_zai kV_zai dc_zai pm_zai cd_zai ct_zai:Value}
  {f_zaj:Addr} {od_zaj an_zaj:Option Addr} {sl_zaj:Array (Option Value)} {oc_zaj kV_zaj dc_zaj pm_zaj cd_zaj ct_zaj:Value}
  {f_zaz:Addr} {od_zaz an_zaz:Option Addr} {sl_zaz:Array (Option Value)} {oc_zaz kV_zaz dc_zaz pm_zaz cd_zaz ct_zaz:Value}
  {f_zag:Addr} {od_zag an_zag:Option Addr} {sl_zag:Array (Option Value)} {oc_zag kV_zag dc_zag pm_zag cd_zag ct_zag:Value}
  {f_zbn:Addr} {od_zbn an_zbn:Option Addr} {sl_zbn:Array (Option Value)} {oc_zbn kV_zbn dc_zbn pm_zbn cd_zbn ct_zbn:Value}
  {f_zaa:Addr} {od_zaa an_zaa:Option Addr} {sl_zaa:Array (Option Value)} {oc_zaa kV_zaa dc_zaa pm_zaa cd_zaa ct_zaa:Value}
  {f_zaf:Addr} {od_zaf an_zaf:Option Addr} {sl_zaf:Array (Option Value)} {oc_zaf kV_zaf dc_zaf pm_zaf cd_zaf ct_zaf:Value}
  {f_zac:Addr} {od_zac an_zac:Option Addr} {sl_zac:Array (Option Value)} {oc_zac kV_zac dc_zac pm_zac cd_zac ct_zac:Value}
  {f_zbo:Addr} {od_zbo an_zbo:Option Addr} {sl_zbo:Array (Option Value)} {oc_zbo kV_zbo dc_zbo pm_zbo cd_zbo ct_zbo:Value}
  {f_zas:Addr} {od_zas an_zas:Option Addr} {sl_zas:Array (Option Value)} {oc_zas kV_zas dc_zas pm_zas cd_zas ct_zas:Value}
  {f_zak:Addr} {od_zak an_zak:Option Addr} {sl_zak:Array (Option Value)} {oc_zak kV_zak dc_zak pm_zak cd_zak ct_zak:Value}
  {f_zbc:Addr} {od_zbc an_zbc:Option Addr} {sl_zbc:Array (Option Value)} {oc_zbc kV_zbc dc_zbc pm_zbc cd_zbc ct_zbc:Value}
  {f_zbd:Addr} {od_zbd an_zbd:Option Addr} {sl_zbd:Array (Option Value)} {oc_zbd kV_zbd dc_zbd pm_zbd cd_zbd ct_zbd:Value}
  {f_zbe:Addr} {od_zbe an_zbe:Option Addr} {sl_zbe:Array (Option Value)} {oc_zbe kV_zbe dc_zbe pm_zbe cd_zbe ct_zbe:Value}
  {f_zam:Addr} {od_zam an_zam:Option Addr} {sl_zam:Array (Option Value)} {oc_zam  dc_zam pm_zam cd_zam ct_zam:Value}
  {kd_zam:Addr}
  {tu_zam_delays:Addr} {tq_zam_delays:Option Addr} {tn_zam_delays:Nat} {ts_zam_delays:Array (Option Value)}
  {f_zad:Addr} {od_zad an_zad:Option Addr} {sl_zad:Array (Option Value)} {oc_zad kV_zad dc_zad pm_zad cd_zad ct_zad:Value}
  {f_zaq:Addr} {od_zaq an_zaq:Option Addr} {sl_zaq:Array (Option Value)} {oc_zaq kV_zaq dc_zaq pm_zaq cd_zaq ct_zaq:Value}
  {f_zal:Addr} {od_zal an_zal:Option Addr} {sl_zal:Array (Option Value)} {oc_zal kV_zal dc_zal pm_zal cd_zal ct_zal:Value}
  {f_zbf:Addr} {od_zbf an_zbf:Option Addr} {sl_zbf:Array (Option Value)} {oc_zbf kV_zbf dc_zbf pm_zbf cd_zbf ct_zbf:Value}
  {f_law:Addr} {od_law an_law:Option Addr} {sl_law:Array (Option Value)} {oc_law kV_law dc_law pm_law cd_law ct_law:Value}
  {t_LAST_ROUND:Tok}
  {t_LAST_TIMED_BEAT:Tok}
  {t_MOST_DELAY:Tok}
  {t_MOST_FEW:Tok}
  {t_MOST_HOUSES:Tok}
  {c_BadNumber:Addr}
  {c_BadHouses:Addr}
  {c_NoHouse:Addr}
  {c_NoLetter:Addr}
  {c_NotNow:Addr}
  {c_LiarError:Addr}
  (a_Letter:PySem.W.nsIn K mainGlobals "Letter" = some (some (.ref c_Letter)))
  (o_Letter_pg:PySem.W.plainGet K c_Letter Str.empty=true)
  (o_Letter_hd:PySem.W.hasDictIn K c_Letter=true)
  (o_Letter_po:PySem.W.plainOver K c_Letter=true)
  (o_Letter_sa:PySem.W.findIn K (.ref c_Letter) "__setattr__" = some (some (.builtin "object.__setattr__")))
  (o_Letter_mk:PySem.W.makesIn K c_Letter=true)
  (o_Letter_kp:PySem.W.keepIn K (.ref c_Letter)=true)
  (o_Letter_n_due:PySem.W.findIn K (.ref c_Letter) "due" = some none)
  (o_Letter_n_house:PySem.W.findIn K (.ref c_Letter) "house" = some none)
  (o_Letter_n_sender:PySem.W.findIn K (.ref c_Letter) "sender" = some none)
  (o_Letter_n_what:PySem.W.findIn K (.ref c_Letter) "what" = some none)
  (a_Post:PySem.W.nsIn K mainGlobals "Post" = some (some (.ref c_Post)))
  (o_Post_pg:PySem.W.plainGet K c_Post Str.empty=true)
  (o_Post_hd:PySem.W.hasDictIn K c_Post=true)
  (o_Post_po:PySem.W.plainOver K c_Post=true)
  (o_Post_sa:PySem.W.findIn K (.ref c_Post) "__setattr__" = some (some (.builtin "object.__setattr__")))
  (o_Post_mk:PySem.W.makesIn K c_Post=true)
  (o_Post_kp:PySem.W.keepIn K (.ref c_Post)=true)
  (a_Pulse:PySem.W.nsIn K mainGlobals "Pulse" = some (some (.ref c_Pulse)))
  (o_Pulse_pg:PySem.W.plainGet K c_Pulse Str.empty=true)
  (o_Pulse_hd:PySem.W.hasDictIn K c_Pulse=true)
  (o_Pulse_po:PySem.W.plainOver K c_Pulse=true)
  (o_Pulse_sa:PySem.W.findIn K (.ref c_Pulse) "__setattr__" = some (some (.builtin "object.__setattr__")))
  (o_Pulse_mk:PySem.W.makesIn K c_Pulse=true)
  (o_Pulse_kp:PySem.W.keepIn K (.ref c_Pulse)=true)
  (a_TimedPulse:PySem.W.nsIn K mainGlobals "TimedPulse" = some (some (.ref c_TimedPulse)))
  (o_TimedPulse_pg:PySem.W.plainGet K c_TimedPulse Str.empty=true)
  (o_TimedPulse_hd:PySem.W.hasDictIn K c_TimedPulse=true)
  (o_TimedPulse_po:PySem.W.plainOver K c_TimedPulse=true)
  (o_TimedPulse_sa:PySem.W.findIn K (.ref c_TimedPulse) "__setattr__" = some (some (.builtin "object.__setattr__")))
  (o_TimedPulse_mk:PySem.W.makesIn K c_TimedPulse=true)
  (o_TimedPulse_kp:PySem.W.keepIn K (.ref c_TimedPulse)=true)
  (o_TimedPulse_n_beat:PySem.W.findIn K (.ref c_TimedPulse) "beat" = some none)
  (o_TimedPulse_n_delay:PySem.W.findIn K (.ref c_TimedPulse) "delay" = some none)
  (o_TimedPulse_n_few:PySem.W.findIn K (.ref c_TimedPulse) "few" = some none)
  (o_TimedPulse_n_got:PySem.W.findIn K (.ref c_TimedPulse) "got" = some none)
  (o_TimedPulse_n_houses:PySem.W.findIn K (.ref c_TimedPulse) "houses" = some none)
  (o_TimedPulse_n_liars:PySem.W.findIn K (.ref c_TimedPulse) "liars" = some none)
  (o_TimedPulse_n_on_way:PySem.W.findIn K (.ref c_TimedPulse) "on_way" = some none)
  (o_TimedPulse_n_struck:PySem.W.findIn K (.ref c_TimedPulse) "struck" = some none)
  (o_TimedPulse_n_written:PySem.W.findIn K (.ref c_TimedPulse) "written" = some none)
  (a_zbg:PySem.W.nsIn K mainGlobals "_law_town" = some (some (.ref f_zbg)))
  (l_zbg:K.lookup f_zbg=some ⟨oc_zbg,od_zbg,.func (PySem.W.fnOf "_law_town" "_law_town" (jn Ve) (jj Ve) (jc Ve) .none kV_zbg dc_zbg pm_zbg an_zbg cd_zbg ct_zbg),sl_zbg⟩)
  (c_zbg:PySem.W.codeIn K cd_zbg "_law_town" = true)
  (k_zbg:PySem.W.keepIn K (.ref f_zbg)=true)
  (a_zbh:PySem.W.nsIn K mainGlobals "_law_draw" = some (some (.ref f_zbh)))
  (l_zbh:K.lookup f_zbh=some ⟨oc_zbh,od_zbh,.func (PySem.W.fnOf "_law_draw" "_law_draw" (jn Vd) (jj Vd) (jc Vd) .none kV_zbh dc_zbh pm_zbh an_zbh cd_zbh ct_zbh),sl_zbh⟩)
  (c_zbh:PySem.W.codeIn K cd_zbh "_law_draw" = true)
  (k_zbh:PySem.W.keepIn K (.ref f_zbh)=true)
  (a_zba:PySem.W.nsIn K mainGlobals "_law_liars" = some (some (.ref f_zba)))
  (l_zba:K.lookup f_zba=some ⟨oc_zba,od_zba,.func (PySem.W.fnOf "_law_liars" "_law_liars" (jn Vk) (jj Vk) (jc Vk) .none kV_zba dc_zba pm_zba an_zba cd_zba ct_zba),sl_zba⟩)
  (c_zba:PySem.W.codeIn K cd_zba "_law_liars" = true)
  (k_zba:PySem.W.keepIn K (.ref f_zba)=true)
  (a_zbi:PySem.W.nsIn K mainGlobals "_law_crew" = some (some (.ref f_zbi)))
  (l_zbi:K.lookup f_zbi=some ⟨oc_zbi,od_zbi,.func (PySem.W.fnOf "_law_crew" "_law_crew" (jn YG) (jj YG) (jc YG) .none kV_zbi dc_zbi pm_zbi an_zbi cd_zbi ct_zbi),sl_zbi⟩)
  (c_zbi:PySem.W.codeIn K cd_zbi "_law_crew" = true)
  (k_zbi:PySem.W.keepIn K (.ref f_zbi)=true)
  (a_zbj:PySem.W.nsIn K mainGlobals "_law_pick" = some (some (.ref f_zbj)))
  (l_zbj:K.lookup f_zbj=some ⟨oc_zbj,od_zbj,.func (PySem.W.fnOf "_law_pick" "_law_pick" (jn Vc) (jj Vc) (jc Vc) .none kV_zbj dc_zbj pm_zbj an_zbj cd_zbj ct_zbj),sl_zbj⟩)
  (c_zbj:PySem.W.codeIn K cd_zbj "_law_pick" = true)
  (k_zbj:PySem.W.keepIn K (.ref f_zbj)=true)
  (a_zbp:PySem.W.nsIn K mainGlobals "is_whole" = some (some (.ref f_zbp)))
  (l_zbp:K.lookup f_zbp=some ⟨oc_zbp,od_zbp,.func (PySem.W.fnOf "is_whole" "is_whole" (jn XW) (jj XW) (jc XW) .none kV_zbp dc_zbp pm_zbp an_zbp cd_zbp ct_zbp),sl_zbp⟩)
  (c_zbp:PySem.W.codeIn K cd_zbp "is_whole" = true)
  (k_zbp:PySem.W.keepIn K (.ref f_zbp)=true)
  (a_zbk:PySem.W.nsIn K mainGlobals "is_within" = some (some (.ref f_zbk)))
  (l_zbk:K.lookup f_zbk=some ⟨oc_zbk,od_zbk,.func (PySem.W.fnOf "is_within" "is_within" (jn Vb) (jj Vb) (jc Vb) .none kV_zbk dc_zbk pm_zbk an_zbk cd_zbk ct_zbk),sl_zbk⟩)
  (c_zbk:PySem.W.codeIn K cd_zbk "is_within" = true)
  (k_zbk:PySem.W.keepIn K (.ref f_zbk)=true)
  (a_zat:PySem.W.nsIn K mainGlobals "check_within" = some (some (.ref f_zat)))
  (l_zat:K.lookup f_zat=some ⟨oc_zat,od_zat,.func (PySem.W.fnOf "check_within" "check_within" (jn Vq) (jj Vq) (jc Vq) .none kV_zat dc_zat pm_zat an_zat cd_zat ct_zat),sl_zat⟩)
  (c_zat:PySem.W.codeIn K cd_zat "check_within" = true)
  (k_zat:PySem.W.keepIn K (.ref f_zat)=true)
  (a_zau:PySem.W.nsIn K mainGlobals "check_houses" = some (some (.ref f_zau)))
  (l_zau:K.lookup f_zau=some ⟨oc_zau,od_zau,.func (PySem.W.fnOf "check_houses" "check_houses" (jn Vp) (jj Vp) (jc Vp) .none kV_zau dc_zau pm_zau an_zau cd_zau ct_zau),sl_zau⟩)
  (c_zau:PySem.W.codeIn K cd_zau "check_houses" = true)
  (k_zau:PySem.W.keepIn K (.ref f_zau)=true)
  (a_zbl:PySem.W.nsIn K mainGlobals "check_few" = some (some (.ref f_zbl)))
  (l_zbl:K.lookup f_zbl=some ⟨oc_zbl,od_zbl,.func (PySem.W.fnOf "check_few" "check_few" (jn XZ) (jj XZ) (jc XZ) .none kV_zbl dc_zbl pm_zbl an_zbl cd_zbl ct_zbl),sl_zbl⟩)
  (c_zbl:PySem.W.codeIn K cd_zbl "check_few" = true)
  (k_zbl:PySem.W.keepIn K (.ref f_zbl)=true)
  (a_zbq:PySem.W.nsIn K mainGlobals "is_house" = some (some (.ref f_zbq)))
  (l_zbq:K.lookup f_zbq=some ⟨oc_zbq,od_zbq,.func (PySem.W.fnOf "is_house" "is_house" (jn XV) (jj XV) (jc XV) .none kV_zbq dc_zbq pm_zbq an_zbq cd_zbq ct_zbq),sl_zbq⟩)
  (c_zbq:PySem.W.codeIn K cd_zbq "is_house" = true)
  (k_zbq:PySem.W.keepIn K (.ref f_zbq)=true)
  (a_zbm:PySem.W.nsIn K mainGlobals "is_rising" = some (some (.ref f_zbm)))
  (l_zbm:K.lookup f_zbm=some ⟨oc_zbm,od_zbm,.func (PySem.W.fnOf "is_rising" "is_rising" (jn YF) (jj YF) (jc YF) .none kV_zbm dc_zbm pm_zbm an_zbm cd_zbm ct_zbm),sl_zbm⟩)
  (c_zbm:PySem.W.codeIn K cd_zbm "is_rising" = true)
  (k_zbm:PySem.W.keepIn K (.ref f_zbm)=true)
  (a_zah:PySem.W.nsIn K mainGlobals "check_some_houses" = some (some (.ref f_zah)))
  (l_zah:K.lookup f_zah=some ⟨oc_zah,od_zah,.func (PySem.W.fnOf "check_some_houses" "check_some_houses" (jn YI) (jj YI) (jc YI) .none kV_zah dc_zah pm_zah an_zah cd_zah ct_zah),sl_zah⟩)
  (c_zah:PySem.W.codeIn K cd_zah "check_some_houses" = true)
  (k_zah:PySem.W.keepIn K (.ref f_zah)=true)
  (a_zar:PySem.W.findIn K (.ref c_Post) "__init__" = some (some (.ref f_zar)))
  (i_zar:PySem.W.isFn K (.ref f_zar)=true)
  (l_zar:K.lookup f_zar=some ⟨oc_zar,od_zar,.func (PySem.W.fnOf "__init__" "Post.__init__" (jn Vs) (jj Vs) (jc Vs) .none kV_zar dc_zar pm_zar an_zar cd_zar ct_zar),sl_zar⟩)
  (c_zar:PySem.W.codeIn K cd_zar "Post.__init__" = true)
  (k_zar:PySem.W.keepIn K (.ref f_zar)=true)
  (q_zar_rd:PySem.W.readsIn K c_Post (.type "type")=true)
  (q_zar_fc:PySem.W.findCls K (.ref c_Post) (.type "type") "__init__" = some (.val (.ref f_zar)))
  (q_zar_sp:PySem.W.specialIn K (.ref c_Post) "__getattribute__" = some (some (.builtin "type.__getattribute__")))
  (a_zao:PySem.W.findIn K (.ref c_Pulse) "__init__" = some (some (.ref f_zao)))
  (i_zao:PySem.W.isFn K (.ref f_zao)=true)
  (l_zao:K.lookup f_zao=some ⟨oc_zao,od_zao,.func (PySem.W.fnOf "__init__" "Pulse.__init__" (jn Vv) (jj Vv) (jc Vv) .none (.ref kd_zao) dc_zao pm_zao an_zao cd_zao ct_zao),sl_zao⟩)
  (c_zao:PySem.W.codeIn K cd_zao "Pulse.__init__" = true)
  (k_zao:PySem.W.keepIn K (.ref f_zao)=true)
  (kd_zao_liars:PySem.W.nsIn K kd_zao "liars" = some (some (.ref tu_zao_liars)))
  (tu_zao_liars_o:K.lookup tu_zao_liars=some ⟨.type "tuple",tq_zao_liars,.seq #[] tn_zao_liars,ts_zao_liars⟩)
  (q_zao_rd:PySem.W.readsIn K c_Pulse (.type "type")=true)
  (q_zao_fc:PySem.W.findCls K (.ref c_Pulse) (.type "type") "__init__" = some (.val (.ref f_zao)))
  (q_zao_sp:PySem.W.specialIn K (.ref c_Pulse) "__getattribute__" = some (some (.builtin "type.__getattribute__")))
  (a_zae:PySem.W.findIn K (.ref c_TimedPulse) "__init__" = some (some (.ref f_zae)))
  (i_zae:PySem.W.isFn K (.ref f_zae)=true)
  (l_zae:K.lookup f_zae=some ⟨oc_zae,od_zae,.func (PySem.W.fnOf "__init__" "TimedPulse.__init__" (jn VE) (jj VE) (jc VE) .none (.ref kd_zae) dc_zae pm_zae an_zae cd_zae ct_zae),sl_zae⟩)
  (c_zae:PySem.W.codeIn K cd_zae "TimedPulse.__init__" = true)
  (k_zae:PySem.W.keepIn K (.ref f_zae)=true)
  (kd_zae_liars:PySem.W.nsIn K kd_zae "liars" = some (some (.ref tu_zae_liars)))
  (tu_zae_liars_o:K.lookup tu_zae_liars=some ⟨.type "tuple",tq_zae_liars,.seq #[] tn_zae_liars,ts_zae_liars⟩)
  (kd_zae_delay:PySem.W.nsIn K kd_zae "delay" = some (some (.int 10 tt_zae_delay)))
  (a_zaw:PySem.W.nsIn K mainGlobals "check_house" = some (some (.ref f_zaw)))
  (l_zaw:K.lookup f_zaw=some ⟨oc_zaw,od_zaw,.func (PySem.W.fnOf "check_house" "check_house" (jn Vn) (jj Vn) (jc Vn) .none kV_zaw dc_zaw pm_zaw an_zaw cd_zaw ct_zaw),sl_zaw⟩)
  (c_zaw:PySem.W.codeIn K cd_zaw "check_house" = true)
  (k_zaw:PySem.W.keepIn K (.ref f_zaw)=true)
  (a_zav:PySem.W.nsIn K mainGlobals "check_honest" = some (some (.ref f_zav)))
  (l_zav:K.lookup f_zav=some ⟨oc_zav,od_zav,.func (PySem.W.fnOf "check_honest" "check_honest" (jn Vo) (jj Vo) (jc Vo) .none kV_zav dc_zav pm_zav an_zav cd_zav ct_zav),sl_zav⟩)
  (c_zav:PySem.W.codeIn K cd_zav "check_honest" = true)
  (k_zav:PySem.W.keepIn K (.ref f_zav)=true)
  (a_zab:PySem.W.findIn K (.ref c_TimedPulse) "check_is_honest" = some (some (.ref f_zab)))
  (i_zab:PySem.W.isFn K (.ref f_zab)=true)
  (l_zab:K.lookup f_zab=some ⟨oc_zab,od_zab,.func (PySem.W.fnOf "check_is_honest" "Post.check_is_honest" (jn VH) (jj VH) (jc VH) .none kV_zab dc_zab pm_zab an_zab cd_zab ct_zab),sl_zab⟩)
  (c_zab:PySem.W.codeIn K cd_zab "Post.check_is_honest" = true)
  (k_zab:PySem.W.keepIn K (.ref f_zab)=true)
  (a_zbr:PySem.W.nsIn K mainGlobals "is_round" = some (some (.ref f_zbr)))
  (l_zbr:K.lookup f_zbr=some ⟨oc_zbr,od_zbr,.func (PySem.W.fnOf "is_round" "is_round" (jn XU) (jj XU) (jc XU) .none kV_zbr dc_zbr pm_zbr an_zbr cd_zbr ct_zbr),sl_zbr⟩)
  (c_zbr:PySem.W.codeIn K cd_zbr "is_round" = true)
  (k_zbr:PySem.W.keepIn K (.ref f_zbr)=true)
  (a_zap:PySem.W.findIn K (.ref c_TimedPulse) "has_said" = some (some (.ref f_zap)))
  (i_zap:PySem.W.isFn K (.ref f_zap)=true)
  (l_zap:K.lookup f_zap=some ⟨oc_zap,od_zap,.func (PySem.W.fnOf "has_said" "Pulse.has_said" (jn Vu) (jj Vu) (jc Vu) .none kV_zap dc_zap pm_zap an_zap cd_zap ct_zap),sl_zap⟩)
  (c_zap:PySem.W.codeIn K cd_zap "Pulse.has_said" = true)
  (k_zap:PySem.W.keepIn K (.ref f_zap)=true)
  (a_zax:PySem.W.nsIn K mainGlobals "check_round" = some (some (.ref f_zax)))
  (l_zax:K.lookup f_zax=some ⟨oc_zax,od_zax,.func (PySem.W.fnOf "check_round" "check_round" (jn Vm) (jj Vm) (jc Vm) .none kV_zax dc_zax pm_zax an_zax cd_zax ct_zax),sl_zax⟩)
  (c_zax:PySem.W.codeIn K cd_zax "check_round" = true)
  (k_zax:PySem.W.keepIn K (.ref f_zax)=true)
  (a_zay:PySem.W.findIn K (.ref c_TimedPulse) "honest" = some (some (.ref f_zay)))
  (i_zay:PySem.W.isFn K (.ref f_zay)=true)
  (l_zay:K.lookup f_zay=some ⟨oc_zay,od_zay,.func (PySem.W.fnOf "honest" "Post.honest" (jn YH) (jj YH) (jc YH) .none kV_zay dc_zay pm_zay an_zay cd_zay ct_zay),sl_zay⟩)
  (c_zay:PySem.W.codeIn K cd_zay "Post.honest" = true)
  (k_zay:PySem.W.keepIn K (.ref f_zay)=true)
  (a_zan:PySem.W.findIn K (.ref c_Letter) "__init__" = some (some (.ref f_zan)))
  (i_zan:PySem.W.isFn K (.ref f_zan)=true)
  (l_zan:K.lookup f_zan=some ⟨oc_zan,od_zan,.func (PySem.W.fnOf "__init__" "Letter.__init__" (jn Vw) (jj Vw) (jc Vw) .none kV_zan dc_zan pm_zan an_zan cd_zan ct_zan),sl_zan⟩)
  (c_zan:PySem.W.codeIn K cd_zan "Letter.__init__" = true)
  (k_zan:PySem.W.keepIn K (.ref f_zan)=true)
  (a_zbb:PySem.W.findIn K (.ref c_TimedPulse) "write" = some (some (.ref f_zbb)))
  (i_zbb:PySem.W.isFn K (.ref f_zbb)=true)
  (l_zbb:K.lookup f_zbb=some ⟨oc_zbb,od_zbb,.func (PySem.W.fnOf "write" "Post.write" (jn Vj) (jj Vj) (jc Vj) .none kV_zbb dc_zbb pm_zbb an_zbb cd_zbb ct_zbb),sl_zbb⟩)
  (c_zbb:PySem.W.codeIn K cd_zbb "Post.write" = true)
  (k_zbb:PySem.W.keepIn K (.ref f_zbb)=true)
  (a_zai:PySem.W.findIn K (.ref c_TimedPulse) "write_to_all" = some (some (.ref f_zai)))
  (i_zai:PySem.W.isFn K (.ref f_zai)=true)
  (l_zai:K.lookup f_zai=some ⟨oc_zai,od_zai,.func (PySem.W.fnOf "write_to_all" "Post.write_to_all" (jn VB) (jj VB) (jc VB) .none kV_zai dc_zai pm_zai an_zai cd_zai ct_zai),sl_zai⟩)
  (c_zai:PySem.W.codeIn K cd_zai "Post.write_to_all" = true)
  (k_zai:PySem.W.keepIn K (.ref f_zai)=true)
  (a_zaj:PySem.W.findIn K (.ref c_TimedPulse) "write_round" = some (some (.ref f_zaj)))
  (i_zaj:PySem.W.isFn K (.ref f_zaj)=true)
  (l_zaj:K.lookup f_zaj=some ⟨oc_zaj,od_zaj,.func (PySem.W.fnOf "write_round" "Pulse.write_round" (jn VA) (jj VA) (jc VA) .none kV_zaj dc_zaj pm_zaj an_zaj cd_zaj ct_zaj),sl_zaj⟩)
  (c_zaj:PySem.W.codeIn K cd_zaj "Pulse.write_round" = true)
  (k_zaj:PySem.W.keepIn K (.ref f_zaj)=true)
  (a_zaz:PySem.W.findIn K (.ref c_TimedPulse) "ready" = some (some (.ref f_zaz)))
  (i_zaz:PySem.W.isFn K (.ref f_zaz)=true)
  (l_zaz:K.lookup f_zaz=some ⟨oc_zaz,od_zaz,.func (PySem.W.fnOf "ready" "Pulse.ready" (jn Vl) (jj Vl) (jc Vl) .none kV_zaz dc_zaz pm_zaz an_zaz cd_zaz ct_zaz),sl_zaz⟩)
  (c_zaz:PySem.W.codeIn K cd_zaz "Pulse.ready" = true)
  (k_zaz:PySem.W.keepIn K (.ref f_zaz)=true)
  (a_zag:PySem.W.findIn K (.ref c_TimedPulse) "check_is_liar" = some (some (.ref f_zag)))
  (i_zag:PySem.W.isFn K (.ref f_zag)=true)
  (l_zag:K.lookup f_zag=some ⟨oc_zag,od_zag,.func (PySem.W.fnOf "check_is_liar" "Post.check_is_liar" (jn VC) (jj VC) (jc VC) .none kV_zag dc_zag pm_zag an_zag cd_zag ct_zag),sl_zag⟩)
  (c_zag:PySem.W.codeIn K cd_zag "Post.check_is_liar" = true)
  (k_zag:PySem.W.keepIn K (.ref f_zag)=true)
  (a_zbn:PySem.W.findIn K (.ref c_TimedPulse) "lie" = some (some (.ref f_zbn)))
  (i_zbn:PySem.W.isFn K (.ref f_zbn)=true)
  (l_zbn:K.lookup f_zbn=some ⟨oc_zbn,od_zbn,.func (PySem.W.fnOf "lie" "Pulse.lie" (jn XY) (jj XY) (jc XY) .none kV_zbn dc_zbn pm_zbn an_zbn cd_zbn ct_zbn),sl_zbn⟩)
  (c_zbn:PySem.W.codeIn K cd_zbn "Pulse.lie" = true)
  (k_zbn:PySem.W.keepIn K (.ref f_zbn)=true)
  (a_zaa:PySem.W.findIn K (.ref c_TimedPulse) "check_delays" = some (some (.ref f_zaa)))
  (i_zaa:PySem.W.isFn K (.ref f_zaa)=true)
  (l_zaa:K.lookup f_zaa=some ⟨oc_zaa,od_zaa,.func (PySem.W.fnOf "check_delays" "TimedPulse.check_delays" (jn YJ) (jj YJ) (jc YJ) .none kV_zaa dc_zaa pm_zaa an_zaa cd_zaa ct_zaa),sl_zaa⟩)
  (c_zaa:PySem.W.codeIn K cd_zaa "TimedPulse.check_delays" = true)
  (k_zaa:PySem.W.keepIn K (.ref f_zaa)=true)
  (a_zaf:PySem.W.findIn K (.ref c_TimedPulse) "delay_of" = some (some (.ref f_zaf)))
  (i_zaf:PySem.W.isFn K (.ref f_zaf)=true)
  (l_zaf:K.lookup f_zaf=some ⟨oc_zaf,od_zaf,.func (PySem.W.fnOf "delay_of" "TimedPulse.delay_of" (jn VD) (jj VD) (jc VD) .none kV_zaf dc_zaf pm_zaf an_zaf cd_zaf ct_zaf),sl_zaf⟩)
  (c_zaf:PySem.W.codeIn K cd_zaf "TimedPulse.delay_of" = true)
  (k_zaf:PySem.W.keepIn K (.ref f_zaf)=true)
  (a_zac:PySem.W.findIn K (.ref c_TimedPulse) "give_dues" = some (some (.ref f_zac)))
  (i_zac:PySem.W.isFn K (.ref f_zac)=true)
  (l_zac:K.lookup f_zac=some ⟨oc_zac,od_zac,.func (PySem.W.fnOf "give_dues" "TimedPulse.give_dues" (jn VG) (jj VG) (jc VG) .none kV_zac dc_zac pm_zac an_zac cd_zac ct_zac),sl_zac⟩)
  (c_zac:PySem.W.codeIn K cd_zac "TimedPulse.give_dues" = true)
  (k_zac:PySem.W.keepIn K (.ref f_zac)=true)
  (a_zbo:PySem.W.findIn K (.ref c_TimedPulse) "take" = some (some (.ref f_zbo)))
  (i_zbo:PySem.W.isFn K (.ref f_zbo)=true)
  (l_zbo:K.lookup f_zbo=some ⟨oc_zbo,od_zbo,.func (PySem.W.fnOf "take" "Post.take" (jn XX) (jj XX) (jc XX) .none kV_zbo dc_zbo pm_zbo an_zbo cd_zbo ct_zbo),sl_zbo⟩)
  (c_zbo:PySem.W.codeIn K cd_zbo "Post.take" = true)
  (k_zbo:PySem.W.keepIn K (.ref f_zbo)=true)
  (a_zas:PySem.W.findIn K (.ref c_TimedPulse) "many_got" = some (some (.ref f_zas)))
  (i_zas:PySem.W.isFn K (.ref f_zas)=true)
  (l_zas:K.lookup f_zas=some ⟨oc_zas,od_zas,.func (PySem.W.fnOf "many_got" "Post.many_got" (jn Vr) (jj Vr) (jc Vr) .none kV_zas dc_zas pm_zas an_zas cd_zas ct_zas),sl_zas⟩)
  (c_zas:PySem.W.codeIn K cd_zas "Post.many_got" = true)
  (k_zas:PySem.W.keepIn K (.ref f_zas)=true)
  (a_zak:PySem.W.findIn K (.ref c_TimedPulse) "strike" = some (some (.ref f_zak)))
  (i_zak:PySem.W.isFn K (.ref f_zak)=true)
  (l_zak:K.lookup f_zak=some ⟨oc_zak,od_zak,.func (PySem.W.fnOf "strike" "TimedPulse.strike" (jn Vz) (jj Vz) (jc Vz) .none kV_zak dc_zak pm_zak an_zak cd_zak ct_zak),sl_zak⟩)
  (c_zak:PySem.W.codeIn K cd_zak "TimedPulse.strike" = true)
  (k_zak:PySem.W.keepIn K (.ref f_zak)=true)
  (a_zbc:PySem.W.findIn K (.ref c_TimedPulse) "look" = some (some (.ref f_zbc)))
  (i_zbc:PySem.W.isFn K (.ref f_zbc)=true)
  (l_zbc:K.lookup f_zbc=some ⟨oc_zbc,od_zbc,.func (PySem.W.fnOf "look" "Pulse.look" (jn Vi) (jj Vi) (jc Vi) .none kV_zbc dc_zbc pm_zbc an_zbc cd_zbc ct_zbc),sl_zbc⟩)
  (c_zbc:PySem.W.codeIn K cd_zbc "Pulse.look" = true)
  (k_zbc:PySem.W.keepIn K (.ref f_zbc)=true)
  (a_zbd:PySem.W.findIn K (.ref c_Letter) "row" = some (some (.ref f_zbd)))
  (i_zbd:PySem.W.isFn K (.ref f_zbd)=true)
  (l_zbd:K.lookup f_zbd=some ⟨oc_zbd,od_zbd,.func (PySem.W.fnOf "row" "Letter.row" (jn Vh) (jj Vh) (jc Vh) .none kV_zbd dc_zbd pm_zbd an_zbd cd_zbd ct_zbd),sl_zbd⟩)
  (c_zbd:PySem.W.codeIn K cd_zbd "Letter.row" = true)
  (k_zbd:PySem.W.keepIn K (.ref f_zbd)=true)
  (a_zbe:PySem.W.findIn K (.ref c_TimedPulse) "come" = some (some (.ref f_zbe)))
  (i_zbe:PySem.W.isFn K (.ref f_zbe)=true)
  (l_zbe:K.lookup f_zbe=some ⟨oc_zbe,od_zbe,.func (PySem.W.fnOf "come" "Pulse.come" (jn Vg) (jj Vg) (jc Vg) .none kV_zbe dc_zbe pm_zbe an_zbe cd_zbe ct_zbe),sl_zbe⟩)
  (c_zbe:PySem.W.codeIn K cd_zbe "Pulse.come" = true)
  (k_zbe:PySem.W.keepIn K (.ref f_zbe)=true)
  (a_zam:PySem.W.findIn K (.ref c_TimedPulse) "go_on" = some (some (.ref f_zam)))
  (i_zam:PySem.W.isFn K (.ref f_zam)=true)
  (l_zam:K.lookup f_zam=some ⟨oc_zam,od_zam,.func (PySem.W.fnOf "go_on" "TimedPulse.go_on" (jn Vx) (jj Vx) (jc Vx) .none (.ref kd_zam) dc_zam pm_zam an_zam cd_zam ct_zam),sl_zam⟩)
  (c_zam:PySem.W.codeIn K cd_zam "TimedPulse.go_on" = true)
  (k_zam:PySem.W.keepIn K (.ref f_zam)=true)
  (kd_zam_delays:PySem.W.nsIn K kd_zam "delays" = some (some (.ref tu_zam_delays)))
  (tu_zam_delays_o:K.lookup tu_zam_delays=some ⟨.type "tuple",tq_zam_delays,.seq #[] tn_zam_delays,ts_zam_delays⟩)
  (a_zad:PySem.W.findIn K (.ref c_TimedPulse) "struck_at" = some (some (.ref f_zad)))
  (i_zad:PySem.W.isFn K (.ref f_zad)=true)
  (l_zad:K.lookup f_zad=some ⟨oc_zad,od_zad,.func (PySem.W.fnOf "struck_at" "TimedPulse.struck_at" (jn VF) (jj VF) (jc VF) .none kV_zad dc_zad pm_zad an_zad cd_zad ct_zad),sl_zad⟩)
  (c_zad:PySem.W.codeIn K cd_zad "TimedPulse.struck_at" = true)
  (k_zad:PySem.W.keepIn K (.ref f_zad)=true)
  (a_zaq:PySem.W.findIn K (.ref c_TimedPulse) "now" = some (some (.ref f_zaq)))
  (i_zaq:PySem.W.isFn K (.ref f_zaq)=true)
  (l_zaq:K.lookup f_zaq=some ⟨oc_zaq,od_zaq,.func (PySem.W.fnOf "now" "TimedPulse.now" (jn Vt) (jj Vt) (jc Vt) .none kV_zaq dc_zaq pm_zaq an_zaq cd_zaq ct_zaq),sl_zaq⟩)
  (c_zaq:PySem.W.codeIn K cd_zaq "TimedPulse.now" = true)
  (k_zaq:PySem.W.keepIn K (.ref f_zaq)=true)
  (a_zal:PySem.W.findIn K (.ref c_TimedPulse) "all_strikes" = some (some (.ref f_zal)))
  (i_zal:PySem.W.isFn K (.ref f_zal)=true)
  (l_zal:K.lookup f_zal=some ⟨oc_zal,od_zal,.func (PySem.W.fnOf "all_strikes" "Pulse.all_strikes" (jn Vy) (jj Vy) (jc Vy) .none kV_zal dc_zal pm_zal an_zal cd_zal ct_zal),sl_zal⟩)
  (c_zal:PySem.W.codeIn K cd_zal "Pulse.all_strikes" = true)
  (k_zal:PySem.W.keepIn K (.ref f_zal)=true)
  (a_zbf:PySem.W.nsIn K mainGlobals "_law_whole" = some (some (.ref f_zbf)))
  (l_zbf:K.lookup f_zbf=some ⟨oc_zbf,od_zbf,.func (PySem.W.fnOf "_law_whole" "_law_whole" (jn Vf) (jj Vf) (jc Vf) .none kV_zbf dc_zbf pm_zbf an_zbf cd_zbf ct_zbf),sl_zbf⟩)
  (c_zbf:PySem.W.codeIn K cd_zbf "_law_whole" = true)
  (k_zbf:PySem.W.keepIn K (.ref f_zbf)=true)
  (a_law:PySem.W.nsIn K mainGlobals "law" = some (some (.ref f_law)))
  (l_law:K.lookup f_law=some ⟨oc_law,od_law,.func (PySem.W.fnOf "law" "law" (jn xJ) (jj xJ) (jc xJ) .none kV_law dc_law pm_law an_law cd_law ct_law),sl_law⟩)
  (c_law:PySem.W.codeIn K cd_law "law" = true)
  (k_law:PySem.W.keepIn K (.ref f_law)=true)
  (n_LAST_ROUND:PySem.W.nsIn K mainGlobals "LAST_ROUND" = some (some (.int 99 t_LAST_ROUND)))
  (n_LAST_TIMED_BEAT:PySem.W.nsIn K mainGlobals "LAST_TIMED_BEAT" = some (some (.int 5000 t_LAST_TIMED_BEAT)))
  (n_MOST_DELAY:PySem.W.nsIn K mainGlobals "MOST_DELAY" = some (some (.int 50 t_MOST_DELAY)))
  (n_MOST_FEW:PySem.W.nsIn K mainGlobals "MOST_FEW" = some (some (.int 5 t_MOST_FEW)))
  (n_MOST_HOUSES:PySem.W.nsIn K mainGlobals "MOST_HOUSES" = some (some (.int 16 t_MOST_HOUSES)))
  (a_BadNumber:PySem.W.nsIn K mainGlobals "BadNumber" = some (some (.ref c_BadNumber)))
  (a_BadHouses:PySem.W.nsIn K mainGlobals "BadHouses" = some (some (.ref c_BadHouses)))
  (a_NoHouse:PySem.W.nsIn K mainGlobals "NoHouse" = some (some (.ref c_NoHouse)))
  (a_NoLetter:PySem.W.nsIn K mainGlobals "NoLetter" = some (some (.ref c_NoLetter)))
  (a_NotNow:PySem.W.nsIn K mainGlobals "NotNow" = some (some (.ref c_NotNow)))
  (a_LiarError:PySem.W.nsIn K mainGlobals "LiarError" = some (some (.ref c_LiarError)))
  (e_BadHouses:PySem.W.excIn K c_BadHouses jgW "ValueError.__new__" = true)
  (e_BadNumber:PySem.W.excIn K c_BadNumber jgW "ValueError.__new__" = true)
  (e_NoLetter:PySem.W.excIn K c_NoLetter jgW "ValueError.__new__" = true)
  (e_NotNow:PySem.W.excIn K c_NotNow jgW "ValueError.__new__" = true)
  (z_all:PySem.W.nsIn K mainGlobals "all" = some none)
  (z_bool:PySem.W.nsIn K mainGlobals "bool" = some none)
  (z_int:PySem.W.nsIn K mainGlobals "int" = some none)
  (z_isinstance:PySem.W.nsIn K mainGlobals "isinstance" = some none)
  (z_len:PySem.W.nsIn K mainGlobals "len" = some none)
  (z_list:PySem.W.nsIn K mainGlobals "list" = some none)
  (z_max:PySem.W.nsIn K mainGlobals "max" = some none)
  (z_min:PySem.W.nsIn K mainGlobals "min" = some none)
  (z_range:PySem.W.nsIn K mainGlobals "range" = some none)
  (z_tuple:PySem.W.nsIn K mainGlobals "tuple" = some none)
  (z_zip:PySem.W.nsIn K mainGlobals "zip" = some none) :
  ∃ fd:FuncData,(∀ (s:Shared) (v:Value),BindsTo s fd ⟨[v],[]⟩ [("_law_script",v)])∧∀ base:Heap,K.In base->base.Ns mainGlobals mg->FnOk l.prog w K mg base CX0 11 fa fd ["_law_script"] (UF K):=by
 have e:=hfa.symm.trans (PySem.W.mg_of X G a_law);cases e
 let C:Nat->Addr:=fun k=>([c_BadNumber,0,0,c_BadHouses,c_NoHouse,c_NoLetter,c_NotNow,0,0,c_LiarError,c_Letter,c_Post,c_Pulse,c_TimedPulse]:List Addr).getD k 0
 have N_all:=PySem.W.mg_none_of X G z_all;have N_bool:=PySem.W.mg_none_of X G z_bool;have N_int:=PySem.W.mg_none_of X G z_int;have N_isinstance:=PySem.W.mg_none_of X G z_isinstance;have N_len:=PySem.W.mg_none_of X G z_len;have N_list:=PySem.W.mg_none_of X G z_list;have N_max:=PySem.W.mg_none_of X G z_max;have N_min:=PySem.W.mg_none_of X G z_min;have N_range:=PySem.W.mg_none_of X G z_range;have N_tuple:=PySem.W.mg_none_of X G z_tuple;have N_zip:=PySem.W.mg_none_of X G z_zip;have C_LAST_ROUND:=PySem.W.mg_of X G n_LAST_ROUND;have C_LAST_TIMED_BEAT:=PySem.W.mg_of X G n_LAST_TIMED_BEAT;have C_MOST_DELAY:=PySem.W.mg_of X G n_MOST_DELAY;have C_MOST_FEW:=PySem.W.mg_of X G n_MOST_FEW;have C_MOST_HOUSES:=PySem.W.mg_of X G n_MOST_HOUSES;have A_BadNumber:mg "BadNumber" = some (.ref (C 0)):=PySem.W.mg_of X G a_BadNumber;have A_BadHouses:mg "BadHouses" = some (.ref (C 3)):=PySem.W.mg_of X G a_BadHouses
 have A_NoHouse:mg "NoHouse" = some (.ref (C 4)):=PySem.W.mg_of X G a_NoHouse;have A_NoLetter:mg "NoLetter" = some (.ref (C 5)):=PySem.W.mg_of X G a_NoLetter;have A_NotNow:mg "NotNow" = some (.ref (C 6)):=PySem.W.mg_of X G a_NotNow;have A_LiarError:mg "LiarError" = some (.ref (C 9)):=PySem.W.mg_of X G a_LiarError;have A_Letter:mg "Letter" = some (.ref (C 10)):=PySem.W.mg_of X G a_Letter
 have cl_Letter:Cls K (C 10):=⟨o_Letter_pg,o_Letter_hd,o_Letter_po,o_Letter_sa⟩
 have nf_Letter_due:jp K (C 10) "due":=o_Letter_n_due;have nf_Letter_house:jp K (C 10) "house":=o_Letter_n_house;have nf_Letter_sender:jp K (C 10) "sender":=o_Letter_n_sender;have nf_Letter_what:jp K (C 10) "what":=o_Letter_n_what;have A_Post:mg "Post" = some (.ref (C 11)):=PySem.W.mg_of X G a_Post
 have cl_Post:Cls K (C 11):=⟨o_Post_pg,o_Post_hd,o_Post_po,o_Post_sa⟩
 have A_Pulse:mg "Pulse" = some (.ref (C 12)):=PySem.W.mg_of X G a_Pulse
 have cl_Pulse:Cls K (C 12):=⟨o_Pulse_pg,o_Pulse_hd,o_Pulse_po,o_Pulse_sa⟩
 have A_TimedPulse:mg "TimedPulse" = some (.ref (C 13)):=PySem.W.mg_of X G a_TimedPulse
 have cl_TimedPulse:Cls K (C 13):=⟨o_TimedPulse_pg,o_TimedPulse_hd,o_TimedPulse_po,o_TimedPulse_sa⟩
 have nf_TimedPulse_beat:jp K (C 13) "beat":=o_TimedPulse_n_beat;have nf_TimedPulse_delay:jp K (C 13) "delay":=o_TimedPulse_n_delay;have nf_TimedPulse_few:jp K (C 13) "few":=o_TimedPulse_n_few;have nf_TimedPulse_got:jp K (C 13) "got":=o_TimedPulse_n_got;have nf_TimedPulse_houses:jp K (C 13) "houses":=o_TimedPulse_n_houses;have nf_TimedPulse_liars:jp K (C 13) "liars":=o_TimedPulse_n_liars;have nf_TimedPulse_on_way:jp K (C 13) "on_way":=o_TimedPulse_n_on_way;have nf_TimedPulse_struck:jp K (C 13) "struck":=o_TimedPulse_n_struck;have nf_TimedPulse_written:jp K (C 13) "written":=o_TimedPulse_n_written
 have X_BadHouses:Exc K mg "BadHouses" (C 3):=⟨A_BadHouses,e_BadHouses⟩
 have X_BadNumber:Exc K mg "BadNumber" (C 0):=⟨A_BadNumber,e_BadNumber⟩
 have X_NoLetter:Exc K mg "NoLetter" (C 5):=⟨A_NoLetter,e_NoLetter⟩
 have X_NotNow:Exc K mg "NotNow" (C 6):=⟨A_NotNow,e_NotNow⟩
 have F_zbg:=ju (st:=Ve) l_zbg c_zbg k_zbg;have F_zbh:=ju (st:=Vd) l_zbh c_zbh k_zbh;have F_zba:=ju (st:=Vk) l_zba c_zba k_zba;have F_zbi:=ju (st:=YG) l_zbi c_zbi k_zbi;have F_zbj:=ju (st:=Vc) l_zbj c_zbj k_zbj;have F_zbp:=ju (st:=XW) l_zbp c_zbp k_zbp;have F_zbk:=ju (st:=Vb) l_zbk c_zbk k_zbk;have F_zat:=ju (st:=Vq) l_zat c_zat k_zat;have F_zau:=ju (st:=Vp) l_zau c_zau k_zau;have F_zbl:=ju (st:=XZ) l_zbl c_zbl k_zbl;have F_zbq:=ju (st:=XV) l_zbq c_zbq k_zbq;have F_zbm:=ju (st:=YF) l_zbm c_zbm k_zbm;have F_zah:=ju (st:=YI) l_zah c_zah k_zah;have F_zar:=ju (st:=Vs) l_zar c_zar k_zar;have F_zao:=ju (st:=Vv) l_zao c_zao k_zao;have F_zae:=ju (st:=VE) l_zae c_zae k_zae;have F_zaw:=ju (st:=Vn) l_zaw c_zaw k_zaw;have F_zav:=ju (st:=Vo) l_zav c_zav k_zav;have F_zab:=ju (st:=VH) l_zab c_zab k_zab;have F_zbr:=ju (st:=XU) l_zbr c_zbr k_zbr
 have F_zap:=ju (st:=Vu) l_zap c_zap k_zap;have F_zax:=ju (st:=Vm) l_zax c_zax k_zax;have F_zay:=ju (st:=YH) l_zay c_zay k_zay;have F_zan:=ju (st:=Vw) l_zan c_zan k_zan;have F_zbb:=ju (st:=Vj) l_zbb c_zbb k_zbb;have F_zai:=ju (st:=VB) l_zai c_zai k_zai;have F_zaj:=ju (st:=VA) l_zaj c_zaj k_zaj;have F_zaz:=ju (st:=Vl) l_zaz c_zaz k_zaz;have F_zag:=ju (st:=VC) l_zag c_zag k_zag;have F_zbn:=ju (st:=XY) l_zbn c_zbn k_zbn;have F_zaa:=ju (st:=YJ) l_zaa c_zaa k_zaa;have F_zaf:=ju (st:=VD) l_zaf c_zaf k_zaf;have F_zac:=ju (st:=VG) l_zac c_zac k_zac;have F_zbo:=ju (st:=XX) l_zbo c_zbo k_zbo;have F_zas:=ju (st:=Vr) l_zas c_zas k_zas;have F_zak:=ju (st:=Vz) l_zak c_zak k_zak;have F_zbc:=ju (st:=Vi) l_zbc c_zbc k_zbc;have F_zbd:=ju (st:=Vh) l_zbd c_zbd k_zbd;have F_zbe:=ju (st:=Vg) l_zbe c_zbe k_zbe;have F_zam:=ju (st:=Vx) l_zam c_zam k_zam
 have F_zad:=ju (st:=VF) l_zad c_zad k_zad;have F_zaq:=ju (st:=Vt) l_zaq c_zaq k_zaq;have F_zal:=ju (st:=Vy) l_zal c_zal k_zal;have F_zbf:=ju (st:=Vf) l_zbf c_zbf k_zbf;have F_law:=ju (st:=xJ) l_law c_law k_law;refine ⟨PySem.W.fnOf "law" "law" (jn xJ) (jj xJ) (jc xJ) .none kV_law dc_law pm_law an_law cd_law ct_law,fun s v=>.of_eq rfl,fun base _ _=>?_⟩;have ok_zbg_:=ok_zbg (P:=l.prog) (w:=w) (mg:=mg) (base:=base) (C:=C) F_zbg N_list
 have Q_zbg:CalD l.prog w K mg base (tb K C) "_law_town" 1 ["_law_script"] [] 1 0 [.p 0] [] jbs:=⟨f_zbg,_,[],[],ok_zbg_,PySem.W.mg_of X G a_zbg,k_zbg,jH (dV:=[]) (ds:=[]) .nil (fun s us ws KX h1 h2=>by obtain ⟨u0,rfl⟩:=ln1 h1; obtain rfl:=ln0 h2; exact .of_eq rfl),fun W hW=>rfl⟩
 have ok_zbh_:=ok_zbh (P:=l.prog) (w:=w) (mg:=mg) (base:=base) (C:=C) F_zbh N_len
 have Q_zbh:CalD l.prog w K mg base (tb K C) "_law_draw" 1 ["_law_town_here","_law_many"] [] 2 0 [.p 0,.p 1] [] yN:=⟨f_zbh,_,[],[],ok_zbh_,PySem.W.mg_of X G a_zbh,k_zbh,jH (dV:=[]) (ds:=[]) .nil (fun s us ws KX h1 h2=>by obtain ⟨u0,u1,rfl⟩:=ln2 h1; obtain rfl:=ln0 h2; exact .of_eq rfl),fun W hW=>rfl⟩
 have ok_zba_:=ok_zba (P:=l.prog) (w:=w) (mg:=mg) (base:=base) (C:=C) F_zba Q_zbh N_len N_range
 have Q_zba:CalD l.prog w K mg base (tb K C) "_law_liars" 2 ["_law_town_here","_law_crew_here","_law_most"] [] 3 0 [.p 0,.p 1,.p 2] [] Ut:=⟨f_zba,_,[],[],ok_zba_,PySem.W.mg_of X G a_zba,k_zba,jH (dV:=[]) (ds:=[]) .nil (fun s us ws KX h1 h2=>by obtain ⟨u0,u1,u2,rfl⟩:=ln3 h1; obtain rfl:=ln0 h2; exact .of_eq rfl),fun W hW=>rfl⟩
 have ok_zbi_:=ok_zbi (P:=l.prog) (w:=w) (mg:=mg) (base:=base) (C:=C) F_zbi Q_zbh Q_zba N_range
 have Q_zbi:CalD l.prog w K mg base (tb K C) "_law_crew" 3 ["_law_town_here"] [] 1 0 [.p 0] [] jbr:=⟨f_zbi,_,[],[],ok_zbi_,PySem.W.mg_of X G a_zbi,k_zbi,jH (dV:=[]) (ds:=[]) .nil (fun s us ws KX h1 h2=>by obtain ⟨u0,rfl⟩:=ln1 h1; obtain rfl:=ln0 h2; exact .of_eq rfl),fun W hW=>rfl⟩
 have ok_zbj_:=ok_zbj (P:=l.prog) (w:=w) (mg:=mg) (base:=base) (C:=C) F_zbj Q_zbh N_len
 have Q_zbj:CalD l.prog w K mg base (tb K C) "_law_pick" 2 ["_law_town_here","_law_some"] [] 2 0 [.p 0,.p 1] [] vK:=⟨f_zbj,_,[],[],ok_zbj_,PySem.W.mg_of X G a_zbj,k_zbj,jH (dV:=[]) (ds:=[]) .nil (fun s us ws KX h1 h2=>by obtain ⟨u0,u1,rfl⟩:=ln2 h1; obtain rfl:=ln0 h2; exact .of_eq rfl),fun W hW=>rfl⟩
 have ok_zbp_:=ok_zbp (P:=l.prog) (w:=w) (mg:=mg) (base:=base) (C:=C) F_zbp N_bool N_int N_isinstance
 have Q_zbp:CalD l.prog w K mg base (tb K C) "is_whole" 1 ["thing"] [] 1 0 [.p 0] [] Ur:=⟨f_zbp,_,[],[],ok_zbp_,PySem.W.mg_of X G a_zbp,k_zbp,jH (dV:=[]) (ds:=[]) .nil (fun s us ws KX h1 h2=>by obtain ⟨u0,rfl⟩:=ln1 h1; obtain rfl:=ln0 h2; exact .of_eq rfl),fun W hW=>rfl⟩
 have ok_zbk_:=ok_zbk (P:=l.prog) (w:=w) (mg:=mg) (base:=base) (C:=C) F_zbk Q_zbp
 have Q_zbk:CalD l.prog w K mg base (tb K C) "is_within" 2 ["thing","least","most"] [] 3 0 [.p 0,.p 1,.p 2] [] xu:=⟨f_zbk,_,[],[],ok_zbk_,PySem.W.mg_of X G a_zbk,k_zbk,jH (dV:=[]) (ds:=[]) .nil (fun s us ws KX h1 h2=>by obtain ⟨u0,u1,u2,rfl⟩:=ln3 h1; obtain rfl:=ln0 h2; exact .of_eq rfl),fun W hW=>rfl⟩
 have ok_zat_:=ok_zat (P:=l.prog) (w:=w) (mg:=mg) (base:=base) (C:=C) F_zat X_BadNumber Q_zbk
 have Q_zat:CalD l.prog w K mg base (tb K C) "check_within" 3 ["thing","least","most"] [] 3 0 [.p 0,.p 1,.p 2] [] vL:=⟨f_zat,_,[],[],ok_zat_,PySem.W.mg_of X G a_zat,k_zat,jH (dV:=[]) (ds:=[]) .nil (fun s us ws KX h1 h2=>by obtain ⟨u0,u1,u2,rfl⟩:=ln3 h1; obtain rfl:=ln0 h2; exact .of_eq rfl),fun W hW=>rfl⟩
 have ok_zau_:=ok_zau (P:=l.prog) (w:=w) (mg:=mg) (base:=base) (C:=C) F_zau C_MOST_HOUSES Q_zat
 have Q_zau:CalD l.prog w K mg base (tb K C) "check_houses" 4 ["houses"] [] 1 0 [.p 0] [] jdm:=⟨f_zau,_,[],[],ok_zau_,PySem.W.mg_of X G a_zau,k_zau,jH (dV:=[]) (ds:=[]) .nil (fun s us ws KX h1 h2=>by obtain ⟨u0,rfl⟩:=ln1 h1; obtain rfl:=ln0 h2; exact .of_eq rfl),fun W hW=>rfl⟩
 have ok_zbl_:=ok_zbl (P:=l.prog) (w:=w) (mg:=mg) (base:=base) (C:=C) F_zbl C_MOST_FEW Q_zat
 have Q_zbl:CalD l.prog w K mg base (tb K C) "check_few" 4 ["few"] [] 1 0 [.p 0] [] XB:=⟨f_zbl,_,[],[],ok_zbl_,PySem.W.mg_of X G a_zbl,k_zbl,jH (dV:=[]) (ds:=[]) .nil (fun s us ws KX h1 h2=>by obtain ⟨u0,rfl⟩:=ln1 h1; obtain rfl:=ln0 h2; exact .of_eq rfl),fun W hW=>rfl⟩
 have ok_zbq_:=ok_zbq (P:=l.prog) (w:=w) (mg:=mg) (base:=base) (C:=C) F_zbq Q_zbk
 have Q_zbq:CalD l.prog w K mg base (tb K C) "is_house" 3 ["thing","houses"] [] 2 0 [.p 0,.p 1] [] Yj:=⟨f_zbq,_,[],[],ok_zbq_,PySem.W.mg_of X G a_zbq,k_zbq,jH (dV:=[]) (ds:=[]) .nil (fun s us ws KX h1 h2=>by obtain ⟨u0,u1,rfl⟩:=ln2 h1; obtain rfl:=ln0 h2; exact .of_eq rfl),fun W hW=>rfl⟩
 have ok_zbm_:=ok_zbm (P:=l.prog) (w:=w) (mg:=mg) (base:=base) (C:=C) F_zbm N_all N_zip
 have Q_zbm:CalD l.prog w K mg base (tb K C) "is_rising" 1 ["numbers"] [] 1 0 [.p 0] [] jbq:=⟨f_zbm,_,[],[],ok_zbm_,PySem.W.mg_of X G a_zbm,k_zbm,jH (dV:=[]) (ds:=[]) .nil (fun s us ws KX h1 h2=>by obtain ⟨u0,rfl⟩:=ln1 h1; obtain rfl:=ln0 h2; exact .of_eq rfl),fun W hW=>rfl⟩
 have ok_zah_:=ok_zah (P:=l.prog) (w:=w) (mg:=mg) (base:=base) (C:=C) F_zah X_BadHouses Q_zbq Q_zbm N_all N_isinstance N_len N_list N_tuple
 have Q_zah:CalD l.prog w K mg base (tb K C) "check_some_houses" 4 ["some","houses","most"] [] 3 0 [.p 0,.p 1,.p 2] [] Uy:=⟨f_zah,_,[],[],ok_zah_,PySem.W.mg_of X G a_zah,k_zah,jH (dV:=[]) (ds:=[]) .nil (fun s us ws KX h1 h2=>by obtain ⟨u0,u1,u2,rfl⟩:=ln3 h1; obtain rfl:=ln0 h2; exact .of_eq rfl),fun W hW=>rfl⟩
 have ok_zar_:=ok_zar (P:=l.prog) (w:=w) (mg:=mg) (base:=base) (C:=C) F_zar X_BadHouses nf_TimedPulse_few nf_TimedPulse_got nf_TimedPulse_houses nf_TimedPulse_liars nf_TimedPulse_on_way Q_zbl Q_zau Q_zah N_list cl_TimedPulse
 have Q_zar_2_few_liars:ClsD l.prog w K mg base (tb K C) 11 "Post" "__init__" 5 ["self","houses","few","liars"] ["few","liars"] 2 2 [.p 0,.p 1,.k 0,.k 1] [] jby:=⟨f_zar,_,[],[],ok_zar_,A_Post,q_zar_rd,q_zar_fc,q_zar_sp,k_zar,jH (dV:=[]) (ds:=[]) .nil (fun s us ws KX h1 h2=>by obtain ⟨u0,u1,rfl⟩:=ln2 h1; obtain ⟨w0,w1,rfl⟩:=ln2 h2; exact .of_eq rfl),fun W hW=>rfl⟩
 have ok_zao_:=ok_zao (P:=l.prog) (w:=w) (mg:=mg) (base:=base) (C:=C) F_zao Q_zar_2_few_liars nf_TimedPulse_struck nf_TimedPulse_written cl_TimedPulse
 have Q_zao_2_few_liars:ClsD l.prog w K mg base (tb K C) 12 "Pulse" "__init__" 7 ["self","houses","few","liars"] ["few","liars"] 2 2 [.p 0,.p 1,.k 0,.k 1] [] jbz:=⟨f_zao,_,[],[],ok_zao_,A_Pulse,q_zao_rd,q_zao_fc,q_zao_sp,k_zao,jH (dV:=[]) (ds:=[]) .nil (fun s us ws KX h1 h2=>by obtain ⟨u0,u1,rfl⟩:=ln2 h1; obtain ⟨w0,w1,rfl⟩:=ln2 h2; exact .of_eq rfl),fun W hW=>rfl⟩
 have ok_zae_:=ok_zae (P:=l.prog) (w:=w) (mg:=mg) (base:=base) (C:=C) F_zae Q_zao_2_few_liars C_MOST_DELAY nf_TimedPulse_beat nf_TimedPulse_delay Q_zat cl_TimedPulse
 have Q_zae_2_few_liars:NewD l.prog w K mg base (tb K C) 13 "TimedPulse" 9 ["self","houses","few","liars","delay"] ["few","liars"] 2 2 [.p 0,.p 1,.k 0,.k 1,.d 0] [.int 10] JF:=⟨f_zae,_,[.int 10],[.int 10 tt_zae_delay],ok_zae_,⟨o_TimedPulse_mk,a_zae,i_zae,o_TimedPulse_kp⟩,A_TimedPulse,jH (dV:=[.int 10]) (ds:=[.int 10 tt_zae_delay]) (.cons ⟨_,rfl⟩ .nil) (fun s us ws KX h1 h2=>by obtain ⟨u0,u1,rfl⟩:=ln2 h1; obtain ⟨w0,w1,rfl⟩:=ln2 h2; refine' jbp KX kd_zae_delay ?h1 ?h2 ?h3 ?h4; rotate_left 5; (case h1=>exact rfl); (case h2=>exact rfl); (case h3=>exact rfl); (case h4=>exact rfl)),fun W hW=>⟨_,_,rfl,rfl,rfl⟩⟩
 have Q_zae_2_few_liars_delay:NewD l.prog w K mg base (tb K C) 13 "TimedPulse" 9 ["self","houses","few","liars","delay"] ["few","liars","delay"] 2 3 [.p 0,.p 1,.k 0,.k 1,.k 2] [] JF:=⟨f_zae,_,[],[],ok_zae_,⟨o_TimedPulse_mk,a_zae,i_zae,o_TimedPulse_kp⟩,A_TimedPulse,jH (dV:=[]) (ds:=[]) .nil (fun s us ws KX h1 h2=>by obtain ⟨u0,u1,rfl⟩:=ln2 h1; obtain ⟨w0,w1,w2,rfl⟩:=ln3 h2; exact .of_eq rfl),fun W hW=>rfl⟩
 have ok_zaw_:=ok_zaw (P:=l.prog) (w:=w) (mg:=mg) (base:=base) (C:=C) F_zaw Q_zbq
 have Q_zaw:CalD l.prog w K mg base (tb K C) "check_house" 4 ["house","houses"] [] 2 0 [.p 0,.p 1] [] Yk:=⟨f_zaw,_,[],[],ok_zaw_,PySem.W.mg_of X G a_zaw,k_zaw,jH (dV:=[]) (ds:=[]) .nil (fun s us ws KX h1 h2=>by obtain ⟨u0,u1,rfl⟩:=ln2 h1; obtain rfl:=ln0 h2; exact .of_eq rfl),fun W hW=>rfl⟩
 have ok_zav_:=ok_zav (P:=l.prog) (w:=w) (mg:=mg) (base:=base) (C:=C) F_zav Q_zaw
 have Q_zav:CalD l.prog w K mg base (tb K C) "check_honest" 5 ["house","houses","liars"] [] 3 0 [.p 0,.p 1,.p 2] [] jbw:=⟨f_zav,_,[],[],ok_zav_,PySem.W.mg_of X G a_zav,k_zav,jH (dV:=[]) (ds:=[]) .nil (fun s us ws KX h1 h2=>by obtain ⟨u0,u1,u2,rfl⟩:=ln3 h1; obtain rfl:=ln0 h2; exact .of_eq rfl),fun W hW=>rfl⟩
 have ok_zab_:=ok_zab (P:=l.prog) (w:=w) (mg:=mg) (base:=base) (C:=C) F_zab nf_TimedPulse_houses nf_TimedPulse_liars Q_zav cl_TimedPulse
 have Q_zab:MetD l.prog w K mg base (tb K C) 13 "check_is_honest" 6 ["self","house"] [] 2 0 [.p 0,.p 1] [] uB:=⟨f_zab,_,[],[],ok_zab_,⟨a_zab,i_zab,k_zab⟩,cl_TimedPulse,jH (dV:=[]) (ds:=[]) .nil (fun s us ws KX h1 h2=>by obtain ⟨u0,u1,rfl⟩:=ln2 h1; obtain rfl:=ln0 h2; exact .of_eq rfl),fun W hW=>rfl⟩
 have ok_zbr_:=ok_zbr (P:=l.prog) (w:=w) (mg:=mg) (base:=base) (C:=C) F_zbr C_LAST_ROUND Q_zbk
 have Q_zbr:CalD l.prog w K mg base (tb K C) "is_round" 3 ["thing"] [] 1 0 [.p 0] [] Uq:=⟨f_zbr,_,[],[],ok_zbr_,PySem.W.mg_of X G a_zbr,k_zbr,jH (dV:=[]) (ds:=[]) .nil (fun s us ws KX h1 h2=>by obtain ⟨u0,rfl⟩:=ln1 h1; obtain rfl:=ln0 h2; exact .of_eq rfl),fun W hW=>rfl⟩
 have ok_zap_:=ok_zap (P:=l.prog) (w:=w) (mg:=mg) (base:=base) (C:=C) F_zap nf_TimedPulse_written Q_zbr Q_zab cl_TimedPulse
 have Q_zap:MetD l.prog w K mg base (tb K C) 13 "has_said" 7 ["self","house","count"] [] 3 0 [.p 0,.p 1,.p 2] [] xA:=⟨f_zap,_,[],[],ok_zap_,⟨a_zap,i_zap,k_zap⟩,cl_TimedPulse,jH (dV:=[]) (ds:=[]) .nil (fun s us ws KX h1 h2=>by obtain ⟨u0,u1,u2,rfl⟩:=ln3 h1; obtain rfl:=ln0 h2; exact .of_eq rfl),fun W hW=>rfl⟩
 have ok_zax_:=ok_zax (P:=l.prog) (w:=w) (mg:=mg) (base:=base) (C:=C) F_zax C_LAST_ROUND Q_zat
 have Q_zax:CalD l.prog w K mg base (tb K C) "check_round" 4 ["count"] [] 1 0 [.p 0] [] JE:=⟨f_zax,_,[],[],ok_zax_,PySem.W.mg_of X G a_zax,k_zax,jH (dV:=[]) (ds:=[]) .nil (fun s us ws KX h1 h2=>by obtain ⟨u0,rfl⟩:=ln1 h1; obtain rfl:=ln0 h2; exact .of_eq rfl),fun W hW=>rfl⟩
 have ok_zay_:=ok_zay (P:=l.prog) (w:=w) (mg:=mg) (base:=base) (C:=C) F_zay nf_TimedPulse_houses nf_TimedPulse_liars N_range cl_TimedPulse
 have Q_zay:MetD l.prog w K mg base (tb K C) 13 "honest" 1 ["self"] [] 1 0 [.p 0] [] Uv:=⟨f_zay,_,[],[],ok_zay_,⟨a_zay,i_zay,k_zay⟩,cl_TimedPulse,jH (dV:=[]) (ds:=[]) .nil (fun s us ws KX h1 h2=>by obtain ⟨u0,rfl⟩:=ln1 h1; obtain rfl:=ln0 h2; exact .of_eq rfl),fun W hW=>rfl⟩
 have ok_zan_:=ok_zan (P:=l.prog) (w:=w) (mg:=mg) (base:=base) (C:=C) F_zan nf_Letter_due nf_Letter_house nf_Letter_sender nf_Letter_what cl_Letter
 have Q_zan:NewD l.prog w K mg base (tb K C) 10 "Letter" 1 ["self","sender","house","what"] [] 4 0 [.p 0,.p 1,.p 2,.p 3] [] XE:=⟨f_zan,_,[],[],ok_zan_,⟨o_Letter_mk,a_zan,i_zan,o_Letter_kp⟩,A_Letter,jH (dV:=[]) (ds:=[]) .nil (fun s us ws KX h1 h2=>by obtain ⟨u0,u1,u2,u3,rfl⟩:=ln4 h1; obtain rfl:=ln0 h2; exact .of_eq rfl),fun W hW=>rfl⟩
 have ok_zbb_:=ok_zbb (P:=l.prog) (w:=w) (mg:=mg) (base:=base) (C:=C) F_zbb nf_TimedPulse_on_way Q_zan cl_TimedPulse
 have Q_zbb:MetD l.prog w K mg base (tb K C) 13 "write" 3 ["self","sender","house","what"] [] 4 0 [.p 0,.p 1,.p 2,.p 3] [] XD:=⟨f_zbb,_,[],[],ok_zbb_,⟨a_zbb,i_zbb,k_zbb⟩,cl_TimedPulse,jH (dV:=[]) (ds:=[]) .nil (fun s us ws KX h1 h2=>by obtain ⟨u0,u1,u2,u3,rfl⟩:=ln4 h1; obtain rfl:=ln0 h2; exact .of_eq rfl),fun W hW=>rfl⟩
 have ok_zai_:=ok_zai (P:=l.prog) (w:=w) (mg:=mg) (base:=base) (C:=C) F_zai Q_zay Q_zbb
 have Q_zai:MetD l.prog w K mg base (tb K C) 13 "write_to_all" 4 ["self","sender","what"] [] 3 0 [.p 0,.p 1,.p 2] [] jbA:=⟨f_zai,_,[],[],ok_zai_,⟨a_zai,i_zai,k_zai⟩,cl_TimedPulse,jH (dV:=[]) (ds:=[]) .nil (fun s us ws KX h1 h2=>by obtain ⟨u0,u1,u2,rfl⟩:=ln3 h1; obtain rfl:=ln0 h2; exact .of_eq rfl),fun W hW=>rfl⟩
 have ok_zaj_:=ok_zaj (P:=l.prog) (w:=w) (mg:=mg) (base:=base) (C:=C) F_zaj nf_TimedPulse_written Q_zai cl_TimedPulse
 have Q_zaj:MetD l.prog w K mg base (tb K C) 13 "write_round" 5 ["self","house","count"] [] 3 0 [.p 0,.p 1,.p 2] [] Yl:=⟨f_zaj,_,[],[],ok_zaj_,⟨a_zaj,i_zaj,k_zaj⟩,cl_TimedPulse,jH (dV:=[]) (ds:=[]) .nil (fun s us ws KX h1 h2=>by obtain ⟨u0,u1,u2,rfl⟩:=ln3 h1; obtain rfl:=ln0 h2; exact .of_eq rfl),fun W hW=>rfl⟩
 have ok_zaz_:=ok_zaz (P:=l.prog) (w:=w) (mg:=mg) (base:=base) (C:=C) F_zaz X_NotNow Q_zax Q_zab Q_zap Q_zaj
 have Q_zaz:MetD l.prog w K mg base (tb K C) 13 "ready" 8 ["self","house","count"] [] 3 0 [.p 0,.p 1,.p 2] [] Uu:=⟨f_zaz,_,[],[],ok_zaz_,⟨a_zaz,i_zaz,k_zaz⟩,cl_TimedPulse,jH (dV:=[]) (ds:=[]) .nil (fun s us ws KX h1 h2=>by obtain ⟨u0,u1,u2,rfl⟩:=ln3 h1; obtain rfl:=ln0 h2; exact .of_eq rfl),fun W hW=>rfl⟩
 have ok_zag_:=ok_zag (P:=l.prog) (w:=w) (mg:=mg) (base:=base) (C:=C) F_zag nf_TimedPulse_houses nf_TimedPulse_liars Q_zaw cl_TimedPulse
 have Q_zag:MetD l.prog w K mg base (tb K C) 13 "check_is_liar" 5 ["self","liar"] [] 2 0 [.p 0,.p 1] [] jbB:=⟨f_zag,_,[],[],ok_zag_,⟨a_zag,i_zag,k_zag⟩,cl_TimedPulse,jH (dV:=[]) (ds:=[]) .nil (fun s us ws KX h1 h2=>by obtain ⟨u0,u1,rfl⟩:=ln2 h1; obtain rfl:=ln0 h2; exact .of_eq rfl),fun W hW=>rfl⟩
 have ok_zbn_:=ok_zbn (P:=l.prog) (w:=w) (mg:=mg) (base:=base) (C:=C) F_zbn Q_zax Q_zab Q_zag Q_zbb
 have Q_zbn:MetD l.prog w K mg base (tb K C) 13 "lie" 7 ["self","liar","house","count"] [] 4 0 [.p 0,.p 1,.p 2,.p 3] [] XA:=⟨f_zbn,_,[],[],ok_zbn_,⟨a_zbn,i_zbn,k_zbn⟩,cl_TimedPulse,jH (dV:=[]) (ds:=[]) .nil (fun s us ws KX h1 h2=>by obtain ⟨u0,u1,u2,u3,rfl⟩:=ln4 h1; obtain rfl:=ln0 h2; exact .of_eq rfl),fun W hW=>rfl⟩
 have ok_zaa_:=ok_zaa (P:=l.prog) (w:=w) (mg:=mg) (base:=base) (C:=C) F_zaa X_BadNumber nf_TimedPulse_delay Q_zbk N_all N_isinstance N_list N_tuple cl_TimedPulse
 have Q_zaa:MetD l.prog w K mg base (tb K C) 13 "check_delays" 3 ["self","delays"] [] 2 0 [.p 0,.p 1] [] UA:=⟨f_zaa,_,[],[],ok_zaa_,⟨a_zaa,i_zaa,k_zaa⟩,cl_TimedPulse,jH (dV:=[]) (ds:=[]) .nil (fun s us ws KX h1 h2=>by obtain ⟨u0,u1,rfl⟩:=ln2 h1; obtain rfl:=ln0 h2; exact .of_eq rfl),fun W hW=>rfl⟩
 have ok_zaf_:=ok_zaf (P:=l.prog) (w:=w) (mg:=mg) (base:=base) (C:=C) F_zaf nf_Letter_sender nf_TimedPulse_delay nf_TimedPulse_liars N_len cl_Letter cl_TimedPulse
 have Q_zaf:MetD l.prog w K mg base (tb K C) 13 "delay_of" 1 ["self","letter","place","delays"] [] 4 0 [.p 0,.p 1,.p 2,.p 3] [] Uz:=⟨f_zaf,_,[],[],ok_zaf_,⟨a_zaf,i_zaf,k_zaf⟩,cl_TimedPulse,jH (dV:=[]) (ds:=[]) .nil (fun s us ws KX h1 h2=>by obtain ⟨u0,u1,u2,u3,rfl⟩:=ln4 h1; obtain rfl:=ln0 h2; exact .of_eq rfl),fun W hW=>rfl⟩
 have ok_zac_:=ok_zac (P:=l.prog) (w:=w) (mg:=mg) (base:=base) (C:=C) F_zac nf_Letter_due nf_TimedPulse_beat nf_TimedPulse_on_way Q_zaf N_len N_range cl_Letter cl_TimedPulse
 have Q_zac:MetD l.prog w K mg base (tb K C) 13 "give_dues" 2 ["self","first","delays"] [] 3 0 [.p 0,.p 1,.p 2] [] XF:=⟨f_zac,_,[],[],ok_zac_,⟨a_zac,i_zac,k_zac⟩,cl_TimedPulse,jH (dV:=[]) (ds:=[]) .nil (fun s us ws KX h1 h2=>by obtain ⟨u0,u1,u2,rfl⟩:=ln3 h1; obtain rfl:=ln0 h2; exact .of_eq rfl),fun W hW=>rfl⟩
 have ok_zbo_:=ok_zbo (P:=l.prog) (w:=w) (mg:=mg) (base:=base) (C:=C) F_zbo X_NoLetter nf_Letter_house nf_Letter_sender nf_Letter_what nf_TimedPulse_got nf_TimedPulse_on_way Q_zbk N_len cl_Letter cl_TimedPulse
 have Q_zbo:MetD l.prog w K mg base (tb K C) 13 "take" 3 ["self","at"] [] 2 0 [.p 0,.p 1] [] Us:=⟨f_zbo,_,[],[],ok_zbo_,⟨a_zbo,i_zbo,k_zbo⟩,cl_TimedPulse,jH (dV:=[]) (ds:=[]) .nil (fun s us ws KX h1 h2=>by obtain ⟨u0,u1,rfl⟩:=ln2 h1; obtain rfl:=ln0 h2; exact .of_eq rfl),fun W hW=>rfl⟩
 have ok_zas_:=ok_zas (P:=l.prog) (w:=w) (mg:=mg) (base:=base) (C:=C) F_zas nf_TimedPulse_got N_len cl_TimedPulse
 have Q_zas:MetD l.prog w K mg base (tb K C) 13 "many_got" 1 ["self","house","what"] [] 3 0 [.p 0,.p 1,.p 2] [] jbx:=⟨f_zas,_,[],[],ok_zas_,⟨a_zas,i_zas,k_zas⟩,cl_TimedPulse,jH (dV:=[]) (ds:=[]) .nil (fun s us ws KX h1 h2=>by obtain ⟨u0,u1,u2,rfl⟩:=ln3 h1; obtain rfl:=ln0 h2; exact .of_eq rfl),fun W hW=>rfl⟩
 have ok_zak_:=ok_zak (P:=l.prog) (w:=w) (mg:=mg) (base:=base) (C:=C) F_zak nf_TimedPulse_beat nf_TimedPulse_struck cl_TimedPulse
 have Q_zak:MetD l.prog w K mg base (tb K C) 13 "strike" 1 ["self","house","count"] [] 3 0 [.p 0,.p 1,.p 2] [] Ux:=⟨f_zak,_,[],[],ok_zak_,⟨a_zak,i_zak,k_zak⟩,cl_TimedPulse,jH (dV:=[]) (ds:=[]) .nil (fun s us ws KX h1 h2=>by obtain ⟨u0,u1,u2,rfl⟩:=ln3 h1; obtain rfl:=ln0 h2; exact .of_eq rfl),fun W hW=>rfl⟩
 have ok_zbc_:=ok_zbc (P:=l.prog) (w:=w) (mg:=mg) (base:=base) (C:=C) F_zbc nf_TimedPulse_few nf_TimedPulse_struck Q_zas Q_zap Q_zaj Q_zak cl_TimedPulse
 have Q_zbc:MetD l.prog w K mg base (tb K C) 13 "look" 8 ["self","house","count"] [] 3 0 [.p 0,.p 1,.p 2] [] jbv:=⟨f_zbc,_,[],[],ok_zbc_,⟨a_zbc,i_zbc,k_zbc⟩,cl_TimedPulse,jH (dV:=[]) (ds:=[]) .nil (fun s us ws KX h1 h2=>by obtain ⟨u0,u1,u2,rfl⟩:=ln3 h1; obtain rfl:=ln0 h2; exact .of_eq rfl),fun W hW=>rfl⟩
 have ok_zbd_:=ok_zbd (P:=l.prog) (w:=w) (mg:=mg) (base:=base) (C:=C) F_zbd nf_Letter_house nf_Letter_sender nf_Letter_what cl_Letter
 have Q_zbd:MetD l.prog w K mg base (tb K C) 10 "row" 1 ["self"] [] 1 0 [.p 0] [] jbu:=⟨f_zbd,_,[],[],ok_zbd_,⟨a_zbd,i_zbd,k_zbd⟩,cl_Letter,jH (dV:=[]) (ds:=[]) .nil (fun s us ws KX h1 h2=>by obtain ⟨u0,rfl⟩:=ln1 h1; obtain rfl:=ln0 h2; exact .of_eq rfl),fun W hW=>rfl⟩
 have ok_zbe_:=ok_zbe (P:=l.prog) (w:=w) (mg:=mg) (base:=base) (C:=C) F_zbe nf_Letter_house nf_Letter_what Q_zbd Q_zbo Q_zbc cl_Letter
 have Q_zbe:MetD l.prog w K mg base (tb K C) 13 "come" 9 ["self","at"] [] 2 0 [.p 0,.p 1] [] jbt:=⟨f_zbe,_,[],[],ok_zbe_,⟨a_zbe,i_zbe,k_zbe⟩,cl_TimedPulse,jH (dV:=[]) (ds:=[]) .nil (fun s us ws KX h1 h2=>by obtain ⟨u0,u1,rfl⟩:=ln2 h1; obtain rfl:=ln0 h2; exact .of_eq rfl),fun W hW=>rfl⟩
 have ok_zam_:=ok_zam (P:=l.prog) (w:=w) (mg:=mg) (base:=base) (C:=C) F_zam C_LAST_TIMED_BEAT X_NotNow nf_Letter_due nf_TimedPulse_beat nf_TimedPulse_on_way Q_zbe Q_zaa Q_zac N_len cl_Letter cl_TimedPulse
 have Q_zam_1_delays:MetD l.prog w K mg base (tb K C) 13 "go_on" 10 ["self","delays"] ["delays"] 1 1 [.p 0,.k 0] [] uA:=⟨f_zam,_,[],[],ok_zam_,⟨a_zam,i_zam,k_zam⟩,cl_TimedPulse,jH (dV:=[]) (ds:=[]) .nil (fun s us ws KX h1 h2=>by obtain ⟨u0,rfl⟩:=ln1 h1; obtain ⟨w0,rfl⟩:=ln1 h2; exact .of_eq rfl),fun W hW=>rfl⟩
 have Q_zam_1:MetD l.prog w K mg base (tb K C) 13 "go_on" 10 ["self","delays"] [] 1 0 [.p 0,.d 0] [.tup []] uA:=⟨f_zam,_,[.ref tu_zam_delays],[.ref tu_zam_delays],ok_zam_,⟨a_zam,i_zam,k_zam⟩,cl_TimedPulse,jH (dV:=[.ref tu_zam_delays]) (ds:=[.ref tu_zam_delays]) (.cons rfl .nil) (fun s us ws KX h1 h2=>by obtain ⟨u0,rfl⟩:=ln1 h1; obtain rfl:=ln0 h2; refine' jbp KX kd_zam_delays ?h1 ?h2 ?h3 ?h4; rotate_left 5; (case h1=>exact rfl); (case h2=>exact rfl); (case h3=>exact rfl); (case h4=>exact rfl)),fun W hW=>⟨_,_,rfl,⟨tu_zam_delays,[],rfl,.inr ⟨_,_,_,by rw [hW]; exact tu_zam_delays_o,rfl,rfl,by decide,.nil⟩,rfl⟩,rfl⟩⟩
 have ok_zad_:=ok_zad (P:=l.prog) (w:=w) (mg:=mg) (base:=base) (C:=C) F_zad nf_TimedPulse_struck Q_zax Q_zab cl_TimedPulse
 have Q_zad:MetD l.prog w K mg base (tb K C) 13 "struck_at" 7 ["self","house","count"] [] 3 0 [.p 0,.p 1,.p 2] [] Ym:=⟨f_zad,_,[],[],ok_zad_,⟨a_zad,i_zad,k_zad⟩,cl_TimedPulse,jH (dV:=[]) (ds:=[]) .nil (fun s us ws KX h1 h2=>by obtain ⟨u0,u1,u2,rfl⟩:=ln3 h1; obtain rfl:=ln0 h2; exact .of_eq rfl),fun W hW=>rfl⟩
 have ok_zaq_:=ok_zaq (P:=l.prog) (w:=w) (mg:=mg) (base:=base) (C:=C) F_zaq nf_TimedPulse_beat cl_TimedPulse
 have Q_zaq:MetD l.prog w K mg base (tb K C) 13 "now" 1 ["self"] [] 1 0 [.p 0] [] uz:=⟨f_zaq,_,[],[],ok_zaq_,⟨a_zaq,i_zaq,k_zaq⟩,cl_TimedPulse,jH (dV:=[]) (ds:=[]) .nil (fun s us ws KX h1 h2=>by obtain ⟨u0,rfl⟩:=ln1 h1; obtain rfl:=ln0 h2; exact .of_eq rfl),fun W hW=>rfl⟩
 have ok_zal_:=ok_zal (P:=l.prog) (w:=w) (mg:=mg) (base:=base) (C:=C) F_zal nf_TimedPulse_struck N_list cl_TimedPulse
 have Q_zal:MetD l.prog w K mg base (tb K C) 13 "all_strikes" 1 ["self"] [] 1 0 [.p 0] [] Uw:=⟨f_zal,_,[],[],ok_zal_,⟨a_zal,i_zal,k_zal⟩,cl_TimedPulse,jH (dV:=[]) (ds:=[]) .nil (fun s us ws KX h1 h2=>by obtain ⟨u0,rfl⟩:=ln1 h1; obtain rfl:=ln0 h2; exact .of_eq rfl),fun W hW=>rfl⟩
 have ok_zbf_:=ok_zbf (P:=l.prog) (w:=w) (mg:=mg) (base:=base) (C:=C) F_zbf N_bool N_int N_isinstance
 have Q_zbf:CalD l.prog w K mg base (tb K C) "_law_whole" 1 ["_law_thing"] [] 1 0 [.p 0] [] XC:=⟨f_zbf,_,[],[],ok_zbf_,PySem.W.mg_of X G a_zbf,k_zbf,jH (dV:=[]) (ds:=[]) .nil (fun s us ws KX h1 h2=>by obtain ⟨u0,rfl⟩:=ln1 h1; obtain rfl:=ln0 h2; exact .of_eq rfl),fun W hW=>rfl⟩
 exact law_sp (C:=C) (ok_law F_law Q_zbi Q_zbh Q_zbj Q_zbg Q_zbf Q_zal Q_zap Q_zbn Q_zaz Q_zam_1 Q_zam_1_delays Q_zaq Q_zad Q_zae_2_few_liars Q_zae_2_few_liars_delay N_len N_max N_min N_range)
theorem walk {l:PySem.W.OpenLaw} {q:Program} {loose:List Str} {XP:(Str->Option Value)->Heap->Prop} {YP:World->Heap->Prop} {d:DefRec} {K:Params->PySem.W.Frag} (hn:l.most=some 63) (hdf:d.params.defaults=[])
  (hY:∀ (w:World) (h:Heap),YP w h->(K w.params).In h)
  (F:∀ (w:World) (mg:Str->Option Value) (fa:Addr) (h:Heap),(K w.params).In h->h.Ns mainGlobals mg->mg d.name=some (.ref fa) ->
   ∃ fd:FuncData,(∀ (s:Shared) (u:Value),BindsTo s fd ⟨[u],[]⟩ [("_law_script",u)])∧∀ base:Heap,(K w.params).In base->base.Ns mainGlobals mg->FnOk l.prog w (K w.params) mg base CX0 11 fa fd ["_law_script"] (UF (K w.params))) :
  PySem.W.WalkO q loose XP YP l.row.toRowW d [] (fun f vs=>PySem.call f vs) :=
 L2.walk_of (n:=63) (k:=11) (x:="_law_script") (CX:=fun _=>CX0) (sp:=fun w=>UF (K w.params)) hn (by decide) hdf ⟨rfl,by decide,by decide⟩ hY F (fun _ _ a ns hl _ hS=>⟨a,ns,rfl,hS,hl,fun _=>rfl⟩) fun _ _ _ _ _ z=>z
theorem walk_x {q:Program} {loose:List Str} {XP:(Str->Option Value)->Heap->Prop} {K:Params->PySem.W.Frag} {as:List Addr} {n t:Nat} {r:PySem.W.RowW} {d:DefRec} {kwd:List (Str × Expr)} {run:Value->List Value->Sem Value} (e:∀ P:Params,as=(K P).map fun p=>p.1)
  (h:PySem.W.WalkO q loose XP (fun w h=>(K w.params).In h) r d kwd run):PySem.W.WalkX q loose XP (PySem.W.X.obsZ as) (PySem.W.X.valZ K n t) r d kwd run :=
 fun w s₀ s₁ mg mb G y a o pm cd doc dV kV ho hd hc hD hm hg args vals as' L hpre hlay hrd hwl hlo=>h w s₀ s₁ mg mb G (fun a o q=>L.keeps a o ((PySem.W.X.z_facts e y).2.1 a o q)) a o pm cd doc dV kV ho hd hc hD hm hg args vals as' hpre hlay hrd hwl hlo
end My
open PySem PySem.W PyProof.Rows
set_option maxRecDepth 100000 in
set_option maxHeartbeats 0 in
theorem PySem.Challenge.cw_liarclocks_k41_whole_in_time_holds : PySem.Challenge.rw_liarclocks_k41_whole_in_time.Holds := by
 w_on; o_law; refine PySem.W.holds_openX (q := MH.wr.view_884) (loose := [PySem.Str.ofString "Pulse", PySem.Str.ofString "TimedPulse"]) (Xt := fun s => PySem.W.xlAt MH.wr.view_884 [] s && PySem.W.recOk (PySem.W.RowW.records (PySem.W.OpenRow.toRowW (PySem.W.OpenLaw.row PySem.Challenge.rw_liarclocks_k41_whole_in_time))) s) (XP := PySem.W.XL MH.wr.view_884 []) (Yf := PySem.W.X.obsZ MH.as0) (Ya := PySem.W.X.valZ MH.wr.heap_429 473 806) MH.le_ok (fun s e => PySem.W.xl_of s (Bool.and_eq_true_iff.mp e).1) PySem.W.XL.keeps (by rfl) (by rfl) (by rfl) (fun s e => PySem.W.recFacts_of (Bool.and_eq_true_iff.mp e).2) (by rfl) (by first | assumption | decide +kernel) (by decide +kernel) ⟨rfl, rfl, rfl, rfl, rfl, by decide +kernel⟩ ?hw ?hc; (case hw => w_witness2)
 k_fill
 refine My.walk_x MH.as_eq (My.walk (l := PySem.Challenge.rw_liarclocks_k41_whole_in_time) rfl rfl (fun w h Y => Y) ?F)
 case F =>
  intro w mg fa h KX G hmg
  refine' My.all_mk KX G hmg ?a_Letter ?o_Letter_pg ?o_Letter_hd ?o_Letter_po ?o_Letter_sa ?o_Letter_mk ?o_Letter_kp ?o_Letter_n_due ?o_Letter_n_house ?o_Letter_n_sender ?o_Letter_n_what ?a_Post ?o_Post_pg ?o_Post_hd ?o_Post_po ?o_Post_sa ?o_Post_mk ?o_Post_kp ?a_Pulse ?o_Pulse_pg ?o_Pulse_hd ?o_Pulse_po ?o_Pulse_sa ?o_Pulse_mk ?o_Pulse_kp ?a_TimedPulse ?o_TimedPulse_pg ?o_TimedPulse_hd ?o_TimedPulse_po ?o_TimedPulse_sa ?o_TimedPulse_mk ?o_TimedPulse_kp ?o_TimedPulse_n_beat ?o_TimedPulse_n_delay ?o_TimedPulse_n_few ?o_TimedPulse_n_got ?o_TimedPulse_n_houses ?o_TimedPulse_n_liars ?o_TimedPulse_n_on_way ?o_TimedPulse_n_struck ?o_TimedPulse_n_written ?a_zbg ?l_zbg ?c_zbg ?k_zbg ?a_zbh ?l_zbh ?c_zbh ?k_zbh ?a_zba ?l_zba ?c_zba ?k_zba ?a_zbi ?l_zbi ?c_zbi ?k_zbi ?a_zbj ?l_zbj ?c_zbj ?k_zbj ?a_zbp ?l_zbp ?c_zbp ?k_zbp ?a_zbk ?l_zbk ?c_zbk ?k_zbk ?a_zat ?l_zat ?c_zat ?k_zat ?a_zau ?l_zau ?c_zau ?k_zau ?a_zbl ?l_zbl ?c_zbl ?k_zbl ?a_zbq ?l_zbq ?c_zbq ?k_zbq ?a_zbm ?l_zbm ?c_zbm ?k_zbm ?a_zah ?l_zah ?c_zah ?k_zah ?a_zar ?i_zar ?l_zar ?c_zar ?k_zar ?q_zar_rd ?q_zar_fc ?q_zar_sp ?a_zao ?i_zao ?l_zao ?c_zao ?k_zao ?kd_zao_liars ?tu_zao_liars_o ?q_zao_rd ?q_zao_fc ?q_zao_sp ?a_zae ?i_zae ?l_zae ?c_zae ?k_zae ?kd_zae_liars ?tu_zae_liars_o ?kd_zae_delay ?a_zaw ?l_zaw ?c_zaw ?k_zaw ?a_zav ?l_zav ?c_zav ?k_zav ?a_zab ?i_zab ?l_zab ?c_zab ?k_zab ?a_zbr ?l_zbr ?c_zbr ?k_zbr ?a_zap ?i_zap ?l_zap ?c_zap ?k_zap ?a_zax ?l_zax ?c_zax ?k_zax ?a_zay ?i_zay ?l_zay ?c_zay ?k_zay ?a_zan ?i_zan ?l_zan ?c_zan ?k_zan ?a_zbb ?i_zbb ?l_zbb ?c_zbb ?k_zbb ?a_zai ?i_zai ?l_zai ?c_zai ?k_zai ?a_zaj ?i_zaj ?l_zaj ?c_zaj ?k_zaj ?a_zaz ?i_zaz ?l_zaz ?c_zaz ?k_zaz ?a_zag ?i_zag ?l_zag ?c_zag ?k_zag ?a_zbn ?i_zbn ?l_zbn ?c_zbn ?k_zbn ?a_zaa ?i_zaa ?l_zaa ?c_zaa ?k_zaa ?a_zaf ?i_zaf ?l_zaf ?c_zaf ?k_zaf ?a_zac ?i_zac ?l_zac ?c_zac ?k_zac ?a_zbo ?i_zbo ?l_zbo ?c_zbo ?k_zbo ?a_zas ?i_zas ?l_zas ?c_zas ?k_zas ?a_zak ?i_zak ?l_zak ?c_zak ?k_zak ?a_zbc ?i_zbc ?l_zbc ?c_zbc ?k_zbc ?a_zbd ?i_zbd ?l_zbd ?c_zbd ?k_zbd ?a_zbe ?i_zbe ?l_zbe ?c_zbe ?k_zbe ?a_zam ?i_zam ?l_zam ?c_zam ?k_zam ?kd_zam_delays ?tu_zam_delays_o ?a_zad ?i_zad ?l_zad ?c_zad ?k_zad ?a_zaq ?i_zaq ?l_zaq ?c_zaq ?k_zaq ?a_zal ?i_zal ?l_zal ?c_zal ?k_zal ?a_zbf ?l_zbf ?c_zbf ?k_zbf ?a_law ?l_law ?c_law ?k_law ?n_LAST_ROUND ?n_LAST_TIMED_BEAT ?n_MOST_DELAY ?n_MOST_FEW ?n_MOST_HOUSES ?a_BadNumber ?a_BadHouses ?a_NoHouse ?a_NoLetter ?a_NotNow ?a_LiarError ?e_BadHouses ?e_BadNumber ?e_NoLetter ?e_NotNow ?z_all ?z_bool ?z_int ?z_isinstance ?z_len ?z_list ?z_max ?z_min ?z_range ?z_tuple ?z_zip
  (case a_Letter => k_is)
  (case o_Letter_pg => k_is)
  (case o_Letter_hd => k_is)
  (case o_Letter_po => k_is)
  (case o_Letter_sa => k_is)
  (case o_Letter_mk => k_is)
  (case o_Letter_kp => k_is)
  (case o_Letter_n_due => k_is)
  (case o_Letter_n_house => k_is)
  (case o_Letter_n_sender => k_is)
  (case o_Letter_n_what => k_is)
  (case a_Post => k_is)
  (case o_Post_pg => k_is)
  (case o_Post_hd => k_is)
  (case o_Post_po => k_is)
  (case o_Post_sa => k_is)
  (case o_Post_mk => k_is)
  (case o_Post_kp => k_is)
  (case a_Pulse => k_is)
  (case o_Pulse_pg => k_is)
  (case o_Pulse_hd => k_is)
  (case o_Pulse_po => k_is)
  (case o_Pulse_sa => k_is)
  (case o_Pulse_mk => k_is)
  (case o_Pulse_kp => k_is)
  (case a_TimedPulse => k_is)
  (case o_TimedPulse_pg => k_is)
  (case o_TimedPulse_hd => k_is)
  (case o_TimedPulse_po => k_is)
  (case o_TimedPulse_sa => k_is)
  (case o_TimedPulse_mk => k_is)
  (case o_TimedPulse_kp => k_is)
  (case o_TimedPulse_n_beat => k_is)
  (case o_TimedPulse_n_delay => k_is)
  (case o_TimedPulse_n_few => k_is)
  (case o_TimedPulse_n_got => k_is)
  (case o_TimedPulse_n_houses => k_is)
  (case o_TimedPulse_n_liars => k_is)
  (case o_TimedPulse_n_on_way => k_is)
  (case o_TimedPulse_n_struck => k_is)
  (case o_TimedPulse_n_written => k_is)
  (case a_zbg => k_is)
  (case l_zbg => k_is)
  (case c_zbg => k_is)
  (case k_zbg => k_is)
  (case a_zbh => k_is)
  (case l_zbh => k_is)
  (case c_zbh => k_is)
  (case k_zbh => k_is)
  (case a_zba => k_is)
  (case l_zba => k_is)
  (case c_zba => k_is)
  (case k_zba => k_is)
  (case a_zbi => k_is)
  (case l_zbi => k_is)
  (case c_zbi => k_is)
  (case k_zbi => k_is)
  (case a_zbj => k_is)
  (case l_zbj => k_is)
  (case c_zbj => k_is)
  (case k_zbj => k_is)
  (case a_zbp => k_is)
  (case l_zbp => k_is)
  (case c_zbp => k_is)
  (case k_zbp => k_is)
  (case a_zbk => k_is)
  (case l_zbk => k_is)
  (case c_zbk => k_is)
  (case k_zbk => k_is)
  (case a_zat => k_is)
  (case l_zat => k_is)
  (case c_zat => k_is)
  (case k_zat => k_is)
  (case a_zau => k_is)
  (case l_zau => k_is)
  (case c_zau => k_is)
  (case k_zau => k_is)
  (case a_zbl => k_is)
  (case l_zbl => k_is)
  (case c_zbl => k_is)
  (case k_zbl => k_is)
  (case a_zbq => k_is)
  (case l_zbq => k_is)
  (case c_zbq => k_is)
  (case k_zbq => k_is)
  (case a_zbm => k_is)
  (case l_zbm => k_is)
  (case c_zbm => k_is)
  (case k_zbm => k_is)
  (case a_zah => k_is)
  (case l_zah => k_is)
  (case c_zah => k_is)
  (case k_zah => k_is)
  (case a_zar => k_is)
  (case i_zar => k_is)
  (case l_zar => k_is)
  (case c_zar => k_is)
  (case k_zar => k_is)
  (case q_zar_rd => k_is)
  (case q_zar_fc => k_is)
  (case q_zar_sp => k_is)
  (case a_zao => k_is)
  (case i_zao => k_is)
  (case l_zao => k_is)
  (case c_zao => k_is)
  (case k_zao => k_is)
  (case kd_zao_liars => k_is)
  (case tu_zao_liars_o => k_is)
  (case q_zao_rd => k_is)
  (case q_zao_fc => k_is)
  (case q_zao_sp => k_is)
  (case a_zae => k_is)
  (case i_zae => k_is)
  (case l_zae => k_is)
  (case c_zae => k_is)
  (case k_zae => k_is)
  (case kd_zae_liars => k_is)
  (case tu_zae_liars_o => k_is)
  (case kd_zae_delay => k_is)
  (case a_zaw => k_is)
  (case l_zaw => k_is)
  (case c_zaw => k_is)
  (case k_zaw => k_is)
  (case a_zav => k_is)
  (case l_zav => k_is)
  (case c_zav => k_is)
  (case k_zav => k_is)
  (case a_zab => k_is)
  (case i_zab => k_is)
  (case l_zab => k_is)
  (case c_zab => k_is)
  (case k_zab => k_is)
  (case a_zbr => k_is)
  (case l_zbr => k_is)
  (case c_zbr => k_is)
  (case k_zbr => k_is)
  (case a_zap => k_is)
  (case i_zap => k_is)
  (case l_zap => k_is)
  (case c_zap => k_is)
  (case k_zap => k_is)
  (case a_zax => k_is)
  (case l_zax => k_is)
  (case c_zax => k_is)
  (case k_zax => k_is)
  (case a_zay => k_is)
  (case i_zay => k_is)
  (case l_zay => k_is)
  (case c_zay => k_is)
  (case k_zay => k_is)
  (case a_zan => k_is)
  (case i_zan => k_is)
  (case l_zan => k_is)
  (case c_zan => k_is)
  (case k_zan => k_is)
  (case a_zbb => k_is)
  (case i_zbb => k_is)
  (case l_zbb => k_is)
  (case c_zbb => k_is)
  (case k_zbb => k_is)
  (case a_zai => k_is)
  (case i_zai => k_is)
  (case l_zai => k_is)
  (case c_zai => k_is)
  (case k_zai => k_is)
  (case a_zaj => k_is)
  (case i_zaj => k_is)
  (case l_zaj => k_is)
  (case c_zaj => k_is)
  (case k_zaj => k_is)
  (case a_zaz => k_is)
  (case i_zaz => k_is)
  (case l_zaz => k_is)
  (case c_zaz => k_is)
  (case k_zaz => k_is)
  (case a_zag => k_is)
  (case i_zag => k_is)
  (case l_zag => k_is)
  (case c_zag => k_is)
  (case k_zag => k_is)
  (case a_zbn => k_is)
  (case i_zbn => k_is)
  (case l_zbn => k_is)
  (case c_zbn => k_is)
  (case k_zbn => k_is)
  (case a_zaa => k_is)
  (case i_zaa => k_is)
  (case l_zaa => k_is)
  (case c_zaa => k_is)
  (case k_zaa => k_is)
  (case a_zaf => k_is)
  (case i_zaf => k_is)
  (case l_zaf => k_is)
  (case c_zaf => k_is)
  (case k_zaf => k_is)
  (case a_zac => k_is)
  (case i_zac => k_is)
  (case l_zac => k_is)
  (case c_zac => k_is)
  (case k_zac => k_is)
  (case a_zbo => k_is)
  (case i_zbo => k_is)
  (case l_zbo => k_is)
  (case c_zbo => k_is)
  (case k_zbo => k_is)
  (case a_zas => k_is)
  (case i_zas => k_is)
  (case l_zas => k_is)
  (case c_zas => k_is)
  (case k_zas => k_is)
  (case a_zak => k_is)
  (case i_zak => k_is)
  (case l_zak => k_is)
  (case c_zak => k_is)
  (case k_zak => k_is)
  (case a_zbc => k_is)
  (case i_zbc => k_is)
  (case l_zbc => k_is)
  (case c_zbc => k_is)
  (case k_zbc => k_is)
  (case a_zbd => k_is)
  (case i_zbd => k_is)
  (case l_zbd => k_is)
  (case c_zbd => k_is)
  (case k_zbd => k_is)
  (case a_zbe => k_is)
  (case i_zbe => k_is)
  (case l_zbe => k_is)
  (case c_zbe => k_is)
  (case k_zbe => k_is)
  (case a_zam => k_is)
  (case i_zam => k_is)
  (case l_zam => k_is)
  (case c_zam => k_is)
  (case k_zam => k_is)
  (case kd_zam_delays => k_is)
  (case tu_zam_delays_o => k_is)
  (case a_zad => k_is)
  (case i_zad => k_is)
  (case l_zad => k_is)
  (case c_zad => k_is)
  (case k_zad => k_is)
  (case a_zaq => k_is)
  (case i_zaq => k_is)
  (case l_zaq => k_is)
  (case c_zaq => k_is)
  (case k_zaq => k_is)
  (case a_zal => k_is)
  (case i_zal => k_is)
  (case l_zal => k_is)
  (case c_zal => k_is)
  (case k_zal => k_is)
  (case a_zbf => k_is)
  (case l_zbf => k_is)
  (case c_zbf => k_is)
  (case k_zbf => k_is)
  (case a_law => k_is)
  (case l_law => k_is)
  (case c_law => k_is)
  (case k_law => k_is)
  (case n_LAST_ROUND => k_is)
  (case n_LAST_TIMED_BEAT => k_is)
  (case n_MOST_DELAY => k_is)
  (case n_MOST_FEW => k_is)
  (case n_MOST_HOUSES => k_is)
  (case a_BadNumber => k_is)
  (case a_BadHouses => k_is)
  (case a_NoHouse => k_is)
  (case a_NoLetter => k_is)
  (case a_NotNow => k_is)
  (case a_LiarError => k_is)
  (case e_BadHouses => k_exc)
  (case e_BadNumber => k_exc)
  (case e_NoLetter => k_exc)
  (case e_NotNow => k_exc)
  (case z_all => k_is)
  (case z_bool => k_is)
  (case z_int => k_is)
  (case z_isinstance => k_is)
  (case z_len => k_is)
  (case z_list => k_is)
  (case z_max => k_is)
  (case z_min => k_is)
  (case z_range => k_is)
  (case z_tuple => k_is)
  (case z_zip => k_is)
