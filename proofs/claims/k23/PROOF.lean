import PyProof.Rows.All
import Wide.All
import OpenK.AllK
import Wide.FinOn
import Lean
import PyProof.EqAt
import PyProof.EqKinds
import PyProof.TupleCall
import PySem.Challenge.RW_liarclocks_k23_whole_words_alike
set_option Elab.async false
set_option linter.all false
set_option maxRecDepth 100000
set_option maxHeartbeats 4000000
namespace MH
open PySem PySem.W
def goT (tb : String → Option Builtin) (p : Program) (w : World) (n₀ : Nat) (ann : Option Value) : Nat → SharedT → Thread → Option SharedT
  | 0, _, _ => none
  | m + 1, s, th => match through th with
    | true => some s
    | false => match stepOk n₀ ann th with
      | false => none
      | true => match stepT (denote tb) p w s th with
        | some (s', th') => goT tb p w n₀ ann m s' th'
        | none => none
theorem jhV {tb : String → Option Builtin} {p : Program} {w : World} {n₀ : Nat} {ann : Option Value} {m : Nat} : ∀ {s r : SharedT} {th : Thread}, goT tb p w n₀ ann m s th = some r → topRun tb p w n₀ ann m s.abs th = some r.abs := by
  induction m with
  | zero => intro s r th h; cases h
  | succ m ih =>
    intro s r th h
    unfold goT at h
    unfold topRun
    cases he : through th with
    | true => rw [he] at h; cases h; rfl
    | false =>
      rw [he] at h
      cases hk : stepOk n₀ ann th with
      | false => rw [hk] at h; cases h
      | true =>
        rw [hk] at h
        cases hs : stepT (denote tb) p w s th with
        | none => rw [hs] at h; cases h
        | some x => obtain ⟨s₂, t₂⟩ := x; rw [hs] at h; dsimp only; rw [stepT_spec hs]; exact ih h
def toTree (l : List Obj) : BT × Nat := l.foldl (fun t o => (t.1.ins t.2 o, t.2 + 1)) (.nil, 0)
def jbP (h : Heap) (d : Drawn) (k : Nat) (os : OsState) : SharedT := ⟨(toTree h.objs.toList).1, h.objs.toList.length, h.life, #[], d, k, os⟩
def jek (p q : Program) (loose : List Str) (lv : List (Str × WData)) (R : WRecords) (as : List Addr) (h₀ : Heap) (s : Shared) :=
  ((staticsOk (importedModules p.main.body) h₀ s.heap && namesBound p s.heap && gensDone s && laidKept h₀ s.heap), openSeen q loose (importedModules p.main.body) (fun s => xlAt q lv s && recOk R s) true s, PySem.W.X.obsZ as s)
def E (p q : Program) (loose : List Str) (lv : List (Str × WData)) (R : WRecords) (as : List Addr) (m₀ : Nat) (ann : Option Value) (M : Nat) (h₀ : Heap) (d : Drawn) (k : Nat) (w : World) (os : OsState) :=
  (goT treeTable p w m₀ ann M (jbP h₀ d k os) (topStub p)).map fun s => jek p q loose lv R as h₀ s.abs
def sz (h : Heap) : Bool × Nat × Option Value := (h.isNs mainGlobals && (#[] : Array GenState).size == 0, h.objs.size, h.nsMap mainGlobals "__annotations__")
theorem le_add {M N : Nat} (le : Nat.ble M N = true) : M + (N - M) = N := Nat.add_sub_cancel' (Nat.le_of_ble_eq_true le)
theorem left {p q p' q' : Program} {loose loose' : List Str} {lv : List (Str × WData)} {R : WRecords} {as : List Addr} {N m₀ M : Nat} {ann : Option Value} {Ya : World → List (Option Obj) × Nat × Nat} {E2 : _} {sz2 : _} (hE : @E = E2) (hS : @sz = sz2) (hp : p = p') (hq : q = q') (hl : loose = loose')
    (o1 : opening p = plainProg p.main.scope.names) (hN : Nat.ble 600 N = true) (o2 : ∀ s, fenceModules? p s = some s) (habs : ∀ (P : Params) d k os, (jbP (boot_heap P) d k os).abs = ⟨boot_heap P, #[], d, k, os⟩)
    (size : ∀ P : Params, sz2 (boot_heap P) = (true, m₀, ann)) (le : Nat.ble M N = true)
    (run : ∀ (w : World) (os : OsState), E2 p' q' loose' lv R as m₀ ann M (boot_heap w.params) boot_drawn boot_toks w os = some (true, openGood q' loose', Ya w)) :
    LeftO p q loose (fun s => xlAt q lv s && recOk R s) (PySem.W.X.obsZ as) Ya N := fun w => by
  subst hE hS hp hq hl
  obtain ⟨⟨h, gs, d, k, os⟩, e, e'⟩ := Option.map_eq_some_iff.mp (boot_open o1 hN o2 w)
  obtain ⟨rfl, rfl, rfl, rfl⟩ : h = boot_heap w.params ∧ gs = #[] ∧ d = boot_drawn ∧ k = boot_toks := by simpa using e'
  obtain ⟨z1, z2, z3⟩ : _ ∧ _ ∧ _ := by simpa only [sz, Prod.mk.injEq] using size w.params
  obtain ⟨s₁, r, l⟩ := Option.map_eq_some_iff.mp (run w os)
  obtain ⟨l1, l2, l3⟩ : _ ∧ _ ∧ _ := by simpa only [jek, Prod.mk.injEq] using l
  have r := jhV r
  rw [habs] at r
  have r := topRun_mono (N - M) _ _ _ _ r
  rw [le_add le] at r
  have t : topFrom treeTable p w N ⟨boot_heap w.params, #[], boot_drawn, boot_toks, os⟩ = some s₁.abs := by
    unfold topFrom
    dsimp only
    rw [z1, z2, z3, r]
    show (match staticsOk (importedModules p.main.body) (boot_heap w.params) s₁.abs.heap && namesBound p s₁.abs.heap && gensDone s₁.abs && laidKept (boot_heap w.params) s₁.abs.heap with | true => _ | false => _) = _
    rw [l1]
  unfold openEnds
  rw [e]
  show (topFrom treeTable p w N _).map _ = _
  rw [t]
  show some (_, _) = _
  rw [l2, l3]
theorem hide {α : Sort _} {a b : α} (h : a = b) : a = b := h
theorem two {P : World → Prop} (row : String) (hf : ∀ w : World, P (w.withFollow row false)) (ht : ∀ w : World, P (w.withFollow row true)) (w : World) : P w := byRow2 row hf ht w
theorem jdR (P : Params) (d : Drawn) (k : Nat) (os : OsState) : (jbP (boot_heap P) d k os).abs = ⟨boot_heap P, #[], d, k, os⟩ := by kernel_rfl
end MH
lay_quick MH.E MH.sz PySem.Challenge.pw_liarclocks_k23_whole_words_alike
section
open PySem PySem.W PySem.W.X PySem.W.ZRun
local macro_rules
  | `(tactic| refine $f $args*) => do
    let is (a : Lean.Syntax) (n : Lean.Name) : Bool := a.isOfKind `Lean.Parser.Term.syntheticHole && a[1].getId.eraseMacroScopes == n
    unless args.any (fun a => is a.raw `hl) do Lean.Macro.throwUnsupported
    let as : Array Lean.Syntax := args.map fun a => if is a.raw `hl then (Lean.mkIdent `hl).raw else if is a.raw `hc then (Lean.mkIdent `hc).raw else a.raw
    let t : Lean.TSyntax `term := ⟨Lean.mkNode `Lean.Parser.Term.app #[f.raw, Lean.mkNullNode as]⟩
    `(tactic| refine $t)
set_option maxHeartbeats 0 in
/-- only to have the kit write out the kept heap and the view; it is used nowhere -/
theorem MH.wr (hl : ∀ {q : Program} {loose : List Str} {Xt : Shared → Bool} {Yf : Shared → List (Option Obj) × Nat × Nat} {Ya : World → List (Option Obj) × Nat × Nat} {N : Nat}, LeftO PySem.Challenge.pw_liarclocks_k23_whole_words_alike q loose Xt Yf Ya N) (hc : ∀ {q : Program} {loose : List Str} {XP : (Str → Option Value) → Heap → Prop} {Yf : Shared → List (Option Obj) × Nat × Nat} {Ya : World → List (Option Obj) × Nat × Nat} {r : RowW} {d : DefRec} {kwd : List (Str × Expr)} {run : Value → List Value → Sem Value}, WalkX q loose XP Yf Ya r d kwd run) : PySem.Challenge.rw_liarclocks_k23_whole_words_alike.Holds := by
  w_on; o_law; z_head; (case hw => w_witness2)
end
namespace MH
open PySem PySem.W
noncomputable def as0 : List Addr := [0, 1, 2, 3, 4, 5, 6, 7, 8, 9, 10, 11, 12, 13, 14, 15, 22, 23, 24, 25, 28, 35, 36, 37, 40, 47, 48, 49, 52, 59, 60, 61, 64, 71, 72, 73, 74, 75, 76, 77, 78, 79, 80, 83, 90, 91, 92, 95, 102, 103, 104, 107, 108, 109, 110, 111, 112, 113, 114, 115, 116, 117, 118, 119, 120, 121, 122, 123, 124, 125, 126, 127, 128, 129, 130, 131, 132, 133, 134, 135, 136, 137, 138, 139, 140, 141, 142, 143, 144, 145, 146, 147, 148, 149, 150, 151, 152, 153, 154, 155, 156, 157, 158, 159, 160, 161, 162, 163, 164, 165, 166, 167, 168, 169, 170, 171, 172, 180, 181, 182, 183, 184, 185, 186, 187, 188, 189, 190, 191, 192, 193, 194, 195, 196, 197, 198, 208, 209, 210, 211, 212, 213, 214, 215, 216, 217, 218, 219, 220, 221, 222, 223, 224, 225, 226, 227, 228, 229, 230, 231, 232, 233, 234, 235, 236, 237, 238, 239, 240, 241, 242, 243, 244, 245, 246, 247, 248, 249, 250, 251, 252, 253, 254, 255, 256, 257, 258, 259, 260, 261, 262, 263, 264, 265, 266, 267, 268, 269, 270, 271, 274, 275, 276, 277, 278, 279, 280, 281, 282, 283, 284, 285, 286, 287, 288, 289, 296, 297, 298, 299, 300, 301, 302, 303, 304, 305, 306, 307, 308, 309, 310, 311, 312, 313, 314, 315, 316, 317, 318, 319, 320, 321, 322, 323, 324, 325, 326, 327, 328, 329, 330, 331, 332, 333, 334, 335, 336, 337, 338, 339, 340, 341, 342, 343, 344, 345, 346, 347, 348, 349, 350, 351, 352, 353, 354, 355, 356, 357, 358, 359, 360, 361, 362, 363, 364, 365, 366, 367, 368, 369, 370, 371, 372, 373, 374, 375, 376, 377, 378, 379, 380, 381, 382, 383, 384, 387, 388, 389, 390, 391, 392, 393, 394, 395, 396, 397, 398, 399, 400, 401, 402, 403, 404, 405, 406, 407, 408, 409, 410, 411, 412, 413, 414, 415, 416, 417, 418, 419, 420, 421, 422, 423, 424, 425, 426, 427, 428, 429, 430, 431, 432, 433, 434, 435, 436, 437, 438, 439, 440, 441, 442, 443, 444, 445]
noncomputable def q0 : Program := PySem.W.view PySem.W.Fast.tw6980965063256579481 [1,2,3,4,5,6,7,9,10,11,12,13,14,15,16,17,18,19,20,22,23,25,26,27,28,29,31,32,33,34,35,36,37,38,39]
noncomputable def lo0 : List Str := [⟨⟨[69, 99, 104, 111]⟩⟩]
def Ok (w : World) : Prop := ∀ os : OsState, PySem.W.Fast.tw6129207837983636007 PySem.W.Fast.tw6980965063256579481 q0 lo0 [] (PySem.W.RowW.records (PySem.W.OpenRow.toRowW (PySem.W.OpenLaw.row PySem.Challenge.rw_liarclocks_k23_whole_words_alike))) as0 11 (some (PySem.Value.ref 6)) 7284 (boot_heap w.params) boot_drawn boot_toks w os = some (true, openGood q0 lo0, PySem.W.X.valZ MH.wr.heap_402 446 783 w)
theorem ok (w : World) : Ok w := fun os => by kernel_rfl
theorem q_eq : MH.wr.view_838 = q0 := Eq.trans (b := PySem.W.view PySem.Challenge.pw_liarclocks_k23_whole_words_alike [1,2,3,4,5,6,7,9,10,11,12,13,14,15,16,17,18,19,20,22,23,25,26,27,28,29,31,32,33,34,35,36,37,38,39]) (by kernel_rfl) (congrArg (fun p => PySem.W.view p [1,2,3,4,5,6,7,9,10,11,12,13,14,15,16,17,18,19,20,22,23,25,26,27,28,29,31,32,33,34,35,36,37,38,39]) PySem.W.Fast.te6980965063256579481)
theorem lo_eq : ([PySem.Str.ofString "Echo"] : List Str) = lo0 := by kernel_rfl
theorem le_ok : LeftO PySem.Challenge.pw_liarclocks_k23_whole_words_alike MH.wr.view_838 [PySem.Str.ofString "Echo"] (fun s => xlAt MH.wr.view_838 [] s && recOk (PySem.W.RowW.records (PySem.W.OpenRow.toRowW (PySem.W.OpenLaw.row PySem.Challenge.rw_liarclocks_k23_whole_words_alike))) s) (PySem.W.X.obsZ as0) (PySem.W.X.valZ MH.wr.heap_402 446 783) 7284 :=
  left PySem.W.Fast.te6129207837983636007 PySem.W.Fast.te9778236028270751511 PySem.W.Fast.te6980965063256579481 q_eq lo_eq (by kernel_rfl) (by decide) (fun s => by kernel_rfl) jdR (fun P => by kernel_rfl) (by decide) ok
theorem as_eq (P : Params) : as0 = (MH.wr.heap_402 P).map fun p => p.1 := by kernel_rfl
end MH
set_option Elab.async false
set_option linter.all false
set_option maxRecDepth 100000
namespace L2
open PySem PySem.Spec PyProof.Rows

abbrev Key:=Sum Int Str
def Jz:Key->Value->Bool
  | .inl k,v=>Value.isInt k v
  | .inr x,v=>Value.isStrOf x v
def keyH (w:World):Key->Int
  | .inl k=>hashInt k
  | .inr x=>hashStr w x
theorem jZ:∀ {k:Key} {v:Value},Jz k v=true->(∃ i t,k=Sum.inl i∧v=Value.int i t)∨(∃ x t,k=Sum.inr x∧v=Value.str x t)
  | .inl i,v,h=>by
    obtain ⟨t,e⟩:=Value.isInt_shape (k:=i) (v:=v) h
    exact .inl ⟨i,t,rfl,e⟩
  | .inr x,v,h=>by
    obtain ⟨t,e⟩:=Value.isStrOf_shape (x:=x) (v:=v) h
    exact .inr ⟨x,t,rfl,e⟩
theorem Vp (i:Int) (t:Tok):Jz (.inl i) (.int i t)=true:=by simp [Jz,Value.isInt]
theorem jdu (x:Str) (t:Tok):Jz (.inr x) (.str x t)=true:=by simp [Jz,Value.isStrOf]
theorem key_ll (a b:Int):decide ((Sum.inl a:Key)=Sum.inl b)=(a == b):=by
  by_cases e:a=b
  · subst e; simp
  · have h:¬ (Sum.inl a:Key)=Sum.inl b:=fun q=>e (Sum.inl.inj q)
    rw [decide_eq_false h]
    exact (beq_eq_false_iff_ne.mpr e).symm
theorem key_rr (a b:Str):decide ((Sum.inr a:Key)=Sum.inr b)=decide (a=b):=by
  by_cases e:a=b
  · subst e; simp
  · have h:¬ (Sum.inr a:Key)=Sum.inr b:=fun q=>e (Sum.inr.inj q)
    rw [decide_eq_false h,decide_eq_false e]
theorem key_lr (a:Int) (b:Str):decide ((Sum.inl a:Key)=Sum.inr b)=false:=decide_eq_false (fun q=>nomatch q)
theorem key_rl (a:Str) (b:Int):decide ((Sum.inr a:Key)=Sum.inl b)=false:=decide_eq_false (fun q=>nomatch q)

def yf (prog:Program) (w:World):PySem.KeyKind prog w Key where
  is:=Jz
  hash:=keyH w
  inj:=fun v a b ha hb=>by
    rcases jZ ha with ⟨i,t,rfl,rfl⟩ | ⟨x,t,rfl,rfl⟩
    · rcases jZ hb with ⟨j,u,rfl,e⟩ | ⟨y,u,rfl,e⟩
      · injection e with e1 _; rw [e1]
      · exact nomatch e
    · rcases jZ hb with ⟨j,u,rfl,e⟩ | ⟨y,u,rfl,e⟩
      · exact nomatch e
      · injection e with e1 _; rw [e1]
  byValue:=fun k v h=>by
    rcases jZ h with ⟨i,t,rfl,rfl⟩ | ⟨x,t,rfl,rfl⟩ <;> rfl
  pyHash:=fun hv h=>by
    rcases jZ hv with ⟨i,t,rfl,rfl⟩ | ⟨x,t,rfl,rfl⟩
    · exact wpAny_pyHash_int h
    · exact wpAny_pyHash_str h
  eqBool:=fun hu hv h=>by
    rcases jZ hu with ⟨i,t,rfl,rfl⟩ | ⟨x,t,rfl,rfl⟩
    · rcases jZ hv with ⟨j,u,rfl,rfl⟩ | ⟨y,u,rfl,rfl⟩
      · rw [key_ll] at h; exact wpAny_eqBool_int h
      · rw [key_lr] at h; exact SeqAt.EqAt.int_str i t y u _ _ _ _ h
    · rcases jZ hv with ⟨j,u,rfl,rfl⟩ | ⟨y,u,rfl,rfl⟩
      · rw [key_rl] at h; exact SeqAt.EqAt.str_int x t j u _ _ _ _ h
      · rw [key_rr] at h; exact wpAny_eqBool_str h
  «strs»:=fun k x t v h=>by
    rcases jZ h with ⟨i,u,rfl,e⟩ | ⟨y,u,rfl,e⟩
    · exact nomatch e
    · injection e with e1 _
      subst e1
      cases v <;> rfl

theorem jak (prog:Program) (w:World) (i:Int) (t:Tok):(yf prog w).is (.inl i) (.int i t)=true:=Vp i t
theorem jaj (prog:Program) (w:World) (x:Str) (t:Tok):(yf prog w).is (.inr x) (.str x t)=true:=jdu x t
end L2

namespace L2
open PySem PySem.Spec PyProof.Rows

inductive V where
  | non | bl (b:Bool) | int (i:Int) | str (x:Str) | byt (b:Array UInt8) | flt (b:UInt64) | ref (a:Addr) | ty (n:String)
  deriving DecidableEq

def yh:V->Value->Prop
  | .non,u=>u=Value.none
  | .bl b,u=>u=Value.bool b
  | .int i,u=>∃ t,u=Value.int i t
  | .str x,u=>∃ t,u=Value.str x t
  | .byt b,u=>∃ t,u=Value.bytes b t
  | .flt b,u=>∃ t,u=Value.float b t
  | .ref a,u=>u=Value.ref a
  | .ty n,u=>u=Value.type n

abbrev yg:List V->List Value->Prop:=Paired yh
theorem yg.length {xs:List V} {us:List Value} (r:yg xs us):xs.length=us.length:=Paired.length r
theorem yg.get:∀ {xs:List V} {us:List Value} {i:Nat} {x:V},yg xs us->xs[i]? = some x->∃ u,us[i]? = some u∧yh x u
  | _,_,_,_,.nil,e=>by simp at e
  | _,_,0,_,.cons r _,e=>by simp at e; subst e; exact ⟨_,rfl,r⟩
  | _,_,i + 1,x,.cons _ t,e=>by
    obtain ⟨u,h1,h2⟩:=yg.get (i:=i) (x:=x) t (by simpa using e)
    exact ⟨u,by simpa using h1,h2⟩
theorem yg.set {x:V} {u:Value} (r:yh x u):∀ {xs:List V} {us:List Value} (i:Nat),yg xs us->yg (xs.set i x) (us.set i u)
  | _,_,_,.nil=>.nil
  | _,_,0,.cons _ t=>.cons r t
  | _,_,i + 1,.cons q t=>.cons q (yg.set r i t)
theorem yg.append {xs ys:List V} {us ws:List Value} (h:yg xs us) (s:yg ys ws):yg (xs ++ ys) (us ++ ws):=by
  induction h with
  | nil=>exact s
  | cons r t ih=>exact .cons r ih
theorem yg.take:∀ {xs:List V} {us:List Value} (n:Nat),yg xs us->yg (xs.take n) (us.take n)
  | _,_,0,_=>.nil
  | _,_,_ + 1,.nil=>.nil
  | _,_,n + 1,.cons r t=>.cons r (yg.take n t)
theorem yg.drop:∀ {xs:List V} {us:List Value} (n:Nat),yg xs us->yg (xs.drop n) (us.drop n)
  | _,_,0,r=>r
  | _,_,_ + 1,.nil=>.nil
  | _,_,n + 1,.cons _ t=>yg.drop n t
theorem yg.none_of:∀ {xs:List V} {us:List Value} {i:Nat},yg xs us->xs[i]? = none->us[i]? = none:=fun {xs us i} r e=>by
  have h1:=r.length
  have h2:xs.length<=i:=List.getElem?_eq_none_iff.mp e
  exact List.getElem?_eq_none_iff.mpr (by omega)

def vG:Option V->Option Value->Prop
  | some v,some u=>yh v u
  | none,none=>True
  | _,_=>False
def KV {κ:Type}:List (κ × V)->List (κ × Value)->Prop:=Paired fun (p:κ × V) (q:κ × Value)=>p.1=q.1∧yh p.2 q.2

def kV:Key->V
  | .inl i=>.int i
  | .inr x=>.str x

inductive HO where
    | lst (xs:List V)
    | tup (xs:List V)
    | dK (kvs:List (Key × V)) | dT (kvs:List (List Key × V))
    | set (S:Int->Bool) (n:Nat)
    | ins (C dx:Addr) (fs:List (Str × V))
    | own (x:Addr)
    | xd (fs:List (Str × V))
    | met (f x:Addr)
    | rng (lo hi:Int)
    | frz (o:Obj) (u:HO)
    | tbl (ps:Array Value)
    | ext (φ:Heap->Prop)

abbrev Hp:=Addr->Option HO
def upd (H:Hp) (a:Addr) (o:HO):Hp:=fun b=>if b=a then some o else H b
theorem jr {H:Hp} {a:Addr} {o:HO}:upd H a o a=some o:=by unfold upd; rw [if_pos rfl]
theorem jk {H:Hp} {a b:Addr} {o:HO} (h:b≠a):upd H a o b=H b:=by unfold upd; rw [if_neg h]
theorem jbU {H:Hp} {a:Addr} {o u:HO}:upd (upd H a o) a u=upd H a u:=by
  funext b; unfold upd; split <;> rfl
theorem ne_of {H:Hp} {a b:Addr} {o u:HO} (h:H a=some o) (h':H b=some u) (d:o≠u):a≠b:=by
  intro e; subst e; rw [h] at h'; exact d (Option.some.inj h')
theorem jv {H:Hp} {a b:Addr} {o:HO} (h:H a=some o) (h':H b=none):a≠b:=by
  intro e; subst e; rw [h] at h'; cases h'

section
variable (P:Program) (w:World)
def yr (H:Hp) (h:Heap) (a:Addr):HO->Prop
  | .lst xs=>xs.length<=sizeLine∧∃ (its:List Value) (n:Nat),yg xs its∧h.get? a=some { cls:=.type "list",data:=.seq its.toArray n }
  | .tup xs=>xs.length<=sizeLine∧∃ its:List Value,yg xs its∧IsTup h a its.toArray
  | .dK kvs=>kvs.length<=sizeLine∧(a == sysModules)=false∧∃ vs,KV kvs vs∧h.DictOf (yf P w) a vs
  | .dT kvs=>kvs.length<=sizeLine∧(a == sysModules)=false∧∃ xs:List (List Key × Addr × Value),
      Paired (fun (p:List Key × V) (q:List Key × Addr × Value)=>p.1=q.1∧H q.2.1=some (.tup (p.1.map kV))∧yh p.2 q.2.2) kvs xs ∧
      ∃ o es ep,h.get? a=some o∧o.ExactDict∧o.data = .dict es ep∧es.toList=xs.map (entryOfKey (tupleKind (yf P w)))∧(xs.map (·.1)).Nodup
  | .set S n=>h.SetOf (intKind P w) a S n
  | .ins C dx fs=>H dx=some (.own a)∧fs.length<=1000∧dx≠a∧h.get? a=some (PySem.W.instObj C dx) ∧
      ∃ mA,h.Ns1 dx mA∧(∀ f,vG (fs.lookup f) (mA f))∧PySem.Within mA (fs.map (·.1))
  | .own _=>∃ o,h.get? a=some o
  | .xd fs=>∃ mA,h.Ns1 a mA∧∀ f,vG (fs.lookup f) (mA f)
  | .rng lo hi=>∃ t u v,h.get? a=some { cls:=.type "range",data:=.fields #[.int lo t,.int hi u,.int 1 v] }
  | .frz o u=>h.get? a=some o∧yr H h a u
  | .tbl ps=>h.get? a=some { cls:=.none,data:=.fields ps }
  | .met f x=>h.get? a=some (PySem.W.methodObj (.ref f) (.ref x))
  | .ext φ=>φ h∧(∃ o,h.get? a=some o)∧∀ h1 h2:Heap,φ h1->(∀ o,h1.get? a=some o->h2.get? a=some o)->φ h2
def HOk (H:Hp) (h:Heap):Prop:=∀ a o,H a=some o->yr P w H h a o
end

section
variable {P:Program} {w:World} {H H':Hp} {h h':Heap} {a:Addr} {o:HO}
theorem yr.lt (x:yr P w H h a o):a < h.objs.size:=by
  cases o with
  | lst xs=>obtain ⟨_,_,_,_,e⟩:=x; exact Heap.lt_size e
  | tup xs=>obtain ⟨_,_,_,p⟩:=x; exact p.lt
  | dK kvs=>obtain ⟨_,_,_,_,o,_,_,e,_⟩:=x; exact Heap.lt_size e
  | dT kvs=>obtain ⟨_,_,_,_,o,_,_,e,_⟩:=x; exact Heap.lt_size e
  | set S n=>obtain ⟨o,_,_,_,e,_⟩:=x; exact Heap.lt_size e
  | ins C dx fs=>obtain ⟨_,_,_,e,_⟩:=x; exact Heap.lt_size e
  | own y=>obtain ⟨_,e⟩:=x; exact Heap.lt_size e
  | xd fs=>obtain ⟨_,⟨_,_,_,e,_⟩,_⟩:=x; exact Heap.lt_size e
  | rng lo hi=>obtain ⟨_,_,_,e⟩:=x; exact Heap.lt_size e
  | frz ob u=>obtain ⟨e,_⟩:=x; exact Heap.lt_size e
  | tbl ps=>exact Heap.lt_size (show h.get? a=some _ from x)
  | met f y=>exact Heap.lt_size (show h.get? a=some _ from x)
  | ext φ=>obtain ⟨_,⟨_,e⟩,_⟩:=x; exact Heap.lt_size e
theorem Paired.mapP {α β:Type} {F G:α->β->Prop} {l₁:List α} {l₂:List β} (h:Paired F l₁ l₂) (f:∀ a b,F a b->G a b):Paired G l₁ l₂:=by
  induction h with
  | nil=>exact .nil
  | cons r t ih=>exact .cons (f _ _ r) ih
theorem yr.stay (x:yr P w H h a o) (k:∀ b u,(b=a∨H b=some (.own a))->h.get? b=some u->h'.get? b=some u)
    (ho:∀ b,H b=some (.own a)->H' b=some (.own a)) (ht:∀ b xs,H b=some (.tup xs)->H' b=some (.tup xs)):yr P w H' h' a o:=by
  induction o with
  | lst xs=>obtain ⟨z,its,n,r,e⟩:=x; exact ⟨z,its,n,r,k _ _ (.inl rfl) e⟩
  | tup xs=>obtain ⟨z,its,r,ob,e,c⟩:=x; exact ⟨z,its,r,ob,k _ _ (.inl rfl) e,c⟩
  | dK kvs=>obtain ⟨z,y,vs,r,ob,es,ep,e,c⟩:=x; exact ⟨z,y,vs,r,ob,es,ep,k _ _ (.inl rfl) e,c⟩
  | dT kvs =>
    obtain ⟨z,y,xs,r,ob,es,ep,e,c⟩:=x
    exact ⟨z,y,xs,Paired.mapP r fun p q z=>⟨z.1,ht _ _ z.2.1,z.2.2⟩,ob,es,ep,k _ _ (.inl rfl) e,c⟩
  | set S n=>obtain ⟨ob,es,ep,t,e,c⟩:=x; exact ⟨ob,es,ep,t,k _ _ (.inl rfl) e,c⟩
  | ins C dx fs =>
    obtain ⟨d,z,ne,e,mA,⟨od,es,ep,e2,c⟩,r⟩:=x
    exact ⟨ho _ d,z,ne,k _ _ (.inl rfl) e,mA,⟨od,es,ep,k _ _ (.inr d) e2,c⟩,r⟩
  | own y=>obtain ⟨ob,e⟩:=x; exact ⟨ob,k _ _ (.inl rfl) e⟩
  | xd fs=>obtain ⟨mA,⟨od,es,ep,e,c⟩,r⟩:=x; exact ⟨mA,⟨od,es,ep,k _ _ (.inl rfl) e,c⟩,r⟩
  | rng lo hi=>obtain ⟨t,u,v,e⟩:=x; exact ⟨t,u,v,k _ _ (.inl rfl) e⟩
  | frz ob u ih=>obtain ⟨e,q⟩:=x; exact ⟨k _ _ (.inl rfl) e,ih q⟩
  | tbl ps =>
    have e:h.get? a=some { cls:=.none,data:=.fields ps }:=x
    show h'.get? a=some { cls:=.none,data:=.fields ps }
    exact k a _ (.inl rfl) e
  | met f y =>
    have e:h.get? a=some (PySem.W.methodObj (.ref f) (.ref y)):=x
    show h'.get? a=some (PySem.W.methodObj (.ref f) (.ref y))
    exact k a _ (.inl rfl) e
  | ext φ=>obtain ⟨p,⟨o,e⟩,st⟩:=x; exact ⟨st _ _ p fun o q=>k _ _ (.inl rfl) q,⟨o,k _ _ (.inl rfl) e⟩,st⟩
theorem HOk.lt (x:HOk P w H h) (e:H a=some o):a < h.objs.size:=(x a o e).lt
theorem HOk.fresh (x:HOk P w H h) (e:h.objs.size<=a):H a=none:=by
  cases q:H a with
  | none=>rfl
  | some u=>exact absurd (Nat.lt_of_lt_of_le (x.lt q) e) (Nat.lt_irrefl _)
theorem HOk.kept (x:HOk P w H h) (k:∀ b u,h.get? b=some u->h'.get? b=some u):HOk P w H h':=fun a o e =>
  (x a o e).stay (fun b u _ q=>k b u q) (fun _ q=>q) fun _ _ q=>q
theorem HOk.laid (x:HOk P w H h) (k:∀ b u,h.get? b=some u->h'.get? b=some u) (hp:h.objs.size<=a) (new:yr P w (upd H a o) h' a o):HOk P w (upd H a o) h':=fun b u e=>by
  have hn:=x.fresh hp
  by_cases hb:b=a
  · subst hb; rw [jr] at e; cases e; exact new
  · rw [jk hb] at e
    exact (x b u e).stay (fun c v _ q=>k c v q) (fun c q=>by rw [jk (jv q hn)]; exact q) fun c xs q=>by rw [jk (jv q hn)]; exact q
end

def Rd (H:Hp) (a:Addr) (u:HO):Prop:=H a=some u∨∃ o,H a=some (.frz o u)
theorem Rd.ok {P:Program} {w:World} {H:Hp} {h:Heap} {a:Addr} {u:HO} (r:Rd H a u) (x:HOk P w H h):yr P w H h a u:=by
  rcases r with r | ⟨o,r⟩
  · exact x a u r
  · obtain ⟨_,q⟩:=x a _ r
    exact q
def Mut:Option HO->Prop
  | some (.lst _)=>True
  | some (.dK _)=>True
  | some (.dT _)=>True
  | some (.set _ _)=>True
  | some (.ins _ _ _)=>True
  | some (.ext _)=>True
  | _=>False
section
variable {P:Program} {w:World} {H:Hp} {h h':Heap} {x e:Addr} {o':HO}
theorem HOk.write (ok:HOk P w H h) (mu:Mut (H x)) (he:e=x∨H e=some (.own x)) (k:∀ b u,b≠e->h.get? b=some u->h'.get? b=some u) (heo:∃ u,h'.get? e=some u)
    (new:yr P w (upd H x o') h' x o'):HOk P w (upd H x o') h':=fun b u q=>by
  have nown:∀ c y,H c=some (.own y)->c≠x:=fun c y r z=>by subst z; rw [r] at mu; exact mu
  have ntup:∀ c xs,H c=some (.tup xs)->c≠x:=fun c xs r z=>by subst z; rw [r] at mu; exact mu
  by_cases hb:b=x
  · subst hb; rw [jr] at q; cases q; exact new
  · rw [jk hb] at q
    by_cases hbe:b=e
    · have q':H b=some (.own x):=by
        rcases he with z | z
        · exact absurd (hbe.trans z) hb
        · rw [hbe]; exact z
      rw [q] at q'; cases q'
      obtain ⟨v,hv⟩:=heo
      exact ⟨v,by rw [hbe]; exact hv⟩
    · refine (ok b u q).stay (fun c v hc r=>k c v ?_ r) (fun c r=>by rw [jk (nown c b r)]; exact r) fun c xs r=>by rw [jk (ntup c xs r)]; exact r
      rcases hc with rfl | hc
      · exact hbe
      · rintro rfl
        rcases he with z | z
        · exact nown c b hc z
        · rw [hc] at z; cases z; exact hb rfl
end

structure Un (fs ex:List Addr) (H H':Hp) (h h':Heap):Prop where
  keep:∀ b o,h.get? b=some o->H b=none->b ∉ fs->b ∉ ex->h'.get? b=some o
  slot:∀ b o,h.get? b=some o->H b=none->b ∈ fs->b ∉ ex->∃ sl,h'.get? b=some { o with slots:=sl }
  free:∀ b o,h.get? b=some o->H b=none->b ∉ ex->H' b=none
  there:∀ b o,h.get? b=some o->b ∉ ex->∃ o',h'.get? b=some o'
  tups:∀ b xs,H b=some (.tup xs)->H' b=some (.tup xs)
  frzs:∀ b o u,H b=some (.frz o u)->H' b=some (.frz o u)
  tbls:∀ b ps,H b=some (.tbl ps)->∃ more,H' b=some (.tbl (ps ++ more))
section
variable {fs fs' ex ex':List Addr} {H H1 H2:Hp} {h h1 h2 h':Heap} {a x e:Addr} {o:HO}
theorem Un.any (u:Un fs ex H H1 h h1) {b:Addr} {ob:Obj} (q:h.get? b=some ob) (n:H b=none) (hx:b ∉ ex):∃ sl,h1.get? b=some { ob with slots:=sl }:=by
  by_cases hb:b ∈ fs
  · exact u.slot b ob q n hb hx
  · exact ⟨ob.slots,u.keep b ob q n hb hx⟩
theorem Un.trans (a:Un fs ex H H1 h h1) (b:Un fs ex H1 H2 h1 h2):Un fs ex H H2 h h2 where
  keep:=fun c ob q n hc hx=>b.keep c ob (a.keep c ob q n hc hx) (a.free c ob q n hx) hc hx
  slot:=fun c ob q n hc hx=>by
    obtain ⟨sl,e1⟩:=a.slot c ob q n hc hx
    obtain ⟨sl',e2⟩:=b.slot c _ e1 (a.free c ob q n hx) hc hx
    exact ⟨sl',e2⟩
  free:=fun c ob q n hx=>by
    obtain ⟨o',e1⟩:=a.there c ob q hx
    exact b.free c o' e1 (a.free c ob q n hx) hx
  there:=fun c ob q hx=>by
    obtain ⟨o',e1⟩:=a.there c ob q hx
    exact b.there c o' e1 hx
  tups:=fun c xs q=>b.tups c xs (a.tups c xs q)
  frzs:=fun c ob xs q=>b.frzs c ob xs (a.frzs c ob xs q)
  tbls:=fun c ps q=>by
    obtain ⟨m1,e1⟩:=a.tbls c ps q
    obtain ⟨m2,e2⟩:=b.tbls c _ e1
    exact ⟨m1 ++ m2,by rw [e2,Array.append_assoc]⟩
theorem Un.kept (k:∀ b u,h.get? b=some u->h'.get? b=some u):Un fs ex H H h h' :=
  ⟨fun b ob q _ _ _=>k b ob q,fun b ob q _ _ _=>⟨ob.slots,k b ob q⟩,fun _ _ _ n _=>n,fun b ob q _=>⟨ob,k b ob q⟩,fun _ _ q=>q,fun _ _ _ q=>q,fun _ ps q=>⟨#[],by rw [q]; simp⟩⟩
theorem Un.refl:Un fs ex H H h h:=Un.kept fun _ _ q=>q
theorem Un.laid (k:∀ b u,h.get? b=some u->h'.get? b=some u) (hp:h.objs.size<=a) (hn:H a=none):Un fs ex H (upd H a o) h h' where
  keep:=fun b u q _ _ _=>k b u q
  slot:=fun b u q _ _ _=>⟨u.slots,k b u q⟩
  free:=fun b u q n _=>by rw [jk (Nat.ne_of_lt (Nat.lt_of_lt_of_le (Heap.lt_size q) hp))]; exact n
  there:=fun b u q _=>⟨u,k b u q⟩
  tups:=fun b xs q=>by rw [jk (jv q hn)]; exact q
  frzs:=fun b u xs q=>by rw [jk (jv q hn)]; exact q
  tbls:=fun b ps q=>⟨#[],by rw [jk (jv q hn),q]; simp⟩
theorem Un.write (mu:Mut (H x)) (he:e=x∨H e=some (.own x)) (k:∀ b u,b≠e->h.get? b=some u->h'.get? b=some u) (heo:∃ u,h'.get? e=some u):Un fs ex H (upd H x o) h h':=by
  have hx:∀ b,H b=none->b≠x:=fun b n z=>by subst z; rw [n] at mu; exact mu
  have hb:∀ b,H b=none->b≠e:=fun b n z=>by
    subst z
    rcases he with r | r
    · exact hx b n r
    · rw [n] at r; cases r
  have hm:∀ b u,H b=some u->¬ Mut (some u)->b≠x:=fun b u q nm z=>by subst z; rw [q] at mu; exact nm mu
  refine ⟨fun b u q n _ _=>k b u (hb b n) q,fun b u q n _ _=>⟨u.slots,k b u (hb b n) q⟩,fun b u q n _=>by rw [jk (hx b n)]; exact n,fun b u q _=>?_,
    fun b xs q=>by rw [jk (hm b _ q fun z=>z)]; exact q,fun b u xs q=>by rw [jk (hm b _ q fun z=>z)]; exact q,fun b ps q=>⟨#[],by rw [jk (hm b _ q fun z=>z),q]; simp⟩⟩
  by_cases hbe:b=e
  · subst hbe; exact heo
  · exact ⟨u,k b u hbe q⟩
end

def trk (h:Heap) (H:Hp):List Addr:=(List.range h.objs.size).filter fun a=>(H a).isSome
def UB (h:Heap) (H:Hp):Heap:=PySem.W.hideAll h (trk h H)
theorem jdz (h:Heap) (H:Hp):(UB h H).objs.size=h.objs.size:=PySem.W.hideAll_size _ _
theorem jfE {h:Heap} {H:Hp} {b:Addr} {o:Obj} (e:h.get? b=some o) (n:H b=none):(UB h H).get? b=some o :=
  PySem.W.hideAll_get _ e fun hm=>by
    have q:(H b).isSome=true:=(List.mem_filter.mp hm).2
    rw [n] at q; simp at q
theorem jhC {h:Heap} {H:Hp} {b:Addr} {o:Obj} (e:(UB h H).get? b=some o):h.get? b=some o∧H b=none:=by
  have e':h.get? b=some o:=PySem.W.of_hideAll (trk h H) e
  refine ⟨e',?_⟩
  cases q:H b with
  | none=>rfl
  | some x =>
    have hm:b ∈ trk h H:=List.mem_filter.mpr ⟨List.mem_range.mpr (Heap.lt_size e'),by simp [q]⟩
    have z:(UB h H).get? b=none:=PySem.W.hideAll_none (trk h H) hm
    rw [z] at e; cases e

def jiq (g h:Heap) (L:Addr):List (Addr × Obj):=(List.range h.objs.size).filterMap fun a=>if a=L∨(g.get? a).isSome=true then none else (h.get? a).map fun o=>(a,o)
def rest (g h:Heap) (L d:Addr):List (Addr × Obj):=(jiq g h L).filter fun p=>decide (p.1≠d)
end L2

namespace L2
open PySem PySem.Spec PyProof.Rows

structure Mod (K:PySem.W.Frag) (mg:Str->Option Value) (base:Heap):Prop where
  kin:K.In base
  glob:base.Ns mainGlobals mg
  blt:∃ mb,base.Ns builtinsNs mb∧∀ x:Str,x≠"__name__"->mb x=bootBuiltins x
  nolimit:base.NoLimit

structure Cx where
  prog:Program
  w:World
  K:PySem.W.Frag
  mg:Str->Option Value
  base:Heap
  A:Around
  N:List Str
  s₀:Shared
  H₀:Hp
  env:Env
  outer:List Env
  stack:List Env
  ex:List Addr
  fn:Str->Bool
  calm:Bool
  pn:List (Addr × Obj)
  xe:Value->Shared->Prop
def frs (l:List Env):List Addr:=l.filterMap (·.frame)
abbrev Cx.fs (X:Cx):List Addr:=frs X.outer

def Vis (sc:Scope) (x:Str):Prop:=sc.names.lookup x=some .local∨sc.names.lookup x=some .cell∨sc.names.lookup x=some .free
def Loc (sc:Scope) (x:Str):Prop:=sc.names.lookup x=some .local∨sc.names.lookup x=some .cell
def Look (env:Env) (h:Heap) (m:Str->Option Value) (x:Str) (u:Value):Prop :=
  (env.kindOf x=some .local∧m x=some u)∨((env.kindOf x=some .cell∨env.kindOf x=some .free)∧∃ c,env.cells.lookup x=some c∧h.IsCell c (some u))

structure Cx.Ok (X:Cx):Prop where
  mod:Mod X.K X.mg X.base
  kind:X.env.scope.kind = .function
  glob:X.env.globals=mainGlobals
  blt:X.env.builtins=builtinsNs
  above:X.s₀.heap.objs.size<=X.env.locals
  inj:∀ x y c,X.env.cells.lookup x=some c->X.env.cells.lookup y=some c->x=y
  has:∀ x,(X.env.kindOf x=some .cell∨X.env.kindOf x=some .free)->∃ c,X.env.cells.lookup x=some c
  cab:∀ x c,X.fn x=true->X.env.cells.lookup x=some c->X.s₀.heap.objs.size<=c
  hd:X.calm=true->X.A.handled=none
  frames:X.A.frames=some X.stack
  stk:X.stack=X.outer∨(X.stack=X.env :: X.outer∧X.env.frame=some X.env.locals)
  exf:∀ b ∈ X.ex,b≠X.env.locals∧∀ x c,X.env.cells.lookup x=some c->c≠b
  bs:∀ b o,X.base.get? b=some o->X.s₀.heap.get? b=some o∧X.H₀ b=none
  bsz:X.base.objs.size<=X.s₀.heap.objs.size
  noex:∀ b o,X.base.get? b=some o->b ∉ X.ex
  exfs:∀ b ∈ X.ex,b ∉ X.fs
  funs:X.s₀.heap.FunFrames X.base X.outer
  frf:∀ b ∈ X.fs,X.H₀ b=none

structure Inv (X:Cx) (pins:List (Addr × Obj)) (σ:List (Option V)) (H:Hp) (s:Shared):Prop where
  ok:X.Ok
  os:s.os=X.s₀.os
  bare:AllBare s.gens
  base:Un X.fs X.ex X.H₀ H X.s₀.heap s.heap
  loc:∃ m,s.heap.Ns X.env.locals m∧∀ (i:Nat) (x:Str) (v:V),X.N[i]? = some x->σ[i]? = some (some v)->Vis X.env.scope x->∃ u,yh v u∧Look X.env s.heap m x u
  cell:∀ x c,X.env.cells.lookup x=some c->∃ v,s.heap.IsCell c v
  free:H X.env.locals=none
  freeC:∀ x c,X.env.cells.lookup x=some c->H c=none
  pin:∀ p ∈ X.pn ++ pins,s.heap.get? p.1=some p.2∧H p.1=none∧p.1≠X.env.locals∧p.1 ∉ X.fs∧∀ v,p.2.data≠.cell v
  hok:HOk X.prog X.w H s.heap
  len:σ.length=X.N.length

section
variable {X:Cx} {pins:List (Addr × Obj)} {σ:List (Option V)} {H H':Hp} {s:Shared} {h':Heap}

theorem Cx.Ok.nofr (ok:X.Ok) {b:Addr} {o:Obj} (e:X.base.get? b=some o):b ∉ X.fs:=fun hb=>by
  have:=(ok.funs.mem hb).1
  rw [e] at this; cases this
theorem Inv.bs (I:Inv X pins σ H s):∀ b o,X.base.get? b=some o->s.heap.get? b=some o∧H b=none:=fun b o e =>
  ⟨I.base.keep b o (I.ok.bs b o e).1 (I.ok.bs b o e).2 (I.ok.nofr e) (I.ok.noex b o e),I.base.free b o (I.ok.bs b o e).1 (I.ok.bs b o e).2 (I.ok.noex b o e)⟩
theorem Inv.bk (I:Inv X pins σ H s):∀ b o,X.base.get? b=some o->s.heap.get? b=some o:=fun b o e=>(I.bs b o e).1
theorem Inv.mod (I:Inv X pins σ H s):Mod X.K X.mg X.base:=I.ok.mod
theorem Inv.kIn (I:Inv X pins σ H s):X.K.In s.heap:=I.ok.mod.kin.keeps I.bk
theorem Inv.lt (I:Inv X pins σ H s):X.env.locals < s.heap.objs.size:=let ⟨_,hn,_⟩:=I.loc; hn.lt
theorem Inv.sz (I:Inv X pins σ H s):X.s₀.heap.objs.size<=s.heap.objs.size:=Nat.le_trans I.ok.above (Nat.le_of_lt I.lt)
theorem Inv.nofs (I:Inv X pins σ H s) {a:Addr} (h:s.heap.objs.size<=a):a ∉ X.fs:=fun hb=>by
  obtain ⟨_,o,ho,_⟩:=I.ok.funs.mem hb
  exact absurd (Nat.lt_of_lt_of_le (Heap.lt_size ho) (Nat.le_trans I.sz h)) (Nat.lt_irrefl _)
theorem Inv.cne (I:Inv X pins σ H s):∀ x c,X.env.cells.lookup x=some c->c≠X.env.locals:=fun x c e z=>by
  obtain ⟨v,o,ho,hd⟩:=I.cell x c e
  obtain ⟨m,⟨o',es,ep,ho',hd',_⟩,_⟩:=I.loc
  rw [z,ho'] at ho; cases ho; rw [hd'] at hd; cases hd
theorem Inv.funs (I:Inv X pins σ H s):s.heap.FunFrames X.base X.outer:=by
  have all:∀ (l:List Env),(∀ b ∈ frs l,b ∈ X.fs)->X.s₀.heap.FunFrames X.base l->s.heap.FunFrames X.base l:=by
    intro l
    induction l with
    | nil=>intro _ _; trivial
    | cons env r ih =>
      intro hs hl
      obtain ⟨hk,⟨L,o,hf,hn,ho,hd⟩,hr⟩:=hl
      have hL:L ∈ X.fs:=hs L (by unfold frs; rw [List.filterMap_cons,hf]; exact List.mem_cons_self)
      obtain ⟨sl,e⟩:=I.base.slot L o ho (I.ok.frf L hL) hL fun z=>I.ok.exfs L z hL
      exact ⟨hk,⟨L,_,hf,hn,e,hd⟩,ih (fun b hb=>hs b (by unfold frs; rw [List.filterMap_cons,hf]; exact List.mem_cons_of_mem _ hb)) hr⟩
  exact all X.outer (fun _ hb=>hb) I.ok.funs

theorem Inv.stack (I:Inv X pins σ H s):s.heap.FunFrames X.base X.stack:=by
  rcases I.ok.stk with e | ⟨e,hf⟩
  · rw [e]; exact I.funs
  · rw [e]
    obtain ⟨m,hn,_⟩:=I.loc
    refine .cons (by rw [I.ok.kind]; decide) hf hn ?_ I.funs
    exact Heap.get?_none_of_le (Nat.le_trans I.ok.bsz I.ok.above)
theorem Inv.stkSub (I:Inv X pins σ H s):∀ b ∈ frs X.stack,b ∈ X.env.locals :: X.fs:=fun b hb=>by
  rcases I.ok.stk with e | ⟨e,hf⟩
  · rw [e] at hb; exact List.mem_cons_of_mem _ hb
  · rw [e] at hb
    unfold frs at hb
    rw [List.filterMap_cons,hf] at hb
    exact hb
theorem Inv.stkFree (I:Inv X pins σ H s):∀ b ∈ frs X.stack,H b=none:=fun b hb=>by
  rcases List.mem_cons.mp (I.stkSub b hb) with e | hb
  · rw [e]; exact I.free
  · obtain ⟨_,o,ho,_⟩:=I.ok.funs.mem hb
    exact I.base.free b o ho (I.ok.frf b hb) fun z=>I.ok.exfs b z hb

theorem Inv.step {g':Array GenState} {t':Nat} {d':Drawn} {ch:List Addr} (I:Inv X pins σ H s)
    (hch:∀ b ∈ ch,(b ∈ X.ex∨X.s₀.heap.objs.size<=b)∧b≠X.env.locals∧(∀ x c,X.env.cells.lookup x=some c->c≠b)∧∀ p ∈ X.pn ++ pins,p.1≠b)
    (keep:∀ b o,b≠X.env.locals->b ∉ X.fs->b ∉ ch->s.heap.get? b=some o->H b=none->h'.get? b=some o)
    (slot:∀ b o,b≠X.env.locals->b ∈ X.fs->b ∉ ch->s.heap.get? b=some o->H b=none->∃ sl,h'.get? b=some { o with slots:=sl }) (free:∀ b o,b ∉ ch->s.heap.get? b=some o->H b=none->H' b=none)
    (there:∀ b o,b ∉ ch->s.heap.get? b=some o->∃ o',h'.get? b=some o')
    (tups:∀ b xs,H b=some (.tup xs)->H' b=some (.tup xs)) (frzs:∀ b o u,H b=some (.frz o u)->H' b=some (.frz o u)) (tbls:∀ b ps,H b=some (.tbl ps)->∃ more,H' b=some (.tbl (ps ++ more)))
    (ns:∀ m,s.heap.Ns X.env.locals m->h'.Ns X.env.locals m) (hok:HOk X.prog X.w H' h') (hg:AllBare g') :
    Inv X pins σ H' { s with heap:=h',gens:=g',drawn:=d',toks:=t' }:=by
  have neL:∀ b o,X.s₀.heap.get? b=some o->b≠X.env.locals:=fun b o e=>Nat.ne_of_lt (Nat.lt_of_lt_of_le (Heap.lt_size e) I.ok.above)
  have neC:∀ b o,X.s₀.heap.get? b=some o->b ∉ X.ex->b ∉ ch:=fun b o e hx hb=>by
    rcases (hch b hb).1 with z | z
    · exact hx z
    · exact absurd (Nat.lt_of_lt_of_le (Heap.lt_size e) z) (Nat.lt_irrefl _)
  have cellK:∀ x c,X.env.cells.lookup x=some c->∀ v,s.heap.IsCell c v->h'.IsCell c v:=fun x c e v hQQ=>by
    obtain ⟨o,ho,hd⟩:=hQQ
    have nch:c ∉ ch:=fun z=>(hch c z).2.2.1 x c e rfl
    by_cases hc:c ∈ X.fs
    · obtain ⟨sl,q⟩:=slot c o (I.cne x c e) hc nch ho (I.freeC x c e)
      exact ⟨_,q,hd⟩
    · exact ⟨o,keep c o (I.cne x c e) hc nch ho (I.freeC x c e),hd⟩
  refine ⟨I.ok,I.os,hg,⟨fun b o e n hb hx=>?_,fun b o e n hb hx=>?_,fun b o e n hx=>?_,fun b o e hx=>?_,fun b xs e=>tups b xs (I.base.tups b xs e),fun b o xs e=>frzs b o xs (I.base.frzs b o xs e),fun b ps e=>?_⟩,?_,fun x c e=>?_,?_,fun x c e=>?_,fun p hp=>?_,hok,I.len⟩
  · exact keep b o (neL b o e) hb (neC b o e hx) (I.base.keep b o e n hb hx) (I.base.free b o e n hx)
  · obtain ⟨sl,e1⟩:=I.base.slot b o e n hb hx
    obtain ⟨sl',e2⟩:=slot b _ (neL b o e) hb (neC b o e hx) e1 (I.base.free b o e n hx)
    exact ⟨sl',e2⟩
  · obtain ⟨o',e1⟩:=I.base.there b o e hx
    exact free b o' (neC b o e hx) e1 (I.base.free b o e n hx)
  · obtain ⟨o',e1⟩:=I.base.there b o e hx
    exact there b o' (neC b o e hx) e1
  · obtain ⟨m1,e1⟩:=I.base.tbls b ps e
    obtain ⟨m2,e2⟩:=tbls b _ e1
    exact ⟨m1 ++ m2,by rw [e2,Array.append_assoc]⟩
  · obtain ⟨m,hn,hl⟩:=I.loc
    refine ⟨m,ns m hn,fun i x v e1 e2 e3=>?_⟩
    obtain ⟨u,r,l⟩:=hl i x v e1 e2 e3
    refine ⟨u,r,?_⟩
    rcases l with l | ⟨k,c,e,z⟩
    · exact .inl l
    · exact .inr ⟨k,c,e,cellK x c e _ z⟩
  · obtain ⟨v,z⟩:=I.cell x c e
    exact ⟨v,cellK x c e v z⟩
  · obtain ⟨m,⟨o,_,_,ho,_⟩,_⟩:=I.loc
    exact free _ o (fun z=>(hch _ z).2.1 rfl) ho I.free
  · obtain ⟨v,o,ho,hd⟩:=I.cell x c e
    exact free c o (fun z=>(hch c z).2.2.1 x c e rfl) ho (I.freeC x c e)
  · obtain ⟨e,n,ne,nf,d⟩:=I.pin p hp
    have nch:p.1 ∉ ch:=fun z=>(hch p.1 z).2.2.2 p hp rfl
    exact ⟨keep p.1 p.2 ne nf nch e n,free p.1 p.2 nch e n,ne,nf,d⟩
theorem Inv.un {t':Nat} (I:Inv X pins σ H s) (u:Un X.fs [] H H' s.heap h') (hok:HOk X.prog X.w H' h'):Inv X pins σ H' { s with heap:=h',toks:=t' }:=by
  obtain ⟨m,⟨o,es,ep,ho,r⟩,_⟩:=id I.loc
  obtain ⟨sl,hL⟩:=u.any ho I.free (by simp)
  exact I.step (g':=s.gens) (d':=s.drawn) (ch:=[]) (fun _ z=>nomatch z) (fun b o _ hb _ e n=>u.keep b o e n hb (by simp)) (fun b o _ hb _ e n=>u.slot b o e n hb (by simp)) (fun b o _ e n=>u.free b o e n (by simp)) (fun b o _ e=>u.there b o e (by simp)) u.tups u.frzs u.tbls (fun m' hm=>by
    obtain ⟨o',es',ep',ho',r'⟩:=hm
    rw [ho] at ho'; cases ho'
    exact ⟨_,es',ep',hL,r'⟩) hok I.bare
theorem Inv.call {g':Array GenState} {t':Nat} {d':Drawn} {ch:List Addr} (I:Inv X pins σ H s) (u:Un (frs X.stack) ch H H' s.heap h') (hok:HOk X.prog X.w H' h') (hg:AllBare g')
    (hch:∀ b ∈ ch,(b ∈ X.ex∨X.s₀.heap.objs.size<=b)∧b≠X.env.locals∧(∀ x c,X.env.cells.lookup x=some c->c≠b)∧∀ p ∈ X.pn ++ pins,p.1≠b) :
    Inv X pins σ H' { s with heap:=h',gens:=g',drawn:=d',toks:=t' }:=by
  obtain ⟨m,⟨o,es,ep,ho,r⟩,_⟩:=id I.loc
  obtain ⟨sl,hL⟩:=u.any ho I.free fun z=>(hch _ z).2.1 rfl
  exact I.step (ch:=ch) hch (fun b o hL hb hc e n=>u.keep b o e n (fun z=>(List.mem_cons.mp (I.stkSub b z)).elim hL hb) hc) (fun b o _ _ hc e n=>u.any e n hc) (fun b o hc e n=>u.free b o e n hc) (fun b o hc e=>u.there b o e hc) u.tups u.frzs u.tbls (fun m' hm=>by
    obtain ⟨o',es',ep',ho',r'⟩:=hm
    rw [ho] at ho'; cases ho'
    exact ⟨_,es',ep',hL,r'⟩) hok hg
theorem Inv.turned {t':Nat} {it:Addr} (I:Inv X pins σ H s) (k:∀ b o,b≠it->s.heap.get? b=some o->h'.get? b=some o) (hn:H it=none) (hL:it≠X.env.locals)
    (h1:it ∈ X.ex∨X.s₀.heap.objs.size<=it) (h2:∀ x c,X.env.cells.lookup x=some c->c≠it) (h3:∀ p ∈ X.pn ++ pins,p.1≠it):Inv X pins σ H { s with heap:=h',toks:=t' }:=by
  have nit:∀ b u,H b=some u->b≠it:=fun b u e z=>by rw [z,hn] at e; cases e
  refine I.step (g':=s.gens) (d':=s.drawn) (ch:=[it]) (fun b hb=>?_) (fun b o _ _ hc e _=>k b o (fun z=>hc (by simp [z])) e) (fun b o _ _ hc e _=>⟨o.slots,k b o (fun z=>hc (by simp [z])) e⟩) (fun _ _ _ _ n=>n)
    (fun b o hc e=>⟨o,k b o (fun z=>hc (by simp [z])) e⟩) (fun _ _ e=>e) (fun _ _ _ e=>e) (fun b ps e=>⟨#[],by rw [e]; simp⟩) (fun m hm=>?_) (fun b u e=>?_) I.bare
  · have e:b=it:=by simpa using hb
    subst e
    exact ⟨h1,hL,h2,h3⟩
  · obtain ⟨o,es,ep,ho,r⟩:=hm
    exact ⟨o,es,ep,k _ o (Ne.symm hL) ho,r⟩
  · refine (I.hok b u e).stay (fun c v hc q=>k c v ?_ q) (fun _ q=>q) fun _ _ q=>q
    rcases hc with z | z
    · rw [z]; exact nit b u e
    · exact nit c _ z
theorem Inv.tok (I:Inv X pins σ H s) (t:Nat):Inv X pins σ H { s with toks:=t }:=I.un (h':=s.heap) (t':=t) Un.refl I.hok
theorem Inv.kept {t':Nat} (I:Inv X pins σ H s) (k:∀ b u,s.heap.get? b=some u->h'.get? b=some u):Inv X pins σ H { s with heap:=h',toks:=t' }:=I.un (Un.kept k) (I.hok.kept k)
theorem Inv.laid {a:Addr} {o:HO} {t':Nat} (I:Inv X pins σ H s) (k:∀ b u,s.heap.get? b=some u->h'.get? b=some u) (hp:s.heap.objs.size<=a) (new:yr X.prog X.w (upd H a o) h' a o) :
    Inv X pins σ (upd H a o) { s with heap:=h',toks:=t' }:=I.un (Un.laid k hp (I.hok.fresh hp)) (I.hok.laid k hp new)
theorem Inv.write {x e:Addr} {o:HO} {t':Nat} (I:Inv X pins σ H s) (mu:Mut (H x)) (he:e=x∨H e=some (.own x)) (k:∀ b u,b≠e->s.heap.get? b=some u->h'.get? b=some u) (heo:∃ u,h'.get? e=some u)
    (new:yr X.prog X.w (upd H x o) h' x o):Inv X pins σ (upd H x o) { s with heap:=h',toks:=t' }:=I.un (Un.write mu he k heo) (I.hok.write mu he k heo new)
theorem Inv.weak {σ':List (Option V)} (I:Inv X pins σ H s) (hl:σ'.length=σ.length) (w:∀ (i:Nat) v,σ'[i]? = some (some v)->σ[i]? = some (some v)):Inv X pins σ' H s :=
  ⟨I.ok,I.os,I.bare,I.base,let ⟨m,hn,hl'⟩:=I.loc; ⟨m,hn,fun i x v e1 e2 e3=>hl' i x v e1 (w i v e2) e3⟩,I.cell,I.free,I.freeC,I.pin,I.hok,hl.trans I.len⟩
theorem Inv.pins_of {pins':List (Addr × Obj)} (I:Inv X pins σ H s) (h:∀ p ∈ pins',s.heap.get? p.1=some p.2∧H p.1=none∧p.1≠X.env.locals∧p.1 ∉ X.fs∧∀ v,p.2.data≠.cell v):Inv X pins' σ H s :=
  ⟨I.ok,I.os,I.bare,I.base,I.loc,I.cell,I.free,I.freeC,fun p hp=>(List.mem_append.mp hp).elim (fun z=>I.pin p (List.mem_append_left _ z)) (h p),I.hok,I.len⟩

theorem jae {N:List Str} (hN:N.Nodup) {i j:Nat} {x:Str} (a:N[i]? = some x) (b:N[j]? = some x):i=j:=by
  obtain ⟨h1,e1⟩:=List.getElem?_eq_some_iff.mp a
  obtain ⟨h2,e2⟩:=List.getElem?_eq_some_iff.mp b
  exact (List.getElem_inj hN).mp (e1.trans e2.symm)

theorem jda {M:Model} {A:Around} {E:Value->Shared->Prop} {i:Nat} {x:Str} {v:V} {u:Value} {Q:Unit->Shared->Prop} (I:Inv X pins σ H s) (hN:X.N.Nodup) (hi:X.N[i]? = some x) (hx:Loc X.env.scope x) (r:yh v u)
    (h:∀ s',Inv X pins (σ.set i (some v)) H s'->(∃ a,Heap.SameBut a s.heap s'.heap∧(a=X.env.locals∨X.env.cells.lookup x=some a))->Q () s') (hf:X.fn x=true∨X.env.scope.names.lookup x=some .local:=by first | exact .inl rfl | exact .inr rfl | assumption):wpAny M A (storeName X.env x u) Q E s:=by
  obtain ⟨m,hn,hl⟩:=id I.loc
  have hcls:(X.env.scope.kind == .class || (X.env.scope.kind == .module && X.env.locals != X.env.globals))=false:=by rw [I.ok.kind]; rfl
  have hiσ:i < σ.length:=by rw [I.len]; exact (List.getElem?_eq_some_iff.mp hi).1
  have cne:=I.cne
  have tracked:∀ {a:Addr} {h':Heap},(∃ o,s.heap.get? a=some o∧H a=none)->Heap.SameBut a s.heap h'->HOk X.prog X.w H h':=fun {a h'} ha hs b ob e=>by
    obtain ⟨_,_,hfree⟩:=ha
    refine (I.hok b ob e).stay (fun c w' hc q=>(hs.2 c ?_).trans q) (fun _ q=>q) fun _ _ q=>q
    rintro rfl
    rcases hc with rfl | hc
    · rw [hfree] at e; cases e
    · rw [hfree] at hc; cases hc
  rcases hx with hk | hk
  · refine wpAny_storeName_local hk hn (fun h' hn' hs=>?_) hcls
    obtain ⟨oL,_,_,hoL,_⟩:=id hn
    refine h _ ⟨I.ok,I.os,I.bare,⟨fun b o e n hb hx=>?_,fun b o e n hb hx=>?_,I.base.free,fun b o e hx=>?_,I.base.tups,I.base.frzs,I.base.tbls⟩,⟨_,hn',fun j y v' e1 e2 e3=>?_⟩,fun y c e=>?_,I.free,I.freeC,fun p hp=>?_,tracked ⟨oL,hoL,I.free⟩ hs,by simpa using I.len⟩ ⟨_,hs,.inl rfl⟩
    · exact (hs.2 b (Nat.ne_of_lt (Nat.lt_of_lt_of_le (Heap.lt_size e) I.ok.above))).trans (I.base.keep b o e n hb hx)
    · obtain ⟨sl,e1⟩:=I.base.slot b o e n hb hx
      exact ⟨sl,(hs.2 b (Nat.ne_of_lt (Nat.lt_of_lt_of_le (Heap.lt_size e) I.ok.above))).trans e1⟩
    · obtain ⟨o',e1⟩:=I.base.there b o e hx
      exact ⟨o',(hs.2 b (Nat.ne_of_lt (Nat.lt_of_lt_of_le (Heap.lt_size e) I.ok.above))).trans e1⟩
    · by_cases hj:j=i
      · subst hj
        rw [hi] at e1; cases e1
        rw [List.getElem?_set_self hiσ] at e2
        cases e2
        exact ⟨u,r,.inl ⟨hk,by simp⟩⟩
      · rw [List.getElem?_set_ne (Ne.symm hj)] at e2
        obtain ⟨u',r',q⟩:=hl j y v' e1 e2 e3
        refine ⟨u',r',?_⟩
        rcases q with ⟨k,e⟩ | ⟨k,c,e,z⟩
        · refine .inl ⟨k,?_⟩
          have:y≠x:=fun e=>hj (jae hN e1 (e ▸ hi))
          simp [this,e]
        · exact .inr ⟨k,c,e,z.sameBut hs (cne y c e)⟩
    · obtain ⟨w',z⟩:=I.cell y c e
      exact ⟨w',z.sameBut hs (cne y c e)⟩
    · obtain ⟨e,n,ne,nf,d⟩:=I.pin p hp
      exact ⟨(hs.2 p.1 ne).trans e,n,ne,nf,d⟩
  · have hfn:X.fn x=true:=by
      rcases hf with z | z
      · exact z
      · rw [z] at hk; cases hk
    obtain ⟨c,hc⟩:=I.ok.has x (.inl hk)
    obtain ⟨w',z⟩:=I.cell x c hc
    refine wpAny_storeName_cell I.ok.kind hk hc z (fun h' hc' hs=>?_)
    obtain ⟨oc,hoc,hocd⟩:=id z
    refine h { s with heap:=h' } ⟨I.ok,I.os,I.bare,⟨fun b o e n hb hx=>?_,fun b o e n hb hx=>?_,I.base.free,fun b o e hx=>?_,I.base.tups,I.base.frzs,I.base.tbls⟩,⟨m,hn.sameBut hs (Ne.symm (cne x c hc)),fun j y v' e1 e2 e3=>?_⟩,fun y c' e=>?_,I.free,I.freeC,fun p hp=>?_,tracked ⟨oc,hoc,I.freeC x c hc⟩ hs,by simpa using I.len⟩ ⟨c,hs,.inr hc⟩
    · exact (hs.2 b (Nat.ne_of_lt (Nat.lt_of_lt_of_le (Heap.lt_size e) (I.ok.cab x c hfn hc)))).trans (I.base.keep b o e n hb hx)
    · obtain ⟨sl,e1⟩:=I.base.slot b o e n hb hx
      exact ⟨sl,(hs.2 b (Nat.ne_of_lt (Nat.lt_of_lt_of_le (Heap.lt_size e) (I.ok.cab x c hfn hc)))).trans e1⟩
    · obtain ⟨o',e1⟩:=I.base.there b o e hx
      exact ⟨o',(hs.2 b (Nat.ne_of_lt (Nat.lt_of_lt_of_le (Heap.lt_size e) (I.ok.cab x c hfn hc)))).trans e1⟩
    · by_cases hj:j=i
      · subst hj
        rw [hi] at e1; cases e1
        rw [List.getElem?_set_self hiσ] at e2
        cases e2
        exact ⟨u,r,.inr ⟨.inl hk,c,hc,hc'⟩⟩
      · rw [List.getElem?_set_ne (Ne.symm hj)] at e2
        obtain ⟨u',r',q⟩:=hl j y v' e1 e2 e3
        refine ⟨u',r',?_⟩
        rcases q with q | ⟨k,c',e,z'⟩
        · exact .inl q
        · refine .inr ⟨k,c',e,z'.sameBut hs ?_⟩
          rintro rfl
          exact hj (jae hN e1 (I.ok.inj _ _ _ e hc ▸ hi))
    · by_cases hcc:c'=c
      · subst hcc; exact ⟨_,hc'⟩
      · obtain ⟨w2,z2⟩:=I.cell y c' e
        exact ⟨w2,z2.sameBut hs hcc⟩
    · obtain ⟨e,n,ne,nf,d⟩:=I.pin p hp
      refine ⟨(hs.2 p.1 ?_).trans e,n,ne,nf,d⟩
      intro q
      rw [q,hoc] at e
      have q':oc=p.2:=Option.some.inj e
      exact d w' (by rw [<- q']; exact hocd)
theorem UT {M:Model} {A:Around} {E:Value->Shared->Prop} {i:Nat} {x:Str} {v:V} {u:Value} {Q:Unit->Shared->Prop} (I:Inv X pins σ H s) (hN:X.N.Nodup) (hi:X.N[i]? = some x) (hx:Loc X.env.scope x) (r:yh v u)
    (h:∀ s',Inv X pins (σ.set i (some v)) H s'->Q () s') (hf:X.fn x=true∨X.env.scope.names.lookup x=some .local:=by first | exact .inl rfl | exact .inr rfl | assumption):wpAny M A (storeName X.env x u) Q E s :=
  jda I hN hi hx r (fun s' I' _=>h s' I') hf
theorem Inv.call' {s':Shared} {ch:List Addr} (I:Inv X pins σ H s) (ho:s'.os=s.os) (u:Un (frs X.stack) ch H H' s.heap s'.heap) (hok:HOk X.prog X.w H' s'.heap) (hg:AllBare s'.gens)
    (hch:∀ b ∈ ch,(b ∈ X.ex∨X.s₀.heap.objs.size<=b)∧b≠X.env.locals∧(∀ x c,X.env.cells.lookup x=some c->c≠b)∧∀ p ∈ X.pn ++ pins,p.1≠b):Inv X pins σ H' s':=by
  obtain ⟨h',g',d',t',o'⟩:=s'
  have e:o'=s.os:=ho
  subst e
  exact I.call (g':=g') (t':=t') (d':=d') u hok hg hch
end

abbrev XK:=Value->Option Addr->Hp->Prop
abbrev St:=List (Option V)
abbrev VK:=V->Hp->Prop
abbrev TE:=St->Hp->VK->Prop
abbrev TT:=St->Hp->(Bool->Hp->Prop)->Prop
abbrev TA:=St->Hp->(List V->Hp->Prop)->Prop
structure Ends where
  nx:St->Hp->Prop
  rt:VK
  bk:St->Hp->Prop:=fun _ _=>False
  ct:St->Hp->Prop:=fun _ _=>False
abbrev TS:=Ends->St->Hp->Prop

def EP (X:Cx) (pins:List (Addr × Obj)) (σ:St) (Q:VK) (u:Value) (s':Shared):Prop:=∃ v H',Inv X pins σ H' s'∧yh v u∧Q v H'
def TP (X:Cx) (pins:List (Addr × Obj)) (σ:St) (Q:Bool->Hp->Prop) (b:Bool) (s':Shared):Prop:=∃ H',Inv X pins σ H' s'∧Q b H'
def AP (X:Cx) (pins:List (Addr × Obj)) (σ:St) (Q:List V->Hp->Prop) (us:List Value) (s':Shared):Prop:=∃ vs H',Inv X pins σ H' s'∧yg vs us∧Q vs H'
def SP (X:Cx) (pins:List (Addr × Obj)) (D:Ends) (f:Flow) (s':Shared):Prop :=
  match f with
  | .next=>∃ σ' H',Inv X pins σ' H' s'∧D.nx σ' H'
  | .brk=>∃ σ' H',Inv X pins σ' H' s'∧D.bk σ' H'
  | .cont=>∃ σ' H',Inv X pins σ' H' s'∧D.ct σ' H'
  | .ret u=>∃ v σ' H',Inv X pins σ' H' s'∧yh v u∧D.rt v H'

def PE (X:Cx) (e:Expr) (t:TE):Prop :=
  ∀ (pins:List (Addr × Obj)) (s:Shared) (σ:St) (H:Hp) (Q:VK),Inv X pins σ H s->t σ H Q->wpAny (model X.prog X.w) X.A (eval e X.env) (EP X pins σ Q) X.xe s
def PT (X:Cx) (e:Expr) (t:TT):Prop :=
  ∀ (pins:List (Addr × Obj)) (s:Shared) (σ:St) (H:Hp) (Q:Bool->Hp->Prop),Inv X pins σ H s->t σ H Q->wpAny (model X.prog X.w) X.A (isTrue e X.env (eval e X.env)) (TP X pins σ Q) X.xe s
def PW (X:Cx) (e:Expr) (t:TT):Prop :=
  ∀ (whole:Sem Value) (pins:List (Addr × Obj)) (s:Shared) (σ:St) (H:Hp) (Q:Bool->Hp->Prop),Inv X pins σ H s->t σ H Q->wpAny (model X.prog X.w) X.A (isTrue e X.env whole) (TP X pins σ Q) X.xe s
theorem PW.pt {X:Cx} {e:Expr} {t:TT} (h:PW X e t):PT X e t:=h _
def PA (X:Cx) (es:List Expr) (t:TA):Prop :=
  ∀ (pos:Pos) (pins:List (Addr × Obj)) (s:Shared) (σ:St) (H:Hp) (Q:List V->Hp->Prop),Inv X pins σ H s->t σ H Q->wpAny (model X.prog X.w) X.A (spliced (backTo pos (starEach es X.env))) (AP X pins σ Q) X.xe s
def PS (X:Cx) (st:Stmt) (t:TS):Prop :=
  ∀ (pins:List (Addr × Obj)) (s:Shared) (σ:St) (H:Hp) (D:Ends),Inv X pins σ H s->t D σ H->wpAny (model X.prog X.w) X.A (exec st X.env) (SP X pins D) X.xe s
def PSs (X:Cx) (st:List Stmt) (t:TS):Prop :=
  ∀ (pins:List (Addr × Obj)) (s:Shared) (σ:St) (H:Hp) (D:Ends),Inv X pins σ H s->t D σ H->wpAny (model X.prog X.w) X.A (execs st X.env) (SP X pins D) X.xe s
theorem thn {α:Type} {t:Sem α} {Q Q':α->Shared->Prop} {M:Model} {A:Around} {E:Value->Shared->Prop} {s:Shared} (h:wpAny M A t Q E s) (hQ:∀ a s,Q a s->Q' a s):wpAny M A t Q' E s:=wpAny_mono h hQ fun _ _ x=>x
end L2

namespace L2
open PySem PySem.Spec PyProof.Rows
section
variable {X:Cx}

def jaZ (i:Nat):TE:=fun σ H Q=>∃ v,σ[i]? = some (some v)∧Q v H
def tC (v:V):TE:=fun _ H Q=>Q v H
theorem Um {i:Nat} {x:Str} {pos:Pos} (hN:X.N[i]? = some x) (hv:Vis X.env.scope x) (hd:(x == ("__debug__":Str))=false:=by decide) (hcd:(x == ("__classdict__":Str))=false:=by decide):PE X (.Name x pos) (jaZ i):=by
  intro pins s σ H Q I h
  obtain ⟨v,e,h⟩:=h
  obtain ⟨m,hn,hl⟩:=I.loc
  obtain ⟨u,r,l⟩:=hl i x v hN e hv
  have fin:EP X pins σ Q u s:=⟨v,H,I,r,h⟩
  rcases l with ⟨hk,hm⟩ | ⟨hk,c,hc,hcell⟩
  · exact wpAny_Name (wpAny_loadName_local I.ok.kind hk hn hm fin) hd
  · rcases hk with hk | hk
    · exact wpAny_Name (wpAny_loadName_cell I.ok.kind hk hc hcell fin) hd
    · exact wpAny_Name (wpAny_loadName_free I.ok.kind hk hc hcell fin hcd) hd
theorem pe_int {i j pos}:PE X (.Constant (.int i) j pos) (tC (.int i)):=fun _ _ _ H _ I h=>wpAny_Constant_int ⟨.int i,H,I.tok _,⟨_,rfl⟩,h⟩
theorem pe_bl {b j pos}:PE X (.Constant (.bool b) j pos) (tC (.bl b)):=fun _ _ _ H _ I h=>Constant_bool ⟨.bl b,H,I,rfl,h⟩
theorem pe_non {j pos}:PE X (.Constant .none j pos) (tC .non):=fun _ _ _ H _ I h=>Constant_none ⟨.non,H,I,rfl,h⟩
theorem jeR {x j pos}:PE X (.Constant (.str x) j pos) (tC (.str x)):=fun _ _ _ H _ I h=>Calls.Constant_str ⟨.str x,H,I.tok _,⟨_,rfl⟩,h⟩

def Gl (X:Cx) (x:Str):Prop:=X.env.kindOf x=some .globalImplicit
theorem JO {E:Value->Shared->Prop} {pins:List (Addr × Obj)} {s:Shared} {σ:St} {H:Hp} {x:Str} {u:Value} {pos:Pos} {Q:Value->Shared->Prop} (I:Inv X pins σ H s) (hg:Gl X x) (hm:X.mg x=some u) (h:Q u s)
    (hd:(x == ("__debug__":Str))=false:=by decide):wpAny (model X.prog X.w) X.A (eval (.Name x pos) X.env) Q E s :=
  Calls.Name_function_global I.ok.kind hg (Calls.loadGlobal_global (by rw [I.ok.glob]; exact I.mod.glob.keeps I.bk) hm h) hd
theorem Yu {E:Value->Shared->Prop} {pins:List (Addr × Obj)} {s:Shared} {σ:St} {H:Hp} {x:Str} {u:Value} {pos:Pos} {Q:Value->Shared->Prop} (I:Inv X pins σ H s) (hg:Gl X x) (hm:X.mg x=none) (hv:bootBuiltins x=some u) (h:Q u s)
    (hn:x≠"__name__":=by decide) (hd:(x == ("__debug__":Str))=false:=by decide):wpAny (model X.prog X.w) X.A (eval (.Name x pos) X.env) Q E s:=by
  obtain ⟨mb,h1,h2⟩:=I.mod.blt
  exact Calls.Name_function_global I.ok.kind hg (Calls.loadGlobal_builtin (by rw [I.ok.glob]; exact I.mod.glob.keeps I.bk) hm (by rw [I.ok.blt]; exact h1.keeps I.bk) ((h2 x hn).trans hv) h) hd
theorem Uo {x:Str} {v:V} {u:Value} {pos:Pos} (hg:Gl X x) (hm:X.mg x=some u) (r:yh v u) (hd:(x == ("__debug__":Str))=false:=by decide):PE X (.Name x pos) (tC v) :=
  fun _ _ _ H _ I h=>JO I hg hm ⟨v,H,I,r,h⟩ hd
theorem jhx {x:Str} {v:V} {u:Value} {pos:Pos} (hg:Gl X x) (hm:X.mg x=none) (hv:bootBuiltins x=some u) (r:yh v u) (hn:x≠"__name__":=by decide) (hd:(x == ("__debug__":Str))=false:=by decide):PE X (.Name x pos) (tC v) :=
  fun _ _ _ H _ I h=>Yu I hg hm hv ⟨v,H,I,r,h⟩ hn hd

variable {a b:Expr} {ta tb:TE} {pos:Pos}
def PC (X:Cx) (op:CmpOp) (a b:Expr) (t:TE):Prop :=
  ∀ (pins:List (Addr × Obj)) (s:Shared) (σ:St) (H:Hp) (Q:VK),Inv X pins σ H s->t σ H Q ->
    wpAny (model X.prog X.w) X.A (eval a X.env) (fun v s₁=>wpAny (model X.prog X.w) X.A (eval b X.env) (fun u s₂=>wpAny (model X.prog X.w) X.A (compareOp op v u) (EP X pins σ Q) X.xe s₂) X.xe s₁) X.xe s
theorem jaf (b:Expr) {op:CmpOp} (h:op≠.In) (h2:op≠.NotIn):behindInMarks op b=false:=by
  have e1:(op == CmpOp.In)=false:=by cases op <;> first | rfl | exact absurd rfl h
  have e2:(op == CmpOp.NotIn)=false:=by cases op <;> first | rfl | exact absurd rfl h2
  cases b <;> simp [behindInMarks,e1,e2]
def tB (t:TE):TT:=fun σ H Q=>t σ H fun x H1=>∃ c,x = .bl c∧Q c H1
theorem pe_cmp {op:CmpOp} {t:TE} (h:PC X op a b t) (h1:behindInMarks op b=false:=by first | exact jaf _ (by decide) (by decide) | rfl):PE X (.Compare a [op] [b] pos) t:=fun pins s σ H Q I hw=>wpAny_Compare1 (h pins s σ H Q I hw) h1
theorem pt_cmp {op:CmpOp} {t:TE} (h:PC X op a b t) (h1:behindInMarks op b=false:=by first | exact jaf _ (by decide) (by decide) | rfl):PT X (.Compare a [op] [b] pos) (tB t):=by
  intro pins s σ H Q I hw
  refine wpAny_isTrue_Compare1 (thn (h pins s σ H _ I hw) fun v s1 h1=>thn h1 fun u s2 h2=>thn h2 fun c s3 hQQ=>?_) h1
  obtain ⟨x,H1,I1,r1,q1⟩:=hQQ
  obtain ⟨d,rfl,q⟩:=q1
  cases r1
  exact wpAny_truthy_bool ⟨H1,I1,q⟩
variable {tA tB':TT} {rest:List Expr}
def tAnd (t u:TT):TT:=fun σ H Q=>t σ H fun c H1=>if c=true then u σ H1 Q else Q false H1
def tOr (t u:TT):TT:=fun σ H Q=>t σ H fun c H1=>if c=true then Q true H1 else u σ H1 Q
def tNot (t:TT):TT:=fun σ H Q=>t σ H fun c H1=>Q (!c) H1
theorem jhg (ha:PT X a tA):PW X (.BoolOp .And [a] pos) tA:=by
  intro wh pins s σ H Q I h
  refine isTrue_and (thn (ha pins s σ H Q I h) fun c s1 e=>?_)
  cases c with
  | true=>exact isTrue_and_nil e
  | false=>exact e
theorem pw_or1 (ha:PT X a tA):PW X (.BoolOp .Or [a] pos) tA:=by
  intro wh pins s σ H Q I h
  refine isTrue_or (thn (ha pins s σ H Q I h) fun c s1 e=>?_)
  cases c with
  | false=>exact isTrue_or_nil e
  | true=>exact e
theorem pw_and (ha:PT X a tA) (hb:PW X (.BoolOp .And (b :: rest) pos) tB'):PW X (.BoolOp .And (a :: b :: rest) pos) (tAnd tA tB'):=by
  intro wh pins s σ H Q I h
  refine isTrue_and (thn (ha pins s σ H _ I h) fun c s1 hQQ=>?_)
  obtain ⟨H1,I1,q1⟩:=hQQ
  cases c with
  | true=>exact hb wh pins s1 σ H1 Q I1 q1
  | false=>exact ⟨H1,I1,q1⟩
theorem pw_or (ha:PT X a tA) (hb:PW X (.BoolOp .Or (b :: rest) pos) tB'):PW X (.BoolOp .Or (a :: b :: rest) pos) (tOr tA tB'):=by
  intro wh pins s σ H Q I h
  refine isTrue_or (thn (ha pins s σ H _ I h) fun c s1 hQQ=>?_)
  obtain ⟨H1,I1,q1⟩:=hQQ
  cases c with
  | true=>exact ⟨H1,I1,q1⟩
  | false=>exact hb wh pins s1 σ H1 Q I1 q1
theorem pt_not (ha:PT X a tA):PT X (.UnaryOp .Not a pos) (tNot tA):=by
  intro pins s σ H Q I h
  exact isTrue_not (ha pins s σ H (fun c H1=>Q (!c) H1) I h)
def tAndV (ta tb:TE):TE:=fun σ H Q=>ta σ H fun x H1=>∃ c,x = .bl c∧if c=true then tb σ H1 Q else Q (.bl false) H1
def tNotV (ta:TE):TE:=fun σ H Q=>ta σ H fun x H1=>∃ c,x = .bl c∧Q (.bl (!c)) H1
theorem pe_one {op} {t:TE} (h:PE X a t):PE X (.BoolOp op [a] pos) t:=fun pins s σ H Q I hw=>BoolOp_one (h pins s σ H Q I hw)
theorem pe_and (ha:PE X a ta) (hb:PE X (.BoolOp .And (b :: rest) pos) tb):PE X (.BoolOp .And (a :: b :: rest) pos) (tAndV ta tb):=by
  intro pins s σ H Q I h
  refine BoolOp_and (thn (ha pins s σ H _ I h) fun v s1 hQQ=>?_)
  obtain ⟨x,H1,I1,r1,q1⟩:=hQQ
  obtain ⟨c,rfl,q1⟩:=q1
  cases r1
  refine wpAny_truthy_bool ?_
  cases c with
  | true=>exact hb pins s1 σ H1 Q I1 q1
  | false=>exact ⟨.bl false,H1,I1,rfl,q1⟩
theorem pe_not (ha:PE X a ta):PE X (.UnaryOp .Not a pos) (tNotV ta):=by
  intro pins s σ H Q I h
  refine UnaryOp_ (thn (ha pins s σ H _ I h) fun v s1 hQQ=>?_)
  obtain ⟨x,H1,I1,r1,q1⟩:=hQQ
  obtain ⟨c,rfl,q1⟩:=q1
  cases r1
  exact not_of (wpAny_truthy_bool ⟨.bl (!c),H1,I1,rfl,q1⟩)
def tIf (t:TT) (ta tb:TE):TE:=fun σ H Q=>t σ H fun c H1=>if c=true then ta σ H1 Q else tb σ H1 Q
theorem jeV {c:Expr} (hc:PT X c tA) (ha:PE X a ta) (hb:PE X b tb):PE X (.IfExp c a b pos) (tIf tA ta tb):=by
  intro pins s σ H Q I h
  refine wpAny_IfExp (thn (hc pins s σ H _ I h) fun d s1 hQQ=>?_)
  obtain ⟨H1,I1,q1⟩:=hQQ
  cases d with
  | true=>exact ha pins s1 σ H1 Q I1 q1
  | false=>exact hb pins s1 σ H1 Q I1 q1
end
end L2

namespace L2
open PySem PySem.Spec PyProof.Rows

def SqL (K:PySem.W.Frag) (H:Hp) (a:Addr) (xs:List V):Prop :=
  Rd H a (.lst xs) ∨
    ∃ (o:Obj) (its:Array Value) (n:Nat),K.lookup a=some o∧o.cls = .type "list"∧o.dict=none∧o.data = .seq its n∧its.size<=sizeLine∧yg xs its.toList
def SqT (K:PySem.W.Frag) (H:Hp) (a:Addr) (xs:List V):Prop :=
  Rd H a (.tup xs) ∨
    ∃ (o:Obj) (its:Array Value) (n:Nat),K.lookup a=some o∧o.cls = .type "tuple"∧o.data = .seq its n∧its.size<=sizeLine∧yg xs its.toList
def absV:Value->Option V
  | .none=>some .non
  | .bool b=>some (.bl b)
  | .int i _=>some (.int i)
  | .str x _=>some (.str x)
  | .bytes b _=>some (.byt b)
  | .float b _=>some (.flt b)
  | .ref a=>some (.ref a)
  | .type n=>some (.ty n)
  | _=>none
theorem yh.abs {x:V} {u:Value} (r:yh x u):absV u=some x:=by
  cases x with
  | non=>cases r; rfl
  | bl _=>cases r; rfl
  | int _=>obtain ⟨t,rfl⟩:=r; rfl
  | str _=>obtain ⟨t,rfl⟩:=r; rfl
  | byt _=>obtain ⟨t,rfl⟩:=r; rfl
  | flt _=>obtain ⟨t,rfl⟩:=r; rfl
  | ref _=>cases r; rfl
  | ty _=>cases r; rfl
theorem yh.inj {x y:V} {u:Value} (r:yh x u) (q:yh y u):x=y:=Option.some.inj (r.abs.symm.trans q.abs)
theorem yg.inj {xs ys:List V} {us:List Value} (h:yg xs us) (h':yg ys us):xs=ys:=by
  induction h generalizing ys with
  | nil=>cases h'; rfl
  | cons r t ih =>
    cases h' with
    | cons r' t'=>rw [r.inj r',ih t']
section
variable {X:Cx} {pins:List (Addr × Obj)} {σ:St} {H:Hp} {s:Shared} {a:Addr} {xs ys:List V}
theorem SqL.of {K:PySem.W.Frag} (h:H a=some (.lst xs)):SqL K H a xs:=.inl (.inl h)
theorem SqT.of {K:PySem.W.Frag} (h:H a=some (.tup xs)):SqT K H a xs:=.inl (.inl h)
theorem Inv.list (I:Inv X pins σ H s) (h:SqL X.K H a xs):∃ its:List Value,yg xs its∧PlainL s.heap a its.toArray∧xs.length<=sizeLine:=by
  rcases h with h | ⟨o,its,n,hk,hc,hd,hs,hz,r⟩
  · obtain ⟨z,its,n,r,e⟩:=h.ok I.hok
    exact ⟨its,r,⟨_,n,e,rfl,rfl,rfl⟩,z⟩
  · refine ⟨its.toList,r,⟨o,n,I.kIn a o hk,hc,hd,by simpa using hs⟩,?_⟩
    have e:=r.length
    simp only [Array.length_toList] at e
    omega
theorem Inv.tuple (I:Inv X pins σ H s) (h:SqT X.K H a xs):∃ its:List Value,yg xs its∧IsTup s.heap a its.toArray∧xs.length<=sizeLine:=by
  rcases h with h | ⟨o,its,n,hk,hc,hs,hz,r⟩
  · obtain ⟨z,its,r,p⟩:=h.ok I.hok
    exact ⟨its,r,p,z⟩
  · refine ⟨its.toList,r,⟨o,I.kIn a o hk,hc,n,by simpa using hs⟩,?_⟩
    have e:=r.length
    simp only [Array.length_toList] at e
    omega
theorem Inv.list_inj (I:Inv X pins σ H s) (h:SqL X.K H a xs) (h':SqL X.K H a ys):xs=ys:=by
  obtain ⟨its,r,⟨o,n,e,_,_,d⟩,_⟩:=I.list h
  obtain ⟨its',r',⟨o',n',e',_,_,d'⟩,_⟩:=I.list h'
  rw [e] at e'; cases e'
  rw [d] at d'
  injection d' with d1 _
  have:its=its':=by simpa using congrArg Array.toList d1
  subst this
  exact r.inj r'
theorem Inv.tuple_inj (I:Inv X pins σ H s) (h:SqT X.K H a xs) (h':SqT X.K H a ys):xs=ys:=by
  obtain ⟨its,r,⟨o,e,_,n,d⟩,_⟩:=I.tuple h
  obtain ⟨its',r',⟨o',e',_,n',d'⟩,_⟩:=I.tuple h'
  rw [e] at e'; cases e'
  rw [d] at d'
  injection d' with d1 _
  have:its=its':=by simpa using congrArg Array.toList d1
  subst this
  exact r.inj r'
end

abbrev Cx.wish (X:Cx) (E:Value->Shared->Prop):Cx:={ X with xe:=E }
abbrev Cx.nox (X:Cx):Cx:=X.wish fun _ _=>False
theorem Cx.Ok.wish {X:Cx} (ok:X.Ok) (E:Value->Shared->Prop):(X.wish E).Ok :=
  ⟨ok.mod,ok.kind,ok.glob,ok.blt,ok.above,ok.inj,ok.has,ok.cab,ok.hd,ok.frames,ok.stk,ok.exf,ok.bs,ok.bsz,ok.noex,ok.exfs,ok.funs,ok.frf⟩
theorem Cx.Ok.unwish {X:Cx} {E:Value->Shared->Prop} (ok:(X.wish E).Ok):X.Ok :=
  ⟨ok.mod,ok.kind,ok.glob,ok.blt,ok.above,ok.inj,ok.has,ok.cab,ok.hd,ok.frames,ok.stk,ok.exf,ok.bs,ok.bsz,ok.noex,ok.exfs,ok.funs,ok.frf⟩
section
variable {X:Cx} {pins:List (Addr × Obj)} {σ:St} {H:Hp} {s:Shared} {E:Value->Shared->Prop}
theorem Inv.wish (I:Inv X pins σ H s) (E:Value->Shared->Prop):Inv (X.wish E) pins σ H s:=⟨I.ok.wish E,I.os,I.bare,I.base,I.loc,I.cell,I.free,I.freeC,I.pin,I.hok,I.len⟩
theorem Inv.unwish (I:Inv (X.wish E) pins σ H s):Inv X pins σ H s:=⟨I.ok.unwish,I.os,I.bare,I.base,I.loc,I.cell,I.free,I.freeC,I.pin,I.hok,I.len⟩
theorem SP.unwish {D:Ends} {f:Flow} {s':Shared} (h:SP (X.wish E) pins D f s'):SP X pins D f s':=by
  cases f with
  | next=>obtain ⟨σ',H',I,q⟩:=h; exact ⟨σ',H',I.unwish,q⟩
  | brk=>obtain ⟨σ',H',I,q⟩:=h; exact ⟨σ',H',I.unwish,q⟩
  | cont=>obtain ⟨σ',H',I,q⟩:=h; exact ⟨σ',H',I.unwish,q⟩
  | ret u=>obtain ⟨v,σ',H',I,r,q⟩:=h; exact ⟨v,σ',H',I.unwish,r,q⟩
theorem PSs.nox {st:List Stmt} {t:TS} (h:PSs X.nox st t):PSs X st t:=fun pins s σ H D I hw =>
  wpAny_mono (h pins s σ H D (I.wish _) hw) (fun _ _ q=>q.unwish) fun _ _ z=>False.elim z
end

section
variable {X:Cx} {st:Stmt} {rest:List Stmt} {t u:TS} {e:Expr} {te:TE} {pos:Pos}
def tNext:TS:=fun D σ H=>D.nx σ H
def tSeq (t u:TS):TS:=fun D σ H=>t { D with nx:=u D } σ H
theorem jhl:PSs X [] tNext:=fun _ _ σ H _ I h=>wpAny_execs_nil ⟨σ,H,I,h⟩
theorem jeF (h1:PS X st t) (h2:PSs X rest u):PSs X (st :: rest) (tSeq t u):=by
  intro pins s σ H D I h
  refine wpAny_execs_cons (thn (h1 pins s σ H { D with nx:=u D } I h) fun f s1 q=>?_)
  cases f with
  | next =>
    obtain ⟨σ',H',I',q⟩:=q
    exact h2 pins s1 σ' H' D I' q
  | ret v=>exact q
  | brk=>exact q
  | cont=>exact q
theorem jhk (h1:PS X st t):PSs X [st] t:=by
  intro pins s σ H D I h
  refine wpAny_execs_cons (thn (h1 pins s σ H D I h) fun f s1 q=>?_)
  cases f with
  | next=>exact wpAny_execs_nil q
  | ret v=>exact q
  | brk=>exact q
  | cont=>exact q
theorem Inv.quiet {pins:List (Addr × Obj)} {σ:St} {H:Hp} {s:Shared} (I:Inv X pins σ H s):interactive X.env=false:=by simp [interactive,I.ok.kind]
def tDrop (te:TE):TS:=fun D σ H=>te σ H fun _ H1=>D.nx σ H1
theorem jhm (he:PE X e te) (hs:swapsWith e none pos.line X.env=pure false:=by rfl):PS X (.Expr e pos) (tDrop te):=by
  intro pins s σ H D I h
  exact wpAny_Expr_any (thn (he pins s σ H _ I h) fun v s1 ⟨x,H1,I1,r1,q1⟩=>⟨σ,H1,I1,q1⟩) I.quiet hs
def tRet (te:TE):TS:=fun D σ H=>te σ H D.rt
theorem ps_ret (he:PE X e te):PS X (.Return (some e) pos) (tRet te):=by
  intro pins s σ H D I h
  exact wpAny_Return_some (thn (he pins s σ H _ I h) fun v s1 ⟨x,H1,I1,r1,q1⟩=>⟨x,σ,H1,I1,r1,q1⟩)
def tIfS (c:TT) (t u:TS):TS:=fun D σ H=>c σ H fun b H1=>if b=true then t D σ H1 else u D σ H1
theorem ps_if {c:Expr} {a b:List Stmt} {tc:TT} (hc:PT X c tc) (ha:PSs X a t) (hb:PSs X b u):PS X (.If c a b pos) (tIfS tc t u):=by
  intro pins s σ H D I h
  refine wpAny_If (thn (hc pins s σ H _ I h) fun d s1 hQQ=>?_)
  obtain ⟨H1,I1,q1⟩:=hQQ
  cases d with
  | true=>exact ha pins s1 σ H1 D I1 q1
  | false=>exact hb pins s1 σ H1 D I1 q1
def tNever:TS:=fun _ _ _=>False
theorem jeH:PS X st tNever:=fun _ _ _ _ _ _ h=>h.elim
end

abbrev TG:=V->St->Hp->(St->Hp->Prop)->Prop
abbrev TGs:=List V->St->Hp->(St->Hp->Prop)->Prop
def PG (X:Cx) (target:Expr) (t:TG):Prop :=
  ∀ (pins:List (Addr × Obj)) (s:Shared) (σ:St) (H:Hp) (v:V) (u:Value) (Q:St->Hp->Prop),Inv X pins σ H s->yh v u->t v σ H Q ->
    wpAny (model X.prog X.w) X.A (assign target X.env u) (fun _ s'=>∃ σ' H',Inv X pins σ' H' s'∧Q σ' H') X.xe s
def PGs (X:Cx) (ts:List Expr) (t:TGs):Prop :=
  ∀ (pins:List (Addr × Obj)) (s:Shared) (σ:St) (H:Hp) (vs:List V) (us:List Value) (Q:St->Hp->Prop),Inv X pins σ H s->yg vs us->t vs σ H Q ->
    wpAny (model X.prog X.w) X.A (assignInOrder ((assignEach ts X.env).map (·.2)) us) (fun _ s'=>∃ σ' H',Inv X pins σ' H' s'∧Q σ' H') X.xe s
abbrev TSet:=V->V->V->Hp->(Hp->Prop)->Prop
def PSet (X:Cx) (t:TSet):Prop :=
  ∀ (pins:List (Addr × Obj)) (s:Shared) (σ:St) (H:Hp) (o i v:V) (ov iv u:Value) (Q:Hp->Prop),Inv X pins σ H s->yh o ov->yh i iv->yh v u->t o i v H Q ->
    wpAny (model X.prog X.w) X.A (setItem ov iv u) (fun _ s'=>∃ H',Inv X pins σ H' s'∧Q H') X.xe s
section
variable {X:Cx} {pos:Pos}
def uk (i:Nat):TG:=fun v σ H Q=>Q (σ.set i (some v)) H
theorem jJ {i:Nat} {x:Str} (hN:X.N.Nodup) (hi:X.N[i]? = some x) (hx:Loc X.env.scope x) (hf:X.fn x=true∨X.env.scope.names.lookup x=some .local:=by first | exact .inl rfl | exact .inr rfl | assumption):PG X (.Name x pos) (uk i):=by
  intro pins s σ H v u Q I r h
  exact wpAny_assign_Name (UT I hN hi hx r (fun s' I'=>⟨_,H,I',h⟩) hf)
def gNil:TGs:=fun vs σ H Q=>vs=[]∧Q σ H
def jau (t:TG) (u:TGs):TGs:=fun vs σ H Q=>∃ v r,vs=v :: r∧t v σ H fun σ' H'=>u r σ' H' Q
theorem jcm:PGs X [] gNil:=by
  intro pins s σ H vs us Q I r h
  obtain ⟨e,h⟩:=h
  subst e
  cases r
  exact assignInOrder_nil ⟨σ,H,I,h⟩
theorem Yp {e:Expr} {es:List Expr} {t:TG} {u:TGs} (h1:PG X e t) (h2:PGs X es u)
    (hs:(assignEach (e :: es) X.env).map (·.2)=assign e X.env :: (assignEach es X.env).map (·.2):=by rfl):PGs X (e :: es) (jau t u):=by
  intro pins s σ H vs us Q I r h
  obtain ⟨v,vr,e1,h⟩:=h
  subst e1
  cases r with
  | cons r rr =>
    rw [hs]
    refine assignInOrder_cons (thn (h1 pins s σ H _ _ _ I r h) fun _ s1 hQQ=>?_)
    obtain ⟨σ1,H1,I1,q1⟩:=hQQ
    exact h2 pins s1 σ1 H1 _ _ Q I1 rr q1
def gTup (K:PySem.W.Frag) (n:Nat) (t:TGs):TG:=fun v σ H Q=>∃ a xs,v = .ref a∧SqT K H a xs∧xs.length=n∧t xs σ H Q
theorem jeP {es:List Expr} {k:Nat} {t:TGs} {n:Nat} (hc:X.calm=true) (h:PGs X es t)
    (hn:(assignEach es X.env).length=n:=by rfl) (hst:(assignEach es X.env).findIdx? (·.1)=none:=by rfl):PG X (.Tuple es k pos) (gTup X.K n t):=by
  intro pins s σ H v u Q I r hw
  obtain ⟨a,xs,e1,hq,hl,hw⟩:=hw
  subst e1
  cases r
  obtain ⟨its,rv,ht,hz⟩:=I.tuple hq
  refine assign_Tuple_tuple (I.ok.hd hc) ht (by simp [hn,<- hl,rv.length]) hst fun h' hx=>?_
  have I1:Inv X pins σ H { s with heap:=h' }:=I.kept (t':=s.toks) fun b o e=>hx b o (Nat.ne_of_lt (Heap.lt_size e)) e
  exact h pins _ σ H xs _ Q I1 (by simpa using rv) hw
def jbC (to ti:TE) (t:TSet):TG:=fun v σ H Q=>to σ H fun o H1=>ti σ H1 fun i H2=>t o i v H2 fun H3=>Q σ H3
theorem pg_sub {o i:Expr} {to ti:TE} {t:TSet} (ho:PE X o to) (hi:PE X i ti) (hs:PSet X t)
    (ha:∀ v,assign (.Subscript o i pos) X.env v=(do
      let ov <- holding [v] (eval o X.env)
      let iv <- holding [v,ov] (eval i X.env)
      standAt pos
      holding [v,ov,iv] (setItem ov iv v)
      release [v,ov,iv] []):=by intro _; rfl):PG X (.Subscript o i pos) (jbC to ti t):=by
  intro pins s σ H v u Q I r h
  rw [ha]
  refine wpAny_bind (wpAny_holding (thn (ho pins s σ H _ I h) fun ov s1 hQQ=>?_))
  obtain ⟨x,H1,I1,r1,q1⟩:=hQQ
  refine wpAny_bind (wpAny_holding (thn (hi pins s1 σ H1 _ I1 q1) fun iv s2 hQQ=>?_))
  obtain ⟨y,H2,I2,r2,q2⟩:=hQQ
  refine wpAny_bind (wpAny_standAt (wpAny_bind (wpAny_holding (thn (hs pins s2 σ H2 x y v ov iv u _ I2 r1 r2 r q2) fun _ s3 hQQ=>?_))))
  obtain ⟨H3,I3,q3⟩:=hQQ
  exact wpAny_release ⟨σ,H3,I3,q3⟩
def tAsg (te:TE) (g:TG):TS:=fun D σ H=>te σ H fun x H1=>g x σ H1 D.nx
theorem jeI {tg e:Expr} {te:TE} {g:TG} (he:PE X e te) (hg:PG X tg g) (hs:swapsWithSole [tg] e pos.line X.env=pure false:=by rfl) (hw:swappedStores [tg] e X.env=pure none:=by rfl)
    (h1:(assignEach [tg] X.env).map (·.2)=[assign tg X.env]:=by rfl):PS X (.Assign [tg] e pos) (tAsg te g):=by
  intro pins s σ H D I h
  refine wpAny_Assign_stores (thn (he pins s σ H _ I h) fun v s1 hQQ=>?_) hs hw
  obtain ⟨x,H1,I1,r1,q1⟩:=hQQ
  rw [h1]
  exact thn (hg pins s1 σ H1 x v _ I1 r1 q1) fun _ s2 q=>q
theorem ps_set {i:Nat} {x:Str} {e:Expr} {te:TE} {pos':Pos} (hN:X.N.Nodup) (hi:X.N[i]? = some x) (hx:Loc X.env.scope x) (he:PE X e te) (hs:swapsWith e (some (.Name x pos')) pos.line X.env=pure false:=by rfl) (hf:X.fn x=true∨X.env.scope.names.lookup x=some .local:=by first | exact .inl rfl | exact .inr rfl | assumption) :
    PS X (.Assign [.Name x pos'] e pos) (tAsg te (uk i)):=by
  intro pins s σ H D I h
  refine wpAny_Assign_Name (thn (he pins s σ H _ I h) fun v s1 hQQ=>?_) hs
  obtain ⟨y,H1,I1,r1,q1⟩:=hQQ
  exact UT I1 hN hi hx r1 (fun s2 I2=>⟨_,H1,I2,q1⟩) hf
end

section
variable {X:Cx} {pos:Pos}
end

structure It where
  go:Nat->Hp->Prop
  yld:Nat->Hp->V->Hp->Prop
  stop:Nat->Hp->Prop
def ug (X:Cx) (pins:List (Addr × Obj)) (H:Hp) (b:Addr):Prop :=
  H b=none∧b≠X.env.locals∧b ∉ X.fs∧(b ∈ X.ex∨X.s₀.heap.objs.size<=b)∧(∀ x c,X.env.cells.lookup x=some c->c≠b)∧∀ p ∈ X.pn ++ pins,p.1≠b
theorem Inv.fpOk {X:Cx} {pins:List (Addr × Obj)} {σ:St} {H H':Hp} {s:Shared} {b:Addr} (I:Inv X pins σ H s) (hb:s.heap.objs.size<=b) (hn:H' b=none):ug X pins H' b:=by
  refine ⟨hn,Nat.ne_of_gt (Nat.lt_of_lt_of_le I.lt hb),I.nofs hb,.inr (Nat.le_trans I.sz hb),fun x c e z=>?_,fun p hp z=>?_⟩
  · obtain ⟨v,q⟩:=I.cell x c e
    exact absurd (Nat.lt_of_lt_of_le q.lt (by rw [z]; exact hb)) (Nat.lt_irrefl _)
  · exact absurd (Nat.lt_of_lt_of_le (Heap.lt_size (I.pin p hp).1) (by rw [z]; exact hb)) (Nat.lt_irrefl _)
structure Turn (P:Program) (w:World) (K:PySem.W.Frag) (tg:Expr) (J:It) (fp:List Addr) (it:Addr) (tn:Nat->Heap->Prop):Prop where
  mem:it ∈ fp
  obj:∀ i h,tn i h->∀ b ∈ fp,∃ o,h.get? b=some o∧∀ v,o.data≠.cell v
  keep:∀ i h h',tn i h->(∀ b ∈ fp,∀ o,h.get? b=some o->h'.get? b=some o)->tn i h'
  item:∀ (X:Cx),X.prog=P->X.w=w->X.K=K->X.calm=true->∀ (i:Nat) (pins:List (Addr × Obj)) (s:Shared) (σ:St) (H:Hp) (E:Value->Shared->Prop),Inv X pins σ H s->(∀ b ∈ fp,ug X pins H b)->tn i s.heap->J.go i H ->
    wpAny (model P w) X.A (pyNext (.ref it)) (fun r s1=>∃ u,r=some u ∧
      wpAny (model P w) X.A (letOwnedTupleGo tg (.ref it) u) (fun _ s2=>∃ x H',Inv X pins σ H' s2∧yh x u∧J.yld i H x H'∧tn (i + 1) s2.heap∧∀ b ∈ fp,H' b=none) E s1) E s
  done:∀ (X:Cx),X.prog=P->X.w=w->X.K=K->X.calm=true->∀ (i:Nat) (pins:List (Addr × Obj)) (s:Shared) (σ:St) (H:Hp) (E:Value->Shared->Prop),Inv X pins σ H s->(∀ b ∈ fp,ug X pins H b)->tn i s.heap->J.stop i H ->
    wpAny (model P w) X.A (pyNext (.ref it)) (fun r s1=>r=none∧Inv X pins σ H s1) E s
  self:∀ (A:Around) (i:Nat) (s:Shared) (Q:Value->Shared->Prop) (E:Value->Shared->Prop),tn i s.heap->Q (.ref it) s->wpAny (model P w) A (pyIter (.ref it)) Q E s
abbrev TI:=St->Hp->(It->Hp->Prop)->Prop
def PIE (X:Cx) (pins:List (Addr × Obj)) (σ:St) (tg:Expr) (R:It->Hp->Prop) (itv:Value) (s2:Shared):Prop :=
  ∃ (it:Addr) (fp:List Addr) (tn:Nat->Heap->Prop) (J:It) (H':Hp),itv = .ref it∧Inv X pins σ H' s2∧Turn X.prog X.w X.K tg J fp it tn∧tn 0 s2.heap∧(∀ b ∈ fp,ug X pins H' b)∧R J H'
def PI (X:Cx) (tg iter:Expr) (wi:TI):Prop :=
  ∀ (pins:List (Addr × Obj)) (s:Shared) (σ:St) (H:Hp) (R:It->Hp->Prop),Inv X pins σ H s->wi σ H R ->
    wpAny (model X.prog X.w) X.A (eval iter X.env) (fun v s1=>wpAny (model X.prog X.w) X.A (pyIter v) (PIE X pins σ tg R) X.xe s1) X.xe s

theorem jfH {M:Model} {A:Around} {E:Value->Shared->Prop} {s:Shared} {tg:Expr} {it:Addr} {u:Value} {o:Obj} {n:String} {vs:Array Value} {Q:Unit->Shared->Prop} (ho:s.heap.get? it=some o) (hc:o.cls = .type n) (hd:o.data = .fields vs)
    (hn:["enumerate","zip","dict_itemiterator","dict_reverseitemiterator","odict_iterator","itertools.zip_longest","itertools.pairwise"].contains n=false) (hQ:Q () s):wpAny M A (letOwnedTupleGo tg (.ref it) u) Q E s:=by
  unfold letOwnedTupleGo
  cases tg <;> first
    | exact wpAny_pure hQ
    | (cases u <;> first
        | exact wpAny_pure hQ
        | (refine wpAny_bind (wpAny_load ho ?_)
           rw [hc,hd]
           show wpAny M A (if (["enumerate","zip","dict_itemiterator","dict_reverseitemiterator","odict_iterator","itertools.zip_longest","itertools.pairwise"].contains n && vs[0]? == some (rawInt _))=true then _ else _) Q E s
           rw [if_neg (by intro h; rw [hn,Bool.false_and] at h; cases h)]
           exact wpAny_pure hQ))

def Itl (K:PySem.W.Frag) (a:Addr):It :=
  ⟨fun i H=>∃ xs x,SqL K H a xs∧xs[i]? = some x,fun i H x H'=>H'=H∧∀ xs,SqL K H a xs->xs[i]? = some x,fun i H=>∃ xs,SqL K H a xs∧xs.length<=i⟩
def Itr (lo:Int) (n:Nat):It:=⟨fun i _=>i < n,fun i H x H'=>H'=H∧x = .int (lo + i),fun i _=>n<=i⟩
theorem jcZ {P:Program} {w:World} {K:PySem.W.Frag} {tg:Expr} (a it:Addr):Turn P w K tg (Itl K a) [it] it (fun i h=>h.IsListIter it a i) where
  mem:=by simp
  obj:=fun i h st b hb=>by
    have e:b=it:=by simpa using hb
    subst e
    obtain ⟨o,e,c,d⟩:=st
    exact ⟨o,e,fun v z=>by rw [d] at z; cases z⟩
  keep:=fun i h h' st k=>st.at fun o e=>k it (by simp) o e
  item:=by
    intro X hP hw hK hc i pins s σ H E I hf st hg
    subst hP hw hK
    obtain ⟨xs,x,hq,hx⟩:=hg
    obtain ⟨its,rv,p,hz⟩:=I.list hq
    obtain ⟨u,hu,ru⟩:=rv.get hx
    obtain ⟨f0,f1,f2,f3,f4,f5⟩:=hf it (by simp)
    refine wpAny_pyNext_list_item st p.isList (x:=u) (by simpa using hu) fun h' st' sb=>?_
    have I1:Inv X pins σ H { s with heap:=h' }:=I.turned (t':=s.toks) (fun b o hb e=>(sb.2 b hb).trans e) f0 f1 f3 f4 f5
    obtain ⟨o,e,c,d⟩:=id st'
    exact ⟨u,rfl,jfH (s:={ s with heap:=h' }) e c d (by decide) ⟨x,H,I1,ru,⟨rfl,fun ys hy=>by rw [I.list_inj hy hq]; exact hx⟩,st',fun b hb=>(hf b hb).1⟩⟩
  done:=by
    intro X hP hw hK hc i pins s σ H E I hf st hg
    subst hP hw hK
    obtain ⟨xs,hq,hx⟩:=hg
    obtain ⟨its,rv,p,hz⟩:=I.list hq
    obtain ⟨f0,f1,f2,f3,f4,f5⟩:=hf it (by simp)
    have hl:=rv.length
    exact wpAny_pyNext_list_end (I.ok.hd hc) st p.isList (by simp; omega) fun h' eb=>⟨rfl,I.turned (t':=s.toks) (fun b o hb e=>eb b o hb e) f0 f1 f3 f4 f5⟩
  self:=fun _ _ _ _ _ st h=>wpAny_pyIter_listiter st h
theorem jaX {P:Program} {w:World} {K:PySem.W.Frag} {tg:Expr} (it:Addr) (lo:Int) (n:Nat):Turn P w K tg (Itr lo n) [it] it (fun i h=>IsRangeIter h it (lo + (i:Nat) * 1) ((n:Int) - (i:Nat)) 1) where
  mem:=by simp
  obj:=fun i h st b hb=>by
    have e:b=it:=by simpa using hb
    subst e
    exact ⟨_,st,fun v z=>by
      have z':Data.fields _=Data.cell v:=z
      cases z'⟩
  keep:=fun i h h' st k=>k it (by simp) _ st
  item:=by
    intro X hP hw hK hc i pins s σ H E I hf st hg
    subst hP hw hK
    obtain ⟨f0,f1,f2,f3,f4,f5⟩:=hf it (by simp)
    have W:=Walks.range (prog:=X.prog) (w:=X.w) (I.ok.hd hc) it lo 1 n
    refine W.item i s _ _ hg st fun v h' tk hv st' kk=>?_
    obtain ⟨t,rfl⟩:=hv
    have I1:Inv X pins σ H { s with heap:=h',toks:=tk }:=I.turned (fun b o hb e=>kk b o (by simpa using hb) e) f0 f1 f3 f4 f5
    refine ⟨_,rfl,jfH (s:={ s with heap:=h',toks:=tk }) (n:="range_iterator") st' rfl rfl (by decide) ⟨.int (lo + i),H,I1,⟨t,?_⟩,⟨rfl,rfl⟩,st',fun b hb=>(hf b hb).1⟩⟩
    rw [Int.mul_one]
  done:=by
    intro X hP hw hK hc i pins s σ H E I hf st hg
    subst hP hw hK
    obtain ⟨f0,f1,f2,f3,f4,f5⟩:=hf it (by simp)
    exact wpAny_pyNext_range_end (I.ok.hd hc) st (by have:n<=i:=hg; omega) fun h' eb=>⟨rfl,I.turned (t':=s.toks) (fun b o hb e=>eb b o hb e) f0 f1 f3 f4 f5⟩
  self:=fun _ _ _ _ _ st h=>wpAny_pyIter_rangeiter st h
end L2

namespace L2
open PySem PySem.Spec PyProof.Rows
section
variable {X:Cx} {tg:Expr}
def iList (K:PySem.W.Frag) (tl:TE):TI:=fun σ H R=>tl σ H fun x H1=>∃ a,x = .ref a∧(∃ xs,SqL K H1 a xs)∧R (Itl K a) H1
theorem jhq {l:Expr} {tl:TE} (hl:PE X l tl):PI X tg l (iList X.K tl):=by
  intro pins s σ H R I h
  refine thn (hl pins s σ H _ I h) fun v s1 hQQ=>?_
  obtain ⟨x,H1,I1,r1,q1⟩:=hQQ
  obtain ⟨a,e,⟨xs,hq⟩,q⟩:=q1
  subst e
  cases r1
  obtain ⟨its,rv,p,hz⟩:=I1.list hq
  refine wpAny_pyIter_list p.isList ?_
  refine ⟨s1.heap.objs.size,[s1.heap.objs.size],_,_,H1,rfl,I1.kept (t':=s1.toks) fun b o e=>Heap.get?_push_of_some _ e,jcZ a _,⟨_,Heap.get?_push_size _ rfl,rfl,rfl⟩,fun b hb=>?_,q⟩
  have e:b=s1.heap.objs.size:=by simpa using hb
  subst e
  exact I1.fpOk (Nat.le_refl _) (I1.hok.fresh (Nat.le_refl _))
theorem jer {pins:List (Addr × Obj)} {σ:St} {H:Hp} {s:Shared} {R:It->Hp->Prop} {E:Value->Shared->Prop} {lo hi:Int} {t u v:Tok} {tk:Nat} (I:Inv X pins σ H s) (h1:-(2 ^ 62)<=lo) (h2:lo < 2 ^ 62) (h3:-(2 ^ 62)<=hi) (h4:hi < 2 ^ 62)
    (q:R (Itr lo (hi - lo).toNat) H):wpAny (model X.prog X.w) X.A (pyIter (.ref s.heap.objs.size)) (PIE X pins σ tg R) E { s with heap:=s.heap.push { cls:=.type "range",data:=.fields #[.int lo t,.int hi u,.int 1 v] },toks:=tk }:=by
  refine wpAny_pyIter_range (IsRange.new ..) (small_one h1 h2 h3 h4) ?_
  have I1:Inv X pins σ H { s with heap:=s.heap.push { cls:=.type "range",data:=.fields #[.int lo t,.int hi u,.int 1 v] },toks:=tk }:=I.kept fun b o e=>Heap.get?_push_of_some _ e
  refine ⟨(s.heap.push { cls:=.type "range",data:=.fields #[.int lo t,.int hi u,.int 1 v] }).objs.size,[(s.heap.push { cls:=.type "range",data:=.fields #[.int lo t,.int hi u,.int 1 v] }).objs.size],_,_,H,rfl,
    I1.kept (t':=tk) fun b o e=>Heap.get?_push_of_some _ e,jaX _ lo (hi - lo).toNat,?_,fun b hb=>?_,q⟩
  · have e1:lo + ((0:Nat):Int) * 1=lo:=by simp
    have e2:(((hi - lo).toNat:Nat):Int) - ((0:Nat):Int)=Builtin.Range.rangeSize lo hi 1:=by rw [rangeSize_one]; split <;> omega
    show IsRangeIter _ _ (lo + ((0:Nat):Int) * 1) ((((hi - lo).toNat:Nat):Int) - ((0:Nat):Int)) 1
    rw [e1,e2]
    exact Heap.get?_push_size _ rfl
  · have e:b=(s.heap.push { cls:=.type "range",data:=.fields #[.int lo t,.int hi u,.int 1 v] }).objs.size:=by simpa using hb
    subst e
    exact I1.fpOk (Nat.le_refl _) (I1.hok.fresh (Nat.le_refl _))
def iRng1 (ta:TA):TI:=fun σ H R=>ta σ H fun vs H1=>∃ j:Int,vs=[.int j]∧-(2 ^ 62)<=j∧j < 2 ^ 62∧R (Itr 0 j.toNat) H1
theorem jdj {a:Expr} {ta:TA} {p pos:Pos} (hg:Gl X "range") (hm:X.mg "range" = none) (ha:PA X [a] ta) (hs:starEach [a] X.env=[(false,eval a X.env)]:=by rfl):PI X tg (.Call (.Name "range" p) [a] [] pos) (iRng1 ta):=by
  intro pins s σ H R I h
  refine Call_ (Yu I hg hm boot_range (PyProof.Rows.callWith_type1 (thn (ha pos pins s σ H _ I h) fun us s1 hQQ=>?_) hs rfl))
  obtain ⟨vs,H1,I1,r1,q1⟩:=hQQ
  obtain ⟨j,e,q1,q2,q⟩:=q1
  subst e
  cases r1 with
  | cons r rr =>
    cases rr
    obtain ⟨t,rfl⟩:=r
    exact call_range_1 (jer I1 (by omega) (by omega) q1 q2 (by simpa using q))
def tFor (wi:TI) (g:TG) (tb:TS):TS:=fun D σ H=>wi σ H fun J H1=>∃ W:Nat->Nat->St->Hp->Prop,(∃ m,W 0 m σ H1)∧∀ i m σ H,W i m σ H ->
  (J.stop i H∧D.nx σ H)∨(J.go i H∧∃ N:St->Hp->Prop,(∀ σ' H',N σ' H'->∃ m',m' < m∧W (i + 1) m' σ' H')∧∀ x H',J.yld i H x H'->g x σ H' fun σ2 H2=>tb { D with nx:=N,ct:=N,bk:=D.nx } σ2 H2)
def Yn (fp:List Addr) (h:Heap):List (Addr × Obj):=fp.filterMap fun b=>(h.get? b).map fun o=>(b,o)
theorem vq {fp:List Addr} {h:Heap} {b:Addr} {o:Obj} (hb:b ∈ fp) (e:h.get? b=some o):(b,o) ∈ Yn fp h:=List.mem_filterMap.mpr ⟨b,hb,by rw [e]; rfl⟩
theorem jdk {fp:List Addr} {h:Heap} {p:Addr × Obj} (hp:p ∈ Yn fp h):p.1 ∈ fp∧h.get? p.1=some p.2:=by
  obtain ⟨b,hb,e⟩:=List.mem_filterMap.mp hp
  cases q:h.get? b with
  | none=>rw [q] at e; cases e
  | some o =>
    rw [q] at e
    have e':(b,o)=p:=Option.some.inj e
    subst e'
    exact ⟨hb,q⟩
theorem Inv.pinned {pins:List (Addr × Obj)} {σ:St} {H:Hp} {s:Shared} {fp:List Addr} (I:Inv X pins σ H s) (hf:∀ b ∈ fp,ug X pins H b) (ho:∀ b ∈ fp,∃ o,s.heap.get? b=some o∧∀ v,o.data≠.cell v):Inv X (pins ++ Yn fp s.heap) σ H s :=
  I.pins_of fun p hp=>(List.mem_append.mp hp).elim (fun z=>I.pin p (List.mem_append_right _ z)) fun z=>by
    obtain ⟨hb,e⟩:=jdk z
    obtain ⟨f0,f1,f2,_⟩:=hf p.1 hb
    obtain ⟨o,e',d⟩:=ho p.1 hb
    rw [e] at e'; cases e'
    exact ⟨e,f0,f1,f2,d⟩
theorem Inv.unpinned {pins pl:List (Addr × Obj)} {σ:St} {H:Hp} {s:Shared} (I:Inv X (pins ++ pl) σ H s):Inv X pins σ H s:=I.pins_of fun p hp=>I.pin p (List.mem_append_right _ (List.mem_append_left _ hp))
theorem ps_for {iter:Expr} {body:List Stmt} {wi:TI} {g:TG} {tb:TS} {pos:Pos} (hp:PassesOwn (model X.prog X.w) X.A X.env X.xe) (hc:X.calm=true) (hi:PI X tg iter wi) (hg:PG X tg g) (hb:PSs X body tb)
    (hs:∀ x,foldedSetIterable iter X.env x=pure x:=by intro _; rfl):PS X (.For tg iter body [] pos) (tFor wi g tb):=by
  intro pins s σ H D I h
  refine wpAny_For (thn (hi pins s σ H _ I h) fun v s1 h1=>thn h1 fun itv s2 h2=>?_) hs
  obtain ⟨it,fp,tn,J,H2,e,I2,T,st2,f2,W,⟨m0,w0⟩,turn⟩:=h2
  subst e
  -- what stays true of the iterator's objects through the loop
  have stat:∀ {H':Hp},(∀ b ∈ fp,H' b=none)->∀ b ∈ fp,ug X pins H' b:=fun hn b hb=>⟨hn b hb,(f2 b hb).2⟩
  refine codeAny_forLoop_any (fun n s'=>∃ i σ' H',Inv X pins σ' H' s'∧tn i s'.heap∧(∀ b ∈ fp,H' b=none)∧W i n σ' H') ?_ m0 ⟨0,σ,H2,I2,st2,fun b hb=>(f2 b hb).1,w0⟩
  rintro n s3 ⟨i,σ3,H3,I3,st3,fr3,w3⟩
  rcases turn i n σ3 H3 w3 with ⟨stop,qn⟩ | ⟨go,N,hN,step⟩
  · refine wpAny_passesOwn hp (thn (T.done X rfl rfl rfl hc i pins s3 σ3 H3 X.xe I3 (stat fr3) st3 stop) fun r s4 hQQ=>?_)
    obtain ⟨hr,I4⟩:=hQQ
    subst hr
    exact wpAny_execs_nil ⟨σ3,H3,I4,qn⟩
  · refine wpAny_passesOwn hp (thn (T.item X rfl rfl rfl hc i pins s3 σ3 H3 X.xe I3 (stat fr3) st3 go) fun r s4 hQQ=>?_)
    obtain ⟨u,hr,h4⟩:=hQQ
    subst hr
    refine wpAny_passesOwn hp (thn h4 fun _ s5 hQQ=>?_)
    obtain ⟨x,H5,I5,r5,y5,st5,fr5⟩:=hQQ
    have I5':=I5.pinned (stat fr5) (T.obj _ _ st5)
    refine wpAny_passesOwn hp (thn (hg _ s5 σ3 H5 x u _ I5' r5 (step x H5 y5)) fun _ s6 hQQ=>?_)
    obtain ⟨σ6,H6,I6,q6⟩:=hQQ
    refine wpAny_passesOwn hp (thn (hb _ s6 σ6 H6 _ I6 q6) fun f s7 q7=>?_)
    have again:∀ {σ7:St} {H7:Hp},Inv X (pins ++ Yn fp s5.heap) σ7 H7 s7->N σ7 H7->∃ m,m < n∧∃ i σ' H',Inv X pins σ' H' s7∧tn i s7.heap∧(∀ b ∈ fp,H' b=none)∧W i m σ' H':=fun {σ7 H7} I7 n7=>by
      obtain ⟨m',hm,w7⟩:=hN σ7 H7 n7
      refine ⟨m',hm,i + 1,σ7,H7,I7.unpinned,T.keep _ _ _ st5 fun b hb o e=>(I7.pin (b,o) (List.mem_append_right _ (List.mem_append_right _ (vq hb e)))).1,fun b hb=>?_,w7⟩
      obtain ⟨o,e,d⟩:=T.obj _ _ st5 b hb
      exact (I7.pin (b,o) (List.mem_append_right _ (List.mem_append_right _ (vq hb e)))).2.1
    cases f with
    | next=>obtain ⟨σ7,H7,I7,n7⟩:=q7; exact again I7 n7
    | cont=>obtain ⟨σ7,H7,I7,n7⟩:=q7; exact again I7 n7
    | brk=>obtain ⟨σ7,H7,I7,q7⟩:=q7; exact ⟨σ7,H7,I7.unpinned,q7⟩
    | ret v=>obtain ⟨x7,σ7,H7,I7,r7,q7⟩:=q7; exact ⟨x7,σ7,H7,I7.unpinned,r7,q7⟩
end

end L2

namespace L2
open PySem PySem.Spec PyProof.Rows

abbrev R2:=V->V->Hp->VK->Prop
def OpR (X:Cx) (f:Value->Value->Sem Value) (r:R2):Prop :=
  ∀ (pins:List (Addr × Obj)) (s:Shared) (σ:St) (H:Hp) (x y:V) (v u:Value) (Q:VK),Inv X pins σ H s->yh x v->yh y u->r x y H Q ->
    wpAny (model X.prog X.w) X.A (f v u) (EP X pins σ Q) X.xe s
def yU (X:Cx) (f:Value) (r:List V->Hp->VK->Prop):Prop :=
  ∀ (pins:List (Addr × Obj)) (s:Shared) (σ:St) (H:Hp) (xs:List V) (us:List Value) (Q:VK),Inv X pins σ H s->yg xs us->r xs H Q ->
    wpAny (model X.prog X.w) X.A (call f us) (EP X pins σ Q) X.xe s
def TruR (X:Cx) (r:V->Hp->(Bool->Hp->Prop)->Prop):Prop :=
  ∀ (pins:List (Addr × Obj)) (s:Shared) (σ:St) (H:Hp) (x:V) (v:Value) (Q:Bool->Hp->Prop),Inv X pins σ H s->yh x v->r x H Q ->
    wpAny (model X.prog X.w) X.A (truthy v) (TP X pins σ Q) X.xe s

def tOp (r:R2) (ta tb:TE):TE:=fun σ H Q=>ta σ H fun x H1=>tb σ H1 fun y H2=>r x y H2 Q
def rI (C:Int->Int->Prop) (g:Int->Int->V):R2:=fun x y H Q=>∃ i j,x = .int i∧y = .int j∧C i j∧Q (g i j) H
def rI0 (g:Int->Int->V):R2:=fun x y H Q=>∃ i j,x = .int i∧y = .int j∧Q (g i j) H
section
variable {X:Cx} {a b c:Expr} {ta tb tc:TE} {pos:Pos}

theorem binT (ha:PE X a ta) (hb:PE X b tb) {pins:List (Addr × Obj)} {s:Shared} {σ:St} {H:Hp} {R:V->V->Hp->Prop} (I:Inv X pins σ H s)
    (h:ta σ H fun x H1=>tb σ H1 fun y H2=>R x y H2) {Q:Value->Shared->Prop} {f:Value->Value->Sem Value}
    (hf:∀ v u s2 x y H2,Inv X pins σ H2 s2->yh x v->yh y u->R x y H2->wpAny (model X.prog X.w) X.A (f v u) Q X.xe s2) :
    wpAny (model X.prog X.w) X.A (eval a X.env) (fun v s₁=>wpAny (model X.prog X.w) X.A (eval b X.env) (fun u s₂=>wpAny (model X.prog X.w) X.A (f v u) Q X.xe s₂) X.xe s₁) X.xe s:=by
  refine thn (ha pins s σ H _ I h) fun v s1 hQQ=>?_
  obtain ⟨x,H1,I1,r1,q1⟩:=hQQ
  refine thn (hb pins s1 σ H1 _ I1 q1) fun u s2 hQQ=>?_
  obtain ⟨y,H2,I2,r2,q2⟩:=hQQ
  exact hf v u s2 x y H2 I2 r1 r2 q2

theorem pe_op {op:Operator} {r:R2} (ho:OpR X (binaryOp op) r) (ha:PE X a ta) (hb:PE X b tb):PE X (.BinOp a op b pos) (tOp r ta tb):=by
  intro pins s σ H Q I h
  exact wpAny_BinOp (binT ha hb I h fun v u s2 x y H2 I2 rx ry q=>ho pins s2 σ H2 x y v u Q I2 rx ry q)
theorem opI {f:Value->Value->Sem Value} {C:Int->Int->Prop} {g:Int->Int->Int}
    (rule:∀ (i j:Int) (t u:Tok) (s:Shared) (Q:Value->Shared->Prop) (E:Value->Shared->Prop),C i j->Q (.int (g i j) s.toks) { s with toks:=s.toks + 1 }->wpAny (model X.prog X.w) X.A (f (.int i t) (.int j u)) Q E s) :
    OpR X f (rI C fun i j=>.int (g i j)):=by
  intro pins s σ H x y v u Q I rx ry h
  obtain ⟨i,j,rfl,rfl,hc,q⟩:=h
  obtain ⟨t,rfl⟩:=rx
  obtain ⟨t',rfl⟩:=ry
  exact rule i j t t' s _ _ hc ⟨.int (g i j),H,I.tok _,⟨_,rfl⟩,q⟩
theorem opI0 {f:Value->Value->Sem Value} {g:Int->Int->Int}
    (rule:∀ (i j:Int) (t u:Tok) (s:Shared) (Q:Value->Shared->Prop) (E:Value->Shared->Prop),Q (.int (g i j) s.toks) { s with toks:=s.toks + 1 }->wpAny (model X.prog X.w) X.A (f (.int i t) (.int j u)) Q E s) :
    OpR X f (rI0 fun i j=>.int (g i j)):=by
  intro pins s σ H x y v u Q I rx ry h
  obtain ⟨i,j,rfl,rfl,q⟩:=h
  obtain ⟨t,rfl⟩:=rx
  obtain ⟨t',rfl⟩:=ry
  exact rule i j t t' s _ _ ⟨.int (g i j),H,I.tok _,⟨_,rfl⟩,q⟩
theorem jhB {f:Value->Value->Sem Value} {g:Int->Int->Bool}
    (rule:∀ (i j:Int) (t u:Tok) (s:Shared) (Q:Value->Shared->Prop) (E:Value->Shared->Prop),Q (.bool (g i j)) s->wpAny (model X.prog X.w) X.A (f (.int i t) (.int j u)) Q E s) :
    OpR X f (rI0 fun i j=>.bl (g i j)):=by
  intro pins s σ H x y v u Q I rx ry h
  obtain ⟨i,j,rfl,rfl,q⟩:=h
  obtain ⟨t,rfl⟩:=rx
  obtain ⟨t',rfl⟩:=ry
  exact rule i j t t' s _ _ ⟨.bl (g i j),H,I,rfl,q⟩

def CDiv (i j:Int):Prop:=0 < j∧j < 1073741824
def CPow (i j:Int):Prop:=0<=j∧j<=1000000∧i.natAbs < 2 ^ 64
def CMul (i j:Int):Prop:=(-(2 ^ 64) < i∧i < 2 ^ 64)∨(-(2 ^ 64) < j∧j < 2 ^ 64)
theorem CMul.ok {i j:Int} (h:CMul i j):IntMulOk i j:=by
  rcases h with ⟨h1,h2⟩ | ⟨h1,h2⟩
  · exact .of_left (intBits_le_64 h1 h2)
  · exact .of_right (intBits_le_64 h1 h2)
theorem op_add:OpR X (binaryOp .Add) (rI0 fun i j=>.int (i + j)):=opI0 fun _ _ _ _ _ _ _ q=>add_int q
theorem op_sub:OpR X (binaryOp .Sub) (rI0 fun i j=>.int (i - j)):=opI0 fun _ _ _ _ _ _ _ q=>sub_int q
theorem op_mul:OpR X (binaryOp .Mult) (rI CMul fun i j=>.int (i * j)):=opI fun _ _ _ _ _ _ _ hc q=>mul_int q hc.ok
theorem jhz:OpR X (binaryOp .FloorDiv) (rI CDiv fun i j=>.int (i / j)):=opI fun i j _ _ _ _ _ hc q=>by
  have h1:(0:Int) < j:=hc.1
  have h2:j < 1073741824:=hc.2
  exact floordiv_int (by omega) (by rw [Int.fdiv_eq_ediv_of_nonneg i (by omega)]; exact q) (.inl (PyProof.noPylong_small (by omega)))
theorem op_mod:OpR X (binaryOp .Mod) (rI (fun _ j=>0 < j) fun i j=>.int (i % j)):=opI fun i j _ _ _ _ _ hc q=>by
  have h1:(0:Int) < j:=hc
  exact mod_int' (by omega) (by rw [Int.fmod_eq_emod_of_nonneg i (by omega)]; exact q)
theorem op_pow:OpR X (binaryOp .Pow) (rI CPow fun i j=>.int (i ^ j.toNat)):=opI fun _ _ _ _ _ _ _ hc q=>pow_int_small hc.1 hc.2.1 hc.2.2 q
end

section
variable {X:Cx} {a b c:Expr} {ta tb tc:TE} {pos:Pos}
theorem fin_bl {pins:List (Addr × Obj)} {σ:St} {H:Hp} {s:Shared} {Q:VK} {k k':Bool} (I:Inv X pins σ H s) (q:Q (.bl k) H) (e:k=k'):EP X pins σ Q (.bool k') s:=by
  subst e
  exact ⟨.bl k,H,I,rfl,q⟩
theorem op_lt:OpR X (compareOp .Lt) (rI0 fun i j=>.bl (decide (i < j))):=jhB fun _ _ _ _ _ _ _ q=>lt_int q
theorem op_le:OpR X (compareOp .LtE) (rI0 fun i j=>.bl (decide (i<=j))):=jhB fun _ _ _ _ _ _ _ q=>le_int q
theorem op_gt:OpR X (compareOp .Gt) (rI0 fun i j=>.bl (decide (j < i))):=jhB fun _ _ _ _ _ _ _ q=>gt_int q
theorem op_ge:OpR X (compareOp .GtE) (rI0 fun i j=>.bl (decide (j<=i))):=jhB fun _ _ _ _ _ _ _ q=>ge_int q
theorem jhy:OpR X (compareOp .IsNot) (fun x y H Q=>y = .non∧Q (.bl (!decide (x = .non))) H):=by
  intro pins s σ H x y v u Q I rx ry h
  obtain ⟨rfl,q⟩:=h
  cases ry
  refine isnot_none_gen (fin_bl I q ?_)
  cases x <;> first
    | (cases rx; rfl)
    | (obtain ⟨t,rfl⟩:=rx; rfl)

theorem OpR.or {f:Value->Value->Sem Value} {r r':R2} (h:OpR X f r) (h':OpR X f r'):OpR X f (fun x y H Q=>r x y H Q∨r' x y H Q):=by
  intro pins s σ H x y v u Q I rx ry q
  rcases q with q | q
  · exact h pins s σ H x y v u Q I rx ry q
  · exact h' pins s σ H x y v u Q I rx ry q

theorem jS (b:Expr) {op:CmpOp} (h:op≠.In:=by decide) (h2:op≠.NotIn:=by decide):behindInMarks op b=false:=by
  have e1:(op == CmpOp.In)=false:=by cases op <;> first | rfl | exact absurd rfl h
  have e2:(op == CmpOp.NotIn)=false:=by cases op <;> first | rfl | exact absurd rfl h2
  cases b <;> simp [behindInMarks,e1,e2]
theorem jhw {op:CmpOp} {r:R2} (ho:OpR X (compareOp op) r) (ha:PE X a ta) (hb:PE X b tb) (hm:behindInMarks op b=false):PE X (.Compare a [op] [b] pos) (tOp r ta tb):=by
  intro pins s σ H Q I h
  exact wpAny_Compare1 (binT ha hb I h fun v u s2 x y H2 I2 rx ry q=>ho pins s2 σ H2 x y v u Q I2 rx ry q) hm
def tTest (t:TE):TT:=fun σ H Q=>t σ H fun x H'=>∃ k,x = .bl k∧Q k H'
theorem jhj {op:CmpOp} {r:R2} (ho:OpR X (compareOp op) r) (ha:PE X a ta) (hb:PE X b tb) (hm:behindInMarks op b=false):PT X (.Compare a [op] [b] pos) (tTest (tOp r ta tb)):=by
  intro pins s σ H Q I h
  refine wpAny_isTrue_Compare1 (thn (ha pins s σ H _ I h) fun v s1 ⟨x,H1,I1,r1,q1⟩=>thn (hb pins s1 σ H1 _ I1 q1) fun u s2 ⟨y,H2,I2,r2,q2⟩ =>
    thn (ho pins s2 σ H2 x y v u _ I2 r1 r2 q2) fun c s3 ⟨z,H3,I3,r3,k,e,q3⟩=>?_) hm
  subst e
  cases r3
  exact wpAny_truthy_bool ⟨H3,I3,q3⟩
def jef (r r':R2) (ta tb tc:TE):TE:=fun σ H Q=>ta σ H fun x H1=>tb σ H1 fun y H2=>r x y H2 fun z H3=>∃ k,z = .bl k ∧
  (if k=true then tc σ H3 fun w' H4=>r' y w' H4 Q else Q (.bl false) H3)
theorem jeY {op op':CmpOp} {r r':R2} (ho:OpR X (compareOp op) r) (ho':OpR X (compareOp op') r') (ha:PE X a ta) (hb:PE X b tb) (hc:PE X c tc)
    (hm:lastMarks [op,op'] [b,c]=false:=by with_unfolding_all rfl):PE X (.Compare a [op,op'] [b,c] pos) (jef r r' ta tb tc):=by
  intro pins s σ H Q I h
  refine Compare_chain (thn (ha pins s σ H _ I h) fun v s1 ⟨x,H1,I1,r1,q1⟩=>chain_link (thn (hb pins s1 σ H1 _ I1 q1) fun u s2 ⟨y,H2,I2,r2,q2⟩ =>
    thn (ho pins s2 σ H2 x y v u _ I2 r1 r2 q2) fun d s3 ⟨z,H3,I3,r3,k,e,q3⟩=>?_)) hm
  subst e
  cases r3
  refine wpAny_truthy_bool ?_
  cases k with
  | false=>exact ite_ff ⟨.bl false,H3,I3,rfl,q3⟩
  | true=>exact ite_tt (chain_last (thn (hc pins s3 σ H3 _ I3 q3) fun w' s4 ⟨z',H4,I4,r4,q4⟩=>ho' pins s4 σ H4 y z' u w' Q I4 r2 r4 q4))
def TruV (K:PySem.W.Frag) (x:V) (H:Hp) (k:Bool):Prop :=
  match x with
  | .non=>k=false
  | .bl b=>k=b
  | .int i=>k=(i != 0)
  | .str y=>y.length<=sizeLine∧k=((y.length:Int) != 0)
  | .byt y=>y.size<=sizeLine∧k=((y.size:Int) != 0)
  | .ref p=>(∃ xs,SqL K H p xs∧k = !xs.isEmpty)∨(∃ xs,SqT K H p xs∧k = !xs.isEmpty)∨∃ kvs,H p=some (.dK kvs)∧k = !kvs.isEmpty
  | _=>False
theorem jbw {κ:Type} {kvs:List (κ × V)} {vs:List (κ × Value)} (r:KV kvs vs):(!vs.isEmpty) = !kvs.isEmpty:=by
  cases r <;> rfl
theorem Yy {xs:List V} {its:List Value} (r:yg xs its):(!its.toArray.isEmpty) = !xs.isEmpty:=by
  cases r <;> simp
theorem Yt:(sizeLine:Nat) < 2 ^ 63:=by rw [sizeLine_eq]; decide
theorem tru_ok:TruR X (fun x H Q=>∃ k,TruV X.K x H k∧Q k H):=by
  intro pins s σ H x v Q I rx h
  obtain ⟨k,e,q⟩:=h
  have hl:=Yt
  have hs:sizeLine=16777216:=sizeLine_eq
  cases x with
  | non =>
    cases rx
    have e':k=false:=e
    subst e'
    exact truthy_none ⟨H,I,q⟩
  | bl b =>
    cases rx
    have e':k=b:=e
    subst e'
    exact wpAny_truthy_bool ⟨H,I,q⟩
  | int i =>
    obtain ⟨t,rfl⟩:=rx
    have e':k=(i != 0):=e
    subst e'
    exact PySem.P.truthy_int ⟨H,I,q⟩
  | str y =>
    obtain ⟨t,rfl⟩:=rx
    obtain ⟨hy,e'⟩:y.length<=sizeLine∧k=((y.length:Int) != 0):=e
    subst e'
    exact PySem.P.truthy_str (by omega) ⟨H,I.tok _,q⟩
  | byt y =>
    obtain ⟨t,rfl⟩:=rx
    obtain ⟨hy,e'⟩:y.size<=sizeLine∧k=((y.size:Int) != 0):=e
    subst e'
    exact PySem.W.truthy_bytes (by omega) ⟨H,I.tok _,q⟩
  | ref p =>
    cases rx
    have e':(∃ xs,SqL X.K H p xs∧k = !xs.isEmpty)∨(∃ xs,SqT X.K H p xs∧k = !xs.isEmpty)∨∃ kvs,H p=some (.dK kvs)∧k = !kvs.isEmpty:=e
    rcases e' with ⟨xs,hx,e'⟩ | ⟨xs,hx,e'⟩ | ⟨kvs,hx,e'⟩
    · subst e'
      obtain ⟨its,r,pl,hz⟩:=I.list hx
      have hlen:=r.length
      exact wpAny_truthy_list pl.isList (by simp only [List.size_toArray]; omega) ⟨H,I.tok _,by rw [Yy r]; exact q⟩
    · subst e'
      obtain ⟨its,r,pl,hz⟩:=I.tuple hx
      have hlen:=r.length
      exact truthy_tuple pl (by simp only [List.size_toArray]; omega) ⟨H,I.tok _,by rw [Yy r]; exact q⟩
    · subst e'
      obtain ⟨hz,hS,vs,r,m⟩:kvs.length<=sizeLine∧(p == sysModules)=false∧∃ vs,KV kvs vs∧s.heap.DictOf (yf X.prog X.w) p vs:=I.hok p _ hx
      have hlen:kvs.length=vs.length:=Paired.length r
      exact wpAny_truthy_dict hS m (by omega) ⟨H,I.tok _,by rw [jbw r]; exact q⟩
  | _=>exact (show False from e).elim
theorem Xi {x:V} {us:List Value} (r:yg [x] us):∃ u,us=[u]∧yh x u:=by
  cases r with
  | cons r1 r2=>cases r2; exact ⟨_,rfl,r1⟩
theorem jit {x y:V} {us:List Value} (r:yg [x,y] us):∃ u w',us=[u,w']∧yh x u∧yh y w':=by
  cases r with
  | cons r1 r2 =>
    cases r2 with
    | cons r3 r4=>cases r4; exact ⟨_,_,rfl,r1,r3⟩
end
end L2

namespace L2
open PySem PySem.Spec PyProof.Rows

structure ObjM (h:Heap) (x dx C:Addr) (mA:Str->Option Value):Prop where
  obj:h.get? x=some (PySem.W.instObj C dx)
  ns:h.Ns1 dx mA
  ne:dx≠x

theorem jds {h:Heap} {dx:Addr} {mA:Str->Option Value} (n:h.Ns1 dx mA):∃ od,h.get? dx=some od∧∀ name,PySem.W.lookIn name od=some (mA name):=by
  obtain ⟨o,es,ep,ho,hd,hk,_,hm⟩:=n
  refine ⟨o,ho,fun name=>?_⟩
  have e:=hm name
  unfold nsFind findBy at e
  rw [<- Array.find?_toList] at e
  unfold PySem.W.lookIn
  rw [hd]
  dsimp only
  split
  · rename_i y q
    rw [q] at e
    exact congrArg some e
  · rename_i q
    rw [q] at e
    have a:es.toList.any (·.refKey)=false:=by
      rw [List.any_eq_false]
      intro y hy
      obtain ⟨z,t,hkey⟩:=hk y (Array.mem_toList_iff.mp hy)
      simp [DictEntry.refKey,hkey]
    have a':¬ es.toList.any (·.refKey)=true:=by rw [a]; exact Bool.false_ne_true
    rw [if_neg a']
    exact congrArg some e

theorem ObjM.look {h:Heap} {x dx C:Addr} {mA:Str->Option Value} (I:ObjM h x dx C mA):∃ od,PySem.W.InstAt h x (PySem.W.instObj C dx) C (some od)∧∀ name,PySem.W.lookIn name od=some (mA name) :=
  let ⟨od,ho,hl⟩:=jds I.ns
  ⟨od,⟨I.obj,rfl,rfl,ho⟩,hl⟩

section
variable {prog:Program} {w:World} {A:Around} {E:Value->Shared->Prop} {s:Shared} {K:PySem.W.Frag} {x dx C f:Addr} {mA:Str->Option Value} {name:Str} {v:Value}

theorem jhW {expr:Bool} {Q:Value->Shared->Prop} (X:K.In s.heap) (I:ObjM s.heap x dx C mA) (hg:PySem.W.plainGet K C name=true) (hh:PySem.W.hasDictIn K C=true)
    (ha:PySem.W.findIn K (.ref C) name=some none) (hv:mA name=some v) (hv':PySem.W.handedIn v=true) (h:Q v { s with toks:=s.toks + 1 }) :
    wpAny (model prog w) A (getAttr (.ref x) name expr) Q E s:=by
  obtain ⟨od,J,hl⟩:=I.look
  exact PySem.W.get_value X J (PySem.W.plainGet_of hg).1 (PySem.W.findObj_own hh ha rfl (by rw [hl,hv])) hv' h

theorem jfI {pl:Sem Bool} {Q:Value × List Value->Shared->Prop} (X:K.In s.heap) (I:ObjM s.heap x dx C mA) (hg:PySem.W.plainGet K C name=true)
    (hf:PySem.W.findIn K (.ref C) name=some (some (.ref f))) (ht:PySem.W.isFn K (.ref f)=true) (hv:mA name=none) (h:Q (.ref f,[.ref x]) s) :
    wpAny (model prog w) A (getMethod (.ref x) name pl) Q E s:=by
  obtain ⟨od,J,hl⟩:=I.look
  exact PySem.W.method_fn X J (PySem.W.plainGet_of hg).1 (PySem.W.plainGet_of hg).2 hf (beq_iff_eq.mp ht) (by show (PySem.W.lookIn name od).map (·.isSome)=some false; rw [hl,hv]; rfl) h

theorem jgO {ns:List Str} {Q:Unit->Shared->Prop} (X:K.In s.heap) (I:ObjM s.heap x dx C mA)
    (hs:PySem.W.findIn K (.ref C) "__setattr__" = some (some (.builtin "object.__setattr__"))) (hp:PySem.W.plainOver K C=true) (ht:PySem.W.takerIn K C name=some none) (hh:PySem.W.hasDictIn K C=true)
    (hw:PySem.Within mA ns) (hsz:ns.length<=sizeLine)
    (h:∀ h',ObjM h' x dx C (fun y=>if y=name then some v else mA y)->Heap.SameBut dx s.heap h'->Q () { s with heap:=h',toks:=s.toks + 2 }) :
    wpAny (model prog w) A (setAttr (.ref x) name v) Q E s:=by
  obtain ⟨od,J,hl⟩:=I.look
  refine PySem.W.set_plain X J hs (PySem.W.osa_open (s:={ s with toks:=s.toks + 1 }) (r:=none) X J hp ht fun b=>?_)
  obtain ⟨cd,hc,hd'⟩:=PySem.W.any_some hh
  have hx:s.heap.get? x=some ⟨.ref C,some dx,.plain,#[]⟩:=I.obj
  refine wpAny_bind (wpAny_pure (wpAny_bind (wpAny_bind (wpAny_loadPart hx (wpAny_bind (PySem.W.Looks.here (s:={ s with toks:=s.toks + 1 }) (PySem.W.looks_clsIn X hc) ?_))))))
  rw [hd']
  refine wpAny_pure (a:=some dx) (wpAny_bind (wpAny_pure (wpAny_bind ?_)))
  refine wpAny_nsSet1 (s:={ s with toks:=s.toks + 1 }) I.ns fun h' hn2 hs2=>?_
  obtain ⟨oD,esD,epD,hoD,hdD,hcD⟩:=hn2.count (PySem.Within.cons name v hw)
  refine wpAny_bind (wpAny_lookBehind hoD (by rw [hdD]; exact pastItsLine_dict (Nat.le_trans hcD (by rw [List.length_cons]; omega))) ?_)
  exact wpAny_pure (h _ ⟨(hs2.2 _ (Ne.symm I.ne)).trans I.obj,hn2,I.ne⟩ hs2)

theorem jfm {R:Result->Shared->Prop} {vs:List Value} {kw:List (Str × Value)} (X:K.In s.heap) (hm:PySem.W.makesIn K C=true)
    (hi:PySem.W.findIn K (.ref C) "__init__" = some (some (.ref f))) (hf:PySem.W.typeIn K (.ref f)=some (.type "function"))
    (h:codeAny (model prog w) (A.under (.builtin "type.__call__" ⟨.ref C :: vs,kw⟩)) (.call (.ref f) ⟨.ref (s.heap.objs.size + 1) :: vs,kw⟩) (PySem.W.InitBack (s.heap.objs.size + 1) R)
      { s with heap:=(s.heap.push PySem.W.emptyDict).push (PySem.W.instObj C s.heap.objs.size) }) :
    codeAny (model prog w) A (.call (.ref C) ⟨vs,kw⟩) R s:=by
  obtain ⟨hh,g,d,t,os⟩:=s
  exact PySem.W.make_core (PySem.W.makes_of X hm) (PySem.W.looks_findIn X hi) (fun self=>PySem.W.bind_fn X self hf) (.inl rfl) h
end

def vk (f:Str) (v:V):List (Str × V)->List (Str × V)
  | []=>[(f,v)]
  | (g,x) :: r=>if g=f then (g,v) :: r else (g,x) :: vk f v r
theorem Jw (f g:Str) (v:V):∀ fs:List (Str × V),(vk f v fs).lookup g=if g=f then some v else fs.lookup g
  | []=>by
    show List.lookup g [(f,v)]=_
    by_cases h:g=f
    · have hb:(g == f)=true:=beq_iff_eq.mpr h
      simp only [List.lookup,hb,if_pos h]
    · have hb:(g == f)=false:=beq_eq_false_iff_ne.mpr h
      simp only [List.lookup,hb,if_neg h]
  | (k,x) :: r=>by
    have ih:=Jw f g v r
    rw [show vk f v ((k,x) :: r)=(if k=f then (k,v) :: r else (k,x) :: vk f v r) from rfl]
    by_cases hk:k=f
    · rw [if_pos hk]
      by_cases h:g=k
      · have hb:(g == k)=true:=beq_iff_eq.mpr h
        simp only [List.lookup,hb,if_pos (h.trans hk)]
      · have hb:(g == k)=false:=beq_eq_false_iff_ne.mpr h
        simp only [List.lookup,hb,if_neg (fun e:g=f=>h (e.trans hk.symm))]
    · rw [if_neg hk]
      by_cases h:g=k
      · have hb:(g == k)=true:=beq_iff_eq.mpr h
        simp only [List.lookup,hb,if_neg (fun e:g=f=>hk (h.symm.trans e))]
      · have hb:(g == k)=false:=beq_eq_false_iff_ne.mpr h
        simp only [List.lookup,hb]
        exact ih
theorem Jm (f:Str) (v:V):∀ fs:List (Str × V),f ∈ (vk f v fs).map (·.1)∧∀ g,g ∈ fs.map (·.1)->g ∈ (vk f v fs).map (·.1)
  | []=>⟨by simp [vk],fun g h=>by simp at h⟩
  | (k,x) :: r=>by
    obtain ⟨i1,i2⟩:=Jm f v r
    rw [show vk f v ((k,x) :: r)=(if k=f then (k,v) :: r else (k,x) :: vk f v r) from rfl]
    by_cases hk:k=f
    · rw [if_pos hk]
      subst hk
      exact ⟨by simp,fun g h=>by simpa using h⟩
    · rw [if_neg hk]
      refine ⟨?_,fun g h=>?_⟩
      · rw [List.map_cons]
        exact List.mem_cons_of_mem _ i1
      · rw [List.map_cons] at h ⊢
        rcases List.mem_cons.mp h with e | e
        · exact List.mem_cons.mpr (.inl e)
        · exact List.mem_cons_of_mem _ (i2 g e)
theorem Jx (f:Str) (v:V):∀ fs:List (Str × V),(vk f v fs).length<=fs.length + 1
  | []=>by simp [vk]
  | (k,x) :: r=>by
    have ih:=Jx f v r
    rw [show vk f v ((k,x) :: r)=(if k=f then (k,v) :: r else (k,x) :: vk f v r) from rfl]
    by_cases hk:k=f
    · rw [if_pos hk,List.length_cons,List.length_cons]; omega
    · rw [if_neg hk,List.length_cons,List.length_cons]; omega

theorem vG.some_of {v:V} {o:Option Value} (r:vG (some v) o):∃ u,o=some u∧yh v u:=by
  cases o with
  | none=>exact (show False from r).elim
  | some u=>exact ⟨u,rfl,r⟩
theorem vG.none_of {o:Option Value} (r:vG none o):o=none:=by
  cases o with
  | none=>rfl
  | some u=>exact (show False from r).elim
theorem jdA {v:V} {u:Value} (r:yh v u):PySem.W.handedIn u=true:=by
  cases v with
  | non=>cases (show u=Value.none from r); rfl
  | bl b=>cases (show u=Value.bool b from r); rfl
  | int i=>obtain ⟨t,e⟩:=(show ∃ t,u=Value.int i t from r); cases e; rfl
  | str x=>obtain ⟨t,e⟩:=(show ∃ t,u=Value.str x t from r); cases e; rfl
  | byt b=>obtain ⟨t,e⟩:=(show ∃ t,u=Value.bytes b t from r); cases e; rfl
  | flt b=>obtain ⟨t,e⟩:=(show ∃ t,u=Value.float b t from r); cases e; rfl
  | ref a=>cases (show u=Value.ref a from r); rfl
  | ty n=>cases (show u=Value.type n from r); rfl

section
variable {P:Program} {w:World} {H H':Hp} {h h':Heap} {a C dx:Addr} {fs fs':List (Str × V)}
theorem Uz (hok:HOk P w H h) (e:H a=some (.ins C dx fs)):∃ mA,ObjM h a dx C mA∧(∀ f,vG (fs.lookup f) (mA f))∧PySem.Within mA (fs.map (·.1))∧fs.length<=1000∧H dx=some (.own a):=by
  obtain ⟨d,z,ne,ob,mA,n,r,q⟩:=(show yr P w H h a (.ins C dx fs) from hok a _ e)
  exact ⟨mA,⟨ob,n,ne⟩,r,q,z,d⟩
end

structure Cls (K:PySem.W.Frag) (C:Addr):Prop where
  pg:PySem.W.plainGet K C Str.empty=true
  hd:PySem.W.hasDictIn K C=true
  po:PySem.W.plainOver K C=true
  sa:PySem.W.findIn K (.ref C) "__setattr__" = some (some (.builtin "object.__setattr__"))
theorem Cls.get {K:PySem.W.Frag} {C:Addr} (c:Cls K C) (f:Str):PySem.W.plainGet K C f=true:=c.pg
def jn (K:PySem.W.Frag) (C:Addr) (f:Str):Prop:=PySem.W.findIn K (.ref C) f=some none
theorem jn.taker {K:PySem.W.Frag} {C:Addr} {f:Str} (n:jn K C f):PySem.W.takerIn K C f=some none:=by
  unfold PySem.W.takerIn
  rw [show PySem.W.findIn K (.ref C) f=some none from n]
  rfl
structure Con (K:PySem.W.Frag) (C:Addr) (f:Str) (v:V) (u:Value):Prop where
  at_:PySem.W.findIn K (.ref C) f=some (some u)
  rel:yh v u
  get:PySem.W.specialIn K u "__get__" = some none
  cp:PySem.W.copiedNames.contains f=false
structure Meth (K:PySem.W.Frag) (C:Addr) (m:Str) (f:Addr):Prop where
  at_:PySem.W.findIn K (.ref C) m=some (some (.ref f))
  fn:PySem.W.isFn K (.ref f)=true
  kp:PySem.W.keepIn K (.ref f)=true

section
variable {X:Cx} {pins:List (Addr × Obj)} {σ:St} {H:Hp} {s:Shared} {a C dx:Addr} {fs:List (Str × V)} {f:Str} {v:V} {A:Around} {E:Value->Shared->Prop}

theorem jbB {b:Bool} {Q:Value->Shared->Prop} (I:Inv X pins σ H s) (e:H a=some (.ins C dx fs)) (c:Cls X.K C) (n:jn X.K C f) (l:fs.lookup f=some v)
    (h:∀ u s',Inv X pins σ H s'->yh v u->Q u s'):wpAny (model X.prog X.w) A (getAttr (.ref a) f b) Q E s:=by
  obtain ⟨mA,O,r,_,_,_⟩:=Uz I.hok e
  obtain ⟨u,hu,ru⟩:=vG.some_of (v:=v) (o:=mA f) (by rw [<- l]; exact r f)
  exact jhW I.kIn O (c.get f) c.hd n hu (jdA ru) (h u _ (I.tok _) ru)

theorem YB {m:Str} {g:Addr} {pl:Sem Bool} {Q:Value × List Value->Shared->Prop} (I:Inv X pins σ H s) (e:H a=some (.ins C dx fs)) (c:Cls X.K C) (k:Meth X.K C m g) (l:fs.lookup m=none)
    (h:Q (.ref g,[.ref a]) s):wpAny (model X.prog X.w) A (getMethod (.ref a) m pl) Q E s:=by
  obtain ⟨mA,O,r,_,_,_⟩:=Uz I.hok e
  have hn:mA m=none:=vG.none_of (by rw [<- l]; exact r m)
  exact jfI I.kIn O (c.get m) k.at_ k.fn hn h

theorem jbb {y:V} {u:Value} {Q:Unit->Shared->Prop} (I:Inv X pins σ H s) (e:H a=some (.ins C dx fs)) (c:Cls X.K C) (n:jn X.K C f) (hl:fs.length < 1000) (ry:yh y u)
    (h:∀ s',Inv X pins σ (upd H a (.ins C dx (vk f y fs))) s'->Q () s'):wpAny (model X.prog X.w) A (setAttr (.ref a) f u) Q E s:=by
  obtain ⟨mA,O,r,wi,_,ho⟩:=Uz I.hok e
  have hz:(fs.map (·.1)).length<=sizeLine:=by rw [List.length_map,sizeLine_eq]; omega
  refine jgO I.kIn O c.sa c.po n.taker c.hd wi hz fun h' O' sb=>h _ ?_
  have hd:∃ o,h'.get? dx=some o:=let ⟨o,_,_,e',_⟩:=O'.ns; ⟨o,e'⟩
  refine I.write (x:=a) (e:=dx) (by rw [e]; exact True.intro) (.inr ho) (fun b q hb z=>(sb.2 b hb).trans z) hd ?_
  refine ⟨by rw [jk O.ne]; exact ho,?_,O.ne,O'.obj,_,O'.ns,fun g=>?_,fun g hg=>?_⟩
  · have:=Jx f y fs; omega
  · show vG ((vk f y fs).lookup g) (if g=f then some u else mA g)
    rw [Jw]
    by_cases q:g=f
    · rw [if_pos q,if_pos q]; exact ry
    · rw [if_neg q,if_neg q]; exact r g
  · by_cases q:g=f
    · rw [q]; exact (Jm f y fs).1
    · refine (Jm f y fs).2 g (wi g fun z=>hg ?_)
      show (if g=f then some u else mA g)=none
      rw [if_neg q]; exact z

theorem Inv.made (I:Inv X pins σ H s):Inv X pins σ (upd (upd H s.heap.objs.size (.own (s.heap.objs.size + 1))) (s.heap.objs.size + 1) (.ins C s.heap.objs.size []))
    { s with heap:=(s.heap.push PySem.W.emptyDict).push (PySem.W.instObj C s.heap.objs.size) }:=by
  have e1:(s.heap.push PySem.W.emptyDict).get? s.heap.objs.size=some PySem.W.emptyDict:=Heap.get?_push_size s.heap rfl
  have e2:((s.heap.push PySem.W.emptyDict).push (PySem.W.instObj C s.heap.objs.size)).get? (s.heap.objs.size + 1)=some (PySem.W.instObj C s.heap.objs.size):=by
    have:=Heap.get?_push_size (s.heap.push PySem.W.emptyDict) (o:=PySem.W.instObj C s.heap.objs.size) rfl
    rwa [Heap.size_push] at this
  have e3:(s.heap.push PySem.W.emptyDict).Ns s.heap.objs.size (fun _=>none):=⟨PySem.W.emptyDict,#[],_,e1,rfl,(fun e he=>absurd he (by simp)),fun _=>rfl⟩
  have I1:=I.laid (a:=s.heap.objs.size) (o:=.own (s.heap.objs.size + 1)) (h':=s.heap.push PySem.W.emptyDict) (t':=s.toks) (fun b u q=>Heap.get?_push_of_some _ q) (Nat.le_refl _) ⟨_,e1⟩
  refine I1.laid (a:=s.heap.objs.size + 1) (o:=.ins C s.heap.objs.size []) (t':=s.toks) (fun b u q=>Heap.get?_push_of_some _ q) (Nat.le_of_eq (Heap.size_push _ _)) ?_
  have ne:s.heap.objs.size≠s.heap.objs.size + 1:=Nat.ne_of_lt (Nat.lt_succ_self _)
  refine ⟨by rw [jk ne,jr],Nat.zero_le _,ne,e2,fun _=>none,(Heap.Ns1.of_empty e3).at fun o q=>Heap.get?_push_of_some _ q,fun _=>True.intro,fun y hy=>absurd rfl hy⟩

theorem jio {prog:Program} {w:World} {env:Env} {e:Expr} {f:Str} {pos:Pos} {s:Shared} {Q:Value->Shared->Prop} (hb:attributeBase e f env (eval e env)=eval e env)
    (h:wpAny (model prog w) A (eval e env) (fun o s₁=>wpAny (model prog w) A (getAttr o f true) Q E s₁) E s):wpAny (model prog w) A (eval (.Attribute e f pos) env) Q E s :=
  Attribute_any_ h (by rw [arm_eval_Attribute,hb])
end

def tFld (K:PySem.W.Frag) (ta:TE) (f:Str):TE:=fun σ H Q=>ta σ H fun x H1=>∃ a C dx fs v,x = .ref a∧H1 a=some (.ins C dx fs)∧Cls K C∧jn K C f∧fs.lookup f=some v∧Q v H1
def sFld (K:PySem.W.Frag) (ta tv:TE) (f:Str):TS:=fun D σ H=>tv σ H fun y H1=>ta σ H1 fun x H2=>∃ a C dx fs,x = .ref a∧H2 a=some (.ins C dx fs)∧Cls K C∧jn K C f∧fs.length < 1000 ∧
  D.nx σ (upd H2 a (.ins C dx (vk f y fs)))
section
variable {X:Cx} {o e value:Expr} {f:Str} {pos pos' tpos:Pos} {ta tv:TE}
theorem pe_fld (he:PE X e ta) (hb:attributeBase e f X.env (eval e X.env)=eval e X.env):PE X (.Attribute e f pos) (tFld X.K ta f):=by
  intro pins s σ H Q I h
  refine jio hb (thn (he pins s σ H _ I h) fun u s1 hQQ=>?_)
  obtain ⟨x,H1,I1,rx,a,C,dx,fs,v,ex,ea,c,n,l,q⟩:=hQQ
  subst ex
  obtain rfl:u=Value.ref a:=rx
  exact jbB I1 ea c n l fun u' s2 I2 ru=>⟨v,H1,I2,ru,q⟩
theorem ps_fld (ha:PE X o ta) (hv:PE X value tv) (hs:swapsWith value (some (.Attribute o f pos')) pos.line X.env=pure false):PS X (.Assign [.Attribute o f pos'] value pos) (sFld X.K ta tv f):=by
  intro pins s σ H D I h
  refine plainObj_wpAny_Assign_Attribute (thn (hv pins s σ H _ I h) fun u s1 ⟨y,H1,I1,ry,q⟩=>thn (ha pins s1 σ H1 _ I1 q) fun ov s2 hQQ=>?_) hs
  obtain ⟨x,H2,I2,rx,a,C,dx,fs,ex,ea,c,n,l,q2⟩:=hQQ
  subst ex
  obtain rfl:ov=Value.ref a:=rx
  exact jbb I2 ea c n l ry fun s3 I3=>⟨σ,_,I3,q2⟩
end

section
variable {X:Cx} {pins:List (Addr × Obj)} {σ:St} {H:Hp} {s:Shared} {A:Around} {E:Value->Shared->Prop} {Q:Value->Shared->Prop} {c:Value} {b:Bool}
inductive TyOf (K:PySem.W.Frag) (H:Hp):V->Value->Prop where
  | non:TyOf K H .non (.type "NoneType")
  | bl (x:Bool):TyOf K H (.bl x) (.type "bool")
  | int (i:Int):TyOf K H (.int i) (.type "int")
  | str (x:Str):TyOf K H (.str x) (.type "str")
  | flt (x:UInt64):TyOf K H (.flt x) (.type "float")
  | lst {a:Addr} {xs:List V} (e:H a=some (.lst xs)):TyOf K H (.ref a) (.type "list")
  | frz {a:Addr} {o:Obj} {xs:List V} (e:H a=some (.frz o (.lst xs))):TyOf K H (.ref a) (.type "list")
  | tup {a:Addr} {xs:List V} (e:H a=some (.tup xs)):TyOf K H (.ref a) (.type "tuple")
  | dK {a:Addr} {kvs:List (Key × V)} (e:H a=some (.dK kvs)):TyOf K H (.ref a) (.type "dict")
  | dT {a:Addr} {kvs:List (List Key × V)} (e:H a=some (.dT kvs)):TyOf K H (.ref a) (.type "dict")
  | ins {a C dx:Addr} {fs:List (Str × V)} (e:H a=some (.ins C dx fs)) (cl:Cls K C) (ha:PySem.W.findIn K (.ref C) "__class__" = some (some (.builtin "object.__class__")))
      (hn:PySem.W.specialIn K (.builtin "object.__class__") "__get__" = some (some (.builtin "getset_descriptor.__get__"))) (htk:PySem.W.takesIn K (.builtin "object.__class__")=some true)
      (hm:PySem.W.mroIn K C (.type "object")=some true):TyOf K H (.ref a) (.ref C)
end
end L2

namespace L2
open PySem PySem.Spec PyProof.Rows

structure Room (k:Nat) (A:Around):Prop where
  hd:A.handled=none
  dp:A.depth + 3 * k + 5 < recursionLimit
  un:A.units + 16 * k + 200 < cLine
theorem Room.mono {j k:Nat} {A:Around} (r:Room k A) (h:j<=k):Room j A:=⟨r.hd,by have:=r.dp; omega,by have:=r.un; omega⟩
theorem Room.deeper {k:Nat} {A:Around} (r:Room (k + 1) A) (env:Env):Room k (A.deeper env) :=
  ⟨r.hd,by have:=r.dp; show A.depth + 1 + 3 * k + 5 < _; omega,by have:=r.un; show A.units + 3 + 16 * k + 200 < _; omega⟩
theorem jbv {A:Around} {C:Addr} {us:List Value} {kw:List (Str × Value)}:(A.under (.builtin "type.__call__" ⟨.ref C :: us,kw⟩)).depth=A.depth + 1:=by
  first | rfl | simp [Around.under,Code.weight,Code.isCreation,Code.isGuard,Code.isCaller,Code.frames,Code.isFrame,guardIds]
theorem jbu {A:Around} {C:Addr} {us:List Value} {kw:List (Str × Value)}:(A.under (.builtin "type.__call__" ⟨.ref C :: us,kw⟩)).units=A.units + 1:=by
  first | rfl | simp [Around.under,Code.cUnits,Code.frames,Code.isFrame]
theorem Room.make {k:Nat} {A:Around} (r:Room (k + 1) A) (C:Addr) (us:List Value) (kw:List (Str × Value)):Room k (A.under (.builtin "type.__call__" ⟨.ref C :: us,kw⟩)) :=
  ⟨r.hd,by have:=r.dp; rw [jbv]; omega,by have:=r.un; rw [jbu]; omega⟩
theorem Room.depth {k:Nat} {A:Around} (r:Room k A):A.depth < recursionLimit:=by have:=r.dp; omega
theorem Room.units {k:Nat} {A:Around} (r:Room k A):A.units + 64 < cLine:=by have:=r.un; omega
theorem Room.units0 {k:Nat} {A:Around} (r:Room k A):A.units < cLine:=by have:=r.un; omega

def tNil:TA:=fun _ H Q=>Q [] H
def jee (ta:TE) (tr:TA):TA:=fun σ H Q=>ta σ H fun x H1=>tr σ H1 fun xs H2=>Q (x :: xs) H2
section
variable {X:Cx} {e:Expr} {es:List Expr} {te:TE} {t:TA} {pos:Pos}
theorem jbn:PA X [] tNil:=fun _ _ _ _ H Q I h=>Calls.spliced_nil ⟨[],H,I,.nil,h⟩
theorem Up (ha:PE X e te) (hr:PA X es t) (hs:starEach (e :: es) X.env=(false,eval e X.env) :: starEach es X.env:=by rfl):PA X (e :: es) (jee te t):=by
  intro pos pins s σ H Q I h
  rw [hs]
  show wpAny _ _ (spliced ((false,eval e X.env) :: backTo pos (starEach es X.env))) _ _ s
  refine Calls.spliced_cons (thn (ha pins s σ H _ I h) fun u s1 hQQ=>?_)
  obtain ⟨x,H1,I1,r1,q1⟩:=hQQ
  exact thn (hr pos pins s1 σ H1 _ I1 q1) fun us s2 ⟨xs,H2,I2,r2,q2⟩=>⟨x :: xs,H2,I2,.cons r1 r2,q2⟩

def tTup (t:TA):TE:=fun σ H Q=>t σ H fun xs H1=>xs.length<=sizeLine∧∀ p,H1 p=none->Q (.ref p) (upd H1 p (.tup xs))
def tLst (t:TA):TE:=fun σ H Q=>t σ H fun xs H1=>xs.length<=sizeLine∧∀ p,H1 p=none->Q (.ref p) (upd H1 p (.lst xs))
theorem Yq {x1} (h:PA X es t):PE X (.Tuple es x1 pos) (tTup t):=by
  intro pins s σ H Q I hq
  refine wpAny_Tuple_spliced (thn (h pos pins s σ H _ I hq) fun us s1 ⟨xs,H1,I1,r,z,q⟩=>⟨by rw [<- r.length]; exact z,?_⟩)
  have hf:H1 s1.heap.objs.size=none:=I1.hok.fresh (Nat.le_refl _)
  refine ⟨.ref s1.heap.objs.size,upd H1 s1.heap.objs.size (.tup xs),I1.laid (t':=s1.toks) (fun b u e=>Heap.get?_push_of_some _ e) (Nat.le_refl _) ?_,rfl,q _ hf⟩
  exact ⟨z,us,r,⟨_,Heap.get?_push_size _ rfl,rfl,_,rfl⟩⟩
theorem jeU (h:PA X es t):PE X (.List es pos) (tLst t):=by
  intro pins s σ H Q I hq
  refine wpAny_List_spliced (thn (h pos pins s σ H _ I hq) fun us s1 ⟨xs,H1,I1,r,z,q⟩=>⟨by rw [<- r.length]; exact z,?_⟩)
  have hf:H1 s1.heap.objs.size=none:=I1.hok.fresh (Nat.le_refl _)
  refine ⟨.ref s1.heap.objs.size,upd H1 s1.heap.objs.size (.lst xs),I1.laid (t':=s1.toks) (fun b u e=>Heap.get?_push_of_some _ e) (Nat.le_refl _) ?_,rfl,q _ hf⟩
  exact ⟨z,us,0,r,Heap.get?_push_size _ rfl⟩
end

abbrev Sp:=List V->Hp->VK->XK->Prop
abbrev CXT:=List Env->Hp->Shared->XK->Value->Shared->Prop

structure Env0 (P:Program) (w:World) (K:PySem.W.Frag) (mg:Str->Option Value) (base:Heap) (A:Around) (outer:List Env) (s:Shared) (H:Hp):Prop where
  frames:A.frames=some outer
  mod:Mod K mg base
  bs:∀ b o,base.get? b=some o->s.heap.get? b=some o∧H b=none
  bsz:base.objs.size<=s.heap.objs.size
  funs:s.heap.FunFrames base outer
  frf:∀ b ∈ frs outer,H b=none
  hok:HOk P w H s.heap
  bare:AllBare s.gens
def CE (outer:List Env) (P:Program) (w:World) (H:Hp) (s:Shared) (Q:VK) (u:Value) (s':Shared):Prop :=
  ∃ v H',s'.os=s.os∧AllBare s'.gens∧Un (frs outer) [] H H' s.heap s'.heap∧HOk P w H' s'.heap∧yh v u∧Q v H'
def CR (CX:CXT) (outer:List Env) (P:Program) (w:World) (H:Hp) (s:Shared) (Q:VK) (E:XK) (r:Result) (s':Shared):Prop :=
  match r with
  | .ok (.ret u)=>CE outer P w H s Q u s'
  | .ok _=>False
  | .error e=>CX outer H s E e s'
structure FnOk (P:Program) (w:World) (K:PySem.W.Frag) (mg:Str->Option Value) (base:Heap) (CX:CXT) (k:Nat) (f:Addr) (fd:FuncData) (ps:List Str) (sp:Sp):Prop where
  len:∀ vs H Q E,sp vs H Q E->vs.length=ps.length
  run:∀ (A:Around) (outer:List Env) (s:Shared) (H:Hp) (args:Args) (us:List Value) (vs:List V) (Q:VK) (E:XK),Room k A->Env0 P w K mg base A outer s H->BindsTo s fd args (ps.zip us)->yg vs us->sp vs H Q E ->
    codeAny (model P w) A (.call (.ref f) args) (CR CX outer P w H s Q E) s
theorem FnOk.imp {P:Program} {w:World} {K:PySem.W.Frag} {mg:Str->Option Value} {base:Heap} {CX:CXT} {k:Nat} {f:Addr} {fd:FuncData} {ps:List Str} {sp sp':Sp} (F:FnOk P w K mg base CX k f fd ps sp)
    (h:∀ vs H Q E,sp' vs H Q E->sp vs H Q E):FnOk P w K mg base CX k f fd ps sp' :=
  ⟨fun vs H Q E q=>F.len vs H Q E (h _ _ _ _ q),fun A outer s H args us vs Q E hr he hb hv hs=>F.run A outer s H args us vs Q E hr he hb hv (h _ _ _ _ hs)⟩

theorem Env0.make {P:Program} {w:World} {K:PySem.W.Frag} {mg:Str->Option Value} {base:Heap} {A:Around} {outer:List Env} {s:Shared} {H:Hp} (e:Env0 P w K mg base A outer s H) (C:Addr) (us:List Value) (kw:List (Str × Value)) :
    Env0 P w K mg base (A.under (.builtin "type.__call__" ⟨.ref C :: us,kw⟩)) outer s H:=⟨by first | exact e.frames | (simpa [Around.under,Code.envs,Code.isFrame,pushEnvs] using e.frames),e.mod,e.bs,e.bsz,e.funs,e.frf,e.hok,e.bare⟩
section
variable {X:Cx} {pins:List (Addr × Obj)} {σ:St} {H:Hp} {s s':Shared}
theorem Inv.env0 (I:Inv X pins σ H s):Env0 X.prog X.w X.K X.mg X.base X.A X.stack s H :=
  ⟨I.ok.frames,I.ok.mod,I.bs,Nat.le_trans I.ok.bsz I.sz,I.stack,I.stkFree,I.hok,I.bare⟩
theorem Inv.after {Q:VK} {u:Value} (I:Inv X pins σ H s) (h:CE X.stack X.prog X.w H s Q u s'):EP X pins σ Q u s':=by
  obtain ⟨v,H',os,bare,un,hok,r,q⟩:=h
  obtain ⟨hh,g,d,t,os'⟩:=s'
  obtain rfl:os'=s.os:=os
  exact ⟨v,H',I.call (h':=hh) (g':=g) (d':=d) (t':=t) (ch:=[]) un hok bare (fun b z=>absurd z (by simp)),r,q⟩
end

def jcS (K:PySem.W.Frag) (fd:FuncData) (ps:List Str) (ds:List Value):Prop :=
  ∀ (s:Shared) (us:List Value),K.In s.heap->(us ++ ds).length=ps.length->BindsTo s fd ⟨us,[]⟩ (ps.zip (us ++ ds))
def Passes (CX:CXT) (X:Cx) (E:XK):Prop:=∀ (pins:List (Addr × Obj)) (σ:St) (H:Hp) (s:Shared) (e:Value) (s':Shared),Inv X pins σ H s->CX X.stack H s E e s'->X.xe e s'

section
variable {X:Cx} {CX:CXT} {k:Nat} {f C:Addr} {fd:FuncData} {ps:List Str} {sp:Sp} {dvs:List V} {ds:List Value} {E:XK} {x m:Str} {p pos apos:Pos} {e o:Expr} {es:List Expr} {ta:TE} {t:TA}

structure Mk (K:PySem.W.Frag) (C f:Addr):Prop where
  makes:PySem.W.makesIn K C=true
  init:PySem.W.findIn K (.ref C) "__init__" = some (some (.ref f))
  fn:PySem.W.isFn K (.ref f)=true
  kp:PySem.W.keepIn K (.ref C)=true

end

def PK (X:Cx) (kws:List Keyword) (t:TA):Prop :=
  ∀ (pos:Pos) (pins:List (Addr × Obj)) (s:Shared) (σ:St) (H:Hp) (Q:List V->Hp->Prop),Inv X pins σ H s->t σ H Q->wpAny (model X.prog X.w) X.A (evalAll ((backToKw pos (keywordEach kws X.env)).map (·.2))) (AP X pins σ Q) X.xe s
section
variable {X:Cx} {CX:CXT} {k:Nat} {f C:Addr} {fd:FuncData} {ps ks:List Str} {sp:Sp} {E:XK} {x m:Str} {p pos apos kpos:Pos} {e o:Expr} {es:List Expr} {kws:List Keyword} {te ta:TE} {t tk:TA} {nm:Option Str}
theorem pk_nil:PK X [] tNil:=fun _ _ _ _ H Q I h=>wpAny_evalAll_nil ⟨[],H,I,.nil,h⟩
theorem jhp (ha:PE X e te) (hr:PK X kws t):PK X (⟨nm,e,kpos⟩ :: kws) (jee te t):=by
  intro pos pins s σ H Q I h
  show wpAny _ _ (evalAll ((do let v <- eval e X.env; standAt pos; pure v) :: (backToKw pos (keywordEach kws X.env)).map (·.2))) _ _ s
  refine wpAny_evalAll_cons (wpAny_bind (thn (ha pins s σ H _ I h) fun u s1 ⟨x,H1,I1,r1,q1⟩=>wpAny_bind (wpAny_standAt (wpAny_pure ?_))))
  exact thn (hr pos pins s1 σ H1 _ I1 q1) fun us s2 ⟨xs,H2,I2,r2,q2⟩=>⟨x :: xs,H2,I2,.cons r1 r2,q2⟩

structure KBinds (K:PySem.W.Frag) (fd:FuncData) (ps ks:List Str) (g:List Value->List Value->List Value) (gV:List V->List V->List V):Prop where
  to:∀ (s:Shared) (us ws:List Value),K.In s.heap->(g us ws).length=ps.length->BindsTo s fd ⟨us,ks.zip ws⟩ (ps.zip (g us ws))
  rel:∀ {vs:List V} {us:List Value} {zs:List V} {ws:List Value},yg vs us->yg zs ws->yg (gV vs zs) (g us ws)
variable {g:List Value->List Value->List Value} {gV:List V->List V->List V}
end

structure FnScope (N P:List Str) (sc:Scope):Prop where
  kind:sc.kind = .function
  co:sc.isCoroutine=false
  gen:sc.isGenerator=false
  nd:N.Nodup
  pre:N.take P.length=P
  par:∀ x ∈ P,sc.names.lookup x=some .local∨sc.names.lookup x=some .cell
  nofree:∀ y ∈ sc.names,y.2≠.free

theorem VF {kindOf:Str->Option NameKind} {x:Str}:∀ {binds:List (Str × Value)} {m:Str->Option Value},(∀ v,(x,v) ∉ binds)->bindL kindOf binds m x=m x
  | [],_,_=>rfl
  | (n,v) :: r,m,h=>by
    unfold bindL
    rw [VF fun w hw=>h w (List.mem_cons_of_mem _ hw)]
    split
    · have:x≠n:=by rintro rfl; exact h v List.mem_cons_self
      simp [this]
    · rfl
theorem VH {kindOf:Str->Option NameKind} {x:Str}:∀ {binds:List (Str × Value)} {m:Str->Option Value},(∀ v,(x,v) ∉ binds)->bindC kindOf binds m x=m x
  | [],_,_=>rfl
  | (n,v) :: r,m,h=>by
    unfold bindC
    rw [VH fun w hw=>h w (List.mem_cons_of_mem _ hw)]
    split
    · rfl
    · have:x≠n:=by rintro rfl; exact h v List.mem_cons_self
      simp [this]
theorem VG {kindOf:Str->Option NameKind} {x:Str} {v:Value}:∀ {P:List Str} {vs:List Value} {i:Nat} {m:Str->Option Value},P.Nodup->P[i]? = some x->vs[i]? = some v->kindOf x=some .local ->
    bindL kindOf (P.zip vs) m x=some v
  | [],_,_,_,_,h,_,_=>by simp at h
  | _ :: _,[],_,_,_,_,h,_=>by simp at h
  | p :: P,w :: vs,0,m,nd,h1,h2,hk=>by
    simp at h1 h2; subst h1; subst h2
    show bindL kindOf ((p,w) :: P.zip vs) m p=_
    unfold bindL
    rw [VF fun v hv=>(List.nodup_cons.mp nd).1 (List.of_mem_zip hv).1,if_pos hk]
    simp
  | p :: P,w :: vs,i + 1,m,nd,h1,h2,hk=>by
    show bindL kindOf ((p,w) :: P.zip vs) m x=_
    unfold bindL
    exact VG (i:=i) (List.nodup_cons.mp nd).2 (by simpa using h1) (by simpa using h2) hk
theorem VI {kindOf:Str->Option NameKind} {x:Str} {v:Value}:∀ {P:List Str} {vs:List Value} {i:Nat} {m:Str->Option Value},P.Nodup->P[i]? = some x->vs[i]? = some v->kindOf x≠some .local ->
    bindC kindOf (P.zip vs) m x=some v
  | [],_,_,_,_,h,_,_=>by simp at h
  | _ :: _,[],_,_,_,_,h,_=>by simp at h
  | p :: P,w :: vs,0,m,nd,h1,h2,hk=>by
    simp at h1 h2; subst h1; subst h2
    show bindC kindOf ((p,w) :: P.zip vs) m p=_
    unfold bindC
    rw [VH fun v hv=>(List.nodup_cons.mp nd).1 (List.of_mem_zip hv).1,if_neg hk]
    simp
  | p :: P,w :: vs,i + 1,m,nd,h1,h2,hk=>by
    show bindC kindOf ((p,w) :: P.zip vs) m x=_
    unfold bindC
    exact VI (i:=i) (List.nodup_cons.mp nd).2 (by simpa using h1) (by simpa using h2) hk

def start (N:List Str) (vs:List V):St:=vs.map some ++ List.replicate (N.length - vs.length) none

def vA (CX:CXT) (P:Program) (w:World) (K:PySem.W.Frag) (mg:Str->Option Value) (base:Heap) (N:List Str) (qual:Str) (scope:Scope) (f:Addr) (cd:Value) (A:Around) (outer:List Env) (s:Shared) (H:Hp) (E:XK):Cx where
  prog:=P
  w:=w
  K:=K
  mg:=mg
  base:=base
  A:=A.deeper (envOfC qual scope s.heap.objs.size f cd)
  N:=N
  s₀:=s
  H₀:=H
  env:=envOfC qual scope s.heap.objs.size f cd
  outer:=outer
  stack:=envOfC qual scope s.heap.objs.size f cd :: outer
  ex:=[]
  calm:=true
  fn:=fun _=>true
  pn:=[]
  xe:=fun e s'=>wpAny (model P w) (A.deeper (envOfC qual scope s.heap.objs.size f cd)) («leaving» (envOfC qual scope s.heap.objs.size f cd) e) (fun _ s''=>CX outer H s E e s'') (fun e' s''=>CX outer H s E e' s'') s'

theorem jaK {sc:Scope} {n:Nat} {x:Str} (h:sc.names.lookup x=some .cell):∃ c,(cellsFrom n sc.names []).lookup x=some c:=by
  have q:=PySem.W.cellsFrom_some sc.names n [] (.inl h)
  exact Option.isSome_iff_exists.mp q

theorem jdw {CX:CXT} {P:Program} {w:World} {K:PySem.W.Frag} {mg:Str->Option Value} {base:Heap} {N ps:List Str} {qual:Str} {scope:Scope} {f:Addr} {cd:Value} {A:Around} {outer:List Env} {s s1:Shared} {H:Hp} {E:XK} {us:List Value} {vs:List V}
    (S:FnScope N ps scope) (hd:A.handled=none) (e0:Env0 P w K mg base A outer s H) (hl:vs.length=ps.length) (r:yg vs us)
    (x:InCallC s s.heap.objs.size (bindL (envOfC qual scope s.heap.objs.size f cd).kindOf (ps.zip us) fun _=>none) (cellsFrom (s.heap.objs.size + 1) scope.names []) (bindC (envOfC qual scope s.heap.objs.size f cd).kindOf (ps.zip us) fun _=>none) s1) :
    Inv (vA CX P w K mg base N qual scope f cd A outer s H E) [] (start N vs) H s1:=by
  have hpl:ps.length<=N.length:=by have:=congrArg List.length S.pre; rw [List.length_take] at this; omega
  obtain ⟨h1,tk,rfl,hk⟩:=x.done
  have noA:∀ b:Addr,b ∉ (vA CX P w K mg base N qual scope f cd A outer s H E).ex:=fun b z=>absurd (show b ∈ ([]:List Addr) from z) (by simp)
  refine ⟨⟨e0.mod,S.kind,rfl,rfl,Nat.le_refl _,fun y z c h1 h2=>?_,fun y hy=>?_,fun y c _ h=>?_,fun _=>hd,Around.frames_deeper e0.frames,.inr ⟨rfl,rfl⟩,fun b z=>absurd z (noA b),e0.bs,e0.bsz,fun b _ _=>noA b,fun b z=>absurd z (noA b),e0.funs,e0.frf⟩,
    rfl,e0.bare,Un.kept hk,⟨_,x.toInCall.ns,fun i y v h1 h2 h3=>?_⟩,fun y c h=>⟨_,x.cell y c h⟩,e0.hok.fresh (Nat.le_refl _),fun y c h=>?_,fun p hp=>absurd (show p ∈ ([]:List (Addr × Obj)) from hp) (by simp),e0.hok.kept hk,?_⟩
  · exact name_of_addr x.apart (PySem.mem_of_lookup h1) (PySem.mem_of_lookup h2)
  · have hy:scope.names.lookup y=some .cell∨scope.names.lookup y=some .free:=hy
    rcases hy with hy | hy
    · exact jaK hy
    · exact absurd rfl (S.nofree _ (PySem.mem_of_lookup hy))
  · exact Nat.le_of_lt (x.above y c (PySem.mem_of_lookup h))
  · have hi:i < vs.length:=by
      unfold start at h2
      by_cases hi:i < vs.length
      · exact hi
      · rw [List.getElem?_append_right (by simpa using hi)] at h2
        rw [List.getElem?_replicate] at h2
        split at h2 <;> cases h2
    have ha:vs[i]? = some v:=by
      unfold start at h2
      rw [List.getElem?_append_left (by simpa using hi),List.getElem?_map] at h2
      cases e:vs[i]? with
      | none=>rw [e] at h2; cases h2
      | some a=>rw [e] at h2; cases h2; rfl
    obtain ⟨u,hu,rv⟩:=r.get ha
    have hp:ps[i]? = some y:=by
      rw [<- S.pre,List.getElem?_take_of_lt (by omega)]; exact h1
    have ndP:ps.Nodup:=by rw [<- S.pre]; exact S.nd.sublist (List.take_sublist _ _)
    refine ⟨u,rv,?_⟩
    rcases S.par y (List.mem_of_getElem? hp) with k | k
    · exact .inl ⟨k,VG ndP hp hu k⟩
    · obtain ⟨c,e⟩:=jaK (n:=s.heap.objs.size + 1) k
      refine .inr ⟨.inl k,c,e,?_⟩
      have q:=x.cell y c e
      rw [VI ndP hp hu (by show scope.names.lookup y≠_; rw [k]; decide)] at q
      exact q
  · exact e0.hok.fresh (Nat.le_of_lt (x.above y c (PySem.mem_of_lookup h)))
  · unfold start
    show _=N.length
    rw [List.length_append,List.length_map,List.length_replicate]
    omega

theorem jiG {CX:CXT} {P:Program} {w:World} {K:PySem.W.Frag} {mg:Str->Option Value} {base:Heap} {k:Nat} {f:Addr} {name qual:Str} {params:Arguments} {body:List Stmt} {scope:Scope} {dV kV doc pm cdv ct oc:Value} {an od:Option Addr}
    {osl:Array (Option Value)} {N ps:List Str} {sp:Sp} (lk:K.lookup f=some ⟨oc,od,.func (PySem.W.fnOf name qual params body scope dV kV doc pm an cdv ct),osl⟩) (hcd:PySem.W.codeIn K cdv qual=true) (S:FnScope N ps scope)
    (len:∀ vs H Q E,sp vs H Q E->vs.length=ps.length)
    (hbody:∀ (A:Around) (outer:List Env) (s:Shared) (H:Hp) (vs:List V) (Q:VK) (E:XK),Room k (A.deeper (envOfC qual scope s.heap.objs.size f cdv))->sp vs H Q E ->
      ∃ t,PSs (vA CX P w K mg base N qual scope f cdv A outer s H E) body t∧t { nx:=fun _ H'=>Q .non H',rt:=Q } (start N vs) H) :
    FnOk P w K mg base CX (k + 1) f (PySem.W.fnOf name qual params body scope dV kV doc pm an cdv ct) ps sp:=by
  refine ⟨len,fun A outer s H args us vs Q E hr e0 hb r hsp=>?_⟩
  have hl:=len _ _ _ _ hsp
  have KX:K.In s.heap:=e0.mod.kin.keeps fun b o e=>(e0.bs b o e).1
  have lim:s.heap.NoLimit:=e0.mod.nolimit.keeps fun b o e=>(e0.bs b o e).1
  have hkind:∀ y ∈ ps.zip us,scope.names.lookup y.1=some .local∨(scope.names.lookup y.1=some .cell∧((cellsFrom (s.heap.objs.size + 1) scope.names []).lookup y.1).isSome=true):=fun ⟨n,v⟩ hy=>by
    rcases S.par n (List.of_mem_zip hy).1 with q | q
    · exact .inl q
    · exact .inr ⟨q,PySem.W.cellsFrom_some _ _ _ (.inl q)⟩
  refine codeAny_call_function hr.depth (KX _ _ lk) rfl S.co S.gen rfl (PySem.W.codeRec_of KX hcd) (hb _ _ _ _ ?_)
  refine wpAny_newFunctionEnv_cells S.kind hkind fun env he s1 x=>?_
  subst he
  refine ⟨lim.keeps x.toInCall.keep,codeAny_func ?_⟩
  obtain ⟨t,ht,hq⟩:=hbody A outer s H vs Q E (hr.deeper _) hsp
  have I:Inv (vA CX P w K mg base N qual scope f cdv A outer s H E) [] (start N vs) H s1:=jdw S hr.hd e0 hl r x
  refine wpAny_mono (ht [] s1 (start N vs) H _ I hq) (fun fl s' hs=>?_) fun e s' hs=>hs
  have fin:∀ {σ':St} {H':Hp} {v:V} {u:Value},Inv (vA CX P w K mg base N qual scope f cdv A outer s H E) [] σ' H' s'->yh v u->Q v H'->CE outer P w H s Q u s' :=
    fun {σ' H' v u} J rv q=>⟨v,H',J.os,J.bare,J.base,J.hok,rv,q⟩
  cases fl with
  | ret u =>
    obtain ⟨v,σ',H',J,rv,q⟩:=hs
    exact fin J rv q
  | next =>
    obtain ⟨σ',H',J,q⟩:=hs
    exact fin (v:=V.non) (u:=Value.none) J rfl q
  | brk =>
    obtain ⟨_,_,_,q⟩:=hs
    exact False.elim q
  | cont =>
    obtain ⟨_,_,_,q⟩:=hs
    exact False.elim q
end L2

namespace L2
open PySem PySem.Spec PyProof.Rows
section
variable {X:Cx} {x:Str} {p pos:Pos} {e:Expr} {es:List Expr} {t:TA} {id T:String} {r:List V->Hp->VK->Prop}

def tCB (r:List V->Hp->VK->Prop) (t:TA):TE:=fun σ H Q=>t σ H fun vs H1=>r vs H1 Q
theorem jab (hc:yU X (.builtin id) r) (hg:Gl X x) (hm:X.mg x=none) (hv:bootBuiltins x=some (.builtin id)) (ha:PA X (e :: es) t) (hn:x≠"__name__":=by decide) (hdb:(x == ("__debug__":Str))=false:=by decide)
    (he:starEach (e :: es) X.env=(false,eval e X.env) :: starEach es X.env:=by rfl) (hpl:(backTo pos (starEach es X.env)).any (·.1)=false:=by rfl):PE X (.Call (.Name x p) (e :: es) [] pos) (tCB r t):=by
  intro pins s σ H Q I h
  refine wpAny_Call_Name_kw (Yu I hg hm hv ?_ hn hdb)
  exact PyProof.Rows.callWith_builtin1 (thn (ha pos pins s σ H _ I h) fun us s1 ⟨vs,H1,I1,r1,q1⟩=>hc pins s1 σ H1 vs us Q I1 r1 q1) he hpl
theorem Vd (hc:yU X (.type T) r) (hg:Gl X x) (hm:X.mg x=none) (hv:bootBuiltins x=some (.type T)) (ha:PA X (e :: es) t) (hn:x≠"__name__":=by decide) (hdb:(x == ("__debug__":Str))=false:=by decide)
    (he:starEach (e :: es) X.env=(false,eval e X.env) :: starEach es X.env:=by rfl) (hpl:(backTo pos (starEach es X.env)).any (·.1)=false:=by rfl):PE X (.Call (.Name x p) (e :: es) [] pos) (tCB r t):=by
  intro pins s σ H Q I h
  refine wpAny_Call_Name_kw (Yu I hg hm hv ?_ hn hdb)
  exact PyProof.Rows.callWith_type1 (thn (ha pos pins s σ H _ I h) fun us s1 ⟨vs,H1,I1,r1,q1⟩=>hc pins s1 σ H1 vs us Q I1 r1 q1) he hpl
end
end L2

namespace HT
open PySem PyProof.Rows

section
open PySem.SeqAt
open PySem.AutoSeq1 (wpAny_loadPart')
open PySem.MeetsSeq PySem.MeetsSeq2 PySem.MeetsSeq3

end

section
variable {prog:Program} {w:World} {A:Around} {E:Value->Shared->Prop} {s:Shared}

theorem cat_tup {t b:Addr} {vs ws:List Value} {Q:Value->Shared->Prop} (ht:IsTup s.heap t vs.toArray) (hb:IsTup s.heap b ws.toArray) (hv:vs≠[])
    (h1:ws=[]->Q (.ref t) s) (h2:ws≠[]->Q (.ref s.heap.objs.size) { s with heap:=s.heap.push { cls:=.type "tuple",data:=.seq (vs ++ ws).toArray } })
    (hsz:vs.length + ws.length<=sizeLine):wpAny (model prog w) A (binaryOp .Add (.ref t) (.ref b)) Q E s:=by
  obtain ⟨⟨cls,dd,data,sl⟩,ho,hc,n,hd⟩:=id ht
  obtain ⟨⟨cls2,dd2,data2,sl2⟩,ho2,hc2,n2,hd2⟩:=id hb
  simp only at hc hd hc2 hd2
  subst hc hd hc2 hd2
  have e:vs.toArray ++ ws.toArray=(vs ++ ws).toArray:=by simp
  by_cases hw:ws=[]
  · exact concat_meets ⟨_,ho,rfl⟩ ⟨_,ho2,rfl⟩ noFill_tuple_add seq_tuple_add PySem.F.slot_tuple_add PySem.F.entry_tuple_add (PySem.F.args_tuple_add_2 _ _)
      (tuple_addW1 t b vs.toArray ws.toArray n n2 dd dd2 sl sl2 (by simpa using hv) (by simp [hw])) ⟨ho,ho2,h1 hw⟩
  · refine concat_meets ⟨_,ho,rfl⟩ ⟨_,ho2,rfl⟩ noFill_tuple_add seq_tuple_add PySem.F.slot_tuple_add PySem.F.entry_tuple_add (PySem.F.args_tuple_add_2 _ _)
      (tuple_addW2 t b vs.toArray ws.toArray n n2 dd dd2 sl sl2 (by simpa using hv) (by simpa using hw) (by rw [List.size_toArray,List.size_toArray]; exact hsz)) ⟨ho,ho2,?_⟩
    rw [e]
    exact h2 hw

def sIx (n d:Nat):Option Int->Nat
  | none=>d
  | some v=>if v < 0 then (v + (n:Int)).toNat else min v.toNat n
theorem sIx_le (n d:Nat) (hd:d<=n) (o:Option Int):sIx n d o<=n:=by
  cases o with
  | none=>exact hd
  | some v =>
    show (if v < 0 then (v + (n:Int)).toNat else min v.toNat n)<=n
    by_cases hv:v < 0
    · rw [if_pos hv]; omega
    · rw [if_neg hv]; exact Nat.min_le_right _ _
theorem jcI (v:Int) (n d:Nat):(if v < 0 then max (v + (n:Int)) 0 else min v (n:Int))=((sIx n d (some v):Nat):Int):=by
  show (if v < 0 then max (v + (n:Int)) 0 else min v (n:Int))=(((if v < 0 then (v + (n:Int)).toNat else min v.toNat n):Nat):Int)
  by_cases hv:v < 0
  · simp only [if_pos hv]; omega
  · simp only [if_neg hv]; omega
theorem jbR (lo hi:Option Int) (n:Nat):Builtin.Slice.sliceAdjust lo hi 1 (n:Int)=(((sIx n 0 lo:Nat):Int),((sIx n n hi:Nat):Int)):=by
  have h1:¬ ((1:Int) < 0):=by omega
  unfold Builtin.Slice.sliceAdjust
  simp only [h1,if_false]
  refine Prod.ext ?_ ?_
  · cases lo with
    | none=>rfl
    | some v=>exact jcI v n 0
  · cases hi with
    | none=>rfl
    | some v=>exact jcI v n n
theorem jbl (i j:Nat):Builtin.Slice.slicePlaces (i:Int) (j:Int) 1=j - i:=by
  unfold Builtin.Slice.slicePlaces
  have h1:(1:Int) > 0:=by omega
  simp only [h1,if_true,Int.ediv_one]
  split <;> omega
theorem JX {v:Value} {o:Option Int} {Q:Option Int->Shared->Prop} (p:IsPart v o) (h:Q o s):wpAny (model prog w) A (Builtin.Slice.slicePartIndex v) Q E s:=by
  cases p with
  | none=>exact slicePart_none h
  | int i t=>exact slicePart_int h
theorem xQ {sl:Addr} {vl vu:Value} {lo hi:Option Int} {n:Nat} {Q:Int × Int × Nat->Shared->Prop} (hs:s.heap.IsSliceOf sl vl vu .none) (pl:IsPart vl lo) (pu:IsPart vu hi)
    (h:Q (((sIx n 0 lo:Nat):Int),1,sIx n n hi - sIx n 0 lo) s):wpAny (model prog w) A (Builtin.Slice.sliceApplied (.ref sl) (pure (n:Int))) Q E s:=by
  obtain ⟨os,hos,hcs,hds⟩:=id hs
  unfold Builtin.Slice.sliceApplied Builtin.Slice.sliceFields
  refine wpAny_bind (wpAny_bind (wpAny_field hos hds (x:=vl) rfl (wpAny_bind (wpAny_field hos hds (x:=vu) rfl (wpAny_bind (wpAny_field hos hds (x:=.none) rfl (wpAny_pure ?_)))))))
  refine wpAny_bind (slicePart_none ?_)
  show wpAny _ _ (if ((1:Int) == 0)=true then _ else _) _ _ s
  rw [if_neg (by decide)]
  refine wpAny_bind (JX pl (wpAny_bind (JX pu (wpAny_bind (wpAny_pure ?_)))))
  show wpAny _ _ (match Builtin.Slice.sliceAdjust lo hi 1 (n:Int) with | (lo,hi)=>pure (lo,(1:Int),Builtin.Slice.slicePlaces lo hi 1)) _ _ s
  rw [jbR lo hi n]
  show wpAny _ _ (pure (((sIx n 0 lo:Nat):Int),(1:Int),Builtin.Slice.slicePlaces ((sIx n 0 lo:Nat):Int) ((sIx n n hi:Nat):Int) 1)) _ _ s
  rw [jbl]
  exact wpAny_pure h
theorem jeN (xs:Array Value) (i k:Nat):((List.range k).filterMap fun (m:Nat)=>xs[((i:Int) + (m:Int) * 1).toNat]?).toArray=((xs.toList.drop i).take k).toArray:=by
  have e:(fun (m:Nat)=>xs[((i:Int) + (m:Int) * 1).toNat]?)=fun m=>xs[i + m]?:=by
    funext m
    have:((i:Int) + (m:Int) * 1).toNat=i + m:=by omega
    rw [this]
  rw [e]
  have:=pick_run xs i k
  rw [List.filterMap_map] at this
  have e2:((fun x=>xs[x]?) ∘ fun x=>i + x)=fun m=>xs[i + m]?:=rfl
  rw [e2] at this
  rw [this]

theorem getItem_tuple_cut {t sl:Addr} {items:Array Value} {vl vu:Value} {lo hi:Option Int} {Q:Value->Shared->Prop} (ht:IsTup s.heap t items) (hs:s.heap.IsSliceOf sl vl vu .none) (pl:IsPart vl lo) (pu:IsPart vu hi)
    (hw:¬ (sIx items.size 0 lo=0∧sIx items.size items.size hi=items.size))
    (h:Q (.ref s.heap.objs.size) { s with heap:=s.heap.push { cls:=.type "tuple",data:=.seq ((items.toList.drop (sIx items.size 0 lo)).take (sIx items.size items.size hi - sIx items.size 0 lo)).toArray } })
    (hsz:items.size<=sizeLine):wpAny (model prog w) A (getItem (.ref t) (.ref sl)) Q E s:=by
  have htake:sizeOk (.seq ((items.toList.drop (sIx items.size 0 lo)).take (sIx items.size items.size hi - sIx items.size 0 lo)).toArray):=by
    show ((items.toList.drop (sIx items.size 0 lo)).take (sIx items.size items.size hi - sIx items.size 0 lo)).toArray.size<=sizeLine
    rw [List.size_toArray,List.length_take,List.length_drop,Array.length_toList]
    omega
  have hj:sIx items.size items.size hi<=items.size:=sIx_le _ _ (Nat.le_refl _) hi
  obtain ⟨os,hos,hcs,hds⟩:=id hs
  have hTs:s.TypeIs (.ref sl) "slice":=⟨os,hos,hcs⟩
  unfold getItem
  try with_reducible refine wpAny_holding ?_
  first | refine wpAny_bind (wpAny_pure ?_) | skip
  refine wpAny_bind (wpAny_sequenceKey ht.typeIs (by decide) ?_)
  refine wpAny_bind (wpAny_callSpecial?_slot (name:=Str.ofString "__getitem__") ht.typeIs PyProof.Rows.slot_tuple_getitem
    (wpAny_call_entry PyProof.Rows.slot_tuple_getitem ht.typeIs entry_tuple_getitem ?_ (args_tuple_getitem _ _)))
  show wpAny _ _ (Builtin.Tuple.tupleItemsOf (.ref t) >>= _) _ _ s
  refine wpAny_bind (tupleItemsOf_ ht ?_)
  refine wpAny_bind (wpAny_typeOf hTs ?_)
  rw [if_pos (by decide)]
  refine wpAny_bind (xQ hs pl pu ?_)
  have hno:¬ ((((sIx items.size 0 lo:Nat):Int) == 0 && (1:Int) == 1 && (sIx items.size items.size hi - sIx items.size 0 lo) == items.size)=true):=by
    intro q
    rw [Bool.and_eq_true,Bool.and_eq_true] at q
    have q1:((sIx items.size 0 lo:Nat):Int)=0:=eq_of_beq q.1.1
    have q2:sIx items.size items.size hi - sIx items.size 0 lo=items.size:=eq_of_beq q.2
    exact hw ⟨by omega,by omega⟩
  show wpAny _ _ (if (((sIx items.size 0 lo:Nat):Int) == 0 && (1:Int) == 1 && (sIx items.size items.size hi - sIx items.size 0 lo) == items.size)=true then _ else _) _ _ s
  rw [if_neg hno,jeN]
  first
    | exact wpAny_bind (m:=Builtin.Tuple.tupleExact _) (wpAny_newObj_type (wpAny_pure ⟨_,rfl,wpAny_pure h⟩) htake)
    | exact wpAny_bind (m:=Builtin.Tuple.tupleExact _) (wpAny_newObj_type (wpAny_bind (wpAny_pure (wpAny_pure ⟨_,rfl,wpAny_pure h⟩))) htake)
    | exact wpAny_bind (wpAny_bind (m:=Builtin.Tuple.tupleExact _) (wpAny_newObj_type (wpAny_pure (wpAny_pure ⟨_,rfl,wpAny_pure h⟩)) htake))
    | exact wpAny_bind (wpAny_bind (m:=Builtin.Tuple.tupleExact _) (wpAny_newObj_type (wpAny_pure ⟨_,rfl,wpAny_pure h⟩) htake))
end
end HT

namespace L2
open PySem PySem.Spec PyProof.Rows

abbrev TO:=St->Hp->(Option Int->Hp->Prop)->Prop
def PO (X:Cx) (e:Option Expr) (t:TO):Prop :=
  ∀ (pins:List (Addr × Obj)) (s:Shared) (σ:St) (H:Hp) (Q:Option Int->Hp->Prop),Inv X pins σ H s->t σ H Q ->
    wpAny (model X.prog X.w) X.A (evalPart e X.env) (fun u s'=>∃ o H',Inv X pins σ H' s'∧IsPart u o∧Q o H') X.xe s
def jgH:TO:=fun _ H Q=>Q none H
def tPart (t:TE):TO:=fun σ H Q=>t σ H fun x H1=>∃ i,x = .int i∧Q (some i) H1

theorem jby {ns:List Int}:∀ {us:List Value},yg (ns.map V.int) us->IntsAre us ns:=by
  induction ns with
  | nil=>intro us r; rw [List.map_nil] at r; cases r; exact .nil
  | cons n ns ih =>
    intro us r
    rw [List.map_cons] at r
    cases r with
    | cons r1 r2 =>
      obtain ⟨t,e⟩:=r1
      subst e
      exact .cons n t (ih r2)

section
variable {X:Cx} {e:Expr} {te:TE} {lo hi:Option Expr} {tl th:TO} {pos p2:Pos}

theorem jho:PO X none jgH:=by
  intro pins s σ H Q I h
  rw [evalPart_none]
  exact wpAny_pure ⟨none,H,I,.none,h⟩
theorem jhn (h:PE X e te):PO X (some e) (tPart te):=by
  intro pins s σ H Q I hw
  rw [evalPart_some]
  refine thn (h pins s σ H _ I hw) fun u s1 hQQ=>?_
  obtain ⟨x,H1,I1,r1,q1⟩:=hQQ
  obtain ⟨i,rfl,q⟩:=q1
  obtain ⟨t,rfl⟩:=r1
  exact ⟨some i,H1,I1,.int i t,q⟩

def SlR (X:Cx) (r:V->Option Int->Option Int->Hp->VK->Prop):Prop :=
  ∀ (pins:List (Addr × Obj)) (s:Shared) (σ:St) (H:Hp) (x:V) (v vl vu:Value) (lo hi:Option Int) (sl:Addr) (Q:VK),Inv X pins σ H s->yh x v->s.heap.IsSliceOf sl vl vu .none->IsPart vl lo->IsPart vu hi->r x lo hi H Q ->
    ∃ T id,typeLookup (.type T) "__getitem__" = pure (some (.builtin id))∧s.TypeIs v T∧wpAny (model X.prog X.w) X.A (getItem v (.ref sl)) (EP X pins σ Q) X.xe s
theorem SlR.or {r r':V->Option Int->Option Int->Hp->VK->Prop} (h:SlR X r) (h':SlR X r'):SlR X (fun x lo hi H Q=>r x lo hi H Q∨r' x lo hi H Q):=by
  intro pins s σ H x v vl vu lo hi sl Q I rx hs pl pu q
  rcases q with q | q
  · exact h pins s σ H x v vl vu lo hi sl Q I rx hs pl pu q
  · exact h' pins s σ H x v vl vu lo hi sl Q I rx hs pl pu q
def tSl (r:V->Option Int->Option Int->Hp->VK->Prop) (te:TE) (tl th:TO):TE:=fun σ H Q=>te σ H fun x H1=>tl σ H1 fun l H2=>th σ H2 fun u H3=>r x l u H3 Q
theorem jeS {r:V->Option Int->Option Int->Hp->VK->Prop} (hr:SlR X r) (he:PE X e te) (hl:PO X lo tl) (hu:PO X hi th):PE X (.Subscript e (.Slice lo hi none p2) pos) (tSl r te tl th):=by
  intro pins s σ H Q I h
  refine Subscript_ (thn (he pins s σ H _ I h) fun v s1 hQQ=>?_)
  obtain ⟨x,H1,I1,r1,q1⟩:=hQQ
  refine wpAny_Slice (thn (hl pins s1 σ H1 _ I1 q1) fun vl s2 ⟨l,H2,I2,pl,q2⟩=>thn (hu pins s2 σ H2 _ I2 q2) fun vu s3 hQQ=>?_)
  obtain ⟨u,H3,I3,pu,q3⟩:=hQQ
  rw [evalPart_none]
  refine wpAny_pure ?_
  have I4:Inv X pins σ H3 { s3 with heap:=s3.heap.push { cls:=.type "slice",data:=.fields #[vl,vu,.none] } }:=I3.kept (t':=s3.toks) fun b ob q=>Heap.get?_push_of_some _ q
  obtain ⟨T,id,hT,ht,hg⟩:=hr pins { s3 with heap:=s3.heap.push { cls:=.type "slice",data:=.fields #[vl,vu,.none] } } σ H3 x v vl vu l u s3.heap.objs.size Q I4 r1 (Heap.IsSliceOf.new ..) pl pu q3
  show wpAny (model X.prog X.w) X.A (subscriptTail e (.Slice lo hi none p2) v (.ref s3.heap.objs.size)) (EP X pins σ Q) X.xe { s3 with heap:=s3.heap.push { cls:=.type "slice",data:=.fields #[vl,vu,.none] } }
  exact tail_any (ops:=[.ref s3.heap.objs.size,v]) ht hT hg (by with_unfolding_all rfl)

def jaJ (xs:List V) (lo hi:Option Int):List V:=(xs.drop (HT.sIx xs.length 0 lo)).take (HT.sIx xs.length xs.length hi - HT.sIx xs.length 0 lo)
theorem JB (xs:List V) (lo hi:Option Int):(jaJ xs lo hi).length<=xs.length:=by
  unfold jaJ
  rw [List.length_take,List.length_drop]
  omega
def rSlT (K:PySem.W.Frag):V->Option Int->Option Int->Hp->VK->Prop:=fun x lo hi H Q=>∃ a xs,x = .ref a∧SqT K H a xs ∧
  ¬ (HT.sIx xs.length 0 lo=0∧HT.sIx xs.length xs.length hi=xs.length)∧∀ p,H p=none->Q (.ref p) (upd H p (.tup (jaJ xs lo hi)))
theorem sl_tup:SlR X (rSlT X.K):=by
  intro pins s σ H x v vl vu lo hi sl Q I rx hs pl pu h
  obtain ⟨a,xs,rfl,hx,hw,q⟩:=h
  cases rx
  obtain ⟨its,r,ht,hz⟩:=I.tuple hx
  have hlen:its.toArray.size=xs.length:=by rw [List.size_toArray]; exact r.length.symm
  refine ⟨"tuple",_,PyProof.Rows.slot_tuple_getitem.lookup,ht.typeIs,?_⟩
  refine HT.getItem_tuple_cut ht hs pl pu (by rw [hlen]; exact hw) ?_ (by rw [hlen]; exact hz)
  rw [hlen]
  refine ⟨.ref s.heap.objs.size,_,I.laid (t':=s.toks) (o:=.tup (jaJ xs lo hi)) (fun b ob q=>Heap.get?_push_of_some _ q) (Nat.le_refl _) ?_,rfl,q _ (I.hok.fresh (Nat.le_refl _))⟩
  exact ⟨Nat.le_trans (JB xs lo hi) hz,_,(r.drop (HT.sIx xs.length 0 lo)).take (HT.sIx xs.length xs.length hi - HT.sIx xs.length 0 lo),IsTup.new _ _⟩

def rCatT (K:PySem.W.Frag):R2:=fun x y H Q=>∃ a b xs ys,x = .ref a∧y = .ref b∧SqT K H a xs∧SqT K H b ys∧xs≠[]∧xs.length + ys.length<=sizeLine ∧
  (ys=[]->Q (.ref a) H)∧(ys≠[]->∀ p,H p=none->Q (.ref p) (upd H p (.tup (xs ++ ys))))
theorem yg.nil_iff {xs:List V} {us:List Value} (r:yg xs us):us=[]↔xs=[]:=by
  cases r with
  | nil=>simp
  | cons _ _=>simp
theorem jhA:OpR X (binaryOp .Add) (rCatT X.K):=by
  intro pins s σ H x y v u Q I rx ry h
  obtain ⟨a,b,xs,ys,rfl,rfl,ha,hb,hx,hz,q1,q2⟩:=h
  cases rx
  cases ry
  obtain ⟨its,r1,p1,_⟩:=I.tuple ha
  obtain ⟨its2,r2,p2,_⟩:=I.tuple hb
  refine HT.cat_tup p1 p2 (fun z=>hx (r1.nil_iff.mp z)) (fun z=>⟨.ref a,H,I,rfl,q1 (r2.nil_iff.mp z)⟩) (fun z=>?_) (by rw [<- r1.length,<- r2.length]; exact hz)
  refine ⟨.ref s.heap.objs.size,_,I.laid (t':=s.toks) (o:=.tup (xs ++ ys)) (fun b ob q=>Heap.get?_push_of_some _ q) (Nat.le_refl _) ?_,rfl,q2 (fun w=>z (r2.nil_iff.mpr w)) _ (I.hok.fresh (Nat.le_refl _))⟩
  exact ⟨by rw [List.length_append]; exact hz,_,r1.append r2,IsTup.new _ _⟩
end
end L2

namespace L2
open PySem PySem.Spec PyProof.Rows

def ixN (n:Nat) (i:Int):Option Nat:=if 0<=i then (if i < n then some i.toNat else none) else if -(n:Int)<=i then some (i + n).toNat else none
def atI {α:Type} (xs:List α) (i:Int):Option α:=(ixN xs.length i).bind fun j=>xs[j]?
theorem jcv {n:Nat} {i:Int} {j:Nat} (h:ixN n i=some j):seqIndex? i n=some j∧j < n∧-(n:Int)<=i∧i < n:=by
  unfold ixN at h
  by_cases h0:0<=i
  · rw [if_pos h0] at h
    by_cases h1:i < n
    · rw [if_pos h1] at h
      have e:i.toNat=j:=Option.some.inj h
      exact ⟨by rw [seqIndex_of h0 h1,e],by omega,by omega,h1⟩
    · rw [if_neg h1] at h; cases h
  · rw [if_neg h0] at h
    by_cases h1:-(n:Int)<=i
    · rw [if_pos h1] at h
      have e:(i + n).toNat=j:=Option.some.inj h
      exact ⟨by rw [seqIndex_neg (by omega) h1,e],by omega,h1,by omega⟩
    · rw [if_neg h1] at h; cases h
theorem jcO {α:Type} {xs:List α} {i:Int} {v:α} (h:atI xs i=some v):∃ j,seqIndex? i xs.length=some j∧xs[j]? = some v∧j < xs.length∧-(xs.length:Int)<=i∧i < xs.length:=by
  unfold atI at h
  cases e:ixN xs.length i with
  | none=>rw [e] at h; cases h
  | some j =>
    rw [e] at h
    obtain ⟨h1,h2,h3,h4⟩:=jcv e
    exact ⟨j,h1,h,h2,h3,h4⟩
def jcQ (b:Expr):Prop:=∀ o i,subscripted b false o i=operate [o,i] (getItem o i)
def IxR (X:Cx) (r:R2):Prop :=
  ∀ (value slice:Expr) (pins:List (Addr × Obj)) (s:Shared) (σ:St) (H:Hp) (x y:V) (v u:Value) (Q:VK),Inv X pins σ H s->yh x v->yh y u->r x y H Q ->
    subscripted slice false v u=operate [v,u] (getItem v u)->wpAny (model X.prog X.w) X.A (subscriptTail value slice v u) (EP X pins σ Q) X.xe s
def MtR (X:Cx) (id:String) (r:V->List V->Hp->VK->Prop):Prop :=
  ∀ (pins:List (Addr × Obj)) (s:Shared) (σ:St) (H:Hp) (x:V) (xs:List V) (v:Value) (us:List Value) (Q:VK),Inv X pins σ H s->yh x v->yg xs us->r x xs H Q ->
    wpAny (model X.prog X.w) X.A (call (.builtin id) (v :: us)) (EP X pins σ Q) X.xe s
section
variable {X:Cx} {a b:Expr} {ta tb:TE} {pos:Pos}
theorem IxR.or {r r':R2} (h:IxR X r) (h':IxR X r'):IxR X (fun x y H Q=>r x y H Q∨r' x y H Q):=by
  intro value slice pins s σ H x y v u Q I rx ry q hs
  rcases q with q | q
  · exact h value slice pins s σ H x y v u Q I rx ry q hs
  · exact h' value slice pins s σ H x y v u Q I rx ry q hs
theorem pe_ix {r:R2} (hr:IxR X r) (ha:PE X a ta) (hb:PE X b tb) (hs:jcQ b):PE X (.Subscript a b pos) (tOp r ta tb):=by
  intro pins s σ H Q I h
  exact Subscript_ (binT ha hb I h fun v u s2 x y H2 I2 rx ry q=>hr a b pins s2 σ H2 x y v u Q I2 rx ry q (hs _ _))

def rIxL (K:PySem.W.Frag):R2:=fun x y H Q=>∃ p xs i v,x = .ref p∧y = .int i∧SqL K H p xs∧atI xs i=some v∧Q v H
def rIxT (K:PySem.W.Frag):R2:=fun x y H Q=>∃ p xs i v,x = .ref p∧y = .int i∧SqT K H p xs∧atI xs i=some v∧Q v H
theorem jhR:IxR X (rIxL X.K):=by
  intro value slice pins s σ H x y v u Q I rx ry h hs
  obtain ⟨p,xs,i,z,rfl,rfl,hq,he,q⟩:=h
  cases rx
  obtain ⟨t,rfl⟩:=ry
  obtain ⟨its,r,pl,hz⟩:=I.list hq
  obtain ⟨j,h1,h2,h3,h4,h5⟩:=jcO he
  obtain ⟨w,ew,rw'⟩:=r.get h2
  have hl:=r.length
  have hn:=Yt
  have fin:EP X pins σ Q w s:=⟨z,H,I,rw',q⟩
  by_cases h0:0<=i
  · have hj:i.toNat=j:=by
      rw [seqIndex_of h0 h5] at h1
      exact Option.some.inj h1
    exact item_listR pl.isList h0 (by omega) (by rw [hj]; simpa using ew) fin hs
  · have hj:(i + (its.toArray.size:Int)).toNat=j:=by
      rw [seqIndex_neg (by omega) h4] at h1
      rw [List.size_toArray,<- hl]
      exact Option.some.inj h1
    exact subscriptTail_builtinR (x:=w) pl.isList.typeIs slot_list_getitem.lookup
      (wpAny_getItem_list_neg (Q:=fun r s'=>r=w∧EP X pins σ Q r s') pl.isList (by omega) (by rw [List.size_toArray] <;> omega) (by omega) (by rw [hj]; simpa using ew) ⟨rfl,fin⟩) hs
theorem ix_tup:IxR X (rIxT X.K):=by
  intro value slice pins s σ H x y v u Q I rx ry h hs
  obtain ⟨p,xs,i,z,rfl,rfl,hq,he,q⟩:=h
  cases rx
  obtain ⟨t,rfl⟩:=ry
  obtain ⟨its,r,pl,hz⟩:=I.tuple hq
  obtain ⟨j,h1,h2,h3,h4,h5⟩:=jcO he
  obtain ⟨w,ew,rw'⟩:=r.get h2
  have hl:=r.length
  have hn:=Yt
  have fin:EP X pins σ Q w s:=⟨z,H,I,rw',q⟩
  exact subscriptTail_builtinR (x:=w) pl.typeIs slot_tuple_getitem.lookup
    (getItem_tuple (j:=j) (Q:=fun r s'=>r=w∧EP X pins σ Q r s') pl (by omega) (by omega) (by rw [List.size_toArray,<- hl]; exact h1) (by simpa using ew) ⟨rfl,fin⟩) hs
theorem jbt (its:List Value) (n j:Nat) (u:Value):Obj.mapSeq (·.setIfInBounds j u) { cls:=.type "list",data:=.seq its.toArray n }={ cls:=.type "list",data:=.seq (its.set j u).toArray n }:=by
  simp [Obj.mapSeq]
theorem Inv.lst {pins:List (Addr × Obj)} {σ:St} {H:Hp} {s:Shared} {p:Addr} {xs:List V} (I:Inv X pins σ H s) (h:H p=some (.lst xs)) :
    ∃ (its:List Value) (n:Nat),yg xs its∧s.heap.get? p=some { cls:=.type "list",data:=.seq its.toArray n }∧xs.length<=sizeLine:=by
  obtain ⟨z,its,n,r,e⟩:=I.hok p _ h
  exact ⟨its,n,r,e,z⟩
theorem Inv.lstUpd {pins:List (Addr × Obj)} {σ:St} {H:Hp} {s:Shared} {p:Addr} {xs ys:List V} {its its':List Value} {n n':Nat} {f:Obj->Obj} (I:Inv X pins σ H s) (h:H p=some (.lst xs))
    (ho:s.heap.get? p=some { cls:=.type "list",data:=.seq its.toArray n }) (hf:f { cls:=.type "list",data:=.seq its.toArray n }={ cls:=.type "list",data:=.seq its'.toArray n' }) (r:yg ys its') (hz:ys.length<=sizeLine) (t:Nat) :
    Inv X pins σ (upd H p (.lst ys)) { s with heap:=s.heap.update p f,toks:=t }:=by
  have e:(s.heap.update p f).get? p=some { cls:=.type "list",data:=.seq its'.toArray n' }:=by
    rw [Heap.get?_update_self f ho (by rw [hf] <;> rfl),hf]
  refine I.write (x:=p) (e:=p) (by rw [h]; trivial) (.inl rfl) (fun b u hb q=>(Heap.get?_update_other _ _ (Ne.symm hb)).trans q) ⟨_,e⟩ ?_
  exact ⟨hz,its',n',r,e⟩
def rSetL:V->V->V->Hp->(Hp->Prop)->Prop:=fun o i v H Q=>∃ p xs k j,o = .ref p∧i = .int k∧H p=some (.lst xs)∧ixN xs.length k=some j∧Q (upd H p (.lst (xs.set j v)))
theorem jeh:PSet X rSetL:=by
  intro pins s σ H o i v ov iv u Q I ro ri rv h
  obtain ⟨p,xs,k,j,rfl,rfl,hp,hj,q⟩:=h
  cases ro
  obtain ⟨t,rfl⟩:=ri
  obtain ⟨its,n,r,ho,hz⟩:=I.lst hp
  obtain ⟨h1,h2,h3,h4⟩:=jcv hj
  have hl:=r.length
  have hn:=Yt
  have I':Inv X pins σ (upd H p (.lst (xs.set j v))) { s with heap:=s.heap.update p (Obj.mapSeq (·.setIfInBounds j u)) } :=
    I.lstUpd hp ho (jbt its n j u) (r.set rv j) (by rw [List.length_set]; exact hz) s.toks
  by_cases h0:0<=k
  · have hk:k.toNat=j:=by
      rw [seqIndex_of h0 h4] at h1
      exact Option.some.inj h1
    exact PySem.W.ki_setAt ho h0 (by omega) (by rw [List.size_toArray,<- hl]; exact h4) (by rw [hk]; exact ⟨_,I',q⟩)
  · have hk:(k + (its.toArray.size:Int)).toNat=j:=by
      rw [seqIndex_neg (by omega) h3] at h1
      rw [List.size_toArray,<- hl]
      exact Option.some.inj h1
    exact PySem.W.ki_setBack ho (by omega) (by rw [List.size_toArray,<- hl]; exact h3) (by omega) (by rw [hk]; exact ⟨_,I',q⟩)

theorem Uc (lo hi:Option Int) (n:Nat):(sliceBounds lo hi none n).1=((HT.sIx n 0 lo:Nat):Int)∧(sliceBounds lo hi none n).2.1=((HT.sIx n n hi:Nat):Int)∧(sliceBounds lo hi none n).2.2=1:=by
  refine ⟨?_,?_,rfl⟩
  · cases lo with
    | none=>simp [sliceBounds,HT.sIx]
    | some i =>
      simp only [sliceBounds,HT.sIx,Option.getD_none,show (1:Int) > 0 by decide,if_true]
      by_cases h:i < 0
      · simp only [h,if_true] <;> omega
      · simp only [h,if_false] <;> omega
  · cases hi with
    | none=>simp [sliceBounds,HT.sIx]
    | some i =>
      simp only [sliceBounds,HT.sIx,Option.getD_none,show (1:Int) > 0 by decide,if_true]
      by_cases h:i < 0
      · simp only [h,if_true] <;> omega
      · simp only [h,if_false] <;> omega
theorem YY (its:List Value) (lo hi:Option Int):slicePick its.toArray lo hi none=((its.drop (HT.sIx its.length 0 lo)).take (HT.sIx its.length its.length hi - HT.sIx its.length 0 lo)).toArray:=by
  obtain ⟨h1,h2,h3⟩:=Uc lo hi its.toArray.size
  unfold slicePick
  rw [h1,h2,h3]
  simp only [sliceRange_one,pick_run,List.size_toArray] <;> rfl
def rSlL (K:PySem.W.Frag):V->Option Int->Option Int->Hp->VK->Prop:=fun x lo hi H Q=>∃ a xs,x = .ref a∧SqL K H a xs∧∀ p,H p=none->Q (.ref p) (upd H p (.lst (jaJ xs lo hi)))
theorem jgN:SlR X (rSlL X.K):=by
  intro pins s σ H x v vl vu lo hi sl Q I rx hs pl pu h
  obtain ⟨a,xs,rfl,hx,q⟩:=h
  cases rx
  obtain ⟨its,r,ht,hz⟩:=I.list hx
  have hlen:=r.length
  refine ⟨"list",_,slot_list_getitem.lookup,ht.isList.typeIs,?_⟩
  refine wpAny_getItem_list_slice ht.isList hs pl pu .none (by simp) ?_ (by rw [List.size_toArray] <;> omega)
  rw [YY,<- hlen]
  refine ⟨.ref s.heap.objs.size,_,I.laid (t':=s.toks) (o:=.lst (jaJ xs lo hi)) (fun b ob q=>Heap.get?_push_of_some _ q) (Nat.le_refl _) ?_,rfl,q _ (I.hok.fresh (Nat.le_refl _))⟩
  exact ⟨Nat.le_trans (JB xs lo hi) hz,_,0,(r.drop (HT.sIx xs.length 0 lo)).take (HT.sIx xs.length xs.length hi - HT.sIx xs.length 0 lo),Heap.get?_push_size _ rfl⟩

def JA:V->Bool
  | .non=>true
  | .bl _=>true
  | .int _=>true
  | .str _=>true
  | _=>false
def eqV:V->V->Bool
  | .non,.non=>true
  | .bl a,.bl b=>a == b
  | .bl a,.int b=>(if a then 1 else 0) == b
  | .int a,.bl b=>a == (if b then 1 else 0)
  | .int a,.int b=>a == b
  | .str a,.str b=>a == b
  | _,_=>false
theorem eqAt_V {A:Around} {s:Shared} {y x:V} {u v:Value} (ry:yh y u) (rx:yh x v) (fy:JA y=true) (fx:JA x=true):SeqAt.EqAt A s u v (eqV y x):=by
  cases y with
  | non =>
    cases ry
    cases x with
    | non=>cases rx; exact SeqAt.EqAt.same _
    | bl b=>cases rx; exact SeqAt.EqAt.none_bool b
    | int b=>obtain ⟨t,rfl⟩:=rx; exact SeqAt.EqAt.none_int b t
    | str b=>obtain ⟨t,rfl⟩:=rx; exact SeqAt.EqAt.none_str b t
    | _=>exact absurd (show false=true from fx) Bool.false_ne_true
  | bl a =>
    cases ry
    cases x with
    | non=>cases rx; exact SeqAt.EqAt.bool_none a
    | bl b=>cases rx; exact SeqAt.EqAt.bool_bool a b
    | int b=>obtain ⟨t,rfl⟩:=rx; exact SeqAt.EqAt.bool_int a b t
    | str b=>obtain ⟨t,rfl⟩:=rx; exact SeqAt.EqAt.bool_str a b t
    | _=>exact absurd (show false=true from fx) Bool.false_ne_true
  | int a =>
    obtain ⟨t',rfl⟩:=ry
    cases x with
    | non=>cases rx; exact SeqAt.EqAt.int_none a t'
    | bl b=>cases rx; exact SeqAt.EqAt.int_bool a t' b
    | int b=>obtain ⟨t,rfl⟩:=rx; exact SeqAt.EqAt.int_int a t' b t
    | str b=>obtain ⟨t,rfl⟩:=rx; exact SeqAt.EqAt.int_str a t' b t
    | _=>exact absurd (show false=true from fx) Bool.false_ne_true
  | str a =>
    obtain ⟨t',rfl⟩:=ry
    cases x with
    | non=>cases rx; exact SeqAt.EqAt.str_none a t'
    | bl b=>cases rx; exact SeqAt.EqAt.str_bool a t' b
    | int b=>obtain ⟨t,rfl⟩:=rx; exact SeqAt.EqAt.str_int a t' b t
    | str b=>obtain ⟨t,rfl⟩:=rx; exact SeqAt.EqAt.str_str a t' b t
    | _=>exact absurd (show false=true from fx) Bool.false_ne_true
  | _=>exact absurd (show false=true from fy) Bool.false_ne_true
theorem UI:yU X (.builtin "len") (fun xs H Q=>∃ p ys,xs=[.ref p]∧(SqL X.K H p ys∨SqT X.K H p ys)∧Q (.int ys.length) H):=by
  intro pins s σ H xs us Q I r h
  obtain ⟨p,ys,rfl,hq,q⟩:=h
  obtain ⟨u,rfl,rx⟩:=Xi r
  cases rx
  have hn:=Yt
  rcases hq with hq | hq
  · obtain ⟨its,r',pl,hz⟩:=I.list hq
    have hlen:=r'.length
    exact Calls.call_len_list pl.isList (by simp only [List.size_toArray] <;> omega) ⟨.int ys.length,H,I.tok _,⟨s.toks + 1,by rw [List.size_toArray,hlen]⟩,q⟩
  · obtain ⟨its,r',pl,hz⟩:=I.tuple hq
    have hlen:=r'.length
    exact len_tuple pl (by simp only [List.size_toArray] <;> omega) ⟨.int ys.length,H,I.tok _,⟨s.toks + 1,by rw [List.size_toArray,hlen]⟩,q⟩
theorem uZ:yU X (.type "list") (fun xs H Q=>∃ p ys,xs=[.ref p]∧(SqL X.K H p ys∨SqT X.K H p ys)∧∀ l,H l=none->Q (.ref l) (upd H l (.lst ys))):=by
  intro pins s σ H xs us Q I r h
  obtain ⟨p,ys,rfl,hq,q⟩:=h
  obtain ⟨u,rfl,rx⟩:=Xi r
  cases rx
  have fin:∀ (its:List Value),yg ys its->ys.length<=sizeLine->∀ (h':Heap) (c':Nat),(∀ b o',s.heap.get? b=some o'->h'.get? b=some o') ->
      h'.get? s.heap.objs.size=some { cls:=.type "list",dict:=none,data:=.seq its.toArray c',slots:=#[] }->EP X pins σ Q (.ref s.heap.objs.size) { s with heap:=h' }:=fun its r' hz h' c' kp e =>
    ⟨.ref s.heap.objs.size,_,I.laid (t':=s.toks) kp (Nat.le_refl _) (show yr X.prog X.w _ h' _ (.lst ys) from ⟨hz,its,c',r',e⟩),rfl,q _ (I.hok.fresh (Nat.le_refl _))⟩
  rcases hq with hq | hq
  · obtain ⟨its,r',pl,hz⟩:=I.list hq
    have hlen:=r'.length
    obtain ⟨o,ho,hc,n,hd⟩:=pl.isList
    exact call_list_seq p (.inl rfl) ho hc hd (fun h' c' kp e=>fin its r' hz h' c' kp e) (by simp only [List.size_toArray] <;> omega)
  · obtain ⟨its,r',pl,hz⟩:=I.tuple hq
    have hlen:=r'.length
    obtain ⟨o,ho,hc,n,hd⟩:=pl
    exact call_list_seq p (.inr rfl) ho hc hd (fun h' c' kp e=>fin its r' hz h' c' kp e) (by simp only [List.size_toArray] <;> omega)
def tyV (K:PySem.W.Frag) (T:String) (x:V) (H:Hp):Prop:=match x with
  | .str _=>T = "str"
  | .int _=>T = "int"
  | .ref p=>(T = "list"∧∃ xs,SqL K H p xs)∨(T = "tuple"∧∃ o,K.lookup p=some o∧o.cls = .type "tuple"∧o.dict=none) ∨
      (T = "dict"∧((∃ kvs,H p=some (.dK kvs))∨∃ kvs,H p=some (.dT kvs)))∨(T = "set"∧∃ S n,H p=some (.set S n))
  | _=>False
theorem tyV_is {pins:List (Addr × Obj)} {σ:St} {H:Hp} {s:Shared} {T:String} {x:V} {v:Value} (I:Inv X pins σ H s) (r:yh x v) (ty:tyV X.K T x H) :
    s.TypeIs v T∧∀ a,v = .ref a->∃ ob,s.heap.get? a=some ob∧ob.dict=none:=by
  cases x with
  | str z =>
    obtain ⟨t,rfl⟩:=r
    cases (show T = "str" from ty)
    exact ⟨typeIs_str s z t,fun _ e=>nomatch e⟩
  | int i =>
    obtain ⟨t,rfl⟩:=r
    cases (show T = "int" from ty)
    exact ⟨typeIs_int s i t,fun _ e=>nomatch e⟩
  | ref p =>
    cases r
    rcases ty with ⟨rfl,xs,hq⟩ | ⟨rfl,o,hk,hc,hd⟩ | ⟨rfl,hk⟩ | ⟨rfl,S,n,hk⟩
    · obtain ⟨its,_,pl,_⟩:=I.list hq
      refine ⟨pl.isList.typeIs,fun a e=>?_⟩
      cases e
      obtain ⟨o,n,e,c,hd,_⟩:=pl
      exact ⟨o,e,hd⟩
    · refine ⟨⟨o,I.kIn p o hk,hc⟩,fun a e=>?_⟩
      cases e
      exact ⟨o,I.kIn _ o hk,hd⟩
    · have z:∃ o,s.heap.get? p=some o∧o.ExactDict:=by
        rcases hk with ⟨kvs,hk⟩ | ⟨kvs,hk⟩
        · obtain ⟨_,_,_,_,o,_,_,e,ex,_⟩:=I.hok p _ hk
          exact ⟨o,e,ex⟩
        · obtain ⟨_,_,_,_,o,_,_,e,ex,_⟩:=I.hok p _ hk
          exact ⟨o,e,ex⟩
      obtain ⟨o,e,ex⟩:=z
      refine ⟨⟨o,e,ex.1⟩,fun a e2=>?_⟩
      cases e2
      exact ⟨o,e,ex.2.1⟩
    · obtain ⟨o,_,_,_,e,ex,_⟩:=I.hok p _ hk
      refine ⟨⟨o,e,ex.1⟩,fun a e2=>?_⟩
      cases e2
      exact ⟨o,e,ex.2.1⟩
  | _=>exact False.elim ty
def tBM (K:PySem.W.Frag) (T:String) (r:V->List V->Hp->VK->Prop) (to:TE) (t:TA):TE:=fun σ H Q=>to σ H fun x H1=>tyV K T x H1∧t σ H1 fun xs H2=>r x xs H2 Q
variable {o e:Expr} {es:List Expr} {to:TE} {t:TA} {name:Str} {apos cpos:Pos} {T id:String} {r:V->List V->Hp->VK->Prop}
theorem pe_bm (pa:PlainAttrs T) (slot:Slot T name id) (hty:typeOf (.builtin id)=pure (.type "method_descriptor")) (hm:MtR X id r) (ho:PE X o to) (ha:PA X (e :: es) t)
    (hbase:attributeBase o name X.env (eval o X.env)=eval o X.env:=by rfl)
    (hfew:((backTo cpos (starEach (e :: es) X.env)).all (fun x=>!x.1) && (backToKw cpos (keywordEach [] X.env)).all (fun x=>x.1.isSome)
      && decide ((e :: es).length + ([]:List Keyword).length + (if ([]:List Keyword).isEmpty then 0 else 1) < 30))=true:=by rfl)
    (hline:(apos.endLine == cpos.line)=true:=by rfl) (hs:starEach (e :: es) X.env=(false,eval e X.env) :: starEach es X.env:=by rfl) (hplain:(backTo cpos (starEach es X.env)).any (·.1)=false:=by rfl) :
    PE X (.Call (.Attribute o name apos) (e :: es) [] cpos) (tBM X.K T r to t):=by
  intro pins s σ H Q I h
  refine wpAny_Call_method_late hbase hfew hline rfl (thn (ho pins s σ H _ I h) fun v s1 hQQ=>?_)
  obtain ⟨x,H1,I1,r1,ty,q1⟩:=hQQ
  obtain ⟨h1,h2⟩:=tyV_is I1 r1 ty
  refine ⟨T,id,pa,slot,hty,h1,h2,?_⟩
  have hA:=ha cpos pins s1 σ H1 _ I1 q1
  rw [hs] at hA ⊢
  refine Calls.callWith_builtin (by show (false || (backTo cpos (starEach es X.env)).any (·.1))=false; rw [hplain] <;> rfl) (Calls.evalArgs_plain ?_)
  exact thn hA fun us s2 ⟨vs,H2,I2,r2,q2⟩=>hm pins s2 σ H2 x vs v us Q I2 r1 r2 q2
/- xs.append(e),list.index on a module's tuple .. are MtR facts of 06m -/
end
end L2

namespace L2
open PySem PySem.Spec PyProof.Rows

def MtM (X:Cx) (id:String) (r:V->List V->Hp->VK->Prop):Prop :=
  ∀ (pins:List (Addr × Obj)) (s:Shared) (σ:St) (H:Hp) (x:V) (xs:List V) (v:Value) (us:List Value) (Q:VK),Inv X pins σ H s->yh x v->yg xs us->r x xs H Q ->
    wpAny (model X.prog X.w) X.A (call (.builtin id) (v :: us)) (EP X pins σ Q) X.xe s

theorem yg.one:∀ {x:V} {us:List Value},yg [x] us->∃ u,us=[u]∧yh x u
  | _,_,.cons r .nil=>⟨_,rfl,r⟩
theorem yg.two:∀ {x y:V} {us:List Value},yg [x,y] us->∃ u v,us=[u,v]∧yh x u∧yh y v
  | _,_,_,.cons r (.cons q .nil)=>⟨_,_,rfl,r,q⟩
theorem yg.eraseIdx:∀ {xs:List V} {us:List Value} (i:Nat),yg xs us->yg (xs.eraseIdx i) (us.eraseIdx i)
  | _,_,_,.nil=>.nil
  | _,_,0,.cons _ t=>t
  | _,_,i + 1,.cons r t=>.cons r (yg.eraseIdx i t)
theorem yg.rep {xs:List V} {us:List Value} (h:yg xs us):∀ k:Nat,yg (List.replicate k xs).flatten (List.replicate k us).flatten
  | 0=>.nil
  | k + 1=>by
    rw [List.replicate_succ,List.replicate_succ,List.flatten_cons,List.flatten_cons]
    exact yg.append h (yg.rep h k)
theorem Vn {α:Type}:∀ (l:List α) (i:Nat),(l.eraseIdx i).length<=l.length
  | [],_=>Nat.le_refl _
  | _ :: _,0=>Nat.le_succ _
  | _ :: r,i + 1=>Nat.succ_le_succ (Vn r i)
theorem Vt (its:List Value):∀ (k:Nat) (acc:List Value),
    List.foldl (fun x1 x2=>x1 ++ x2) acc.toArray (List.replicate k its.toArray)=(acc ++ (List.replicate k its).flatten).toArray
  | 0,acc=>by simp
  | k + 1,acc=>by
    have e:acc.toArray ++ its.toArray=(acc ++ its).toArray:=by simp
    have e2:(acc ++ its) ++ (List.replicate k its).flatten=acc ++ (List.replicate (k + 1) its).flatten:=by
      rw [List.replicate_succ,List.flatten_cons,List.append_assoc]
    rw [<- e2,<- Vt its k (acc ++ its),<- e,List.replicate_succ,List.foldl_cons]

section
variable {X:Cx} {pins:List (Addr × Obj)} {σ:St} {H:Hp} {s:Shared} {l b:Addr} {xs ys zs:List V}

theorem Inv.lset {its its':List Value} {n:Nat} {f:Array Value->Array Value} {t':Nat} (I:Inv X pins σ H s) (hH:H l=some (.lst xs))
    (e:s.heap.get? l=some { cls:=.type "list",data:=.seq its.toArray n }) (hf:f its.toArray=its'.toArray) (hv:yg ys its') (hz:ys.length<=sizeLine) :
    Inv X pins σ (upd H l (.lst ys)) { s with heap:=s.heap.update l (Obj.mapSeq f),toks:=t' }:=by
  have q:=PySem.IsL.update e f
  rw [hf] at q
  refine I.write (x:=l) (e:=l) (by rw [hH]; exact trivial) (.inl rfl) (fun b' u hb hu=>(Heap.get?_update_other s.heap (Obj.mapSeq f) (Ne.symm hb)).trans hu) ⟨_,q⟩ ?_
  exact ⟨hz,its',_,hv,q⟩
theorem Inv.lnew {its:List Value} {t':Nat} (I:Inv X pins σ H s) (hv:yg ys its) (hz:ys.length<=sizeLine) :
    Inv X pins σ (upd H s.heap.objs.size (.lst ys)) { s with heap:=s.heap.push { cls:=.type "list",data:=.seq its.toArray },toks:=t' } :=
  I.laid (fun _ _ q=>Heap.get?_push_of_some _ q) (Nat.le_refl _) ⟨hz,its,0,hv,Heap.get?_push_size _ rfl⟩
theorem Inv.fresh (I:Inv X pins σ H s):H s.heap.objs.size=none:=I.hok.fresh (Nat.le_refl _)
theorem Inv.lstM (I:Inv X pins σ H s) (hH:H l=some (.lst xs)):xs.length<=sizeLine∧∃ (its:List Value) (n:Nat),yg xs its∧xs.length=its.length∧s.heap.get? l=some { cls:=.type "list",data:=.seq its.toArray n }:=by
  obtain ⟨z,its,n,r,e⟩:=I.hok l _ hH
  exact ⟨z,its,n,r,r.length,e⟩

theorem jfg {n:Nat} (h:n<=sizeLine):Builtin.List.listTooLong n=false:=by
  unfold Builtin.List.listTooLong
  exact decide_eq_false (by omega)
end

section
variable {X:Cx}

def jgV:V->List V->Hp->VK->Prop:=fun x vs H Q=>∃ l xs y,x = .ref l∧vs=[y]∧H l=some (.lst xs)∧xs.length < sizeLine∧Q .non (upd H l (.lst (xs ++ [y])))
theorem Vi:MtM X "list.append" jgV:=by
  intro pins s σ H x vs v us Q I rx rv h
  obtain ⟨l,xs,y,rfl,rfl,hH,hz,q⟩:=h
  cases rx
  obtain ⟨u,rfl,ru⟩:=rv.one
  obtain ⟨z,its,n,r,hl,e⟩:=I.lstM hH
  refine call_meets F.slot_list_append ⟨_,e,rfl⟩ F.entry_list_append (F.args_list_append_2 _ _) (PySem.list_append l its.toArray n u (by rw [List.size_toArray]; omega)) ⟨e,?_⟩
  refine ⟨.non,_,I.lset (its':=its ++ [u]) hH e (by simp) (r.append (.cons ru .nil)) ?_,rfl,q⟩
  rw [List.length_append,List.length_singleton]
  omega

def rPopAt:V->List V->Hp->VK->Prop:=fun x vs H Q=>∃ l xs i k y,x = .ref l∧vs=[.int i]∧H l=some (.lst xs)∧-(2 ^ 63)<=i∧i < 2 ^ 63∧seqIndex? i xs.length=some k∧xs[k]? = some y∧Q y (upd H l (.lst (xs.eraseIdx k)))
theorem jfk:MtM X "list.pop" rPopAt:=by
  intro pins s σ H x vs v us Q I rx rv h
  obtain ⟨l,xs,i,k,y,rfl,rfl,hH,h1,h2,hk,hy,q⟩:=h
  cases rx
  obtain ⟨u,rfl,ru⟩:=rv.one
  obtain ⟨t,rfl⟩:=ru
  obtain ⟨z,its,n,r,hl,e⟩:=I.lstM hH
  obtain ⟨w,hw,rw'⟩:=r.get hy
  refine call_meets F.slot_list_pop ⟨_,e,rfl⟩ F.entry_list_pop (F.args_list_pop_2 _ _)
    (MeetsSeq.list_pop_at l its.toArray n i t k w (fitsIndex_both h1 h2) (by rw [List.size_toArray,<- hl]; exact hk) (by rw [<- Array.getElem?_toList]; exact hw) (by rw [List.size_toArray]; omega)) ⟨e,?_⟩
  refine ⟨y,_,I.lset (its':=its.eraseIdx k) hH e ?_ (r.eraseIdx k) ?_,rw',q⟩
  · show its.toArray.eraseIdxIfInBounds k=(its.eraseIdx k).toArray
    rw [List.eraseIdxIfInBounds_toArray]
  · have:=Vn xs k
    omega

def rCat:R2:=fun x y H Q=>∃ l b xs zs,x = .ref l∧y = .ref b∧H l=some (.lst xs)∧H b=some (.lst zs)∧xs.length + zs.length<=sizeLine∧∀ p,H p=none->Q (.ref p) (upd H p (.lst (xs ++ zs)))
theorem op_cat:OpR X (binaryOp .Add) rCat:=by
  intro pins s σ H x y v u Q I rx ry h
  obtain ⟨l,b,xs,zs,rfl,rfl,hH,hB,hz,q⟩:=h
  cases rx
  cases ry
  obtain ⟨z,its,n,r,hl,e⟩:=I.lstM hH
  obtain ⟨z2,its2,n2,r2,hl2,e2⟩:=I.lstM hB
  refine PySem.P.add_list e e2 ?_ (by rw [List.size_toArray,List.size_toArray]; omega)
  have ea:its.toArray ++ its2.toArray=(its ++ its2).toArray:=by simp
  rw [ea]
  exact ⟨.ref _,_,I.lnew (t':=s.toks) (r.append r2) (by rw [List.length_append]; omega),rfl,q _ I.fresh⟩
def rRep:R2:=fun x y H Q=>∃ l k xs,x = .ref l∧y = .int k∧H l=some (.lst xs)∧-(2 ^ 63)<=k∧k < 2 ^ 63∧xs.length * k.toNat<=sizeLine ∧
  ∀ p,H p=none->Q (.ref p) (upd H p (.lst (List.replicate k.toNat xs).flatten))
theorem jhM {α:Type} (xs:List α) (k:Nat):(List.replicate k xs).flatten.length=k * xs.length:=by
  induction k with
  | zero=>simp
  | succ k ih=>rw [List.replicate_succ,List.flatten_cons,List.length_append,ih,Nat.succ_mul,Nat.add_comm]
theorem op_rep:OpR X (binaryOp .Mult) rRep:=by
  intro pins s σ H x y v u Q I rx ry h
  obtain ⟨l,k,xs,rfl,rfl,hH,h1,h2,hz,q⟩:=h
  cases rx
  obtain ⟨t,rfl⟩:=ry
  obtain ⟨z,its,n,r,hl,e⟩:=I.lstM hH
  have hlen:its.toArray.size * k.toNat<=sizeLine:=by rw [List.size_toArray,<- hl]; exact hz
  have hcap:¬ its.toArray.size * k.toNat > (2 ^ 63 - 1) / 8:=by
    have:(sizeLine:Nat)<=(2 ^ 63 - 1) / 8:=by decide
    omega
  have hfit:¬ (!Builtin.List.listFitsIndex k)=true:=by
    rw [fitsIndex_both h1 h2]
    exact Bool.false_ne_true
  have hlong:¬ Builtin.List.listTooLong (its.toArray.size * k.toNat)=true:=by
    rw [jfg hlen]
    exact Bool.false_ne_true
  have hnew:List.foldl (fun x1 x2=>x1 ++ x2) #[] (List.replicate (if its.toArray.isEmpty=true then 0 else k.toNat) its.toArray)=(List.replicate k.toNat its).flatten.toArray:=by
    have f0:∀ m:Nat,List.foldl (fun x1 x2=>x1 ++ x2) #[] (List.replicate m its.toArray)=(List.replicate m its).flatten.toArray:=fun m=>by
      have:=Vt its m []
      rw [List.nil_append] at this
      exact this
    rw [f0]
    cases its with
    | nil=>simp
    | cons a r'=>rw [if_neg (by simp)]
  refine wpAny_binaryOp_repeat_ref (T:="list") (U:="int") (by decide) ⟨_,e,rfl⟩ (fun s'=>typeIs_int s' k t) noFill_list_mul F.fills_int_mul F.slot_int_rmul repeat_list F.slot_int_index.lookup
    (call_meets F.slot_int_rmul (typeIs_int s k t) F.entry_int_rmul (F.args_int_rmul_2 _ _) (int___rmul___int_list k t l its.toArray n)
      ⟨e,rfl,⟨_,e,rfl⟩,call_meets F.slot_list_mul ⟨_,e,rfl⟩ F.entry_list_mul (F.args_list_mul_2 _ _) (AutoListH.list___mul___list_int_3 l its.toArray n k t hfit hcap hlong) ⟨e,?_⟩⟩)
  rw [hnew]
  exact ⟨.ref _,_,I.lnew (t':=s.toks) (r.rep k.toNat) (by rw [jhM,Nat.mul_comm]; exact hz),rfl,q _ I.fresh⟩

end

section
variable {prog:Program} {w:World} {A:Around} {E:Value->Shared->Prop} {s:Shared}
end

section
variable {X:Cx}
end
end L2

namespace Att
open PySem PySem.W PySem.Calls PyProof.Rows

theorem JF {P:Params} {h:Heap}:∀ (ns:List Int) (vs:List Value),WellAll P h vs (ns.map WData.int)->IntsAre vs ns:=by
  intro ns
  induction ns with
  | nil =>
    intro vs w
    rw [List.map_nil] at w
    cases w
    exact .nil
  | cons n ns ih =>
    intro vs w
    rw [List.map_cons] at w
    cases w with
    | cons a b =>
      cases a
      exact .cons _ _ (ih _ b)

theorem jdd {l:OpenLaw} {n:Nat} (hn:l.most=some n) {P:Params} {h:Heap} {args:List WData} {vals:List Value}
    (hpre:l.row.toRowW.claim.pre args=true) (hwl:WellAll P h vals args) :
    ∃ a vs ns,vals=[Value.ref a]∧args=[WData.list (ns.map WData.int)]∧h.get? a=some { cls:=.type "list",data:=.seq vs.toArray }∧IntsAre vs ns∧ns.length<=n:=by
  have hsh:WShape.hasAll [] args [.list .int]=true:=(pre_splitW hpre).1
  have hc:l.pre.holds [] { args:=args }=true:=(pre_splitW hpre).2
  obtain ⟨d,r,rfl,h1,h2⟩:=hasAllW_cons hsh
  obtain rfl:=hasAllW_nil h2
  obtain ⟨xs,rfl,h3⟩:=hasW_list h1
  obtain ⟨ns,rfl⟩:=items_int h3
  have hlen:ns.length<=n:=by
    unfold OpenLaw.pre at hc
    have h4:(WTm.not (.lt (.lit (.int (n:Int))) (.len (.arg 0)))).holds [] { args:=[.list (ns.map .int)] }=true:=by
      have h4:=(holds_andW hc).1
      rw [hn] at h4
      exact h4
    have h5:=condW_of h4 (w_not (w_lt w_lit (w_len_list (w_arg rfl))))
    rw [List.length_map] at h5
    refine Nat.le_of_not_lt fun q=>?_
    have q':(n:Int) < ((ns.length:Nat):Int):=by omega
    first
      | (rw [decide_eq_true q'] at h5; exact absurd h5 (by decide))
      | (simp at h5; omega)
  cases hwl with
  | cons w1 w2 =>
    cases w2
    cases w1 with
    | list ho hall=>exact ⟨_,_,ns,rfl,rfl,ho,JF ns _ hall,hlen⟩

theorem jdh (l:OpenLaw) (args:List WData):l.row.toRowW.claim.post args (.bool true) args=true :=
  postW_of (r:=l.row.toRowW) (X:=(true == true))
    (show WShape.has [] (.bool true) .bool=true by first | rfl | decide | simp [WShape.has,WShape.arms,WShape.armsAll])
    (show (WTm.eq .res (.lit (.bool true))).value [] { args:=args,res:=some (.bool true),after:=args }=some (.bool (true == true)) from w_eq_bool (w_res rfl) w_lit) rfl

theorem attach_call {l:OpenLaw} {n:Nat} {q:Program} {loose:List Str} {XP:(Str->Option Value)->Heap->Prop} {YP:World->Heap->Prop} {d:DefRec}
    (hn:l.most=some n) (hdf:d.params.defaults=[])
    (call:∀ (w:World) (s₀ s₁:Shared) (mg mb:Str->Option Value) (fa:Addr) (o:Obj) (pm cd doc:Value) (a:Addr) (vs:List Value) (ns:List Int),
      Ground q loose [] XP w s₀ mg mb s₁.heap->YP w s₁.heap ->
      s₁.heap.get? fa=some o->o.data = .func (docDef d.name d.params d.body d.scope pm cd doc)->s₁.heap.CodeRec cd d.name->mg d.name=some (.ref fa) ->
      s₁.heap.get? a=some { cls:=.type "list",data:=.seq vs.toArray }->IntsAre vs ns->ns.length<=n->s₁.gens = #[] ->
      codeAny (model l.prog w) callerA (.call (.ref fa) ⟨[.ref a],[]⟩) (fun r s'=>r = .ok (.ret (.bool true))∧OldK s₁.heap s'.heap∧s'.os=s₁.os∧AllBare s'.gens) s₁) :
    WalkO q loose XP YP l.row.toRowW d [] (fun f vs=>PySem.call f vs):=by
  intro w s₀ s₁ mg mb G Y fa o pm cd doc dV kV ho hd hcd hD hmg hg args vals as hpre hlay hrd hwl hlo
  obtain rfl:dV = .none:=Dflts.none hD hdf
  obtain rfl:kV = .none:=Dflts.noKw hD
  obtain ⟨a,vs,ns,rfl,rfl,hobj,hints,hlen⟩:=jdd hn hpre hwl
  refine enter_call (codeAny_mono (call w s₀ s₁ mg mb fa o pm cd doc a vs ns G Y ho (fd_plain hd) hcd hmg hobj hints hlen hg) fun r s' hq=>?_)
  obtain ⟨rfl,h2,h3,h4⟩:=hq
  exact ⟨.inl ⟨.bool true,.bool true,[],rfl,fun _=>rfl,.bool true,jdh l _,fun _=>⟨List.Pairwise.nil,fun _ hm=>(nomatch hm)⟩⟩,h2,h3,h4⟩

section
variable {prog:Program} {w:World} {A:Around} {E:Value->Shared->Prop} {s:Shared} {K:Frag}

end
end Att

namespace L2
open PySem PySem.Spec PyProof.Rows

theorem jcX {vs:List Value} {ns:List Int} (h:IntsAre vs ns):yg (ns.map V.int) vs:=by
  induction h with
  | nil=>exact .nil
  | cons n t h ih=>exact .cons ⟨t,rfl⟩ ih

def Only (H:Hp):Prop:=∀ b,H b=none∨∃ o xs,H b=some (.frz o (.lst xs))

theorem jfs {P:Program} {w:World} {K:PySem.W.Frag} {mg mb:Str->Option Value} {CX:CXT} {k:Nat} {fa a:Addr} {fd:FuncData} {x:Str} {sp:Sp} {s₁:Shared} {vs:List Value} {ns:List Int}
    (KX:K.In s₁.heap) (hns:s₁.heap.Ns mainGlobals mg) (hb:s₁.heap.Ns builtinsNs mb) (hbb:∀ x:Str,x≠"__name__"->mb x=bootBuiltins x) (hlim:s₁.heap.NoLimit) (hg:s₁.gens = #[])
    (ha:s₁.heap.get? a=some { cls:=.type "list",data:=.seq vs.toArray }) (hi:IntsAre vs ns) (hl:ns.length<=sizeLine) (hr:Room k callerA)
    (F:∀ base:Heap,K.In base->base.Ns mainGlobals mg->FnOk P w K mg base CX k fa fd [x] sp) (hbind:∀ (s:Shared) (u:Value),BindsTo s fd ⟨[u],[]⟩ [(x,u)])
    (hsp:∀ H:Hp,Only H->SqL K H a (ns.map V.int)->sp [.ref a] H (fun v _=>v = .bl true) fun _ _ _=>False)
    (hCX:∀ H e s',CX [] H s₁ (fun _ _ _=>False) e s'->False) :
    codeAny (model P w) callerA (.call (.ref fa) ⟨[.ref a],[]⟩) (fun r s'=>r = .ok (.ret (.bool true))∧OldK s₁.heap s'.heap∧s'.os=s₁.os∧AllBare s'.gens) s₁:=by
  have rv:=jcX hi
  have lenV:=hi.length
  -- from an abstract heap in which nothing but the script may be tracked
  have core:∀ H:Hp,Only H->SqL K H a (ns.map V.int)->HOk P w H s₁.heap->(∀ b,H b≠none->b=a)->(H a≠none->K.lookup a=none) ->
      codeAny (model P w) callerA (.call (.ref fa) ⟨[.ref a],[]⟩) (fun r s'=>r = .ok (.ret (.bool true))∧OldK s₁.heap s'.heap∧s'.os=s₁.os∧AllBare s'.gens) s₁:=by
    intro H hO hS hok hA hK
    have base_of:∀ {b:Addr} {o:Obj},s₁.heap.get? b=some o->H b=none->(UB s₁.heap H).get? b=some o:=fun e n=>jfE e n
    have noA:∀ {b:Addr} {o:Obj} {es:Array DictEntry} {ep:Nat},s₁.heap.get? b=some o->o.data = .dict es ep->H b=none:=fun {b o es ep} e d=>by
      cases q:H b with
      | none=>rfl
      | some u =>
        have e':b=a:=hA b (by rw [q]; simp)
        subst e'
        rw [ha] at e; cases e
        have d':Data.seq vs.toArray _=Data.dict es ep:=d
        cases d'
    have nsK:∀ {b:Addr} {m:Str->Option Value},s₁.heap.Ns b m->(UB s₁.heap H).Ns b m:=fun {b m} ⟨o,es,ep,e,d,r⟩=>⟨o,es,ep,base_of e (noA e d),d,r⟩
    have hKb:K.In (UB s₁.heap H):=fun b o e=>base_of (KX b o e) (by
      cases q:H b with
      | none=>rfl
      | some u =>
        have e':b=a:=hA b (by rw [q]; simp)
        subst e'
        rw [hK (by rw [q]; simp)] at e; cases e)
    have hM:Mod K mg (UB s₁.heap H):=⟨hKb,nsK hns,⟨mb,nsK hb,hbb⟩,let ⟨mc,h1,h2⟩:=hlim; ⟨mc,nsK h1,h2⟩⟩
    have e0:Env0 P w K mg (UB s₁.heap H) callerA [] s₁ H:=⟨rfl,hM,fun b o e=>jhC e,Nat.le_of_eq (jdz _ _),trivial,fun b hb=>absurd (show b ∈ ([]:List Addr) from hb) (by simp),hok,.of_eq hg⟩
    refine codeAny_mono ((F _ hKb (nsK hns)).run callerA [] s₁ H ⟨[.ref a],[]⟩ [.ref a] [.ref a] _ _ hr e0 (hbind s₁ (.ref a)) (.cons rfl .nil) (hsp H hO hS)) fun r s' h=>?_
    cases r with
    | error e=>exact (hCX H e s' h).elim
    | ok fl =>
      cases fl with
      | next=>exact False.elim h
      | brk=>exact False.elim h
      | cont=>exact False.elim h
      | ret u =>
        obtain ⟨v,H',os,bare,un,hok',r',q⟩:=h
        have q':v = .bl true:=q
        subst q'
        obtain rfl:u=Value.bool true:=r'
        refine ⟨rfl,OldK.of_keep fun b o e=>?_,os,bare⟩
        cases q:H b with
        | none=>exact un.keep b o e q (by intro z; exact absurd (show b ∈ ([]:List Addr) from z) (by simp)) (by simp)
        | some u =>
          rcases hO b with z | ⟨ob,xs,z⟩
          · rw [q] at z; cases z
          · have z2:=un.frzs b ob _ z
            obtain ⟨e1,_⟩:=hok b _ z
            obtain ⟨e2,_⟩:=hok' b _ z2
            rw [e] at e1; cases e1
            exact e2
  cases hk:K.lookup a with
  | some o =>
    -- the script is one of the module's own objects
    have e:=KX a o hk
    rw [ha] at e
    cases e
    refine core (fun _=>none) (fun _=>.inl rfl) (.inr ⟨_,vs.toArray,_,hk,rfl,rfl,rfl,by rw [List.size_toArray,lenV]; exact hl,by simpa using rv⟩) (fun b u z=>by have z':(none:Option HO)=some u:=z; cases z') (fun b z=>absurd rfl z) fun z=>absurd rfl z
  | none =>
    refine core (fun b=>if b=a then some (.frz { cls:=.type "list",data:=.seq vs.toArray } (.lst (ns.map V.int))) else none) (fun b=>?_) (.inl (.inr ⟨{ cls:=.type "list",data:=.seq vs.toArray },if_pos rfl⟩)) (fun b u z=>?_) (fun b z=>?_) fun _=>hk
    · by_cases hb:b=a
      · exact .inr ⟨_,_,if_pos hb⟩
      · exact .inl (if_neg hb)
    · by_cases hb:b=a
      · have z':=(if_pos hb).symm.trans z
        cases z'
        subst hb
        exact ⟨ha,by rw [List.length_map]; exact hl,vs,_,rv,ha⟩
      · have z':=(if_neg hb).symm.trans z
        cases z'
    · by_cases hb:b=a
      · exact hb
      · exact absurd (if_neg hb) z
end L2

namespace L2
open PySem PySem.Spec PyProof.Rows

theorem walk_of {l:PySem.W.OpenLaw} {n k:Nat} {q:Program} {loose:List Str} {XP:(Str->Option Value)->Heap->Prop} {YP:World->Heap->Prop} {d:DefRec} {K:Params->PySem.W.Frag} {CX:World->CXT} {sp:World->Sp} {x:Str}
    (hn:l.most=some n) (hn2:n<=sizeLine) (hdf:d.params.defaults=[]) (hr:Room k callerA)
    (hY:∀ (w:World) (h:Heap),YP w h->(K w.params).In h)
    (F:∀ (w:World) (mg:Str->Option Value) (fa:Addr) (h:Heap),(K w.params).In h->h.Ns mainGlobals mg->mg d.name=some (.ref fa) ->
      ∃ fd:FuncData,(∀ (s:Shared) (u:Value),BindsTo s fd ⟨[u],[]⟩ [(x,u)]) ∧
        ∀ base:Heap,(K w.params).In base->base.Ns mainGlobals mg->FnOk l.prog w (K w.params) mg base (CX w) k fa fd [x] (sp w))
    (hsp:∀ (w:World) (H:Hp) (a:Addr) (ns:List Int),ns.length<=n->Only H->SqL (K w.params) H a (ns.map V.int)->sp w [.ref a] H (fun v _=>v = .bl true) fun _ _ _=>False)
    (hCX:∀ (w:World) (H:Hp) (s:Shared) (e:Value) (s':Shared),CX w [] H s (fun _ _ _=>False) e s'->False) :
    PySem.W.WalkO q loose XP YP l.row.toRowW d [] (fun f vs=>PySem.call f vs):=by
  refine Att.attach_call hn hdf fun w s₀ s₁ mg mb fa o pm cd doc a vs ns G Y ho hd hcd hmg hobj hints hlen hg=>?_
  have KX:=hY w _ Y
  obtain ⟨fd,hb,hF⟩:=F w mg fa _ KX G.T.g hmg
  exact jfs KX G.T.g G.T.b G.T.builtins G.T.nolimit hg hobj hints (Nat.le_trans hlen hn2) hr hF hb (fun H hO hS=>hsp w H a ns hlen hO hS) fun H e s'=>hCX w H s₁ e s'
end L2

namespace L2
open PySem PySem.Spec PyProof.Rows

def yq (s:Stmt) (j:Nat):Stmt:=match s with
  | .ClassDef _ _ _ body _ _ _ _ _ _ _=>body.getD j (.Pass ⟨0,0,0,0⟩)
  | _=>.Pass ⟨0,0,0,0⟩
def jl (s:Stmt):Arguments:=match s with
  | .FunctionDef _ a _ _ _ _ _ _ _ _=>a
  | _=>{ posonlyargs:=[],args:=[],vararg:=none,kwonlyargs:=[],kw_defaults:=[],kwarg:=none,defaults:=[] }
def ji (s:Stmt):List Stmt:=match s with
  | .FunctionDef _ _ b _ _ _ _ _ _ _=>b
  | _=>[]
def jc (s:Stmt):Scope:=match s with
  | .FunctionDef _ _ _ _ _ _ sc _ _ _=>sc
  | _=>{ kind:=.function,names:=[],isGenerator:=false,isCoroutine:=false }

abbrev CX0:CXT:=fun _ _ _ _ _ _=>False
abbrev E0:XK:=fun _ _ _=>False
structure Fun (K:PySem.W.Frag) (x qual:Str) (st:Stmt) (f:Addr) (fd:FuncData):Prop where
  ex:∃ (oc:Value) (od:Option Addr) (kV doc pm:Value) (an:Option Addr) (cdv ct:Value) (osl:Array (Option Value)),
    fd=PySem.W.fnOf x qual (jl st) (ji st) (jc st) .none kV doc pm an cdv ct∧K.lookup f=some ⟨oc,od,.func fd,osl⟩∧PySem.W.codeIn K cdv qual=true
  kp:PySem.W.keepIn K (.ref f)=true
section
variable {P:Program} {w:World} {K:PySem.W.Frag} {mg:Str->Option Value} {base:Heap}
theorem Fun.ok {x qual:Str} {st:Stmt} {f:Addr} {fd:FuncData} {N ps:List Str} {k:Nat} {sp:Sp} (F:Fun K x qual st f fd) (S:FnScope N ps (jc st)) (len:∀ vs H Q E,sp vs H Q E->vs.length=ps.length)
    (hbody:∀ (cdv:Value) (A:Around) (outer:List Env) (s:Shared) (H:Hp) (vs:List V) (Q:VK) (E:XK),Room k (A.deeper (envOfC qual (jc st) s.heap.objs.size f cdv))->sp vs H Q E ->
      ∃ t,PSs (vA CX0 P w K mg base N qual (jc st) f cdv A outer s H E).nox (ji st) t∧t { nx:=fun _ H'=>Q .non H',rt:=Q } (start N vs) H):FnOk P w K mg base CX0 (k + 1) f fd ps sp:=by
  obtain ⟨oc,od,kV,doc,pm,an,cdv,ct,osl,rfl,lk,hcd⟩:=F.ex
  refine jiG lk hcd S len fun A outer s H vs Q E hr hsp=>?_
  obtain ⟨t,h,q⟩:=hbody cdv A outer s H vs Q E hr hsp
  exact ⟨t,h.nox,q⟩
theorem jq {x qual:Str} {st:Stmt} {f:Addr} {oc:Value} {od an:Option Addr} {osl:Array (Option Value)} {kV doc pm cdv ct:Value} (l:K.lookup f=some ⟨oc,od,.func (PySem.W.fnOf x qual (jl st) (ji st) (jc st) .none kV doc pm an cdv ct),osl⟩)
    (c:PySem.W.codeIn K cdv qual=true) (k:PySem.W.keepIn K (.ref f)=true):Fun K x qual st f (PySem.W.fnOf x qual (jl st) (ji st) (jc st) .none kV doc pm an cdv ct):=⟨⟨oc,od,kV,doc,pm,an,cdv,ct,osl,rfl,l,c⟩,k⟩
end
section
variable {X:Cx}
end

def jdS (H H':Hp):Prop:=∀ b o,H b=some o->H' b=some o
theorem jdS.seq {K:PySem.W.Frag} {H H':Hp} {a:Addr} {xs:List V} (e:jdS H H') (h:SqL K H a xs):SqL K H' a xs:=by
  rcases h with (h | ⟨o,h⟩) | h
  · exact .inl (.inl (e _ _ h))
  · exact .inl (.inr ⟨o,e _ _ h⟩)
  · exact .inr h

end L2

namespace L2
open PySem
section
variable {prog:Program} {w:World} {A:Around} {R:Result->Shared->Prop} {s:Shared}
theorem UF {elt target iter:Expr} {ifs:List Expr} {scope:Scope} {pos:Pos} {it acc:Value} {env:Env} (I:Nat->Shared->Prop)
    (turn:∀ n s,I n s->wpAny (model prog w) A (pyNext it) (fun r s₁=>match r with
      | none=>R (.ok .next) s₁
      | some v=>wpAny (model prog w) A (letOwnedTupleGo target it v) (fun _ s₁'=>wpAny (model prog w) A (assign target env v) (fun _ s₂ =>
          wpAny (model prog w) A (forIn ifs true fun c r=>if r=true then do let ok <- isTrue c env (eval c env); pure (ForInStep.yield ok) else pure (ForInStep.yield r)) (fun ok s₃ =>
            if ok=true then wpAny (model prog w) A (eval elt env) (fun x s₄ =>
              wpAny (model prog w) A (call (.builtin "list.append") [acc,x]) (fun _ s₅=>∃ m,m < n∧I m s₅) (fun _ _=>False) s₄) (fun _ _=>False) s₃
            else ∃ m,m < n∧I m s₃) (fun _ _=>False) s₂) (fun _ _=>False) s₁') (fun _ _=>False) s₁) (fun _ _=>False) s)
    (n:Nat) (h:I n s) :
    codeAny (model prog w) A (.compLoop (.ListComp elt [⟨target,iter,ifs,0⟩] scope pos) 0 it acc env) R s:=by
  refine codeAny_loop rfl I (fun n s hI=>?_) n h
  show wpAny _ A ((compTurn (.ListComp elt [⟨target,iter,ifs,0⟩] scope pos) 0 it acc env).onRaise (fun x=>do noteFrame x env; theTreesLotGoes x)) _ _ s
  refine wpAny_noted ?_
  rw [compTurn_list]
  refine wpAny_bind (wpAny_standAt (wpAny_bind (wpAny_mono (turn n s hI) (fun r s₁ h₁=>?_) fun _ _ h'=>h'.elim)))
  cases r with
  | none=>exact wpAny_pure h₁
  | some v =>
    refine wpAny_bind (wpAny_mono h₁ (fun _ s₁' h₁'=>?_) fun _ _ h'=>h'.elim)
    refine wpAny_bind (wpAny_mono h₁' (fun _ s₂ h₂=>wpAny_bind (wpAny_mono h₂ (fun ok s₃ h₃=>?_) fun _ _ h'=>h'.elim)) fun _ _ h'=>h'.elim)
    cases ok with
    | false=>exact wpAny_pure ⟨rfl,h₃⟩
    | true =>
      exact wpAny_bind (wpAny_bind (wpAny_mono h₃ (fun x s₄ h₄=>wpAny_bind (wpAny_mono h₄ (fun _ s₅ h₅=>wpAny_pure (wpAny_pure ⟨rfl,h₅⟩)) fun _ _ h'=>h'.elim)) fun _ _ h'=>h'.elim))
end
def uB (env:Env):List (Str × NameKind)->List (Str × Addr)->List (Str × Addr)
  | [],cs=>cs
  | (n,k) :: r,cs=>uB env r (if k == .free then (n,(env.cells.lookup n).getD 0) :: cs else cs)
def uf (scope:Scope) (env:Env):List (Str × Addr):=uB env scope.names []
theorem VB {env:Env}:∀ (ns:List (Str × NameKind)) (cs:List (Str × Addr)),(∀ y ∈ ns,y.2 = .free->∃ c,env.cells.lookup y.1=some c) ->
    (forIn ns cs fun (x:Str × NameKind) (r:List (Str × Addr))=>(if (x.2 == .free)=true then do
      let a <- cellOf env x.1
      pure (ForInStep.yield ((x.1,a) :: r)) else pure (ForInStep.yield r):Sem (ForInStep (List (Str × Addr)))))=pure (uB env ns cs)
  | [],cs,_=>rfl
  | (n,k) :: r,cs,h=>by
    rw [List.forIn_cons]
    have ih:=fun cs=>VB r cs fun y hy=>h y (List.mem_cons_of_mem _ hy)
    by_cases hk:k = .free
    · subst hk
      obtain ⟨c,e⟩:=h (n,.free) List.mem_cons_self rfl
      have e':cellOf env n=pure c:=by
        unfold cellOf
        have e2:env.cells.lookup n=some c:=e
        rw [e2]
      simp only [beq_self_eq_true,if_true,e',pure_bind,ih]
      have e3:env.cells.lookup n=some c:=e
      simp only [uB,beq_self_eq_true,if_true,e3,Option.getD_some]
    · have hb:(k == NameKind.free)=false:=by simpa using hk
      simp only [hb,Bool.false_eq_true,if_false,pure_bind,ih,uB]
theorem jbJ {scope:Scope} {env:Env} (h:∀ y ∈ scope.names,y.2 = .free->∃ c,env.cells.lookup y.1=some c):closureFor scope env=pure (uf scope env):=by
  have e:=VB scope.names [] h
  unfold closureFor uf
  rw [<- e]
  simp only [bind_pure]
theorem YO {env:Env} {x:Str} {c:Addr}:∀ (ns:List (Str × NameKind)) (cs:List (Str × Addr)),(∀ y ∈ ns,y.2 = .free->∃ c,env.cells.lookup y.1=some c) ->
    (cs.lookup x=some c->env.cells.lookup x=some c)->(uB env ns cs).lookup x=some c->env.cells.lookup x=some c
  | [],cs,_,h,e=>h e
  | (n,k) :: r,cs,hf,h,e=>by
    refine YO r _ (fun y hy=>hf y (List.mem_cons_of_mem _ hy)) ?_ e
    by_cases hk:k = .free
    · subst hk
      obtain ⟨c',e'⟩:=hf (n,.free) List.mem_cons_self rfl
      have e':env.cells.lookup n=some c':=e'
      simp only [beq_self_eq_true,if_true,e',Option.getD_some]
      intro z
      rw [List.lookup_cons] at z
      cases hx:x == n with
      | true =>
        rw [hx] at z
        have hx':x=n:=by simpa using hx
        rw [hx',e']
        exact z
      | false =>
        rw [hx] at z
        exact h z
    · have hb:(k == NameKind.free)=false:=by simpa using hk
      simp only [hb,Bool.false_eq_true,if_false]
      exact h
theorem YQ {env:Env} {x:Str}:∀ (ns:List (Str × NameKind)) (cs:List (Str × Addr)),((∃ c,cs.lookup x=some c)∨(x,NameKind.free) ∈ ns)->∃ c,(uB env ns cs).lookup x=some c
  | [],cs,h=>by
    rcases h with h | h
    · exact h
    · cases h
  | (n,k) :: r,cs,h=>by
    refine YQ r _ ?_
    by_cases hk:k = .free
    · subst hk
      simp only [beq_self_eq_true,if_true]
      by_cases hx:x=n
      · subst hx
        left
        rw [List.lookup_cons]
        simp
      · rcases h with ⟨c,h⟩ | h
        · left
          refine ⟨c,?_⟩
          rw [List.lookup_cons]
          have:(x == n)=false:=by simpa using hx
          rw [this]
          exact h
        · right
          rcases List.mem_cons.mp h with h | h
          · cases h
            exact absurd rfl hx
          · exact h
    · have hb:(k == NameKind.free)=false:=by simpa using hk
      simp only [hb,Bool.false_eq_true,if_false]
      rcases h with h | h
      · exact .inl h
      · right
        rcases List.mem_cons.mp h with h | h
        · cases h
          exact absurd rfl hk
        · exact h
end L2

namespace L2
open PySem PySem.Spec PyProof.Rows
def jQ (X:Cx) (N':List Str) (scope:Scope) (s₃:Shared) (H₃:Hp) (fp:List Addr):Cx :=
  { X with N:=N',s₀:=s₃,H₀:=H₃,env:=compEnvC scope (cellsFrom (s₃.heap.objs.size + 1) scope.names (uf scope X.env)) s₃.heap.objs.size X.env,outer:=X.stack,ex:=fp,fn:=fun x=>scope.names.lookup x == some .cell,pn:=[],xe:=fun _ _=>False }
def xH (own:Nat) (js:List Nat) (σ:St):St:=List.replicate own none ++ js.map fun j=>(σ[j]?).getD none
def Xf (σ σ':St):Prop:=σ'.length=σ.length∧∀ (k:Nat) (v:V),σ[k]? = some (some v)->σ'[k]? = some (some v)
theorem Xf.refl (σ:St):Xf σ σ:=⟨rfl,fun _ _ e=>e⟩
theorem jiC {r:St} {x:Option V}:Xf (none :: r) (x :: r):=⟨rfl,fun k v e=>by
  cases k with
  | zero=>cases e
  | succ k=>exact e⟩
theorem jfu {r:St} {x y:Option V}:Xf (none :: none :: r) (x :: y :: r):=⟨rfl,fun k v e=>by
  cases k with
  | zero=>cases e
  | succ k=>cases k with
    | zero=>cases e
    | succ k=>exact e⟩
structure CompScope (osc sc:Scope) (own fr:List Str):Prop where
  kind:sc.kind = .function
  cel:∀ y ∈ sc.names,y.2 = .cell->sc.names.lookup y.1=some .cell
  loc:∀ y ∈ sc.names,y.2 = .local->sc.names.lookup y.1=some .local
  free:∀ y ∈ sc.names,y.2 = .free->osc.names.lookup y.1=some .cell∨osc.names.lookup y.1=some .free
  nown:∀ x ∈ own,sc.names.lookup x=some .local∨sc.names.lookup x=some .cell
  nfr:∀ x ∈ fr,(osc.names.lookup x=some .cell∨osc.names.lookup x=some .free)∧sc.names.lookup x=some .free
theorem xv {env:Env} {x:Str} {k:NameKind}:∀ {names:List (Str × NameKind)},
    (names.map fun (n,k)=>if (k == NameKind.free && env.scope.kind == .function && env.kindOf n == some .cell) then (n,NameKind.cell) else (n,k)).lookup x=some k->names.lookup x=some k∨(k = .cell∧names.lookup x=some .free)
  | [],h=>by simp at h
  | (n,k') :: r,h=>by
    have ih:=@xv env x k r
    simp only [List.map_cons] at h
    rw [List.lookup_cons]
    by_cases hc:(k' == NameKind.free && env.scope.kind == .function && env.kindOf n == some .cell)=true
    · rw [if_pos hc,List.lookup_cons] at h
      have hf:k' = .free:=by
        have:=(Bool.and_eq_true_iff.mp (Bool.and_eq_true_iff.mp hc).1).1
        simpa using this
      cases hx:x == n with
      | true =>
        rw [hx] at h
        subst hf
        exact .inr ⟨(Option.some.inj h).symm,rfl⟩
      | false =>
        rw [hx] at h
        exact ih h
    · rw [if_neg hc,List.lookup_cons] at h
      cases hx:x == n with
      | true =>
        rw [hx] at h
        exact .inl h
      | false =>
        rw [hx] at h
        exact ih h
theorem xj {env:Env} {x:Str}:∀ {names:List (Str × NameKind)},names.lookup x=some .free ->
    (names.map fun (n,k)=>if (k == NameKind.free && env.scope.kind == .function && env.kindOf n == some .cell) then (n,NameKind.cell) else (n,k)).lookup x=some .cell ∨
    (names.map fun (n,k)=>if (k == NameKind.free && env.scope.kind == .function && env.kindOf n == some .cell) then (n,NameKind.cell) else (n,k)).lookup x=some .free
  | [],h=>by simp at h
  | (n,k') :: r,h=>by
    have ih:=@xj env x r
    rw [List.lookup_cons] at h
    simp only [List.map_cons]
    by_cases hc:(k' == NameKind.free && env.scope.kind == .function && env.kindOf n == some .cell)=true
    · rw [if_pos hc,List.lookup_cons]
      cases hx:x == n with
      | true=>exact .inl rfl
      | false =>
        rw [hx] at h
        exact ih h
    · rw [if_neg hc,List.lookup_cons]
      cases hx:x == n with
      | true =>
        rw [hx] at h
        exact .inr h
      | false =>
        rw [hx] at h
        exact ih h
theorem uY {x:Str}:∀ {names:List (Str × NameKind)} {n:Nat} {acc:List (Str × Addr)},(x,NameKind.cell) ∉ names->(cellsFrom n names acc).lookup x=acc.lookup x
  | [],_,_,_=>rfl
  | (m,k) :: r,n,acc,h=>by
    unfold cellsFrom
    have hr:(x,NameKind.cell) ∉ r:=fun z=>h (List.mem_cons_of_mem _ z)
    split
    · rename_i hk
      rw [uY hr,List.lookup_cons]
      have hk:k = .cell:=by simpa using hk
      have hx:(x == m)=false:=by
        cases e:x == m with
        | false=>rfl
        | true =>
          have:x=m:=by simpa using e
          exact absurd (by rw [this,hk]; exact List.mem_cons_self) h
      rw [hx]
    · exact uY hr
theorem YR {x:Str}:∀ {names:List (Str × NameKind)} {n:Nat} {acc:List (Str × Addr)},(x,NameKind.cell) ∈ names->∃ c,(cellsFrom n names acc).lookup x=some c∧n<=c
  | (m,k) :: r,n,acc,h=>by
    unfold cellsFrom
    by_cases hr:(x,NameKind.cell) ∈ r
    · split
      · obtain ⟨c,e,l⟩:=YR (n:=n + 1) (acc:=(m,n) :: acc) hr
        exact ⟨c,e,by omega⟩
      · exact YR hr
    · rcases List.mem_cons.mp h with h | h
      · cases h
        rw [if_pos (by rfl),uY hr,List.lookup_cons]
        exact ⟨n,by simp,Nat.le_refl _⟩
      · exact absurd h hr
theorem cf_sub {x:Str} {c:Addr} {names:List (Str × NameKind)} {n:Nat} {acc:List (Str × Addr)} (e:(cellsFrom n names acc).lookup x=some c):(acc.lookup x=some c∧(x,NameKind.cell) ∉ names)∨(n<=c∧(x,NameKind.cell) ∈ names):=by
  by_cases h:(x,NameKind.cell) ∈ names
  · obtain ⟨c',e',l⟩:=YR (n:=n) (acc:=acc) h
    rw [e] at e'
    cases e'
    exact .inr ⟨l,h⟩
  · rw [uY h] at e
    exact .inl ⟨e,h⟩
theorem jbN:∀ (names:List (Str × NameKind)) (n:Nat) (acc:List (Str × Addr)),(∀ x c,acc.lookup x=some c->c < n)->(∀ x y c,acc.lookup x=some c->acc.lookup y=some c->x=y)->∀ x y c,(cellsFrom n names acc).lookup x=some c->(cellsFrom n names acc).lookup y=some c->x=y
  | [],_,_,_,h=>h
  | (m,k) :: r,n,acc,hl,h=>by
    unfold cellsFrom
    split
    · refine jbN r (n + 1) _ (fun x c e=>?_) fun x y c e1 e2=>?_
      · rw [List.lookup_cons] at e
        split at e
        · cases e; exact Nat.lt_succ_self _
        · exact Nat.lt_succ_of_lt (hl x c e)
      · rw [List.lookup_cons] at e1 e2
        cases hx:x == m <;> cases hy:y == m <;> rw [hx] at e1 <;> rw [hy] at e2
        · exact h x y c e1 e2
        · cases e2
          exact absurd (hl x _ e1) (Nat.lt_irrefl _)
        · cases e1
          exact absurd (hl y _ e2) (Nat.lt_irrefl _)
        · have a:x=m:=by simpa using hx
          have b:y=m:=by simpa using hy
          rw [a,b]
    · exact jbN r n acc hl h
theorem UH {x:Str} {c:Addr}:∀ (names:List (Str × NameKind)) (h:Heap) (acc:List (Str × Addr)),(∀ x c,acc.lookup x=some c->∃ v,h.IsCell c v)->(cellsFrom h.objs.size names acc).lookup x=some c->∃ v,(pushCells h names).IsCell c v
  | [],_,_,ha,e=>ha x c e
  | (m,k) :: r,h,acc,ha,e=>by
    unfold pushCells
    unfold cellsFrom at e
    split
    · rename_i hk
      rw [if_pos hk] at e
      refine UH r (h.push { cls:=.type "cell",data:=.cell none }) ((m,h.objs.size) :: acc) (fun y d q=>?_) (by rw [Heap.size_push]; exact e)
      rw [List.lookup_cons] at q
      split at q
      · cases q
        exact ⟨none,_,Heap.get?_push_size _ rfl,rfl⟩
      · obtain ⟨v,hv⟩:=ha y d q
        exact ⟨v,hv.keeps fun b o e=>Heap.get?_push_of_some _ e⟩
    · rename_i hk
      rw [if_neg hk] at e
      exact UH r h acc ha e
theorem JS {M:Model} {A:Around} {E:Value->Shared->Prop} {s:Shared} {scope:Scope} {globals:Addr} {closure:List (Str × Addr)} {qual:Str} {func:Option Addr} {code:Value} {outer:Env} {builtins:Addr} {Q:Env->Shared->Prop}
    (hQ:Q (newEnv scope s.heap.objs.size globals (cellsFrom (s.heap.objs.size + 1) scope.names closure) qual func code (some outer) builtins) { s with heap:=pushCells (s.heap.push { cls:=.type "dict",data:=.dict #[] }) scope.names }) :
    wpAny M A (newFunctionEnv scope globals closure [] qual func code (some outer) builtins) Q E s:=by
  simp only [newFunctionEnv,Option.isSome_some,if_true]
  refine wpAny_bind (wpAny_alloc ?_)
  refine wpAny_bind (wpAny_layCells _ (fun name kind cells=>by cases hkc:kind == NameKind.cell <;> simp [hkc]) _ _ _ _ ?_)
  rw [show ({ s with heap:=s.heap.push { cls:=.type "dict",data:=.dict #[] } }:Shared).heap.objs.size=s.heap.objs.size + 1 from Heap.size_push ..]
  rw [List.forIn_nil]
  exact wpAny_bind (wpAny_pure (wpAny_pure hQ))
theorem jhF {h:Heap} {c:Addr} {m:Str->Option Value} (names:List (Str × NameKind)) (n:h.Ns c m):(pushCells h names).Ns c m:=n.keeps (fun b o e=>pushCells_keeps names h b o e)
section
variable {X:Cx} {pins:List (Addr × Obj)} {σ:St} {H:Hp} {s:Shared} {osc sc:Scope} {own fr:List Str} {js:List Nat} {fp:List Addr}
theorem cl_ok (I:Inv X pins σ H s) (ho:X.env.scope=osc) (S:CompScope osc sc own fr):∀ y ∈ sc.names,y.2 = .free->∃ c,X.env.cells.lookup y.1=some c:=fun y hy e=>by
  refine I.ok.has y.1 ?_
  have h:=S.free y hy e
  rw [<- ho] at h
  exact h
theorem Ju (I:Inv X pins σ H s) (ho:X.env.scope=osc) (S:CompScope osc sc own fr) {x:Str} {c:Addr} (e:(uf sc X.env).lookup x=some c):X.env.cells.lookup x=some c :=
  YO sc.names [] (cl_ok I ho S) (fun z=>by cases z) e
theorem jbK (S:CompScope osc sc own fr) {x:Str} (h:sc.names.lookup x=some .free):∃ c,(uf sc X.env).lookup x=some c :=
  YQ sc.names [] (.inr (PySem.mem_of_lookup h))
theorem jbO {n:Nat} (I:Inv X pins σ H s) (ho:X.env.scope=osc) (S:CompScope osc sc own fr) {x:Str} {c:Addr} (e:(cellsFrom n sc.names (uf sc X.env)).lookup x=some c):X.env.cells.lookup x=some c∨n<=c:=by
  rcases cf_sub e with h | h
  · exact .inl (Ju I ho S h.1)
  · exact .inr h.1
theorem jii (I:Inv X pins σ H s) {x:Str} {c:Addr} (e:X.env.cells.lookup x=some c):c < s.heap.objs.size:=by
  obtain ⟨v,hv⟩:=I.cell x c e
  exact hv.lt
theorem jbE (S:CompScope osc sc own fr) {x:Str} (h:sc.names.lookup x=some .free):(x,NameKind.cell) ∉ sc.names:=fun z=>by
  have:=S.cel _ z rfl
  rw [h] at this
  cases this
theorem UL (S:CompScope osc sc own fr) {x:Str} (n:Nat) (h:sc.names.lookup x=some .free):(cellsFrom n sc.names (uf sc X.env)).lookup x=(uf sc X.env).lookup x:=uY (jbE S h)
theorem jif (I:Inv X pins σ H s) (ho:X.env.scope=osc) (S:CompScope osc sc own fr) (hf:∀ b ∈ fp,ug X pins H b) (hlt:∀ b ∈ fp,b < s.heap.objs.size) (N':List Str):(jQ X N' sc s H fp).Ok where
  mod:=I.ok.mod
  kind:=S.kind
  glob:=I.ok.glob
  blt:=I.ok.blt
  above:=Nat.le_refl _
  inj:=jbN _ _ _ (fun x c e=>Nat.lt_succ_of_lt (jii I (Ju I ho S e))) fun x y c h1 h2=>I.ok.inj x y c (Ju I ho S h1) (Ju I ho S h2)
  has:=fun x h=>by
    have h:(relabel sc X.env).names.lookup x=some .cell∨(relabel sc X.env).names.lookup x=some .free:=h
    rcases h with h | h
    · rcases xv h with h | ⟨_,h⟩
      · obtain ⟨c,e,_⟩:=YR (n:=s.heap.objs.size + 1) (acc:=uf sc X.env) (PySem.mem_of_lookup h)
        exact ⟨c,e⟩
      · obtain ⟨c,e⟩:=jbK (X:=X) S h
        exact ⟨c,(UL S _ h).trans e⟩
    · rcases xv h with h | ⟨e,_⟩
      · obtain ⟨c,e⟩:=jbK (X:=X) S h
        exact ⟨c,(UL S _ h).trans e⟩
      · cases e
  cab:=fun x c h e=>by
    have h:(sc.names.lookup x == some .cell)=true:=h
    have h:sc.names.lookup x=some .cell:=by simpa using h
    obtain ⟨c',e',l⟩:=YR (n:=s.heap.objs.size + 1) (acc:=uf sc X.env) (PySem.mem_of_lookup h)
    have e:(cellsFrom (s.heap.objs.size + 1) sc.names (uf sc X.env)).lookup x=some c:=e
    rw [e] at e'
    cases e'
    exact Nat.le_of_succ_le l
  hd:=I.ok.hd
  frames:=I.ok.frames
  stk:=.inl rfl
  exf:=fun b hb=>⟨Nat.ne_of_lt (hlt b hb),fun x c e=>by
    rcases jbO I ho S e with z | z
    · exact (hf b hb).2.2.2.2.1 x c z
    · exact Nat.ne_of_gt (Nat.lt_trans (hlt b hb) z)⟩
  bs:=fun b o e=>I.bs b o e
  bsz:=Nat.le_trans I.ok.bsz I.sz
  noex:=fun b o e hb=>by
    have h:=I.ok.noex b o e
    have h2:=(hf b hb).2.2.2.1
    rcases h2 with h2 | h2
    · exact h h2
    · have hb2:b < X.base.objs.size:=Heap.lt_size e
      exact absurd (Nat.lt_of_lt_of_le hb2 (Nat.le_trans I.ok.bsz h2)) (Nat.lt_irrefl _)
  exfs:=fun b hb hm=>by
    have:=I.stkSub b hm
    rcases List.mem_cons.mp this with z | z
    · exact (hf b hb).2.1 z
    · exact (hf b hb).2.2.1 z
  funs:=I.stack
  frf:=I.stkFree
theorem jfx {h':Heap} {tk:Nat} (I:Inv X pins σ H s) (ho:X.env.scope=osc) (S:CompScope osc sc own fr) (hj:js.map (fun j=>X.N[j]?)=fr.map some) (hf:∀ b ∈ fp,ug X pins H b) (hlt:∀ b ∈ fp,b < s.heap.objs.size)
    (hn:h'.Ns s.heap.objs.size fun _=>none) (hk:∀ b o,s.heap.get? b=some o->h'.get? b=some o) (hcl:∀ x c,(cellsFrom (s.heap.objs.size + 1) sc.names (uf sc X.env)).lookup x=some c->∃ v,h'.IsCell c v):Inv (jQ X (own ++ fr) sc s H fp) [] (xH own.length js σ) H { s with heap:=h',toks:=tk }:=by
  refine ⟨jif I ho S hf hlt _,rfl,I.bare,Un.kept hk,⟨_,hn,fun i x v h1 h2 h3=>?_⟩,fun x c e=>?_,I.hok.fresh (Nat.le_refl _),fun x c e=>(jbO I ho S e).elim (fun z=>I.freeC x c z) (fun z=>I.hok.fresh (Nat.le_of_succ_le z)),fun p hp=>absurd (show p ∈ ([]:List (Addr × Obj)) from hp) (by simp),I.hok.kept hk,?_⟩
  · have h1:(own ++ fr)[i]? = some x:=h1
    by_cases hi:i < own.length
    · unfold xH at h2
      rw [List.getElem?_append_left (by simpa using hi),List.getElem?_replicate] at h2
      split at h2 <;> cases h2
    · have hi':own.length<=i:=Nat.le_of_not_lt hi
      rw [List.getElem?_append_right hi'] at h1
      unfold xH at h2
      rw [List.getElem?_append_right (by simpa using hi'),List.length_replicate,List.getElem?_map] at h2
      have hx:=congrArg (fun l:List (Option Str)=>l[i - own.length]?) hj
      simp only [List.getElem?_map,h1,Option.map_some] at hx
      cases ej:js[i - own.length]? with
      | none=>rw [ej] at hx; cases hx
      | some j =>
        rw [ej] at hx h2
        simp only [Option.map_some,Option.some.injEq] at hx h2
        have hsv:σ[j]? = some (some v):=by
          cases es:σ[j]? with
          | none=>rw [es] at h2; cases h2
          | some z=>rw [es] at h2; simp only [Option.getD_some] at h2; rw [h2]
        have hxf:=S.nfr x (List.mem_of_getElem? h1)
        obtain ⟨m,hm,hl⟩:=I.loc
        have hv:Vis X.env.scope x:=by
          rw [ho]
          rcases hxf.1 with z | z
          · exact .inr (.inl z)
          · exact .inr (.inr z)
        obtain ⟨u,ru,lk⟩:=hl j x v hx hsv hv
        refine ⟨u,ru,.inr ⟨xj hxf.2,?_⟩⟩
        rcases lk with ⟨lk,_⟩ | ⟨_,c,ec,ic⟩
        · have lk:X.env.scope.names.lookup x=some .local:=lk
          rw [ho] at lk
          rcases hxf.1 with z | z <;> (rw [lk] at z; cases z)
        · obtain ⟨c',e'⟩:=jbK (X:=X) S hxf.2
          have e2:=Ju I ho S e'
          rw [ec] at e2
          cases e2
          exact ⟨c,(UL S _ hxf.2).trans e',ic.keeps hk⟩
  · exact hcl x c e
  · have e:=congrArg List.length hj
    simp only [List.length_map] at e
    show (xH own.length js σ).length=(own ++ fr).length
    unfold xH
    simp only [List.length_append,List.length_replicate,List.length_map,e]
end
end L2

namespace L2
open PySem PySem.Spec PyProof.Rows
def jgC (J:It) (acc:Addr) (own:Nat) (js:List Nat) (g:TG) (tt:TT) (te:TE) (σ:St) (Q:VK) (H1:Hp):Prop :=
  ∃ W:Nat->Nat->List V->Hp->Prop,(∃ m,W 0 m [] (upd H1 acc (.lst [])))∧∀ i m xs H2,W i m xs H2->(J.stop i H2∧Q (.ref acc) H2) ∨
    (J.go i H2∧xs.length < sizeLine∧∃ N:List V->Hp->Prop,(∀ ys H',N ys H'->∃ m',m' < m∧W (i + 1) m' ys H')∧∀ x H3,J.yld i H2 x H3->g x (xH own js σ) H3 fun σ4 H4=>Xf (xH own js σ) σ4∧tt σ4 H4 fun b H5 =>
      if b=true then te σ4 H5 fun y H6=>H6 acc=some (.lst xs)∧N (xs ++ [y]) (upd H6 acc (.lst (xs ++ [y]))) else N xs H5)
def jbX (wi:TI) (own:Nat) (js:List Nat) (g:TG) (tt:TT) (te:TE):TE:=fun σ H Q=>wi σ H fun J H1=>∀ acc,H1 acc=none->jgC J acc own js g tt te σ Q H1
def PIf (X:Cx) (ifs:List Expr) (tt:TT):Prop :=
  ∀ (pins:List (Addr × Obj)) (s:Shared) (σ:St) (H:Hp) (Q:Bool->Hp->Prop),Inv X pins σ H s->tt σ H Q ->
    wpAny (model X.prog X.w) X.A (forIn ifs true fun c r=>if r=true then do let ok <- isTrue c X.env (eval c X.env); pure (ForInStep.yield ok) else pure (ForInStep.yield r)) (TP X pins σ Q) X.xe s
def jec:TT:=fun _ H Q=>Q true H
theorem jfy {X:Cx}:PIf X [] jec:=fun pins s σ H Q I h=>wpAny_tests_nil ⟨H,I,h⟩
theorem if_one {X:Cx} {c:Expr} {tc:TT} (h:PT X c tc):PIf X [c] tc:=fun pins s σ H Q I q=>wpAny_tests_one (h pins s σ H Q I q)
section
variable {X:Cx} {pins:List (Addr × Obj)} {σ:St} {H:Hp} {s:Shared} {osc sc:Scope} {own fr:List Str} {js:List Nat} {fp:List Addr}
theorem jdI {acc:Addr} {s':Shared} {σ':St} {H':Hp} {N':List Str} (I:Inv X pins σ H s) (hacc:acc=s.heap.objs.size) {tk:Nat} (hf:∀ b ∈ fp,ug X pins H b)
    (J:Inv (jQ X N' sc { s with heap:=s.heap.push { cls:=.type "list",data:=.seq ([]:List Value).toArray },toks:=tk } (upd H acc (.lst [])) fp) [] σ' H' s'):Inv X pins σ H' s':=by
  subst hacc
  refine I.call' J.os ?_ J.hok J.bare fun b hb=>⟨(hf b hb).2.2.2.1,(hf b hb).2.1,(hf b hb).2.2.2.2.1,(hf b hb).2.2.2.2.2⟩
  exact Un.trans (Un.laid (o:=.lst []) (fun b u e=>Heap.get?_push_of_some _ e) (Nat.le_refl _) (I.hok.fresh (Nat.le_refl _))) J.base
theorem jdH {elt target iter:Expr} {ifs:List Expr} {pos:Pos} {it:Addr} {tn:Nat->Heap->Prop} {J:It} {g:TG} {tt:TT} {te:TE} {Q:VK} {RR:Value->Addr->Result->Shared->Prop} {E:Value->Shared->Prop}
    (hc:X.calm=true) (ho:X.env.scope=osc) (S:CompScope osc sc own fr) (hj:js.map (fun j=>X.N[j]?)=fr.map some)
    (hg:∀ s₃ H₃ fp,PG (jQ X (own ++ fr) sc s₃ H₃ fp) target g) (ht:∀ s₃ H₃ fp,PIf (jQ X (own ++ fr) sc s₃ H₃ fp) ifs tt) (he:∀ s₃ H₃ fp,PE (jQ X (own ++ fr) sc s₃ H₃ fp) elt te)
    (I:Inv X pins σ H s) (T:Turn X.prog X.w X.K target J fp it tn) (st:tn 0 s.heap) (hf:∀ b ∈ fp,ug X pins H b)
    (h:∀ acc,H acc=none->jgC J acc own.length js g tt te σ Q H)
    (fin:∀ acc C H' s',Inv X pins σ H' s'->ug X pins H' C->(∃ m,s'.heap.Ns C m)->Q (.ref acc) H'->RR (.ref acc) C (.ok .next) s') :
    wpAny (model X.prog X.w) X.A (newList []) (fun acc s₃=>wpAny (model X.prog X.w) X.A (newFunctionEnv sc X.env.globals (uf sc X.env) [] X.env.qual none .none (some X.env)) (fun cenv s₄ =>
      codeAny (model X.prog X.w) X.A (.compStart (.ListComp elt [⟨target,iter,ifs,0⟩] sc pos) 0 (.ref it) acc { cenv with scope:=relabel sc X.env }) (RR acc cenv.locals) s₄) E s₃) E s:=by
  obtain ⟨W,⟨m0,w0⟩,turn⟩:=h s.heap.objs.size (I.hok.fresh (Nat.le_refl _))
  have hlt:∀ b ∈ fp,b < s.heap.objs.size:=fun b hb=>by
    obtain ⟨o,e,_⟩:=T.obj _ _ st b hb
    exact Heap.lt_size e
  refine wpAny_newList ?_
  have I3:Inv X pins σ (upd H s.heap.objs.size (.lst [])) { s with heap:=s.heap.push { cls:=.type "list",data:=.seq ([]:List Value).toArray } }:=I.lnew (its:=[]) (ys:=[]) (t':=s.toks) .nil (Nat.zero_le _)
  have f3:∀ b ∈ fp,ug X pins (upd H s.heap.objs.size (.lst [])) b:=fun b hb=>⟨by rw [jk (Nat.ne_of_lt (hlt b hb))]; exact (hf b hb).1,(hf b hb).2⟩
  have hsz3:(s.heap.push { cls:=.type "list",data:=.seq ([]:List Value).toArray }).objs.size=s.heap.objs.size + 1:=Heap.size_push ..
  refine JS ?_
  dsimp only
  obtain ⟨h₁,e₁⟩:∃ h₁,h₁=pushCells ((s.heap.push { cls:=.type "list",data:=.seq ([]:List Value).toArray }).push { cls:=.type "dict",data:=.dict #[] }) sc.names:=⟨_,rfl⟩
  rw [<- e₁]
  have hns₁:h₁.Ns (s.heap.push { cls:=.type "list",data:=.seq ([]:List Value).toArray }).objs.size fun _=>none:=by
    rw [e₁]
    exact jhF _ (Heap.Ns.new ..)
  have old:∀ b o,(s.heap.push { cls:=.type "list",data:=.seq ([]:List Value).toArray }).get? b=some o->h₁.get? b=some o:=fun b o e=>by
    rw [e₁]
    exact pushCells_keeps _ _ _ _ (Heap.get?_push_of_some _ e)
  have cel₁:∀ x c,(cellsFrom ((s.heap.push { cls:=.type "list",data:=.seq ([]:List Value).toArray }).objs.size + 1) sc.names (uf sc X.env)).lookup x=some c->∃ v,h₁.IsCell c v:=fun x c e=>by
    rw [e₁]
    refine UH sc.names _ (uf sc X.env) (fun y d q=>?_) (by rw [Heap.size_push]; exact e)
    obtain ⟨v,hv⟩:=I3.cell y d (Ju I3 ho S q)
    exact ⟨v,hv.keeps fun b o e=>Heap.get?_push_of_some _ e⟩
  have lt3:∀ b ∈ fp,b < (s.heap.push { cls:=.type "list",data:=.seq ([]:List Value).toArray }).objs.size:=fun b hb=>by rw [hsz3]; exact Nat.lt_succ_of_lt (hlt b hb)
  have I4:=jfx (own:=own) (fr:=fr) (js:=js) (tk:=s.toks) I3 ho S hj f3 lt3 hns₁ old cel₁
  have st4:tn 0 h₁:=T.keep _ _ _ st fun b _ o e=>old b o (Heap.get?_push_of_some _ e)
  have fpX:∀ {H':Hp},(∀ b ∈ fp,H' b=none)->∀ b ∈ fp,ug (jQ X (own ++ fr) sc { s with heap:=s.heap.push { cls:=.type "list",data:=.seq ([]:List Value).toArray } } (upd H s.heap.objs.size (.lst [])) fp) [] H' b:=fun hn b hb =>
    ⟨hn b hb,Nat.ne_of_lt (lt3 b hb),fun hm=>by
      rcases List.mem_cons.mp (I.stkSub b hm) with z | z
      · exact (hf b hb).2.1 z
      · exact (hf b hb).2.2.1 z,.inl hb,fun x c e=>(jbO I3 ho S e).elim (fun z=>(hf b hb).2.2.2.2.1 x c z) (fun z=>Nat.ne_of_gt (Nat.lt_trans (lt3 b hb) z)),fun p hp=>absurd (show p ∈ ([]:List (Addr × Obj)) from hp) (by simp)⟩
  have loop:∀ s₃:Shared,s₃={ s with heap:=h₁ } ->
      codeAny (model X.prog X.w) X.A (.compLoop (.ListComp elt [⟨target,iter,ifs,0⟩] sc pos) 0 (.ref it) (.ref s.heap.objs.size) (compEnvC sc (cellsFrom ((s.heap.push { cls:=.type "list",data:=.seq ([]:List Value).toArray }).objs.size + 1) sc.names (uf sc X.env)) (s.heap.push { cls:=.type "list",data:=.seq ([]:List Value).toArray }).objs.size X.env))
        (RR (.ref s.heap.objs.size) (s.heap.push { cls:=.type "list",data:=.seq ([]:List Value).toArray }).objs.size) s₃:=by
    rintro s₃ rfl
    refine UF (fun n s'=>∃ i xs σ' H',Inv (jQ X (own ++ fr) sc { s with heap:=s.heap.push { cls:=.type "list",data:=.seq ([]:List Value).toArray } } (upd H s.heap.objs.size (.lst [])) fp) [] σ' H' s'∧Xf (xH own.length js σ) σ'∧tn i s'.heap∧(∀ b ∈ fp,H' b=none)∧W i n xs H')
      ?_ m0 ⟨0,[],_,_,I4,Xf.refl _,st4,fun b hb=>(f3 b hb).1,w0⟩
    rintro n s5 ⟨i,xs,σ5,H5,I5,k5,st5,fr5,w5⟩
    have I5':=I5.weak (σ':=xH own.length js σ) k5.1.symm k5.2
    have hc':(jQ X (own ++ fr) sc { s with heap:=s.heap.push { cls:=.type "list",data:=.seq ([]:List Value).toArray } } (upd H s.heap.objs.size (.lst [])) fp).calm=true:=hc
    rcases turn i n xs H5 w5 with ⟨stop,qn⟩ | ⟨go,hz,N,hN,step⟩
    · refine thn (T.done (jQ X (own ++ fr) sc { s with heap:=s.heap.push { cls:=.type "list",data:=.seq ([]:List Value).toArray } } (upd H s.heap.objs.size (.lst [])) fp) rfl rfl rfl hc' i [] s5 _ H5 _ I5' (fpX fr5) st5 stop) fun r s6 hQQ=>?_
      obtain ⟨hr,I6⟩:=hQQ
      subst hr
      have B:=jdI I rfl (tk:=s.toks) hf I6
      refine fin _ _ H5 s6 B ?_ ?_ qn
      · refine I.fpOk ?_ I6.free
        show s.heap.objs.size<=(s.heap.push { cls:=.type "list",data:=.seq ([]:List Value).toArray }).objs.size
        rw [hsz3]
        exact Nat.le_succ _
      · obtain ⟨m,hm,_⟩:=I6.loc
        exact ⟨m,hm⟩
    · refine thn (T.item (jQ X (own ++ fr) sc { s with heap:=s.heap.push { cls:=.type "list",data:=.seq ([]:List Value).toArray } } (upd H s.heap.objs.size (.lst [])) fp) rfl rfl rfl hc' i [] s5 _ H5 _ I5' (fpX fr5) st5 go) fun r s6 hQQ=>?_
      obtain ⟨u,hr,h6⟩:=hQQ
      subst hr
      refine thn h6 fun _ s7 hQQ=>?_
      obtain ⟨x,H7,I7,r7,y7,st7,fr7⟩:=hQQ
      have I7':=I7.pinned (fpX fr7) (T.obj _ _ st7)
      have again:∀ {s9:Shared} {σ9:St} {H9:Hp} {ys:List V} {m':Nat},Inv (jQ X (own ++ fr) sc { s with heap:=s.heap.push { cls:=.type "list",data:=.seq ([]:List Value).toArray } } (upd H s.heap.objs.size (.lst [])) fp) ([] ++ Yn fp s7.heap) σ9 H9 s9 ->
          Xf (xH own.length js σ) σ9->m' < n->W (i + 1) m' ys H9->∃ m,m < n∧∃ i xs σ' H',Inv (jQ X (own ++ fr) sc { s with heap:=s.heap.push { cls:=.type "list",data:=.seq ([]:List Value).toArray } } (upd H s.heap.objs.size (.lst [])) fp) [] σ' H' s9∧Xf (xH own.length js σ) σ'∧tn i s9.heap∧(∀ b ∈ fp,H' b=none)∧W i m xs H':=fun {s9 σ9 H9 ys m'} I9 k9 hm w9=>by
        refine ⟨m',hm,i + 1,ys,σ9,H9,I9.unpinned,k9,T.keep _ _ _ st7 fun b hb o e=>(I9.pin (b,o) (List.mem_append_right _ (List.mem_append_right _ (vq hb e)))).1,fun b hb=>?_,w9⟩
        obtain ⟨o,e,d⟩:=T.obj _ _ st7 b hb
        exact (I9.pin (b,o) (List.mem_append_right _ (List.mem_append_right _ (vq hb e)))).2.1
      refine thn (hg _ _ _ _ s7 _ H7 x u _ I7' r7 (step x H7 y7)) fun _ s8 hQQ=>?_
      obtain ⟨σ8,H8,I8,k8,q8⟩:=hQQ
      refine thn (ht _ _ _ _ s8 σ8 H8 _ I8 q8) fun b s9 hQQ=>?_
      obtain ⟨H9,I9,q9⟩:=hQQ
      cases b with
      | false =>
        rw [if_neg (by simp)]
        rw [if_neg (by simp)] at q9
        obtain ⟨m',hm,w9⟩:=hN _ _ q9
        exact again I9 k8 hm w9
      | true =>
        rw [if_pos rfl]
        rw [if_pos rfl] at q9
        refine thn (he _ _ _ _ s9 σ8 H9 _ I9 q9) fun y s10 hQQ=>?_
        obtain ⟨v,H10,I10,r10,a10,n10⟩:=hQQ
        obtain ⟨m',hm,w10⟩:=hN _ _ n10
        refine thn (Vi _ s10 σ8 H10 (.ref s.heap.objs.size) [v] (.ref s.heap.objs.size) [y] (fun z H11=>z = .non∧H11=upd H10 s.heap.objs.size (.lst (xs ++ [v]))) I10 rfl (.cons r10 .nil) ⟨_,xs,v,rfl,rfl,a10,hz,rfl,rfl⟩) fun z s11 hQQ=>?_
        obtain ⟨z',H11,I11,_,_,e11⟩:=hQQ
        subst e11
        exact again I11 k8 hm w10
  exact codeAny_compStart_list (loop _ rfl) (T.self _ 0 _ _ _ st4 (loop _ rfl))
end
section
variable {X:Cx} {osc sc:Scope} {own fr:List Str} {js:List Nat} {elt target iter:Expr} {ifs:List Expr} {pos:Pos} {wi:TI} {g:TG} {tt:TT} {te:TE}
theorem jcp (hc:X.calm=true) (ho:X.env.scope=osc) (S:CompScope osc sc own fr) (hj:js.map (fun j=>X.N[j]?)=fr.map some) (hi:PI X target iter wi)
    (hg:∀ s₃ H₃ fp,PG (jQ X (own ++ fr) sc s₃ H₃ fp) target g) (ht:∀ s₃ H₃ fp,PIf (jQ X (own ++ fr) sc s₃ H₃ fp) ifs tt) (he:∀ s₃ H₃ fp,PE (jQ X (own ++ fr) sc s₃ H₃ fp) elt te)
    (hs:∀ x,foldedSetIterable iter X.env x=pure x:=by intro _; rfl):PE X (.ListComp elt [⟨target,iter,ifs,0⟩] sc pos) (jbX wi own.length js g tt te):=by
  intro pins s σ H Q I h
  rw [eval_ListComp]
  refine wpAny_comprehension_free (use:=none) rfl hs (jbJ (cl_ok I ho S)) S.kind S.loc (thn (hi pins s σ H _ I h) fun v s1 h1=>thn h1 fun itv s2 h2=>?_)
  obtain ⟨it,fp,tn,J,H2,e,I2,T,st2,f2,q2⟩:=h2
  subst e
  refine jdH (RR:=fun acc C=>compPost (model X.prog X.w) X.A X.xe none (EP X pins σ Q) acc C) hc ho S hj hg ht he I2 T st2 f2 q2 fun acc C H' s' J hC hn q=>?_
  obtain ⟨m,hm⟩:=hn
  refine ⟨m,hm,fun h' hs'=>⟨.ref acc,H',?_,rfl,q⟩⟩
  obtain ⟨f0,f1,f2',f3,f4,f5⟩:=hC
  exact J.turned (t':=s'.toks) (fun b o hb e=>hs'.extBut b o hb e) f0 f1 f3 f4 f5
end
end L2

namespace L2
open PySem PySem.Spec PyProof.Rows
section
variable {X:Cx}
theorem Uy:∀ {ns:List Int} {us:List Value},yg (ns.map V.int) us->IntsAre us ns:=fun h=>jby h
theorem JH:∀ {xs:List V} {us:List Value},yg xs us->∀ (j:Nat) (h:j < us.length),yh (xs.getD j .non) us[j]
  | _,_,.nil,j,h=>absurd h (Nat.not_lt_zero _)
  | _ :: _,_ :: _,.cons r t,0,_=>r
  | _ :: _,_ :: _,.cons r t,j + 1,h=>by
    have:=JH t j (Nat.lt_of_succ_lt_succ h)
    simpa using this
theorem VL {α:Type} (d:α) (f:α->Bool):∀ (bs:List α),((List.range bs.length).all fun i=>f (bs.getD i d))=bs.all f
  | []=>rfl
  | b :: r=>by
    rw [List.length_cons,List.range_succ_eq_map,List.all_cons,List.all_map,List.all_cons]
    have ih:=VL d f r
    rw [<- ih]
    rfl
theorem jdP (hc:X.calm=true):yU X (.builtin "all") (fun xs H Q=>∃ (p:Addr) (bs:List Bool),xs=[.ref p]∧SqL X.K H p (bs.map V.bl)∧Q (.bl (bs.all id)) H):=by
  intro pins s σ H xs us Q I r h
  obtain ⟨p,bs,rfl,hq,q⟩:=h
  obtain ⟨u,rfl,rx⟩:=Xi r
  cases rx
  obtain ⟨its,r',pl,hz⟩:=I.list hq
  have hlen:=r'.length
  rw [List.length_map] at hlen
  have hlt:p < s.heap.objs.size:=by obtain ⟨_,e,_⟩:=pl.isList; exact Heap.lt_size e
  refine call_all_walk (wpAny_pyIter_list pl.isList ?_)
  refine ⟨_,_,_,_,_,_,fun i=>id (bs.getD i true),rfl,Walks.list (A:=X.A.in1) (I.ok.hd hc) _ p (Nat.ne_of_lt hlt) its.toArray,⟨⟨_,Heap.get?_push_size _ rfl,rfl,rfl⟩,pl.isList.push _⟩,?_,fun h' tk hk=>?_⟩
  · intro i v s' Q' E' hP hQ
    have hi:i < its.length:=by
      have:=(Array.getElem?_eq_some_iff.mp hP).1
      simpa using this
    have hv:v=its[i]:=by
      have:=(Array.getElem?_eq_some_iff.mp hP).2
      simpa using this.symm
    have rv:=JH r' i hi
    have e:(bs.map V.bl).getD i .non=V.bl (bs.getD i true):=by
      rw [List.getD_eq_getElem?_getD,List.getD_eq_getElem?_getD,List.getElem?_map,List.getElem?_eq_getElem (by omega)]
      rfl
    rw [e] at rv
    have rv:its[i]=Value.bool (bs.getD i true):=rv
    rw [hv,rv]
    exact wpAny_truthy_bool hQ
  · have e:((List.range its.toArray.size).all fun i=>id (bs.getD i true))=bs.all id:=by
      rw [List.size_toArray,<- hlen]
      exact VL true id bs
    rw [e]
    exact ⟨.bl _,H,I.kept (old_kept hk),rfl,q⟩
def jaA:List V->List V->Bool
  | [],[]=>true
  | x :: xs,y :: ys=>eqV x y && jaA xs ys
  | _,_=>false
theorem jaz:∀ {xs ys:List V},xs.length≠ys.length->jaA xs ys=false
  | [],[],h=>absurd rfl h
  | [],_ :: _,_=>rfl
  | _ :: _,[],_=>rfl
  | x :: xs,y :: ys,h=>by
    have:jaA xs ys=false:=jaz fun e=>h (by simp [e])
    simp [jaA,this]
theorem YG:∀ {xs ys:List V},xs.length=ys.length->((List.range xs.length).all fun i=>eqV (xs.getD i .non) (ys.getD i .non))=jaA xs ys
  | [],[],_=>rfl
  | x :: xs,y :: ys,h=>by
    rw [List.length_cons,List.range_succ_eq_map,List.all_cons,List.all_map]
    have ih:=YG (xs:=xs) (ys:=ys) (by simpa using h)
    show (eqV x y && _)=(eqV x y && jaA xs ys)
    rw [<- ih]
    rfl
  | [],_ :: _,h=>by simp at h
  | _ :: _,[],h=>by simp at h
theorem Vu {xs:List V} (h:xs.all JA=true) (i:Nat):JA (xs.getD i .non)=true:=by
  rw [List.getD_eq_getElem?_getD]
  cases e:xs[i]? with
  | none=>rfl
  | some v=>exact List.all_eq_true.mp h v (List.mem_of_getElem? e)
def rEqL (K:PySem.W.Frag) (neg:Bool):R2:=fun x y H Q=>∃ a b xs ys,x = .ref a∧y = .ref b∧SqL K H a xs∧SqL K H b ys∧xs.all JA=true∧ys.all JA=true∧Q (.bl (if neg then !jaA xs ys else jaA xs ys)) H
theorem jfo {pins:List (Addr × Obj)} {s:Shared} {σ:St} {H:Hp} {a b:Addr} {xs ys:List V} (I:Inv X pins σ H s) (ha:SqL X.K H a xs) (hb:SqL X.K H b ys) (fx:xs.all JA=true) (fy:ys.all JA=true) :
    ∃ items items2:Array Value,s.heap.IsList a items∧s.heap.IsList b items2∧items.size=xs.length∧items2.size=ys.length ∧
      ∀ A j (h1:j < items.size) (h2:j < items2.size),SeqAt.EqAt A s items[j] items2[j] (eqV (xs.getD j .non) (ys.getD j .non)):=by
  obtain ⟨its,r,pl,hz⟩:=I.list ha
  obtain ⟨its2,r2,pl2,hz2⟩:=I.list hb
  refine ⟨its.toArray,its2.toArray,pl.isList,pl2.isList,by simp [r.length],by simp [r2.length],fun A j h1 h2=>?_⟩
  have q1:=JH r j (by simpa using h1)
  have q2:=JH r2 j (by simpa using h2)
  have:=eqAt_V (A:=A) (s:=s) q1 q2 (Vu fx j) (Vu fy j)
  simpa using this
theorem op_neL (hu:X.A.units < cLine):OpR X (compareOp .NotEq) (rEqL X.K true):=by
  intro pins s σ H x y v u Q I rx ry h
  obtain ⟨a,b,xs,ys,rfl,rfl,ha,hb,fx,fy,q⟩:=h
  cases rx
  cases ry
  obtain ⟨items,items2,l1,l2,s1,s2,he⟩:=jfo I ha hb fx fy
  by_cases hl:xs.length=ys.length
  · refine SeqAt.RcNeAt.lists l1 l2 (by omega) hu (fun j h1 h2=>he _ j h1 h2) _ _ _ _ ⟨.bl _,H,I,rfl,?_⟩
    rw [s1,YG hl]
    exact q
  · refine SeqAt.RcNeAt.lists_lengths l1 l2 (by simp; omega) hu _ _ _ _ ⟨.bl _,H,I,rfl,?_⟩
    rw [jaz hl] at q
    exact q
end
end L2

namespace L2
open PySem PySem.Spec PyProof.Rows
theorem xB:bootBuiltins "len" = some (.builtin "len"):=by decide +kernel
theorem jgw:bootBuiltins "all" = some (.builtin "all"):=by decide +kernel
theorem jH:bootBuiltins "isinstance" = some (.builtin "isinstance"):=by decide +kernel
theorem jgv:bootBuiltins "int" = some (.type "int"):=by decide +kernel
theorem jcM:bootBuiltins "bool" = some (.type "bool"):=by decide +kernel
theorem UK:bootBuiltins "list" = some (.type "list"):=by decide +kernel
theorem jgu:bootBuiltins "tuple" = some (.type "tuple"):=by decide +kernel
theorem bt_str:bootBuiltins "str" = some (.type "str"):=by decide +kernel
structure Bl (mg:Str->Option Value):Prop where
  no:∀ x ∈ (["len","sorted","min","max","sum","all","isinstance","int","bool","list","tuple","range"]:List Str),mg x=none
namespace Bl
variable {mg:Str->Option Value}
end Bl
structure Cal (P:Program) (w:World) (K:PySem.W.Frag) (mg:Str->Option Value) (base:Heap) (x:Str) (j:Nat) (ps:List Str) (sp:Sp):Prop where
  ex:∃ f fd,FnOk P w K mg base CX0 j f fd ps sp∧mg x=some (.ref f)∧PySem.W.keepIn K (.ref f)=true∧jcS K fd ps []
def g11 {α:Type} (us ws:List α):List α:=match us,ws with
  | [a],[b]=>[a,b]
  | _,_=>[]
structure CalK (P:Program) (w:World) (K:PySem.W.Frag) (mg:Str->Option Value) (base:Heap) (x:Str) (j:Nat) (ps ks:List Str) (sp:Sp):Prop where
  ex:∃ f fd,FnOk P w K mg base CX0 j f fd ps sp∧mg x=some (.ref f)∧PySem.W.keepIn K (.ref f)=true∧KBinds K fd ps ks g11 g11
section
variable {X:Cx} {x:Str} {j:Nat} {ps ks:List Str} {sp:Sp} {p pos:Pos} {e:Expr} {es:List Expr} {t tk:TA} {kws:List Keyword}
end
theorem hu0 {A:Around} {k:Nat} (hr:Room k A):A.units < cLine:=hr.units0
def But (bs:List Addr) (H H':Hp):Prop:=∀ b o,H b=some o->b ∉ bs->H' b=some o
end L2

namespace L2
open PySem PySem.Spec PyProof.Rows
end L2

namespace L2
open PySem PySem.Spec PyProof.Rows
section
variable {X:Cx}
end
end L2

namespace L2
open PySem PySem.Spec PyProof.Rows
section
variable {P:Program} {w:World} {H:Hp} {h h':Heap} {a:Addr} {o:HO}
theorem yr.there (x:yr P w H h a o):∃ u,h.get? a=some u:=by
  cases o with
  | lst xs =>
    obtain ⟨_,_,_,_,e⟩:=x
    exact ⟨_,e⟩
  | tup xs =>
    obtain ⟨_,_,_,p⟩:=x
    obtain ⟨ob,e,_⟩:=p
    exact ⟨_,e⟩
  | dK kvs =>
    obtain ⟨_,_,_,_,ob,_,_,e,_⟩:=x
    exact ⟨_,e⟩
  | dT kvs =>
    obtain ⟨_,_,_,_,ob,_,_,e,_⟩:=x
    exact ⟨_,e⟩
  | set S n =>
    obtain ⟨ob,_,_,_,e,_⟩:=x
    exact ⟨_,e⟩
  | ins C dx fs =>
    obtain ⟨_,_,_,e,_⟩:=x
    exact ⟨_,e⟩
  | own y=>exact x
  | xd fs =>
    obtain ⟨_,⟨_,_,_,e,_⟩,_⟩:=x
    exact ⟨_,e⟩
  | rng lo hi =>
    obtain ⟨_,_,_,e⟩:=x
    exact ⟨_,e⟩
  | frz ob u =>
    obtain ⟨e,_⟩:=x
    exact ⟨_,e⟩
  | tbl ps=>exact ⟨_,x⟩
  | met f y=>exact ⟨_,x⟩
  | ext φ=>exact x.2.1
theorem HOk.moved (x:HOk P w H h) (k:∀ b o u,H b=some o->h.get? b=some u->h'.get? b=some u):HOk P w H h':=fun a o e =>
  (x a o e).stay (fun b u hb q=>by
    rcases hb with rfl | hb
    · exact k _ _ u e q
    · exact k _ _ u hb q) (fun _ z=>z) fun _ _ z=>z
end
def CX1 (P:Program) (w:World):CXT:=fun outer H s E e s'=>∃ (ea C:Addr) (a0:Value) (H':Hp) (B:Heap),e = .ref ea∧s'.os=s.os∧AllBare s'.gens∧Heap.FlyingW B outer ea (.ref C) a0 s'.heap ∧
  (∀ b o,s.heap.get? b=some o->H b=none->b ∉ frs outer->B.get? b=some o)∧(∀ b o,s.heap.get? b=some o->b ∉ frs outer->∃ o',B.get? b=some o') ∧
  (∀ b o,H' b=some o->∃ u,B.get? b=some u)∧Un (frs outer) [] H H' s.heap s'.heap∧HOk P w H' s'.heap∧E (.ref C) none H'
theorem CX1.step {P:Program} {w:World} {outer:List Env} {H₀ H':Hp} {s₀ s':Shared} {h h'':Heap} {B:Heap} {ea C:Addr} {a0:Value} {E:XK} (ho:s'.os=s₀.os) (hb:AllBare s'.gens)
    (fl:Heap.FlyingW B outer ea (.ref C) a0 h'') (up:h.UpToSlots h'') (st:B.StaysIn h) (hfr:∀ b ∈ frs outer,H₀ b=none) (hff:∀ b ∈ frs outer,∀ o,h.get? b=some o->∀ vs,o.data≠.fields vs)
    (k1:∀ b o,s₀.heap.get? b=some o->H₀ b=none->b ∉ frs outer->B.get? b=some o) (k2:∀ b o,s₀.heap.get? b=some o->b ∉ frs outer->∃ o',B.get? b=some o')
    (k3:∀ b o,H' b=some o->∃ u,B.get? b=some u) (u:Un (frs outer) [] H₀ H' s₀.heap h) (hok:HOk P w H' h) (q:E (.ref C) none H'):CX1 P w outer H₀ s₀ E (.ref ea) { s' with heap:=h'' }:=by
  have slot:∀ b o,s₀.heap.get? b=some o->H₀ b=none->b ∈ frs outer->∃ sl,h''.get? b=some { o with slots:=sl }:=fun b o e n hm=>by
    obtain ⟨sl,e1⟩:=u.slot b o e n hm (by simp)
    obtain ⟨sl',e2⟩:=up b _ e1 (hff b hm _ e1)
    exact ⟨sl',e2⟩
  refine ⟨ea,C,a0,H',B,rfl,ho,hb,fl,k1,k2,k3,⟨fun b o e n hm _=>fl.1 b o (k1 b o e n hm),fun b o e n hm _=>slot b o e n hm,u.free,fun b o e _=>?_,u.tups,u.frzs,u.tbls⟩,?_,q⟩
  · by_cases hm:b ∈ frs outer
    · obtain ⟨sl,e2⟩:=slot b o e (hfr b hm) hm
      exact ⟨_,e2⟩
    · obtain ⟨o',e2⟩:=k2 b o e hm
      exact ⟨o',fl.1 b o' e2⟩
  · refine hok.moved fun b o u' e q'=>?_
    obtain ⟨u2,e2⟩:=k3 b o e
    have e3:=st b u2 e2
    rw [q'] at e3
    cases e3
    exact fl.1 b _ e2
section
variable {P:Program} {w:World} {K:PySem.W.Frag} {mg:Str->Option Value} {base:Heap} {N:List Str} {qual:Str} {scope:Scope} {f:Addr} {cd:Value} {A:Around} {outer:List Env} {s₀:Shared} {H₀:Hp} {E:XK}
theorem JP {b:Addr} {o:Obj} (e:s₀.heap.get? b=some o) (hm:b ∉ frs outer):b ∉ frs (envOfC qual scope s₀.heap.objs.size f cd :: outer):=fun hb=>by
  have hb:b ∈ s₀.heap.objs.size :: frs outer:=hb
  rcases List.mem_cons.mp hb with rfl | hb
  · exact Nat.lt_irrefl _ (Heap.lt_size e)
  · exact hm hb
theorem jgq {pins:List (Addr × Obj)} {σ:St} {H:Hp} {s:Shared} {e C:Addr} {us:List Value} {h':Heap} (I:Inv (vA (CX1 P w) P w K mg base N qual scope f cd A outer s₀ H₀ E) pins σ H s)
    (hx:Heap.MadeExcOf s.heap h' e (.ref C) us) (q:E (.ref C) none H):(vA (CX1 P w) P w K mg base N qual scope f cd A outer s₀ H₀ E).xe (.ref e) { s with heap:=h' }:=by
  have hst:s.heap.FunFrames base (envOfC qual scope s₀.heap.objs.size f cd :: outer):=I.stack
  have hin:∀ env ∈ (envOfC qual scope s₀.heap.objs.size f cd :: outer),∀ b,env.frame=some b->b ∈ frs (envOfC qual scope s₀.heap.objs.size f cd :: outer):=fun env he b hb=>List.mem_filterMap.mpr ⟨env,he,hb⟩
  have hide:=PySem.W.funFrames_hide hst hin
  refine wpAny_leaves_madeW (base:=PySem.W.hideAll s.heap (frs (envOfC qual scope s₀.heap.objs.size f cd :: outer))) (s:={ s with heap:=h' }) I.ok.frames rfl (fun b o z=>PySem.W.of_hideAll _ z) hide hx fun h'' t fl _ _ up=>?_
  have kB:∀ b o,s.heap.get? b=some o->b ∉ frs (envOfC qual scope s₀.heap.objs.size f cd :: outer)->(PySem.W.hideAll s.heap (frs (envOfC qual scope s₀.heap.objs.size f cd :: outer))).get? b=some o:=fun b o z n=>PySem.W.hideAll_get _ z n
  have ub:Un (frs outer) [] H₀ H s₀.heap s.heap:=I.base
  have bsx:∀ b o,s₀.heap.get? b=some o->H₀ b=none->b ∉ frs outer->s.heap.get? b=some o:=fun b o z n hm=>ub.keep b o z n hm (by simp)
  refine CX1.step (s':=s) (h:=s.heap) I.os I.bare fl (fun b o z nf=>up b o (hx.keeps b o z) nf) (fun b o z=>PySem.W.of_hideAll _ z) I.ok.frf (fun b hb o z=>?_) (fun b o z n hm=>kB b o (bsx b o z n hm) (JP z hm)) (fun b o z hm=>?_) (fun b o z=>?_) ub I.hok q
  · obtain ⟨_,o',e1,e2⟩:=hst.mem (b:=b) (List.mem_cons_of_mem _ hb)
    rw [z] at e1
    cases e1
    exact e2
  · obtain ⟨o',e1⟩:=ub.there b o z (by simp)
    exact ⟨o',kB b o' e1 (JP z hm)⟩
  · obtain ⟨u,e1⟩:=(I.hok b o z).there
    refine ⟨u,kB b u e1 fun hm=>?_⟩
    have:=I.stkFree b hm
    rw [z] at this
    cases this
theorem jie:Passes (CX1 P w) (vA (CX1 P w) P w K mg base N qual scope f cd A outer s₀ H₀ E) E:=by
  intro pins σ H s e s' I h
  obtain ⟨ea,C,a0,H',B,rfl,ho,hb,fl,k1,k2,k3,u,hok,q⟩:=h
  have ub:Un (frs outer) [] H₀ H s₀.heap s.heap:=I.base
  have fl:Heap.FlyingW B (envOfC qual scope s₀.heap.objs.size f cd :: outer) ea (.ref C) a0 s'.heap:=fl
  have u:Un (frs (envOfC qual scope s₀.heap.objs.size f cd :: outer)) [] H H' s.heap s'.heap:=u
  have J:=I.call' ho u hok hb (ch:=[]) (fun b hb=>by simp at hb)
  have uj:Un (frs outer) [] H₀ H' s₀.heap s'.heap:=J.base
  have ofr:∀ b ∈ frs outer,b ∈ frs (envOfC qual scope s₀.heap.objs.size f cd :: outer):=fun b hb=>List.mem_cons_of_mem _ hb
  refine wpAny_leaves_onW I.ok.frames rfl fl fun h' fl' up=>?_
  refine CX1.step (s':=s') (h:=s'.heap) (ho.trans I.os) hb fl' up fl.1 I.ok.frf (fun b hb o z=>?_) (fun b o z n hm=>k1 b o (ub.keep b o z n hm (by simp)) (ub.free b o z n (by simp)) (JP z hm)) (fun b o z hm=>?_) k3 uj hok q
  · obtain ⟨_,o',e1,e2⟩:=fl.2.2.1.mem (b:=b) (ofr b hb)
    rw [z] at e1
    cases e1
    exact e2
  · obtain ⟨o',e1⟩:=ub.there b o z (by simp)
    exact k2 b o' e1 (JP z hm)
end
theorem Fun.okX {P:Program} {w:World} {K:PySem.W.Frag} {mg:Str->Option Value} {base:Heap} {x qual:Str} {st:Stmt} {f:Addr} {fd:FuncData} {N ps:List Str} {k:Nat} {sp:Sp} (F:Fun K x qual st f fd) (S:FnScope N ps (jc st)) (len:∀ vs H Q E,sp vs H Q E->vs.length=ps.length)
    (hbody:∀ (cdv:Value) (A:Around) (outer:List Env) (s:Shared) (H:Hp) (vs:List V) (Q:VK) (E:XK),Room k (A.deeper (envOfC qual (jc st) s.heap.objs.size f cdv))->sp vs H Q E ->
      ∃ t,PSs (vA (CX1 P w) P w K mg base N qual (jc st) f cdv A outer s H E) (ji st) t∧t { nx:=fun _ H'=>Q .non H',rt:=Q } (start N vs) H):FnOk P w K mg base (CX1 P w) (k + 1) f fd ps sp:=by
  obtain ⟨oc,od,kV,doc,pm,an,cdv,ct,osl,rfl,lk,hcd⟩:=F.ex
  exact jiG lk hcd S len fun A outer s H vs Q E hr hsp=>hbody cdv A outer s H vs Q E hr hsp
end L2

namespace L2
open PySem PySem.Spec PyProof.Rows
def tFmtI (tv:TE):TE:=fun σ H Q=>tv σ H fun x H1=>∃ i:Int,x = .int i∧i.natAbs.log2 < 1920∧Q (.str (toString i)) H1
abbrev TJ:=St->Hp->Str->(Str->Hp->Prop)->Prop
def PJ (X:Cx) (es:List Expr) (t:TJ):Prop :=
  ∀ (pins:List (Addr × Obj)) (s:Shared) (σ:St) (H:Hp) (out:Str) (Q:Str->Hp->Prop),Inv X pins σ H s->t σ H out Q ->
    wpAny (model X.prog X.w) X.A (joinParts out (evalEach es X.env)) (EP X pins σ fun v H'=>∃ z,v = .str z∧Q z H') X.xe s
def tjNil:TJ:=fun _ H out Q=>out.length<=sizeLine∧Q out H
def tjCons (te:TE) (tr:TJ):TJ:=fun σ H out Q=>te σ H fun x H1=>∃ y,x = .str y∧(out ++ y).length<=sizeLine∧tr σ H1 (out ++ y) Q
def tFstr (t:TJ):TE:=fun σ H Q=>t σ H Str.empty fun z H1=>Q (.str z) H1
section
variable {X:Cx} {e e2:Expr} {es:List Expr} {te tv:TE} {t:TJ} {pos:Pos}
theorem jhv (hv:PE X e tv):PE X (.FormattedValue e (-1) none pos) (tFmtI tv):=by
  intro pins s σ H Q I h
  refine FormattedValue_plain (thn (hv pins s σ H _ I h) fun v s1 hQQ=>?_)
  obtain ⟨x,H1,I1,r1,i,ei,hi,q⟩:=hQQ
  subst ei
  obtain ⟨tk,rfl⟩:=(show ∃ tk,v=Value.int i tk from r1)
  exact formatField_int_small hi ⟨.str (toString i),H1,I1.tok _,⟨_,rfl⟩,q⟩
theorem pj_nil:PJ X [] tjNil:=fun pins s σ H out Q I h=>joinParts_nil ⟨.str out,H,I.tok _,⟨_,rfl⟩,out,rfl,h.2⟩ h.1
theorem jcl (he:PE X e te) (hr:PJ X es t) (hs:evalEach (e :: es) X.env=eval e X.env :: evalEach es X.env:=by rfl):PJ X (e :: es) (tjCons te t):=by
  intro pins s σ H out Q I h
  rw [hs]
  refine joinParts_cons (thn (he pins s σ H _ I h) fun v s1 hQQ=>?_)
  obtain ⟨x,H1,I1,r1,y,ey,hz,q⟩:=hQQ
  subst ey
  obtain ⟨tk,rfl⟩:=(show ∃ tk,v=Value.str y tk from r1)
  exact ⟨hz,hr pins s1 σ H1 _ Q I1 q⟩
theorem jhu (h:PJ X (e :: e2 :: es) t) (hs:evalEach (e :: e2 :: es) X.env=eval e X.env :: eval e2 X.env :: evalEach es X.env:=by rfl):PE X (.JoinedStr (e :: e2 :: es) pos) (tFstr t):=by
  intro pins s σ H Q I q
  refine JoinedStr_many ?_
  rw [<- hs]
  refine thn (h pins s σ H Str.empty _ I q) fun v s1 hQQ=>?_
  obtain ⟨x,H1,I1,r1,z,ez,q1⟩:=hQQ
  subst ez
  exact ⟨_,H1,I1,r1,q1⟩
end
abbrev jdQ:List Value:=[.type "ValueError",.type "Exception",.type "BaseException",.type "object"]
theorem jia {K:PySem.W.Frag} {h:Heap} {C:Addr} {bmB:List Value} {newId:String} (KX:K.In h) (hq:PySem.W.excIn K C bmB newId=true) :
    ∃ (tl:List Value) (Nn:Addr) (n1 n2:Str) (bs:List Value) (b1:Bool) (sn:List Str) (sub:List Value) (b2:Bool) (col:Option Bool) (dd:Option Addr) (j0 j1 j2 j3 j5:Option Value) (mN:Str->Option Value),
      h.get? C=some (excClassObj n1 n2 C Nn bs tl b1 sn sub b2 col dd j0 j1 j2 j3 j5 newId)∧h.Ns Nn mN∧mN "__init__" = none∧OwnTail h bmB tl:=by
  unfold PySem.W.excIn at hq
  split at hq
  case h_2=>cases hq
  case h_1 dd cdat slots look =>
    split at hq
    case h_2=>cases hq
    case h_1 C2 tl j0 j1 j2 j3 idn j5 emro eslots =>
      simp only [Bool.and_eq_true,beq_iff_eq,Bool.not_eq_true'] at hq
      obtain ⟨⟨⟨⟨⟨z1,z2⟩,z3⟩,z4⟩,z5⟩,z6⟩:=hq
      subst z1
      subst z2
      obtain ⟨n1,bs,mr,nsa,n2,b1,sn,sub,b2,col,b3⟩:=cdat
      have z3':b3=false:=z3
      have em:mr = .ref C2 :: tl:=emro
      subst z3'
      subst em
      have es:slots = #[j0,j1,j2,j3,some (.builtin idn),j5]:=by
        cases slots with
        | mk l =>
          have:l=[j0,j1,j2,j3,some (.builtin idn),j5]:=eslots
          rw [this]
      subst es
      refine ⟨tl,nsa,n1,n2,bs,b1,sn,sub,b2,col,dd,j0,j1,j2,j3,j5,h.nsMap nsa,KX _ _ look,?_⟩
      exact ⟨.of_isNs (PySem.W.isNs_of_in KX z5),PySem.W.nsMap_none_of_in KX z5 z6,PySem.W.tail_of_in KX z4⟩
structure Exc (K:PySem.W.Frag) (mg:Str->Option Value) (x:Str) (C:Addr):Prop where
  at_:mg x=some (.ref C)
  ex:PySem.W.excIn K C jdQ "ValueError.__new__" = true
def tRaise (C:Addr) (E:XK) (t:TA):TS:=fun _ σ H=>t σ H fun vs H1=>vs.length<=sizeLine∧E (.ref C) none H1
theorem jeG {P:Program} {w:World} {K:PySem.W.Frag} {mg:Str->Option Value} {base:Heap} {N:List Str} {qual:Str} {scope:Scope} {f:Addr} {cd:Value} {A:Around} {outer:List Env} {s₀:Shared} {H₀:Hp} {E:XK}
    {x:Str} {C:Addr} {np cpos pos:Pos} {e:Expr} {es:List Expr} {t:TA} (hC:Exc K mg x C) (hg:Gl (vA (CX1 P w) P w K mg base N qual scope f cd A outer s₀ H₀ E) x) (ha:PA (vA (CX1 P w) P w K mg base N qual scope f cd A outer s₀ H₀ E) (e :: es) t)
    (hdb:(x == ("__debug__":Str))=false:=by decide)
    (he:starEach (e :: es) (envOfC qual scope s₀.heap.objs.size f cd)=(false,eval e (envOfC qual scope s₀.heap.objs.size f cd)) :: starEach es (envOfC qual scope s₀.heap.objs.size f cd):=by rfl)
    (hpl:(backTo cpos (starEach es (envOfC qual scope s₀.heap.objs.size f cd))).any (·.1)=false:=by rfl) :
    PS (vA (CX1 P w) P w K mg base N qual scope f cd A outer s₀ H₀ E) (.Raise (some (.Call (.Name x np) (e :: es) [] cpos)) none pos) (tRaise C E t):=by
  intro pins s σ H D I h
  obtain ⟨tl,Nn,n1,n2,bs,b1,sn,sub,b2,col,dd,j0,j1,j2,j3,j5,mN,o1,o2,o3,o4⟩:=jia I.ok.mod.kin hC.ex
  refine wpAny_Raise_call_subT (C:=C) (nm:=n1) (q:=n2) (N:=Nn) (bs:=bs) (bm:=tl) (hdct:=b1) (sn:=sn) (sub:=sub) (ab:=b2) (col:=col) (dd:=dd) (k0:=j0) (k1:=j1) (k2:=j2) (k3:=j3) (k5:=j5) PySem.F.excBase_ValueError
    (mN:=mN) (o4.hasType PySem.F.excBase_ValueError.hasBase) (I.ok.hd rfl) (by
      show (backTo cpos (starEach (e :: es) (envOfC qual scope s₀.heap.objs.size f cd))).any (·.1)=false
      rw [he]
      show (false || (backTo cpos (starEach es (envOfC qual scope s₀.heap.objs.size f cd))).any (·.1))=false
      rw [hpl]
      rfl) o3 (JO I hg hC.at_ ⟨rfl,?_⟩ hdb)
  have hp:=ha cpos pins s σ H _ I h
  have hp2:wpAny (model P w) (A.deeper (envOfC qual scope s₀.heap.objs.size f cd)) (spliced (backTo cpos (starEach (e :: es) (envOfC qual scope s₀.heap.objs.size f cd)))) _ _ s:=hp
  show wpAny (model P w) (A.deeper (envOfC qual scope s₀.heap.objs.size f cd)) (evalArgs (.ref C) true (backTo cpos (starEach (e :: es) (envOfC qual scope s₀.heap.objs.size f cd))) []) _ _ s
  rw [he] at hp2 ⊢
  refine Calls.evalArgs_plain (thn hp2 fun us s2 z=>?_)
  obtain ⟨vs,H1,I1,rv,hz,q⟩:=z
  refine ⟨rfl,by rw [<- rv.length]; exact hz,I1.bk _ _ o1,o2.keeps I1.bk,o4.keeps I1.bk,fun h' ea hx=>jgq I1 hx q⟩
end L2

namespace L2
open PySem PySem.Spec PyProof.Rows
def excO (ea C:Addr):HO:=.ext fun h=>∃ o vs,h.get? ea=some o∧o.cls = .ref C∧o.data = .fields vs
structure ExcK (K:PySem.W.Frag) (C:Addr):Prop where
  ga:PySem.W.findIn K (.ref C) "__getattribute__" = some (some (.builtin "BaseException.__getattribute__"))
  cl:PySem.W.findIn K (.ref C) "__class__" = some (some (.builtin "object.__class__"))
  ob:PySem.W.mroIn K C (.type "object")=some true
  be:PySem.W.mroIn K C (.type "BaseException")=some true
  isc:(PySem.W.clsIn K C).isSome=true
  gh:PySem.W.findIn K (.ref C) "__getattr__" = some none
section
variable {prog:Program} {w:World} {A:Around} {E:Value->Shared->Prop} {K:PySem.W.Frag} {x C:Addr} {h:Heap} {g:Array GenState} {d:Drawn} {t:Nat} {os:OsState}
end
end L2
namespace L2
open PySem PySem.Spec PyProof.Rows
end L2

namespace L2
open PySem PySem.Spec PyProof.Rows
def Prot (X:Cx) (pins:List (Addr × Obj)) (H:Hp) (b:Addr):Prop :=
  b=X.env.locals∨(∃ x,X.env.cells.lookup x=some b)∨(∃ p ∈ X.pn ++ pins,p.1=b)∨(∃ o,H b=some o)∨∃ o,X.s₀.heap.get? b=some o∧b ∉ X.ex
structure Fly (X:Cx) (pins:List (Addr × Obj)) (σ:St) (H:Hp) (B:Heap) (ea C:Addr) (a0:Value) (s:Shared):Prop where
  inv:Inv X pins σ H s
  fl:Heap.FlyingW B X.stack ea (.ref C) a0 s.heap
  kn:∀ b,Prot X pins H b->b ∉ frs X.stack->∃ o,B.get? b=some o
section
variable {X:Cx} {pins:List (Addr × Obj)} {σ:St} {H:Hp} {s:Shared} {B h':Heap} {ea C a:Addr} {a0:Value} {o:HO}
theorem Inv.track (I:Inv X pins σ H s) (np:¬ Prot X pins H a) (new:yr X.prog X.w (upd H a o) s.heap a o):Inv X pins σ (upd H a o) s:=by
  have hn:H a=none:=by
    cases q:H a with
    | none=>rfl
    | some u=>exact absurd (.inr (.inr (.inr (.inl ⟨u,q⟩)))) np
  refine ⟨I.ok,I.os,I.bare,⟨I.base.keep,I.base.slot,fun b ob e n hx=>?_,I.base.there,fun b xs e=>?_,fun b ob xs e=>?_,fun b ps e=>?_⟩,I.loc,I.cell,?_,fun x c e=>?_,fun p hp=>?_,fun b ob e=>?_,I.len⟩
  · rw [jk (fun z:b=a=>np (.inr (.inr (.inr (.inr ⟨ob,z ▸ e,z ▸ hx⟩)))))]
    exact I.base.free b ob e n hx
  · have q:=I.base.tups b xs e
    rw [jk (jv q hn)]
    exact q
  · have q:=I.base.frzs b ob xs e
    rw [jk (jv q hn)]
    exact q
  · obtain ⟨more,q⟩:=I.base.tbls b ps e
    exact ⟨more,by rw [jk (jv q hn)]; exact q⟩
  · rw [jk (fun z=>np (.inl z.symm))]
    exact I.free
  · rw [jk (fun z:c=a=>np (.inr (.inl ⟨x,z ▸ e⟩)))]
    exact I.freeC x c e
  · obtain ⟨q1,q2,q3⟩:=I.pin p hp
    exact ⟨q1,by rw [jk (fun z:p.1=a=>np (.inr (.inr (.inl ⟨p,hp,z⟩))))]; exact q2,q3⟩
  · by_cases hb:b=a
    · subst hb
      rw [jr] at e
      cases e
      exact new
    · rw [jk hb] at e
      exact (I.hok b ob e).stay (fun _ _ _ z=>z) (fun c z=>by rw [jk (jv z hn)]; exact z) fun c xs z=>by rw [jk (jv z hn)]; exact z
end
section
variable {X:Cx} {pins pins2:List (Addr × Obj)} {σ:St} {H:Hp} {s:Shared} {T:St->Addr->Hp->Prop} {ea:Addr}
end
def xn (CX:CXT) (X:Cx) (E:St->XK):Prop:=∀ (pins:List (Addr × Obj)) (σ:St) (H:Hp) (s:Shared) (e:Value) (s':Shared),Inv X pins σ H s->CX X.stack H s (E σ) e s'->X.xe e s'
section
variable {X:Cx} {body suite:List Stmt} {b₀:Stmt} {n x:Str} {i:Nat} {LC:Addr} {np hpos pos:Pos} {tb:(St->Addr->Hp->Prop)->TS} {th:TS}
end
section
variable {X:Cx} {CX:CXT} {k:Nat} {f:Addr} {fd:FuncData} {ps:List Str} {sp:Sp} {dvs:List V} {ds:List Value} {E:St->XK} {x:Str} {p pos:Pos} {e:Expr} {es:List Expr} {t:TA}
end
end L2

namespace L2
open PySem PySem.Spec PyProof.Rows
structure CalX (P:Program) (w:World) (K:PySem.W.Frag) (mg:Str->Option Value) (base:Heap) (x:Str) (j:Nat) (ps:List Str) (sp:Sp):Prop where
  ex:∃ f fd,FnOk P w K mg base (CX1 P w) j f fd ps sp∧mg x=some (.ref f)∧PySem.W.keepIn K (.ref f)=true∧jcS K fd ps []
structure CalKX (P:Program) (w:World) (K:PySem.W.Frag) (mg:Str->Option Value) (base:Heap) (x:Str) (j:Nat) (ps ks:List Str) (sp:Sp):Prop where
  ex:∃ f fd,FnOk P w K mg base (CX1 P w) j f fd ps sp∧mg x=some (.ref f)∧PySem.W.keepIn K (.ref f)=true∧KBinds K fd ps ks g11 g11
def sor (a b:Sp):Sp:=fun vs H Q E=>a vs H Q E∨b vs H Q E
section
variable {P:Program} {w:World} {K:PySem.W.Frag} {mg:Str->Option Value} {base:Heap} {CX:CXT} {k:Nat} {f:Addr} {fd:FuncData} {ps ks:List Str} {sp sp':Sp}
theorem FnOk.up (F:FnOk P w K mg base CX0 k f fd ps sp):FnOk P w K mg base CX k f fd ps sp :=
  ⟨F.len,fun A outer s H args us vs Q E hr he hb hv hs=>codeAny_mono (F.run A outer s H args us vs Q E hr he hb hv hs) fun r s' hq=>by
    match r,hq with
    | .ok (.ret u),hq=>exact hq
    | .error e,hq=>exact False.elim hq⟩
theorem FnOk.or (F:FnOk P w K mg base CX k f fd ps sp) (G:FnOk P w K mg base CX k f fd ps sp'):FnOk P w K mg base CX k f fd ps (sor sp sp') :=
  ⟨fun vs H Q E h=>h.elim (F.len vs H Q E) (G.len vs H Q E),fun A outer s H args us vs Q E hr he hb hv hs=>hs.elim (F.run A outer s H args us vs Q E hr he hb hv) (G.run A outer s H args us vs Q E hr he hb hv)⟩
variable {x qual:Str} {st:Stmt}
end
section
variable {X:Cx} {x:Str} {j:Nat} {ps ks:List Str} {sp:Sp} {p pos:Pos} {e:Expr} {es:List Expr} {t tk:TA} {kws:List Keyword} {E:XK} {ES:St->XK}
end
inductive Kn (H:Hp):V->String->Prop where
  | non:Kn H .non "NoneType"
  | bl (x:Bool):Kn H (.bl x) "bool"
  | int (i:Int):Kn H (.int i) "int"
  | str (x:Str):Kn H (.str x) "str"
  | lst {a:Addr} {xs:List V} (e:H a=some (.lst xs)):Kn H (.ref a) "list"
  | tup {a:Addr} {xs:List V} (e:H a=some (.tup xs)):Kn H (.ref a) "tuple"
  | dK {a:Addr} {kvs:List (Key × V)} (e:H a=some (.dK kvs)):Kn H (.ref a) "dict"
def yT:List String:=["NoneType","bool","int","str","list","tuple","dict"]
def sub (n m:String):Bool:=n == m || (n == "bool" && m == "int")
theorem jcu (K:PySem.W.Frag) {n m:String} (hn:n ∈ yT) (hm:m ∈ yT):PySem.W.kitOne K (.type n) (.type m)=some (sub n m):=by
  have tab:∀ n ∈ yT,∀ m ∈ yT,(Value.type n == Value.type m)=false->PySem.W.kitMeta m=true∧(fastBuiltinMro n).map (·.contains (.type m))=some (sub n m):=by decide +kernel
  have tab2:∀ n ∈ yT,∀ m ∈ yT,(Value.type n == Value.type m)=true->sub n m=true:=by decide +kernel
  unfold PySem.W.kitOne
  cases h:(Value.type n == Value.type m) with
  | true=>rw [if_pos rfl,tab2 n hn m hm h]
  | false =>
    obtain ⟨h1,h2⟩:=tab n hn m hm h
    rw [if_neg (by decide)]
    show (if PySem.W.kitMeta m=true then (fastBuiltinMro n).map (·.contains (.type m)) else none)=some (sub n m)
    rw [if_pos h1,h2]
section
variable {H H':Hp} {v:V} {n:String}
end
end L2

namespace L2
open PySem PySem.Spec PyProof.Rows
section
variable {X:Cx} {pos:Pos}
end
end L2
namespace L2
open PySem
end L2

namespace L2
open PySem PySem.Spec PyProof.Rows
structure FunD (K:PySem.W.Frag) (x qual:Str) (st:Stmt) (f:Addr) (fd:FuncData):Prop where
  ex:∃ (oc:Value) (od:Option Addr) (dV kV doc pm:Value) (an:Option Addr) (cdv ct:Value) (osl:Array (Option Value)),
    fd=PySem.W.fnOf x qual (jl st) (ji st) (jc st) dV kV doc pm an cdv ct∧K.lookup f=some ⟨oc,od,.func fd,osl⟩∧PySem.W.codeIn K cdv qual=true
  kp:PySem.W.keepIn K (.ref f)=true
section
variable {P:Program} {w:World} {K:PySem.W.Frag} {mg:Str->Option Value} {base:Heap} {x qual:Str} {st:Stmt} {f:Addr} {fd:FuncData} {N ps ks:List Str} {k:Nat} {sp sp':Sp}
end
end L2

namespace L2
open PySem PySem.Spec PyProof.Rows
section
variable {X:Cx} {CX:CXT} {k:Nat} {f C:Addr} {fd:FuncData} {ps ks:List Str} {sp:Sp} {E:XK} {x:Str} {p pos:Pos} {kws:List Keyword} {tk:TA} {g:List Value->List Value->List Value} {gV:List V->List V->List V}
end
structure CalN (P:Program) (w:World) (K:PySem.W.Frag) (mg:Str->Option Value) (base:Heap) (x:Str) (C:Addr) (j:Nat) (ps ks:List Str) (gV:List V->List V->List V) (sp:Sp):Prop where
  ex:∃ (f:Addr) (fd:FuncData) (g:List Value->List Value->List Value),FnOk P w K mg base CX0 j f fd ps sp∧Mk K C f∧KBinds K fd ps ks g gV∧mg x=some (.ref C)
structure CalM (P:Program) (w:World) (K:PySem.W.Frag) (mg:Str->Option Value) (base:Heap) (C:Addr) (m:Str) (j:Nat) (ps:List Str) (sp:Sp):Prop where
  ex:∃ (f:Addr) (fd:FuncData),FnOk P w K mg base CX0 j f fd ps sp∧Meth K C m f∧Cls K C∧jcS K fd ps []
section
variable {X:Cx} {C:Addr} {x m:Str} {j:Nat} {ps ks:List Str} {sp:Sp} {p pos apos:Pos} {o e:Expr} {es:List Expr} {ta:TE} {t tk:TA} {kws:List Keyword} {gV:List V->List V->List V}
end
theorem jgz {ρ τ:Type} {K:PySem.W.Frag} {s:Shared} {fd:FuncData} {args:Args} {binds:List (Str × Value)} {kd:Addr} {nm:Str} {v:Value} {k1:Option Value->Sem ρ} {k2:ρ->Sem τ} {k3:τ->Sem (List (Str × Value))} {r1:ρ} {r2:τ} (X:K.In s.heap) (e:PySem.W.nsIn K kd nm=some (some v))
    (h1:bindArgs fd args=((nsGet kd nm >>= k1) >>= k2) >>= k3) (h2:k1 (some v)=pure r1) (h3:k2 r1=pure r2) (h4:k3 r2=pure binds):BindsTo s fd args binds:=fun M A E Q q=>by
  rw [h1]
  refine wpAny_bind (wpAny_bind (wpAny_bind ((PySem.W.looks_nsIn X e).here ?_)))
  rw [h2]
  refine wpAny_pure ?_
  rw [h3]
  refine wpAny_pure ?_
  rw [h4]
  exact wpAny_pure q
def g12 {α:Type} (us ws:List α):List α:=match us,ws with
  | [s],[a,b]=>[s,a,b]
  | _,_=>[]
def g11d {α:Type} (d:α) (us ws:List α):List α:=match us,ws with
  | [s],[a]=>[s,a,d]
  | _,_=>[]
def g10d {α:Type} (d e:α) (us ws:List α):List α:=match us,ws with
  | [s],[]=>[s,d,e]
  | _,_=>[]
section
variable {K:PySem.W.Frag} {fd:FuncData} {p0 p1 p2:Str} {d e:V} {dv ev:Value}
end
end L2

namespace L2
open PySem PySem.Spec PyProof.Rows
structure CalNX (P:Program) (w:World) (K:PySem.W.Frag) (mg:Str->Option Value) (base:Heap) (x:Str) (C:Addr) (j:Nat) (ps ks:List Str) (gV:List V->List V->List V) (sp:Sp):Prop where
  ex:∃ (f:Addr) (fd:FuncData) (g:List Value->List Value->List Value),FnOk P w K mg base (CX1 P w) j f fd ps sp∧Mk K C f∧KBinds K fd ps ks g gV∧mg x=some (.ref C)
structure CalMX (P:Program) (w:World) (K:PySem.W.Frag) (mg:Str->Option Value) (base:Heap) (C:Addr) (m:Str) (j:Nat) (ps:List Str) (sp:Sp):Prop where
  ex:∃ (f:Addr) (fd:FuncData),FnOk P w K mg base (CX1 P w) j f fd ps sp∧Meth K C m f∧Cls K C∧jcS K fd ps []
section
variable {X:Cx} {C:Addr} {x m:Str} {j:Nat} {ps ks:List Str} {sp:Sp} {p pos apos:Pos} {o e:Expr} {es:List Expr} {ta:TE} {t tk:TA} {kws:List Keyword} {gV:List V->List V->List V} {E:XK}
end
end L2

namespace L2
open PySem PySem.Spec PyProof.Rows
structure RA (X:Cx) (es:List Expr) (t:TA):Prop where
  h:PA X es t
structure RE (X:Cx) (e:Expr) (t:TE):Prop where
  h:PE X e t
section
variable {X:Cx} {e:Expr} {es:List Expr} {te:TE} {t:TA} {pos:Pos}
end
end L2

namespace L2
open PySem PySem.Spec PyProof.Rows
theorem ug.np {X:Cx} {pins:List (Addr × Obj)} {H:Hp} {b:Addr} (f:ug X pins H b):¬ Prot X pins H b:=by
  rintro (z | ⟨x,z⟩ | ⟨p,hp,z⟩ | ⟨o,z⟩ | ⟨o,z,hx⟩)
  · exact f.2.1 z
  · exact f.2.2.2.2.1 x b z rfl
  · exact f.2.2.2.2.2 p hp z
  · rw [f.1] at z
    cases z
  · rcases f.2.2.2.1 with y | y
    · exact hx y
    · exact Nat.lt_irrefl _ (Nat.lt_of_lt_of_le (Heap.lt_size z) y)
section
variable {X:Cx} {elts:List Expr} {x1:Nat} {tpos:Pos}
end
end L2
namespace L2
open PySem PySem.Spec PyProof.Rows
def tTru (K:PySem.W.Frag) (t:TE):TT:=fun σ H Q=>t σ H fun x H1=>∃ k,TruV K x H1 k∧Q k H1
theorem pt_tru {X:Cx} {e:Expr} {t:TE} (h:PE X e t) (he:∀ whole,isTrue e X.env whole=(do let v <- whole; standAt e.pos; holding [v] (truthy v)):=by intro _; rfl):PT X e (tTru X.K t):=by
  intro pins s σ H Q I hw
  refine isTrue_plain (thn (h pins s σ H _ I hw) fun v s1 hQQ=>?_) (he _)
  obtain ⟨x,H1,I1,r1,q1⟩:=hQQ
  exact tru_ok pins s1 σ H1 x v _ I1 r1 q1
end L2

namespace L2
open PySem PySem.Spec PyProof.Rows

section
variable {κ:Type} [DecidableEq κ]
def yX (kvs:List (κ × V)) (k:κ):Option V:=(kvs.find? fun kv=>decide (kv.1=k)).map (·.2)
def xU (kvs:List (κ × V)) (k:κ) (v:V):List (κ × V) :=
  if (kvs.any fun kv=>decide (kv.1=k))=true then kvs.map (fun kv=>if kv.1=k then (kv.1,v) else kv) else kvs ++ [(k,v)]
def dropK (kvs:List (κ × V)) (k:κ):List (κ × V):=kvs.filter fun kv=>decide (kv.1≠k)

theorem uF {p:κ × V} {r:List (κ × V)} {k:κ} (e:p.1=k):yX (p :: r) k=some p.2:=by simp [yX,List.find?_cons,e]
theorem uG {p:κ × V} {r:List (κ × V)} {k:κ} (e:¬ p.1=k):yX (p :: r) k=yX r k:=by simp [yX,List.find?_cons,e]
theorem UR (k:κ):∀ kvs:List (κ × V),(kvs.any fun kv=>decide (kv.1=k))=(yX kvs k).isSome
  | []=>rfl
  | p :: r=>by
    rw [List.any_cons]
    by_cases e:p.1=k
    · simp only [uF e,decide_eq_true e,Bool.true_or,Option.isSome_some]
    · rw [uG e,decide_eq_false e,Bool.false_or]; exact UR k r
theorem vN (kvs:List (κ × V)) (k:κ) (v:V):(xU kvs k v).length<=kvs.length + 1:=by
  unfold xU
  split
  · rw [List.length_map]; omega
  · rw [List.length_append,List.length_cons,List.length_nil]; omega
theorem vG.isSome_eq {o:Option V} {u:Option Value} (r:vG o u):o.isSome=u.isSome:=by
  cases o with
  | none=>cases u with
    | none=>rfl
    | some _=>exact (show False from r).elim
  | some _=>cases u with
    | none=>exact (show False from r).elim
    | some _=>rfl
theorem vG.getD {o:Option V} {u:Option Value} {d:V} {d':Value} (r:vG o u) (rd:yh d d'):yh (o.getD d) (u.getD d'):=by
  cases o with
  | none=>cases u with
    | none=>exact rd
    | some _=>exact (show False from r).elim
  | some _=>cases u with
    | none=>exact (show False from r).elim
    | some _=>exact r

theorem KV.val {kvs:List (κ × V)} {vs:List (κ × Value)} (r:KV kvs vs) (k:κ):vG (yX kvs k) (valueAt vs k):=by
  unfold KV at r
  induction r with
  | nil=>exact True.intro
  | @cons p q ps qs h t ih =>
    obtain ⟨h1,h2⟩:=h
    by_cases e:p.1=k
    · have e':q.1=k:=h1.symm.trans e
      have b:valueAt (q :: qs) k=some q.2:=by simp [valueAt,List.find?_cons,e']
      rw [uF e,b]; exact h2
    · have e':¬ q.1=k:=fun z=>e (h1.trans z)
      have b:valueAt (q :: qs) k=valueAt qs k:=by simp [valueAt,List.find?_cons,e']
      rw [uG e,b]; exact ih
theorem KV.any {kvs:List (κ × V)} {vs:List (κ × Value)} (r:KV kvs vs) (k:κ):(kvs.any fun kv=>decide (kv.1=k))=vs.any fun kv=>decide (kv.1=k):=by
  unfold KV at r
  induction r with
  | nil=>rfl
  | cons h t ih=>rw [List.any_cons,List.any_cons,ih,h.1]
theorem KV.repl {kvs:List (κ × V)} {vs:List (κ × Value)} (r:KV kvs vs) (k:κ) {y:V} {u:Value} (ry:yh y u) :
    KV (kvs.map fun kv=>if kv.1=k then (kv.1,y) else kv) (vs.map fun kv=>if kv.1=k then (kv.1,u) else kv):=by
  unfold KV at r ⊢
  induction r with
  | nil=>exact .nil
  | @cons p q ps qs h t ih =>
    rw [List.map_cons,List.map_cons]
    refine .cons ?_ ih
    obtain ⟨h1,h2⟩:=h
    by_cases e:p.1=k
    · rw [if_pos e,if_pos (h1.symm.trans e)]; exact ⟨h1,ry⟩
    · rw [if_neg e,if_neg (fun z=>e (h1.trans z))]; exact ⟨h1,h2⟩
theorem KV.put {kvs:List (κ × V)} {vs:List (κ × Value)} (r:KV kvs vs) (k:κ) {y:V} {u:Value} (ry:yh y u):KV (xU kvs k y) (stored vs k u):=by
  unfold xU stored
  rw [r.any k]
  by_cases e:(vs.any fun kv=>decide (kv.1=k))=true
  · rw [if_pos e,if_pos e]; exact r.repl k ry
  · rw [if_neg e,if_neg e]; exact Paired.snoc r ⟨rfl,ry⟩
theorem KV.length {kvs:List (κ × V)} {vs:List (κ × Value)} (r:KV kvs vs):kvs.length=vs.length:=Paired.length r
end


theorem Vq {P:Program} {w:World} {k:Key} {u:Value} (r:yh (kV k) u):(yf P w).is k u=true:=by
  cases k with
  | inl i=>obtain ⟨t,e⟩:=(show ∃ t,u=Value.int i t from r); subst e; exact jak P w i t
  | inr x=>obtain ⟨t,e⟩:=(show ∃ t,u=Value.str x t from r); subst e; exact jaj P w x t
theorem Jn {P:Program} {w:World}:∀ {ks:List Key} {us:List Value},yg (ks.map kV) us->ItemsAre (yf P w) ks us
  | [],_,r=>by rw [List.map_nil] at r; cases r; exact .nil
  | k :: ks,_,r=>by
    rw [List.map_cons] at r
    cases r with
    | cons h t=>exact .cons (Vq h) (Jn t)

abbrev KT (H:Hp):List (List Key × V)->List (List Key × Addr × Value)->Prop:=Paired fun p q=>p.1=q.1∧H q.2.1=some (.tup (p.1.map kV))∧yh p.2 q.2.2
theorem KT.val {H:Hp} {kvs:List (List Key × V)} {xs:List (List Key × Addr × Value)} (r:KT H kvs xs) (k:List Key):vG (yX kvs k) ((atKey xs k).map (·.2)):=by
  induction r with
  | nil=>exact True.intro
  | @cons p q ps qs h t ih =>
    obtain ⟨h1,_,h2⟩:=h
    by_cases e:p.1=k
    · have e':q.1=k:=h1.symm.trans e
      have b:atKey (q :: qs) k=some q.2:=by simp [atKey,List.find?_cons,e']
      rw [uF e,b]; exact h2
    · have e':¬ q.1=k:=fun z=>e (h1.trans z)
      have b:atKey (q :: qs) k=atKey qs k:=by simp [atKey,List.find?_cons,e']
      rw [uG e,b]; exact ih
theorem KT.repl {H:Hp} {kvs:List (List Key × V)} {xs:List (List Key × Addr × Value)} (r:KT H kvs xs) (k:List Key) {y:V} {u:Value} (ry:yh y u) :
    KT H (kvs.map fun kv=>if kv.1=k then (kv.1,y) else kv) (xs.map (putAt k u)):=by
  induction r with
  | nil=>exact .nil
  | @cons p q ps qs h t ih =>
    rw [List.map_cons,List.map_cons]
    refine .cons ?_ ih
    obtain ⟨h1,h2,h3⟩:=h
    unfold putAt
    by_cases e:p.1=k
    · rw [if_pos e,if_pos (h1.symm.trans e)]; exact ⟨h1,h2,ry⟩
    · rw [if_neg e,if_neg (fun z=>e (h1.trans z))]; exact ⟨h1,h2,h3⟩
theorem KT.put {H:Hp} {kvs:List (List Key × V)} {xs:List (List Key × Addr × Value)} (r:KT H kvs xs) (k:List Key) {b:Addr} {y:V} {u:Value} (hb:H b=some (.tup (k.map kV))) (ry:yh y u) :
    KT H (xU kvs k y) (storedH xs k b u):=by
  have e:(kvs.any fun kv=>decide (kv.1=k))=(atKey xs k).isSome:=by
    rw [UR,(r.val k).isSome_eq,Option.isSome_map]
  unfold xU storedH
  rw [e]
  by_cases q:(atKey xs k).isSome=true
  · rw [if_pos q,if_pos q]; exact r.repl k ry
  · rw [if_neg q,if_neg q]; exact Paired.snoc r ⟨rfl,hb,ry⟩
theorem KT.keeps {H H':Hp} {kvs:List (List Key × V)} {xs:List (List Key × Addr × Value)} (r:KT H kvs xs) (ht:∀ b ys,H b=some (.tup ys)->H' b=some (.tup ys)):KT H' kvs xs :=
  Paired.mapP r fun _ _ z=>⟨z.1,ht _ _ z.2.1,z.2.2⟩

section
variable {P:Program} {w:World} {H:Hp} {h:Heap} {a:Addr}
theorem jix {u:HO} (ok:HOk P w H h) (e:Rd H a u):yr P w H h a u:=e.ok ok
theorem YJ {kvs:List (Key × V)} (ok:HOk P w H h) (e:Rd H a (.dK kvs)):kvs.length<=sizeLine∧(a == sysModules)=false∧∃ vs,KV kvs vs∧h.DictOf (yf P w) a vs :=
  show yr P w H h a (.dK kvs) from jix ok e
theorem jiH {kvs:List (Key × V)} (ok:HOk P w H h) (e:H a=some (.dK kvs)):kvs.length<=sizeLine∧(a == sysModules)=false∧∃ vs,KV kvs vs∧h.DictOf (yf P w) a vs:=YJ ok (.inl e)
theorem Yx {ks:List Key} (ok:HOk P w H h) (e:H a=some (.tup (ks.map kV))):(tupleKind (yf P w)).is h ks a:=by
  obtain ⟨_,its,r,o,h1,h2,n,h3⟩:=(show yr P w H h a (.tup (ks.map kV)) from ok a _ e)
  exact ⟨o,its.toArray,n,h1,h2,h3,by simpa using Jn r⟩
theorem Vv {kvs:List (List Key × V)} (ok:HOk P w H h) (e:Rd H a (.dT kvs)):kvs.length<=sizeLine∧(a == sysModules)=false ∧
    ∃ xs,KT H kvs xs∧h.DictOfH (tupleKind (yf P w)) a xs:=by
  obtain ⟨z,y,xs,r,o,es,ep,h1,h2,h3,h4,h5⟩:=(show yr P w H h a (.dT kvs) from jix ok e)
  refine ⟨z,y,xs,r,o,es,ep,h1,h2,h3,h4,fun x hx=>?_,h5⟩
  have all:∀ {l:List (List Key × V)} {m:List (List Key × Addr × Value)},KT H l m->∀ x ∈ m,(tupleKind (yf P w)).is h x.1 x.2.1:=by
    intro l m q
    induction q with
    | nil=>intro x hx; exact nomatch hx
    | @cons p q ps qs hq t ih =>
      intro x hx
      rcases List.mem_cons.mp hx with e | hx
      · subst e
        exact Yx ok (by rw [<- hq.1]; exact hq.2.1)
      · exact ih x hx
  exact all r x hx
theorem dt_of {kvs:List (List Key × V)} (ok:HOk P w H h) (e:H a=some (.dT kvs)):kvs.length<=sizeLine∧(a == sysModules)=false ∧
    ∃ xs,KT H kvs xs∧h.DictOfH (tupleKind (yf P w)) a xs:=Vv ok (.inl e)
end

def vX (H:Hp) (a:Addr) (y:V) (r:Option V):Prop :=
  (∃ kvs k,Rd H a (.dK kvs)∧y=kV k∧r=yX kvs k)∨∃ kvs k b,Rd H a (.dT kvs)∧y = .ref b∧H b=some (.tup (k.map kV))∧r=yX kvs k
def jaV (H:Hp) (a:Addr) (y v:V) (H':Hp):Prop :=
  (∃ kvs k,H a=some (.dK kvs)∧y=kV k∧kvs.length < sizeLine∧H'=upd H a (.dK (xU kvs k v))) ∨
  ∃ kvs k b,H a=some (.dT kvs)∧y = .ref b∧H b=some (.tup (k.map kV))∧kvs.length < sizeLine∧H'=upd H a (.dT (xU kvs k v))
theorem vX.k {H:Hp} {a:Addr} {kvs:List (Key × V)} {k:Key} (e:H a=some (.dK kvs)):vX H a (kV k) (yX kvs k):=.inl ⟨kvs,k,.inl e,rfl,rfl⟩
theorem vX.t {H:Hp} {a b:Addr} {kvs:List (List Key × V)} {k:List Key} (e:H a=some (.dT kvs)) (eb:H b=some (.tup (k.map kV))):vX H a (.ref b) (yX kvs k):=.inr ⟨kvs,k,b,.inl e,rfl,eb,rfl⟩
theorem jaV.k {H:Hp} {a:Addr} {kvs:List (Key × V)} {k:Key} {v:V} (e:H a=some (.dK kvs)) (hl:kvs.length < sizeLine):jaV H a (kV k) v (upd H a (.dK (xU kvs k v))):=.inl ⟨kvs,k,e,rfl,hl,rfl⟩
theorem jaV.t {H:Hp} {a b:Addr} {kvs:List (List Key × V)} {k:List Key} {v:V} (e:H a=some (.dT kvs)) (eb:H b=some (.tup (k.map kV))) (hl:kvs.length < sizeLine) :
    jaV H a (.ref b) v (upd H a (.dT (xU kvs k v))):=.inr ⟨kvs,k,b,e,rfl,eb,hl,rfl⟩


section
variable {X:Cx} {pins:List (Addr × Obj)} {σ:St} {H:Hp} {s:Shared} {a:Addr} {y v:V} {u r:Value} {o:Option V} {A:Around} {E:Value->Shared->Prop}

theorem Inv.big (I:Inv X pins σ H s):sysModules < s.heap.objs.size:=by
  have h:mainGlobals < s.heap.objs.size:=(I.mod.glob.keeps I.bk).lt
  exact Nat.lt_trans (by decide) h

theorem jdE {Q:Value->Shared->Prop} (hu:A.units + 1 < cLine) (I:Inv X pins σ H s) (g:vX H a y (some v)) (ry:yh y u) (h:∀ w' s',Inv X pins σ H s'->yh v w'->Q w' s') :
    wpAny (model X.prog X.w) A (getItem (.ref a) u) Q E s:=by
  rcases g with ⟨kvs,k,e,ey,l⟩ | ⟨kvs,k,b,e,ey,eb,l⟩
  · subst ey
    obtain ⟨z,hd,vs,rel,dd⟩:=YJ I.hok e
    obtain ⟨w',hw,rw'⟩:=vG.some_of (v:=v) (o:=valueAt vs k) (by rw [l]; exact rel.val k)
    exact wpAny_getItem_of (Vq ry) dd.mapOf hw (h w' _ (I.tok _) rw')
  · subst ey
    cases (show u=Value.ref b from ry)
    obtain ⟨z,hd,xs,rel,dd⟩:=Vv I.hok e
    obtain ⟨w',hw,rw'⟩:=vG.some_of (v:=v) (o:=(atKey xs k).map (·.2)) (by rw [l]; exact rel.val k)
    obtain ⟨p,hp,hp2⟩:=Option.map_eq_some_iff.mp hw
    refine wpAny_getItem_heap (tupleKind_room_in1 hu) (Yx I.hok eb) dd hp ?_
    rw [hp2]
    exact h w' _ (I.tok _) rw'
theorem d_in {Q:Value->Shared->Prop} (hu:A.units + 1 < cLine) (I:Inv X pins σ H s) (g:vX H a y o) (ry:yh y u) (h:∀ s',Inv X pins σ H s'->Q (.bool o.isSome) s') :
    wpAny (model X.prog X.w) A (compareOp .In u (.ref a)) Q E s:=by
  rcases g with ⟨kvs,k,e,ey,l⟩ | ⟨kvs,k,b,e,ey,eb,l⟩
  · subst ey
    obtain ⟨z,hd,vs,rel,dd⟩:=YJ I.hok e
    refine wpAny_in_of (Vq ry) hd dd.mapOf ?_
    rw [<- (rel.val k).isSome_eq,<- l]
    exact h _ (I.tok _)
  · subst ey
    cases (show u=Value.ref b from ry)
    obtain ⟨z,hd,xs,rel,dd⟩:=Vv I.hok e
    refine wpAny_in_heap (tupleKind_room_in1 hu) (Yx I.hok eb) hd dd ?_
    have q:=(rel.val k).isSome_eq
    rw [Option.isSome_map] at q
    rw [<- q,<- l]
    exact h _ (I.tok _)
theorem uV {h':Heap} {t':Nat} {ob:HO} (I:Inv X pins σ H s) (mu:Mut (H a)) (hs:Heap.SameBut a s.heap h') (he:∃ q,h'.get? a=some q) (new:yr X.prog X.w (upd H a ob) h' a ob) :
    Inv X pins σ (upd H a ob) { s with heap:=h',toks:=t' } :=
  I.write (x:=a) (e:=a) mu (.inl rfl) (fun b q hb z=>(hs.2 b hb).trans z) he new
theorem jfU {P:Program} {w:World} {H':Hp} {h':Heap} {kvs:List (Key × V)} {vs:List (Key × Value)} (z:kvs.length<=sizeLine) (hd:(a == sysModules)=false) (rel:KV kvs vs) (dd:h'.DictOf (yf P w) a vs) :
    yr P w H' h' a (.dK kvs):=⟨z,hd,vs,rel,dd⟩
theorem jdD {H':Hp} {Q:Unit->Shared->Prop} (hu:A.units + 1 < cLine) (I:Inv X pins σ H s) (g:jaV H a y v H') (ry:yh y u) (rv:yh v r) (h:∀ s',Inv X pins σ H' s'->Q () s') :
    wpAny (model X.prog X.w) A (setItem (.ref a) u r) Q E s:=by
  rcases g with ⟨kvs,k,e,ey,l,eH⟩ | ⟨kvs,k,b,e,ey,eb,l,eH⟩
  · subst ey eH
    obtain ⟨z,hd,vs,rel,dd⟩:=jiH I.hok e
    have hz:vs.length<=sizeLine:=by rw [<- rel.length]; exact z
    have hl:(xU kvs k v).length<=sizeLine:=by have:=vN kvs k v; omega
    refine wpAny_setItem_pairs (hsz:=hz) (Vq ry) dd fun h' dd' hs=>h _ ?_
    have he:∃ q,h'.get? a=some q:=let ⟨q,_,_,hq,_⟩:=dd'; ⟨q,hq⟩
    exact uV I (by rw [e]; exact True.intro) hs he (jfU hl hd (rel.put k rv) dd')
  · subst ey eH
    cases (show u=Value.ref b from ry)
    obtain ⟨z,hd,xs,rel,dd⟩:=dt_of I.hok e
    have hz:xs.length<=sizeLine:=by rw [<- Paired.length rel]; exact z
    have hl:(xU kvs k v).length<=sizeLine:=by have:=vN kvs k v; omega
    refine wpAny_setItem_heap (hsz:=hz) (tupleKind_room_in1 hu) (Yx I.hok eb) dd fun h' dd' hs=>h _ ?_
    obtain ⟨q,es,ep,hq,h2,h3,h4,_,h5⟩:=dd'
    refine uV I (by rw [e]; exact True.intro) hs ⟨q,hq⟩ ⟨hl,hd,_,(rel.put k eb rv).keeps fun c ys ec=>?_,q,es,ep,hq,h2,h3,h4,h5⟩
    rw [jk (ne_of ec e (fun z=>nomatch z))]
    exact ec
end

section
variable {X:Cx} {pins:List (Addr × Obj)} {σ:St} {H:Hp} {s:Shared} {a:Addr} {kvs:List (Key × V)} {k:Key} {u:Value} {A:Around} {E:Value->Shared->Prop}
theorem d_len {Q:Value->Shared->Prop} (I:Inv X pins σ H s) (e:Rd H a (.dK kvs)) (h:∀ t s',Inv X pins σ H s'->Q (.int kvs.length t) s'):wpAny (model X.prog X.w) A (call (.builtin "len") [.ref a]) Q E s:=by
  obtain ⟨z,hd,vs,rel,dd⟩:=YJ I.hok e
  refine call_len_dict hd dd (by rw [<- rel.length]; rw [sizeLine_eq] at z; omega) ?_
  rw [<- rel.length]
  exact h _ _ (I.tok _)
end


def jir (i:Expr):Prop:=∀ ov iv,subscripted i false ov iv=operate [ov,iv] (getItem ov iv)
theorem jgJ {prog:Program} {w:World} {A:Around} {E:Value->Shared->Prop} {s:Shared} {env:Env} {value slice:Expr} {pos:Pos} {T id:String} {Q:Value->Shared->Prop}
    (hl:typeLookup (.type T) "__getitem__" = pure (some (.builtin id))) (hs:jir slice)
    (h:wpAny (model prog w) A (eval value env) (fun o s₁=>wpAny (model prog w) A (eval slice env) (fun i s₂=>s₂.TypeIs o T∧wpAny (model prog w) A (getItem o i) Q E s₂) E s₁) E s) :
    wpAny (model prog w) A (eval (.Subscript value slice pos) env) Q E s:=by
  refine Subscript_ (wpAny_mono h (fun o s₁ h₁=>wpAny_mono h₁ (fun i s₂ h₂=>?_) fun _ _ x=>x) fun _ _ x=>x)
  obtain ⟨hT,h₂⟩:=h₂
  unfold subscriptTail
  refine wpAny_bind ?_
  rw [getitemInPython_of_ne hT.not_modules]
  refine wpAny_bind (wpAny_specialOf hT hl ?_)
  have fin:wpAny (model prog w) A (subscripted slice false o i) (fun r s₃=>wpAny (model prog w) A (letTemporaryGo value o r >>= fun _=>pure r) Q E s₃) E s₂:=by
    rw [hs o i]
    exact wpAny_operating (wpAny_mono h₂ (fun r s₃ h₃=>wpAny_bind (wpAny_letTemporaryGo (wpAny_pure h₃))) fun _ _ x=>x)
  first
    | exact wpAny_pure (wpAny_bind fin)
    | exact wpAny_bind (wpAny_pure (wpAny_bind fin))
    | exact wpAny_bind fin

theorem jaB {X:Cx} {pins:List (Addr × Obj)} {σ:St} {H:Hp} {s:Shared} {a:Addr} {y:V} {o:Option V} (I:Inv X pins σ H s) (g:vX H a y o):s.TypeIs (.ref a) "dict":=by
  rcases g with ⟨kvs,k,e,_,_⟩ | ⟨kvs,k,b,e,_,_,_⟩
  · obtain ⟨_,_,vs,_,dd⟩:=YJ I.hok e
    exact dd.typeIs
  · obtain ⟨_,_,xs,_,dd⟩:=Vv I.hok e
    exact dd.typeIs
def jiv (td ty:TE):TE:=fun σ H Q=>td σ H fun x H1=>ty σ H1 fun y H2=>∃ a v,x = .ref a∧vX H2 a y (some v)∧Q v H2
def tDIn (ty td:TE):TE:=fun σ H Q=>ty σ H fun y H1=>td σ H1 fun x H2=>∃ a o,x = .ref a∧vX H2 a y o∧Q (.bl o.isSome) H2
def sDPut (td ty tv:TE):TS:=fun D σ H=>tv σ H fun v H1=>td σ H1 fun x H2=>ty σ H2 fun y H3=>∃ a H4,x = .ref a∧jaV H3 a y v H4∧D.nx σ H4
section
variable {X:Cx} {o i e value:Expr} {pos pos' tpos:Pos} {td ty tv:TE}
theorem jco (hu:X.A.units + 1 < cLine) (ho:PE X o td) (hi:PE X i ty) (hs:jir i):PE X (.Subscript o i pos) (jiv td ty):=by
  intro pins s σ H Q I h
  refine jgJ PySem.F.slot_dict_getitem.lookup hs (thn (ho pins s σ H _ I h) fun u s1 ⟨x,H1,I1,rx,q1⟩=>thn (hi pins s1 σ H1 _ I1 q1) fun iv s2 hQQ=>?_)
  obtain ⟨y,H2,I2,ry,a,v,ex,g,q2⟩:=hQQ
  subst ex
  obtain rfl:u=Value.ref a:=rx
  exact ⟨jaB I2 g,jdE hu I2 g ry fun w' s3 I3 rw'=>⟨v,H2,I3,rw',q2⟩⟩
theorem jeZ (hu:X.A.units + 1 < cLine) (hi:PE X i ty) (ho:PE X o td):PC X .In i o (tDIn ty td):=by
  intro pins s σ H Q I h
  refine thn (hi pins s σ H _ I h) fun iv s1 ⟨y,H1,I1,ry,q1⟩=>thn (ho pins s1 σ H1 _ I1 q1) fun u s2 hQQ=>?_
  obtain ⟨x,H2,I2,rx,a,ov,ex,g,q2⟩:=hQQ
  subst ex
  obtain rfl:u=Value.ref a:=rx
  exact d_in hu I2 g ry fun s3 I3=>⟨.bl ov.isSome,H2,I3,rfl,q2⟩
theorem jck (hu:X.A.units + 1 < cLine) (ho:PE X o td) (hi:PE X i ty) (hv:PE X value tv) (hs:swapsWith value (some (.Subscript o i pos')) pos.line X.env=pure false) :
    PS X (.Assign [.Subscript o i pos'] value pos) (sDPut td ty tv):=by
  intro pins s σ H D I h
  refine wpAny_Assign_Subscript (thn (hv pins s σ H _ I h) fun r s1 ⟨v,H1,I1,rv,q1⟩=>thn (ho pins s1 σ H1 _ I1 q1) fun u s2 ⟨x,H2,I2,rx,q2⟩=>thn (hi pins s2 σ H2 _ I2 q2) fun iv s3 hQQ=>?_) hs
  obtain ⟨y,H3,I3,ry,a,H4,ex,g,q3⟩:=hQQ
  subst ex
  obtain rfl:u=Value.ref a:=rx
  exact jdD hu I3 g ry rv fun s4 I4=>⟨σ,H4,I4,q3⟩
end


theorem jfV {P:Program} {w:World} {H:Hp} (h:Heap) (hb:sysModules < h.objs.size):yr P w H (h.push { cls:=.type "dict",data:=.dict #[] }) h.objs.size (.dK []) :=
  ⟨Nat.zero_le _,beq_eq_false_iff_ne.mpr (Ne.symm (Nat.ne_of_lt hb)),[],.nil,Heap.DictOf.new h⟩
theorem jfT {P:Program} {w:World} {H:Hp} (h:Heap) (hb:sysModules < h.objs.size):yr P w H (h.push { cls:=.type "dict",data:=.dict #[] }) h.objs.size (.dT []) :=
  ⟨Nat.zero_le _,beq_eq_false_iff_ne.mpr (Ne.symm (Nat.ne_of_lt hb)),[],.nil,_,#[],0,Heap.get?_push_size _ rfl,⟨rfl,rfl,rfl⟩,rfl,rfl,List.nodup_nil⟩
def tDNewK:TE:=fun _ H Q=>∀ p,H p=none->Q (.ref p) (upd H p (.dK []))
def tDNewT:TE:=fun _ H Q=>∀ p,H p=none->Q (.ref p) (upd H p (.dT []))
section
variable {X:Cx} {pos:Pos}
theorem jeW:PE X (.Dict [] [] pos) tDNewK:=fun pins s σ H Q I h =>
  wpAny_Dict_empty ⟨.ref s.heap.objs.size,_,I.laid (a:=s.heap.objs.size) (o:=.dK []) (t':=s.toks) (fun _ _ q=>Heap.get?_push_of_some _ q) (Nat.le_refl _) (jfV s.heap I.big),rfl,h _ (I.hok.fresh (Nat.le_refl _))⟩
theorem jaa:PE X (.Dict [] [] pos) tDNewT:=fun pins s σ H Q I h =>
  wpAny_Dict_empty ⟨.ref s.heap.objs.size,_,I.laid (a:=s.heap.objs.size) (o:=.dT []) (t':=s.toks) (fun _ _ q=>Heap.get?_push_of_some _ q) (Nat.le_refl _) (jfT s.heap I.big),rfl,h _ (I.hok.fresh (Nat.le_refl _))⟩
end

structure M1 (X:Cx) (o:Expr) (m:Str) (apos:Pos) (e:Expr) (cpos:Pos):Prop where
  base:attributeBase o m X.env (eval o X.env)=eval o X.env
  few:((backTo cpos (starEach [e] X.env)).all (fun x=>!x.1) && (backToKw cpos (keywordEach [] X.env)).all (fun x=>x.1.isSome)
    && decide (([e]:List Expr).length + ([]:List Keyword).length + (if ([]:List Keyword).isEmpty then 0 else 1) < 30))=true
  line:(apos.endLine == cpos.line)=true
  trees:backTo cpos (starEach [e] X.env)=[(false,eval e X.env)]
structure M2 (X:Cx) (o:Expr) (m:Str) (apos:Pos) (e f:Expr) (cpos:Pos):Prop where
  base:attributeBase o m X.env (eval o X.env)=eval o X.env
  few:((backTo cpos (starEach [e,f] X.env)).all (fun x=>!x.1) && (backToKw cpos (keywordEach [] X.env)).all (fun x=>x.1.isSome)
    && decide (([e,f]:List Expr).length + ([]:List Keyword).length + (if ([]:List Keyword).isEmpty then 0 else 1) < 30))=true
  line:(apos.endLine == cpos.line)=true
  trees:backTo cpos (starEach [e,f] X.env)=[(false,eval e X.env),(false,eval f X.env)]

def IsD (H:Hp) (a:Addr):Prop:=(∃ kvs,Rd H a (.dK kvs))∨∃ kvs,Rd H a (.dT kvs)
theorem jbx {X:Cx} {pins:List (Addr × Obj)} {σ:St} {H:Hp} {s:Shared} {a:Addr} (I:Inv X pins σ H s) (d:IsD H a) :
    s.TypeIs (.ref a) "dict"∧(∀ b,Value.ref a = .ref b->∃ ob,s.heap.get? b=some ob∧ob.dict=none)∧(a == sysModules)=false:=by
  rcases d with ⟨kvs,e⟩ | ⟨kvs,e⟩
  · obtain ⟨_,hd,vs,_,dd⟩:=YJ I.hok e
    refine ⟨dd.typeIs,fun b q=>?_,hd⟩
    cases q
    obtain ⟨ob,_,_,h1,h2,_⟩:=dd
    exact ⟨ob,h1,h2.2.1⟩
  · obtain ⟨_,hd,xs,_,dd⟩:=Vv I.hok e
    refine ⟨dd.typeIs,fun b q=>?_,hd⟩
    cases q
    obtain ⟨ob,_,_,h1,h2,_⟩:=dd
    exact ⟨ob,h1,h2.2.1⟩

section
variable {X:Cx} {pins:List (Addr × Obj)} {σ:St} {H:Hp} {s:Shared} {a:Addr} {y d:V} {u r:Value} {o:Option V} {A:Around} {E:Value->Shared->Prop}
theorem d_get1 {Q:Value->Shared->Prop} (hu:A.units + 1 < cLine) (I:Inv X pins σ H s) (g:vX H a y o) (ry:yh y u) (h:∀ w' s',Inv X pins σ H s'->yh (o.getD .non) w'->Q w' s') :
    wpAny (model X.prog X.w) A (call (.builtin "dict.get") [.ref a,u]) Q E s:=by
  rcases g with ⟨kvs,k,e,ey,l⟩ | ⟨kvs,k,b,e,ey,eb,l⟩
  · subst ey
    obtain ⟨z,hd,vs,rel,dd⟩:=YJ I.hok e
    refine call_meetsIn PySem.F.slot_dict_get dd.typeIs PySem.F.entry_dict_get (PySem.F.args_dict_get_2 _ _) (meets_dict_get (yf X.prog X.w) a (Vq ry) hd) ⟨_,dd.mapOf,h _ _ (I.tok _) ?_⟩
    rw [l]
    exact (rel.val k).getD rfl
  · subst ey
    cases (show u=Value.ref b from ry)
    obtain ⟨z,hd,xs,rel,dd⟩:=Vv I.hok e
    refine call_meetsIn PySem.F.slot_dict_get dd.typeIs PySem.F.entry_dict_get (PySem.F.args_dict_get_2 _ _) (meetsH_dict_get (tupleKind (yf X.prog X.w)) a b hd) ⟨tupleKind_room_in1 hu,k,xs,Yx I.hok eb,dd,h _ _ (I.tok _) ?_⟩
    rw [l]
    exact (rel.val k).getD rfl
end

def tDGet1 (td ty:TE):TE:=fun σ H Q=>td σ H fun x H1=>∃ a,x = .ref a∧IsD H1 a∧ty σ H1 fun y H2=>∃ o,vX H2 a y o∧Q (o.getD .non) H2
section
variable {X:Cx} {o e f:Expr} {apos cpos:Pos} {td ty tx:TE}
theorem jeX (hu:X.A.units + 1 < cLine) (ho:PE X o td) (he:PE X e ty) (m:M1 X o "get" apos e cpos):PE X (.Call (.Attribute o "get" apos) [e] [] cpos) (tDGet1 td ty):=by
  intro pins s σ H Q I h
  refine wpAny_Call_method m.base m.few m.line PySem.F.plainAttrs_dict PySem.F.slot_dict_get PySem.F.type_dict_get (thn (ho pins s σ H _ I h) fun u s1 hQQ=>?_)
  obtain ⟨x,H1,I1,rx,a,ex,d,q1⟩:=hQQ
  subst ex
  obtain rfl:u=Value.ref a:=rx
  obtain ⟨t1,t2,_⟩:=jbx I1 d
  refine ⟨t1,t2,?_⟩
  rw [m.trees]
  refine Calls.callWith_builtin rfl (Calls.evalArgs_plain (Calls.spliced_cons (thn (he pins s1 σ H1 _ I1 q1) fun iv s2 ⟨y,H2,I2,ry,ov,g,q2⟩=>Calls.spliced_nil ?_)))
  exact d_get1 hu I2 g ry fun w' s3 I3 rw'=>⟨_,H2,I3,rw',q2⟩
end

section
variable {X:Cx} {pins:List (Addr × Obj)} {σ:St} {H:Hp} {s:Shared} {a:Addr} {kvs:List (Key × V)} {A:Around} {E:Value->Shared->Prop}
end


section
variable {X:Cx} {pins:List (Addr × Obj)} {σ:St} {H:Hp} {s:Shared} {a:Addr} {y:V} {u:Value} {A:Around} {E:Value->Shared->Prop}
end
end L2


namespace L2
open PySem PySem.Spec PyProof.Rows
theorem Inv.turnedL {X:Cx} {pins:List (Addr × Obj)} {σ:St} {H:Hp} {s:Shared} {h':Heap} {t':Nat} {ch:List Addr} (I:Inv X pins σ H s) (k:∀ b o,b ∉ ch->s.heap.get? b=some o->h'.get? b=some o) (f:∀ b ∈ ch,ug X pins H b) :
    Inv X pins σ H { s with heap:=h',toks:=t' }:=by
  have ne:∀ b u c,H b=some u->c ∈ ch->b≠c:=fun b u c q hc z=>by rw [z,(f c hc).1] at q; cases q
  refine I.step (g':=s.gens) (d':=s.drawn) (ch:=ch) (fun b hb=>?_) (fun b o _ _ hc q _=>k b o hc q) (fun b o _ _ hc q _=>⟨o.slots,k b o hc q⟩) (fun _ _ _ _ n=>n)
    (fun b o hc q=>⟨o,k b o hc q⟩) (fun _ _ q=>q) (fun _ _ _ q=>q) (fun b ps q=>⟨#[],by rw [q]; simp⟩) (fun m hm=>?_) (fun b u q=>?_) I.bare
  · exact ⟨(f b hb).2.2.2.1,(f b hb).2.1,(f b hb).2.2.2.2.1,(f b hb).2.2.2.2.2⟩
  · obtain ⟨o,es,ep,ho,r⟩:=hm
    exact ⟨o,es,ep,k _ o (fun hc=>(f _ hc).2.1 rfl) ho,r⟩
  · refine (I.hok b u q).stay (fun c v hc z=>k c v (fun hm=>?_) z) (fun _ z=>z) fun _ _ z=>z
    rcases hc with y | y
    · exact ne b u c q hm y.symm
    · exact ne c _ c y hm rfl
def Itz (K:PySem.W.Frag) (a b:Addr):It :=
  ⟨fun i H=>∃ xs ys x y,SqL K H a xs∧SqL K H b ys∧xs[i]? = some x∧ys[i]? = some y,fun i H x H'=>∃ p u v,x = .ref p∧H p=none∧(∀ xs,SqL K H a xs->xs[i]? = some u)∧(∀ ys,SqL K H b ys->ys[i]? = some v)∧H'=upd H p (.tup [u,v]),
    fun i H=>∃ xs ys,SqL K H a xs∧SqL K H b ys∧(xs.length<=i∨ys.length<=i)⟩
theorem jdY {P:Program} {w:World} {K:PySem.W.Frag} {elts:List Expr} {x1:Nat} {pos:Pos} (a b z TI TO i1 i2:Addr) (D:ZipApart z TI TO i1 i2 a b) :
    Turn P w K (.Tuple elts x1 pos) (Itz K a b) [z,TO,i1,i2,TI] z (fun i h=>IsZip h z TI TO .none∧IsPair h TI (.ref i1) (.ref i2)∧(∃ u v,IsPair h TO u v)∧h.IsListIter i1 a i∧h.IsListIter i2 b i) where
  mem:=by simp
  obj:=fun i h st c hc=>by
    obtain ⟨hz,ht,⟨u,v,ho⟩,⟨o1,q1,_,d1⟩,⟨o2,q2,_,d2⟩⟩:=st
    simp only [List.mem_cons,List.mem_nil_iff,or_false] at hc
    rcases hc with rfl | rfl | rfl | rfl | rfl
    · exact ⟨_,hz,fun v e=>by have e:Data.fields _=Data.cell v:=e; cases e⟩
    · exact ⟨_,ho,fun v e=>by have e:Data.seq _=Data.cell v:=e; cases e⟩
    · exact ⟨o1,q1,fun v e=>by rw [d1] at e; cases e⟩
    · exact ⟨o2,q2,fun v e=>by rw [d2] at e; cases e⟩
    · exact ⟨_,ht,fun v e=>by have e:Data.seq _=Data.cell v:=e; cases e⟩
  keep:=fun i h h' st k=>by
    obtain ⟨hz,ht,⟨u,v,ho⟩,q1,q2⟩:=st
    exact ⟨k z (by simp) _ hz,k TI (by simp) _ ht,⟨u,v,k TO (by simp) _ ho⟩,q1.at fun o q=>k i1 (by simp) o q,q2.at fun o q=>k i2 (by simp) o q⟩
  item:=by
    intro X hP hw hK hc i pins s σ H E I hf st hg
    subst hP hw hK
    obtain ⟨hz,ht,⟨u0,v0,ho⟩,q1,q2⟩:=st
    obtain ⟨xs,ys,x,y,ha,hb,hx,hy⟩:=hg
    obtain ⟨i1s,r1,p1,_⟩:=I.list ha
    obtain ⟨i2s,r2,p2,_⟩:=I.list hb
    obtain ⟨u,hu,ru⟩:=r1.get hx
    obtain ⟨v,hv,rv⟩:=r2.get hy
    refine wpAny_pyNext_zip_item D hz ht ho q1 q2 p1.isList p2.isList (x:=u) (y:=v) (by simpa using hu) (by simpa using hv) fun h' z1 o1 j1 j2 tup sz keep=>?_
    refine ⟨_,rfl,wpAny_letOwnedTupleGo_zip (s:={ s with heap:=h' }) z1 fun h2 z2 sb=>?_⟩
    have fz:=hf z (by simp)
    have lt:∀ c,(∃ o,s.heap.get? c=some o)->s.heap.objs.size≠c:=fun c hc e=>by
      obtain ⟨o,ho⟩:=hc
      have:=Heap.lt_size ho
      rw [<- e] at this
      exact Nat.lt_irrefl _ this
    have n1:s.heap.objs.size≠z:=lt _ ⟨_,hz⟩
    have jfu:∀ c o,c ∉ [z,TO,i1,i2]->s.heap.get? c=some o->h2.get? c=some o:=fun c o hn q=>by
      simp only [List.mem_cons,List.mem_nil_iff,or_false,not_or] at hn
      exact (sb.2 c hn.1).trans (keep c o hn.1 hn.2.1 hn.2.2.1 hn.2.2.2 q)
    have I1:Inv X pins σ H { s with heap:=h2 }:=I.turnedL (t':=s.toks) (ch:=[z,TO,i1,i2]) jfu fun c hc=>hf c (by
      simp only [List.mem_cons,List.mem_nil_iff,or_false] at hc ⊢
      rcases hc with h | h | h | h
      · exact .inl h
      · exact .inr (.inl h)
      · exact .inr (.inr (.inl h))
      · exact .inr (.inr (.inr (.inl h))))
    have fresh:H s.heap.objs.size=none:=I.hok.fresh (Nat.le_refl _)
    have fp:=I.fpOk (Nat.le_refl _) fresh
    have tup2:h2.get? s.heap.objs.size=some { cls:=.type "tuple",data:=.seq #[u,v] }:=(sb.2 _ n1).trans tup
    refine ⟨.ref s.heap.objs.size,upd H s.heap.objs.size (.tup [x,y]),I1.track fp.np ⟨by show 2<=sizeLine; decide,[u,v],.cons ru (.cons rv .nil),⟨_,tup2,rfl,_,rfl⟩⟩,rfl,⟨_,x,y,rfl,fresh,fun zs h=>by rw [I.list_inj h ha]; exact hx,fun zs h=>by rw [I.list_inj h hb]; exact hy,rfl⟩,
      ⟨z2,(sb.2 _ D.TIz).trans (keep _ _ D.TIz D.TITO D.TIi1 D.TIi2 ht),⟨u,v,(sb.2 _ D.TOz).trans o1⟩,j1.at fun o q=>(sb.2 _ D.i1z).trans q,j2.at fun o q=>(sb.2 _ D.i2z).trans q⟩,fun c hc=>?_⟩
    have:s.heap.objs.size≠c:=by
      simp only [List.mem_cons,List.mem_nil_iff,or_false] at hc
      rcases hc with rfl | rfl | rfl | rfl | rfl
      · exact n1
      · exact lt _ ⟨_,ho⟩
      · exact lt _ (let ⟨o,q,_⟩:=q1; ⟨o,q⟩)
      · exact lt _ (let ⟨o,q,_⟩:=q2; ⟨o,q⟩)
      · exact lt _ ⟨_,ht⟩
    rw [jk (Ne.symm this)]
    exact (hf c hc).1
  done:=by
    intro X hP hw hK hc i pins s σ H E I hf st hg
    subst hP hw hK
    obtain ⟨hz,ht,⟨u0,v0,ho⟩,q1,q2⟩:=st
    obtain ⟨xs,ys,ha,hb,hx⟩:=hg
    obtain ⟨i1s,r1,p1,_⟩:=I.list ha
    obtain ⟨i2s,r2,p2,_⟩:=I.list hb
    have l1:=r1.length
    have l2:=r2.length
    refine wpAny_pyNext_zip_end (I.ok.hd hc) D hz ht ho q1 q2 p1.isList p2.isList (by
      rcases hx with h | h
      · exact .inl (by simp; omega)
      · exact .inr (by simp; omega)) fun h' keep=>⟨rfl,I.turnedL (t':=s.toks) (ch:=[z,TO,i1,i2]) (fun c o hn q=>?_) fun c hc=>hf c ?_⟩
    · simp only [List.mem_cons,List.mem_nil_iff,or_false,not_or] at hn
      exact keep c o hn.1 hn.2.1 hn.2.2.1 hn.2.2.2 q
    · simp only [List.mem_cons,List.mem_nil_iff,or_false] at hc ⊢
      rcases hc with h | h | h | h
      · exact .inl h
      · exact .inr (.inl h)
      · exact .inr (.inr (.inl h))
      · exact .inr (.inr (.inr (.inl h)))
  self:=fun _ _ _ _ _ st h=>wpAny_pyIter_zip st.1 h
section
variable {X:Cx} {elts:List Expr} {x1:Nat} {tpos:Pos}
theorem jcU (n a b:Nat) (la:a < n) (lb:b < n):ZipApart (n + 4) (n + 2) (n + 3) n (n + 1) a b:=by
  constructor <;> (intro e; have e:(_:Nat)=(_:Nat):=e; omega)
theorem bt_zip:bootBuiltins "zip" = some (.type "zip"):=by decide +kernel
theorem jcT {pins:List (Addr × Obj)} {σ:St} {H1:Hp} {s1:Shared} {R:It->Hp->Prop} {a b:Addr} {xs ys:List V} (I1:Inv X pins σ H1 s1) (hx:SqL X.K H1 a xs) (hy:SqL X.K H1 b ys) (q:R (Itz X.K a b) H1) :
    wpAny (model X.prog X.w) X.A (call (.type "zip") [.ref a,.ref b]) (fun v s2=>wpAny (model X.prog X.w) X.A (pyIter v) (PIE X pins σ (.Tuple elts x1 tpos) R) X.xe s2) X.xe s1:=by
  obtain ⟨is1,_,p1,_⟩:=I1.list hx
  obtain ⟨is2,_,p2,_⟩:=I1.list hy
  have la:a < s1.heap.objs.size:=let ⟨o,q,_⟩:=p1.isList; Heap.lt_size q
  have lb:b < s1.heap.objs.size:=let ⟨o,q,_⟩:=p2.isList; Heap.lt_size q
  refine call_zip_2 p1.isList p2.isList fun h' z ti to j1 j2 sz keep=>?_
  refine wpAny_pyIter_zip z ?_
  have D:ZipApart (s1.heap.objs.size + 4) (s1.heap.objs.size + 2) (s1.heap.objs.size + 3) s1.heap.objs.size (s1.heap.objs.size + 1) a b:=jcU _ _ _ la lb
  refine ⟨s1.heap.objs.size + 4,_,_,_,H1,rfl,I1.kept (t':=s1.toks) keep,jdY a b _ _ _ _ _ D,⟨z,ti,⟨_,_,to⟩,j1,j2⟩,fun c hc=>?_,q⟩
  have:s1.heap.objs.size<=c:=by
    simp only [List.mem_cons,List.mem_nil_iff,or_false] at hc
    rcases hc with rfl | rfl | rfl | rfl | rfl
    · exact Nat.le_add_right _ _
    · exact Nat.le_add_right _ _
    · exact Nat.le_refl _
    · exact Nat.le_add_right _ _
    · exact Nat.le_add_right _ _
  exact I1.fpOk this (I1.hok.fresh this)
end
end L2

namespace L2
open PySem PySem.Spec PyProof.Rows
section
variable {prog:Program} {w:World} {A:Around} {E:Value->Shared->Prop} {s:Shared}
theorem jdm {it tu:Addr} {i:Nat} {its:Array Value} {Q:Value->Shared->Prop} (nh:A.handled=none) (hI:s.heap.IsTupleIter it tu i) (hU:s.heap.IsTuple tu its) (hn:its[i]? = none)
    (go:∀ h' e,Heap.ExtBut it s.heap h'->(∃ o,h'.get? e=some o∧o.cls = .type "StopIteration")->E (.ref e) { s with heap:=h' }):wpAny (model prog w) A (Builtin.SmallTypes.nextOf (.ref it)) Q E s:=by
  obtain ⟨oi,hoi,hci,hdi⟩:=id hI; obtain ⟨ou,hou,_,nu,hdu⟩:=hU; unfold Builtin.SmallTypes.nextOf
  refine wpAny_bind (wpAny_callSpecial?_slot (name:=Str.ofString "__next__") hI.typeIs F.slot_tuple_iterator_next (wpAny_call_entry F.slot_tuple_iterator_next hI.typeIs F.entry_tuple_iterator_next ?_ (F.args_tuple_iterator_next_1 _)))
  show wpAny _ _ (field (.ref it) 0 >>= _) _ _ s; refine wpAny_bind (wpAny_field hoi hdi (x:=.ref tu) rfl ?_)
  show wpAny _ _ (if (Value.ref tu == Value.none)=true then _ else _) _ _ s; rw [if_neg (show ¬ ((Value.ref tu == Value.none)=true) from Bool.false_ne_true)]
  show wpAny _ _ (field (.ref it) 1 >>= _) _ _ s; refine wpAny_bind (wpAny_field hoi hdi (x:=.int i 0) rfl ?_)
  show wpAny _ _ (seqItems? (.ref tu) >>= _) _ _ s; refine wpAny_bind (wpAny_seqItems hou hdu ?_); simp only [Int.toNat_natCast,hn]
  refine wpAny_bind (wpAny_rule (wpAny_bind (wpAny_setField hoi hdi (by simp) ?_))); show wpAny _ _ (newExc (.type "StopIteration") [] >>= _) _ _ _
  refine wpAny_bind ?_; simp only [newExc,newTuple]; refine wpAny_bind (wpAny_newObj_type ?_ (by size_fits))
  refine wpAny_bind (m:=firstArgMember _ _) (wpAny_of_eq (a:=Value.none) (by first | rfl | (simp only [firstArgMember]; rfl)) ?_); refine wpAny_newObj_type ?_ (by size_fits)
  simp only [raiseNew]; refine wpAny_bind (wpAny_handled ?_); first | rw [show A.in1.handled=none from nh] | rw [nh]
  refine wpAny_bind (wpAny_pure (wpAny_throw ?_)); exact go _ _ (((Heap.SameBut.update ..).extBut.push _).push _) ⟨_,Heap.get?_push_size _ rfl,rfl⟩
theorem jdU {z TI TO i1 i2 t1:Addr} {i:Nat} {a b:Value} {xs:Array Value} {Q:Option Value->Shared->Prop} (nh:A.handled=none) (n1:i1≠z) (n2:t1≠z) (n3:t1≠i1)
    (hz:IsZip s.heap z TI TO .none) (hTI:IsPair s.heap TI (.ref i1) (.ref i2)) (hTO:IsPair s.heap TO a b) (h1:s.heap.IsTupleIter i1 t1 i) (hl1:s.heap.IsTuple t1 xs) (he:xs[i]? = none)
    (go:∀ h',(∀ c o,c≠z->c≠i1->s.heap.get? c=some o->h'.get? c=some o)->Q none { s with heap:=h' }):wpAny (model prog w) A (pyNext (.ref z)) Q E s:=by
  have hT:s.TypeIs (.ref z) "zip":=⟨_,hz,rfl⟩
  unfold pyNext
  refine wpAny_bind (wpAny_attempt (wpAny_callSpecial?_slot (name:=Str.ofString "__next__") hT F.slot_zip_next (wpAny_call_entry F.slot_zip_next hT F.entry_zip_next ?_ (F.args_zip_next_1 _))))
  show wpAny _ _ (field (.ref z) 2 >>= _) _ _ _; refine wpAny_bind (wpAny_field hz rfl (x:=.bool false) rfl ?_)
  show wpAny _ _ (field (.ref z) 3 >>= _) _ _ _; refine wpAny_bind (wpAny_field hz rfl (x:=.ref TI) rfl ?_)
  refine wpAny_bind (wpAny_seqItems hTI rfl ?_); show wpAny _ _ (Builtin.SmallTypes.ownedTupleIsFree (.ref z) >>= _) _ _ _
  refine wpAny_bind ?_; unfold Builtin.SmallTypes.ownedTupleIsFree; refine wpAny_bind (wpAny_field hz rfl (x:=.none) rfl (wpAny_pure ?_))
  simp only [if_true]; refine wpAny_bind (wpAny_rule ?_); refine wpAny_bind (wpAny_field hz rfl (x:=.ref TO) rfl ?_)
  refine wpAny_bind (wpAny_setField_rec hz (by simp) fun hA zA sA=>?_)
  replace zA:IsZip hA z TI TO .ellipsis:=zA
  refine wpAny_bind ?_; simp only [List.zipIdx_cons,List.zipIdx_nil,List.forIn_cons,List.forIn_nil]
  refine wpAny_bind (wpAny_bind (wpAny_onRaise ?_)); show wpAny _ _ (Builtin.SmallTypes.nextOf (.ref i1) >>= _) _ _ _
  refine wpAny_bind (jdm (its:=xs) nh (h1.extBut sA.extBut n1) (hl1.extBut sA.extBut n2) he fun hB e sB hex=>?_)
  obtain ⟨oe,hoe,hce⟩:=hex
  have zB:IsZip hB z TI TO .ellipsis:=sB _ _ n1.symm zA
  have hez:e≠z:=fun x=>by subst x; rw [zB] at hoe; cases hoe; simp at hce
  refine wpAny_setField_rec zB (by simp) fun hC _ sC=>?_
  refine wpAny_bind (wpAny_isInstance (T:="StopIteration") (b:=true) ⟨oe,sC.extBut _ _ hez hoe,hce⟩ isSubtype_stop ?_)
  exact wpAny_pure (go _ fun c o c1 c2 q=>sC.extBut _ _ c1 (sB _ _ c2 (sA.extBut _ _ c1 q)))
abbrev zT1 (h:Heap) (t:Addr):Heap:=h.push { cls:=.type "tuple_iterator",data:=.fields #[.ref t,.int 0 0] }
abbrev zT3 (h:Heap) (t u:Addr):Heap:=(zT1 (zT1 h t) u).push { cls:=.type "tuple",data:=.seq #[.ref h.objs.size,.ref (zT1 h t).objs.size] }
abbrev zT4 (h:Heap) (t u:Addr):Heap:=(zT3 h t u).push { cls:=.type "tuple",data:=.seq #[.none,.none] }
abbrev zT5 (h:Heap) (t u:Addr):Heap:=(zT4 h t u).push { cls:=.type "zip",data:=.fields #[.none,.bool false,.bool false,.ref (zT1 (zT1 h t) u).objs.size,.ref (zT3 h t u).objs.size] }
theorem jbs (t u:Addr) (xs ys:Array Value) :
    Meets (Builtin.«zip.__new__» ⟨[.type "zip",.ref t,.ref u],[]⟩) (fun _ R s=>s.heap.IsTuple t xs∧s.heap.IsTuple u ys∧R (.ok (.ret (.ref (zT4 s.heap t u).objs.size))) { s with heap:=zT5 s.heap t u }) :=
  .of_wp fun prog w A R s h=>by
    obtain ⟨hp,g,d,tk,os⟩:=s; obtain ⟨q1,q2,h⟩:=h
    have hsub:=sub_zip
    have hL1:Heap.IsTuple (Shared.heap ⟨hp,g,d,tk,os⟩) t xs:=q1
    have hL2:Heap.IsTuple (Shared.heap ⟨hp.push { cls:=.type "tuple_iterator",data:=.fields #[.ref t,.int 0 0] },g,d,tk,os⟩) u ys:=Heap.IsTuple.push q2 _
    wp_walk using wpAny_pyIter_tuple hL1,wpAny_pyIter_tuple hL2
    exact ⟨_,rfl,h⟩
theorem jdL {t u:Addr} {xs ys:Array Value} {Q:Value->Shared->Prop} (q1:s.heap.IsTuple t xs) (q2:s.heap.IsTuple u ys)
    (h:∀ h',IsZip h' (s.heap.objs.size + 4) (s.heap.objs.size + 2) (s.heap.objs.size + 3) .none->IsPair h' (s.heap.objs.size + 2) (.ref s.heap.objs.size) (.ref (s.heap.objs.size + 1))->IsPair h' (s.heap.objs.size + 3) .none .none ->
      h'.IsTupleIter s.heap.objs.size t 0->h'.IsTupleIter (s.heap.objs.size + 1) u 0->(∀ c o,s.heap.get? c=some o->h'.get? c=some o)->Q (.ref (s.heap.objs.size + 4)) { s with heap:=h' }) :
    wpAny (model prog w) A (call (.type "zip") [.ref t,.ref u]) Q E s:=by
  refine callType_new F.called_zip (by decide) (F.typeCall_zip_2 _ _) (F.newCall_zip_2 _ _) (fun obj=>F.args_object_init_3 obj _ _) F.entry_zip_new (jbs t u xs ys) ⟨q1,q2,?_⟩
  have z1:(zT1 s.heap t).objs.size=s.heap.objs.size + 1:=Heap.size_push ..
  have z2:(zT1 (zT1 s.heap t) u).objs.size=s.heap.objs.size + 2:=by rw [Heap.size_push,z1]
  have z3:(zT3 s.heap t u).objs.size=s.heap.objs.size + 3:=by rw [Heap.size_push,z2]
  have z4:(zT4 s.heap t u).objs.size=s.heap.objs.size + 4:=by rw [Heap.size_push,z3]
  have up:∀ c o,(zT3 s.heap t u).get? c=some o->(zT5 s.heap t u).get? c=some o:=fun c o q=>Heap.get?_push_of_some _ (Heap.get?_push_of_some _ q)
  have g5:(zT5 s.heap t u).get? (zT4 s.heap t u).objs.size=some _:=Heap.get?_push_size _ rfl
  have g4:(zT5 s.heap t u).get? (zT3 s.heap t u).objs.size=some _:=Heap.get?_push_of_some _ (Heap.get?_push_size _ rfl)
  have g3:(zT5 s.heap t u).get? (zT1 (zT1 s.heap t) u).objs.size=some _:=up _ _ (Heap.get?_push_size _ rfl)
  have g2:(zT5 s.heap t u).get? (zT1 s.heap t).objs.size=some _:=up _ _ (Heap.get?_push_of_some _ (Heap.get?_push_size _ rfl))
  have g1:(zT5 s.heap t u).get? s.heap.objs.size=some _:=up _ _ (Heap.get?_push_of_some _ (Heap.get?_push_of_some _ (Heap.get?_push_size _ rfl)))
  show _∧_
  rw [z2,z3,z4] at g5; rw [z1,z2] at g3; rw [z3] at g4; rw [z1] at g2; rw [z4]
  exact ⟨⟨_,g5,rfl⟩,h _ g5 g3 g4 ⟨_,g1,rfl,rfl⟩ ⟨_,g2,rfl,rfl⟩ fun c o x=>up _ _ (Heap.get?_push_of_some _ (Heap.get?_push_of_some _ (Heap.get?_push_of_some _ x)))⟩
end
def Itz0 (K:PySem.W.Frag) (a:Addr):It:=⟨fun _ _=>False,fun _ _ _ _=>False,fun _ H=>SqT K H a []⟩
theorem jcY {P:Program} {w:World} {K:PySem.W.Frag} {tg:Expr} (a z TI TO i1 i2:Addr) (n1:i1≠z) (n2:a≠z) (n3:a≠i1) :
    Turn P w K tg (Itz0 K a) [z,TO,i1,TI] z (fun i h=>IsZip h z TI TO .none∧IsPair h TI (.ref i1) (.ref i2)∧IsPair h TO .none .none∧h.IsTupleIter i1 a i) where
  mem:=by simp
  obj:=fun i h st c hc=>by
    obtain ⟨hz,ht,ho,⟨o1,q1,_,d1⟩⟩:=st
    simp only [List.mem_cons,List.mem_nil_iff,or_false] at hc
    rcases hc with rfl | rfl | rfl | rfl
    · exact ⟨_,hz,fun v e=>by have e:Data.fields _=Data.cell v:=e; cases e⟩
    · exact ⟨_,ho,fun v e=>by have e:Data.seq _=Data.cell v:=e; cases e⟩
    · exact ⟨o1,q1,fun v e=>by rw [d1] at e; cases e⟩
    · exact ⟨_,ht,fun v e=>by have e:Data.seq _=Data.cell v:=e; cases e⟩
  keep:=fun i h h' st k=>by
    obtain ⟨hz,ht,ho,⟨o1,q1,r⟩⟩:=st
    exact ⟨k z (by simp) _ hz,k TI (by simp) _ ht,k TO (by simp) _ ho,⟨o1,k i1 (by simp) _ q1,r⟩⟩
  item:=fun _ _ _ _ _ _ _ _ _ _ _ _ _ _ hg=>hg.elim
  done:=by
    intro X hP hw hK hc i pins s σ H E I hf st hg
    subst hP hw hK
    obtain ⟨hz,ht,ho,q1⟩:=st
    obtain ⟨its,r1,p1,_⟩:=I.tuple hg
    have l1:=r1.length
    refine jdU (xs:=its.toArray) (I.ok.hd hc) n1 n2 n3 hz ht ho q1 p1 (by have:its=[]:=List.length_eq_zero_iff.mp l1.symm; subst this; simp) fun h' keep=>⟨rfl,I.turnedL (t':=s.toks) (ch:=[z,i1]) (fun c o hn q=>?_) fun c hc=>hf c ?_⟩
    · simp only [List.mem_cons,List.mem_nil_iff,or_false,not_or] at hn
      exact keep c o hn.1 hn.2 q
    · simp only [List.mem_cons,List.mem_nil_iff,or_false] at hc ⊢
      rcases hc with h | h
      · exact .inl h
      · exact .inr (.inr (.inl h))
  self:=fun _ _ _ _ _ st h=>wpAny_pyIter_zip st.1 h
section
variable {X:Cx} {elts:List Expr} {x1:Nat} {tpos:Pos}
theorem jdT {tg:Expr} {pins:List (Addr × Obj)} {σ:St} {H1:Hp} {s1:Shared} {R:It->Hp->Prop} {a b:Addr} {ys:List V} (I1:Inv X pins σ H1 s1) (hx:SqT X.K H1 a []) (hy:SqT X.K H1 b ys) (q:R (Itz0 X.K a) H1) :
    wpAny (model X.prog X.w) X.A (call (.type "zip") [.ref a,.ref b]) (fun v s2=>wpAny (model X.prog X.w) X.A (pyIter v) (PIE X pins σ tg R) X.xe s2) X.xe s1:=by
  obtain ⟨is1,_,p1,_⟩:=I1.tuple hx
  obtain ⟨is2,_,p2,_⟩:=I1.tuple hy
  have p1:s1.heap.IsTuple a is1.toArray:=p1
  have p2:s1.heap.IsTuple b is2.toArray:=p2
  have la:a < s1.heap.objs.size:=let ⟨o,q,_⟩:=p1; Heap.lt_size q
  refine jdL p1 p2 fun h' z ti to j1 j2 keep=>?_
  refine wpAny_pyIter_zip z ?_
  have n1:s1.heap.objs.size≠s1.heap.objs.size + 4:=Nat.ne_of_lt (Nat.lt_add_of_pos_right (by decide))
  have n2:a≠s1.heap.objs.size + 4:=Nat.ne_of_lt (Nat.lt_of_lt_of_le la (Nat.le_add_right _ _))
  refine ⟨s1.heap.objs.size + 4,_,_,_,H1,rfl,I1.kept (t':=s1.toks) keep,jcY a _ _ _ s1.heap.objs.size (s1.heap.objs.size + 1) n1 n2 (Nat.ne_of_lt la),⟨z,ti,to,j1⟩,fun c hc=>?_,q⟩
  have:s1.heap.objs.size<=c:=by
    simp only [List.mem_cons,List.mem_nil_iff,or_false] at hc
    rcases hc with rfl | rfl | rfl | rfl
    · exact Nat.le_add_right _ _
    · exact Nat.le_add_right _ _
    · exact Nat.le_refl _
    · exact Nat.le_add_right _ _
  exact I1.fpOk this (I1.hok.fresh this)
def iZip (K:PySem.W.Frag) (ta:TA):TI:=fun σ H R=>ta σ H fun vs H1=>∃ a b,vs=[.ref a,.ref b]∧(((∃ xs,SqL K H1 a xs)∧(∃ ys,SqL K H1 b ys)∧R (Itz K a b) H1)∨(SqT K H1 a []∧(∃ ys,SqT K H1 b ys)∧R (Itz0 K a) H1))
theorem pi_zip {l m:Expr} {ta:TA} {p pos:Pos} (hg:Gl X "zip") (hm:X.mg "zip" = none) (ha:PA X [l,m] ta) (hs:starEach [l,m] X.env=(false,eval l X.env) :: starEach [m] X.env:=by rfl) (hs2:starEach [m] X.env=[(false,eval m X.env)]:=by rfl):PI X (.Tuple elts x1 tpos) (.Call (.Name "zip" p) [l,m] [] pos) (iZip X.K ta):=by
  intro pins s σ H R I h
  refine Call_ (Yu I hg hm bt_zip (PyProof.Rows.callWith_type1 (thn (ha pos pins s σ H _ I h) fun us s1 hQQ=>?_) hs (by rw [hs2]; rfl)))
  obtain ⟨vs,H1,I1,r1,q1⟩:=hQQ
  obtain ⟨a,b,e,q⟩:=q1
  subst e
  obtain ⟨u,v,rfl,ru,rv⟩:=yg.two r1
  cases ru
  cases rv
  rcases q with ⟨⟨xs,hx⟩,⟨ys,hy⟩,q⟩ | ⟨hx,⟨ys,hy⟩,q⟩
  · exact jcT I1 hx hy q
  · exact jdT I1 hx hy q
end
end L2

namespace HT
open PySem PySem.Spec PyProof.Rows
section
variable {prog:Program} {w:World} {A:Around} {E:Value->Shared->Prop} {s:Shared}
theorem getItem_tuple_all {t sl:Addr} {items:Array Value} {vl vu:Value} {lo hi:Option Int} {Q:Value->Shared->Prop} (ht:IsTup s.heap t items) (hs:s.heap.IsSliceOf sl vl vu .none) (pl:IsPart vl lo) (pu:IsPart vu hi)
    (h0:sIx items.size 0 lo=0) (h1:sIx items.size items.size hi=items.size) (h:Q (.ref t) s):wpAny (model prog w) A (getItem (.ref t) (.ref sl)) Q E s:=by
  obtain ⟨os,hos,hcs,hds⟩:=id hs; have hTs:s.TypeIs (.ref sl) "slice":=⟨os,hos,hcs⟩
  unfold getItem; try with_reducible refine wpAny_holding ?_
  (first | refine wpAny_bind (wpAny_pure ?_) | skip); refine wpAny_bind (wpAny_sequenceKey ht.typeIs (by decide) ?_)
  refine wpAny_bind (wpAny_callSpecial?_slot (name:=Str.ofString "__getitem__") ht.typeIs PyProof.Rows.slot_tuple_getitem (wpAny_call_entry PyProof.Rows.slot_tuple_getitem ht.typeIs entry_tuple_getitem ?_ (args_tuple_getitem _ _)))
  show wpAny _ _ (Builtin.Tuple.tupleItemsOf (.ref t) >>= _) _ _ s; refine wpAny_bind (tupleItemsOf_ ht ?_); refine wpAny_bind (wpAny_typeOf hTs ?_)
  rw [if_pos (by decide)]; refine wpAny_bind (xQ hs pl pu ?_)
  have hy:((((sIx items.size 0 lo:Nat):Int) == 0 && (1:Int) == 1 && (sIx items.size items.size hi - sIx items.size 0 lo) == items.size)=true):=by rw [h0,h1]; simp
  show wpAny _ _ (if (((sIx items.size 0 lo:Nat):Int) == 0 && (1:Int) == 1 && (sIx items.size items.size hi - sIx items.size 0 lo) == items.size)=true then _ else _) _ _ s
  rw [if_pos hy]
  refine wpAny_bind (m:=Builtin.Tuple.tupleIsExact _) ?_; unfold Builtin.Tuple.tupleIsExact; refine wpAny_bind (wpAny_typeOf ht.typeIs (wpAny_pure ?_)); rw [if_pos (by decide)]
  exact wpAny_bind (wpAny_rule (wpAny_pure ⟨_,rfl,wpAny_pure h⟩))
end
end HT
namespace L2
open PySem PySem.Spec PyProof.Rows
section
variable {X:Cx}
def rSlW (K:PySem.W.Frag):V->Option Int->Option Int->Hp->VK->Prop:=fun x lo hi H Q=>∃ a xs,x = .ref a∧SqT K H a xs∧(HT.sIx xs.length 0 lo=0∧HT.sIx xs.length xs.length hi=xs.length)∧Q (.ref a) H
theorem jgM:SlR X (rSlW X.K):=by
  intro pins s σ H x v vl vu lo hi sl Q I rx hs pl pu h
  obtain ⟨a,xs,rfl,hx,hw,q⟩:=h
  cases rx
  obtain ⟨its,r,ht,hz⟩:=I.tuple hx
  have hlen:its.toArray.size=xs.length:=by rw [List.size_toArray]; exact r.length.symm
  exact ⟨"tuple",_,PyProof.Rows.slot_tuple_getitem.lookup,ht.typeIs,HT.getItem_tuple_all ht hs pl pu (by rw [hlen]; exact hw.1) (by rw [hlen]; exact hw.2) ⟨.ref a,H,I,rfl,q⟩⟩
end
end L2

namespace L2
open PySem PySem.Spec PyProof.Rows
section
variable {prog:Program} {w:World} {A:Around} {E:Value->Shared->Prop} {s:Shared}
end
end L2

namespace L2
open PySem PySem.Spec PyProof.Rows
theorem Paired.at {α β:Type} {F:α->β->Prop} {l₁:List α} {l₂:List β} (h:Paired F l₁ l₂):∀ {i:Nat} {x:α},l₁[i]? = some x->∃ y,l₂[i]? = some y∧F x y:=by
  induction h with
  | nil=>intro i x e; simp at e
  | cons r t ih =>
    intro i x e
    cases i with
    | zero=>cases e; exact ⟨_,rfl,r⟩
    | succ i=>exact ih (i:=i) e
section
variable {X:Cx} {elts:List Expr} {x1:Nat} {tpos:Pos}
end
end L2

namespace L2
open PySem PySem.Spec PyProof.Rows
abbrev NK:=Int × List Key
section
variable {prog:Program} {w:World}
def yS (prog:Program) (w:World) (h:Heap) (k:NK) (a:Addr):Prop :=
  ∃ o items n t c,h.get? a=some o∧o.cls = .type "tuple"∧o.data = .seq items n∧items.toList=[.int k.1 t,.ref c]∧(tupleKind (yf prog w)).is h k.2 c
def Ys (prog:Program) (w:World) (k:NK):Int:=reduceHash (Builtin.Tuple.tupleHashOf [(yf prog w).hash (.inl k.1),(tupleKind (yf prog w)).hash k.2])
theorem yS.typeIs {s:Shared} {k:NK} {a:Addr} (x:yS prog w s.heap k a):s.TypeIs (.ref a) "tuple":=by
  obtain ⟨o,_,_,_,_,ho,hc,_⟩:=x
  exact ⟨o,ho,hc⟩
theorem yS.inj {h:Heap} {a:Addr} {x y:NK} (hx:yS prog w h x a) (hy:yS prog w h y a):x=y:=by
  obtain ⟨o,its,n,t,c,ho,_,hd,hi,hk⟩:=hx
  obtain ⟨o',its',n',t',c',ho',_,hd',hi',hk'⟩:=hy
  rw [ho] at ho'
  cases ho'
  rw [hd] at hd'
  injection hd' with h1 _
  subst h1
  rw [hi] at hi'
  injection hi' with h1 h2
  injection h1 with h1 _
  injection h2 with h2 _
  injection h2 with h2
  subst h2
  exact Prod.ext h1 ((tupleKind (yf prog w)).inj hk hk')
theorem yS.keeps {h h':Heap} {k:NK} {a d:Addr} {o:Obj} {es ep} (x:yS prog w h k a) (ho:h.get? d=some o) (hd:o.data = .dict es ep) (hs:Heap.SameBut d h h'):yS prog w h' k a:=by
  obtain ⟨o',its,n,t,c,ho',hc,hd',hi,hk⟩:=x
  have hne:a≠d:=by
    rintro rfl
    rw [ho] at ho'
    cases ho'
    rw [hd] at hd'
    cases hd'
  exact ⟨o',its,n,t,c,(hs.2 a hne).trans ho',hc,hd',hi,(tupleKind (yf prog w)).keeps hk ho hd hs⟩
theorem jbz (i:Int) (t:Tok):(yf prog w).is (.inl i) (.int i t)=true:=Vp i t
variable {A:Around} {E:Value->Shared->Prop} {s:Shared}
theorem jdo {k:NK} {a:Addr} {Q:Int->Shared->Prop} (hu:A.units + 8 < cLine) (hk:yS prog w s.heap k a) (h:Q (Ys prog w k) { s with toks:=s.toks + (k.2.length + 3) }) :
    wpAny (model prog w) A (pyHash (.ref a)) Q E s:=by
  have hT:=hk.typeIs
  obtain ⟨o,its,n,t,c,ho,_,hd,hi,hkc⟩:=hk
  unfold pyHash
  first | unfold pyHashByItsType | skip
  first | refine wpAny_bind (wpAny_cRoomFor_or (.inr (by omega)) ?_) | skip
  refine wpAny_bind (wpAny_specialOf hT PySem.F.slot_tuple_hash.lookup ?_)
  show wpAny _ _ (if (some (Value.builtin "tuple.__hash__") == some Value.none)=true then _ else _) Q E s
  rw [if_neg (by rw [beq_builtin_none]; exact Bool.false_ne_true)]
  refine wpAny_bind (wpAny_specialOf hT PySem.F.slot_tuple_hash.lookup ?_)
  show wpAny _ _ (callSpecialIfBoundUnlessNone? (.ref a) "__hash__" _ >>= _) Q E s
  refine wpAny_bind (wpAny_callSpecialIfBoundUnlessNone?_slot hT PySem.F.slot_tuple_hash (wpAny_call_entry PySem.F.slot_tuple_hash hT PySem.F.entry_tuple_hash ?_ (PySem.F.args_tuple_hash_1 _)))
  show wpAny _ _ (Builtin.Tuple.tupleItemsOf (.ref a) >>= _) _ _ s
  refine wpAny_bind (wpAny_tupleItemsOf ho hd ?_)
  refine wpAny_bind ?_
  rw [<- Array.forIn_toList,hi]
  refine wpAny_forIn_list _
    (fun rest (b:Array Int) s'=>(rest=[.int k.1 t,.ref c]∧b = #[]∧s'=s)∨(rest=[.ref c]∧b = #[(yf prog w).hash (.inl k.1)]∧s'={ s with toks:=s.toks + 1 }) ∨
      (rest=[]∧b = #[(yf prog w).hash (.inl k.1),(tupleKind (yf prog w)).hash k.2]∧s'={ s with toks:=s.toks + (k.2.length + 2) }))
    _ ?_ ?_ _ _ (.inl ⟨rfl,rfl,rfl⟩)
  · rintro x rest b s' (⟨e,rfl,rfl⟩ | ⟨e,rfl,rfl⟩ | ⟨e,_⟩)
    · cases e
      refine wpAny_bind ((yf prog w).pyHash (jbz k.1 t) ?_)
      first
        | exact wpAny_pure (.inr (.inl ⟨rfl,rfl,rfl⟩))
        | exact wpAny_bind (wpAny_pure (wpAny_pure (.inr (.inl ⟨rfl,rfl,rfl⟩))))
    · cases e
      have z:∀ q:Shared,q={ s with toks:=s.toks + 1 + (k.2.length + 1) }->q={ s with toks:=s.toks + (k.2.length + 2) }:=fun q hq=>by rw [hq]; congr 1; omega
      refine wpAny_bind ((tupleKind (yf prog w)).pyHash (show _ < cLine by show A.units + _ < cLine; omega) hkc ?_)
      first
        | exact wpAny_pure (.inr (.inr ⟨rfl,rfl,z _ rfl⟩))
        | exact wpAny_bind (wpAny_pure (wpAny_pure (.inr (.inr ⟨rfl,rfl,z _ rfl⟩))))
    · cases e
  · rintro b s' (⟨e,_⟩ | ⟨e,_⟩ | ⟨_,rfl,rfl⟩)
    · cases e
    · cases e
    show wpAny _ _ (retInt (Builtin.Tuple.tupleHashOf [(yf prog w).hash (.inl k.1),(tupleKind (yf prog w)).hash k.2])) _ _ _
    refine wpAny_ret_mkInt ?_
    unfold Ys reduceHash at h
    generalize Builtin.Tuple.tupleHashOf [(yf prog w).hash (.inl k.1),(tupleKind (yf prog w)).hash k.2]=z at h ⊢
    show wpAny _ _ (if (decide (-(2:Int) ^ 63<=z) && decide (z < 2 ^ 63))=true then _ else _) Q E _
    have hs:∀ {v:Int},Q v { s with toks:=s.toks + (k.2.length + 3) }->Q v { s with toks:=s.toks + (k.2.length + 2) + 1 }:=fun {v} q=>by
      rw [show s.toks + (k.2.length + 2) + 1=s.toks + (k.2.length + 3) by omega]
      exact q
    by_cases hr:(decide (-(2:Int) ^ 63<=z) && decide (z < 2 ^ 63))=true
    · rw [if_pos hr] at h ⊢
      exact wpAny_pure (hs h)
    · rw [if_neg hr] at h ⊢
      exact wpAny_bind (wpAny_rule (wpAny_pure (hs h)))
theorem jah {x y:NK} {a b:Addr} {P:Fin->Shared->Prop} (hu:A.units + 8 < cLine) (hx:yS prog w s.heap x a) (hy:yS prog w s.heap y b) (h:P (.done (.ret (.bool (decide (x=y))))) s) :
    wpAny (model prog w) A (Builtin.«tuple.__eq__» ⟨[.ref a,.ref b],[]⟩) P E s:=by
  have hTb:=hy.typeIs
  obtain ⟨oa,xs,na,t,c,hoa,_,hda,hia,hka⟩:=hx
  obtain ⟨ob,ys,nb,t',c',hob,_,hdb,hib,hkb⟩:=hy
  show wpAny _ _ (isInstance (.ref b) (.type "tuple") >>= _) _ _ s
  refine wpAny_bind (wpAny_isInstance hTb isSubtype_tuple_tuple ?_)
  simp only [Bool.not_true,Bool.false_eq_true,if_false]
  refine wpAny_bind (wpAny_tupleItemsOf hoa hda ?_)
  refine wpAny_bind (wpAny_tupleItemsOf hob hdb ?_)
  have hsz:(xs.size == ys.size)=true:=by
    rw [<- Array.length_toList,<- Array.length_toList,hia,hib]
    rfl
  refine wpAny_bind ?_
  rw [hia,hib]
  refine wpAny_forIn_list _
    (fun rest r s'=>r.1=none∧s'=s∧(rest=[(.int x.1 t,.int y.1 t'),(.ref c,.ref c')]∨(rest=[(.ref c,.ref c')]∧x.1=y.1)∨(rest=[]∧x=y)))
    _ ?_ ?_ _ _ ⟨rfl,rfl,.inl rfl⟩
  · rintro ⟨u,v⟩ rest r s' ⟨hr,rfl,(e | ⟨e,e1⟩ | ⟨e,_⟩)⟩
    · cases e
      refine wpAny_bind ((yf prog w).eqBool (a:=.inl x.1) (b:=.inl y.1) (jbz x.1 t) (jbz y.1 t') ?_)
      by_cases hk:x.1=y.1
      · rw [decide_eq_true (by rw [hk])]
        simp only [Bool.not_true,Bool.false_eq_true,if_false]
        exact wpAny_pure ⟨rfl,rfl,.inr (.inl ⟨trivial,hk⟩)⟩
      · rw [decide_eq_false (fun z=>hk (Sum.inl.inj z))]
        simp only [Bool.not_false,if_true]
        rw [decide_eq_false (fun z=>hk (by rw [z]))] at h
        exact wpAny_bind (wpAny_pure (wpAny_pure (wpAny_pure h)))
    · cases e
      refine wpAny_bind ((tupleKind (yf prog w)).eqBool (show A.units < cLine by omega) hka hkb ?_)
      by_cases hk:x.2=y.2
      · rw [decide_eq_true hk]
        simp only [Bool.not_true,Bool.false_eq_true,if_false]
        exact wpAny_pure ⟨rfl,rfl,.inr (.inr ⟨trivial,Prod.ext e1 hk⟩)⟩
      · rw [decide_eq_false hk]
        simp only [Bool.not_false,if_true]
        rw [decide_eq_false (fun z=>hk (by rw [z]))] at h
        exact wpAny_bind (wpAny_pure (wpAny_pure (wpAny_pure h)))
    · cases e
  · rintro ⟨r1,r2⟩ s' ⟨hr,rfl,(e | ⟨e,_⟩ | ⟨_,e⟩)⟩
    · cases e
    · cases e
    · simp only at hr
      subst hr
      refine wpAny_pure ?_
      show P (.done (.ret (.bool (xs.size == ys.size)))) s'
      rw [hsz]
      rw [decide_eq_true e] at h
      exact h
theorem jhH {x y:NK} {a b:Addr} {Q:Bool->Shared->Prop} (hu:A.units + 16 < cLine) (hx:yS prog w s.heap x a) (hy:yS prog w s.heap y b) (h:Q (decide (x=y)) s) :
    wpAny (model prog w) A (eqBool (.ref a) (.ref b)) Q E s:=by
  unfold eqBool
  try with_reducible refine wpAny_holding ?_
  show wpAny _ _ (if (Value.ref a == Value.ref b)=true then _ else _) Q E s
  by_cases hab:(Value.ref a == Value.ref b)=true
  · rw [if_pos hab]
    have e:a=b:=by
      have:=eq_of_beq hab
      injection this
    subst e
    rw [decide_eq_true (hx.inj hy)] at h
    exact wpAny_bind (wpAny_rule (wpAny_pure h))
  · rw [if_neg hab]
    exact wpAny_bind (wpAny_richCompare_same_room (op:=.Eq) hx.typeIs hy.typeIs PySem.F.slot_tuple_eq
      (wpAny_call_entry PySem.F.slot_tuple_eq hx.typeIs PySem.F.entry_tuple_eq (jah (by show A.units + _ + 8 < cLine; omega) hx hy ⟨_,rfl,(fun e=>nomatch e),wpAny_truthy_bool h⟩) (PySem.F.args_tuple_eq_2 _ _)) (by omega))
theorem jdf {n:Nat} {ks:List Key} {a:Addr} {Q:Bool->Shared->Prop} (hk:(tupleKind (yf prog w)).is s.heap ks a) (h:Q true s):wpAny (model prog w) A (eqIsQuiet (n + 1) (.ref a)) Q E s:=by
  have hk:IsTupleKey (yf prog w) s.heap ks a:=hk
  have hT:=hk.typeIs
  obtain ⟨o,items,m,ho,_,hd,hi⟩:=hk
  unfold eqIsQuiet
  refine wpAny_bind (wpAny_specialOf hT PySem.F.slot_tuple_eq.lookup ?_)
  show wpAny _ _ (isInstance (.ref a) (.type "tuple") >>= _) _ _ s
  refine wpAny_bind (wpAny_isInstance hT isSubtype_tuple_tuple ?_)
  simp only [Bool.not_true,Bool.false_eq_true,if_false]
  refine wpAny_bind (wpAny_seqItems ho hd ?_)
  refine wpAny_bind ?_
  show wpAny _ _ (forIn items _ _) _ _ s
  rw [<- Array.forIn_toList]
  refine wpAny_forIn_list _ (fun rest r s'=>r.1=none∧s'=s∧∀ v ∈ rest,carriedByValue v=true) _ ?_ ?_ _ _ ⟨rfl,rfl,hi.byValue⟩
  · rintro v rest r s' ⟨hr,rfl,hall⟩
    rw [eqIsQuiet_byValue _ (hall v List.mem_cons_self)]
    refine wpAny_bind (wpAny_pure ?_)
    simp only [Bool.not_true,Bool.false_eq_true,if_false]
    exact wpAny_pure ⟨rfl,rfl,fun u hu'=>hall u (List.mem_cons_of_mem _ hu')⟩
  · rintro ⟨r1,r2⟩ s' ⟨hr,rfl,_⟩
    simp only at hr
    subst hr
    exact wpAny_pure h
theorem jbr {k:NK} {a:Addr} {Q:Bool->Shared->Prop} (hk:yS prog w s.heap k a) (h:Q true s):wpAny (model prog w) A (eqIsQuiet 8 (.ref a)) Q E s:=by
  have hT:=hk.typeIs
  obtain ⟨o,items,m,t,c,ho,_,hd,hi,hkc⟩:=hk
  unfold eqIsQuiet
  refine wpAny_bind (wpAny_specialOf hT PySem.F.slot_tuple_eq.lookup ?_)
  show wpAny _ _ (isInstance (.ref a) (.type "tuple") >>= _) _ _ s
  refine wpAny_bind (wpAny_isInstance hT isSubtype_tuple_tuple ?_)
  simp only [Bool.not_true,Bool.false_eq_true,if_false]
  refine wpAny_bind (wpAny_seqItems ho hd ?_)
  refine wpAny_bind ?_
  show wpAny _ _ (forIn items _ _) _ _ s
  rw [<- Array.forIn_toList,hi]
  refine wpAny_forIn_list _ (fun rest r s'=>r.1=none∧s'=s∧(rest=[.int k.1 t,.ref c]∨rest=[.ref c]∨rest=[])) _ ?_ ?_ _ _ ⟨rfl,rfl,.inl rfl⟩
  · rintro v rest r s' ⟨hr,rfl,(e | e | e)⟩
    · cases e
      rw [eqIsQuiet_byValue _ (show carriedByValue (.int k.1 t)=true from rfl)]
      refine wpAny_bind (wpAny_pure ?_)
      simp only [Bool.not_true,Bool.false_eq_true,if_false]
      exact wpAny_pure ⟨rfl,rfl,.inr (.inl trivial)⟩
    · cases e
      refine wpAny_bind (jdf hkc ?_)
      simp only [Bool.not_true,Bool.false_eq_true,if_false]
      exact wpAny_pure ⟨rfl,rfl,.inr (.inr trivial)⟩
    · cases e
  · rintro ⟨r1,r2⟩ s' ⟨hr,rfl,_⟩
    simp only at hr
    subst hr
    exact wpAny_pure h
end
def yn (prog:Program) (w:World):HeapKind prog w NK where
  is:=yS prog w
  hash:=Ys prog w
  draws:=fun k=>k.2.length + 3
  room:=fun A=>A.units + 16 < cLine
  inj:=fun hx hy=>hx.inj hy
  keeps:=fun x ho hd hs=>x.keeps ho hd hs
  pyHash:=fun hu hk h=>jdo (by omega) hk h
  eqBool:=fun hu hx hy h=>jhH hu hx hy h
  quiet:=fun hk h=>jbr hk h
end L2

namespace L2
open PySem PySem.Spec PyProof.Rows
def nHash (w:World) (k:NK):Int:=reduceHash (Builtin.Tuple.tupleHashOf [keyH w (.inl k.1),reduceHash (Builtin.Tuple.tupleHashOf (k.2.map (keyH w)))])
def ndF (w:World) (d:Addr) (xs:List (NK × Addr × Value)):Heap->Prop:=fun h=>(d == sysModules)=false∧xs.length<=sizeLine∧(xs.map (·.1)).Nodup ∧
  ∃ o es ep,h.get? d=some o∧o.ExactDict∧o.data = .dict es ep∧es.toList=xs.map fun x=>⟨nHash w x.1,.ref x.2.1,x.2.2⟩
def ndO (w:World) (d:Addr) (xs:List (NK × Addr × Value)):HO:=.ext (ndF w d xs)
def IsN (w:World) (H:Hp) (a:Addr) (xs:List (NK × Addr × Value)):Prop:=(xs=[]∧H a=some (.dT []))∨H a=some (ndO w a xs)
def vH (K:PySem.W.Frag) (H:Hp) (k:NK) (b:Addr):Prop:=∃ c,H b=some (.tup [.int k.1,.ref c])∧SqT K H c (k.2.map kV)
theorem ndO_ok {P:Program} {w:World} {H:Hp} {h:Heap} {d:Addr} {xs:List (NK × Addr × Value)} (x:ndF w d xs h):yr P w H h d (ndO w d xs):=by
  refine ⟨x,?_,fun h1 h2 y k=>?_⟩
  · obtain ⟨_,_,_,o,_,_,e,_⟩:=x
    exact ⟨o,e⟩
  · obtain ⟨a1,a2,a3,o,es,ep,e,r⟩:=y
    exact ⟨a1,a2,a3,o,es,ep,k o e,r⟩
section
variable {X:Cx} {pins:List (Addr × Obj)} {σ:St} {H:Hp} {s:Shared} {a b:Addr} {k:NK} {xs:List (NK × Addr × Value)}
theorem Ut (I:Inv X pins σ H s) (h:vH X.K H k b):(yn X.prog X.w).is s.heap k b:=by
  obtain ⟨c,e1,e2⟩:=h
  obtain ⟨_,its,r,o,h1,h2,n,h3⟩:=(show yr X.prog X.w H s.heap b (.tup [.int k.1,.ref c]) from I.hok b _ e1)
  obtain ⟨its',r',⟨o',g1,g2,n',g3⟩,_⟩:=I.tuple e2
  cases r with
  | cons r1 r2 =>
    cases r2 with
    | cons r3 r4 =>
      cases r4
      obtain ⟨t,rfl⟩:=r1
      cases r3
      exact ⟨o,_,n,t,c,h1,h2,h3,rfl,o',_,n',g1,g2,g3,by simpa using Jn r'⟩
theorem jcw (I:Inv X pins σ H s) (h:IsN X.w H a xs):ndF X.w a xs s.heap:=by
  rcases h with ⟨rfl,e⟩ | e
  · obtain ⟨z,y,xs,r,o,es,ep,h1,h2,h3,h4,h5⟩:=(show yr X.prog X.w H s.heap a (.dT []) from I.hok a _ e)
    cases r
    exact ⟨y,Nat.zero_le _,List.nodup_nil,o,es,ep,h1,h2,h3,h4⟩
  · exact (show yr X.prog X.w H s.heap a (ndO X.w a xs) from I.hok a _ e).1
theorem jao (I:Inv X pins σ H s) (h:IsN X.w H a xs) (ks:∀ x ∈ xs,vH X.K H x.1 x.2.1):s.heap.DictOfH (yn X.prog X.w) a xs:=by
  obtain ⟨_,_,h3,o,es,ep,h4,h5,h6,h7⟩:=jcw I h
  exact ⟨o,es,ep,h4,h5,h6,h7,fun x hx=>Ut I (ks x hx),h3⟩
theorem jfw (I:Inv X pins σ H s) (h:IsN X.w H a xs):s.TypeIs (.ref a) "dict"∧(∀ b,Value.ref a = .ref b->∃ ob,s.heap.get? b=some ob∧ob.dict=none):=by
  obtain ⟨_,_,_,o,es,ep,h4,h5,_⟩:=jcw I h
  refine ⟨⟨o,h4,h5.1⟩,fun b q=>?_⟩
  cases q
  exact ⟨o,h4,h5.2.1⟩
end
section
variable {prog:Program} {w:World} {A:Around} {E:Value->Shared->Prop} {s:Shared} {xs:List (NK × Addr × Value)}
theorem jgP {d a:Addr} {k:NK} {v:Value} {Q:Value->Shared->Prop} (hu:(yn prog w).room A) (hkey:(yn prog w).is s.heap k a) (hm:s.heap.DictOfH (yn prog w) d xs)
    (h1:∀ p,atKey xs k=some p->Q p.2 { s with toks:=s.toks + (yn prog w).draws k })
    (h2:atKey xs k=none->∀ h',h'.DictOfH (yn prog w) d (xs ++ [(k,a,v)])->Heap.SameBut d s.heap h'->Q v { s with heap:=h',toks:=s.toks + (yn prog w).draws k })
    (hsz:xs.length<=sizeLine):wpAny (model prog w) A (dictSetDefault d (.ref a) v) Q E s:=by
  obtain ⟨o,es,ep,ho,hc,hd,he,his,hn⟩:=hm
  unfold dictSetDefault
  try with_reducible refine wpAny_holding ?_
  refine wpAny_bind ((yn prog w).pyHash hu hkey ?_)
  refine wpAny_bind (wpAny_dictFind_heap (knd:=yn prog w) (s:={ s with toks:=s.toks + (yn prog w).draws k }) hu hkey ho hd he his hn ?_ ?_)
  · intro hno
    have hnot:k ∉ xs.map (·.1):=not_mem_keys_of_get hno
    have hnn:=atKey_none_of_get hno
    refine wpAny_bind (wpAny_rule (wpAny_bind (wpAny_updateDictKeys (hz:=by have e:=size_of_entries he; omega) (s:={ s with toks:=s.toks + (yn prog w).draws k }) ho hd (wpAny_pure (h2 hnn _ ⟨_,_,ep + 1,Heap.get?_update_self _ ho (Obj.isFreed_of_dict (Obj.data_mapDictKeys hd _)),
      hc.mapDictKeys _,Obj.data_mapDictKeys hd _,?_,?_,?_⟩ (Heap.SameBut.update ..))))))
    · simp [he,entryOfKey]
    · intro x hx
      rcases List.mem_append.mp hx with hx | hx
      · exact (yn prog w).keeps (his x hx) ho hd (Heap.SameBut.update ..)
      · rw [List.mem_singleton.mp hx]
        exact (yn prog w).keeps hkey ho hd (Heap.SameBut.update ..)
    · rw [List.map_append,List.nodup_append]
      refine ⟨hn,by simp,fun x hx y hy=>?_⟩
      have hy:y=k:=List.mem_singleton.mp hy
      subst hy
      exact fun e=>hnot (e ▸ hx)
  · intro j p hj
    refine wpAny_bind (wpAny_dictEntries (s:={ s with toks:=s.toks + (yn prog w).draws k }) ho hd ?_)
    rw [entry_at he j,hj]
    exact wpAny_bind (wpAny_rule (wpAny_pure (h1 p (atKey_of_get hn hj))))
theorem Xa (d a:Addr) (hd:(d == sysModules)=false) (dflt:Value) :
    MeetsIn prog w (Builtin.«dict.setdefault» ⟨[.ref d,.ref a,dflt],[]⟩) (fun A R s=>(yn prog w).room A.in1∧∃ k xs,(yn prog w).is s.heap k a∧s.heap.DictOfH (yn prog w) d xs∧xs.length<=sizeLine ∧
      (∀ p,atKey xs k=some p->R (.ok (.ret p.2)) { s with toks:=s.toks + (yn prog w).draws k }) ∧
      (atKey xs k=none->∀ h',h'.DictOfH (yn prog w) d (xs ++ [(k,a,dflt)])->Heap.SameBut d s.heap h'->R (.ok (.ret dflt)) { s with heap:=h',toks:=s.toks + (yn prog w).draws k })) :=
  .of_wp fun A R s hQQ=>by
    obtain ⟨hu,k,xs,hkey,hm,hsz,h1,h2⟩:=hQQ
    unfold Builtin.«dict.setdefault»
    refine wpAny_bind ?_
    unfold Builtin.Dict.keyAndDefault
    refine wpAny_bind (wpAny_notOrdered_dict hm.typeIs ?_)
    show wpAny _ _ (pure (d,Value.ref a,some dflt)) _ _ s
    refine wpAny_pure ?_
    show wpAny _ _ (if (d == sysModules)=true then _ else (dictSetDefault d (.ref a) dflt >>= _)) _ _ s
    rw [if_neg (by rw [hd]; exact Bool.false_ne_true)]
    exact wpAny_bind (jgP hu hkey hm (fun p hp=>wpAny_pure ⟨p.2,rfl,h1 p hp⟩) (fun hn h' hm' hs'=>wpAny_pure ⟨dflt,rfl,h2 hn h' hm' hs'⟩) hsz)
end
section
variable {X:Cx} {pins:List (Addr × Obj)} {σ:St} {H:Hp} {s:Shared} {a b:Addr} {d:V} {r:Value} {A:Around} {E:Value->Shared->Prop} {xs:List (NK × Addr × Value)} {k:NK}
theorem jep (hu:A.units + 32 < cLine):(yn X.prog X.w).room A.in1:=by
  show A.units + 1 + 16 < cLine
  omega
theorem jfj {Q:Value->Shared->Prop} (hu:A.units + 32 < cLine) (I:Inv X pins σ H s) (e:IsN X.w H a xs) (ks:∀ x ∈ xs,vH X.K H x.1 x.2.1) (eb:vH X.K H k b) (l:xs.length < sizeLine)
    (h1:∀ p s',atKey xs k=some p->Inv X pins σ H s'->Q p.2 s') (h2:atKey xs k=none->∀ s',Inv X pins σ (upd H a (ndO X.w a (xs ++ [(k,b,r)]))) s'->Q r s'):wpAny (model X.prog X.w) A (call (.builtin "dict.setdefault") [.ref a,.ref b,r]) Q E s:=by
  have dd:=jao I e ks
  obtain ⟨hd,hz,nd,_⟩:=jcw I e
  refine call_meetsIn PySem.F.slot_dict_setdefault dd.typeIs PySem.F.entry_dict_setdefault (PySem.F.args_dict_setdefault_3 _ _ _) (Xa a b hd r) ⟨jep hu,k,xs,Ut I eb,dd,hz,fun p hp=>h1 p _ hp (I.tok _),fun hn h' dd' hs=>?_⟩
  refine h2 hn _ ?_
  obtain ⟨q,es,ep,hq,g2,g3,g4,_,g5⟩:=dd'
  refine uV I ?_ hs ⟨q,hq⟩ (ndO_ok ⟨hd,?_,g5,q,es,ep,hq,g2,g3,g4⟩)
  · rcases e with ⟨_,e⟩ | e
    · rw [e]; exact True.intro
    · rw [e]; exact True.intro
  · rw [List.length_append]
    exact l
theorem n_get2 {Q:Value->Shared->Prop} (hu:A.units + 32 < cLine) (I:Inv X pins σ H s) (e:IsN X.w H a xs) (ks:∀ x ∈ xs,vH X.K H x.1 x.2.1) (eb:vH X.K H k b)
    (h:∀ s',Inv X pins σ H s'->Q (((atKey xs k).map (·.2)).getD r) s'):wpAny (model X.prog X.w) A (call (.builtin "dict.get") [.ref a,.ref b,r]) Q E s:=by
  have dd:=jao I e ks
  obtain ⟨hd,_⟩:=jcw I e
  exact call_meetsIn PySem.F.slot_dict_get dd.typeIs PySem.F.entry_dict_get (PySem.F.args_dict_get_3 _ _ _) (meetsH_dict_get_default (yn X.prog X.w) a b hd r) ⟨jep hu,k,xs,Ut I eb,dd,h _ (I.tok _)⟩
end
section
variable {X:Cx} {o e f:Expr} {apos cpos:Pos} {td ty tx:TE}
def tNSet (X:Cx) (td ty tx:TE):TE:=fun σ H Q=>td σ H fun x H1=>∃ a xs0,x = .ref a∧IsN X.w H1 a xs0∧ty σ H1 fun y H2=>tx σ H2 fun z H3=>∃ b k xs,y = .ref b∧vH X.K H3 k b∧IsN X.w H3 a xs∧(∀ x ∈ xs,vH X.K H3 x.1 x.2.1)∧xs.length < sizeLine ∧
  (∀ p,atKey xs k=some p->∃ v,yh v p.2∧Q v H3)∧(atKey xs k=none->∀ r,yh z r->Q z (upd H3 a (ndO X.w a (xs ++ [(k,b,r)]))))
def tNGet (X:Cx) (td ty tx:TE):TE:=fun σ H Q=>td σ H fun x H1=>∃ a xs0,x = .ref a∧IsN X.w H1 a xs0∧ty σ H1 fun y H2=>tx σ H2 fun z H3=>∃ b k xs,y = .ref b∧vH X.K H3 k b∧IsN X.w H3 a xs∧(∀ x ∈ xs,vH X.K H3 x.1 x.2.1) ∧
  (∀ p,atKey xs k=some p->∃ v,yh v p.2∧Q v H3)∧(atKey xs k=none->Q z H3)
theorem jhr (hu:X.A.units + 32 < cLine) (ho:PE X o td) (he:PE X e ty) (hf:PE X f tx) (m:M2 X o "setdefault" apos e f cpos):PE X (.Call (.Attribute o "setdefault" apos) [e,f] [] cpos) (tNSet X td ty tx):=by
  intro pins s σ H Q I h
  refine wpAny_Call_method m.base m.few m.line PySem.F.plainAttrs_dict PySem.F.slot_dict_setdefault PySem.F.type_dict_setdefault (thn (ho pins s σ H _ I h) fun u s1 hQQ=>?_)
  obtain ⟨x,H1,I1,rx,a,xs0,ex,d,q1⟩:=hQQ
  subst ex
  obtain rfl:u=Value.ref a:=rx
  obtain ⟨t1,t2⟩:=jfw I1 d
  refine ⟨t1,t2,?_⟩
  rw [m.trees]
  refine Calls.callWith_builtin rfl (Calls.evalArgs_plain (Calls.spliced_cons (thn (he pins s1 σ H1 _ I1 q1) fun iv s2 hQQ=>?_)))
  obtain ⟨y,H2,I2,ry,q2⟩:=hQQ
  refine Calls.spliced_cons (thn (hf pins s2 σ H2 _ I2 q2) fun fv s3 hQQ=>?_)
  obtain ⟨z,H3,I3,rz,b,k,xs,ey,hb,ha,hk,hl,c1,c2⟩:=hQQ
  subst ey
  cases ry
  refine Calls.spliced_nil ?_
  exact jfj hu I3 ha hk hb hl (fun p s4 ev I4=>by
    obtain ⟨v,rv,q⟩:=c1 p ev
    exact ⟨v,H3,I4,rv,q⟩) fun en s4 I4=>⟨z,_,I4,rz,c2 en _ rz⟩
theorem jhs (hu:X.A.units + 32 < cLine) (ho:PE X o td) (he:PE X e ty) (hf:PE X f tx) (m:M2 X o "get" apos e f cpos):PE X (.Call (.Attribute o "get" apos) [e,f] [] cpos) (tNGet X td ty tx):=by
  intro pins s σ H Q I h
  refine wpAny_Call_method m.base m.few m.line PySem.F.plainAttrs_dict PySem.F.slot_dict_get PySem.F.type_dict_get (thn (ho pins s σ H _ I h) fun u s1 hQQ=>?_)
  obtain ⟨x,H1,I1,rx,a,xs0,ex,d,q1⟩:=hQQ
  subst ex
  obtain rfl:u=Value.ref a:=rx
  obtain ⟨t1,t2⟩:=jfw I1 d
  refine ⟨t1,t2,?_⟩
  rw [m.trees]
  refine Calls.callWith_builtin rfl (Calls.evalArgs_plain (Calls.spliced_cons (thn (he pins s1 σ H1 _ I1 q1) fun iv s2 hQQ=>?_)))
  obtain ⟨y,H2,I2,ry,q2⟩:=hQQ
  refine Calls.spliced_cons (thn (hf pins s2 σ H2 _ I2 q2) fun fv s3 hQQ=>?_)
  obtain ⟨z,H3,I3,rz,b,k,xs,ey,hb,ha,hk,c1,c2⟩:=hQQ
  subst ey
  cases ry
  refine Calls.spliced_nil ?_
  refine n_get2 hu I3 ha hk hb fun s4 I4=>?_
  cases ev:atKey xs k with
  | none=>exact ⟨z,H3,I4,rz,c2 ev⟩
  | some p =>
    obtain ⟨v,rv,q⟩:=c1 p ev
    exact ⟨v,H3,I4,rv,q⟩
end
end L2

set_option maxHeartbeats 4000000

namespace L3
open PySem L2
inductive PV where
 | non | bl (b:Bool) | int (i:Int) | str (x:Str) | ty (n:String)
 | tup (xs:List PV) | lst (xs:List PV)
  | scr (ns:List Int)
  | top (k:Nat)
  | exn (k:Nat)
  | dct (kvs:List (List Int × Int))
  | ref (i:Nat)
inductive Cell where
 | lst (xs:List PV)
 | dct (kvs:List (List Int × Int))
 | ins (k:Nat) (fs:List (Str × PV))
 | dtv (l:List (List Int × PV))
 | dkv (l:List (Int × PV))
 | dsv (l:List (List Key × PV))
 | dnv (j:Nat) (l:List (NK × PV))
structure Sto where
 n:Nat
 g:Nat->Option Cell
def Sto.set (M:Sto) (i:Nat) (c:Cell):Sto:=⟨M.n,fun j=>if j=i then some c else M.g j⟩
def Sto.new (M:Sto) (c:Cell):Sto:=⟨M.n + 1,fun j=>if j=M.n then some c else M.g j⟩
def Sto.drop (M:Sto) (i:Nat):Sto:=⟨M.n,fun j=>if j=i then none else M.g j⟩
theorem Sto.set_same {M:Sto} {i:Nat} {c:Cell}:(M.set i c).g i=some c:=if_pos rfl
theorem Sto.set_ne {M:Sto} {i j:Nat} {c:Cell} (h:j≠i):(M.set i c).g j=M.g j:=if_neg h
theorem Sto.new_same {M:Sto} {c:Cell}:(M.new c).g M.n=some c:=if_pos rfl
theorem Sto.new_ne {M:Sto} {j:Nat} {c:Cell} (h:j≠M.n):(M.new c).g j=M.g j:=if_neg h
structure Tb where
 K:PySem.W.Frag
 C:Nat->Addr
 w:World
structure Wd where
 T:Tb
 F:Hp
 α:Nat->Option Addr
 G:Hp
structure Wd.le0 (W W':Wd):Prop where
 k:W'.T=W.T
 f:∀ a o,W.F a=some o->W'.F a=some o
 a:∀ i a,W.α i=some a->W'.α i=some a
structure Wd.le (W W':Wd):Prop extends toLe0:Wd.le0 W W' where
 g:W'.G=W.G
theorem Wd.le0.trans {A B C:Wd} (h:A.le0 B) (k:B.le0 C):A.le0 C:=⟨k.k.trans h.k,fun a o e=>k.f a o (h.f a o e),fun i a e=>k.a i a (h.a i a e)⟩
theorem Wd.le.refl (W:Wd):W.le W:=⟨⟨rfl,fun _ _ e=>e,fun _ _ e=>e⟩,rfl⟩
theorem Wd.le.trans {A B C:Wd} (h:A.le B) (k:B.le C):A.le C:=⟨h.toLe0.trans k.toLe0,k.g.trans h.g⟩
def jib (l:List (List Int × Int)):List (List Key × V):=l.map fun p=>(p.1.map Sum.inl,V.int p.2)
mutual
def Rep (W:Wd):PV->V->Prop
 | .non,v=>v = .non
 | .bl b,v=>v = .bl b
 | .int i,v=>v = .int i
 | .str x,v=>v = .str x
 | .ty n,v=>v = .ty n
 | .top k,v=>v = .ref (W.T.C k)
 | .exn k,v=>∃ a,v = .ref a∧W.F a=some (excO a (W.T.C k))
 | .dct l,v=>∃ a o,v = .ref a∧W.F a=some (.frz o (.dT (jib l)))
 | .scr ns,v=>∃ a,v = .ref a∧SqL W.T.K W.F a (ns.map V.int)∧ns.length<=63
 | .ref i,v=>∃ a,v = .ref a∧W.α i=some a
 | .tup xs,v=>∃ a vs,v = .ref a∧SqT W.T.K W.F a vs∧yc W xs vs
 | .lst xs,v=>∃ a vs,v = .ref a∧W.F a=some (.lst vs)∧yc W xs vs
def yc (W:Wd):List PV->List V->Prop
 | [],vs=>vs=[]
 | x :: xs,vs=>∃ v r,vs=v :: r∧Rep W x v∧yc W xs r
end
theorem Ue {K:PySem.W.Frag} {H H':Hp} {a:Addr} {xs:List V} (e:jdS H H') (h:SqT K H a xs):SqT K H' a xs:=by
 rcases h with (h | ⟨o,h⟩) | h
 ·exact .inl (.inl (e _ _ h))
 ·exact .inl (.inr ⟨o,e _ _ h⟩)
 ·exact .inr h
mutual
theorem Rep.up0 {W W':Wd} (h:W.le0 W'):∀ {x:PV} {v:V},Rep W x v->Rep W' x v
 | .non,_,r=>r
 | .bl _,_,r=>r
 | .int _,_,r=>r
 | .str _,_,r=>r
 | .ty _,_,r=>r
 | .top k,_,r=>by
  show _=V.ref (W'.T.C k);rw [h.k];exact r
 | .exn k,_,⟨a,e,q⟩=>⟨a,e,by rw [h.k]; exact h.f _ _ q⟩
 | .dct _,_,⟨a,o,e,q⟩=>⟨a,o,e,h.f _ _ q⟩
 | .scr _,_,⟨a,e,q,z⟩=>⟨a,e,by rw [h.k]; exact (show jdS W.F W'.F from h.f).seq q,z⟩
 | .ref _,_,⟨a,e,q⟩=>⟨a,e,h.a _ _ q⟩
 | .tup _,_,⟨a,vs,e,q,r⟩=>⟨a,vs,e,by rw [h.k]; exact Ue h.f q,yc.up0 h r⟩
 | .lst _,_,⟨a,vs,e,q,r⟩=>⟨a,vs,e,h.f _ _ q,yc.up0 h r⟩
theorem yc.up0 {W W':Wd} (h:W.le0 W'):∀ {xs:List PV} {vs:List V},yc W xs vs->yc W' xs vs
 | [],_,r=>r
 | _ :: _,_,⟨v,r,e,a,b⟩=>⟨v,r,e,Rep.up0 h a,yc.up0 h b⟩
end
theorem Rep.up {W W':Wd} (h:W.le W') {x:PV} {v:V} (r:Rep W x v):Rep W' x v:=r.up0 h.toLe0
theorem yc.up {W W':Wd} (h:W.le W') {x:List PV} {v:List V} (r:yc W x v):yc W' x v:=r.up0 h.toLe0
theorem yc.length {W:Wd}:∀ {xs:List PV} {vs:List V},yc W xs vs->vs.length=xs.length
 | [],_,r=>by cases r; rfl
 | _ :: _,_,⟨v,r,e,_,b⟩=>by subst e; simp [yc.length b]
theorem yc.append {W:Wd}:∀ {xs:List PV} {vs:List V} {ys:List PV} {us:List V},yc W xs vs->yc W ys us->yc W (xs ++ ys) (vs ++ us)
 | [],_,_,_,r,q=>by cases r; exact q
 | _ :: _,_,_,_,⟨v,r,e,a,b⟩,q=>by subst e; exact ⟨v,_,rfl,a,yc.append b q⟩
theorem yc.get {W:Wd}:∀ {xs:List PV} {vs:List V} {i:Nat} {x:PV},yc W xs vs->xs[i]? = some x->∃ v,vs[i]? = some v∧Rep W x v
 | [],_,_,_,_,e=>by simp at e
 | _ :: _,_,0,_,⟨v,r,e,a,_⟩,q=>by simp at q; subst q; subst e; exact ⟨v,rfl,a⟩
 | _ :: _,_,i + 1,_,⟨v,r,e,_,b⟩,q=>by
  subst e;obtain ⟨u,h1,h2⟩:=yc.get (i:=i) b (by simpa using q);exact ⟨u,by simpa using h1,h2⟩
theorem yc.drop {W:Wd}:∀ {xs:List PV} {vs:List V} (n:Nat),yc W xs vs->yc W (xs.drop n) (vs.drop n)
 | _,_,0,r=>r
 | [],_,n + 1,r=>by cases r; rfl
 | _ :: _,_,n + 1,⟨v,r,e,_,b⟩=>by subst e; exact yc.drop n b
theorem yc.take {W:Wd}:∀ {xs:List PV} {vs:List V} (n:Nat),yc W xs vs->yc W (xs.take n) (vs.take n)
 | _,_,0,r=>by simp [yc]
 | [],_,n + 1,r=>by cases r; rfl
 | _ :: _,_,n + 1,⟨v,r,e,a,b⟩=>by subst e; exact ⟨v,_,rfl,a,yc.take n b⟩
theorem yc.set {W:Wd} {x:PV} {v:V} (h:Rep W x v):∀ {xs:List PV} {vs:List V} (n:Nat),yc W xs vs->yc W (xs.set n x) (vs.set n v)
 | [],_,n,r=>by cases r; rfl
 | _ :: _,_,0,⟨u,r,e,a,b⟩=>by subst e; exact ⟨v,_,rfl,h,b⟩
 | _ :: _,_,n + 1,⟨u,r,e,a,b⟩=>by subst e; exact ⟨u,_,rfl,a,yc.set h n b⟩
theorem yc.rep {W:Wd} {xs:List PV} {vs:List V} (h:yc W xs vs):∀ n:Nat,yc W (List.replicate n xs).flatten (List.replicate n vs).flatten
 | 0=>rfl
 | n + 1=>by
  rw [List.replicate_succ,List.replicate_succ,List.flatten_cons,List.flatten_cons];exact yc.append h (yc.rep h n)
theorem yc.erase {W:Wd}:∀ {xs:List PV} {vs:List V} (n:Nat),yc W xs vs->yc W (xs.eraseIdx n) (vs.eraseIdx n)
 | [],_,n,r=>by cases r; rfl
 | _ :: _,_,0,⟨u,r,e,a,b⟩=>by subst e; exact b
 | _ :: _,_,n + 1,⟨u,r,e,a,b⟩=>by subst e; exact ⟨u,_,rfl,a,yc.erase n b⟩
theorem yc.ints {W:Wd}:∀ {ns:List Int} {vs:List V},yc W (ns.map PV.int) vs↔vs=ns.map V.int
 | [],_=>Iff.rfl
 | n :: ns,vs=>by
  constructor
  ·rintro ⟨v,r,e,a,b⟩;have a:v = .int n:=a;rw [e,a,yc.ints.mp b];rfl
  ·rintro rfl;exact ⟨_,_,rfl,rfl,yc.ints.mpr rfl⟩
theorem yc.bools {W:Wd}:∀ {ns:List Bool} {vs:List V},yc W (ns.map PV.bl) vs↔vs=ns.map V.bl
 | [],_=>Iff.rfl
 | n :: ns,vs=>by
  constructor
  ·rintro ⟨v,r,e,a,b⟩;have a:v = .bl n:=a;rw [e,a,yc.bools.mp b];rfl
  ·rintro rfl;exact ⟨_,_,rfl,rfl,yc.bools.mpr rfl⟩
def vF (W:Wd):List (Str × PV)->List (Str × V)->Prop
 | [],vs=>vs=[]
 | p :: xs,vs=>∃ v r,vs=(p.1,v) :: r∧Rep W p.2 v∧vF W xs r
theorem vF.up0 {W W':Wd} (h:W.le0 W'):∀ {xs:List (Str × PV)} {vs:List (Str × V)},vF W xs vs->vF W' xs vs
 | [],_,r=>r
 | _ :: _,_,⟨v,r,e,a,b⟩=>⟨v,r,e,a.up0 h,vF.up0 h b⟩
theorem vF.get {W:Wd} {f:Str}:∀ {xs:List (Str × PV)} {vs:List (Str × V)},vF W xs vs->∀ {x:PV},xs.lookup f=some x->∃ v,vs.lookup f=some v∧Rep W x v
 | [],_,_,_,e=>by simp at e
 | p :: xs,_,⟨v,r,e,a,b⟩,x,q=>by
  subst e;rw [List.lookup_cons] at q ⊢
  by_cases h:(f == p.1)=true
  ·rw [h] at q ⊢;cases q;exact ⟨v,rfl,a⟩
  ·rw [Bool.not_eq_true] at h;rw [h] at q ⊢;exact vF.get b q
theorem vF.none {W:Wd} {f:Str}:∀ {xs:List (Str × PV)} {vs:List (Str × V)},vF W xs vs->xs.lookup f=none->vs.lookup f=none
 | [],_,e,_=>by cases e; rfl
 | p :: xs,_,⟨v,r,e,a,b⟩,q=>by
  subst e;rw [List.lookup_cons] at q ⊢
  by_cases h:(f == p.1)=true
  ·rw [h] at q;cases q
  ·rw [Bool.not_eq_true] at h;rw [h] at q ⊢;exact vF.none b q
theorem vF.length {W:Wd}:∀ {xs:List (Str × PV)} {vs:List (Str × V)},vF W xs vs->vs.length=xs.length
 | [],_,e=>by cases e; rfl
 | _ :: _,_,⟨_,_,e,_,b⟩=>by subst e; simp [vF.length b]
def xl (f:Str) (v:PV):List (Str × PV)->List (Str × PV)
 | []=>[(f,v)]
 | p :: r=>if f == p.1 then (p.1,v) :: r else p :: xl f v r
def yW {α κ:Type} (W:Wd) (f:α->κ):List (α × PV)->List (κ × V)->Prop
 | [],vs=>vs=[]
 | p :: r,vs=>∃ v rs,vs=(f p.1,v) :: rs∧Rep W p.2 v∧yW W f r rs
theorem yW.up0 {α κ:Type} {W W':Wd} {f:α->κ} (h:W.le0 W'):∀ {l:List (α × PV)} {vs:List (κ × V)},yW W f l vs->yW W' f l vs
 | [],_,e=>e
 | _ :: _,_,⟨v,rs,e,r,t⟩=>⟨v,rs,e,r.up0 h,yW.up0 h t⟩
def keyT (k:List Int):List Key:=k.map Sum.inl
def JE (k:Int):Key:=Sum.inl k
def vg (W:Wd):List (NK × PV)->List (NK × Addr × Value)->Prop
 | [],xs=>xs=[]
 | p :: r,xs=>∃ b u rs v,xs=(p.1,b,u) :: rs∧vH W.T.K W.F p.1 b∧Rep W p.2 v∧yh v u∧vg W r rs
theorem vg.up0 {W W':Wd} (h:W.le0 W'):∀ {l:List (NK × PV)} {xs:List (NK × Addr × Value)},vg W l xs->vg W' l xs
 | [],_,e=>e
 | _ :: _,_,⟨b,u,rs,v,e,⟨c,k1,k2⟩,r,ru,t⟩=>⟨b,u,rs,v,e,⟨c,h.f _ _ k1,by rw [h.k]; exact Ue h.f k2⟩,r.up0 h,ru,vg.up0 h t⟩
def UO (W:Wd):Cell->HO->Prop
 | .lst xs,o=>∃ vs,o = .lst vs∧yc W xs vs
 | .dct l,o=>o = .dT (jib l)
 | .ins k fs,o=>∃ dx vs,o = .ins (W.T.C k) dx vs∧vF W fs vs
 | .dtv l,o=>∃ vs,o = .dT vs∧yW W keyT l vs
 | .dkv l,o=>∃ vs,o = .dK vs∧yW W JE l vs
 | .dsv l,o=>∃ vs,o = .dT vs∧yW W id l vs
 | .dnv j l,o=>(l=[]∧o = .dT [])∨∃ d xs,W.α j=some d∧o=ndO W.T.w d xs∧vg W l xs
theorem UO.up0 {W W':Wd} (h:W.le0 W'):∀ {c:Cell} {o:HO},UO W c o->UO W' c o
 | .lst _,_,⟨vs,e,r⟩=>⟨vs,e,r.up0 h⟩
 | .dct _,_,r=>r
 | .ins _ _,_,⟨dx,vs,e,r⟩=>⟨dx,vs,by rw [h.k]; exact e,r.up0 h⟩
 | .dtv _,_,⟨vs,e,r⟩=>⟨vs,e,r.up0 h⟩
 | .dkv _,_,⟨vs,e,r⟩=>⟨vs,e,r.up0 h⟩
 | .dsv _,_,⟨vs,e,r⟩=>⟨vs,e,r.up0 h⟩
 | .dnv _ _,_,.inl r=>.inl r
 | .dnv _ _,_,.inr ⟨d,xs,e1,e2,r⟩=>.inr ⟨d,xs,h.a _ _ e1,by rw [h.k]; exact e2,r.up0 h⟩
theorem UO.up {W W':Wd} (h:W.le W') {c:Cell} {o:HO} (r:UO W c o):UO W' c o:=r.up0 h.toLe0
structure Held (W:Wd) (M:Sto) (H:Hp):Prop where
 f:∀ a o,W.F a=some o->H a=some o
 m:∀ i c,M.g i=some c->∃ a o,W.α i=some a∧W.F a=none∧H a=some o∧UO W c o
 inj:∀ i j a c c',M.g i=some c->M.g j=some c'->W.α i=some a->W.α j=some a->i=j
 top:∀ i,M.n<=i->W.α i=none
 gd:∀ a o,W.G a=some o->H a=some o∧W.F a=none∧∀ i c,M.g i=some c->W.α i≠some a
 gl:∀ a o,W.G a=some o->∀ vs,o≠.tup vs
def Wd.frz (W:Wd) (l:Addr) (o:HO):Wd:=⟨W.T,L2.upd W.F l o,W.α,W.G⟩
theorem Held.Fnone {W:Wd} {M:Sto} {H:Hp} {l:Addr} (h:Held W M H) (e:H l=none):W.F l=none:=by
 cases q:W.F l with
 | none=>rfl
 | some o =>
  rw [h.f l o q] at e;cases e
theorem Wd.le_frz {W:Wd} {l:Addr} {o:HO} (e:W.F l=none):W.le (W.frz l o) :=
 ⟨⟨rfl,fun a u q=>by
  show L2.upd W.F l o a=some u;rw [jk (fun z:a=l=>by rw [z,e] at q; cases q)]
  exact q,fun _ _ q=>q⟩,rfl⟩
theorem Held.frz {W:Wd} {M:Sto} {H:Hp} {l:Addr} {o:HO} (h:Held W M H) (e:H l=none):W.le (W.frz l o)∧Held (W.frz l o) M (L2.upd H l o)∧(W.frz l o).F l=some o:=by
 have le:=Wd.le_frz (o:=o) (h.Fnone e);refine ⟨le,⟨fun a u q=>?_,fun i c q=>?_,h.inj,h.top,fun a u q=>?_,h.gl⟩,jr⟩
 rotate_left 2
 ·obtain ⟨h1,h2,h3⟩:=h.gd a u q;have z:a≠l:=jv h1 e;refine ⟨by rw [jk z]; exact h1,?_,h3⟩;show L2.upd W.F l o a=none;rw [jk z];exact h2
 ·have q:L2.upd W.F l o a=some u:=q
  by_cases z:a=l
  ·subst z;rw [jr] at q ⊢;exact q
  ·rw [jk z] at q ⊢;exact h.f a u q
 ·obtain ⟨a,u,h1,h2,h3,h4⟩:=h.m i c q;have z:a≠l:=jv h3 e;refine ⟨a,u,h1,?_,by rw [jk z]; exact h3,h4.up le⟩;show L2.upd W.F l o a=none;rw [jk z];exact h2
def Wd.put (W:Wd) (n:Nat) (l:Addr):Wd:=⟨W.T,W.F,fun i=>if i=n then some l else W.α i,W.G⟩
theorem Held.le_put {W:Wd} {M:Sto} {H:Hp} {l:Addr} (h:Held W M H):W.le (W.put M.n l) :=
 ⟨⟨rfl,fun _ _ q=>q,fun i a q=>by
  show (if i=M.n then some l else W.α i)=some a;rw [if_neg (fun z=>by rw [z,h.top _ (Nat.le_refl _)] at q; cases q)]
  exact q⟩,rfl⟩
theorem Held.put {W:Wd} {M:Sto} {H:Hp} {l:Addr} {o:HO} {c:Cell} (h:Held W M H) (e:H l=none) (r:UO W c o):W.le (W.put M.n l)∧Held (W.put M.n l) (M.new c) (L2.upd H l o)∧(W.put M.n l).α M.n=some l:=by
 have le:=h.le_put (l:=l);have fl:=h.Fnone e;refine ⟨le,⟨fun a u q=>?_,fun i c' q=>?_,fun i j a c1 c2 q1 q2 e1 e2=>?_,fun i hi=>?_,fun a u q=>?_,h.gl⟩,if_pos rfl⟩
 rotate_left 4
 ·obtain ⟨h1,h2,h3⟩:=h.gd a u q;have z:a≠l:=jv h1 e;refine ⟨by rw [jk z]; exact h1,h2,fun i c' qi=>?_⟩;show (if i=M.n then some l else W.α i)≠some a
  by_cases hi:i=M.n
  ·rw [if_pos hi];exact fun w=>z (Option.some.inj w).symm
  ·rw [if_neg hi];rw [Sto.new_ne hi] at qi;exact h3 i c' qi
 ·have q:W.F a=some u:=q;rw [jk (fun z:a=l=>by rw [z,fl] at q; cases q)];exact h.f a u q
 ·by_cases z:i=M.n
  ·subst z;rw [Sto.new_same] at q;cases q;exact ⟨l,o,if_pos rfl,fl,jr,r.up le⟩
  ·rw [Sto.new_ne z] at q;obtain ⟨a,u,h1,h2,h3,h4⟩:=h.m i c' q;exact ⟨a,u,le.a _ _ h1,h2,by rw [jk (jv h3 e)]; exact h3,h4.up le⟩
 ·have e1:(if i=M.n then some l else W.α i)=some a:=e1;have e2:(if j=M.n then some l else W.α j)=some a:=e2
  by_cases z1:i=M.n
  ·by_cases z2:j=M.n
   ·rw [z1,z2]
   ·rw [if_pos z1] at e1;rw [if_neg z2] at e2;rw [Sto.new_ne z2] at q2;obtain ⟨b,u,g1,_,g3,_⟩:=h.m j c2 q2;rw [e2] at g1;cases g1;cases e1;rw [e] at g3;cases g3
  ·rw [if_neg z1] at e1;rw [Sto.new_ne z1] at q1
   by_cases z2:j=M.n
   ·rw [if_pos z2] at e2;obtain ⟨b,u,g1,_,g3,_⟩:=h.m i c1 q1;rw [e1] at g1;cases g1;cases e2;rw [e] at g3;cases g3
   ·rw [if_neg z2] at e2;rw [Sto.new_ne z2] at q2;exact h.inj i j a c1 c2 q1 q2 e1 e2
 ·show (if i=M.n then some l else W.α i)=none;have hi:M.n + 1<=i:=hi;rw [if_neg (by omega)];exact h.top i (by omega)
theorem Held.upd {W:Wd} {M:Sto} {H:Hp} {i:Nat} {a:Addr} {c c':Cell} {o:HO} (h:Held W M H) (e:M.g i=some c) (ea:W.α i=some a) (r:UO W c' o):Held W (M.set i c') (L2.upd H a o):=by
 obtain ⟨b,u,g1,g2,g3,g4⟩:=h.m i c e;rw [ea] at g1;cases g1
 have live:∀ {j c1},(M.set i c').g j=some c1->∃ c2,M.g j=some c2:=fun {j c1} q=>by
  by_cases z:j=i
  ·exact ⟨c,by rw [z]; exact e⟩
  ·rw [Sto.set_ne z] at q;exact ⟨_,q⟩
 refine ⟨fun b u q=>?_,fun j c1 q=>?_,fun j k b c1 c2 q1 q2 e1 e2=>?_,h.top,fun b u q=>?_,h.gl⟩
 rotate_left 3
 ·obtain ⟨h1,h2,h3⟩:=h.gd b u q;refine ⟨?_,h2,fun j c1 qj=>?_⟩
  ·rw [jk (fun z:b=a=>h3 i c e (z ▸ ea))];exact h1
  ·obtain ⟨d1,w1⟩:=live qj;exact h3 j d1 w1
 ·rw [jk (fun z:b=a=>by rw [z,g2] at q; cases q)];exact h.f b u q
 ·by_cases z:j=i
  ·subst z;rw [Sto.set_same] at q;cases q;exact ⟨a,o,ea,g2,jr,r⟩
  ·rw [Sto.set_ne z] at q;obtain ⟨b,u',h1,h2,h3,h4⟩:=h.m j c1 q;refine ⟨b,u',h1,h2,?_,h4⟩;rw [jk (fun zz:b=a=>z (h.inj j i a c1 c q e (zz ▸ h1) ea))];exact h3
 ·obtain ⟨d1,w1⟩:=live q1;obtain ⟨d2,w2⟩:=live q2;exact h.inj j k b d1 d2 w1 w2 e1 e2
theorem Held.drop {W:Wd} {M:Sto} {H:Hp} (h:Held W M H) (i:Nat):Held W (M.drop i) H:=by
 have sub:∀ {j c},(M.drop i).g j=some c->M.g j=some c:=fun {j c} q=>by
  have q:(if j=i then none else M.g j)=some c:=q
  by_cases z:j=i
  ·rw [if_pos z] at q; cases q
  ·rwa [if_neg z] at q
 exact ⟨h.f,fun j c q=>h.m j c (sub q),fun j k b c1 c2 q1 q2=>h.inj j k b c1 c2 (sub q1) (sub q2),h.top,fun a o q=>⟨(h.gd a o q).1,(h.gd a o q).2.1,fun j c qj=>(h.gd a o q).2.2 j c (sub qj)⟩,h.gl⟩
theorem Held.freeze {W:Wd} {M:Sto} {H:Hp} {i:Nat} {a:Addr} {xs:List PV} (h:Held W M H) (e:M.g i=some (.lst xs)) (ea:W.α i=some a) :
  ∃ vs,H a=some (.lst vs)∧W.le (W.frz a (.lst vs))∧Held (W.frz a (.lst vs)) (M.drop i) H∧Rep (W.frz a (.lst vs)) (.lst xs) (.ref a):=by
 obtain ⟨b,u,g1,g2,g3,vs,rfl,rv⟩:=h.m i _ e;rw [ea] at g1;cases g1;have le:=Wd.le_frz (o:=.lst vs) g2;refine ⟨vs,g3,le,⟨fun b u q=>?_,fun j c q=>?_,fun j k b c1 c2 q1 q2 e1 e2=>?_,h.top,fun b u q=>?_,h.gl⟩,a,vs,rfl,jr,rv.up le⟩
 rotate_left 3
 ·obtain ⟨h1,h2,h3⟩:=(h.drop i).gd b u q;refine ⟨h1,?_,h3⟩;show L2.upd W.F a (.lst vs) b=none;rw [jk (fun z:b=a=>(h.gd b u q).2.2 i _ e (z ▸ ea))];exact h2
 ·have q:L2.upd W.F a (.lst vs) b=some u:=q
  by_cases z:b=a
  ·subst z;rw [jr] at q;cases q;exact g3
  ·rw [jk z] at q;exact h.f b u q
 ·have q:(if j=i then none else M.g j)=some c:=q
  by_cases z:j=i
  ·rw [if_pos z] at q; cases q
  ·rw [if_neg z] at q;obtain ⟨b,u',h1,h2,h3,h4⟩:=h.m j c q;refine ⟨b,u',h1,?_,h3,h4.up le⟩;show L2.upd W.F a (.lst vs) b=none;rw [jk (fun zz:b=a=>z (h.inj j i a c _ q e (zz ▸ h1) ea))];exact h2
 ·have hd:=h.drop i;exact hd.inj j k b c1 c2 q1 q2 e1 e2
def Wd.gd (W:Wd) (l:Addr) (o:HO):Wd:=⟨W.T,W.F,W.α,L2.upd W.G l o⟩
theorem Wd.le0_gd {W:Wd} {l:Addr} {o:HO}:W.le0 (W.gd l o):=⟨rfl,fun _ _ e=>e,fun _ _ e=>e⟩
theorem Held.guardO {W:Wd} {M:Sto} {H:Hp} {l:Addr} {o':HO} (no:∀ vs,o'≠.tup vs) (h:Held W M H) (e:H l=none):Held (W.gd l o') M (L2.upd H l o'):=by
 have nl:∀ {b u},H b=some u->b≠l:=fun q=>jv q e;refine ⟨fun b u q=>by rw [jk (nl (h.f b u q))]; exact h.f b u q,fun i c q=>?_,h.inj,h.top,fun b u q=>?_,fun b u q=>?_⟩
 rotate_left 2
 ·have q:L2.upd W.G l o' b=some u:=q
  by_cases z:b=l
  ·subst z;rw [jr] at q;cases q;exact no
  ·rw [jk z] at q;exact h.gl b u q
 ·obtain ⟨a,u,h1,h2,h3,h4⟩:=h.m i c q;exact ⟨a,u,h1,h2,by rw [jk (nl h3)]; exact h3,h4.up0 Wd.le0_gd⟩
 ·have q:L2.upd W.G l o' b=some u:=q
  by_cases z:b=l
  ·subst z;rw [jr] at q;cases q;refine ⟨jr,h.Fnone e,fun i c qi w=>?_⟩;obtain ⟨a,u,h1,h2,h3,h4⟩:=h.m i c qi;have w:W.α i=some b:=w;rw [w] at h1;cases h1;rw [e] at h3;cases h3
  ·rw [jk z] at q;obtain ⟨h1,h2,h3⟩:=h.gd b u q;exact ⟨by rw [jk z]; exact h1,h2,h3⟩
theorem Held.guard {W:Wd} {M:Sto} {H:Hp} {l:Addr} {ws:List V} (h:Held W M H) (e:H l=none):Held (W.gd l (.lst ws)) M (L2.upd H l (.lst ws)):=Held.guardO (fun _ z=>nomatch z) h e
theorem Held.reguardO {W:Wd} {M:Sto} {H:Hp} {l:Addr} {o o':HO} (no:∀ vs,o'≠.tup vs) (h:Held W M H) (e:W.G l=some o):Held (W.gd l o') M (L2.upd H l o'):=by
 obtain ⟨g1,g2,g3⟩:=h.gd l o e;refine ⟨fun b w q=>?_,fun i c q=>?_,h.inj,h.top,fun b w q=>?_,fun b w q=>?_⟩
 rotate_left 3
 ·have q:L2.upd W.G l o' b=some w:=q
  by_cases z:b=l
  ·subst z;rw [jr] at q;cases q;exact no
  ·rw [jk z] at q;exact h.gl b w q
 ·rw [jk (fun z:b=l=>by
   have q:W.F b=some w:=q;rw [z,g2] at q
   cases q)]
  exact h.f b w q
 ·obtain ⟨a,w,h1,h2,h3,h4⟩:=h.m i c q;exact ⟨a,w,h1,h2,by rw [jk (fun z:a=l=>g3 i c q (z ▸ h1))]; exact h3,h4.up0 Wd.le0_gd⟩
 ·have q:L2.upd W.G l o' b=some w:=q
  by_cases z:b=l
  ·subst z;rw [jr] at q;cases q;exact ⟨jr,g2,g3⟩
  ·rw [jk z] at q;obtain ⟨h1,h2,h3⟩:=h.gd b w q;exact ⟨by rw [jk z]; exact h1,h2,h3⟩
theorem Held.reguard {W:Wd} {M:Sto} {H:Hp} {l:Addr} {o:HO} {ws:List V} (h:Held W M H) (e:W.G l=some o):Held (W.gd l (.lst ws)) M (L2.upd H l (.lst ws)):=Held.reguardO (fun _ z=>nomatch z) h e
def Wd.out (W:Wd) (G0:Hp) (l:Addr) (o:HO):Wd:=⟨W.T,L2.upd W.F l o,W.α,G0⟩
theorem Held.unguard {W:Wd} {M:Sto} {H G0:Hp} {l:Addr} {o:HO} (h:Held W M H) (e:W.G l=some o) (hg:∀ b u,G0 b=some u->W.G b=some u∧b≠l):W.le0 (W.out G0 l o)∧Held (W.out G0 l o) M H:=by
 obtain ⟨g1,g2,g3⟩:=h.gd l o e
 have le:W.le0 (W.out G0 l o):=⟨rfl,(Wd.le_frz (o:=o) g2).f,fun _ _ e=>e⟩
 refine ⟨le,fun b u q=>?_,fun i c q=>?_,h.inj,h.top,fun b u q=>?_,fun b u q=>h.gl b u (hg b u q).1⟩
 ·have q:L2.upd W.F l o b=some u:=q
  by_cases z:b=l
  ·subst z;rw [jr] at q;cases q;exact g1
  ·rw [jk z] at q;exact h.f b u q
 ·obtain ⟨a,w,h1,h2,h3,h4⟩:=h.m i c q;refine ⟨a,w,h1,?_,h3,h4.up0 le⟩;show L2.upd W.F l o a=none;rw [jk (fun z:a=l=>g3 i c q (z ▸ h1))];exact h2
 ·obtain ⟨q1,z⟩:=hg b u q;obtain ⟨h1,h2,h3⟩:=h.gd b u q1;refine ⟨h1,?_,h3⟩;show L2.upd W.F l o b=none;rw [jk z];exact h2
def Wd.outN (W:Wd) (G0:Hp) (n:Nat) (l:Addr):Wd:=⟨W.T,W.F,fun i=>if i=n then some l else W.α i,G0⟩
end L3

namespace L3
open PySem L2
inductive Res (α:Type) where
 | ok (a:α) (M:Sto) | exc (k:Nat) (M:Sto) | bad
def Res.bind {α β:Type} (r:Res α) (k:α->Sto->Res β):Res β:=match r with
 | .ok a M=>k a M
 | .exc c M=>.exc c M
 | .bad=>.bad
@[simp] theorem Res.bind_ok {α β : Type} {a : α} {M : Sto} {k : α -> Sto -> Res β} : (Res.ok a M).bind k = k a M := rfl
@[simp] theorem Res.bind_exc {α β : Type} {c : Nat} {M : Sto} {k : α -> Sto -> Res β} : (Res.exc c M).bind k = .exc c M := rfl
@[simp] theorem Res.bind_bad {α β : Type} {k : α -> Sto -> Res β} : (Res.bad).bind k = .bad := rfl
def ofO {α:Type} (o:Option α) (M:Sto):Res α:=match o with
 | some z=>.ok z M
 | none=>.bad
@[simp] theorem jy {α : Type} {z : α} {M : Sto} : ofO (some z) M = .ok z M := rfl
@[simp] theorem ofO_none {α : Type} {M : Sto} : ofO (none : Option α) M = .bad := rfl
abbrev En:=List (Option PV)
abbrev DE:=En->Sto->Res PV
abbrev DT:=En->Sto->Res Bool
abbrev DA:=En->Sto->Res (List PV)
def yE (W:Wd) (ρ:En) (σ:St):Prop:=σ.length=ρ.length∧∀ (i:Nat) (x:PV),ρ[i]? = some (some x)->∃ v,σ[i]? = some (some v)∧Rep W x v
theorem yE.up {W W':Wd} {ρ:En} {σ:St} (h:yE W ρ σ) (le:W.le W'):yE W' ρ σ:=⟨h.1,fun i x e=>by
 obtain ⟨v,e1,r⟩:=h.2 i x e
 exact ⟨v,e1,r.up le⟩⟩
theorem yE.set {W:Wd} {ρ:En} {σ:St} {i:Nat} {x:PV} {v:V} (h:yE W ρ σ) (r:Rep W x v):yE W (ρ.set i (some x)) (σ.set i (some v)):=by
 refine ⟨by simpa using h.1,fun j y e=>?_⟩
 by_cases hj:i=j
 ·subst hj
  have hi:i < ρ.length:=by
   have:=(List.getElem?_eq_some_iff.mp e).1
   simpa using this
  rw [List.getElem?_set_self hi] at e;cases e;exact ⟨v,List.getElem?_set_self (by rw [h.1]; exact hi),r⟩
 ·rw [List.getElem?_set_ne hj] at e;obtain ⟨u,e1,q⟩:=h.2 j y e;exact ⟨u,by rw [List.getElem?_set_ne hj]; exact e1,q⟩
def yj {α β:Type} (W:Wd) (R:Wd->α->β->Prop) (r:Res α) (Q:β->Hp->Prop) (E:XK):Prop:=match r with
 | .ok a M=>∀ W' H' b,W.le W'->Held W' M H'->R W' a b->Q b H'
 | .exc k M=>∀ W' H',W.le W'->Held W' M H'->E (.ref (W.T.C k)) none H'
 | .bad=>False
theorem yj.up {α β:Type} {W W':Wd} {R:Wd->α->β->Prop} {r:Res α} {Q:β->Hp->Prop} {E:XK} (h:yj W R r Q E) (le:W.le W'):yj W' R r Q E:=by
 cases r with
 | ok a M=>exact fun W2 H2 b l2 h2 r2=>h W2 H2 b (le.trans l2) h2 r2
 | exc k M =>
  intro W2 H2 l2 h2
  have:=h W2 H2 (le.trans l2) h2
  rw [le.k];exact this
 | bad=>exact h.elim
theorem yj.bind {α β γ δ:Type} {W:Wd} {R1:Wd->α->β->Prop} {R2:Wd->γ->δ->Prop} {r:Res α} {k:α->Sto->Res γ} {Q:δ->Hp->Prop} {Q1:β->Hp->Prop} {E:XK} (h:yj W R2 (r.bind k) Q E)
  (f:∀ W' M a b H1,W.le W'->Held W' M H1->R1 W' a b->yj W' R2 (k a M) Q E->Q1 b H1):yj W R1 r Q1 E:=by
 cases r with
 | ok a M=>exact fun W2 H2 b l2 h2 r2=>f W2 M a b H2 l2 h2 r2 (yj.up (r:=k a M) h l2)
 | exc k M=>exact h
 | bad=>exact h.elim
def lft {α β:Type} (T:Tb) (R:Wd->α->β->Prop) (ES:St->XK) (d:En->Sto->Res α):St->Hp->(β->Hp->Prop)->Prop:=fun σ H Q =>
 ∃ W ρ M,W.T=T∧Held W M H∧yE W ρ σ∧yj W R (d ρ M) Q (ES σ)
theorem jC {α β:Type} {T:Tb} {R:Wd->α->β->Prop} {ES:St->XK} {d:En->Sto->Res α} {σ:St} {H:Hp} {Q:β->Hp->Prop} {P:Prop} (h:lft T R ES d σ H Q) (k:∀ W ρ M,W.T=T->Held W M H->yE W ρ σ->yj W R (d ρ M) Q (ES σ)->P):P:=by
 obtain ⟨W,ρ,M,a,b,c,e⟩:=h;exact k W ρ M a b c e
abbrev RB:Wd->Bool->Bool->Prop:=fun _ a b=>b=a
structure QE (X:Cx) (T:Tb) (ES:St->XK) (e:Expr) (d:DE):Prop where
 h:PE X e (lft T Rep ES d)
structure QT (X:Cx) (T:Tb) (ES:St->XK) (e:Expr) (d:DT):Prop where
 h:PT X e (lft T RB ES d)
structure QW (X:Cx) (T:Tb) (ES:St->XK) (e:Expr) (d:DT):Prop where
 h:PW X e (lft T RB ES d)
structure QA (X:Cx) (T:Tb) (ES:St->XK) (es:List Expr) (d:DA):Prop where
 h:PA X es (lft T yc ES d)
structure QK (X:Cx) (T:Tb) (ES:St->XK) (ks:List Keyword) (d:DA):Prop where
 h:PK X ks (lft T yc ES d)
section
variable {X:Cx} {T:Tb} {ES:St->XK} {a b c e:Expr} {es:List Expr} {pos:Pos} {da db dc d:DE} {ds:DA}
theorem jN {t t':TE} (h:PE X e t) (f:∀ σ H Q,t' σ H Q->t σ H Q):PE X e t':=fun pins s σ H Q I q=>h pins s σ H Q I (f σ H Q q)
theorem Uk {t t':TT} (h:PT X e t) (f:∀ σ H Q,t' σ H Q->t σ H Q):PT X e t':=fun pins s σ H Q I q=>h pins s σ H Q I (f σ H Q q)
theorem jeD {t t':TT} (h:PW X e t) (f:∀ σ H Q,t' σ H Q->t σ H Q):PW X e t':=fun w pins s σ H Q I q=>h w pins s σ H Q I (f σ H Q q)
theorem jfb {t t':TA} (h:PA X es t) (f:∀ σ H Q,t' σ H Q->t σ H Q):PA X es t':=fun pos pins s σ H Q I q=>h pos pins s σ H Q I (f σ H Q q)
theorem jeL {ks:List Keyword} {t t':TA} (h:PK X ks t) (f:∀ σ H Q,t' σ H Q->t σ H Q):PK X ks t':=fun pos pins s σ H Q I q=>h pos pins s σ H Q I (f σ H Q q)
def ya (i:Nat):DE:=fun ρ M=>match ρ[i]? with
 | some (some x)=>.ok x M
 | _=>.bad
theorem qv (i:Nat) {x:Str} (hN:X.N[i]? = some x:=by rfl) (hv:Vis X.env.scope x:=by first | exact Or.inl rfl | exact Or.inr (Or.inl rfl) | exact Or.inr (Or.inr rfl)) (hd:(x == ("__debug__":Str))=false:=by decide)
  (hcd:(x == ("__classdict__":Str))=false:=by decide):QE X T ES (.Name x pos) (ya i):=⟨jN (Um hN hv hd hcd) fun σ H Q hQQ=>by
 obtain ⟨W,ρ,M,_,hh,hs,p⟩:=hQQ;unfold ya at p;split at p
 ·rename_i y e;obtain ⟨v,e1,r⟩:=hs.2 i y e;exact ⟨v,e1,p W H v (.refl W) hh r⟩
 ·exact p.elim⟩
def dC (x:PV):DE:=fun _ M=>.ok x M
theorem qc {x:PV} {v:V} (h:PE X e (tC v)) (r:∀ W:Wd,W.T=T->Rep W x v):QE X T ES e (dC x):=⟨jN h fun σ H Q hQQ=>jC hQQ fun W ρ M k hh hs p=>p W H v (.refl W) hh (r W k)⟩
theorem jm {i j}:QE X T ES (.Constant (.int i) j pos) (dC (.int i)):=qc pe_int fun _ _=>rfl
theorem jhf {b j}:QE X T ES (.Constant (.bool b) j pos) (dC (.bl b)):=qc pe_bl fun _ _=>rfl
theorem uN {j}:QE X T ES (.Constant .none j pos) (dC .non):=qc pe_non fun _ _=>rfl
theorem yF {x j}:QE X T ES (.Constant (.str x) j pos) (dC (.str x)):=qc jeR fun _ _=>rfl
theorem jbk {x:Str} {i:Int} {t:Tok} (hg:Gl X x) (hm:X.mg x=some (.int i t)) (hd:(x == ("__debug__":Str))=false:=by decide):QE X T ES (.Name x pos) (dC (.int i)):=qc (Uo (v:=.int i) hg hm ⟨_,rfl⟩ hd) fun _ _=>rfl
theorem jbj {x:Str} {n:String} (hg:Gl X x) (hm:X.mg x=none) (hv:bootBuiltins x=some (.type n)) (hn:x≠"__name__":=by decide) (hd:(x == ("__debug__":Str))=false:=by decide):QE X T ES (.Name x pos) (dC (.ty n)) :=
 qc (jhx (v:=.ty n) hg hm hv rfl hn hd) fun _ _=>rfl
def yb:DA:=fun _ M=>.ok [] M
def jb (d:DE) (ds:DA):DA:=fun ρ M=>(d ρ M).bind fun x M1=>(ds ρ M1).bind fun xs M2=>.ok (x :: xs) M2
theorem jd:QA X T ES [] yb:=⟨jfb jbn fun σ H Q hQQ=>jC hQQ fun W ρ M k hh hs p=>p W H [] (.refl W) hh rfl⟩
theorem Vz {σ:St} {H:Hp} {Q:List V->Hp->Prop} (h:lft T yc ES (jb d ds) σ H Q):jee (lft T Rep ES d) (lft T yc ES ds) σ H Q:=by
 obtain ⟨W,ρ,M,k,hh,hs,p⟩:=h;refine ⟨W,ρ,M,k,hh,hs,yj.bind p fun W1 M1 x v H1 l1 h1 r1 p1=>⟨W1,ρ,M1,l1.k.trans k,h1,hs.up l1,yj.bind p1 fun W2 M2 xs vs H2 l2 h2 r2 p2=>?_⟩⟩;exact p2 W2 H2 (v :: vs) (.refl W2) h2 ⟨v,vs,rfl,r1.up l2,r2⟩
theorem ja (ha:QE X T ES e d) (hr:QA X T ES es ds) (hs:starEach (e :: es) X.env=(false,eval e X.env) :: starEach es X.env:=by rfl):QA X T ES (e :: es) (jb d ds):=⟨jfb (Up ha.h hr.h hs) fun _ _ _=>Vz⟩
theorem jg:QK X T ES [] yb:=⟨jeL pk_nil fun σ H Q hQQ=>jC hQQ fun W ρ M k hh hs p=>p W H [] (.refl W) hh rfl⟩
theorem vi {kws:List Keyword} {nm:Option Str} {kpos:Pos} (ha:QE X T ES e d) (hr:QK X T ES kws ds):QK X T ES (⟨nm,e,kpos⟩ :: kws) (jb d ds):=⟨jeL (jhp ha.h hr.h) fun _ _ _=>Vz⟩
abbrev G2:=Sto->PV->PV->Option PV
def rP (T:Tb) (g:G2):R2:=fun v u H Q=>∃ W M x y z,W.T=T∧Held W M H∧Rep W x v∧Rep W y u∧g M x y=some z∧∀ W' H' v',W.le W'->Held W' M H'->Rep W' z v'->Q v' H'
abbrev OpP (X:Cx) (T:Tb) (f:Value->Value->Sem Value) (g:G2):Prop:=OpR X f (rP T g)
theorem xE {f:Value->Value->Sem Value} {r r':R2} (h:OpR X f r) (k:∀ x y H Q,r' x y H Q->r x y H Q):OpR X f r':=fun pins s σ H x y v u Q I rx ry q=>h pins s σ H x y v u Q I rx ry (k _ _ _ _ q)
def orG (g g':G2):G2:=fun M x y=>match g M x y with
 | some z=>some z
 | none=>g' M x y
theorem jbo {f:Value->Value->Sem Value} {g g':G2} (h:OpP X T f g) (h':OpP X T f g'):OpP X T f (orG g g'):=xE (OpR.or h h') fun v u H Q hQQ=>by
 obtain ⟨W,M,x,y,z,k,hh,rx,ry,e,q⟩:=hQQ;unfold orG at e;split at e
 ·rename_i z' e';cases e;exact .inl ⟨W,M,x,y,z,k,hh,rx,ry,e',q⟩
 ·exact .inr ⟨W,M,x,y,z,k,hh,rx,ry,e,q⟩
def dOp (g:G2) (da db:DE):DE:=fun ρ M=>(da ρ M).bind fun x M1=>(db ρ M1).bind fun y M2=>ofO (g M2 x y) M2
theorem JK {g:G2} {σ:St} {H:Hp} {Q:VK} (h:lft T Rep ES (dOp g da db) σ H Q):tOp (rP T g) (lft T Rep ES da) (lft T Rep ES db) σ H Q:=by
 obtain ⟨W,ρ,M,k,hh,hs,p⟩:=h;refine ⟨W,ρ,M,k,hh,hs,yj.bind p fun W1 M1 x v H1 l1 h1 r1 p1=>⟨W1,ρ,M1,l1.k.trans k,h1,hs.up l1,yj.bind p1 fun W2 M2 y u H2 l2 h2 r2 p2=>?_⟩⟩
 cases e:g M2 x y with
 | none=>rw [e] at p2; exact p2.elim
 | some z =>
  rw [e] at p2;exact ⟨W2,M2,x,y,z,l2.k.trans (l1.k.trans k),h2,r1.up l2,r2,e,p2⟩
theorem jw {op:Operator} {g:G2} (ho:OpP X T (binaryOp op) g) (ha:QE X T ES a da) (hb:QE X T ES b db):QE X T ES (.BinOp a op b pos) (dOp g da db):=⟨jN (pe_op ho ha.h hb.h) fun _ _ _=>JK⟩
theorem Ym {op:CmpOp} {g:G2} (ho:OpP X T (compareOp op) g) (ha:QE X T ES a da) (hb:QE X T ES b db) (hm:behindInMarks op b=false):QE X T ES (.Compare a [op] [b] pos) (dOp g da db):=⟨jN (jhw ho ha.h hb.h hm) fun _ _ _=>JK⟩
def asB:PV->Option Bool
 | .bl b=>some b
 | _=>none
def yd (d:DE):DT:=fun ρ M=>(d ρ M).bind fun x M1=>ofO (asB x) M1
theorem jU {op:CmpOp} {g:G2} (ho:OpP X T (compareOp op) g) (ha:QE X T ES a da) (hb:QE X T ES b db) (hm:behindInMarks op b=false):QT X T ES (.Compare a [op] [b] pos) (yd (dOp g da db)) :=
 ⟨Uk (jhj ho ha.h hb.h hm) fun σ H Q hQQ=>jC hQQ fun W ρ M k hh hs p=>JK ⟨W,ρ,M,k,hh,hs,yj.bind (R1:=Rep) p fun W1 M1 x v H1 l1 h1 r1 p1=>by
  cases x with
  | bl b=>exact ⟨b,r1,p1 W1 H1 b (.refl W1) h1 rfl⟩
  | _=>exact p1.elim⟩⟩
def UD (g g':G2) (da db dc:DE):DE:=fun ρ M=>(da ρ M).bind fun x M1=>(db ρ M1).bind fun y M2=>match g M2 x y with
 | some (.bl true)=>(dc ρ M2).bind fun z M3=>ofO (g' M3 y z) M3
 | some (.bl false)=>.ok (.bl false) M2
 | _=>.bad
theorem jbM {g g':G2} {σ:St} {H:Hp} {Q:VK} (h:lft T Rep ES (UD g g' da db dc) σ H Q):jef (rP T g) (rP T g') (lft T Rep ES da) (lft T Rep ES db) (lft T Rep ES dc) σ H Q:=by
 obtain ⟨W,ρ,M,k,hh,hs,p⟩:=h;refine ⟨W,ρ,M,k,hh,hs,yj.bind p fun W1 M1 x v H1 l1 h1 r1 p1=>⟨W1,ρ,M1,l1.k.trans k,h1,hs.up l1,yj.bind p1 fun W2 M2 y u H2 l2 h2 r2 p2=>?_⟩⟩;have k2:=l2.k.trans (l1.k.trans k);split at p2
 ·rename_i e;refine ⟨W2,M2,x,y,_,k2,h2,r1.up l2,r2,e,fun W3 H3 v' l3 h3 r3=>⟨true,r3,?_⟩⟩;rw [if_pos rfl];refine ⟨W3,ρ,M2,l3.k.trans k2,h3,(hs.up (l1.trans l2)).up l3,yj.bind (yj.up p2 l3) fun W4 M4 z w H4 l4 h4 r4 p4=>?_⟩
  cases e':g' M4 y z with
  | none=>rw [e'] at p4; exact p4.elim
  | some z' =>
   rw [e'] at p4;exact ⟨W4,M4,y,z,z',l4.k.trans (l3.k.trans k2),h4,(r2.up l3).up l4,r4,e',p4⟩
 ·rename_i e;refine ⟨W2,M2,x,y,_,k2,h2,r1.up l2,r2,e,fun W3 H3 v' l3 h3 r3=>⟨false,r3,?_⟩⟩;rw [if_neg (by simp)];exact p2 W3 H3 (.bl false) l3 h3 rfl
 ·exact p2.elim
theorem jeB {op op':CmpOp} {g g':G2} (ho:OpP X T (compareOp op) g) (ho':OpP X T (compareOp op') g') (ha:QE X T ES a da) (hb:QE X T ES b db) (hc:QE X T ES c dc)
  (hm:lastMarks [op,op'] [b,c]=false:=by with_unfolding_all rfl):QE X T ES (.Compare a [op,op'] [b,c] pos) (UD g g' da db dc):=⟨jN (jeY ho ho' ha.h hb.h hc.h hm) fun _ _ _=>jbM⟩
def yV (M:Sto):PV->Option (List PV)
 | .lst xs=>some xs
 | .ref i=>(match M.g i with
  | some (.lst xs)=>some xs
  | _=>none)
 | _=>none
theorem xp {W:Wd} {M:Sto} {H:Hp} {x:PV} {v:V} {xs:List PV} (hh:Held W M H) (r:Rep W x v) (e:yV M x=some xs):∃ a vs,v = .ref a∧H a=some (.lst vs)∧yc W xs vs:=by
 cases x with
 | lst ys =>
  cases e;obtain ⟨a,vs,e1,q,rr⟩:=r;exact ⟨a,vs,e1,hh.f _ _ q,rr⟩
 | ref i =>
  obtain ⟨a,e1,q⟩:=r
  have e:(match M.g i with
   | some (.lst xs)=>some xs
   | _=>none)=some xs:=e
  split at e
  ·rename_i ys e2;cases e;obtain ⟨b,o,h1,h2,h3,vs,rfl,rr⟩:=hh.m i _ e2;rw [q] at h1;cases h1;exact ⟨a,vs,e1,h3,rr⟩
  ·cases e
 | _=>cases e
theorem xK {W:Wd} {M:Sto} {H:Hp} {v:V} {xs:List PV} (hh:Held W M H) (r:Rep W (.tup xs) v):∃ a vs,v = .ref a∧SqT W.T.K H a vs∧yc W xs vs:=by
 obtain ⟨a,vs,e1,q,rr⟩:=r;exact ⟨a,vs,e1,Ue hh.f q,rr⟩
def Jb (M:Sto):PV->Option (List PV)
 | .tup xs=>some xs
 | x=>yV M x
theorem UN {W:Wd} {M:Sto} {H:Hp} {x:PV} {v:V} {xs:List PV} (hh:Held W M H) (r:Rep W x v) (e:Jb M x=some xs):∃ a vs,v = .ref a∧(SqL W.T.K H a vs∨SqT W.T.K H a vs)∧yc W xs vs:=by
 cases x with
 | tup ys =>
  cases e;obtain ⟨a,vs,h1,h2,h3⟩:=xK hh r;exact ⟨a,vs,h1,.inr h2,h3⟩
 | _ =>
  obtain ⟨a,vs,h1,h2,h3⟩:=xp hh r e;exact ⟨a,vs,h1,.inl (SqL.of h2),h3⟩
theorem uP {W:Wd} {M:Sto} {H:Hp} {xs:List PV} {vs:List V} {p:Addr} (hh:Held W M H) (r:yc W xs vs) (e:H p=none):∃ W',W.le W'∧Held W' M (L2.upd H p (.lst vs))∧Rep W' (.lst xs) (.ref p):=by
 obtain ⟨le,h1,h2⟩:=hh.frz (o:=.lst vs) e;exact ⟨_,le,h1,p,vs,rfl,h2,r.up le⟩
theorem JM {W:Wd} {M:Sto} {H:Hp} {xs:List PV} {vs:List V} {p:Addr} (hh:Held W M H) (r:yc W xs vs) (e:H p=none):∃ W',W.le W'∧Held W' M (L2.upd H p (.tup vs))∧Rep W' (.tup xs) (.ref p):=by
 obtain ⟨le,h1,h2⟩:=hh.frz (o:=.tup vs) e;exact ⟨_,le,h1,p,vs,rfl,SqT.of h2,r.up le⟩
theorem jag {W:Wd} {M:Sto} {H:Hp} {xs:List PV} {vs:List V} {p:Addr} (hh:Held W M H) (r:yc W xs vs) (e:H p=none):∃ W',W.le W'∧Held W' (M.new (.lst xs)) (L2.upd H p (.lst vs))∧Rep W' (.ref M.n) (.ref p):=by
 obtain ⟨le,h1,h2⟩:=hh.put (l:=p) (o:=.lst vs) (c:=.lst xs) e ⟨vs,rfl,r⟩;exact ⟨_,le,h1,p,rfl,h2⟩
def vU (ds:DA):DE:=fun ρ M=>(ds ρ M).bind fun xs M1=>if xs.length<=sizeLine then .ok (.tup xs) M1 else .bad
def yR (ds:DA):DE:=fun ρ M=>(ds ρ M).bind fun xs M1=>if xs.length<=sizeLine then .ok (.lst xs) M1 else .bad
def YM (ds:DA):DE:=fun ρ M=>(ds ρ M).bind fun xs M1=>if xs.length<=sizeLine then .ok (.ref M1.n) (M1.new (.lst xs)) else .bad
theorem vK {x1} (h:QA X T ES es ds):QE X T ES (.Tuple es x1 pos) (vU ds):=⟨jN (Yq h.h) fun σ H Q hQQ=>jC hQQ fun W ρ M k hh hs p=>⟨W,ρ,M,k,hh,hs,yj.bind p fun W1 M1 xs vs H1 l1 h1 r1 p1=>by
 split at p1
 ·rename_i hz;refine ⟨by rw [r1.length]; exact hz,fun q e=>?_⟩;obtain ⟨W2,l2,h2,r2⟩:=JM h1 r1 e;exact p1 W2 _ _ l2 h2 r2
 ·exact p1.elim⟩⟩
theorem vj (h:QA X T ES es ds):QE X T ES (.List es pos) (yR ds):=⟨jN (jeU h.h) fun σ H Q hQQ=>jC hQQ fun W ρ M k hh hs p=>⟨W,ρ,M,k,hh,hs,yj.bind p fun W1 M1 xs vs H1 l1 h1 r1 p1=>by
 split at p1
 ·rename_i hz;refine ⟨by rw [r1.length]; exact hz,fun q e=>?_⟩;obtain ⟨W2,l2,h2,r2⟩:=uP h1 r1 e;exact p1 W2 _ _ l2 h2 r2
 ·exact p1.elim⟩⟩
theorem JJ (h:QA X T ES es ds):QE X T ES (.List es pos) (YM ds):=⟨jN (jeU h.h) fun σ H Q hQQ=>jC hQQ fun W ρ M k hh hs p=>⟨W,ρ,M,k,hh,hs,yj.bind p fun W1 M1 xs vs H1 l1 h1 r1 p1=>by
 split at p1
 ·rename_i hz;refine ⟨by rw [r1.length]; exact hz,fun q e=>?_⟩;obtain ⟨W2,l2,h2,r2⟩:=jag h1 r1 e;exact p1 W2 _ _ l2 h2 r2
 ·exact p1.elim⟩⟩
def dFrz (d:DE):DE:=fun ρ M=>(d ρ M).bind fun x M1=>match x with
 | .ref i=>(match M1.g i with
  | some (.lst xs)=>.ok (.lst xs) (M1.drop i)
  | _=>.bad)
 | _=>.bad
theorem qe_frz (h:QE X T ES e d):QE X T ES e (dFrz d):=⟨jN h.h fun σ H Q hQQ=>jC hQQ fun W ρ M k hh hs p=>⟨W,ρ,M,k,hh,hs,yj.bind p fun W1 M1 x v H1 l1 h1 r1 p1=>by
 split at p1
 ·rename_i i;split at p1
  ·rename_i xs e;obtain ⟨a,rfl,ea⟩:=r1;obtain ⟨vs,_,l2,h2,r2⟩:=h1.freeze e ea;exact p1 _ _ _ l2 h2 r2
  ·exact p1.elim
 ·exact p1.elim⟩⟩
def yJ (da db:DT):DT:=fun ρ M=>(da ρ M).bind fun c M1=>if c=true then db ρ M1 else .ok false M1
def dOr (da db:DT):DT:=fun ρ M=>(da ρ M).bind fun c M1=>if c=true then .ok true M1 else db ρ M1
def vz (da:DT):DT:=fun ρ M=>(da ρ M).bind fun c M1=>.ok (!c) M1
variable {ta tb:DT} {rest:List Expr}
theorem QW.qt (h:QW X T ES e ta):QT X T ES e ta:=⟨h.h.pt⟩
theorem vh (ha:QT X T ES a ta):QW X T ES (.BoolOp .And [a] pos) ta:=⟨jhg ha.h⟩
theorem Yk (ha:QT X T ES a ta):QW X T ES (.BoolOp .Or [a] pos) ta:=⟨pw_or1 ha.h⟩
theorem vJ (ha:QT X T ES a ta) (hb:QW X T ES (.BoolOp .And (b :: rest) pos) tb):QW X T ES (.BoolOp .And (a :: b :: rest) pos) (yJ ta tb):=⟨jeD (pw_and ha.h hb.h) fun σ H Q hQQ=>jC hQQ fun W ρ M k hh hs p =>
 ⟨W,ρ,M,k,hh,hs,yj.bind p fun W1 M1 x v H1 l1 h1 r1 p1=>by
  subst r1
  cases v with
  | true=>rw [if_pos rfl]; exact ⟨W1,ρ,M1,l1.k.trans k,h1,hs.up l1,p1⟩
  | false=>rw [if_neg (by simp)]; exact p1 W1 H1 _ (.refl W1) h1 rfl⟩⟩
theorem UW (ha:QT X T ES a ta) (hb:QW X T ES (.BoolOp .Or (b :: rest) pos) tb):QW X T ES (.BoolOp .Or (a :: b :: rest) pos) (dOr ta tb):=⟨jeD (pw_or ha.h hb.h) fun σ H Q hQQ=>jC hQQ fun W ρ M k hh hs p =>
 ⟨W,ρ,M,k,hh,hs,yj.bind p fun W1 M1 x v H1 l1 h1 r1 p1=>by
  subst r1
  cases v with
  | false=>rw [if_neg (by simp)]; exact ⟨W1,ρ,M1,l1.k.trans k,h1,hs.up l1,p1⟩
  | true=>rw [if_pos rfl]; exact p1 W1 H1 _ (.refl W1) h1 rfl⟩⟩
theorem xO (ha:QT X T ES a ta):QT X T ES (.UnaryOp .Not a pos) (vz ta):=⟨Uk (pt_not ha.h) fun σ H Q hQQ=>jC hQQ fun W ρ M k hh hs p =>
 ⟨W,ρ,M,k,hh,hs,yj.bind p fun W1 M1 x v H1 l1 h1 r1 p1=>by
  subst r1
  exact p1 W1 H1 _ (.refl W1) h1 rfl⟩⟩
def YN (da db:DE):DE:=fun ρ M=>(da ρ M).bind fun x M1=>match x with
 | .bl true=>db ρ M1
 | .bl false=>.ok (.bl false) M1
 | _=>.bad
def jaI (da:DE):DE:=fun ρ M=>(da ρ M).bind fun x M1=>match x with
 | .bl b=>.ok (.bl (!b)) M1
 | _=>.bad
theorem jbg {op} (h:QE X T ES a da):QE X T ES (.BoolOp op [a] pos) da:=⟨pe_one h.h⟩
theorem jbi (ha:QE X T ES a da) (hb:QE X T ES (.BoolOp .And (b :: rest) pos) db):QE X T ES (.BoolOp .And (a :: b :: rest) pos) (YN da db):=⟨jN (pe_and ha.h hb.h) fun σ H Q hQQ=>jC hQQ fun W ρ M k hh hs p =>
 ⟨W,ρ,M,k,hh,hs,yj.bind p fun W1 M1 x v H1 l1 h1 r1 p1=>by
  split at p1
  ·exact ⟨true,r1,by rw [if_pos rfl]; exact ⟨W1,ρ,M1,l1.k.trans k,h1,hs.up l1,p1⟩⟩
  ·exact ⟨false,r1,by rw [if_neg (by simp)]; exact p1 W1 H1 _ (.refl W1) h1 rfl⟩
  ·exact p1.elim⟩⟩
theorem jez (ha:QE X T ES a da):QE X T ES (.UnaryOp .Not a pos) (jaI da):=⟨jN (pe_not ha.h) fun σ H Q hQQ=>jC hQQ fun W ρ M k hh hs p =>
 ⟨W,ρ,M,k,hh,hs,yj.bind p fun W1 M1 x v H1 l1 h1 r1 p1=>by
  split at p1
  ·exact ⟨_,r1,p1 W1 H1 _ (.refl W1) h1 rfl⟩
  ·exact p1.elim⟩⟩
def dIf (t:DT) (da db:DE):DE:=fun ρ M=>(t ρ M).bind fun c M1=>if c=true then da ρ M1 else db ρ M1
theorem Vb (hc:QT X T ES c ta) (ha:QE X T ES a da) (hb:QE X T ES b db):QE X T ES (.IfExp c a b pos) (dIf ta da db):=⟨jN (jeV hc.h ha.h hb.h) fun σ H Q hQQ=>jC hQQ fun W ρ M k hh hs p =>
 ⟨W,ρ,M,k,hh,hs,yj.bind p fun W1 M1 x v H1 l1 h1 r1 p1=>by
  subst r1
  cases v with
  | true=>rw [if_pos rfl] at p1 ⊢; exact ⟨W1,ρ,M1,l1.k.trans k,h1,hs.up l1,p1⟩
  | false=>rw [if_neg (by simp)] at p1 ⊢; exact ⟨W1,ρ,M1,l1.k.trans k,h1,hs.up l1,p1⟩⟩⟩
def jdZ (M:Sto):PV->Option Bool
 | .non=>some false
 | .bl b=>some b
 | .int i=>some (i != 0)
 | .tup xs=>some (!xs.isEmpty)
 | x=>(yV M x).map fun xs=>!xs.isEmpty
theorem yc.empty {W:Wd}:∀ {xs:List PV} {vs:List V},yc W xs vs->vs.isEmpty=xs.isEmpty
 | [],_,r=>by cases r; rfl
 | _ :: _,_,⟨_,_,e,_⟩=>by subst e; rfl
def xm (d:DE):DT:=fun ρ M=>(d ρ M).bind fun x M1=>ofO (jdZ M1 x) M1
theorem yY (hT:T.K=X.K) (h:QE X T ES e d) (he:∀ whole,isTrue e X.env whole=(do let v <- whole; standAt e.pos; holding [v] (truthy v)):=by intro _; rfl):QT X T ES e (xm d) :=
 ⟨Uk (pt_tru h.h he) fun σ H Q hQQ=>jC hQQ fun W ρ M k hh hs p=>⟨W,ρ,M,k,hh,hs,yj.bind p fun W1 M1 x v H1 l1 h1 r1 p1=>by
  cases e1:jdZ M1 x with
  | none=>rw [e1] at p1; exact p1.elim
  | some b =>
   rw [e1] at p1;refine ⟨b,?_,p1 W1 H1 b (.refl W1) h1 rfl⟩
   have sq:∀ y,yV M1 y=yV M1 x->(yV M1 x).map (fun xs=>!xs.isEmpty)=some b->TruV X.K v H1 b:=fun y _ q=>by
    cases e2:yV M1 x with
    | none=>rw [e2] at q; cases q
    | some xs =>
     rw [e2] at q;cases q;obtain ⟨a,vs,rfl,e3,rr⟩:=xp h1 r1 e2;exact .inl ⟨vs,SqL.of e3,by rw [rr.empty]⟩
   cases x with
   | non=>cases e1; cases r1; rfl
   | bl c=>cases e1; cases r1; rfl
   | int i=>cases e1; cases r1; rfl
   | tup xs =>
    cases e1;obtain ⟨a,vs,rfl,e3,rr⟩:=xK h1 r1;rw [l1.k.trans k,hT] at e3;exact .inr (.inl ⟨vs,e3,by rw [rr.empty]⟩)
   | lst xs=>exact sq _ rfl e1
   | ref i=>exact sq _ rfl e1
   | _=>cases e1⟩⟩
end
end L3

namespace L3
open PySem L2
mutual
def plain:PV->Bool
 | .non=>true
 | .bl _=>true
 | .int _=>true
 | .str _=>true
 | .tup xs=>yD xs
 | .lst xs=>yD xs
 | _=>false
def yD:List PV->Bool
 | []=>true
 | x :: xs=>plain x && yD xs
end
mutual
def dep:PV->Nat
 | .tup xs=>vd xs + 1
 | .lst xs=>vd xs + 1
 | _=>0
def vd:List PV->Nat
 | []=>0
 | x :: xs=>max (dep x) (vd xs)
end
mutual
def eqB:PV->PV->Bool
 | .non,.non=>true
 | .bl a,.bl b=>a == b
 | .bl a,.int b=>(if a then 1 else 0) == b
 | .int a,.bl b=>a == (if b then 1 else 0)
 | .int a,.int b=>a == b
 | .str a,.str b=>a == b
 | .tup xs,.tup ys=>Xd xs ys
 | .lst xs,.lst ys=>Xd xs ys
 | _,_=>false
def Xd:List PV->List PV->Bool
 | [],[]=>true
 | x :: xs,y :: ys=>eqB x y && Xd xs ys
 | _,_=>false
end
theorem vm:∀ {xs:List PV} {j:Nat} {x:PV},yD xs=true->xs[j]? = some x->plain x=true
 | [],_,_,_,e=>by simp at e
 | y :: ys,0,x,h,e=>by
  simp at e;subst e;unfold yD at h;exact (Bool.and_eq_true_iff.mp h).1
 | y :: ys,j + 1,x,h,e=>by
  unfold yD at h;exact vm (j:=j) (Bool.and_eq_true_iff.mp h).2 (by simpa using e)
theorem jcA:∀ {xs:List PV} {j:Nat} {x:PV},xs[j]? = some x->dep x<=vd xs
 | [],_,_,e=>by simp at e
 | y :: ys,0,x,e=>by
  simp at e;subst e;show dep y<=max (dep y) (vd ys);omega
 | y :: ys,j + 1,x,e=>by
  have:=jcA (j:=j) (xs:=ys) (x:=x) (by simpa using e)
  show dep x<=max (dep y) (vd ys);omega
theorem vR:∀ {xs ys:List PV},xs.length≠ys.length->Xd xs ys=false
 | [],[],h=>absurd rfl h
 | [],_ :: _,_=>rfl
 | _ :: _,[],_=>rfl
 | x :: xs,y :: ys,h=>by
  have:Xd xs ys=false:=vR fun e=>h (by simp [e])
  show (eqB x y && Xd xs ys)=false;rw [this,Bool.and_false]
theorem xy:∀ {xs ys:List PV},xs.length=ys.length->((List.range xs.length).all fun i=>eqB (xs.getD i .non) (ys.getD i .non))=Xd xs ys
 | [],[],_=>rfl
 | x :: xs,y :: ys,h=>by
  rw [List.length_cons,List.range_succ_eq_map,List.all_cons,List.all_map];have ih:=xy (xs:=xs) (ys:=ys) (by simpa using h)
  show (eqB x y && _)=(eqB x y && Xd xs ys)
  rw [<- ih];rfl
 | [],_ :: _,h=>by simp at h
 | _ :: _,[],h=>by simp at h
mutual
theorem YH:∀ {x:PV},plain x=true->eqB x x=true
 | .non,_=>rfl
 | .bl b,_=>by show (b == b)=true; simp
 | .int b,_=>by show (b == b)=true; simp
 | .str b,_=>by show (b == b)=true; simp
 | .tup xs,h=>Jq (xs:=xs) h
 | .lst xs,h=>Jq (xs:=xs) h
theorem Jq:∀ {xs:List PV},yD xs=true->Xd xs xs=true
 | [],_=>rfl
 | x :: xs,h=>by
  unfold yD at h;have h:=Bool.and_eq_true_iff.mp h;show (eqB x x && Xd xs xs)=true;rw [YH h.1,Jq h.2];rfl
end
def AtH (W:Wd) (s:Shared):PV->Value->Prop
 | .non,u=>u = .none
 | .bl b,u=>u = .bool b
 | .int i,u=>∃ t,u = .int i t
 | .str x,u=>∃ t,u = .str x t
 | .lst xs,u=>∃ a its vs,u = .ref a∧s.heap.IsList a (List.toArray its)∧yg vs its∧yc W xs vs
 | .tup xs,u=>∃ a its vs,u = .ref a∧s.heap.IsTuple a (List.toArray its)∧yg vs its∧yc W xs vs
 | _,_=>False
theorem uE:∀ {xs:List V} {us:List Value} {j:Nat} {u:Value},yg xs us->us[j]? = some u->∃ v,xs[j]? = some v∧yh v u
 | _,_,_,_,.nil,e=>by simp at e
 | _,_,0,_,.cons r _,e=>by simp at e; subst e; exact ⟨_,rfl,r⟩
 | _,_,j + 1,u,.cons _ t,e=>by
  obtain ⟨v,h1,h2⟩:=uE (j:=j) t (by simpa using e);exact ⟨v,by simpa using h1,h2⟩
theorem uJ:∀ {W:Wd} {xs:List PV} {vs:List V} {i:Nat} {v:V},yc W xs vs->vs[i]? = some v->∃ x,xs[i]? = some x∧Rep W x v
 | _,[],_,_,_,r,e=>by cases r; simp at e
 | _,_ :: _,_,0,_,⟨v,r,e,a,_⟩,q=>by subst e; simp at q; subst q; exact ⟨_,rfl,a⟩
 | _,_ :: _,_,i + 1,_,⟨v,r,e,_,b⟩,q=>by
  subst e;obtain ⟨x,h1,h2⟩:=uJ (i:=i) b (by simpa using q);exact ⟨x,by simpa using h1,h2⟩
section
variable {X:Cx} {pins:List (Addr × Obj)} {σ:St} {H:Hp} {s:Shared} {W:Wd} {M:Sto}
theorem atH (I:Inv X pins σ H s) (hh:Held W M H) (hT:W.T.K=X.K) {x:PV} {v:V} {u:Value} (p:plain x=true) (r:Rep W x v) (q:yh v u):AtH W s x u:=by
 cases x with
 | non=>cases r; exact q
 | bl b=>cases r; exact q
 | int b=>cases r; exact q
 | str b=>cases r; exact q
 | lst xs =>
  obtain ⟨a,vs,rfl,e,rr⟩:=r;cases q;obtain ⟨its,rv,pl,_⟩:=I.list (SqL.of (hh.f _ _ e));exact ⟨a,its,vs,rfl,pl.isList,rv,rr⟩
 | tup xs =>
  obtain ⟨a,vs,rfl,e,rr⟩:=r;cases q;obtain ⟨its,rv,pl,_⟩:=I.tuple (show SqT X.K H a vs from hT ▸ Ue hh.f e);exact ⟨a,its,vs,rfl,pl,rv,rr⟩
 | _=>cases p
theorem jiA {a:Addr} {its its':Array Value} (h:s.heap.IsList a its) (h':s.heap.IsTuple a its'):False:=SeqAt.ne_of_list_tuple h h' rfl
def back:V->Option PV
 | .non=>some .non
 | .bl b=>some (.bl b)
 | .int i=>some (.int i)
 | .str x=>some (.str x)
 | _=>none
theorem Yj (I:Inv X pins σ H s) (hh:Held W M H) (hT:W.T.K=X.K) {x:PV} {v:V} (p:plain x=true) (r:Rep W x v):back v=some x∨∃ a vs,v = .ref a∧((∃ xs,x = .lst xs∧W.F a=some (.lst vs)∧yc W xs vs∧∃ its,s.heap.IsList a its)∨(∃ xs,x = .tup xs∧SqT X.K H a vs∧yc W xs vs∧∃ its,s.heap.IsTuple a its)):=by
 cases x with
 | non=>cases r; exact .inl rfl
 | bl _=>cases r; exact .inl rfl
 | int _=>cases r; exact .inl rfl
 | str _=>cases r; exact .inl rfl
 | lst xs =>
  obtain ⟨a,vs,rfl,e,rr⟩:=r;obtain ⟨its,_,pl,_⟩:=I.list (SqL.of (hh.f _ _ e));exact .inr ⟨a,vs,rfl,.inl ⟨xs,rfl,e,rr,_,pl.isList⟩⟩
 | tup xs =>
  obtain ⟨a,vs,rfl,e,rr⟩:=r
  have e:=(show SqT X.K H a vs from hT ▸ Ue hh.f e)
  obtain ⟨its,_,pl,_⟩:=I.tuple e;exact .inr ⟨a,vs,rfl,.inr ⟨xs,rfl,e,rr,_,pl⟩⟩
 | _=>cases p
theorem UV {n:Nat} (ih:∀ (x y:PV) (v:V),dep x < n->plain x=true->plain y=true->Rep W x v->Rep W y v->x=y) (xs:List PV):∀ (ys:List PV) (vs:List V),vd xs < n->yD xs=true->yD ys=true->yc W xs vs->yc W ys vs->xs=ys:=by
 induction xs with
 | nil =>
  intro ys vs _ _ _ r q;cases r
  cases ys with
  | nil=>rfl
  | cons y ys=>obtain ⟨_,_,e,_⟩:=q; cases e
 | cons x xs hi =>
  intro ys vs hn p p' r q;obtain ⟨v,r,rfl,a,b⟩:=r
  cases ys with
  | nil=>cases q
  | cons y ys =>
   obtain ⟨v',r',e',a',b'⟩:=q;cases e';unfold yD at p p';have p:=Bool.and_eq_true_iff.mp p;have p':=Bool.and_eq_true_iff.mp p';have hn:max (dep x) (vd xs) < n:=hn;rw [ih x y v (by omega) p.1 p'.1 a a',hi ys r (by omega) p.2 p'.2 b b']
theorem jbQ (I:Inv X pins σ H s) (hh:Held W M H) (hT:W.T.K=X.K) {x y:PV} {v:V} (px:plain x=true) (py:plain y=true) (rx:Rep W x v) (ry:Rep W y v):x=y:=by
 suffices h:∀ (n:Nat) (x y:PV) (v:V),dep x < n->plain x=true->plain y=true->Rep W x v->Rep W y v->x=y from h _ x y v (Nat.lt_succ_self _) px py rx ry
 intro n
 induction n with
 | zero=>intro x y v h; exact absurd h (Nat.not_lt_zero _)
 | succ n ih =>
 intro x y v hn px py rx ry
 rcases Yj I hh hT px rx with h | ⟨a,vs,rfl,h⟩
 ·rcases Yj I hh hT py ry with h' | ⟨a,vs,rfl,_⟩
  ·rw [h] at h'; exact Option.some.inj h'
  ·cases h
 rcases Yj I hh hT py ry with h' | ⟨a',us,e,h'⟩
 ·cases h'
 cases e
 rcases h with ⟨xs,rfl,f,rr,its,hl⟩ | ⟨xs,rfl,f,rr,its,hl⟩ <;> rcases h' with ⟨ys,rfl,f',rr',its',hl'⟩ | ⟨ys,rfl,f',rr',its',hl'⟩
 ·rw [f] at f';cases f';rw [UV ih xs ys vs (show vd xs < n from Nat.lt_of_succ_lt_succ hn) px py rr rr']
 ·exact (jiA hl hl').elim
 ·exact (jiA hl' hl).elim
 ·have:=I.tuple_inj f f'
  subst this;rw [UV ih xs ys vs (show vd xs < n from Nat.lt_of_succ_lt_succ hn) px py rr rr']
theorem Jr {I0:Prop} {xs ys:List PV} {vs us:List V} {its its':List Value} {A:Around} (ih:∀ (x y:PV) {v u:V} {v' u':Value},dep x<=vd xs->plain x=true->plain y=true->Rep W x v->Rep W y u->yh v v'->yh u u'->SeqAt.EqAt A s v' u' (eqB x y))
  (px:yD xs=true) (py:yD ys=true) (rx:yc W xs vs) (ry:yc W ys us) (qx:yg vs its) (qy:yg us its') {j:Nat} (h1:j < its.length) (h2:j < its'.length):SeqAt.EqAt A s its[j] its'[j] (eqB (xs.getD j .non) (ys.getD j .non)):=by
 obtain ⟨v,e1,r1⟩:=uE qx (List.getElem?_eq_getElem h1);obtain ⟨u,e2,r2⟩:=uE qy (List.getElem?_eq_getElem h2);obtain ⟨x,e3,r3⟩:=uJ rx e1;obtain ⟨y,e4,r4⟩:=uJ ry e2;rw [List.getD_eq_getElem?_getD,List.getD_eq_getElem?_getD,e3,e4];exact ih x y (jcA e3) (vm px e3) (vm py e4) r3 r4 r1 r2
theorem YI (I:Inv X pins σ H s) (hh:Held W M H) (hT:W.T.K=X.K):∀ (n:Nat) (x y:PV) {v u:V} {v' u':Value} (A:Around),dep x < n->A.units + dep x < cLine->plain x=true->plain y=true->Rep W x v->Rep W y u->yh v v'->yh u u'->SeqAt.EqAt A s v' u' (eqB x y):=by
 intro n
 induction n with
 | zero=>intro x y v u v' u' A h; exact absurd h (Nat.not_lt_zero _)
 | succ n ih =>
 intro x y v u v' u' A hn hu px py rx ry qx qy
 cases x with
 | lst xs =>
  have hn:vd xs + 1 < n + 1:=hn;have hu:A.units + (vd xs + 1) < cLine:=hu
  obtain ⟨a,its,vs,rfl,il,rv,rr⟩:=(show AtH W s (.lst xs) v' from atH I hh hT px rx qx)
  have hy:=atH I hh hT py ry qy
  cases y with
  | lst ys =>
   obtain ⟨b,its',us,rfl,il',rv',rr'⟩:=hy
   by_cases hab:a=b
   ·subst hab;have e:v=u:=qx.inj qy;subst e;have e:=jbQ I hh hT px py rx ry;cases e;rw [YH px];exact SeqAt.EqAt.same _
   ·refine SeqAt.EqAt.of_refs hab ?_;have l1:=rv.length;have l2:=rv'.length;have l3:=rr.length;have l4:=rr'.length
    by_cases hl:xs.length=ys.length
    ·have:=SeqAt.RcAt.lists (A:=A) (e:=fun j=>eqB (xs.getD j .non) (ys.getD j .non)) il il' (by simp; omega) (by omega) fun j h1 h2=>Jr (I0:=True) (fun x y v u v' u' hd=>ih x y A.in1 (by omega) (show A.units + 1 + dep x < cLine by omega)) px py rr rr' rv rv' (j:=j) (by simpa using h1) (by simpa using h2)
     rw [List.size_toArray,show its.length=xs.length by omega,xy hl] at this;exact this
    ·have:=SeqAt.RcAt.lists_lengths (A:=A) il il' (by simp; omega) (by omega)
     rw [show eqB (.lst xs) (.lst ys)=false from vR hl];exact this
  | tup ys =>
   obtain ⟨b,its',us,rfl,il',rv',rr'⟩:=hy;exact SeqAt.EqAt.list_tuple il il' (by omega)
  | non=>cases hy; exact SeqAt.EqAt.list_none il (by omega)
  | bl b=>cases hy; exact SeqAt.EqAt.list_bool b il (by omega)
  | int b=>obtain ⟨t,rfl⟩:=hy; exact SeqAt.EqAt.list_int b t il (by omega)
  | str b=>obtain ⟨t,rfl⟩:=hy; exact SeqAt.EqAt.list_str b t il (by omega)
  | _=>cases py
 | tup xs =>
  have hn:vd xs + 1 < n + 1:=hn;have hu:A.units + (vd xs + 1) < cLine:=hu
  obtain ⟨a,its,vs,rfl,il,rv,rr⟩:=(show AtH W s (.tup xs) v' from atH I hh hT px rx qx)
  have hy:=atH I hh hT py ry qy
  cases y with
  | tup ys =>
   obtain ⟨b,its',us,rfl,il',rv',rr'⟩:=hy
   by_cases hab:a=b
   ·subst hab;have e:v=u:=qx.inj qy;subst e;have e:=jbQ I hh hT px py rx ry;cases e;rw [YH px];exact SeqAt.EqAt.same _
   ·refine SeqAt.EqAt.of_refs hab ?_;have l1:=rv.length;have l2:=rv'.length;have l3:=rr.length;have l4:=rr'.length
    have:=SeqAt.RcAt.tuples (A:=A) (e:=fun j=>eqB (xs.getD j .non) (ys.getD j .non)) il il' (by omega) fun j h1 h2=>Jr (I0:=True) (fun x y v u v' u' hd=>ih x y A.in1 (by omega) (show A.units + 1 + dep x < cLine by omega)) px py rr rr' rv rv' (j:=j) (by simpa using h1) (by simpa using h2)
    by_cases hl:xs.length=ys.length
    ·rw [List.size_toArray,List.size_toArray,show its.length=xs.length by omega,show its'.length=xs.length by omega,Nat.min_self,xy hl,beq_self_eq_true,Bool.and_true] at this;exact this
    ·rw [List.size_toArray,List.size_toArray,show its.length=xs.length by omega,show its'.length=ys.length by omega,show (xs.length == ys.length)=false by simpa using hl,Bool.and_false] at this;rw [show eqB (.tup xs) (.tup ys)=false from vR hl];exact this
  | lst ys =>
   obtain ⟨b,its',us,rfl,il',rv',rr'⟩:=hy;exact SeqAt.EqAt.tuple_list il il' (by omega)
  | non=>cases hy; exact SeqAt.EqAt.tuple_none il (by omega)
  | bl b=>cases hy; exact SeqAt.EqAt.tuple_bool b il (by omega)
  | int b=>obtain ⟨t,rfl⟩:=hy; exact SeqAt.EqAt.tuple_int b t il (by omega)
  | str b=>obtain ⟨t,rfl⟩:=hy; exact SeqAt.EqAt.tuple_str b t il (by omega)
  | _=>cases py
 | non =>
  cases rx;cases qx;have hu:A.units < cLine:=hu;have hy:=atH I hh hT py ry qy
  cases y with
  | non=>cases hy; exact SeqAt.EqAt.same _
  | bl b=>cases hy; exact SeqAt.EqAt.none_bool b
  | int b=>obtain ⟨t,rfl⟩:=hy; exact SeqAt.EqAt.none_int b t
  | str b=>obtain ⟨t,rfl⟩:=hy; exact SeqAt.EqAt.none_str b t
  | lst ys=>obtain ⟨b,its',us,rfl,il',_⟩:=hy; exact SeqAt.EqAt.none_list il' hu
  | tup ys=>obtain ⟨b,its',us,rfl,il',_⟩:=hy; exact SeqAt.EqAt.none_tuple il' hu
  | _=>cases py
 | bl a =>
  cases rx;cases qx;have hu:A.units < cLine:=hu;have hy:=atH I hh hT py ry qy
  cases y with
  | non=>cases hy; exact SeqAt.EqAt.bool_none a
  | bl b=>cases hy; exact SeqAt.EqAt.bool_bool a b
  | int b=>obtain ⟨t,rfl⟩:=hy; exact SeqAt.EqAt.bool_int a b t
  | str b=>obtain ⟨t,rfl⟩:=hy; exact SeqAt.EqAt.bool_str a b t
  | lst ys=>obtain ⟨b,its',us,rfl,il',_⟩:=hy; exact SeqAt.EqAt.bool_list a il' hu
  | tup ys=>obtain ⟨b,its',us,rfl,il',_⟩:=hy; exact SeqAt.EqAt.bool_tuple a il' hu
  | _=>cases py
 | int a =>
  cases rx;obtain ⟨t,rfl⟩:=qx;have hu:A.units < cLine:=hu;have hy:=atH I hh hT py ry qy
  cases y with
  | non=>cases hy; exact SeqAt.EqAt.int_none a t
  | bl b=>cases hy; exact SeqAt.EqAt.int_bool a t b
  | int b=>obtain ⟨t',rfl⟩:=hy; exact SeqAt.EqAt.int_int a t b t'
  | str b=>obtain ⟨t',rfl⟩:=hy; exact SeqAt.EqAt.int_str a t b t'
  | lst ys=>obtain ⟨b,its',us,rfl,il',_⟩:=hy; exact SeqAt.EqAt.int_list a t il' hu
  | tup ys=>obtain ⟨b,its',us,rfl,il',_⟩:=hy; exact SeqAt.EqAt.int_tuple a t il' hu
  | _=>cases py
 | str a =>
  cases rx;obtain ⟨t,rfl⟩:=qx;have hu:A.units < cLine:=hu;have hy:=atH I hh hT py ry qy
  cases y with
  | non=>cases hy; exact SeqAt.EqAt.str_none a t
  | bl b=>cases hy; exact SeqAt.EqAt.str_bool a t b
  | int b=>obtain ⟨t',rfl⟩:=hy; exact SeqAt.EqAt.str_int a t b t'
  | str b=>obtain ⟨t',rfl⟩:=hy; exact SeqAt.EqAt.str_str a t b t'
  | lst ys=>obtain ⟨b,its',us,rfl,il',_⟩:=hy; exact SeqAt.EqAt.str_list a t il' hu
  | tup ys=>obtain ⟨b,its',us,rfl,il',_⟩:=hy; exact SeqAt.EqAt.str_tuple a t il' hu
  | _=>cases py
 | _=>cases px
theorem jeq (I:Inv X pins σ H s) (hh:Held W M H) (hT:W.T.K=X.K) {x y:PV} {v u:V} {v' u':Value} {A:Around} (hu:A.units + dep x < cLine) (px:plain x=true) (py:plain y=true) (rx:Rep W x v) (ry:Rep W y u) (qx:yh v v') (qy:yh u u') :
  SeqAt.RcAt A s v' u' (eqB x y)∧SeqAt.RcNeAt A s v' u' (!eqB x y):=by
 have hx:=atH I hh hT px rx qx;have hy:=atH I hh hT py ry qy
 have hu0:A.units < cLine:=by omega
 cases x with
 | non =>
  cases hx
  cases y with
  | non=>cases hy; exact ⟨SeqAt.RcAt.none_none,SeqAt.RcNeAt.none_none⟩
  | bl b=>cases hy; exact ⟨SeqAt.RcAt.none_bool b,SeqAt.RcNeAt.none_bool b⟩
  | int b=>obtain ⟨t,rfl⟩:=hy; exact ⟨SeqAt.RcAt.none_int b t,SeqAt.RcNeAt.none_int b t⟩
  | str b=>obtain ⟨t,rfl⟩:=hy; exact ⟨SeqAt.RcAt.none_str b t,SeqAt.RcNeAt.none_str b t⟩
  | lst ys=>obtain ⟨b,its',us,rfl,il',_⟩:=hy; exact ⟨SeqAt.RcAt.none_list il' hu0,SeqAt.RcNeAt.none_list il' hu0⟩
  | tup ys=>obtain ⟨b,its',us,rfl,il',_⟩:=hy; exact ⟨SeqAt.RcAt.none_tuple il' hu0,SeqAt.RcNeAt.none_tuple il' hu0⟩
  | _=>cases py
 | bl a =>
  cases hx
  cases y with
  | non=>cases hy; exact ⟨SeqAt.RcAt.bool_none a,SeqAt.RcNeAt.bool_none a⟩
  | bl b=>cases hy; exact ⟨SeqAt.RcAt.bool_bool a b,SeqAt.RcNeAt.bool_bool a b⟩
  | int b=>obtain ⟨t,rfl⟩:=hy; exact ⟨SeqAt.RcAt.bool_int a b t,SeqAt.RcNeAt.bool_int a b t⟩
  | str b=>obtain ⟨t,rfl⟩:=hy; exact ⟨SeqAt.RcAt.bool_str a b t,SeqAt.RcNeAt.bool_str a b t⟩
  | lst ys=>obtain ⟨b,its',us,rfl,il',_⟩:=hy; exact ⟨SeqAt.RcAt.bool_list a il' hu0,SeqAt.RcNeAt.bool_list a il' hu0⟩
  | tup ys=>obtain ⟨b,its',us,rfl,il',_⟩:=hy; exact ⟨SeqAt.RcAt.bool_tuple a il' hu0,SeqAt.RcNeAt.bool_tuple a il' hu0⟩
  | _=>cases py
 | int a =>
  obtain ⟨t,rfl⟩:=hx
  cases y with
  | non=>cases hy; exact ⟨SeqAt.RcAt.int_none a t,SeqAt.RcNeAt.int_none a t⟩
  | bl b=>cases hy; exact ⟨SeqAt.RcAt.int_bool a t b,SeqAt.RcNeAt.int_bool a t b⟩
  | int b=>obtain ⟨t',rfl⟩:=hy; exact ⟨SeqAt.RcAt.int_int a t b t',SeqAt.RcNeAt.int_int a t b t'⟩
  | str b=>obtain ⟨t',rfl⟩:=hy; exact ⟨SeqAt.RcAt.int_str a t b t',SeqAt.RcNeAt.int_str a t b t'⟩
  | lst ys=>obtain ⟨b,its',us,rfl,il',_⟩:=hy; exact ⟨SeqAt.RcAt.int_list a t il' hu0,SeqAt.RcNeAt.int_list a t il' hu0⟩
  | tup ys=>obtain ⟨b,its',us,rfl,il',_⟩:=hy; exact ⟨SeqAt.RcAt.int_tuple a t il' hu0,SeqAt.RcNeAt.int_tuple a t il' hu0⟩
  | _=>cases py
 | str a =>
  obtain ⟨t,rfl⟩:=hx
  cases y with
  | non=>cases hy; exact ⟨SeqAt.RcAt.str_none a t,SeqAt.RcNeAt.str_none a t⟩
  | bl b=>cases hy; exact ⟨SeqAt.RcAt.str_bool a t b,SeqAt.RcNeAt.str_bool a t b⟩
  | int b=>obtain ⟨t',rfl⟩:=hy; exact ⟨SeqAt.RcAt.str_int a t b t',SeqAt.RcNeAt.str_int a t b t'⟩
  | str b=>obtain ⟨t',rfl⟩:=hy; exact ⟨SeqAt.RcAt.str_str a t b t',SeqAt.RcNeAt.str_str a t b t'⟩
  | lst ys=>obtain ⟨b,its',us,rfl,il',_⟩:=hy; exact ⟨SeqAt.RcAt.str_list a t il' hu0,SeqAt.RcNeAt.str_list a t il' hu0⟩
  | tup ys=>obtain ⟨b,its',us,rfl,il',_⟩:=hy; exact ⟨SeqAt.RcAt.str_tuple a t il' hu0,SeqAt.RcNeAt.str_tuple a t il' hu0⟩
  | _=>cases py
 | lst xs =>
  obtain ⟨a,its,vs,rfl,il,rv,rr⟩:=hx;have hu:A.units + (vd xs + 1) < cLine:=hu
  cases y with
  | lst ys =>
   obtain ⟨b,its',us,rfl,il',rv',rr'⟩:=hy;have l1:=rv.length;have l2:=rv'.length;have l3:=rr.length;have l4:=rr'.length
   by_cases hl:xs.length=ys.length
   ·have t1:=SeqAt.RcAt.lists (A:=A) (e:=fun j=>eqB (xs.getD j .non) (ys.getD j .non)) il il' (by simp; omega) (by omega) fun j h1 h2=>Jr (I0:=True) (fun x y v u v' u' hd=>YI I hh hT (dep x + 1) x y A.in1 (by omega) (show A.units + 1 + dep x < cLine by omega)) px py rr rr' rv rv' (j:=j) (by simpa using h1) (by simpa using h2);have t2:=SeqAt.RcNeAt.lists (A:=A) (e:=fun j=>eqB (xs.getD j .non) (ys.getD j .non)) il il' (by simp; omega) (by omega) fun j h1 h2=>Jr (I0:=True) (fun x y v u v' u' hd=>YI I hh hT (dep x + 1) x y A.in1 (by omega) (show A.units + 1 + dep x < cLine by omega)) px py rr rr' rv rv' (j:=j) (by simpa using h1) (by simpa using h2);rw [List.size_toArray,show its.length=xs.length by omega,xy hl] at t1 t2;exact ⟨t1,t2⟩
   ·rw [show eqB (.lst xs) (.lst ys)=false from vR hl];exact ⟨SeqAt.RcAt.lists_lengths (A:=A) il il' (by simp; omega) (by omega),SeqAt.RcNeAt.lists_lengths (A:=A) il il' (by simp; omega) (by omega)⟩
  | tup ys=>obtain ⟨b,its',us,rfl,il',rv',rr'⟩:=hy; exact ⟨SeqAt.RcAt.list_tuple il il' (by omega),SeqAt.RcNeAt.list_tuple il il' (by omega)⟩
  | non=>cases hy; exact ⟨SeqAt.RcAt.list_none il (by omega),SeqAt.RcNeAt.list_none il (by omega)⟩
  | bl b=>cases hy; exact ⟨SeqAt.RcAt.list_bool b il (by omega),SeqAt.RcNeAt.list_bool b il (by omega)⟩
  | int b=>obtain ⟨t,rfl⟩:=hy; exact ⟨SeqAt.RcAt.list_int b t il (by omega),SeqAt.RcNeAt.list_int b t il (by omega)⟩
  | str b=>obtain ⟨t,rfl⟩:=hy; exact ⟨SeqAt.RcAt.list_str b t il (by omega),SeqAt.RcNeAt.list_str b t il (by omega)⟩
  | _=>cases py
 | tup xs =>
  obtain ⟨a,its,vs,rfl,il,rv,rr⟩:=hx;have hu:A.units + (vd xs + 1) < cLine:=hu
  cases y with
  | tup ys =>
   obtain ⟨b,its',us,rfl,il',rv',rr'⟩:=hy;have l1:=rv.length;have l2:=rv'.length;have l3:=rr.length;have l4:=rr'.length;have t1:=SeqAt.RcAt.tuples (A:=A) (e:=fun j=>eqB (xs.getD j .non) (ys.getD j .non)) il il' (by omega) fun j h1 h2=>Jr (I0:=True) (fun x y v u v' u' hd=>YI I hh hT (dep x + 1) x y A.in1 (by omega) (show A.units + 1 + dep x < cLine by omega)) px py rr rr' rv rv' (j:=j) (by simpa using h1) (by simpa using h2);have t2:=SeqAt.RcNeAt.tuples (A:=A) (e:=fun j=>eqB (xs.getD j .non) (ys.getD j .non)) il il' (by omega) fun j h1 h2=>Jr (I0:=True) (fun x y v u v' u' hd=>YI I hh hT (dep x + 1) x y A.in1 (by omega) (show A.units + 1 + dep x < cLine by omega)) px py rr rr' rv rv' (j:=j) (by simpa using h1) (by simpa using h2)
   by_cases hl:xs.length=ys.length
   ·rw [List.size_toArray,List.size_toArray,show its.length=xs.length by omega,show its'.length=xs.length by omega,Nat.min_self,xy hl,beq_self_eq_true,Bool.and_true] at t1 t2;exact ⟨t1,t2⟩
   ·rw [List.size_toArray,List.size_toArray,show its.length=xs.length by omega,show its'.length=ys.length by omega,show (xs.length == ys.length)=false by simpa using hl,Bool.and_false] at t1 t2;rw [show eqB (.tup xs) (.tup ys)=false from vR hl];exact ⟨t1,t2⟩
  | lst ys=>obtain ⟨b,its',us,rfl,il',rv',rr'⟩:=hy; exact ⟨SeqAt.RcAt.tuple_list il il' (by omega),SeqAt.RcNeAt.tuple_list il il' (by omega)⟩
  | non=>cases hy; exact ⟨SeqAt.RcAt.tuple_none il (by omega),SeqAt.RcNeAt.tuple_none il (by omega)⟩
  | bl b=>cases hy; exact ⟨SeqAt.RcAt.tuple_bool b il (by omega),SeqAt.RcNeAt.tuple_bool b il (by omega)⟩
  | int b=>obtain ⟨t,rfl⟩:=hy; exact ⟨SeqAt.RcAt.tuple_int b t il (by omega),SeqAt.RcNeAt.tuple_int b t il (by omega)⟩
  | str b=>obtain ⟨t,rfl⟩:=hy; exact ⟨SeqAt.RcAt.tuple_str b t il (by omega),SeqAt.RcNeAt.tuple_str b t il (by omega)⟩
  | _=>cases py
 | _=>cases px
end
end L3

namespace L3
open PySem L2
section
variable {X:Cx} {T:Tb} {f:Value->Value->Sem Value}
def gI (C:Int->Int->Bool) (z:Int->Int->PV):G2:=fun _ x y=>match x,y with
 | .int i,.int j=>if C i j=true then some (z i j) else none
 | _,_=>none
theorem jcy {C:Int->Int->Bool} {z:Int->Int->PV} {M:Sto} {x y w:PV} (e:gI C z M x y=some w):∃ i j,x = .int i∧y = .int j∧C i j=true∧w=z i j:=by
 unfold gI at e;split at e
 ·split at e
  ·rename_i h;cases e;exact ⟨_,_,rfl,rfl,h,rfl⟩
  ·cases e
 ·cases e
theorem jcq {C:Int->Int->Bool} {z:Int->Int->PV} {D:Int->Int->Prop} {zv:Int->Int->V} (h:OpR X f (rI D zv)) (hD:∀ i j,C i j=true->D i j) (hz:∀ W i j,Rep W (z i j) (zv i j)):OpP X T f (gI C z) :=
 xE h fun v u H Q hQQ=>by
  obtain ⟨W,M,x,y,w,k,hh,rx,ry,e,q⟩:=hQQ;obtain ⟨i,j,rfl,rfl,hc,rfl⟩:=jcy e;exact ⟨i,j,rx,ry,hD i j hc,q W H _ (.refl W) hh (hz W i j)⟩
theorem Jk {z:Int->Int->PV} {zv:Int->Int->V} (h:OpR X f (rI0 zv)) (hz:∀ W i j,Rep W (z i j) (zv i j)):OpP X T f (gI (fun _ _=>true) z) :=
 xE h fun v u H Q hQQ=>by
  obtain ⟨W,M,x,y,w,k,hh,rx,ry,e,q⟩:=hQQ;obtain ⟨i,j,rfl,rfl,hc,rfl⟩:=jcy e;exact ⟨i,j,rx,ry,q W H _ (.refl W) hh (hz W i j)⟩
abbrev jcW:Int->Int->Bool:=fun _ _=>true
def jiF:G2:=gI jcW fun i j=>.int (i + j)
def jbC:G2:=gI jcW fun i j=>.int (i - j)
def jij (i j:Int):Bool:=(decide (-(2 ^ 64) < i) && decide (i < 2 ^ 64)) || (decide (-(2 ^ 64) < j) && decide (j < 2 ^ 64))
def jcx:G2:=gI jij fun i j=>.int (i * j)
def jfM:G2:=gI (fun _ j=>decide (0 < j) && decide (j < 1073741824)) fun i j=>.int (i / j)
def jat:G2:=gI (fun _ j=>decide (0 < j)) fun i j=>.int (i % j)
def gPow:G2:=gI (fun i j=>decide (0<=j) && decide (j<=1000000) && decide (i.natAbs < 2 ^ 64)) fun i j=>.int (i ^ j.toNat)
def gLt:G2:=gI jcW fun i j=>.bl (decide (i < j))
def gLe:G2:=gI jcW fun i j=>.bl (decide (i<=j))
def gGt:G2:=gI jcW fun i j=>.bl (decide (j < i))
def gGe:G2:=gI jcW fun i j=>.bl (decide (j<=i))
theorem o_addI:OpP X T (binaryOp .Add) jiF:=Jk op_add fun _ _ _=>rfl
theorem jiy:OpP X T (binaryOp .Sub) jbC:=Jk op_sub fun _ _ _=>rfl
theorem o_mulI:OpP X T (binaryOp .Mult) jcx:=jcq op_mul (fun i j h=>by
 unfold jij at h;simp only [Bool.or_eq_true,Bool.and_eq_true,decide_eq_true_eq] at h
 exact h) fun _ _ _=>rfl
theorem jfd:OpP X T (binaryOp .FloorDiv) jfM:=jcq jhz (fun i j h=>by
 simp only [Bool.and_eq_true,decide_eq_true_eq] at h
 exact h) fun _ _ _=>rfl
theorem Vf:OpP X T (binaryOp .Mod) jat:=jcq op_mod (fun i j h=>of_decide_eq_true h) fun _ _ _=>rfl
theorem o_pow:OpP X T (binaryOp .Pow) gPow:=jcq op_pow (fun i j h=>by
 simp only [Bool.and_eq_true,decide_eq_true_eq] at h
 exact ⟨h.1.1,h.1.2,h.2⟩) fun _ _ _=>rfl
theorem jhE:OpP X T (compareOp .Lt) gLt:=Jk op_lt fun _ _ _=>rfl
theorem o_le:OpP X T (compareOp .LtE) gLe:=Jk op_le fun _ _ _=>rfl
theorem jdl:OpP X T (compareOp .Gt) gGt:=Jk op_gt fun _ _ _=>rfl
theorem o_ge:OpP X T (compareOp .GtE) gGe:=Jk op_ge fun _ _ _=>rfl
def gCat:G2:=fun M x y=>match yV M x,yV M y with
 | some xs,some ys=>if xs.length + ys.length<=sizeLine then some (.lst (xs ++ ys)) else none
 | _,_=>none
theorem o_cat:OpP X T (binaryOp .Add) gCat:=xE op_cat fun v u H Q hQQ=>by
 obtain ⟨W,M,x,y,w,k,hh,rx,ry,e,q⟩:=hQQ;unfold gCat at e;split at e
 ·rename_i xs ys e1 e2;split at e
  ·rename_i hz;cases e;obtain ⟨a,vs,rfl,ha,rv⟩:=xp hh rx e1;obtain ⟨b,us,rfl,hb,ru⟩:=xp hh ry e2;refine ⟨a,b,vs,us,rfl,rfl,ha,hb,by rw [rv.length,ru.length]; exact hz,fun p hp=>?_⟩;obtain ⟨W2,l2,h2,r2⟩:=uP hh (rv.append ru) hp;exact q W2 _ _ l2 h2 r2
  ·cases e
 ·cases e
def jfN:G2:=fun _ x y=>match x,y with
 | .tup xs,.tup ys=>if xs≠[]∧xs.length + ys.length<=sizeLine then some (.tup (xs ++ ys)) else none
 | _,_=>none
theorem yc.nil_iff {W:Wd} {xs:List PV} {vs:List V} (r:yc W xs vs):vs=[]↔xs=[]:=by
 have:=r.length
 constructor
 ·rintro rfl;exact List.eq_nil_of_length_eq_zero (by simpa using this.symm)
 ·rintro rfl;exact List.eq_nil_of_length_eq_zero (by simpa using this)
theorem o_catT (hT:T.K=X.K):OpP X T (binaryOp .Add) jfN:=xE jhA fun v u H Q hQQ=>by
 obtain ⟨W,M,x,y,w,k,hh,rx,ry,e,q⟩:=hQQ;unfold jfN at e;split at e
 ·rename_i xs ys;split at e
  ·rename_i hz;cases e;obtain ⟨a,vs,rfl,ha,rv⟩:=xK hh rx;obtain ⟨b,us,rfl,hb,ru⟩:=xK hh ry;rw [k,hT] at ha hb;refine ⟨a,b,vs,us,rfl,rfl,ha,hb,fun z=>hz.1 (rv.nil_iff.mp z),by rw [rv.length,ru.length]; exact hz.2,fun z=>?_,fun z p hp=>?_⟩
   ·have z:=ru.nil_iff.mp z;subst z;rw [List.append_nil] at q;exact q W H _ (.refl W) hh rx
   ·obtain ⟨W2,l2,h2,r2⟩:=JM hh (rv.append ru) hp;exact q W2 _ _ l2 h2 r2
  ·cases e
 ·cases e
def JG:G2:=orG jiF (orG gCat jfN)
theorem Jv (hT:T.K=X.K):OpP X T (binaryOp .Add) JG:=jbo o_addI (jbo o_cat (o_catT hT))
def jhX:G2:=fun M x y=>match y with
 | .int k=>(match yV M x with
  | some xs=>if -(2 ^ 63)<=k∧k < 2 ^ 63∧xs.length * k.toNat<=sizeLine then some (.lst (List.replicate k.toNat xs).flatten) else none
  | none=>none)
 | _=>none
theorem o_rep:OpP X T (binaryOp .Mult) jhX:=xE op_rep fun v u H Q hQQ=>by
 obtain ⟨W,M,x,y,w,k,hh,rx,ry,e,q⟩:=hQQ;unfold jhX at e;split at e
 ·rename_i i;split at e
  ·rename_i xs e1;split at e
   ·rename_i hz;cases e;obtain ⟨a,vs,rfl,ha,rv⟩:=xp hh rx e1;refine ⟨a,i,vs,rfl,ry,ha,hz.1,hz.2.1,by rw [rv.length]; exact hz.2.2,fun p hp=>?_⟩;obtain ⟨W2,l2,h2,r2⟩:=uP hh (rv.rep i.toNat) hp;exact q W2 _ _ l2 h2 r2
   ·cases e
  ·cases e
 ·cases e
def YE:G2:=orG jcx jhX
theorem Ve:OpP X T (binaryOp .Mult) YE:=jbo o_mulI o_rep
def jiD:PV->Bool
 | .non=>true
 | _=>false
theorem jdv {W:Wd} {x:PV} {v:V} (r:Rep W x v):decide (v = .non)=jiD x:=by
 cases x with
 | non=>cases r; rfl
 | bl _=>cases r; rfl
 | int _=>cases r; rfl
 | str _=>cases r; rfl
 | ty _=>cases r; rfl
 | top _=>cases r; rfl
 | exn _=>obtain ⟨_,rfl,_⟩:=r; rfl
 | dct _=>obtain ⟨_,_,rfl,_⟩:=r; rfl
 | scr _=>obtain ⟨_,rfl,_⟩:=r; rfl
 | ref _=>obtain ⟨_,rfl,_⟩:=r; rfl
 | tup _=>obtain ⟨_,_,rfl,_⟩:=r; rfl
 | lst _=>obtain ⟨_,_,rfl,_⟩:=r; rfl
def vQ:G2:=fun _ x y=>match y with
 | .non=>some (.bl (!jiD x))
 | _=>none
theorem Ur:OpP X T (compareOp .IsNot) vQ:=xE jhy fun v u H Q hQQ=>by
 obtain ⟨W,M,x,y,w,k,hh,rx,ry,e,q⟩:=hQQ;unfold vQ at e;split at e
 ·cases e;exact ⟨ry,q W H _ (.refl W) hh (by rw [jdv rx]; rfl)⟩
 ·cases e
def look (M:Sto):PV->PV
 | .ref i=>(match M.g i with
  | some (.lst xs)=>.lst xs
  | _=>.ref i)
 | x=>x
theorem jdr {M:Sto} {i:Nat} (h:∀ xs,M.g i≠some (.lst xs)):look M (.ref i) = .ref i:=by
 show (match M.g i with
  | some (.lst xs)=>PV.lst xs
  | _=>.ref i)=_
 split
 ·rename_i xs e;exact absurd e (h xs)
 ·rfl
theorem jfn {M:Sto} {i:Nat} {xs:List PV} (h:M.g i=some (.lst xs)):look M (.ref i) = .lst xs:=by
 show (match M.g i with
  | some (.lst xs)=>PV.lst xs
  | _=>.ref i)=_
 rw [h]
def Wd.all (W:Wd) (H:Hp):Wd:=⟨W.T,H,W.α,fun _=>none⟩
theorem Held.le_all {W:Wd} {M:Sto} {H:Hp} (hh:Held W M H):W.le0 (W.all H):=⟨rfl,hh.f,fun _ _ e=>e⟩
theorem Held.all {W:Wd} {M:Sto} {H:Hp} (hh:Held W M H):Held (W.all H) ⟨M.n,fun _=>none⟩ H:=⟨fun _ _ e=>e,fun _ _ e=>(by cases e),fun _ _ _ _ _ e=>(by cases e),hh.top,fun _ _ e=>(by cases e),fun _ _ e=>(by cases e)⟩
theorem vM {W:Wd} {M:Sto} {H:Hp} {x:PV} {v:V} (hh:Held W M H) (r:Rep W x v):Rep (W.all H) (look M x) v:=by
 cases x with
 | ref i =>
  by_cases h:∃ xs,M.g i=some (.lst xs)
  ·obtain ⟨xs,e⟩:=h;rw [jfn e];obtain ⟨a,rfl,ea⟩:=r;obtain ⟨b,o,h1,h2,h3,vs,rfl,rr⟩:=hh.m i _ e;rw [ea] at h1;cases h1;exact ⟨a,vs,rfl,h3,rr.up0 hh.le_all⟩
  ·rw [jdr fun xs e=>h ⟨xs,e⟩];exact r.up0 hh.le_all
 | _=>exact r.up0 hh.le_all
def eqG (neg:Bool):G2:=fun M x y=>if plain (look M x)=true∧plain (look M y)=true∧dep (look M x)<=60 then some (.bl (if neg then !eqB (look M x) (look M y) else eqB (look M x) (look M y))) else none
theorem YZ (hT:T.K=X.K) (hu:X.A.units + 64 < cLine):OpP X T (compareOp .Eq) (eqG false):=by
 intro pins s σ H v u v' u' Q I rv ru h;obtain ⟨W,M,x,y,w,k,hh,rx,ry,e,q⟩:=h;unfold eqG at e;split at e
 ·rename_i hp;cases e;have t:=(jeq I hh.all (show W.T.K=X.K by rw [k]; exact hT) (A:=X.A) (by omega) hp.1 hp.2.1 (vM hh rx) (vM hh ry) rv ru).1;exact t X.prog X.w X.xe _ ⟨.bl _,H,I,rfl,q W H _ (.refl W) hh rfl⟩
 ·cases e
theorem jhD (hT:T.K=X.K) (hu:X.A.units + 64 < cLine):OpP X T (compareOp .NotEq) (eqG true):=by
 intro pins s σ H v u v' u' Q I rv ru h;obtain ⟨W,M,x,y,w,k,hh,rx,ry,e,q⟩:=h;unfold eqG at e;split at e
 ·rename_i hp;cases e;have t:=(jeq I hh.all (show W.T.K=X.K by rw [k]; exact hT) (A:=X.A) (by omega) hp.1 hp.2.1 (vM hh rx) (vM hh ry) rv ru).2;exact t X.prog X.w X.xe _ ⟨.bl _,H,I,rfl,q W H _ (.refl W) hh rfl⟩
 ·cases e
theorem jip {W:Wd} {xs:List PV} {vs:List V} {i:Int} {x:PV} (r:yc W xs vs) (e:atI xs i=some x):∃ v,atI vs i=some v∧Rep W x v:=by
 unfold atI at e ⊢;rw [r.length]
 cases h:ixN xs.length i with
 | none=>rw [h] at e; cases e
 | some j =>
  rw [h] at e;exact r.get e
def gIx:G2:=fun M x y=>match y with
 | .int i=>(Jb M x).bind fun xs=>atI xs i
 | _=>none
abbrev IxP (X:Cx) (T:Tb) (g:G2):Prop:=IxR X (rP T g)
theorem jaW (hT:T.K=X.K):IxP X T gIx:=by
 intro value slice pins s σ H v u v' u' Q I rv ru h hs;refine (jhR.or ix_tup) value slice pins s σ H v u v' u' Q I rv ru ?_ hs;obtain ⟨W,M,x,y,w,k,hh,rx,ry,e,q⟩:=h;unfold gIx at e;split at e
 ·rename_i i
  cases e1:Jb M x with
  | none=>rw [e1] at e; cases e
  | some xs =>
   rw [e1] at e;obtain ⟨a,vs,rfl,hq,rr⟩:=UN hh rx e1;obtain ⟨z,e2,rz⟩:=jip rr e;rw [k,hT] at hq
   rcases hq with hq | hq
   ·exact .inl ⟨a,vs,i,z,rfl,ry,hq,e2,q W H z (.refl W) hh rz⟩
   ·exact .inr ⟨a,vs,i,z,rfl,ry,hq,e2,q W H z (.refl W) hh rz⟩
 ·cases e
variable {ES:St->XK} {a b:Expr} {pos:Pos} {da db:DE}
theorem Yl {g:G2} (hr:IxP X T g) (ha:QE X T ES a da) (hb:QE X T ES b db) (hs:jcQ b):QE X T ES (.Subscript a b pos) (dOp g da db):=⟨jN (pe_ix hr ha.h hb.h hs) fun _ _ _=>JK⟩
structure QO (X:Cx) (T:Tb) (ES:St->XK) (e:Option Expr) (d:En->Sto->Res (Option Int)):Prop where
 h:PO X e (lft T (fun _ a b=>b=a) ES d)
def dON:En->Sto->Res (Option Int):=fun _ M=>.ok none M
def dOS (d:DE):En->Sto->Res (Option Int):=fun ρ M=>(d ρ M).bind fun x M1=>match x with
 | .int i=>.ok (some i) M1
 | _=>.bad
theorem jeK {e:Option Expr} {t t':TO} (h:PO X e t) (f:∀ σ H Q,t' σ H Q->t σ H Q):PO X e t':=fun pins s σ H Q I q=>h pins s σ H Q I (f σ H Q q)
theorem jgX:QO X T ES none dON:=⟨jeK jho fun σ H Q hQQ=>jC hQQ fun W ρ M k hh hs p=>p W H none (.refl W) hh rfl⟩
theorem jgW (h:QE X T ES a da):QO X T ES (some a) (dOS da):=⟨jeK (jhn h.h) fun σ H Q hQQ=>jC hQQ fun W ρ M k hh hs p=>⟨W,ρ,M,k,hh,hs,yj.bind p fun W1 M1 x v H1 l1 h1 r1 p1=>by
 split at p1
 ·rename_i i;exact ⟨i,r1,p1 W1 H1 _ (.refl W1) h1 rfl⟩
 ·exact p1.elim⟩⟩
def UE (xs:List PV) (lo hi:Option Int):List PV:=(xs.drop (HT.sIx xs.length 0 lo)).take (HT.sIx xs.length xs.length hi - HT.sIx xs.length 0 lo)
theorem jcH {W:Wd} {xs:List PV} {vs:List V} (r:yc W xs vs) (lo hi:Option Int):yc W (UE xs lo hi) (jaJ vs lo hi):=by
 unfold UE jaJ;rw [r.length];exact (r.drop _).take _
def gSl (M:Sto) (x:PV) (lo hi:Option Int):Option PV:=match x with
 | .tup xs=>if ¬ (HT.sIx xs.length 0 lo=0∧HT.sIx xs.length xs.length hi=xs.length) then some (.tup (UE xs lo hi)) else some (.tup xs)
 | x=>(yV M x).map fun xs=>.lst (UE xs lo hi)
def dSl (d:DE) (dl dh:En->Sto->Res (Option Int)):DE:=fun ρ M=>(d ρ M).bind fun x M1=>(dl ρ M1).bind fun lo M2=>(dh ρ M2).bind fun hi M3=>ofO (gSl M3 x lo hi) M3
theorem jey (hT:T.K=X.K) {lo hi:Option Expr} {p2:Pos} {dl dh:En->Sto->Res (Option Int)} (he:QE X T ES a da) (hl:QO X T ES lo dl) (hu:QO X T ES hi dh):QE X T ES (.Subscript a (.Slice lo hi none p2) pos) (dSl da dl dh) :=
 ⟨jN (jeS (SlR.or (SlR.or jgN sl_tup) jgM) he.h hl.h hu.h) fun σ H Q hQQ=>jC hQQ fun W ρ M k hh hs p=>⟨W,ρ,M,k,hh,hs,yj.bind p fun W1 M1 x v H1 l1 h1 r1 p1 =>
  ⟨W1,ρ,M1,l1.k.trans k,h1,hs.up l1,yj.bind p1 fun W2 M2 lo' l' H2 l2 h2 r2 p2=>⟨W2,ρ,M2,l2.k.trans (l1.k.trans k),h2,hs.up (l1.trans l2),yj.bind p2 fun W3 M3 hi' u' H3 l3 h3 r3 p3=>by
   subst r2;subst r3;have r1:=(r1.up l2).up l3;have k3:W3.T=T:=l3.k.trans (l2.k.trans (l1.k.trans k))
   have lists:∀ e:Option (List PV),yV M3 x=e->yj W3 Rep (ofO (e.map fun xs=>PV.lst (UE xs l' u')) M3) Q (ES σ)->rSlL X.K v l' u' H3 Q:=fun e he q=>by
    cases e with
    | none=>exact q.elim
    | some xs =>
     obtain ⟨a,vs,rfl,ha,rv⟩:=xp h3 r1 he;refine ⟨a,vs,rfl,SqL.of ha,fun p hp=>?_⟩;obtain ⟨W4,l4,h4,r4⟩:=uP h3 (jcH rv l' u') hp;exact q W4 _ _ l4 h4 r4
   cases x with
   | tup xs =>
    have p3:yj W3 Rep (ofO (if ¬ (HT.sIx xs.length 0 l'=0∧HT.sIx xs.length xs.length u'=xs.length) then some (PV.tup (UE xs l' u')) else some (.tup xs)) M3) Q (ES σ):=p3
    by_cases hz:¬ (HT.sIx xs.length 0 l'=0∧HT.sIx xs.length xs.length u'=xs.length)
    ·rw [if_pos hz] at p3;obtain ⟨a,vs,rfl,ha,rv⟩:=xK h3 r1;rw [k3,hT] at ha;refine .inl (.inr ⟨a,vs,rfl,ha,by rw [rv.length]; exact hz,fun p hp=>?_⟩);obtain ⟨W4,l4,h4,r4⟩:=JM h3 (jcH rv l' u') hp;exact p3 W4 _ _ l4 h4 r4
    ·rw [if_neg hz] at p3;have r0:=r1;obtain ⟨a,vs,rfl,ha,rv⟩:=xK h3 r1;rw [k3,hT] at ha;exact .inr ⟨a,vs,rfl,ha,by rw [rv.length]; exact Classical.not_not.mp hz,p3 W3 H3 _ (.refl W3) h3 r0⟩
   | lst xs=>exact .inl (.inl (lists _ rfl p3))
   | ref i=>exact .inl (.inl (lists _ rfl p3))
   | _=>exact p3.elim⟩⟩⟩⟩
def gNeg (_:Sto):PV->Option PV
 | .int i=>some (.int (-i))
 | _=>none
def dUn (g:Sto->PV->Option PV) (d:DE):DE:=fun ρ M=>(d ρ M).bind fun x M1=>ofO (g M1 x) M1
end
end L3

namespace L3
open PySem L2
open Classical in
noncomputable def eqW (W:Wd) (y:PV) (ys:List PV) (u:Value):Bool:=decide (∃ z ∈ ys,∃ v,Rep W z v∧yh v u∧eqB z y=true)
section
variable {X:Cx} {T:Tb} {pins:List (Addr × Obj)} {σ:St} {H:Hp} {s:Shared} {W:Wd} {M:Sto}
theorem uv:∀ {xs:List PV} {x:PV},yD xs=true->x ∈ xs->plain x=true:=fun {xs x} h hm=>by
 obtain ⟨j,e⟩:=List.mem_iff_getElem?.mp hm;exact vm h e
open Classical in
theorem jfR (I:Inv X pins σ H s) (hh:Held W M H) (hT:W.T.K=X.K) {y:PV} {ys:List PV} {z:PV} {v:V} {u:Value} (hz:z ∈ ys) (p:yD ys=true) (r:Rep W z v) (q:yh v u):eqW W y ys u=eqB z y:=by
 unfold eqW
 cases e:eqB z y with
 | true=>exact decide_eq_true ⟨z,hz,v,r,q,e⟩
 | false =>
  refine decide_eq_false fun hQQ=>?_;obtain ⟨z',hz',v',r',q',e'⟩:=hQQ;cases q'.inj q
  have:=jbQ I hh hT (uv p hz') (uv p hz) r' r
  subst this;rw [e] at e';cases e'
theorem jcP (I:Inv X pins σ H s) (hh:Held W M H) (hT:W.T.K=X.K) {y:PV} {ys:List PV} (p:yD ys=true):∀ {zs:List PV} {vs:List V} {us:List Value},(∀ z ∈ zs,z ∈ ys)->yc W zs vs->yg vs us->us.any (eqW W y ys)=zs.any fun z=>eqB z y
 | [],_,_,_,r,q=>by cases r; cases q; rfl
 | z :: zs,_,_,hm,⟨v,r,e,a,b⟩,q=>by
  subst e
  cases q with
  | cons q1 q2 =>
   rw [List.any_cons,List.any_cons,jfR I hh hT (hm z List.mem_cons_self) p a q1,jcP I hh hT p (fun w hw=>hm w (List.mem_cons_of_mem _ hw)) b q2]
theorem jiE (hT:T.K=X.K) (hu:X.A.units + 100 < cLine) (I:Inv X pins σ H s) (hh:Held W M H) (k:W.T=T) {x y:PV} {v u:V} {v' u':Value} {ys:List PV} (rx:Rep W x v) (ry:Rep W y u) (qx:yh v v') (qy:yh u u') (e:Jb M y=some ys) (px:plain (look M x)=true)
  (py:yD ys=true) (pd:∀ z ∈ ys,dep z<=60) {Q:Value->Shared->Prop} {E:Value->Shared->Prop}:(Q (.bool (ys.any fun z=>eqB z (look M x))) s->wpAny (model X.prog X.w) X.A (compareOp .In v' u') Q E s) ∧
   (Q (.bool (!(ys.any fun z=>eqB z (look M x)))) s->wpAny (model X.prog X.w) X.A (compareOp .NotIn v' u') Q E s):=by
 have kk:(W.all H).T.K=X.K:=by
  show W.T.K=X.K;rw [k];exact hT
 obtain ⟨a,vs,rfl,hq,rr⟩:=UN hh ry e;cases qy;rw [k,hT] at hq;have rr:=rr.up0 hh.le_all;have rx:=vM hh rx
 have tests:∀ {its:List Value},yg vs its->(∀ w,w ∈ its.toArray->SeqAt.EqAt X.A.in1 s w v' (eqW (W.all H) (look M x) ys w))∧its.toArray.any (eqW (W.all H) (look M x) ys)=ys.any fun z=>eqB z (look M x):=fun {its} rv=>by
  refine ⟨fun w hw=>?_,?_⟩
  ·obtain ⟨j,ej⟩:=List.mem_iff_getElem?.mp (show w ∈ its by simpa using hw);obtain ⟨v2,e1,r1⟩:=uE rv ej;obtain ⟨z,e2,r2⟩:=uJ rr e1;have hz:=List.mem_of_getElem? e2;rw [jfR I hh.all kk hz py r2 r1]
   have:=pd z hz
   exact YI I hh.all kk (dep z + 1) z (look M x) X.A.in1 (Nat.lt_succ_self _) (show X.A.units + 1 + dep z < cLine by omega) (uv py hz) px r2 rx r1 qx
  ·rw [List.any_toArray];exact jcP I hh.all kk py (fun _ z=>z) rr rv
 rcases hq with hq | hq
 ·obtain ⟨its,rv,pl,hz⟩:=I.list hq;obtain ⟨t1,t2⟩:=tests rv;exact ⟨fun q=>SeqAt.in_listAt _ pl.isList t1 (by rw [t2]; exact q),fun q=>SeqAt.notIn_listAt _ pl.isList t1 (by rw [t2]; exact q)⟩
 ·obtain ⟨its,rv,pl,hz⟩:=I.tuple hq;obtain ⟨t1,t2⟩:=tests rv;exact ⟨fun q=>SeqAt.in_tupleAt _ pl t1 (by rw [t2]; exact q),fun q=>SeqAt.notIn_tupleAt _ pl t1 (by rw [t2]; exact q)⟩
def Js:List PV->Bool
 | []=>true
 | z :: zs=>decide (dep z<=60) && Js zs
theorem uA:∀ {zs:List PV} {z:PV},Js zs=true->z ∈ zs->dep z<=60
 | [],_,_,h=>by cases h
 | w :: ws,z,e,h=>by
  unfold Js at e;have e:=Bool.and_eq_true_iff.mp e
  rcases List.mem_cons.mp h with rfl | h
  ·exact of_decide_eq_true e.1
  ·exact uA e.2 h
def gIn (neg:Bool):G2:=fun M x y=>match Jb M y with
 | some ys=>if plain (look M x)=true∧yD ys=true∧Js ys=true then some (.bl (if neg then !(ys.any fun z=>eqB z (look M x)) else ys.any fun z=>eqB z (look M x))) else none
 | none=>none
theorem o_in (hT:T.K=X.K) (hu:X.A.units + 100 < cLine):OpP X T (compareOp .In) (gIn false):=by
 intro pins s σ H v u v' u' Q I rv ru h;obtain ⟨W,M,x,y,w,k,hh,rx,ry,e,q⟩:=h;unfold gIn at e;split at e
 ·rename_i ys e1;split at e
  ·rename_i hp;cases e;exact (jiE hT hu I hh k rx ry rv ru e1 hp.1 hp.2.1 (fun z hz=>uA hp.2.2 hz)).1 ⟨.bl _,H,I,rfl,q W H _ (.refl W) hh rfl⟩
  ·cases e
 ·cases e
theorem vn (hT:T.K=X.K) (hu:X.A.units + 100 < cLine):OpP X T (compareOp .NotIn) (gIn true):=by
 intro pins s σ H v u v' u' Q I rv ru h;obtain ⟨W,M,x,y,w,k,hh,rx,ry,e,q⟩:=h;unfold gIn at e;split at e
 ·rename_i ys e1;split at e
  ·rename_i hp;cases e;exact (jiE hT hu I hh k rx ry rv ru e1 hp.1 hp.2.1 (fun z hz=>uA hp.2.2 hz)).2 ⟨.bl _,H,I,rfl,q W H _ (.refl W) hh rfl⟩
  ·cases e
 ·cases e
end
abbrev G1:=Sto->List PV->Option (PV × Sto)
def rC (T:Tb) (g:G1):List V->Hp->VK->Prop:=fun vs H Q=>∃ W M xs z M',W.T=T∧Held W M H∧yc W xs vs∧g M xs=some (z,M')∧∀ W' H' v',W.le W'->Held W' M' H'->Rep W' z v'->Q v' H'
def dCB (g:G1) (ds:DA):DE:=fun ρ M=>(ds ρ M).bind fun xs M1=>match g M1 xs with
 | some (z,M2)=>.ok z M2
 | none=>.bad
def orC (g g':G1):G1:=fun M xs=>match g M xs with
 | some z=>some z
 | none=>g' M xs
section
variable {X:Cx} {T:Tb} {ES:St->XK} {e:Expr} {es:List Expr} {p pos:Pos} {ds:DA} {g g':G1} {x:Str} {bid:String}
theorem VD {f:Value} {r r':List V->Hp->VK->Prop} (h:yU X f r) (k:∀ xs H Q,r' xs H Q->r xs H Q):yU X f r':=fun pins s σ H xs us Q I rs q=>h pins s σ H xs us Q I rs (k _ _ _ q)
theorem jcL {σ:St} {H:Hp} {Q:VK} (h:lft T Rep ES (dCB g ds) σ H Q):tCB (rC T g) (lft T yc ES ds) σ H Q:=by
 obtain ⟨W,ρ,M,k,hh,hs,p⟩:=h;refine ⟨W,ρ,M,k,hh,hs,yj.bind p fun W1 M1 xs vs H1 l1 h1 r1 p1=>?_⟩;split at p1
 ·rename_i z M2 e;exact ⟨W1,M1,xs,z,M2,l1.k.trans k,h1,r1,e,p1⟩
 ·exact p1.elim
theorem jj (hc:yU X (.builtin bid) (rC T g)) (hg:Gl X x) (hm:X.mg x=none) (hv:bootBuiltins x=some (.builtin bid)) (ha:QA X T ES (e :: es) ds) (hn:x≠"__name__":=by decide) (hdb:(x == ("__debug__":Str))=false:=by decide)
  (he:starEach (e :: es) X.env=(false,eval e X.env) :: starEach es X.env:=by rfl) (hpl:(backTo pos (starEach es X.env)).any (·.1)=false:=by rfl):QE X T ES (.Call (.Name x p) (e :: es) [] pos) (dCB g ds):=⟨jN (jab hc hg hm hv ha.h hn hdb he hpl) fun _ _ _=>jcL⟩
theorem Vc (hc:yU X (.type bid) (rC T g)) (hg:Gl X x) (hm:X.mg x=none) (hv:bootBuiltins x=some (.type bid)) (ha:QA X T ES (e :: es) ds) (hn:x≠"__name__":=by decide) (hdb:(x == ("__debug__":Str))=false:=by decide)
  (he:starEach (e :: es) X.env=(false,eval e X.env) :: starEach es X.env:=by rfl) (hpl:(backTo pos (starEach es X.env)).any (·.1)=false:=by rfl):QE X T ES (.Call (.Name x p) (e :: es) [] pos) (dCB g ds):=⟨jN (Vd hc hg hm hv ha.h hn hdb he hpl) fun _ _ _=>jcL⟩
theorem ua {W:Wd} {x:PV} {vs:List V} (r:yc W [x] vs):∃ v,vs=[v]∧Rep W x v:=by
 obtain ⟨v,r,e,a,b⟩:=r;cases b;exact ⟨v,e,a⟩
theorem uH {W:Wd} {x y:PV} {vs:List V} (r:yc W [x,y] vs):∃ v u,vs=[v,u]∧Rep W x v∧Rep W y u:=by
 obtain ⟨v,r,e,a,b⟩:=r;obtain ⟨u,rfl,q⟩:=ua b;exact ⟨v,u,e,a,q⟩
def one (f:Sto->PV->Option PV):G1:=fun M xs=>match xs with
 | [x]=>(match f M x with
  | some z=>some (z,M)
  | none=>none)
 | _=>none
theorem ue {f:Value} {fn:Sto->PV->Option PV} {r:List V->Hp->VK->Prop} (h:yU X f r)
  (k:∀ W M H x v z Q,W.T=T->Held W M H->Rep W x v->fn M x=some z->(∀ W' H' v',W.le W'->Held W' M H'->Rep W' z v'->Q v' H')->r [v] H Q):yU X f (rC T (one fn)) :=
 VD h fun vs H Q hQQ=>by
  obtain ⟨W,M,xs,z,M',kk,hh,rx,e,q⟩:=hQQ;unfold one at e;split at e
  ·rename_i x;split at e
   ·rename_i z' e';cases e;obtain ⟨v,rfl,rv⟩:=ua rx;exact k W M H x v z Q kk hh rv e' q
   ·cases e
  ·cases e
def xD (M:Sto) (x:PV):Option PV:=match Jb M x with
 | some xs=>some (.int xs.length)
 | none=>none
theorem Ja (hT:T.K=X.K):yU X (.builtin "len") (rC T (one xD)):=ue UI fun W M H x v z Q k hh r e q=>by
 unfold xD at e;split at e
 ·rename_i xs e1;cases e;obtain ⟨a,vs,rfl,hq,rr⟩:=UN hh r e1;rw [k,hT] at hq;exact ⟨a,vs,rfl,hq,q W H _ (.refl W) hh (by rw [rr.length]; rfl)⟩
 ·cases e
def Yz:List PV->Option (List Int)
 | []=>some []
 | .int i :: xs=>(Yz xs).map fun ns=>i :: ns
 | _ :: _=>none
theorem jap:∀ {xs:List PV} {ns:List Int},Yz xs=some ns->xs=ns.map PV.int
 | [],ns,e=>by cases e; rfl
 | .int i :: xs,ns,e=>by
  have e:(Yz xs).map (fun ns=>i :: ns)=some ns:=e
  cases h:Yz xs with
  | none=>rw [h] at e; cases e
  | some ms =>
   rw [h] at e;cases e;rw [jap h];rfl
 | .non :: _,_,e=>by cases e
 | .bl _ :: _,_,e=>by cases e
 | .str _ :: _,_,e=>by cases e
 | .ty _ :: _,_,e=>by cases e
 | .tup _ :: _,_,e=>by cases e
 | .lst _ :: _,_,e=>by cases e
 | .scr _ :: _,_,e=>by cases e
 | .top _ :: _,_,e=>by cases e
 | .exn _ :: _,_,e=>by cases e
 | .dct _ :: _,_,e=>by cases e
 | .ref _ :: _,_,e=>by cases e
@[simp] theorem Vr : ∀ (ns : List Int), Yz (ns.map PV.int) = some ns
 | []=>rfl
 | n :: ns=>by
  show (Yz (ns.map PV.int)).map (fun ms=>n :: ms)=_;rw [Vr ns];rfl
def uD:List PV->Option (List Bool)
 | []=>some []
 | .bl i :: xs=>(uD xs).map fun ns=>i :: ns
 | _ :: _=>none
theorem VE:∀ {xs:List PV} {ns:List Bool},uD xs=some ns->xs=ns.map PV.bl
 | [],ns,e=>by cases e; rfl
 | .bl i :: xs,ns,e=>by
  have e:(uD xs).map (fun ns=>i :: ns)=some ns:=e
  cases h:uD xs with
  | none=>rw [h] at e; cases e
  | some ms =>
   rw [h] at e;cases e;rw [VE h];rfl
 | .non :: _,_,e=>by cases e
 | .int _ :: _,_,e=>by cases e
 | .str _ :: _,_,e=>by cases e
 | .ty _ :: _,_,e=>by cases e
 | .tup _ :: _,_,e=>by cases e
 | .lst _ :: _,_,e=>by cases e
 | .scr _ :: _,_,e=>by cases e
 | .top _ :: _,_,e=>by cases e
 | .exn _ :: _,_,e=>by cases e
 | .dct _ :: _,_,e=>by cases e
 | .ref _ :: _,_,e=>by cases e
@[simp] theorem uC : ∀ (ns : List Bool), uD (ns.map PV.bl) = some ns
 | []=>rfl
 | n :: ns=>by
  show (uD (ns.map PV.bl)).map (fun ms=>n :: ms)=_;rw [uC ns];rfl
def jam (M:Sto) (x:PV):Option (List Int):=(yV M x).bind Yz
theorem jhS {W:Wd} {M:Sto} {H:Hp} {x:PV} {v:V} {ns:List Int} (hh:Held W M H) (r:Rep W x v) (e:jam M x=some ns):∃ a,v = .ref a∧H a=some (.lst (ns.map V.int)):=by
 unfold jam at e
 cases h:yV M x with
 | none=>rw [h] at e; cases e
 | some xs =>
  rw [h] at e;obtain ⟨a,vs,rfl,ha,rr⟩:=xp hh r h;rw [jap e] at rr;rw [yc.ints.mp rr] at ha;exact ⟨a,rfl,ha⟩
def jhT (n:Int):List Int->List Int
 | []=>[n]
 | m :: ms=>if n<=m then n :: m :: ms else m :: jhT n ms
def jeg:List Int->List Int
 | []=>[]
 | n :: ns=>jhT n (jeg ns)
theorem Vs (n:Int):∀ ms:List Int,(jhT n ms).Perm (n :: ms)
 | []=>.refl _
 | m :: ms=>by
  unfold jhT;split
  ·exact .refl _
  ·exact ((Vs n ms).cons m).trans (List.Perm.swap n m ms)
theorem jba:∀ ns:List Int,(jeg ns).Perm ns
 | []=>.refl _
 | n :: ns=>(Vs n _).trans ((jba ns).cons n)
def fSorted (M:Sto) (x:PV):Option PV:=match jam M x with
 | some ns=>if ns.length < 64 then some (.lst ((jeg ns).map PV.int)) else none
 | none=>none
def minI:List Int->Int
 | []=>0
 | [n]=>n
 | n :: ns=>if n<=minI ns then n else minI ns
def maxI:List Int->Int
 | []=>0
 | [n]=>n
 | n :: ns=>if maxI ns<=n then n else maxI ns
def fMin (M:Sto) (x:PV):Option PV:=match jam M x with
 | some (n :: ns)=>some (.int (minI (n :: ns)))
 | _=>none
def fMax (M:Sto) (x:PV):Option PV:=match jam M x with
 | some (n :: ns)=>some (.int (maxI (n :: ns)))
 | _=>none
def jgx (M:Sto) (x:PV):Option (List Bool):=(yV M x).bind uD
theorem jik {W:Wd} {M:Sto} {H:Hp} {x:PV} {v:V} {ns:List Bool} (hh:Held W M H) (r:Rep W x v) (e:jgx M x=some ns):∃ a,v = .ref a∧H a=some (.lst (ns.map V.bl)):=by
 unfold jgx at e
 cases h:yV M x with
 | none=>rw [h] at e; cases e
 | some xs =>
  rw [h] at e;obtain ⟨a,vs,rfl,ha,rr⟩:=xp hh r h;rw [VE e] at rr;rw [yc.bools.mp rr] at ha;exact ⟨a,rfl,ha⟩
def jax (M:Sto) (x:PV):Option PV:=match jgx M x with
 | some ns=>some (.bl (ns.all id))
 | none=>none
theorem b_all (hc:X.calm=true):yU X (.builtin "all") (rC T (one jax)):=ue (jdP hc) fun W M H x v z Q k hh r e q=>by
 unfold jax at e;split at e
 ·rename_i ns e1;cases e;obtain ⟨a,rfl,ha⟩:=jik hh r e1;exact ⟨a,ns,rfl,SqL.of ha,q W H _ (.refl W) hh rfl⟩
 ·cases e
def two (f:Int->Int->PV):G1:=fun M xs=>match xs with
 | [.int i,.int j]=>some (f i j,M)
 | _=>none
def gMin:G1:=orC (one fMin) (two fun i j=>.int (if j < i then j else i))
def gMax:G1:=orC (one fMax) (two fun i j=>.int (if j > i then j else i))
def jfQ (M:Sto) (x:PV):Option PV:=match Jb M x with
 | some xs=>some (.lst xs)
 | none=>none
theorem b_list (hT:T.K=X.K):yU X (.type "list") (rC T (one jfQ)):=ue uZ fun W M H x v z Q k hh r e q=>by
 unfold jfQ at e;split at e
 ·rename_i xs e1;cases e;obtain ⟨a,vs,rfl,hq,rr⟩:=UN hh r e1;rw [k,hT] at hq;refine ⟨a,vs,rfl,hq,fun l hl=>?_⟩;obtain ⟨W2,l2,h2,r2⟩:=uP hh rr hl;exact q W2 _ _ l2 h2 r2
 ·cases e
def Jy (M:Sto):PV->Option String
 | .non=>some "NoneType"
 | .bl _=>some "bool"
 | .int _=>some "int"
 | .str _=>some "str"
 | .tup _=>some "tuple"
 | .lst _=>some "list"
 | .dct _=>some "dict"
 | .ref i=>(match M.g i with
  | some (.lst _)=>some "list"
  | _=>none)
 | _=>none
theorem Vo {M:Sto} {x:PV} {n:String} (e:Jy M x=some n):n ∈ yT:=by
 cases x with
 | ref i =>
  have e:(match M.g i with
   | some (.lst _)=>some "list"
   | _=>none)=some n:=e
  split at e
  ·cases e; decide
  ·cases e
 | non=>cases e; decide
 | bl _=>cases e; decide
 | int _=>cases e; decide
 | str _=>cases e; decide
 | tup _=>cases e; decide
 | lst _=>cases e; decide
 | dct _=>cases e; decide
 | _=>cases e
theorem jct {pins:List (Addr × Obj)} {σ:St} {H:Hp} {s:Shared} {W:Wd} {M:Sto} (I:Inv X pins σ H s) (hh:Held W M H) (hT:W.T.K=X.K) {x:PV} {n:String} {v:V} {u:Value} (e:Jy M x=some n) (r:Rep W x v) (q:yh v u) :
  ∃ P,PySem.W.KitX X.K u (.type n) P∧P s.heap∧u≠.builtin "__main__.__loader__#opaque":=by
 have lists:∀ a vs,H a=some (.lst vs)->∃ P,PySem.W.KitX X.K (.ref a) (.type "list") P∧P s.heap∧Value.ref a≠.builtin "__main__.__loader__#opaque":=fun a vs ea=>by
  obtain ⟨_,_,_,_,h1⟩:=(show yr X.prog X.w H s.heap a (.lst vs) from I.hok a _ ea)
  exact ⟨_,PySem.W.kitx_list,⟨_,h1,rfl⟩,fun z=>nomatch z⟩
 cases x with
 | ref i =>
  have e:(match M.g i with
   | some (.lst _)=>some "list"
   | _=>none)=some n:=e
  split at e
  ·rename_i xs e1;cases e
   obtain ⟨a,vs,rfl,ha,_⟩:=xp (xs:=xs) hh r (by
    show (match M.g i with
     | some (.lst xs)=>some xs
     | _=>none)=some xs
    rw [e1])
   cases q;exact lists a vs ha
  ·cases e
 | non=>cases e; cases r; cases q; exact ⟨_,PySem.W.kitx_none,True.intro,fun z=>nomatch z⟩
 | bl _=>cases e; cases r; cases q; exact ⟨_,PySem.W.kitx_bool,True.intro,fun z=>nomatch z⟩
 | int _=>cases e; cases r; obtain ⟨t,rfl⟩:=q; exact ⟨_,PySem.W.kitx_int,True.intro,fun z=>nomatch z⟩
 | str _=>cases e; cases r; obtain ⟨t,rfl⟩:=q; exact ⟨_,PySem.W.kitx_str,True.intro,fun z=>nomatch z⟩
 | tup _ =>
  cases e;obtain ⟨a,vs,rfl,ha,_⟩:=xK hh r;cases q;rw [hT] at ha;obtain ⟨its,_,p,_⟩:=I.tuple ha;obtain ⟨o,h1,h2,_⟩:=p;exact ⟨_,PySem.W.kitx_tuple,⟨o,h1,h2⟩,fun z=>nomatch z⟩
 | lst _ =>
  cases e;obtain ⟨a,vs,rfl,ha,_⟩:=r;cases q;exact lists a vs (hh.f _ _ ha)
 | dct _ =>
  cases e;obtain ⟨a,o,rfl,ha⟩:=r;cases q;exact ⟨_,PySem.W.kitx_dict,(jbx I (.inr ⟨_,.inr ⟨o,hh.f _ _ ha⟩⟩)).1,fun z=>nomatch z⟩
 | _=>cases e
def jdX:List PV->Option (List String)
 | []=>some []
 | .ty n :: r=>if n ∈ yT then (jdX r).map fun ns=>n :: ns else none
 | _ :: _=>none
theorem US {W:Wd}:∀ {xs:List PV} {ns:List String} {vs:List V} {us:List Value},jdX xs=some ns->yc W xs vs->yg vs us->us=ns.map Value.type∧∀ n ∈ ns,n ∈ yT
 | [],_,_,_,e,r,q=>by cases e; cases r; cases q; exact ⟨rfl,by simp⟩
 | .ty n :: xs,ns,_,_,e,⟨v,r,e1,a,b⟩,q=>by
  subst e1;have e:(if n ∈ yT then (jdX xs).map (fun ns=>n :: ns) else none)=some ns:=e;split at e
  ·rename_i hn
   cases h:jdX xs with
   | none=>rw [h] at e; cases e
   | some ms =>
    rw [h] at e;cases e
    cases q with
    | cons q1 q2 =>
     obtain ⟨h1,h2⟩:=US h b q2;have a:v = .ty n:=a;subst a;cases q1;rw [h1];refine ⟨rfl,fun m hm=>?_⟩
     rcases List.mem_cons.mp hm with rfl | hm
     ·exact hn
     ·exact h2 m hm
  ·cases e
 | .non :: _,_,_,_,e,_,_=>by cases e
 | .bl _ :: _,_,_,_,e,_,_=>by cases e
 | .int _ :: _,_,_,_,e,_,_=>by cases e
 | .str _ :: _,_,_,_,e,_,_=>by cases e
 | .tup _ :: _,_,_,_,e,_,_=>by cases e
 | .lst _ :: _,_,_,_,e,_,_=>by cases e
 | .scr _ :: _,_,_,_,e,_,_=>by cases e
 | .top _ :: _,_,_,_,e,_,_=>by cases e
 | .exn _ :: _,_,_,_,e,_,_=>by cases e
 | .dct _ :: _,_,_,_,e,_,_=>by cases e
 | .ref _ :: _,_,_,_,e,_,_=>by cases e
theorem Yv (K:PySem.W.Frag) {n:String} (hn:n ∈ yT):∀ {ns:List String},(∀ m ∈ ns,m ∈ yT)->PySem.W.kitAny K (.type n) (ns.map Value.type)=some (ns.any fun m=>sub n m)
 | [],_=>rfl
 | m :: ms,h=>by
  show (match PySem.W.kitOne K (.type n) (.type m) with
   | some true=>some true
   | some false=>PySem.W.kitAny K (.type n) (ms.map Value.type)
   | none=>none)=_
  rw [jcu K hn (h m List.mem_cons_self),List.any_cons]
  cases sub n m with
  | true=>rfl
  | false=>exact Yv K hn fun m' hm=>h m' (List.mem_cons_of_mem _ hm)
def Xc:G1:=fun M xs=>match xs with
 | [x,.ty m]=>(match Jy M x with
  | some n=>if m ∈ yT then some (.bl (sub n m),M) else none
  | none=>none)
 | [x,.tup ts]=>(match Jy M x,jdX ts with
  | some n,some ns=>some (.bl (ns.any fun m=>sub n m),M)
  | _,_=>none)
 | _=>none
theorem VJ (hT:T.K=X.K):yU X (.builtin "isinstance") (rC T Xc):=by
 intro pins s σ H vs us Q I rv h;obtain ⟨W,M,xs,z,M',k,hh,rx,e,q⟩:=h
 have kk:W.T.K=X.K:=by rw [k]; exact hT
 unfold Xc at e;split at e
 ·rename_i x m;split at e
  ·rename_i n e1;split at e
   ·rename_i hm;cases e;obtain ⟨v,u,rfl,r1,r2⟩:=uH rx;obtain ⟨v',u',rfl,q1,q2⟩:=jit rv;have r2:u = .ty m:=r2;subst r2;cases q2;obtain ⟨P,Z,hP,hne⟩:=jct I hh kk e1 r1 q1
    exact PySem.W.kia_one Z I.kIn hP (jcu X.K (Vo e1) hm) hne fun tk=>⟨.bl _,H,I.tok _,rfl,q W H _ (.refl W) hh rfl⟩
   ·cases e
  ·cases e
 ·rename_i x ts;split at e
  ·rename_i n ns e1 e2;cases e;obtain ⟨v,u,rfl,r1,r2⟩:=uH rx;obtain ⟨v',u',rfl,q1,q2⟩:=jit rv;obtain ⟨a,ws,rfl,ha,rr⟩:=xK hh r2;cases q2;rw [kk] at ha;obtain ⟨its,rs,p,_⟩:=I.tuple ha;obtain ⟨⟨cl,dd,dt,sl⟩,h1,h2,nn,h3⟩:=p;simp only at h2 h3;subst h2;subst h3;obtain ⟨e3,hk⟩:=US e2 rr rs;obtain ⟨P,Z,hP,hne⟩:=jct I hh kk e1 r1 q1
   exact PySem.W.kia_tup Z I.kIn hP h1 (by rw [e3]; exact Yv X.K (Vo e1) hk) hne fun tk=>⟨.bl _,H,I.tok _,rfl,q W H _ (.refl W) hh rfl⟩
  ·cases e
 ·cases e
end
end L3

namespace L3
open PySem L2
inductive ItP where
 | fix (xs:List PV) | live (i:Nat) | gen (f:Sto->Option (List PV))
def nxt (p:ItP) (M:Sto) (i:Nat):Option (Option PV):=match p with
 | .fix xs=>some (xs[i]?)
 | .live j=>(yV M (.ref j)).map fun xs=>xs[i]?
 | .gen f=>(f M).map fun xs=>xs[i]?
theorem jac {j i:Nat} {M:Sto} {xs:List PV} (e:yV M (.ref j)=some xs):nxt (.live j) M i=some (xs[i]?):=by
 unfold nxt;simp only [e];rfl
theorem ui {j i:Nat} {M:Sto} (e:yV M (.ref j)=none):nxt (.live j) M i=none:=by
 unfold nxt;simp only [e];rfl
def RI (W:Wd) (p:ItP) (J:It):Prop:=∀ W' M' H',W.le0 W'->Held W' M' H'->∀ i,(∀ x,nxt p M' i=some (some x)->J.go i H'∧∀ v H'',J.yld i H' v H''->∃ W'',W'.le W''∧Held W'' M' H''∧Rep W'' x v)∧(nxt p M' i=some none->J.stop i H')
structure QI (X:Cx) (T:Tb) (ES:St->XK) (tg iter:Expr) (d:En->Sto->Res ItP):Prop where
 h:PI X tg iter (lft T RI ES d)
section
variable {X:Cx} {T:Tb} {ES:St->XK} {a b e tg iter:Expr} {es:List Expr} {p pos:Pos} {d:DE} {ds:DA}
theorem jbm {t t':TI} (h:PI X tg iter t) (f:∀ σ H R,t' σ H R->t σ H R):PI X tg iter t':=fun pins s σ H R I q=>h pins s σ H R I (f σ H R q)
def itOf (M:Sto):PV->Option ItP
 | .lst xs=>some (.fix xs)
 | .ref i=>(match M.g i with
  | some (.lst _)=>some (.live i)
  | _=>none)
 | _=>none
def dIt (d:DE):En->Sto->Res ItP:=fun ρ M=>(d ρ M).bind fun x M1=>ofO (itOf M1 x) M1
theorem jcd {K:PySem.W.Frag} {W:Wd} {J:It} {x:ItP} {a:Addr} (hJ:J=Itl K a) (h:∀ W' M' H',W.le0 W'->Held W' M' H'->∀ ys,(∀ i,nxt x M' i=some (ys[i]?))->∃ vs,H' a=some (.lst vs)∧yc W' ys vs) (hn:∀ M,(∃ ys:List PV,∀ i,nxt x M i=some (ys[i]?))∨∀ i,nxt x M i=none):RI W x J:=by
 subst hJ;intro W' M' H' le hh i
 rcases hn M' with ⟨ys,hy⟩ | hy
 ·obtain ⟨vs,ha,rr⟩:=h W' M' H' le hh ys hy;refine ⟨fun z e=>?_,fun e=>?_⟩
  ·rw [hy] at e
   cases e1:ys[i]? with
   | none=>rw [e1] at e; cases e
   | some z' =>
    rw [e1] at e;cases e;obtain ⟨v,e2,r2⟩:=rr.get e1;refine ⟨⟨vs,v,SqL.of ha,e2⟩,fun u H'' hQQ=>?_⟩;obtain ⟨eH,q⟩:=hQQ;subst eH
    have:=q vs (SqL.of ha)
    rw [e2] at this;cases this;exact ⟨W',.refl W',hh,r2⟩
  ·rw [hy] at e;have e:ys[i]? = none:=Option.some.inj e;exact ⟨vs,SqL.of ha,by rw [rr.length]; exact List.getElem?_eq_none_iff.mp e⟩
 ·refine ⟨fun z e=>?_,fun e=>?_⟩
  ·rw [hy] at e; cases e
  ·rw [hy] at e; cases e
theorem vZ (h:QE X T ES e d):QI X T ES tg e (dIt d):=⟨jbm (jhq h.h) fun σ H R hQQ=>jC hQQ fun W ρ M k hh hs q=>⟨W,ρ,M,k,hh,hs,yj.bind q fun W1 M1 x v H1 l1 h1 r1 p1=>by
 cases x with
 | lst xs =>
  obtain ⟨a,vs,rfl,ha,rr⟩:=r1;refine ⟨a,rfl,⟨vs,SqL.of (h1.f _ _ ha)⟩,p1 W1 H1 _ (.refl W1) h1 (jcd rfl (fun W' M' H' le hh' ys hy=>?_) fun M=>.inl ⟨xs,fun i=>rfl⟩)⟩
  have:ys=xs:=List.ext_getElem? (fun i=>(Option.some.inj (hy i)).symm)
  subst this;exact ⟨vs,hh'.f _ _ (le.f _ _ ha),rr.up0 le⟩
 | ref j =>
  have p1:yj W1 RI (ofO (match M1.g j with
   | some (.lst _)=>some (ItP.live j)
   | _=>none) M1) R (ES σ):=p1
  split at p1
  ·rename_i xs e1;obtain ⟨a,rfl,ea⟩:=r1;obtain ⟨b,o,h2,h3,h4,vs,rfl,rr⟩:=h1.m j _ e1;rw [ea] at h2;cases h2;refine ⟨a,rfl,⟨vs,SqL.of h4⟩,p1 W1 H1 _ (.refl W1) h1 (jcd rfl (fun W' M' H' le hh' ys hy=>?_) fun M=>?_)⟩
   ·cases e2:yV M' (.ref j) with
    | none =>
     have:=hy 0
     rw [ui e2] at this;cases this
    | some zs =>
     have:ys=zs:=List.ext_getElem? (fun i=>by
      have:=hy i
      rw [jac e2] at this
      exact (Option.some.inj this).symm)
     subst this;obtain ⟨a',vs',e3,h5,r5⟩:=xp (v:=.ref a) hh' (show Rep W' (.ref j) (.ref a) from ⟨a,rfl,le.a _ _ ea⟩) e2;cases e3;exact ⟨vs',h5,r5⟩
   ·cases e2:yV M (.ref j) with
    | none=>exact .inr fun i=>ui e2
    | some zs=>exact .inl ⟨zs,fun i=>jac e2⟩
  ·exact p1.elim
 | _=>exact p1.elim⟩⟩
def xS (lo:Int) (n:Nat):List PV:=(List.range n).map fun (i:Nat)=>PV.int (lo + i)
theorem Yi {lo:Int} {n i:Nat}:(xS lo n)[i]? = if i < n then some (PV.int (lo + i)) else none:=by
 unfold xS;rw [List.getElem?_map]
 by_cases h:i < n
 ·rw [if_pos h,List.getElem?_range h]; rfl
 ·rw [if_neg h,List.getElem?_eq_none_iff.mpr (by simpa using h)]; rfl
theorem ri_rng {W:Wd} {lo:Int} {n:Nat}:RI W (.fix (xS lo n)) (Itr lo n):=by
 intro W' M' H' le hh i;refine ⟨fun x e=>?_,fun e=>?_⟩
 ·have e:(xS lo n)[i]? = some x:=Option.some.inj e;rw [Yi] at e;split at e
  ·rename_i hi;cases e;refine ⟨hi,fun v H'' hQQ=>?_⟩;obtain ⟨eH,ev⟩:=hQQ;subst eH;subst ev;exact ⟨W',.refl W',hh,rfl⟩
  ·cases e
 ·have e:(xS lo n)[i]? = none:=Option.some.inj e;rw [Yi] at e;split at e
  ·cases e
  ·rename_i hi;exact Nat.le_of_not_lt hi
def vB (i:Int):Bool:=Nat.blt i.natAbs 4611686018427387904
theorem xa {i:Int}:vB i=true↔-(2 ^ 62) < i∧i < 2 ^ 62:=by
 unfold vB;rw [Nat.blt_eq];omega
def vD (ds:DA):En->Sto->Res ItP:=fun ρ M=>(ds ρ M).bind fun xs M1=>match xs with
 | [.int j]=>if vB j=true then .ok (.fix (xS 0 j.toNat)) M1 else .bad
 | _=>.bad
theorem uL (hg:Gl X "range") (hm:X.mg "range" = none) (ha:QA X T ES [a] ds) (hs:starEach [a] X.env=[(false,eval a X.env)]:=by rfl):QI X T ES tg (.Call (.Name "range" p) [a] [] pos) (vD ds) :=
 ⟨jbm (jdj hg hm ha.h hs) fun σ H R hQQ=>jC hQQ fun W ρ M k hh hs q=>⟨W,ρ,M,k,hh,hs,yj.bind q fun W1 M1 xs vs H1 l1 h1 r1 p1=>by
  split at p1
  ·rename_i j;split at p1
   ·rename_i hj;obtain ⟨v,rfl,r⟩:=ua r1;have r:v = .int j:=r;subst r;exact ⟨j,rfl,Int.le_of_lt (xa.mp hj).1,(xa.mp hj).2,p1 W1 H1 _ (.refl W1) h1 ri_rng⟩
   ·exact p1.elim
  ·exact p1.elim⟩⟩
def jff:Nat->List PV->List PV
 | _,[]=>[]
 | n,x :: xs=>.tup [.int n,x] :: jff (n + 1) xs
theorem jfe:∀ {xs:List PV} {n i:Nat},(jff n xs)[i]? = (xs[i]?).map fun x=>PV.tup [.int ((n + i:Nat):Int),x]
 | [],n,i=>by simp [jff]
 | x :: xs,n,0=>by simp [jff]
 | x :: xs,n,i + 1=>by
  show (jff (n + 1) xs)[i]? = _;rw [jfe];rw [show n + 1 + i=n + (i + 1) by omega];simp
end
def Res.noX {α:Type}:Res α->Res α
 | .exc _ _=>.bad
 | r=>r
def jaL (x:PV) (r:En):Option En:=some (some x :: r)
def jim (x:PV) (r:En):Option En:=match x with
 | .tup [a,b]=>some (some a :: some b :: r)
 | _=>none
def yC (p:ItP) (bnd:PV->En->Option En) (r:En) (dt:DT) (de:DE):Nat->Nat->Sto->Res (List PV)
 | 0,_,_=>.bad
 | n + 1,i,M=>match nxt p M i with
  | none=>.bad
  | some none=>.ok [] M
  | some (some x)=>match bnd x r with
   | none=>.bad
   | some ρ=>(dt ρ M).noX.bind fun b M1=>if b=true then (de ρ M1).noX.bind fun y M2=>(yC p bnd r dt de n (i + 1) M2).bind fun ys M3=>.ok (y :: ys) M3 else yC p bnd r dt de n (i + 1) M1
def uX (bnd:PV->En->Option En) (r:En) (dt:DT) (de:DE):List PV->Sto->Res (List PV)
 | [],M=>.ok [] M
 | x :: xs,M=>match bnd x r with
  | none=>.bad
  | some ρ=>(dt ρ M).noX.bind fun b M1=>if b=true then (de ρ M1).noX.bind fun y M2=>(uX bnd r dt de xs M2).bind fun ys M3=>.ok (y :: ys) M3 else uX bnd r dt de xs M1
theorem VA {all:List PV} {bnd:PV->En->Option En} {r:En} {dt:DT} {de:DE}:∀ {xs:List PV} {n i:Nat} {M:Sto},all.drop i=xs->xs.length < n->yC (.fix all) bnd r dt de n i M=uX bnd r dt de xs M
 | xs,0,i,M,e,h=>absurd h (Nat.not_lt_zero _)
 | [],n + 1,i,M,e,h=>by
  have:all[i]? = none:=List.getElem?_eq_none_iff.mpr (by
   have:=congrArg List.length e
   simp at this
   omega)
  show (match some (all[i]?) with
   | none=>Res.bad
   | some none=>.ok [] M
   | some (some x)=>_)=_
  rw [this];rfl
 | x :: xs,n + 1,i,M,e,h=>by
  have e1:all[i]? = some x:=by
   have:=congrArg (fun l=>l[0]?) e
   simpa [List.getElem?_drop] using this
  have e2:all.drop (i + 1)=xs:=by
   have:=congrArg (List.drop 1) e
   simpa [List.drop_drop] using this
  have ih:∀ M,yC (.fix all) bnd r dt de n (i + 1) M=uX bnd r dt de xs M:=fun M=>VA e2 (by simpa using h)
  show (match some (all[i]?) with
   | none=>Res.bad
   | some none=>.ok [] M
   | some (some x)=>match bnd x r with
    | none=>.bad
    | some ρ=>(dt ρ M).noX.bind fun b M1=>if b=true then (de ρ M1).noX.bind fun y M2=>(yC (.fix all) bnd r dt de n (i + 1) M2).bind fun ys M3=>.ok (y :: ys) M3 else yC (.fix all) bnd r dt de n (i + 1) M1)=_
  rw [e1];simp only [ih];rfl
def yZ (p:ItP) (M:Sto):Nat:=match p with
 | .fix xs=>xs.length + 1
 | .live i=>((yV M (.ref i)).getD []).length + 1
 | .gen f=>((f M).getD []).length + 1
def rest (js:List Nat) (ρ:En):En:=js.map fun j=>(ρ[j]?).getD none
def xk (di:En->Sto->Res ItP) (bnd:PV->En->Option En) (js:List Nat) (dt:DT) (de:DE):DE:=fun ρ M=>(di ρ M).bind fun p M1 =>
 if yZ p M1<=sizeLine then (yC p bnd (rest js ρ) dt de (yZ p M1) 0 M1).bind fun ys M2=>.ok (.lst ys) M2 else .bad
def dCompG (fv:List PV->Sto->PV) (fm:List PV->Sto->Sto) (di:En->Sto->Res ItP) (bnd:PV->En->Option En) (js:List Nat) (dt:DT) (de:DE):DE:=fun ρ M=>(di ρ M).bind fun p M1 =>
 if yZ p M1<=sizeLine then (yC p bnd (rest js ρ) dt de (yZ p M1) 0 M1).bind fun ys M2=>.ok (fv ys M2) (fm ys M2) else .bad
def YL:DT:=fun _ M=>.ok true M
structure QIf (X:Cx) (T:Tb) (ES:St->XK) (ifs:List Expr) (d:DT):Prop where
 h:PIf X ifs (lft T RB ES d)
theorem Ui {X:Cx} {T:Tb} {ES:St->XK}:QIf X T ES [] YL:=⟨fun pins s σ H Q I hQQ=>jC hQQ fun W ρ M k hh hs p=>jfy pins s σ H Q I (p W H true (.refl W) hh rfl)⟩
theorem jcg {X:Cx} {T:Tb} {ES:St->XK} {c:Expr} {d:DT} (h:QT X T ES c d):QIf X T ES [c] d:=⟨if_one h.h⟩
abbrev ES0:St->XK:=fun _=>E0
theorem UU {W:Wd} {ρ:En} {σ:St} {js:List Nat} (h:yE W ρ σ):yE W (rest js ρ) (js.map fun j=>(σ[j]?).getD none):=by
 refine ⟨by simp [rest],fun i x e=>?_⟩;unfold rest at e;rw [List.getElem?_map] at e;rw [List.getElem?_map]
 cases hj:js[i]? with
 | none=>rw [hj] at e; cases e
 | some j =>
  rw [hj] at e;have e:(ρ[j]?).getD none=some x:=Option.some.inj e
  cases e1:ρ[j]? with
  | none=>rw [e1] at e; cases e
  | some o =>
   rw [e1] at e;cases e;obtain ⟨v,e2,r⟩:=h.2 j x e1;refine ⟨v,?_,r⟩;show some ((σ[j]?).getD none)=_;rw [e2];rfl
theorem Jj {W:Wd} {ρ:En} {σ:St} {x:PV} {v:V} (h:yE W ρ σ) (r:Rep W x v):yE W (some x :: ρ) (some v :: σ):=by
 refine ⟨by simp [h.1],fun i y e=>?_⟩
 cases i with
 | zero =>
  cases e;exact ⟨v,rfl,r⟩
 | succ i=>exact h.2 i y e
structure Bnd (T:Tb) (own:Nat) (g:TG) (bnd:PV->En->Option En):Prop where
 go:∀ (W:Wd) (M:Sto) (H:Hp) (js:List Nat) (ρ:En) (σ:St) (x:PV) (v:V) (ρ':En) (Q:St->Hp->Prop),W.T=T->Held W M H->yE W ρ σ->Rep W x v->bnd x (rest js ρ)=some ρ' ->
  (∀ σ',yE W ρ' σ'->Xf (xH own js σ) σ'->Q σ' H)->g v (xH own js σ) H Q
theorem jcN {T:Tb}:Bnd T 1 (uk 0) jaL:=⟨fun W M H js ρ σ x v ρ' Q k hh hs r e q=>by
 cases e
 exact q _ (Jj (UU hs) r) jiC⟩
theorem bnd_2 {T:Tb}:Bnd T 2 (gTup T.K 2 (jau (uk 0) (jau (uk 1) gNil))) jim:=⟨fun W M H js ρ σ x v ρ' Q k hh hs r e q=>by
 unfold jim at e;split at e
 ·rename_i a b;cases e;obtain ⟨p,vs,rfl,ha,rr⟩:=xK hh r;obtain ⟨va,vb,rfl,ra,rb⟩:=uH rr;rw [k] at ha;refine ⟨p,_,rfl,ha,rfl,va,[vb],rfl,vb,[],rfl,rfl,?_⟩;exact q _ (Jj (Jj (UU hs) rb) ra) jfu
 ·cases e⟩
theorem jdJ {it:ItP} {bnd:PV->En->Option En} {r:En} {dt:DT} {de:DE}:∀ (n i:Nat) (M:Sto) (c:Nat) (M':Sto),yC it bnd r dt de n i M≠.exc c M':=by
 intro n
 induction n with
 | zero=>intro i M c M' z; cases z
 | succ n ih =>
  intro i M c M' z;unfold yC at z;split at z
  ·cases z
  ·cases z
  ·split at z
   ·cases z
   ·rename_i ρ' _
    cases e1:dt ρ' M with
    | bad=>rw [e1] at z; cases z
    | exc _ _=>rw [e1] at z; cases z
    | ok b M1 =>
     rw [e1] at z
     cases b with
     | false=>exact ih _ _ _ _ z
     | true =>
      have z:(de ρ' M1).noX.bind (fun y M2=>(yC it bnd r dt de n (i + 1) M2).bind fun ys M3=>.ok (y :: ys) M3) = .exc c M':=z
      cases e2:de ρ' M1 with
      | bad=>rw [e2] at z; cases z
      | exc _ _=>rw [e2] at z; cases z
      | ok y M2 =>
       rw [e2] at z;have z:(yC it bnd r dt de n (i + 1) M2).bind (fun ys M3=>Res.ok (y :: ys) M3) = .exc c M':=z
       cases e3:yC it bnd r dt de n (i + 1) M2 with
       | bad=>rw [e3] at z; cases z
       | exc _ _=>exact ih _ _ _ _ e3
       | ok _ _=>rw [e3] at z; cases z
section
variable {X:Cx} {T:Tb} {ES:St->XK} {osc sc:Scope} {own fr:List Str} {js:List Nat} {elt target iter:Expr} {ifs:List Expr} {pos:Pos} {di:En->Sto->Res ItP} {g:TG} {bnd:PV->En->Option En} {dt:DT} {de:DE}
def RIg (W:Wd) (p:ItP) (J:It):Prop:=∀ W' M' H',W.le0 W'->(∀ b u,W.G b=some u->W'.G b=some u)->Held W' M' H'->∀ i,(∀ x,nxt p M' i=some (some x)->J.go i H'∧∀ v H'',J.yld i H' v H''->∃ W'',W'.le W''∧Held W'' M' H''∧Rep W'' x v)∧(nxt p M' i=some none->J.stop i H')
theorem jgr {on:Nat} {σ:St} {Q:VK} {E:XK} (B:Bnd T on g bnd) (fv:List PV->Sto->PV) (fm:List PV->Sto->Sto) (fin1:∀ {W:Wd} {M:Sto} {H G0:Hp} {l:Addr} {ys:List PV} {vs:List V},Held W M H->W.G l=some (.lst vs)->(∀ b u,G0 b=some u->W.G b=some u∧b≠l)->yc W ys vs->∃ W',W.le0 W'∧W'.G=G0∧Held W' (fm ys M) H∧Rep W' (fv ys M) (.ref l))
  {W0:Wd} {ρ:En} {M0:Sto} {it:ItP} {J:It} {H0:Hp} (k0:W0.T=T) (hs0:yE W0 ρ σ) (h0:Held W0 M0 H0) (ri:RIg W0 it J) (p0:yj W0 Rep (if yZ it M0<=sizeLine then (yC it bnd (rest js ρ) dt de (yZ it M0) 0 M0).bind fun ys M2=>.ok (fv ys M2) (fm ys M2) else .bad) Q E) (acc:Addr) (hacc:H0 acc=none):jgC J acc on js g (lft T RB ES0 dt) (lft T Rep ES0 de) σ Q H0:=by
 by_cases hf:yZ it M0<=sizeLine
 rotate_left
 ·rw [if_neg hf] at p0; exact p0.elim
 rw [if_pos hf] at p0
 have gacc:W0.G acc=none:=by
  cases q:W0.G acc with
  | none=>rfl
  | some o =>
   rw [(h0.gd acc o q).1] at hacc;cases hacc
 -- what is wanted of the rest
 let Fin:Wd->List PV->Res (List PV)->Prop:=fun W ys r=>match r with
  | .ok zs M'=>∀ W' H' v,W0.le W'->Held W' (fm (ys ++ zs) M') H'->Rep W' (fv (ys ++ zs) M') v->Q v H'
  | _=>False
 have fin0:Fin W0 [] (yC it bnd (rest js ρ) dt de (yZ it M0) 0 M0):=by
  cases e:yC it bnd (rest js ρ) dt de (yZ it M0) 0 M0 with
  | ok zs M'=>rw [e] at p0; exact fun W' H' v le hh' r=>p0 W' H' v le hh' r
  | exc c M' =>
   exfalso
   exact jdJ _ _ _ _ _ e
  | bad=>rw [e] at p0; exact p0.elim
 refine ⟨fun i m vs H2=>i + m=yZ it M0∧vs.length<=i∧∃ W M ys,W0.le0 W∧W.G=L2.upd W0.G acc (.lst vs)∧Held W M H2∧yc W ys vs∧Fin W ys (yC it bnd (rest js ρ) dt de m i M),
  ⟨yZ it M0,by simp,by simp,W0.gd acc (.lst []),M0,[],Wd.le0_gd,rfl,h0.guard hacc,rfl,fin0⟩,?_⟩
 rintro i m vs H2 ⟨hi,hl,W1,M1,ys,le1,g1,h1,r1,f1⟩;have k1:W1.T=T:=le1.k.trans k0
 have hs1:yE W1 ρ σ:=⟨hs0.1,fun i x e=>by
  obtain ⟨v,e1,r⟩:=hs0.2 i x e
  exact ⟨v,e1,r.up0 le1⟩⟩
 have ga1:W1.G acc=some (.lst vs):=by rw [g1,jr]
 cases m with
 | zero=>exact f1.elim
 | succ m =>
  unfold yC at f1
  obtain ⟨goes,stops⟩:=ri W1 M1 H2 le1 (fun b u q=>by
   have z:b≠acc:=fun z=>by rw [z,gacc] at q; cases q
   rw [g1,jk z]
   exact q) h1 i
  split at f1
  ·exact f1.elim
  ·rename_i en;refine .inl ⟨stops en,?_⟩
   obtain ⟨W5,l5,g5,h5,r5⟩:=fin1 (G0:=W0.G) h1 ga1 (fun b u q=>by
    have z:b≠acc:=fun z=>by rw [z,gacc] at q; cases q
    exact ⟨by rw [g1,jk z]; exact q,z⟩) r1
   have f1:∀ W' H' v,W0.le W'->Held W' (fm (ys ++ []) M1) H'->Rep W' (fv (ys ++ []) M1) v->Q v H':=f1;rw [List.append_nil] at f1;exact f1 W5 H2 (.ref acc) ⟨le1.trans l5,g5⟩ h5 r5
  ·rename_i x en;split at f1
   ·exact f1.elim
   ·rename_i ρ' eb;obtain ⟨go,yld⟩:=goes x en
    have hlen:vs.length < sizeLine:=by omega
    refine .inr ⟨go,hlen,fun vs' H'=>i + 1 + m=yZ it M0∧vs'.length<=i + 1∧∃ W M ys,W0.le0 W∧W.G=L2.upd W0.G acc (.lst vs')∧Held W M H'∧yc W ys vs'∧Fin W ys (yC it bnd (rest js ρ) dt de m (i + 1) M),
     fun vs' H' q=>⟨m,Nat.lt_succ_self _,q⟩,fun v H3 hy=>?_⟩
    obtain ⟨W2,l2,h2,r2⟩:=yld v H3 hy;have k2:W2.T=T:=l2.k.trans k1
    refine B.go W2 M1 H3 js ρ σ x v ρ' _ k2 h2 (hs1.up l2) r2 eb fun σ4 rs4 kp=>⟨kp,?_⟩
    cases e1:dt ρ' M1 with
    | bad=>rw [e1] at f1; exact f1.elim
    | exc _ _=>rw [e1] at f1; exact f1.elim
    | ok b M2 =>
     rw [e1] at f1;refine ⟨W2,ρ',M1,k2,h2,rs4,?_⟩;rw [e1];intro W3 H5 b' l3 h3 eb';subst eb'
     have g3:W3.G=L2.upd W0.G acc (.lst vs):=by rw [l3.g,l2.g,g1]
     have le3:W0.le0 W3:=(le1.trans l2.toLe0).trans l3.toLe0;have r3:yc W3 ys vs:=(r1.up l2).up l3
     cases b' with
     | false =>
      rw [if_neg (by simp)];exact ⟨by omega,by omega,W3,M2,ys,le3,g3,h3,r3,f1⟩
     | true =>
      rw [if_pos rfl];have f1:Fin W1 ys ((de ρ' M2).noX.bind fun y M2=>(yC it bnd (rest js ρ) dt de m (i + 1) M2).bind fun zs M3=>.ok (y :: zs) M3):=f1;refine ⟨W3,ρ',M2,l3.k.trans k2,h3,rs4.up l3,?_⟩
      cases e2:de ρ' M2 with
      | bad=>rw [e2] at f1; exact f1.elim
      | exc _ _=>rw [e2] at f1; exact f1.elim
      | ok y M3 =>
       rw [e2] at f1;intro W4 H6 w l4 h4 r4
       have g4:W4.G=L2.upd W0.G acc (.lst vs):=by rw [l4.g,g3]
       have ga4:W4.G acc=some (.lst vs):=by rw [g4,jr]
       refine ⟨(h4.gd _ _ ga4).1,by omega,by simp; omega,W4.gd acc (.lst (vs ++ [w])),M3,ys ++ [y],(le3.trans l4.toLe0).trans Wd.le0_gd,?_,h4.reguard ga4,?_,?_⟩
       ·show L2.upd W4.G acc (.lst (vs ++ [w]))=_;rw [g4,jbU]
       ·exact yc.up0 Wd.le0_gd ((r3.up l4).append (show yc W4 [y] [w] from ⟨w,[],rfl,r4,rfl⟩))
       ·have f1:Fin W1 ys ((yC it bnd (rest js ρ) dt de m (i + 1) M3).bind fun zs M3=>.ok (y :: zs) M3):=f1
        cases e3:yC it bnd (rest js ρ) dt de m (i + 1) M3 with
        | bad=>rw [e3] at f1; exact f1.elim
        | exc _ _=>rw [e3] at f1; exact f1.elim
        | ok zs M4 =>
         rw [e3] at f1;have f1:∀ W' H' v,W0.le W'->Held W' (fm (ys ++ (y :: zs)) M4) H'->Rep W' (fv (ys ++ (y :: zs)) M4) v->Q v H':=f1;show ∀ W' H' v,W0.le W'->Held W' (fm ((ys ++ [y]) ++ zs) M4) H'->Rep W' (fv ((ys ++ [y]) ++ zs) M4) v->Q v H';rw [List.append_assoc];exact f1
theorem jbH {on:Nat} {σ:St} {H:Hp} {Q:VK} (B:Bnd T on g bnd) (fv:List PV->Sto->PV) (fm:List PV->Sto->Sto) (fin1:∀ {W:Wd} {M:Sto} {H G0:Hp} {l:Addr} {ys:List PV} {vs:List V},Held W M H->W.G l=some (.lst vs)->(∀ b u,G0 b=some u->W.G b=some u∧b≠l)->yc W ys vs->∃ W',W.le0 W'∧W'.G=G0∧Held W' (fm ys M) H∧Rep W' (fv ys M) (.ref l)) (h:lft T Rep ES (dCompG fv fm di bnd js dt de) σ H Q):jbX (lft T RI ES di) on js g (lft T RB ES0 dt) (lft T Rep ES0 de) σ H Q:=by
 obtain ⟨W,ρ,M,k,hh,hs,p⟩:=h;exact ⟨W,ρ,M,k,hh,hs,yj.bind p fun W0 M0 it J H0 l0 h0 ri p0=>fun acc hacc=>jgr B fv fm fin1 (l0.k.trans k) (hs.up l0) h0 (fun W' M' H' le _ hh' i=>ri W' M' H' le hh' i) p0 acc hacc⟩
theorem jdG {on:Nat} {σ:St} {H:Hp} {Q:VK} (B:Bnd T on g bnd) (h:lft T Rep ES (xk di bnd js dt de) σ H Q):jbX (lft T RI ES di) on js g (lft T RB ES0 dt) (lft T Rep ES0 de) σ H Q :=
 jbH B (fun ys _=>.lst ys) (fun _ M=>M) (fun {W M H G0 l ys vs} h e hg r=>by
  obtain ⟨l2,h2⟩:=h.unguard e hg
  exact ⟨W.out G0 l (.lst vs),l2,rfl,h2,l,vs,rfl,jr,r.up0 l2⟩) h
theorem uM (B:Bnd T own.length g bnd) (hc:X.calm=true) (ho:X.env.scope=osc) (S:CompScope osc sc own fr) (hj:js.map (fun j=>X.N[j]?)=fr.map some) (hi:QI X T ES target iter di)
  (hg:∀ s₃ H₃ fp,PG (jQ X (own ++ fr) sc s₃ H₃ fp) target g) (ht:∀ s₃ H₃ fp,QIf (jQ X (own ++ fr) sc s₃ H₃ fp) T ES0 ifs dt) (he:∀ s₃ H₃ fp,QE (jQ X (own ++ fr) sc s₃ H₃ fp) T ES0 elt de)
  (hs:∀ x,foldedSetIterable iter X.env x=pure x:=by intro _; rfl):QE X T ES (.ListComp elt [⟨target,iter,ifs,0⟩] sc pos) (xk di bnd js dt de) :=
 ⟨jN (jcp hc ho S hj hi.h hg (fun a b c=>(ht a b c).h) (fun a b c=>(he a b c).h) hs) fun _ _ _=>jdG B⟩
end
end L3

namespace L3
open PySem L2
inductive RS where
 | nx (ρ:En) (M:Sto) | rt (v:PV) (M:Sto) | bk (ρ:En) (M:Sto) | ct (ρ:En) (M:Sto) | exc (k:Nat) (ρ:En) (M:Sto) | bad
abbrev DS:=En->Sto->RS
def RS.then (r:RS) (k:En->Sto->RS):RS:=match r with
 | .nx ρ M=>k ρ M
 | r=>r
@[simp] theorem RS.then_nx {ρ : En} {M : Sto} {k : En -> Sto -> RS} : (RS.nx ρ M).then k = k ρ M := rfl
@[simp] theorem RS.then_rt {v : PV} {M : Sto} {k : En -> Sto -> RS} : (RS.rt v M).then k = .rt v M := rfl
@[simp] theorem RS.then_exc {c : Nat} {ρ : En} {M : Sto} {k : En -> Sto -> RS} : (RS.exc c ρ M).then k = .exc c ρ M := rfl
def Res.st {α:Type} (r:Res α) (ρ:En) (k:α->Sto->RS):RS:=match r with
 | .ok a M=>k a M
 | .exc c M=>.exc c ρ M
 | .bad=>.bad
@[simp] theorem Res.st_ok {α : Type} {a : α} {M : Sto} {ρ : En} {k : α -> Sto -> RS} : (Res.ok a M).st ρ k = k a M := rfl
@[simp] theorem Res.st_exc {α : Type} {c : Nat} {M : Sto} {ρ : En} {k : α -> Sto -> RS} : (Res.exc c M).st ρ k = .exc c ρ M := rfl
@[simp] theorem Res.st_bad {α : Type} {ρ : En} {k : α -> Sto -> RS} : (Res.bad).st ρ k = .bad := rfl
def yy (W:Wd) (r:RS) (D:Ends) (ES:St->XK):Prop:=match r with
 | .nx ρ M=>∀ W' σ' H',W.le W'->Held W' M H'->yE W' ρ σ'->D.nx σ' H'
 | .rt v M=>∀ W' H' u,W.le W'->Held W' M H'->Rep W' v u->D.rt u H'
 | .bk ρ M=>∀ W' σ' H',W.le W'->Held W' M H'->yE W' ρ σ'->D.bk σ' H'
 | .ct ρ M=>∀ W' σ' H',W.le W'->Held W' M H'->yE W' ρ σ'->D.ct σ' H'
 | .exc k ρ M=>∀ W' σ' H',W.le W'->Held W' M H'->yE W' ρ σ'->ES σ' (.ref (W.T.C k)) none H'
 | .bad=>False
theorem yy.up {W W':Wd} {r:RS} {D:Ends} {ES:St->XK} (h:yy W r D ES) (le:W.le W'):yy W' r D ES:=by
 cases r with
 | nx ρ M=>exact fun W2 σ2 H2 l2 h2 r2=>h W2 σ2 H2 (le.trans l2) h2 r2
 | rt v M=>exact fun W2 H2 u l2 h2 r2=>h W2 H2 u (le.trans l2) h2 r2
 | bk ρ M=>exact fun W2 σ2 H2 l2 h2 r2=>h W2 σ2 H2 (le.trans l2) h2 r2
 | ct ρ M=>exact fun W2 σ2 H2 l2 h2 r2=>h W2 σ2 H2 (le.trans l2) h2 r2
 | exc k ρ M =>
  intro W2 σ2 H2 l2 h2 r2
  have:=h W2 σ2 H2 (le.trans l2) h2 r2
  rw [le.k];exact this
 | bad=>exact h.elim
def jfq (T:Tb) (ES:St->XK) (d:DS):TS:=fun D σ H=>∃ W ρ M,W.T=T∧Held W M H∧yE W ρ σ∧yy W (d ρ M) D ES
theorem yN {T:Tb} {ES:St->XK} {d:DS} {D:Ends} {σ:St} {H:Hp} {P:Prop} (h:jfq T ES d D σ H) (k:∀ W ρ M,W.T=T->Held W M H->yE W ρ σ->yy W (d ρ M) D ES->P):P:=by
 obtain ⟨W,ρ,M,a,b,c,e⟩:=h;exact k W ρ M a b c e
structure QS (X:Cx) (T:Tb) (ES:St->XK) (st:Stmt) (d:DS):Prop where
 h:PS X st (jfq T ES d)
structure QSs (X:Cx) (T:Tb) (ES:St->XK) (st:List Stmt) (d:DS):Prop where
 h:PSs X st (jfq T ES d)
theorem yy.bind {α β:Type} {W:Wd} {R1:Wd->α->β->Prop} {r:Res α} {ρ:En} {σ:St} {k:α->Sto->RS} {D:Ends} {ES:St->XK} {Q1:β->Hp->Prop} (hs:yE W ρ σ) (h:yy W (r.st ρ k) D ES)
  (f:∀ W' M a b H1,W.le W'->Held W' M H1->R1 W' a b->yy W' (k a M) D ES->Q1 b H1):yj W R1 r Q1 (ES σ):=by
 cases r with
 | ok a M=>exact fun W2 H2 b l2 h2 r2=>f W2 M a b H2 l2 h2 r2 (yy.up (r:=k a M) h l2)
 | exc k M=>exact fun W2 H2 l2 h2=>h W2 σ H2 l2 h2 (hs.up l2)
 | bad=>exact h.elim
section
variable {X:Cx} {T:Tb} {ES:St->XK} {e a b c o:Expr} {es:List Expr} {pos p:Pos} {st:Stmt} {sts rest:List Stmt} {d de da db do_ di:DE} {d1 d2:DS} {ta:DT} {ds:DA}
theorem xi {t t':TS} (h:PS X st t) (f:∀ D σ H,t' D σ H->t D σ H):PS X st t':=fun pins s σ H D I q=>h pins s σ H D I (f D σ H q)
theorem jcj {t t':TS} (h:PSs X sts t) (f:∀ D σ H,t' D σ H->t D σ H):PSs X sts t':=fun pins s σ H D I q=>h pins s σ H D I (f D σ H q)
def yp:DS:=fun ρ M=>.nx ρ M
def ye (d1 d2:DS):DS:=fun ρ M=>(d1 ρ M).then d2
theorem jG:QSs X T ES [] yp:=⟨jcj jhl fun D σ H hQQ=>yN hQQ fun W ρ M k hh hs q=>q W σ H (.refl W) hh hs⟩
theorem jf (h:QS X T ES st d1):QSs X T ES [st] d1:=⟨jhk h.h⟩
theorem je (h1:QS X T ES st d1) (h2:QSs X T ES rest d2):QSs X T ES (st :: rest) (ye d1 d2):=⟨jcj (jeF h1.h h2.h) fun D σ H hQQ=>yN hQQ fun W ρ M k hh hs q=>⟨W,ρ,M,k,hh,hs,by
 unfold ye at q
 cases e:d1 ρ M with
 | nx ρ1 M1 =>
  rw [e] at q
  exact fun W1 σ1 H1 l1 h1 r1=>⟨W1,ρ1,M1,l1.k.trans k,h1,r1,yy.up (r:=d2 ρ1 M1) q l1⟩
 | rt v M1=>rw [e] at q; exact q
 | bk ρ1 M1=>rw [e] at q; exact q
 | ct ρ1 M1=>rw [e] at q; exact q
 | exc c ρ1 M1=>rw [e] at q; exact q
 | bad=>rw [e] at q; exact q⟩⟩
def jeo:DS:=fun _ _=>.bad
theorem uK:QS X T ES st jeo:=⟨xi jeH fun D σ H hQQ=>yN hQQ fun _ _ _ _ _ _ q=>q⟩
def yi (d:DE):DS:=fun ρ M=>(d ρ M).st ρ fun _ M1=>.nx ρ M1
theorem jL (he:QE X T ES e d) (hs:swapsWith e none pos.line X.env=pure false:=by rfl):QS X T ES (.Expr e pos) (yi d):=⟨xi (jhm he.h hs) fun D σ H hQQ=>yN hQQ fun W ρ M k hh hs q=>⟨W,ρ,M,k,hh,hs,yy.bind hs q fun W1 M1 x v H1 l1 h1 r1 q1=>q1 W1 σ H1 (.refl W1) h1 (hs.up l1)⟩⟩
def yL (d:DE):DS:=fun ρ M=>(d ρ M).st ρ fun v M1=>.rt v M1
theorem jt (he:QE X T ES e d):QS X T ES (.Return (some e) pos) (yL d):=⟨xi (ps_ret he.h) fun D σ H hQQ=>yN hQQ fun W ρ M k hh hs q=>⟨W,ρ,M,k,hh,hs,yy.bind hs q fun W1 M1 x v H1 l1 h1 r1 q1=>q1 W1 H1 v (.refl W1) h1 r1⟩⟩
def sIf (t:DT) (d1 d2:DS):DS:=fun ρ M=>(t ρ M).st ρ fun c M1=>if c=true then d1 ρ M1 else d2 ρ M1
theorem yA {sa sb:List Stmt} (hc:QT X T ES c ta) (ha:QSs X T ES sa d1) (hb:QSs X T ES sb d2):QS X T ES (.If c sa sb pos) (sIf ta d1 d2):=⟨xi (ps_if hc.h ha.h hb.h) fun D σ H hQQ=>yN hQQ fun W ρ M k hh hs q =>
 ⟨W,ρ,M,k,hh,hs,yy.bind hs q fun W1 M1 x v H1 l1 h1 r1 q1=>by
  subst r1
  cases v with
  | true=>rw [if_pos rfl] at q1 ⊢; exact ⟨W1,ρ,M1,l1.k.trans k,h1,hs.up l1,q1⟩
  | false=>rw [if_neg (by simp)] at q1 ⊢; exact ⟨W1,ρ,M1,l1.k.trans k,h1,hs.up l1,q1⟩⟩⟩
def yH (i:Nat) (d:DE):DS:=fun ρ M=>(d ρ M).st ρ fun v M1=>.nx (ρ.set i (some v)) M1
theorem jei {i:Nat} {D:Ends} {σ:St} {H:Hp} (h:jfq T ES (yH i d) D σ H):tAsg (lft T Rep ES d) (uk i) D σ H:=by
 obtain ⟨W,ρ,M,k,hh,hs,q⟩:=h;exact ⟨W,ρ,M,k,hh,hs,yy.bind hs q fun W1 M1 x v H1 l1 h1 r1 q1=>q1 W1 _ H1 (.refl W1) h1 ((hs.up l1).set r1)⟩
theorem jD {i:Nat} {x:Str} {pos':Pos} (hN:X.N.Nodup) (hi:X.N[i]? = some x) (hx:Loc X.env.scope x) (he:QE X T ES e d) (hs:swapsWith e (some (.Name x pos')) pos.line X.env=pure false:=by rfl) (hf:X.fn x=true∨X.env.scope.names.lookup x=some .local:=by first | exact .inl rfl | exact .inr rfl | assumption) :
  QS X T ES (.Assign [.Name x pos'] e pos) (yH i d):=⟨xi (ps_set hN hi hx he.h hs hf) fun _ _ _=>jei⟩
abbrev DG:=PV->En->Option En
abbrev DGs:=List PV->En->Option En
def lftG (T:Tb) (g:DG):TG:=fun v σ H Q=>∃ W ρ M x ρ',W.T=T∧Held W M H∧yE W ρ σ∧Rep W x v∧g x ρ=some ρ'∧∀ σ',yE W ρ' σ'->Q σ' H
def lftGs (T:Tb) (g:DGs):TGs:=fun vs σ H Q=>∃ W ρ M xs ρ',W.T=T∧Held W M H∧yE W ρ σ∧yc W xs vs∧g xs ρ=some ρ'∧∀ σ',yE W ρ' σ'->Q σ' H
structure QG (X:Cx) (T:Tb) (tg:Expr) (g:DG):Prop where
 h:PG X tg (lftG T g)
structure QGs (X:Cx) (T:Tb) (tgs:List Expr) (g:DGs):Prop where
 h:PGs X tgs (lftGs T g)
variable {tg:Expr} {tgs:List Expr}
theorem jeQ {t t':TG} (h:PG X tg t) (f:∀ v σ H Q,t' v σ H Q->t v σ H Q):PG X tg t':=fun pins s σ H v u Q I r q=>h pins s σ H v u Q I r (f v σ H Q q)
theorem jcn {t t':TGs} (h:PGs X tgs t) (f:∀ v σ H Q,t' v σ H Q->t v σ H Q):PGs X tgs t':=fun pins s σ H v u Q I r q=>h pins s σ H v u Q I r (f v σ H Q q)
def gN (i:Nat):DG:=fun x ρ=>some (ρ.set i (some x))
theorem yM {i:Nat} {x:Str} (hN:X.N.Nodup) (hi:X.N[i]? = some x) (hx:Loc X.env.scope x) (hf:X.fn x=true∨X.env.scope.names.lookup x=some .local:=by first | exact .inl rfl | exact .inr rfl | assumption):QG X T (.Name x pos) (gN i) :=
 ⟨jeQ (jJ hN hi hx hf) fun v σ H Q hQQ=>by
  obtain ⟨W,ρ,M,x,ρ',k,hh,hs,r,e,q⟩:=hQQ;cases e
  exact q _ (hs.set r)⟩
def jfG:DGs:=fun xs ρ=>match xs with
 | []=>some ρ
 | _=>none
def uy (g:DG) (gs:DGs):DGs:=fun xs ρ=>match xs with
 | x :: r=>(g x ρ).bind fun ρ1=>gs r ρ1
 | _=>none
theorem jch:QGs X T [] jfG:=⟨jcn jcm fun v σ H Q hQQ=>by
 obtain ⟨W,ρ,M,xs,ρ',k,hh,hs,r,e,q⟩:=hQQ
 cases xs with
 | nil=>cases e; cases r; exact ⟨rfl,q σ hs⟩
 | cons _ _=>cases e⟩
theorem xT {g:DG} {gs:DGs} (h1:QG X T tg g) (h2:QGs X T tgs gs) (hs:(assignEach (tg :: tgs) X.env).map (·.2)=assign tg X.env :: (assignEach tgs X.env).map (·.2):=by rfl):QGs X T (tg :: tgs) (uy g gs) :=
 ⟨jcn (Yp h1.h h2.h hs) fun v σ H Q hQQ=>by
  obtain ⟨W,ρ,M,xs,ρ',k,hh,hs,r,e,q⟩:=hQQ
  cases xs with
  | nil=>cases e
  | cons x xr =>
   obtain ⟨u,ur,rfl,ra,rb⟩:=r;have e:(g x ρ).bind (fun ρ1=>gs xr ρ1)=some ρ':=e
   cases e1:g x ρ with
   | none=>rw [e1] at e; cases e
   | some ρ1 =>
    rw [e1] at e
    exact ⟨u,ur,rfl,W,ρ,M,x,ρ1,k,hh,hs,ra,e1,fun σ1 r1=>⟨W,ρ1,M,xr,ρ',k,hh,r1,rb,e,q⟩⟩⟩
def gT (n:Nat) (gs:DGs):DG:=fun x ρ=>match x with
 | .tup xs=>if xs.length=n then gs xs ρ else none
 | _=>none
theorem jew {k:Nat} {gs:DGs} {n:Nat} (hT:T.K=X.K) (hc:X.calm=true) (h:QGs X T tgs gs) (hn:(assignEach tgs X.env).length=n:=by rfl) (hst:(assignEach tgs X.env).findIdx? (·.1)=none:=by rfl):QG X T (.Tuple tgs k pos) (gT n gs) :=
 ⟨jeQ (jeP hc h.h hn hst) fun v σ H Q hQQ=>by
  obtain ⟨W,ρ,M,x,ρ',k,hh,hs,r,e,q⟩:=hQQ;unfold gT at e;split at e
  ·rename_i xs;split at e
   ·rename_i hl;obtain ⟨a,vs,rfl,ha,rr⟩:=xK hh r;rw [k,hT] at ha;exact ⟨a,vs,rfl,ha,by rw [rr.length]; exact hl,W,ρ,M,xs,ρ',k,hh,hs,rr,e,q⟩
   ·cases e
  ·cases e⟩
def jbe (d:DE) (g:DG):DS:=fun ρ M=>(d ρ M).st ρ fun v M1=>match g v ρ with
 | some ρ'=>.nx ρ' M1
 | none=>.bad
theorem jet {g:DG} (he:QE X T ES e d) (hg:QG X T tg g) (hs:swapsWithSole [tg] e pos.line X.env=pure false:=by rfl) (hw:swappedStores [tg] e X.env=pure none:=by rfl)
  (h1:(assignEach [tg] X.env).map (·.2)=[assign tg X.env]:=by rfl):QS X T ES (.Assign [tg] e pos) (jbe d g):=⟨xi (jeI he.h hg.h hs hw h1) fun D σ H hQQ=>yN hQQ fun W ρ M k hh hs q=>⟨W,ρ,M,k,hh,hs,yy.bind hs q fun W1 M1 x v H1 l1 h1 r1 q1=>by
 split at q1
 ·rename_i ρ' e1;exact ⟨W1,ρ,M1,x,ρ',l1.k.trans k,h1,hs.up l1,r1,e1,fun σ' r'=>q1 W1 σ' H1 (.refl W1) h1 r'⟩
 ·exact q1.elim⟩⟩
def jhi (M:Sto) (o i x:PV):Option Sto:=match o,i with
 | .ref j,.int k=>(match M.g j with
  | some (.lst xs)=>(ixN xs.length k).map fun n=>M.set j (.lst (xs.set n x))
  | _=>none)
 | _,_=>none
def jbZ (d do_ di:DE):DS:=fun ρ M=>(d ρ M).st ρ fun x M1=>(do_ ρ M1).st ρ fun o M2=>(di ρ M2).st ρ fun i M3=>match jhi M3 o i x with
 | some M4=>.nx ρ M4
 | none=>.bad
theorem jcf {ip:Expr} {p2:Pos} (he:QE X T ES e d) (ho:QE X T ES o do_) (hi:QE X T ES ip di)
  (ha:∀ v,assign (.Subscript o ip p2) X.env v=(do
   let ov <- holding [v] (eval o X.env)
   let iv <- holding [v,ov] (eval ip X.env)
   standAt p2
   holding [v,ov,iv] (setItem ov iv v)
   release [v,ov,iv] []):=by intro _; rfl)
  (hs:swapsWithSole [.Subscript o ip p2] e pos.line X.env=pure false:=by rfl) (hw:swappedStores [.Subscript o ip p2] e X.env=pure none:=by rfl)
  (h1:(assignEach [.Subscript o ip p2] X.env).map (·.2)=[assign (.Subscript o ip p2) X.env]:=by rfl):QS X T ES (.Assign [.Subscript o ip p2] e pos) (jbZ d do_ di) :=
 ⟨xi (jeI he.h (pg_sub ho.h hi.h jeh ha) hs hw h1) fun D σ H hQQ=>yN hQQ fun W ρ M k hh hs q=>⟨W,ρ,M,k,hh,hs,yy.bind hs q fun W1 M1 x v H1 l1 h1 r1 q1=>by
  have hs1:=hs.up l1;refine ⟨W1,ρ,M1,l1.k.trans k,h1,hs1,yy.bind hs1 q1 fun W2 M2 o' ov H2 l2 h2 r2 q2=>?_⟩;have hs2:=hs1.up l2;refine ⟨W2,ρ,M2,l2.k.trans (l1.k.trans k),h2,hs2,yy.bind hs2 q2 fun W3 M3 i' iv H3 l3 h3 r3 q3=>?_⟩;split at q3
  ·rename_i M4 e4;unfold jhi at e4;split at e4
   ·rename_i j kk;split at e4
    ·rename_i xs e5
     cases e6:ixN xs.length kk with
     | none=>rw [e6] at e4; cases e4
     | some n =>
      rw [e6] at e4;cases e4;obtain ⟨a,rfl,ea⟩:=r2.up l3;obtain ⟨b',ob,g1,g2,g3,vs,rfl,rr⟩:=h3.m j _ e5;rw [ea] at g1;cases g1;have rx:=(r1.up l2).up l3;exact ⟨a,vs,kk,n,rfl,r3,g3,by rw [rr.length]; exact e6,q3 W3 σ _ (.refl W3) (h3.upd e5 ea ⟨_,rfl,rr.set rx n⟩) (hs2.up l3)⟩
    ·cases e4
   ·cases e4
  ·exact q3.elim⟩⟩
def vC (p:ItP) (g:DG) (db:DS):Nat->Nat->En->Sto->RS
 | 0,_,_,_=>.bad
 | n + 1,i,ρ,M=>match nxt p M i with
  | none=>.bad
  | some none=>.nx ρ M
  | some (some x)=>match g x ρ with
   | none=>.bad
   | some ρ1=>match db ρ1 M with
    | .nx ρ2 M2=>vC p g db n (i + 1) ρ2 M2
    | .ct ρ2 M2=>vC p g db n (i + 1) ρ2 M2
    | .bk ρ2 M2=>.nx ρ2 M2
    | r=>r
def xF (g:DG) (db:DS):List PV->En->Sto->RS
 | [],ρ,M=>.nx ρ M
 | x :: xs,ρ,M=>match g x ρ with
  | none=>.bad
  | some ρ1=>match db ρ1 M with
   | .nx ρ2 M2=>xF g db xs ρ2 M2
   | .ct ρ2 M2=>xF g db xs ρ2 M2
   | .bk ρ2 M2=>.nx ρ2 M2
   | r=>r
theorem Vk {all:List PV} {g:DG} {db:DS}:∀ {xs:List PV} {n i:Nat} {ρ:En} {M:Sto},all.drop i=xs->xs.length < n->vC (.fix all) g db n i ρ M=xF g db xs ρ M
 | xs,0,i,ρ,M,e,h=>absurd h (Nat.not_lt_zero _)
 | [],n + 1,i,ρ,M,e,h=>by
  have:all[i]? = none:=List.getElem?_eq_none_iff.mpr (by
   have:=congrArg List.length e
   simp at this
   omega)
  unfold vC;rw [show nxt (.fix all) M i=some (all[i]?) from rfl,this];rfl
 | x :: xs,n + 1,i,ρ,M,e,h=>by
  have e1:all[i]? = some x:=by
   have:=congrArg (fun l=>l[0]?) e
   simpa [List.getElem?_drop] using this
  have e2:all.drop (i + 1)=xs:=by
   have:=congrArg (List.drop 1) e
   simpa [List.drop_drop] using this
  have ih:∀ ρ M,vC (.fix all) g db n (i + 1) ρ M=xF g db xs ρ M:=fun ρ M=>Vk e2 (by simpa using h);unfold vC;rw [show nxt (.fix all) M i=some (all[i]?) from rfl,e1];simp only [ih];rfl
def Yh (F:Nat) (dit:En->Sto->Res ItP) (g:DG) (db:DS):DS:=fun ρ M=>(dit ρ M).st ρ fun p M1=>vC p g db (match p with
 | .fix xs=>xs.length + 1
 | _=>F) 0 ρ M1
theorem xq {F:Nat} {dit:En->Sto->Res ItP} {g:DG} {db:DS} {ρ:En} {M M1:Sto} {xs:List PV} (h:dit ρ M = .ok (.fix xs) M1):Yh F dit g db ρ M=xF g db xs ρ M1:=by
 unfold Yh;rw [h];exact Vk rfl (Nat.lt_succ_self _)
theorem uu {iter:Expr} {body:List Stmt} {dit:En->Sto->Res ItP} {g:DG} {db:DS} (F:Nat) (hp:PassesOwn (model X.prog X.w) X.A X.env X.xe) (hc:X.calm=true) (hi:QI X T ES tg iter dit) (hg:QG X T tg g) (hb:QSs X T ES body db) (hs:∀ x,foldedSetIterable iter X.env x=pure x:=by intro _; rfl) :
  QS X T ES (.For tg iter body [] pos) (Yh F dit g db):=⟨xi (ps_for hp hc hi.h hg.h hb.h hs) fun D σ H hQQ=>yN hQQ fun W ρ M k hh hs q=>⟨W,ρ,M,k,hh,hs,yy.bind hs q fun W0 M0 it J H0 l0 h0 ri q0=>by
 refine ⟨fun i m σ H=>∃ W ρ M,W0.le W∧Held W M H∧yE W ρ σ∧yy W (vC it g db m i ρ M) D ES,⟨_,W0,ρ,M0,.refl W0,h0,hs.up l0,q0⟩,?_⟩;rintro i m σ1 H1 ⟨W1,ρ1,M1,l1,h1,r1,q1⟩;have k1:W1.T=T:=l1.k.trans (l0.k.trans k)
 cases m with
 | zero=>exact q1.elim
 | succ m =>
  unfold vC at q1;obtain ⟨goes,stops⟩:=ri W1 M1 H1 l1.toLe0 h1 i;split at q1
  ·exact q1.elim
  ·rename_i en;exact .inl ⟨stops en,q1 W1 σ1 H1 (.refl W1) h1 r1⟩
  ·rename_i x en;obtain ⟨go,yld⟩:=goes x en;split at q1
   ·exact q1.elim
   ·rename_i ρ2 eg;refine .inr ⟨go,fun σ' H'=>∃ W ρ M,W0.le W∧Held W M H'∧yE W ρ σ'∧yy W (vC it g db m (i + 1) ρ M) D ES,fun σ' H' n=>⟨m,Nat.lt_succ_self _,n⟩,fun v H2 hy=>?_⟩;obtain ⟨W2,l2,h2,rx⟩:=yld v H2 hy;refine ⟨W2,ρ1,M1,x,ρ2,l2.k.trans k1,h2,r1.up l2,rx,eg,fun σ2 r2=>⟨W2,ρ2,M1,l2.k.trans k1,h2,r2,?_⟩⟩;have l12:=l1.trans l2
    cases e:db ρ2 M1 with
    | nx ρ3 M3=>rw [e] at q1; exact fun W3 σ3 H3 l3 h3 r3=>⟨W3,ρ3,M3,l12.trans l3,h3,r3,yy.up (r:=vC it g db m (i + 1) ρ3 M3) q1 (l2.trans l3)⟩
    | ct ρ3 M3=>rw [e] at q1; exact fun W3 σ3 H3 l3 h3 r3=>⟨W3,ρ3,M3,l12.trans l3,h3,r3,yy.up (r:=vC it g db m (i + 1) ρ3 M3) q1 (l2.trans l3)⟩
    | bk ρ3 M3=>rw [e] at q1; exact fun W3 σ3 H3 l3 h3 r3=>q1 W3 σ3 H3 (l2.trans l3) h3 r3
    | rt v3 M3=>rw [e] at q1; exact fun W3 H3 u l3 h3 r3=>q1 W3 H3 u (l2.trans l3) h3 r3
    | exc c ρ3 M3 =>
     rw [e] at q1;intro W3 σ3 H3 l3 h3 r3
     have:=q1 W3 σ3 H3 (l2.trans l3) h3 r3
     rw [l2.k];exact this
    | bad=>rw [e] at q1; exact q1.elim⟩⟩
end
end L3

namespace L3
open PySem L2
open PyProof.Rows (envOfC int_text_len_1921)
def spD (T:Tb) (D:List PV->Sto->Res PV):Sp:=fun vs H Q E=>∃ W pvs M,W.T=T∧Held W M H∧yc W pvs vs∧yj W Rep (D pvs M) Q E
def jdc (T:Tb) (D:List PV->Sto->Res PV):Sp:=fun vs H Q _=>∃ W pvs M v M',W.T=T∧Held W M H∧yc W pvs vs∧D pvs M = .ok v M'∧∀ W' H' u,W.le W'->Held W' M' H'->Rep W' v u->Q u H'
def fin:RS->Res PV
 | .rt v M=>.ok v M
 | .nx _ M=>.ok .non M
 | .exc k _ M=>.exc k M
 | _=>.bad
def yu (n N:Nat) (d:DS):List PV->Sto->Res PV:=fun pvs M=>if pvs.length=n then fin (d (pvs.map some ++ List.replicate (N - n) none) M) else .bad
def Uq (D:List PV->Sto->Res PV):List PV->Sto->Res PV:=fun pvs M=>(D pvs M).noX
def jgy (D0 D1:List PV->Sto->Res PV):List PV->Sto->Res PV:=fun pvs M=>match D0 pvs M with
 | .ok v M'=>.ok v M'
 | _=>match D1 pvs M with
  | .exc k M'=>.exc k M'
  | _=>.bad
theorem jdb {W:Wd} {N:List Str} {n:Nat} {pvs:List PV} {vs:List V} (r:yc W pvs vs) (hn:pvs.length=n):yE W (pvs.map some ++ List.replicate (N.length - n) none) (L2.start N vs):=by
 unfold L2.start;have hl:=r.length;refine ⟨by simp; omega,fun i x e=>?_⟩
 by_cases hi:i < pvs.length
 ·rw [List.getElem?_append_left (by simpa using hi),List.getElem?_map] at e
  cases e1:pvs[i]? with
  | none=>rw [e1] at e; cases e
  | some y =>
   rw [e1] at e;cases e;obtain ⟨v,e2,r2⟩:=r.get e1;exact ⟨v,by rw [List.getElem?_append_left (by simp; omega),List.getElem?_map,e2]; rfl,r2⟩
 ·rw [List.getElem?_append_right (by simp; omega)] at e
  have:=List.mem_of_getElem? e
  have:=List.eq_of_mem_replicate this
  cases this
section
variable {P:Program} {w:World} {K:PySem.W.Frag} {mg:Str->Option Value} {base:Heap} {x qual:Str} {st:Stmt} {f:Addr} {fd:FuncData} {N ps:List Str} {k:Nat} {T:Tb} {d:DS} {D D0 D1:List PV->Sto->Res PV}
theorem jaE {n:Nat} {pvs:List PV} {M:Sto} (h:yu n k d pvs M≠.bad):pvs.length=n:=by
 unfold yu at h;split at h
 ·assumption
 ·exact absurd rfl h
theorem jfP {W:Wd} {r:RS} {Q:VK} {E:XK} (h:yj W Rep (fin r) Q E):yy W r { nx:=fun _ H'=>Q .non H',rt:=Q } fun _=>E:=by
 cases r with
 | nx ρ M=>exact fun W' σ' H' le hh _=>h W' H' .non le hh rfl
 | rt v M=>exact h
 | bk ρ M=>exact h.elim
 | ct ρ M=>exact h.elim
 | exc c ρ M=>exact fun W' σ' H' le hh _=>h W' H' le hh
 | bad=>exact h.elim
theorem jaD {n:Nat} {vs:List V} {H:Hp} {Q:VK} {E:XK} (h:spD T (yu n N.length d) vs H Q E):jfq T (fun _=>E) d { nx:=fun _ H'=>Q .non H',rt:=Q } (L2.start N vs) H:=by
 obtain ⟨W,pvs,M,kT,hh,r,p⟩:=h
 have hn:pvs.length=n:=jaE (M:=M) (d:=d) (k:=N.length) fun z=>by rw [z] at p; exact p
 have p:yj W Rep (if pvs.length=n then fin (d (pvs.map some ++ List.replicate (N.length - n) none) M) else .bad) Q E:=p;rw [if_pos hn] at p;exact ⟨W,_,M,kT,hh,jdb r hn,jfP p⟩
theorem jbY {n:Nat} {vs:List V} {H:Hp} {Q:VK} {E:XK} (h:spD T (yu n N.length d) vs H Q E):vs.length=n:=by
 obtain ⟨W,pvs,M,kT,hh,r,p⟩:=h
 have hn:pvs.length=n:=jaE (M:=M) (d:=d) (k:=N.length) fun z=>by rw [z] at p; exact p
 rw [r.length,hn]
theorem spOk_D {D:List PV->Sto->Res PV} {vs:List V} {H:Hp} {Q:VK} {E:XK} (h:jdc T D vs H Q E):spD T D vs H Q E:=by
 obtain ⟨W,pvs,M,v,M',kT,hh,r,e,q⟩:=h;exact ⟨W,pvs,M,kT,hh,r,by rw [e]; exact q⟩
theorem jI (F:Fun K x qual st f fd) (S:FnScope N ps (jc st)) (hb:∀ (cdv:Value) (A:Around) (outer:List Env) (s:Shared) (H:Hp) (E:XK),Room k (A.deeper (envOfC qual (jc st) s.heap.objs.size f cdv)) ->
  QSs (vA (CX1 P w) P w K mg base N qual (jc st) f cdv A outer s H E) T (fun _=>E) (ji st) d):FnOk P w K mg base (CX1 P w) (k + 1) f fd ps (spD T (yu ps.length N.length d)) :=
 F.okX S (fun _ _ _ _ h=>jbY h) fun cdv A outer s H vs Q E hr h=>⟨_,(hb cdv A outer s H E hr).h,jaD h⟩
theorem jcB (F:Fun K x qual st f fd) (S:FnScope N ps (jc st)) (hb:∀ (cdv:Value) (A:Around) (outer:List Env) (s:Shared) (H:Hp) (E:XK),Room k (A.deeper (envOfC qual (jc st) s.heap.objs.size f cdv)) ->
  QSs (vA CX0 P w K mg base N qual (jc st) f cdv A outer s H E).nox T ES0 (ji st) d):FnOk P w K mg base CX0 (k + 1) f fd ps (jdc T (yu ps.length N.length d)) :=
 F.ok S (fun _ _ _ _ h=>jbY (spOk_D h)) fun cdv A outer s H vs Q E hr h=>⟨_,(hb cdv A outer s H E hr).h,by
  obtain ⟨W,pvs,M,v,M',kT,hh,r,e,q⟩:=h
  exact jaD (E:=E0) ⟨W,pvs,M,kT,hh,r,by rw [e]; exact q⟩⟩
theorem jaC (F:FnOk P w K mg base CX0 k f fd ps (jdc T D)):FnOk P w K mg base (CX1 P w) k f fd ps (spD T (Uq D)):=F.up.imp fun vs H Q E hQQ=>by
 obtain ⟨W,pvs,M,kT,hh,r,p⟩:=hQQ;unfold Uq at p
 cases e:D pvs M with
 | ok v M'=>rw [e] at p; exact ⟨W,pvs,M,v,M',kT,hh,r,e,p⟩
 | exc _ _=>rw [e] at p; exact p.elim
 | bad=>rw [e] at p; exact p.elim
theorem jfW (F:FnOk P w K mg base CX0 k f fd ps (jdc T D0)) (G:FnOk P w K mg base (CX1 P w) k f fd ps (spD T D1)):FnOk P w K mg base (CX1 P w) k f fd ps (spD T (jgy D0 D1)):=(F.up.or G).imp fun vs H Q E hQQ=>by
 obtain ⟨W,pvs,M,kT,hh,r,p⟩:=hQQ;unfold jgy at p
 cases e:D0 pvs M with
 | ok v M'=>rw [e] at p; exact .inl ⟨W,pvs,M,v,M',kT,hh,r,e,p⟩
 | exc c M' =>
  rw [e] at p
  cases e1:D1 pvs M with
  | exc c' M1=>rw [e1] at p; exact .inr ⟨W,pvs,M,kT,hh,r,by rw [e1]; exact p⟩
  | ok _ _=>rw [e1] at p; exact p.elim
  | bad=>rw [e1] at p; exact p.elim
 | bad =>
  rw [e] at p
  cases e1:D1 pvs M with
  | exc c' M1=>rw [e1] at p; exact .inr ⟨W,pvs,M,kT,hh,r,by rw [e1]; exact p⟩
  | ok _ _=>rw [e1] at p; exact p.elim
  | bad=>rw [e1] at p; exact p.elim
end
inductive Sl where
 | p (i:Nat) | k (j:Nat) | d (n:Nat)
def gen {α:Type} (sp:List Sl) (ds us ws:List α):List α:=sp.filterMap fun
 | .p i=>us[i]?
 | .k j=>ws[j]?
 | .d n=>ds[n]?
def yo {α:Type} (a b:Nat) (sp:List Sl) (ds us ws:List α):List α:=if us.length=a∧ws.length=b then gen sp ds us ws else []
theorem jar {dV:List V} {ds:List Value} {vs:List V} {us:List Value} {zs:List V} {ws:List Value} (hd:yg dV ds) (hu:yg vs us) (hw:yg zs ws):∀ (sp:List Sl),yg (gen sp dV vs zs) (gen sp ds us ws)
 | []=>.nil
 | c :: r=>by
  have ih:=jar hd hu hw r
  have get:∀ {xs:List V} {ys:List Value} (i:Nat),yg xs ys->(∃ x y,xs[i]? = some x∧ys[i]? = some y∧yh x y)∨(xs[i]? = none∧ys[i]? = none):=fun {xs ys} i h=>by
   cases e:xs[i]? with
   | none=>exact .inr ⟨rfl,h.none_of e⟩
   | some x =>
    obtain ⟨y,e2,r2⟩:=h.get e;exact .inl ⟨x,y,rfl,e2,r2⟩
  unfold gen;rw [List.filterMap_cons,List.filterMap_cons]
  cases c with
  | p i =>
   rcases get i hu with ⟨x,y,e1,e2,r2⟩ | ⟨e1,e2⟩
   ·simp only [e1,e2]; exact .cons r2 ih
   ·simp only [e1,e2]; exact ih
  | k i =>
   rcases get i hw with ⟨x,y,e1,e2,r2⟩ | ⟨e1,e2⟩
   ·simp only [e1,e2]; exact .cons r2 ih
   ·simp only [e1,e2]; exact ih
  | d i =>
   rcases get i hd with ⟨x,y,e1,e2,r2⟩ | ⟨e1,e2⟩
   ·simp only [e1,e2]; exact .cons r2 ih
   ·simp only [e1,e2]; exact ih
theorem jas {W:Wd} {dP:List PV} {dV:List V} {pus:List PV} {vs:List V} {pws:List PV} {zs:List V} (hd:yc W dP dV) (hu:yc W pus vs) (hw:yc W pws zs):∀ (sp:List Sl),yc W (gen sp dP pus pws) (gen sp dV vs zs)
 | []=>rfl
 | c :: r=>by
  have ih:=jas hd hu hw r
  have get:∀ {xs:List PV} {ys:List V} (i:Nat),yc W xs ys->(∃ x y,xs[i]? = some x∧ys[i]? = some y∧Rep W x y)∨(xs[i]? = none∧ys[i]? = none):=fun {xs ys} i h=>by
   cases e:xs[i]? with
   | none =>
    refine .inr ⟨rfl,List.getElem?_eq_none_iff.mpr ?_⟩;rw [h.length];exact List.getElem?_eq_none_iff.mp e
   | some x =>
    obtain ⟨y,e2,r2⟩:=h.get e;exact .inl ⟨x,y,rfl,e2,r2⟩
  unfold gen;rw [List.filterMap_cons,List.filterMap_cons]
  cases c with
  | p i =>
   rcases get i hu with ⟨x,y,e1,e2,r2⟩ | ⟨e1,e2⟩
   ·simp only [e1,e2]; exact ⟨y,_,rfl,r2,ih⟩
   ·simp only [e1,e2]; exact ih
  | k i =>
   rcases get i hw with ⟨x,y,e1,e2,r2⟩ | ⟨e1,e2⟩
   ·simp only [e1,e2]; exact ⟨y,_,rfl,r2,ih⟩
   ·simp only [e1,e2]; exact ih
  | d i =>
   rcases get i hd with ⟨x,y,e1,e2,r2⟩ | ⟨e1,e2⟩
   ·simp only [e1,e2]; exact ⟨y,_,rfl,r2,ih⟩
   ·simp only [e1,e2]; exact ih
theorem jE {K:PySem.W.Frag} {fd:FuncData} {p0:Str} {pr ks:List Str} {a b:Nat} {sp:List Sl} {dV:List V} {ds:List Value} (hd:yg dV ds)
  (h:∀ (s:Shared) (us ws:List Value),K.In s.heap->us.length=a->ws.length=b->BindsTo s fd ⟨us,ks.zip ws⟩ ((p0 :: pr).zip (gen sp ds us ws))):KBinds K fd (p0 :: pr) ks (yo a b sp ds) (yo a b sp dV) where
 to:=fun s us ws KX hl=>by
  unfold yo at hl ⊢
  by_cases hc:us.length=a∧ws.length=b
  ·rw [if_pos hc] at hl ⊢;exact h s us ws KX hc.1 hc.2
  ·rw [if_neg hc] at hl;cases hl
 rel:=fun {vs us zs ws} hu hw=>by
  unfold yo;rw [hu.length,hw.length];split
  ·exact jar hd hu hw sp
  ·exact .nil
structure CalD (P:Program) (w:World) (K:PySem.W.Frag) (mg:Str->Option Value) (base:Heap) (T:Tb) (x:Str) (j:Nat) (ps ks:List Str) (a b:Nat) (sl:List Sl) (dP:List PV) (D:List PV->Sto->Res PV):Prop where
 ex:∃ f fd dV ds,FnOk P w K mg base (CX1 P w) j f fd ps (spD T D)∧mg x=some (.ref f)∧PySem.W.keepIn K (.ref f)=true∧KBinds K fd ps ks (yo a b sl ds) (yo a b sl dV)∧∀ W:Wd,W.T=T->yc W dP dV
def jo (D:List PV->Sto->Res PV) (a b:Nat) (sl:List Sl) (dP:List PV) (da dk:DA):DE:=fun ρ M=>(da ρ M).bind fun xs M1=>(dk ρ M1).bind fun zs M2=>D (yo a b sl dP xs zs) M2
section
variable {X:Cx} {T:Tb} {ES:St->XK} {x:Str} {j:Nat} {ps ks:List Str} {a b:Nat} {sl:List Sl} {dP:List PV} {D:List PV->Sto->Res PV} {p pos:Pos} {e:Expr} {es:List Expr} {kws:List Keyword} {da dk:DA}
theorem xY {W:Wd} {dV:List V} {pus:List PV} {vs:List V} {pws:List PV} {zs:List V} (hd:yc W dP dV) (hu:yc W pus vs) (hw:yc W pws zs):yc W (yo a b sl dP pus pws) (yo a b sl dV vs zs):=by
 unfold yo;rw [hu.length,hw.length];split
 ·exact jas hd hu hw sl
 ·rfl
theorem jx:xn (CX1 X.prog X.w) X ES0:=fun pins σ H s e s' I h=>by
 obtain ⟨_,_,_,_,_,_,_,_,_,_,_,_,_,_,q⟩:=h;exact q.elim
theorem jB {P:Program} {w:World} {K:PySem.W.Frag} {mg:Str->Option Value} {base:Heap} {N:List Str} {qual:Str} {scope:Scope} {f:Addr} {cd:Value} {A:Around} {outer:List Env} {s₀:Shared} {H₀:Hp} {E:XK} :
  xn (CX1 P w) (vA (CX1 P w) P w K mg base N qual scope f cd A outer s₀ H₀ E) fun _=>E:=fun pins σ H s e s' I h=>jie pins σ H s e s' I h
theorem jcb {f:Addr} {fd:FuncData} {dV:List V} {ds:List Value} {pins:List (Addr × Obj)} {σ:St} {H:Hp} {s:Shared} {Q:VK} {us ws:List Value} {vs zs:List V} {sp:Sp} (F:FnOk X.prog X.w X.K X.mg X.base (CX1 X.prog X.w) j f fd ps sp) (hr:Room j X.A) (hb:KBinds X.K fd ps ks (yo a b sl ds) (yo a b sl dV)) (hx:xn (CX1 X.prog X.w) X ES)
  (I:Inv X pins σ H s) (r:yg vs us) (rz:yg zs ws) (h:sp (yo a b sl dV vs zs) H Q (ES σ)):wpAny (model X.prog X.w) X.A (call (.ref f) us (ks.zip ws)) (EP X pins σ Q) X.xe s:=by
 have r2:=hb.rel r rz
 have hl:(yo a b sl ds us ws).length=ps.length:=by rw [<- r2.length]; exact F.len _ _ _ _ h
 refine wpAny_call (codeAny_mono (F.run X.A X.stack s H ⟨us,ks.zip ws⟩ (yo a b sl ds us ws) (yo a b sl dV vs zs) Q (ES σ) hr I.env0 (hb.to s us ws I.kIn hl) r2 h) fun r s' hq=>?_)
 match r,hq with
 | .error e,hq=>exact hx pins σ H s e s' I hq
 | .ok (.ret u),hq=>exact I.after hq
theorem jh (C:CalD X.prog X.w X.K X.mg X.base T x j ps ks a b sl dP D) (hr:Room j X.A) (hg:Gl X x) (hx:xn (CX1 X.prog X.w) X ES) (ha:QA X T ES (e :: es) da) (hkw:QK X T ES kws dk)
  (hall:(backToKw pos (keywordEach kws X.env)).all (·.1.isSome)=true:=by rfl) (hks:(backToKw pos (keywordEach kws X.env)).filterMap (·.1)=ks:=by rfl)
  (hdb:(x == ("__debug__":Str))=false:=by decide) (he:starEach (e :: es) X.env=(false,eval e X.env) :: starEach es X.env:=by rfl)
  (hpl:((backTo pos (starEach (e :: es) X.env)).any (·.1) || (backToKw pos (keywordEach kws X.env)).any (·.1.isNone))=false:=by rfl):QE X T ES (.Call (.Name x p) (e :: es) kws pos) (jo D a b sl dP da dk):=⟨by
 obtain ⟨f,fd,dV,ds,F,hm,hk,hb,hdV⟩:=C.ex;rintro pins s σ H Q I ⟨W,ρ,M,k,hh,hs,q⟩;refine wpAny_Call_Name_kw (JO I hg hm ?_ hdb)
 refine PySem.W.callWith_KW (h₀:=X.base) I.ok.mod.kin hk hall (thn (ha.h pos pins s σ H _ I ⟨W,ρ,M,k,hh,hs,yj.bind (Q1:=fun vs H1=>∃ W1 M1 xs,W1.T=T∧Held W1 M1 H1∧yE W1 ρ σ∧yc W1 xs vs∧yj W1 Rep ((dk ρ M1).bind fun zs M2=>D (yo a b sl dP xs zs) M2) Q (ES σ)) q
   fun W1 M1 xs vs H1 l1 h1 r1 q1=>⟨W1,M1,xs,l1.k.trans k,h1,hs.up l1,r1,q1⟩⟩) fun us s1 hQQ=>?_) hpl he
 obtain ⟨vs,H1,I1,r,W1,M1,xs,k1,h1,hs1,r1,q1⟩:=hQQ;refine thn (hkw.h pos pins s1 σ H1 (fun zs H2=>spD T D (yo a b sl dV vs zs) H2 Q (ES σ)) I1 ⟨W1,ρ,M1,k1,h1,hs1,yj.bind q1 fun W2 M2 zs' zs H2 l2 h2 r2 q2=>⟨W2,_,M2,l2.k.trans k1,h2,xY (hdV W2 (l2.k.trans k1)) (r1.up l2) r2,q2⟩⟩) fun ws s2 hQQ=>?_;obtain ⟨zs,H2,I2,rz,q2⟩:=hQQ;refine ⟨I2.kIn,?_⟩;rw [hks]
 exact jcb F hr hb hx I2 r rz q2⟩
def xN (c:Nat) (ds:DA):DS:=fun ρ M=>(ds ρ M).st ρ fun vs M1=>if vs.length<=sizeLine then .exc c ρ M1 else .bad
theorem xf {P:Program} {w:World} {K:PySem.W.Frag} {mg:Str->Option Value} {base:Heap} {N:List Str} {qual:Str} {scope:Scope} {f:Addr} {cd:Value} {A:Around} {outer:List Env} {s₀:Shared} {H₀:Hp} {E:XK}
  {x:Str} {c:Nat} {np cpos pos:Pos} {e:Expr} {es:List Expr} {ds:DA} (hC:Exc K mg x (T.C c)) (hg:Gl (vA (CX1 P w) P w K mg base N qual scope f cd A outer s₀ H₀ E) x) (ha:QA (vA (CX1 P w) P w K mg base N qual scope f cd A outer s₀ H₀ E) T (fun _=>E) (e :: es) ds)
  (hdb:(x == ("__debug__":Str))=false:=by decide)
  (he:starEach (e :: es) (envOfC qual scope s₀.heap.objs.size f cd)=(false,eval e (envOfC qual scope s₀.heap.objs.size f cd)) :: starEach es (envOfC qual scope s₀.heap.objs.size f cd):=by rfl)
  (hpl:(backTo cpos (starEach es (envOfC qual scope s₀.heap.objs.size f cd))).any (·.1)=false:=by rfl) :
  QS (vA (CX1 P w) P w K mg base N qual scope f cd A outer s₀ H₀ E) T (fun _=>E) (.Raise (some (.Call (.Name x np) (e :: es) [] cpos)) none pos) (xN c ds) :=
 ⟨xi (jeG hC hg ha.h hdb he hpl) fun D σ H hQQ=>yN hQQ fun W ρ M k hh hs q=>⟨W,ρ,M,k,hh,hs,yy.bind hs q fun W1 M1 xs vs H1 l1 h1 r1 q1=>by
  split at q1
  ·rename_i hz
   have:=q1 W1 σ H1 (.refl W1) h1 (hs.up l1)
   rw [l1.k,k] at this;exact ⟨by rw [r1.length]; exact hz,this⟩
  ·exact q1.elim⟩⟩
structure QJ (X:Cx) (T:Tb) (ES:St->XK) (n:Nat) (es:List Expr) (d:En->Sto->Str->Res Str):Prop where
 h:∀ (out:Str),out.length<=n->PJ X es fun σ H o Q=>o=out∧lft T (fun _ a b=>b=a) ES (fun ρ M=>d ρ M out) σ H Q
theorem jeM {t t':TJ} (h:PJ X es t) (f:∀ σ H o Q,t' σ H o Q->t σ H o Q):PJ X es t':=fun pins s σ H o Q I q=>h pins s σ H o Q I (f σ H o Q q)
def jNil:En->Sto->Str->Res Str:=fun _ M out=>.ok out M
def jhP (x:Str) (d:En->Sto->Str->Res Str):En->Sto->Str->Res Str:=fun ρ M out=>d ρ M (out ++ x)
def jhQ (de:DE) (d:En->Sto->Str->Res Str):En->Sto->Str->Res Str:=fun ρ M out=>(de ρ M).bind fun v M1=>match v with
 | .int i=>if vB i=true then d ρ M1 (out ++ Str.ofString (toString i)) else .bad
 | _=>.bad
theorem qj_nil {n:Nat} (hn:n<=sizeLine):QJ X T ES n [] jNil:=⟨fun out ho=>jeM pj_nil fun σ H o Q hQQ=>by
 obtain ⟨e,W,ρ,M,k,hh,hs,q⟩:=hQQ;subst e
 exact ⟨Nat.le_trans ho hn,q W H _ (.refl W) hh rfl⟩⟩
theorem Ua (a b:Str):(a ++ b).length=a.length + b.length:=by
 show (a.cps ++ b.cps).size=a.cps.size + b.cps.size;exact Array.size_append
theorem jeu {n:Nat} {x:Str} {c:Nat} {cp:Pos} {d:En->Sto->Str->Res Str} (hx:x.length<=2000) (hn:n + 2000<=sizeLine) (hr:QJ X T ES (n + 2000) es d) (hs:evalEach (.Constant (.str x) c cp :: es) X.env=eval (.Constant (.str x) c cp) X.env :: evalEach es X.env:=by rfl):QJ X T ES n (.Constant (.str x) c cp :: es) (jhP x d) :=
 ⟨fun out ho=>by
  have hl:(out ++ x).length<=n + 2000:=by rw [Ua]; omega
  exact jeM (jcl (jeR (X:=X)) (hr.h (out ++ x) hl) hs) fun σ H o Q hQQ=>by
   obtain ⟨e,W,ρ,M,k,hh,hs,q⟩:=hQQ;subst e
   exact ⟨x,rfl,Nat.le_trans hl hn,rfl,W,ρ,M,k,hh,hs,q⟩⟩
theorem Jg {i:Int} (h:vB i=true):i.natAbs.log2 < 1920:=by
 obtain ⟨h1,h2⟩:=xa.mp h
 by_cases h0:i.natAbs=0
 ·rw [h0]; decide
 ·have:i.natAbs < 2 ^ 1920:=Nat.lt_of_le_of_lt (show i.natAbs<=2 ^ 62 by omega) (Nat.pow_lt_pow_right (by decide) (by decide))
  exact (Nat.log2_lt h0).mpr this
theorem jev {n:Nat} {de:DE} {cp:Pos} {d:En->Sto->Str->Res Str} (he:QE X T ES e de) (hn:n + 2000<=sizeLine) (hr:QJ X T ES (n + 2000) es d) (hs:evalEach (.FormattedValue e (-1) none cp :: es) X.env=eval (.FormattedValue e (-1) none cp) X.env :: evalEach es X.env:=by rfl):QJ X T ES n (.FormattedValue e (-1) none cp :: es) (jhQ de d) :=
 ⟨fun out ho=>fun pins s σ H o Q I hQQ=>by
  obtain ⟨eo,W,ρ,M,k,hh,hsρ,q⟩:=hQQ;subst eo;refine jcl (t:=fun σ H o' Q=>∃ (i:Int),vB i=true∧o'=o ++ Str.ofString (toString i)∧lft T (fun _ a b=>b=a) ES (fun ρ M=>d ρ M (o ++ Str.ofString (toString i))) σ H Q) (jhv he.h) (fun pins s σ H o' Q I ⟨i,hi,eo,hq⟩=>?_) hs pins s σ H o Q I ?_
  ·have hl:(o ++ Str.ofString (toString i)).length<=n + 2000:=by
    rw [Ua]
    have:=int_text_len_1921 (Jg hi)
    omega
   exact (hr.h _ hl) pins s σ H o' Q I ⟨eo,hq⟩
  ·refine ⟨W,ρ,M,k,hh,hsρ,yj.bind q fun W1 M1 v u H1 l1 h1 r1 q1=>?_⟩;split at q1
   ·rename_i i;split at q1
    ·rename_i hi;refine ⟨i,r1,Jg hi,_,rfl,?_,i,hi,rfl,W1,ρ,M1,l1.k.trans k,h1,hsρ.up l1,q1⟩;rw [Ua]
     have:=int_text_len_1921 (Jg hi)
     show o.length + (Str.ofString (toString i)).length<=sizeLine;omega
    ·exact q1.elim
   ·exact q1.elim⟩
def jgo (d:En->Sto->Str->Res Str):DE:=fun ρ M=>(d ρ M Str.empty).bind fun z M1=>.ok (.str z) M1
theorem jhd {e2:Expr} {d:En->Sto->Str->Res Str} (h:QJ X T ES 0 (e :: e2 :: es) d) (hs:evalEach (e :: e2 :: es) X.env=eval e X.env :: eval e2 X.env :: evalEach es X.env:=by rfl):QE X T ES (.JoinedStr (e :: e2 :: es) pos) (jgo d) :=
 ⟨jN (jhu (h.h Str.empty (by decide)) hs) fun σ H Q hQQ=>jC hQQ fun W ρ M k hh hs q=>⟨rfl,W,ρ,M,k,hh,hs,yj.bind q fun W1 M1 z u H1 l1 h1 r1 q1=>by
  subst r1
  exact q1 W1 H1 _ (.refl W1) h1 rfl⟩⟩
end
end L3

namespace L3
open PySem L2
abbrev GM:=Sto->PV->List PV->Option (PV × Sto)
def rM (T:Tb) (g:GM):V->List V->Hp->VK->Prop:=fun v vs H Q=>∃ W M x xs z M',W.T=T∧Held W M H∧Rep W x v∧yc W xs vs∧g M x xs=some (z,M')∧∀ W' H' v',W.le W'->Held W' M' H'->Rep W' z v'->Q v' H'
def dMt (g:GM) (do_:DE) (da:DA):DE:=fun ρ M=>(do_ ρ M).bind fun x M1=>match yV M1 x with
 | none=>.bad
 | some _=>(da ρ M1).bind fun xs M2=>match g M2 x xs with
  | some (z,M3)=>.ok z M3
  | none=>.bad
section
variable {X:Cx} {T:Tb} {ES:St->XK} {o e:Expr} {es:List Expr} {name:Str} {apos cpos:Pos} {mid:String} {g:GM} {do_:DE} {da:DA}
theorem jcs {r r':V->List V->Hp->VK->Prop} (h:MtR X mid r) (k:∀ x xs H Q,r' x xs H Q->r x xs H Q):MtR X mid r':=fun pins s σ H x xs v us Q I rx rs q=>h pins s σ H x xs v us Q I rx rs (k _ _ _ _ q)
theorem jeA (slot:Slot "list" name mid) (hty:typeOf (.builtin mid)=pure (.type "method_descriptor")) (hm:MtR X mid (rM T g)) (ho:QE X T ES o do_) (ha:QA X T ES (e :: es) da)
  (hbase:attributeBase o name X.env (eval o X.env)=eval o X.env:=by rfl)
  (hfew:((backTo cpos (starEach (e :: es) X.env)).all (fun x=>!x.1) && (backToKw cpos (keywordEach [] X.env)).all (fun x=>x.1.isSome)
   && decide ((e :: es).length + ([]:List Keyword).length + (if ([]:List Keyword).isEmpty then 0 else 1) < 30))=true:=by rfl)
  (hline:(apos.endLine == cpos.line)=true:=by rfl) (hs:starEach (e :: es) X.env=(false,eval e X.env) :: starEach es X.env:=by rfl) (hplain:(backTo cpos (starEach es X.env)).any (·.1)=false:=by rfl) :
  QE X T ES (.Call (.Attribute o name apos) (e :: es) [] cpos) (dMt g do_ da) :=
 ⟨jN (pe_bm PySem.F.plainAttrs_list slot hty hm ho.h ha.h hbase hfew hline hs hplain) fun σ H Q hQQ=>jC hQQ fun W ρ M k hh hs q=>⟨W,ρ,M,k,hh,hs,yj.bind q fun W1 M1 x v H1 l1 h1 r1 q1=>by
  split at q1
  ·exact q1.elim
  ·rename_i ys e1;obtain ⟨a,vs,rfl,ha,_⟩:=xp h1 r1 e1;refine ⟨.inl ⟨rfl,vs,SqL.of ha⟩,W1,ρ,M1,l1.k.trans k,h1,hs.up l1,yj.bind q1 fun W2 M2 xs us H2 l2 h2 r2 q2=>?_⟩;split at q2
   ·rename_i z M3 e2;exact ⟨W2,M2,x,xs,z,M3,l2.k.trans (l1.k.trans k),h2,r1.up l2,r2,e2,q2⟩
   ·exact q2.elim⟩⟩
def VC (M:Sto):PV->Option (Nat × List PV)
 | .ref i=>(match M.g i with
  | some (.lst xs)=>some (i,xs)
  | _=>none)
 | _=>none
theorem jcK {W:Wd} {M:Sto} {H:Hp} {x:PV} {v:V} {i:Nat} {xs:List PV} (hh:Held W M H) (r:Rep W x v) (e:VC M x=some (i,xs)):∃ a vs,v = .ref a∧W.α i=some a∧M.g i=some (.lst xs)∧H a=some (.lst vs)∧yc W xs vs:=by
 cases x with
 | ref j =>
  have e:(match M.g j with
   | some (.lst xs)=>some (j,xs)
   | _=>none)=some (i,xs):=e
  split at e
  ·rename_i ys e1;cases e;obtain ⟨a,rfl,ea⟩:=r;obtain ⟨b,ob,h1,h2,h3,vs,rfl,rr⟩:=hh.m _ _ e1;rw [ea] at h1;cases h1;exact ⟨a,vs,rfl,ea,e1,h3,rr⟩
  ·cases e
 | _=>cases e
def xI:GM:=fun M x ys=>match VC M x,ys with
 | some (i,xs),[y]=>if xs.length < sizeLine then some (.non,M.set i (.lst (xs ++ [y]))) else none
 | _,_=>none
theorem jal:MtR X "list.append" (rM T xI):=jcs Vi fun v vs H Q hQQ=>by
 obtain ⟨W,M,x,ys,z,M',k,hh,rx,ry,e,q⟩:=hQQ;unfold xI at e;split at e
 ·rename_i i xs y e1;split at e
  ·rename_i hz;cases e;obtain ⟨a,ws,rfl,ea,eg,ha,rr⟩:=jcK hh rx e1;obtain ⟨u,rfl,ru⟩:=ua ry;refine ⟨a,ws,u,rfl,rfl,ha,by rw [rr.length]; exact hz,q W _ _ (.refl W) (hh.upd eg ea ⟨_,rfl,rr.append ⟨u,[],rfl,ru,rfl⟩⟩) rfl⟩
  ·cases e
 ·cases e
def YD:GM:=fun M x ys=>match VC M x,ys with
 | some (i,xs),[.int k]=>if 0<=k∧k < xs.length∧k < 2 ^ 62 then (xs[k.toNat]?).map fun y=>(y,M.set i (.lst (xs.eraseIdx k.toNat))) else none
 | _,_=>none
theorem jhI:MtR X "list.pop" (rM T YD):=jcs jfk fun v vs H Q hQQ=>by
 obtain ⟨W,M,x,ys,z,M',k,hh,rx,ry,e,q⟩:=hQQ;unfold YD at e;split at e
 ·rename_i i xs kk e1;split at e
  ·rename_i hz
   cases e2:xs[kk.toNat]? with
   | none=>rw [e2] at e; cases e
   | some y =>
    rw [e2] at e;cases e;obtain ⟨a,ws,rfl,ea,eg,ha,rr⟩:=jcK hh rx e1;obtain ⟨n,rfl,rn⟩:=ua ry;have rn:n = .int kk:=rn;subst rn;obtain ⟨u,e3,r3⟩:=rr.get e2;have hl:=rr.length;refine ⟨a,ws,kk,kk.toNat,u,rfl,rfl,ha,by omega,by omega,?_,e3,q W _ _ (.refl W) (hh.upd eg ea ⟨_,rfl,rr.erase _⟩) r3⟩;exact seqIndex_of hz.1 (by rw [hl]; exact hz.2.1)
  ·cases e
 ·cases e
def gScr:G2:=fun _ x y=>match x,y with
 | .scr ns,.lst []=>some (.bl (!ns.isEmpty))
 | _,_=>none
theorem o_scr (hT:T.K=X.K) (hu:X.A.units < cLine):OpP X T (compareOp .NotEq) gScr:=xE (op_neL hu) fun v u H Q hQQ=>by
 obtain ⟨W,M,x,y,w,k,hh,rx,ry,e,q⟩:=hQQ;unfold gScr at e;split at e
 ·rename_i ns;cases e;obtain ⟨a,rfl,hq,_⟩:=rx;obtain ⟨b,us,rfl,hb,rr⟩:=ry;cases rr
  have hq:SqL X.K H a (ns.map V.int):=by
   have:=(show jdS W.F H from hh.f).seq hq
   rw [k,hT] at this;exact this
  refine ⟨a,b,ns.map V.int,[],rfl,rfl,hq,SqL.of (hh.f _ _ hb),?_,rfl,q W H _ (.refl W) hh ?_⟩
  ·rw [List.all_map];exact List.all_eq_true.mpr fun _ _=>rfl
  ·cases ns with
   | nil=>rfl
   | cons _ _=>rfl
 ·cases e
def jbD:G1:=fun M xs=>match xs with
 | [.scr ns]=>some (.ref M.n,M.new (.lst (ns.map PV.int)))
 | _=>none
theorem jin (hT:T.K=X.K):yU X (.type "list") (rC T jbD):=VD uZ fun vs H Q hQQ=>by
 obtain ⟨W,M,xs,z,M',k,hh,rx,e,q⟩:=hQQ;unfold jbD at e;split at e
 ·rename_i ns;cases e;obtain ⟨v,rfl,a,rfl,hq,_⟩:=ua rx
  have hq:SqL X.K H a (ns.map V.int):=by
   have:=(show jdS W.F H from hh.f).seq hq
   rw [k,hT] at this;exact this
  refine ⟨a,_,rfl,.inl hq,fun l hl=>?_⟩;obtain ⟨W2,l2,h2,r2⟩:=jag (xs:=ns.map PV.int) hh (yc.ints.mpr rfl) hl;exact q W2 _ _ l2 h2 r2
 ·cases e
structure XRow (T:Tb) (ks:List Nat) (LE k:Nat):Prop where
 x:ExcK T.K (T.C k)
 kk:∀ j ∈ ks,PySem.W.kitOne T.K (.ref (T.C k)) (.ref (T.C j))=some (k == j)
 l:PySem.W.kitOne T.K (.ref (T.C k)) (.ref (T.C LE))=some true
 v:PySem.W.kitOne T.K (.ref (T.C k)) (.type "ValueError")=some true
 m:PySem.W.exmOne T.K (.ref (T.C k)) (.ref (T.C LE))=some true
theorem vP {A:Around} {k:Nat} (hr:Room k A):A.units + 100 < cLine:=by have:=hr.un; omega
end
end L3

namespace L3
open PySem L2
@[simp] theorem jfh {α : Type} {a : α} {M : Sto} : (Res.ok a M).noX = .ok a M := rfl
@[simp] theorem noX_bad {α : Type} : (Res.bad : Res α).noX = .bad := rfl
@[simp] theorem xA {x : PV} {ρ : En} {M : Sto} : dC x ρ M = .ok x M := rfl
@[simp] theorem jz {x : PV} {r : En} {M : Sto} : ya 0 (some x :: r) M = .ok x M := rfl
@[simp] theorem jF {i : Nat} {o : Option PV} {r : En} {M : Sto} : ya (i + 1) (o :: r) M = ya i r M := rfl
@[simp] theorem ju {ρ : En} {M : Sto} : yb ρ M = .ok [] M := rfl
@[simp] theorem jp {d : DE} {ds : DA} {ρ : En} {M : Sto} : jb d ds ρ M = (d ρ M).bind fun x M1 => (ds ρ M1).bind fun xs M2 => .ok (x :: xs) M2 := rfl
@[simp] theorem jY {g : G2} {da db : DE} {ρ : En} {M : Sto} : dOp g da db ρ M = (da ρ M).bind fun x M1 => (db ρ M1).bind fun y M2 => ofO (g M2 x y) M2 := rfl
@[simp] theorem jaG {d : DE} {ρ : En} {M : Sto} : yd d ρ M = (d ρ M).bind fun x M1 => ofO (asB x) M1 := rfl
@[simp] theorem asB_bl {b : Bool} : asB (.bl b) = some b := rfl
@[simp] theorem jgp {g : G1} {ds : DA} {ρ : En} {M : Sto} : dCB g ds ρ M = (ds ρ M).bind fun xs M1 => match g M1 xs with
 | some (z,M2)=>.ok z M2
 | none=>.bad:=rfl
@[simp] theorem vV {t : DT} {da db : DE} {ρ : En} {M : Sto} : dIf t da db ρ M = (t ρ M).bind fun c M1 => if c = true then da ρ M1 else db ρ M1 := rfl
@[simp] theorem dAnd_eq {da db : DT} {ρ : En} {M : Sto} : yJ da db ρ M = (da ρ M).bind fun c M1 => if c = true then db ρ M1 else .ok false M1 := rfl
@[simp] theorem dOr_eq {da db : DT} {ρ : En} {M : Sto} : dOr da db ρ M = (da ρ M).bind fun c M1 => if c = true then .ok true M1 else db ρ M1 := rfl
@[simp] theorem JR {da : DT} {ρ : En} {M : Sto} : vz da ρ M = (da ρ M).bind fun c M1 => .ok (!c) M1 := rfl
@[simp] theorem vy {d : DE} {ρ : En} {M : Sto} : xm d ρ M = (d ρ M).bind fun x M1 => ofO (jdZ M1 x) M1 := rfl
@[simp] theorem truP_bl {b : Bool} {M : Sto} : jdZ M (.bl b) = some b := rfl
@[simp] theorem dUn_eq {g : Sto -> PV -> Option PV} {d : DE} {ρ : En} {M : Sto} : dUn g d ρ M = (d ρ M).bind fun x M1 => ofO (g M1 x) M1 := rfl
@[simp] theorem gNeg_int {M : Sto} {i : Int} : gNeg M (.int i) = some (.int (-i)) := rfl
@[simp] theorem jT {D : List PV -> Sto -> Res PV} {a b : Nat} {sl : List Sl} {dP : List PV} {da dk : DA} {ρ : En} {M : Sto} : jo D a b sl dP da dk ρ M = (da ρ M).bind fun xs M1 => (dk ρ M1).bind fun zs M2 => D (yo a b sl dP xs zs) M2 := rfl
@[simp] theorem JQ {ds : DA} {ρ : En} {M : Sto} : vU ds ρ M = (ds ρ M).bind fun xs M1 => if xs.length <= sizeLine then .ok (.tup xs) M1 else .bad := rfl
@[simp] theorem uc {ds : DA} {ρ : En} {M : Sto} : yR ds ρ M = (ds ρ M).bind fun xs M1 => if xs.length <= sizeLine then .ok (.lst xs) M1 else .bad := rfl
@[simp] theorem dLstN_eq {ds : DA} {ρ : En} {M : Sto} : YM ds ρ M = (ds ρ M).bind fun xs M1 => if xs.length <= sizeLine then .ok (.ref M1.n) (M1.new (.lst xs)) else .bad := rfl
@[simp] theorem sNext_eq {ρ : En} {M : Sto} : yp ρ M = .nx ρ M := rfl
@[simp] theorem jgR {d1 d2 : DS} {ρ : En} {M : Sto} : ye d1 d2 ρ M = (d1 ρ M).then d2 := rfl
@[simp] theorem jgQ {i : Nat} {d : DE} {ρ : En} {M : Sto} : yH i d ρ M = (d ρ M).st ρ fun v M1 => .nx (ρ.set i (some v)) M1 := rfl
@[simp] theorem sRet_eq {d : DE} {ρ : En} {M : Sto} : yL d ρ M = (d ρ M).st ρ fun v M1 => .rt v M1 := rfl
@[simp] theorem sExpr_eq {d : DE} {ρ : En} {M : Sto} : yi d ρ M = (d ρ M).st ρ fun _ M1 => .nx ρ M1 := rfl
@[simp] theorem sIf_eq {t : DT} {d1 d2 : DS} {ρ : En} {M : Sto} : sIf t d1 d2 ρ M = (t ρ M).st ρ fun c M1 => if c = true then d1 ρ M1 else d2 ρ M1 := rfl
@[simp] theorem sRaise_eq {c : Nat} {ds : DA} {ρ : En} {M : Sto} : xN c ds ρ M = (ds ρ M).st ρ fun vs M1 => if vs.length <= sizeLine then .exc c ρ M1 else .bad := rfl
@[simp] theorem fin_rt {v : PV} {M : Sto} : fin (.rt v M) = .ok v M := rfl
@[simp] theorem fin_nx {ρ : En} {M : Sto} : fin (.nx ρ M) = .ok .non M := rfl
@[simp] theorem fin_exc {c : Nat} {ρ : En} {M : Sto} : fin (.exc c ρ M) = .exc c M := rfl
@[simp] theorem gAddI_int {M : Sto} {i j : Int} : JG M (.int i) (.int j) = some (.int (i + j)) := rfl
@[simp] theorem jfK {M : Sto} {i j : Int} : jbC M (.int i) (.int j) = some (.int (i - j)) := rfl
@[simp] theorem gLt_int {M : Sto} {i j : Int} : gLt M (.int i) (.int j) = some (.bl (decide (i < j))) := rfl
@[simp] theorem gLe_int {M : Sto} {i j : Int} : gLe M (.int i) (.int j) = some (.bl (decide (i <= j))) := rfl
@[simp] theorem gGt_int {M : Sto} {i j : Int} : gGt M (.int i) (.int j) = some (.bl (decide (j < i))) := rfl
@[simp] theorem gGe_int {M : Sto} {i j : Int} : gGe M (.int i) (.int j) = some (.bl (decide (j <= i))) := rfl
theorem xZ {M:Sto} {i j:Int} (h:(-(2 ^ 64) < i∧i < 2 ^ 64)∨(-(2 ^ 64) < j∧j < 2 ^ 64)):YE M (.int i) (.int j)=some (.int (i * j)):=by
 show orG jcx jhX M (.int i) (.int j)=_;unfold orG
 have:jcx M (.int i) (.int j)=some (.int (i * j)):=by
  show (if jij i j=true then _ else _)=_;rw [if_pos];unfold jij;simp only [Bool.or_eq_true,Bool.and_eq_true,decide_eq_true_eq];exact h
 rw [this]
theorem YF {M:Sto} {i j:Int} (h:0 < j) (h2:j < 1073741824):jfM M (.int i) (.int j)=some (.int (i / j)):=by
 show (if (decide (0 < j) && decide (j < 1073741824))=true then _ else _)=_;rw [if_pos (by simp only [Bool.and_eq_true,decide_eq_true_eq]; exact ⟨h,h2⟩)]
theorem vc {M:Sto} {i j:Int} (h:0 < j):jat M (.int i) (.int j)=some (.int (i % j)):=by
 show (if decide (0 < j)=true then _ else _)=_;rw [if_pos (decide_eq_true h)]
theorem jfL {M:Sto} {i j:Int} (h:0<=j) (h2:j<=1000000) (h3:i.natAbs < 2 ^ 64):gPow M (.int i) (.int j)=some (.int (i ^ j.toNat)):=by
 show (if (decide (0<=j) && decide (j<=1000000) && decide (i.natAbs < 2 ^ 64))=true then _ else _)=_;rw [if_pos (by simp only [Bool.and_eq_true,decide_eq_true_eq]; exact ⟨⟨h,h2⟩,h3⟩)]
structure Town (M:Sto) (ns:List Int) (c:Int):Prop where
 row:M.g 0=some (.lst (ns.map PV.int))
 tw:M.g 1=some (.lst [.ref 0,.int c])
 ne:ns≠[]
 n:2<=M.n
structure Off (M M':Sto):Prop where
 n:M.n<=M'.n
 g:∀ i,2<=i->i < M.n->M'.g i=M.g i
theorem Off.trans {A B C:Sto} (h:Off A B) (k:Off B C):Off A C:=⟨Nat.le_trans h.n k.n,fun i hi hn=>(k.g i hi (Nat.lt_of_lt_of_le hn h.n)).trans (h.g i hi hn)⟩
theorem vI {M:Sto} {i:Nat} {xs:List PV} (h:M.g i=some (.lst xs)):yV M (.ref i)=some xs:=by
 show (match M.g i with
  | some (.lst xs)=>some xs
  | _=>none)=some xs
 rw [h]
theorem ve {M:Sto} {i:Nat} {xs:List PV} (h:M.g i=some (.lst xs)):Jb M (.ref i)=some xs:=vI h
@[simp] theorem anyP_lst {M : Sto} {xs : List PV} : Jb M (.lst xs) = some xs := rfl
@[simp] theorem anyP_tup {M : Sto} {xs : List PV} : Jb M (.tup xs) = some xs := rfl
@[simp] theorem JY {M : Sto} {xs : List PV} : yV M (.lst xs) = some xs := rfl
theorem uz {M:Sto} {x:PV} {xs:List PV} {i:Int} (h:Jb M x=some xs):gIx M x (.int i)=atI xs i:=by
 show (Jb M x).bind _=_;rw [h];rfl
theorem UM {α:Type} {xs:List α} {i:Int} (h:0<=i) (h2:i < xs.length):atI xs i=xs[i.toNat]?:=by
 unfold atI ixN;rw [if_pos h,if_pos h2];rfl
theorem xJ {M:Sto} {x:PV} {xs:List PV} (h:Jb M x=some xs):xD M x=some (.int xs.length):=by
 unfold xD;rw [h]
@[simp] theorem one_eq {f : Sto -> PV -> Option PV} {M : Sto} {x : PV} : one f M [x] = match f M x with
  | some z=>some (z,M)
  | none=>none:=rfl
theorem ud {α:Type} (f0:α->PV) (p:α->Bool) (f:α->PV) {bnd:PV->En->Option En} {r:En} {dt:DT} {de:DE} {M:Sto}:∀ (as:List α),(∀ a ∈ as,∃ ρ,bnd (f0 a) r=some ρ∧dt ρ M = .ok (p a) M∧(p a=true->de ρ M = .ok (f a) M)) ->
  uX bnd r dt de (as.map f0) M = .ok ((as.filter p).map f) M
 | [],_=>rfl
 | a :: as,h=>by
  have ih:=ud f0 p f as fun b hb=>h b (List.mem_cons_of_mem _ hb);obtain ⟨ρ,e1,e2,e3⟩:=h a List.mem_cons_self;show uX bnd r dt de (f0 a :: as.map f0) M=_;unfold uX;simp only [e1,e2,jfh,Res.bind_ok]
  cases hp:p a with
  | false=>simp [hp,ih]
  | true=>simp [hp,ih,e3 hp]
theorem jW {α:Type} (f0:α->PV) (f:α->PV) {bnd:PV->En->Option En} {r:En} {dt:DT} {de:DE} {M:Sto} (as:List α) (h:∀ a ∈ as,∃ ρ,bnd (f0 a) r=some ρ∧dt ρ M = .ok true M∧de ρ M = .ok (f a) M) :
  uX bnd r dt de (as.map f0) M = .ok (as.map f) M:=by
 have:=ud (bnd:=bnd) (r:=r) (dt:=dt) (de:=de) (M:=M) f0 (fun _=>true) f as fun a ha=>by
  obtain ⟨ρ,h1,h2,h3⟩:=h a ha;exact ⟨ρ,h1,h2,fun _=>h3⟩
 rw [this,List.filter_eq_self.mpr (fun _ _=>rfl)]
theorem jK {di:En->Sto->Res ItP} {bnd:PV->En->Option En} {js:List Nat} {dt:DT} {de:DE} {ρ:En} {M M1 M2:Sto} {xs ys:List PV} (h:di ρ M = .ok (.fix xs) M1) (hl:xs.length < sizeLine) (e:uX bnd (rest js ρ) dt de xs M1 = .ok ys M2):xk di bnd js dt de ρ M = .ok (.lst ys) M2:=by
 unfold xk;rw [h];show (if yZ (.fix xs) M1<=sizeLine then _ else _)=_;rw [if_pos (show yZ (.fix xs) M1<=sizeLine from hl)];rw [VA (all:=xs) (xs:=xs) (i:=0) (n:=yZ (.fix xs) M1) rfl (Nat.lt_succ_self _),e];rfl
@[simp] theorem jcE {d : DE} {ρ : En} {M M1 : Sto} {xs : List PV} (h : d ρ M = .ok (.lst xs) M1) : dIt d ρ M = .ok (.fix xs) M1 := by
 unfold dIt;rw [h];rfl
theorem xR {lo:Int} {n:Nat}:(xS lo n).length=n:=by simp [xS]
theorem jfl {lo:Int} {n:Nat} {x:PV} (h:x ∈ xS lo n):∃ i:Nat,i < n∧x = .int (lo + i):=by
 unfold xS at h;obtain ⟨i,hi,e⟩:=List.mem_map.mp h;exact ⟨i,by simpa using hi,e.symm⟩
theorem Vl {g:DG} {db:DS} (I:En->Sto->Prop):∀ (xs:List PV) (ρ:En) (M:Sto),I ρ M->(∀ x ∈ xs,∀ ρ M,I ρ M->∃ ρ1 ρ' M',g x ρ=some ρ1∧db ρ1 M = .nx ρ' M'∧I ρ' M')->∃ ρ' M',xF g db xs ρ M = .nx ρ' M'∧I ρ' M'
 | [],ρ,M,h,_=>⟨ρ,M,rfl,h⟩
 | x :: xs,ρ,M,h,hs=>by
  obtain ⟨ρ1,ρ2,M2,e1,e2,h2⟩:=hs x List.mem_cons_self ρ M h;obtain ⟨ρ',M',e,q⟩:=Vl I xs ρ2 M2 h2 fun z hz=>hs z (List.mem_cons_of_mem _ hz);refine ⟨ρ',M',?_,q⟩;unfold xF;simp only [e1,e2];exact e
theorem xX {g:DG} {db:DS} (I:Nat->En->Sto->Prop):∀ (xs:List PV) (k:Nat) (ρ:En) (M:Sto),I k ρ M->(∀ i x,xs[i]? = some x->∀ ρ M,I (k + i) ρ M->∃ ρ1 ρ' M',g x ρ=some ρ1∧db ρ1 M = .nx ρ' M'∧I (k + i + 1) ρ' M')->∃ ρ' M',xF g db xs ρ M = .nx ρ' M'∧I (k + xs.length) ρ' M'
 | [],k,ρ,M,h,_=>⟨ρ,M,rfl,h⟩
 | x :: xs,k,ρ,M,h,hs=>by
  obtain ⟨ρ1,ρ2,M2,e1,e2,h2⟩:=hs 0 x rfl ρ M h
  obtain ⟨ρ',M',e,q⟩:=xX I xs (k + 1) ρ2 M2 h2 fun i z hz ρ M hI=>by
   have:=hs (i + 1) z (by simpa using hz) ρ M (by rw [show k + (i + 1)=k + 1 + i by omega]; exact hI)
   rw [show k + (i + 1) + 1=k + 1 + i + 1 by omega] at this;exact this
  refine ⟨ρ',M',?_,by rw [List.length_cons,show k + (xs.length + 1)=k + 1 + xs.length by omega]; exact q⟩;unfold xF;simp only [e1,e2];exact e
theorem vL:∀ (ns:List Int),yD (ns.map PV.int)=true
 | []=>rfl
 | n :: ns=>by
  show (plain (.int n) && yD (ns.map PV.int))=true;rw [vL ns];rfl
theorem Vx:∀ (ns:List Int),Js (ns.map PV.int)=true
 | []=>rfl
 | n :: ns=>by
  show (decide (dep (.int n)<=60) && Js (ns.map PV.int))=true;rw [Vx ns];rfl
theorem jgA (ns:List Int) (k:Int):((ns.map PV.int).any fun z=>eqB z (.int k))=decide (k ∈ ns):=by
 rw [List.any_map,Bool.eq_iff_iff,List.any_eq_true,decide_eq_true_eq];constructor
 ·rintro ⟨x,hx,e⟩;have e:(x == k)=true:=e;rw [<- beq_iff_eq.mp e];exact hx
 ·intro h;exact ⟨k,h,beq_self_eq_true k⟩
theorem xx {neg:Bool} {M:Sto} {x:PV} {k:Int} {ns:List Int} (h:Jb M x=some (ns.map PV.int)):gIn neg M (.int k) x=some (.bl (if neg then !decide (k ∈ ns) else decide (k ∈ ns))):=by
 unfold gIn;rw [h];show (if _ then some (PV.bl (if neg=true then !((ns.map PV.int).any fun z=>eqB z (.int k)) else (ns.map PV.int).any fun z=>eqB z (.int k))) else none)=_;rw [if_pos ⟨rfl,vL ns,Vx ns⟩,jgA]
def Tru (r:RS):Prop:=∃ M',fin r = .ok (.bl true) M'
section
variable {i:Nat} {d:DE} {c d1:DS} {t:DT} {ρ ρ':En} {M M1:Sto} {v:PV} {g:DG} {F:Nat} {dit:En->Sto->Res ItP} {xs:List PV}
theorem Jo (h:d ρ M = .ok v M1) (k:Tru (c (ρ.set i (some v)) M1)):Tru (ye (yH i d) c ρ M):=by
 unfold ye yH;rw [h];exact k
theorem go_asg (h:d ρ M = .ok v M1) (hg:g v ρ=some ρ') (k:Tru (c ρ' M1)):Tru (ye (jbe d g) c ρ M):=by
 unfold ye jbe;rw [h]
 show Tru ((match g v ρ with
  | some ρ'=>RS.nx ρ' M1
  | none=>.bad).then c)
 rw [hg];exact k
theorem go_for (h:dit ρ M = .ok (.fix xs) M1) {M2:Sto} (hl:xF g d1 xs ρ M1 = .nx ρ' M2) (k:Tru (c ρ' M2)):Tru (ye (Yh F dit g d1) c ρ M):=by
 unfold ye;rw [xq h,hl];exact k
theorem go_ret (h:d ρ M = .ok (.bl true) M1):Tru (yL d ρ M):=by
 unfold yL;rw [h];exact ⟨_,rfl⟩
theorem jR {r:RS} (h:d ρ M = .ok v M1) (k:c (ρ.set i (some v)) M1=r):ye (yH i d) c ρ M=r:=by
 unfold ye yH;rw [h];exact k
theorem xW {r:RS} (h:t ρ M = .ok false M1) (k:c ρ M1=r):ye (sIf t d1 yp) c ρ M=r:=by
 unfold ye sIf;rw [h];exact k
theorem vo (h:t ρ M = .ok false M1):sIf t d1 yp ρ M = .nx ρ M1:=by
 unfold sIf;rw [h];rfl
theorem jO (h:d ρ M = .ok v M1):yL d ρ M = .rt v M1:=by
 unfold yL;rw [h];rfl
theorem jad {d2:DS} {v:PV} {M2:Sto} (h:t ρ M = .ok true M1) (k:d1 ρ M1 = .rt v M2):ye (sIf t d1 d2) c ρ M = .rt v M2:=by
 unfold ye sIf;rw [h];show (if true=true then d1 ρ M1 else d2 ρ M1).then c=_;rw [if_pos rfl,k];rfl
theorem nx_asg {r:RS} (h:d ρ M = .ok v M1) (hg:g v ρ=some ρ') (k:c ρ' M1=r):ye (jbe d g) c ρ M=r:=by
 unfold ye jbe;rw [h]
 show (match g v ρ with
  | some ρ'=>RS.nx ρ' M1
  | none=>.bad).then c=_
 rw [hg];exact k
theorem jV {n N:Nat} {pvs:List PV} {ρ:En} {dd:DS} (hn:pvs.length=n) (hρ:pvs.map some ++ List.replicate (N - n) none=ρ) (h:dd ρ M = .rt v M1):yu n N dd pvs M = .ok v M1:=by
 unfold yu;rw [if_pos hn,hρ,h];rfl
theorem yG {r:RS} (h:d ρ M = .ok v M1) (k:c ρ M1=r):ye (yi d) c ρ M=r:=by
 unfold ye yi;rw [h];exact k
end
@[simp] theorem dSl_eq {d : DE} {dl dh : En -> Sto -> Res (Option Int)} {ρ : En} {M : Sto} : dSl d dl dh ρ M = (d ρ M).bind fun x M1 => (dl ρ M1).bind fun lo M2 => (dh ρ M2).bind fun hi M3 => ofO (gSl M3 x lo hi) M3 := rfl
@[simp] theorem dON_eq {ρ : En} {M : Sto} : dON ρ M = .ok none M := rfl
@[simp] theorem dOS_eq {d : DE} {ρ : En} {M : Sto} : dOS d ρ M = (d ρ M).bind fun x M1 => match x with
 | .int i=>.ok (some i) M1
 | _=>.bad:=rfl
end L3

namespace Srt
open PySem PySem.W PyProof.Rows
def run {α:Type} (lt:Nat->Nat->Bool):KasT α->α
 | .ret a=>a
 | .ask i j k=>run lt (k (lt i j))
section
variable {r:Nat->Int}
abbrev lo (r:Nat->Int):Nat->Nat->Bool:=fun i j=>decide (r i < r j)
end
end Srt

namespace Srt
open PySem PySem.W PyProof.Rows
def AskP {α:Type} (n:Nat) (R:α->Prop):KasT α->Prop
 | .ret a=>R a
 | .ask i j k=>i < n∧j < n∧∀ b,AskP n R (k b)
section
variable {n:Nat} (h0:0 < n)
include h0
end
end Srt

namespace Srt
open PySem PySem.W PyProof.Rows
def T2 (h:Heap) (v:Value) (k:Int × Int):Prop:=∃ a o t u n,v = .ref a∧h.get? a=some o∧o.cls = .type "tuple"∧o.data = .seq #[.int k.1 t,.int k.2 u] n
def All2 (h:Heap):List Value->List (Int × Int)->Prop
 | [],[]=>True
 | v :: vs,k :: ks=>T2 h v k∧All2 h vs ks
 | _,_=>False
section
variable {prog:Program} {w:World} {A:Around} {E:Value->Shared->Prop} {s:Shared}
end
end Srt

namespace L2
open PySem PySem.Spec PyProof.Rows
section
variable {X:Cx}
variable {e st:Expr} {te:TE} {ts:TO} {pos p2:Pos}
end
end L2

namespace L3
open PySem L2
def prP (k:Int × Int):PV:=.tup [.int k.1,.int k.2]
section
variable {X:Cx} {T:Tb} {ES:St->XK} {a st:Expr} {pos p2:Pos} {da ds:DE}
def sFrz (i:Nat) (d:DS):DS:=fun ρ M=>match ρ[i]? with
 | some (some (.ref c))=>(match M.g c with
  | some (.lst xs)=>d (ρ.set i (some (.lst xs))) (M.drop c)
  | _=>.bad)
 | _=>.bad
end
end L3

namespace L3
open PySem L2
open PyProof.Rows (envOfC)
theorem UY {W:Wd} {f:Str} {x:PV} {v:V} (r:Rep W x v):∀ {fs:List (Str × PV)} {vs:List (Str × V)},vF W fs vs->vF W (xl f x fs) (vk f v vs)
 | [],_,e=>by cases e; exact ⟨v,[],rfl,r,rfl⟩
 | p :: fs,_,⟨u,t,e,a,b⟩=>by
  subst e;unfold xl vk
  by_cases h:p.1=f
  ·rw [if_pos (by rw [h]; exact beq_self_eq_true f),if_pos h];exact ⟨v,t,rfl,r,b⟩
  ·rw [if_neg (by simpa using fun z:f=p.1=>h z.symm),if_neg h];exact ⟨u,_,rfl,a,UY r b⟩
def YA (M:Sto) (k:Nat):PV->Option (Nat × List (Str × PV))
 | .ref i=>(match M.g i with
  | some (.ins c fs)=>if c=k then some (i,fs) else none
  | _=>none)
 | _=>none
theorem UA {W:Wd} {M:Sto} {H:Hp} {k i:Nat} {x:PV} {v:V} {fs:List (Str × PV)} (hh:Held W M H) (r:Rep W x v) (e:YA M k x=some (i,fs)):∃ a dx vs,v = .ref a∧W.α i=some a∧M.g i=some (.ins k fs)∧H a=some (.ins (W.T.C k) dx vs)∧vF W fs vs:=by
 cases x with
 | ref j =>
  have e:(match M.g j with
   | some (.ins c fs)=>if c=k then some (j,fs) else none
   | _=>none)=some (i,fs):=e
  split at e
  ·rename_i c gs hg;split at e
   ·rename_i hc;cases e;subst hc;obtain ⟨a,rfl,ha⟩:=r;obtain ⟨b,o,h1,h2,h3,dx,vs,rfl,rf⟩:=hh.m _ _ hg;rw [ha] at h1;cases h1;exact ⟨a,dx,vs,rfl,ha,hg,h3,rf⟩
   ·cases e
  ·cases e
 | _=>cases e
def yl (k:Nat) (f:Str) (d:DE):DE:=fun ρ M=>(d ρ M).bind fun x M1=>match YA M1 k x with
 | some (_,fs)=>ofO (fs.lookup f) M1
 | none=>.bad
def xc (k:Nat) (f:Str) (d do_:DE):DS:=fun ρ M=>(d ρ M).st ρ fun y M1=>(do_ ρ M1).st ρ fun x M2=>match YA M2 k x with
 | some (i,fs)=>if fs.length < 1000 then .nx ρ (M2.set i (.ins k (xl f y fs))) else .bad
 | none=>.bad
section
variable {X:Cx} {T:Tb} {ES:St->XK} {o e:Expr} {es:List Expr} {f m x:Str} {k j:Nat} {pos pos' apos p:Pos} {d do_:DE} {da dk:DA} {ps ks:List Str} {a b:Nat} {sl:List Sl} {dP:List PV} {D:List PV->Sto->Res PV} {kws:List Keyword}
theorem jX (hT:T.K=X.K) (c:Cls X.K (T.C k)) (n:jn X.K (T.C k) f) (he:QE X T ES o d) (hb:attributeBase o f X.env (eval o X.env)=eval o X.env:=by rfl):QE X T ES (.Attribute o f pos) (yl k f d) :=
 ⟨jN (pe_fld he.h hb) fun σ H Q hQQ=>jC hQQ fun W ρ M kT hh hs p=>⟨W,ρ,M,kT,hh,hs,yj.bind p fun W1 M1 x v H1 l1 h1 r1 p1=>by
  split at p1
  ·rename_i i fs e1;obtain ⟨ad,dx,vs,rfl,_,_,h3,rf⟩:=UA h1 r1 e1;rw [l1.k,kT] at h3
   cases e2:fs.lookup f with
   | none=>rw [e2] at p1; exact p1.elim
   | some y =>
    rw [e2] at p1;obtain ⟨u,e3,r3⟩:=rf.get e2;exact ⟨ad,T.C k,dx,vs,u,rfl,h3,c,n,e3,p1 W1 H1 u (.refl W1) h1 r3⟩
  ·exact p1.elim⟩⟩
theorem xg (hT:T.K=X.K) (c:Cls X.K (T.C k)) (n:jn X.K (T.C k) f) (ho:QE X T ES o do_) (he:QE X T ES e d) (hsw:swapsWith e (some (.Attribute o f pos')) pos.line X.env=pure false:=by rfl):QS X T ES (.Assign [.Attribute o f pos'] e pos) (xc k f d do_) :=
 ⟨xi (ps_fld ho.h he.h hsw) fun D σ H hQQ=>yN hQQ fun W ρ M kT hh hs q=>⟨W,ρ,M,kT,hh,hs,yy.bind hs q fun W1 M1 y v H1 l1 h1 r1 q1=>⟨W1,ρ,M1,l1.k.trans kT,h1,hs.up l1,yy.bind (hs.up l1) q1 fun W2 M2 x u H2 l2 h2 r2 q2=>by
  split at q2
  ·rename_i i fs e1;split at q2
   ·rename_i hz;obtain ⟨ad,dx,vs,rfl,ha,hg,h3,rf⟩:=UA h2 r2 e1;have kk:=l2.k.trans (l1.k.trans kT);have h3':=h3;rw [kk] at h3';refine ⟨ad,T.C k,dx,vs,rfl,h3',c,n,by rw [rf.length]; exact hz,?_⟩;have hu:=h2.upd (c':=.ins k (xl f y fs)) (o:=.ins (T.C k) dx (vk f v vs)) hg ha ⟨dx,_,by rw [kk],UY (r1.up l2) rf⟩;exact q2 W2 σ _ (.refl W2) hu ((hs.up l1).up l2)
   ·exact q2.elim
  ·exact q2.elim⟩⟩⟩
structure MetD (P:Program) (w:World) (K:PySem.W.Frag) (mg:Str->Option Value) (base:Heap) (T:Tb) (k:Nat) (m:Str) (j:Nat) (ps ks:List Str) (a b:Nat) (sl:List Sl) (dP:List PV) (D:List PV->Sto->Res PV):Prop where
 ex:∃ f fd dV ds,FnOk P w K mg base (CX1 P w) j f fd ps (spD T D)∧Meth K (T.C k) m f∧Cls K (T.C k)∧KBinds K fd ps ks (yo a b sl ds) (yo a b sl dV)∧∀ W:Wd,W.T=T->yc W dP dV
def yv (k:Nat) (m:Str) (D:List PV->Sto->Res PV) (a b:Nat) (sl:List Sl) (dP:List PV) (do_:DE) (da dk:DA):DE:=fun ρ M=>(do_ ρ M).bind fun x M0=>match YA M0 k x with
 | some (_,fs)=>if fs.lookup m=none then (da ρ M0).bind fun xs M1=>(dk ρ M1).bind fun zs M2=>D (yo a b sl dP (x :: xs) zs) M2 else .bad
 | none=>.bad
theorem yt {pl:Sem Bool} (N:MetD X.prog X.w X.K X.mg X.base T k m j ps ks a b sl dP D) (hr:Room j X.A) (hx:xn (CX1 X.prog X.w) X ES) (ho:QE X T ES o do_) (ha:QA X T ES (e :: es) da) (hkw:QK X T ES kws dk)
  (hall:(backToKw pos (keywordEach kws X.env)).all (·.1.isSome)=true:=by rfl) (hks:(backToKw pos (keywordEach kws X.env)).filterMap (·.1)=ks:=by rfl)
  (he:starEach (e :: es) X.env=(false,eval e X.env) :: starEach es X.env:=by rfl)
  (hpl:((backTo pos (starEach (e :: es) X.env)).any (·.1) || (backToKw pos (keywordEach kws X.env)).any (·.1.isNone))=false:=by rfl)
  (ht:eval (.Call (.Attribute o m apos) (e :: es) kws pos) X.env=(do
   let ov <- eval o X.env
   standAt apos.atName
   let (f,first) <- holding [ov] (getMethod ov m pl)
   callWith pos f first (backTo pos (starEach (e :: es) X.env)) (backToKw pos (keywordEach kws X.env))):=by rfl):QE X T ES (.Call (.Attribute o m apos) (e :: es) kws pos) (yv k m D a b sl dP do_ da dk):=⟨by
 obtain ⟨f,fd,dV,ds,F,hm,c,hb,hdV⟩:=N.ex;rintro pins s σ H Q I ⟨W,ρ,M,kT,hh,hs,q⟩
 refine PySem.W.methodCall_KW (pl:=pl) (thn (ho.h pins s σ H (fun v H1=>∃ W1 M1 x i fs,W1.T=T∧Held W1 M1 H1∧yE W1 ρ σ∧Rep W1 x v∧YA M1 k x=some (i,fs)∧fs.lookup m=none∧yj W1 Rep ((da ρ M1).bind fun xs M1=>(dk ρ M1).bind fun zs M2=>D (yo a b sl dP (x :: xs) zs) M2) Q (ES σ)) I ⟨W,ρ,M,kT,hh,hs,yj.bind q
   fun W1 M1 x v H1 l1 h1 r1 q1=>by
    split at q1
    ·rename_i i fs e1;split at q1
     ·rename_i e2;exact ⟨W1,M1,x,i,fs,l1.k.trans kT,h1,hs.up l1,r1,e1,e2,q1⟩
     ·exact q1.elim
    ·exact q1.elim⟩) fun u s1 hQQ=>?_) ht
 obtain ⟨v,H1,I1,rx,W1,M1,x,i,fs,k1,h1,hs1,r1,e1,e2,q1⟩:=hQQ;obtain ⟨ad,dx,vf,rfl,ha1,hg,h3,rf⟩:=UA h1 r1 e1;obtain rfl:u=Value.ref ad:=rx;rw [k1] at h3;refine YB I1 h3 c hm (rf.none e2) ?_
 refine PySem.W.callWith_KW (first:=[.ref ad]) (h₀:=X.base) I.ok.mod.kin hm.kp hall (thn (ha.h pos pins s1 σ H1 (fun vs H2=>∃ W2 M2 xs,W2.T=T∧Held W2 M2 H2∧yE W2 ρ σ∧Rep W2 x (.ref ad)∧yc W2 xs vs∧yj W2 Rep ((dk ρ M2).bind fun zs M3=>D (yo a b sl dP (x :: xs) zs) M3) Q (ES σ)) I1 ⟨W1,ρ,M1,k1,h1,hs1,yj.bind q1
   fun W2 M2 xs vs H2 l2 h2 r2 q2=>⟨W2,M2,xs,l2.k.trans k1,h2,hs1.up l2,r1.up l2,r2,q2⟩⟩) fun us s2 hQQ=>?_) hpl he
 obtain ⟨vs,H2,I2,r,W2,M2,xs,k2,h2,hs2,rx2,r2,q2⟩:=hQQ;refine thn (hkw.h pos pins s2 σ H2 (fun zs H3=>spD T D (yo a b sl dV (.ref ad :: vs) zs) H3 Q (ES σ)) I2 ⟨W2,ρ,M2,k2,h2,hs2,yj.bind q2 fun W3 M3 zs' zs H3 l3 h3 r3 q3=>⟨W3,_,M3,l3.k.trans k2,h3,xY (hdV W3 (l3.k.trans k2)) (show yc W3 (x :: xs) (.ref ad :: vs) from ⟨_,_,rfl,rx2.up l3,r2.up l3⟩) r3,q3⟩⟩) fun ws s3 hQQ=>?_;obtain ⟨zs,H3,I3,rz,q3⟩:=hQQ;refine ⟨I3.kIn,?_⟩;rw [hks]
 exact jcb (us:=.ref ad :: us) (vs:=.ref ad :: vs) F hr hb hx I3 (.cons rfl r) rz q3⟩
theorem JI {pl:Sem Bool} (N:MetD X.prog X.w X.K X.mg X.base T k m j ps ks a b sl dP D) (hr:Room j X.A) (hx:xn (CX1 X.prog X.w) X ES) (ho:QE X T ES o do_) (hkw:QK X T ES kws dk)
  (hall:(backToKw pos (keywordEach kws X.env)).all (·.1.isSome)=true:=by rfl) (hks:(backToKw pos (keywordEach kws X.env)).filterMap (·.1)=ks:=by rfl)
  (hpl:((backTo pos (starEach [] X.env)).any (·.1) || (backToKw pos (keywordEach kws X.env)).any (·.1.isNone))=false:=by rfl)
  (ht:eval (.Call (.Attribute o m apos) [] kws pos) X.env=(do
   let ov <- eval o X.env
   standAt apos.atName
   let (f,first) <- holding [ov] (getMethod ov m pl)
   callWith pos f first (backTo pos (starEach [] X.env)) (backToKw pos (keywordEach kws X.env))):=by rfl):QE X T ES (.Call (.Attribute o m apos) [] kws pos) (yv k m D a b sl dP do_ yb dk):=⟨by
 obtain ⟨f,fd,dV,ds,F,hm,c,hb,hdV⟩:=N.ex;rintro pins s σ H Q I ⟨W,ρ,M,kT,hh,hs,q⟩
 refine PySem.W.methodCall_KW (pl:=pl) (thn (ho.h pins s σ H (fun v H1=>∃ W1 M1 x i fs,W1.T=T∧Held W1 M1 H1∧yE W1 ρ σ∧Rep W1 x v∧YA M1 k x=some (i,fs)∧fs.lookup m=none∧yj W1 Rep ((dk ρ M1).bind fun zs M2=>D (yo a b sl dP [x] zs) M2) Q (ES σ)) I ⟨W,ρ,M,kT,hh,hs,yj.bind q
   fun W1 M1 x v H1 l1 h1 r1 q1=>by
    split at q1
    ·rename_i i fs e1;split at q1
     ·rename_i e2;exact ⟨W1,M1,x,i,fs,l1.k.trans kT,h1,hs.up l1,r1,e1,e2,q1⟩
     ·exact q1.elim
    ·exact q1.elim⟩) fun u s1 hQQ=>?_) ht
 obtain ⟨v,H1,I1,rx,W1,M1,x,i,fs,k1,h1,hs1,r1,e1,e2,q1⟩:=hQQ;obtain ⟨ad,dx,vf,rfl,ha1,hg,h3,rf⟩:=UA h1 r1 e1;obtain rfl:u=Value.ref ad:=rx;rw [k1] at h3;refine YB I1 h3 c hm (rf.none e2) ?_;refine PySem.W.callWith_KW0 (first:=[.ref ad]) (h₀:=X.base) I.ok.mod.kin hm.kp hall (thn (hkw.h pos pins s1 σ H1 (fun zs H3=>spD T D (yo a b sl dV [.ref ad] zs) H3 Q (ES σ)) I1 ⟨W1,ρ,M1,k1,h1,hs1,yj.bind q1 fun W3 M3 zs' zs H3 l3 h3 r3 q3=>⟨W3,_,M3,l3.k.trans k1,h3,xY (hdV W3 (l3.k.trans k1)) (show yc W3 [x] [.ref ad] from ⟨_,_,rfl,r1.up l3,rfl⟩) r3,q3⟩⟩) fun ws s3 hQQ=>?_) hpl;obtain ⟨zs,H3,I3,rz,q3⟩:=hQQ;refine ⟨I3.kIn,?_⟩;rw [hks]
 exact jcb (us:=[.ref ad]) (vs:=[.ref ad]) F hr hb hx I3 (.cons rfl .nil) rz q3⟩
structure NewD (P:Program) (w:World) (K:PySem.W.Frag) (mg:Str->Option Value) (base:Heap) (T:Tb) (k:Nat) (x:Str) (j:Nat) (ps ks:List Str) (a b:Nat) (sl:List Sl) (dP:List PV) (D:List PV->Sto->Res PV):Prop where
 ex:∃ f fd dV ds,FnOk P w K mg base (CX1 P w) j f fd ps (spD T D)∧Mk K (T.C k) f∧mg x=some (.ref (T.C k))∧KBinds K fd ps ks (yo a b sl ds) (yo a b sl dV)∧∀ W:Wd,W.T=T->yc W dP dV
def made (k:Nat) (D:List PV->Sto->Res PV) (vs:PV->List PV) (M:Sto):Res PV:=match D (vs (.ref M.n)) (M.new (.ins k [])) with
 | .ok .non M3=>.ok (.ref M.n) M3
 | .ok _ _=>.bad
 | .exc c M3=>.exc c M3
 | .bad=>.bad
def jbF (k:Nat) (D:List PV->Sto->Res PV) (a b:Nat) (sl:List Sl) (dP:List PV) (da dk:DA):DE:=fun ρ M=>(da ρ M).bind fun xs M1=>(dk ρ M1).bind fun zs M2=>made k D (fun x=>yo a b sl dP (x :: xs) zs) M2
theorem jbf {f C:Addr} {fd:FuncData} {dV:List V} {ds:List Value} {pins:List (Addr × Obj)} {σ:St} {H:Hp} {s:Shared} {Q:VK} {us ws:List Value} {vs zs:List V} {sp:Sp} (M:Mk X.K C f) (F:FnOk X.prog X.w X.K X.mg X.base (CX1 X.prog X.w) j f fd ps sp) (hr:Room (j + 1) X.A) (hb:KBinds X.K fd ps ks (yo a b sl ds) (yo a b sl dV)) (hx:xn (CX1 X.prog X.w) X ES)
  (I:Inv X pins σ H s) (r:yg vs us) (rz:yg zs ws) (h:∀ x dx,H x=none->H dx=none->dx≠x->sp (yo a b sl dV (.ref x :: vs) zs) (L2.upd (L2.upd H dx (.own x)) x (.ins C dx [])) (fun v H2=>v = .non∧Q (.ref x) H2) (ES σ)) :
  wpAny (model X.prog X.w) X.A (call (.ref C) us (ks.zip ws)) (EP X pins σ Q) X.xe s:=by
 have hq:=h (s.heap.objs.size + 1) s.heap.objs.size (I.hok.fresh (Nat.le_succ _)) (I.hok.fresh (Nat.le_refl _)) (Nat.ne_of_lt (Nat.lt_succ_self _));have I2:=Inv.made (C:=C) I;have r2:=hb.rel (vs:=V.ref (s.heap.objs.size + 1) :: vs) (us:=Value.ref (s.heap.objs.size + 1) :: us) (.cons rfl r) rz
 have hl:(yo a b sl ds (Value.ref (s.heap.objs.size + 1) :: us) ws).length=ps.length:=by
  rw [<- r2.length];exact F.len _ _ _ _ hq
 refine wpAny_call (jfm (f:=f) I.kIn M.makes M.init (beq_iff_eq.mp M.fn) (codeAny_mono (F.run _ X.stack _ _ ⟨Value.ref (s.heap.objs.size + 1) :: us,ks.zip ws⟩ _ _ _ (ES σ) (hr.make C us (ks.zip ws)) (I2.env0.make C us (ks.zip ws)) (hb.to _ (Value.ref (s.heap.objs.size + 1) :: us) ws I2.kIn hl) r2 hq) fun r s' hq'=>?_))
 match r,hq' with
 | .error e,hq'=>exact hx pins σ _ _ e s' I2 hq'
 | .ok (.ret u),hq' =>
  obtain ⟨v,H',I3,rv,ev,q3⟩:=I2.after hq';subst ev;exact ⟨rv,⟨V.ref (s.heap.objs.size + 1),H',I3,rfl,q3⟩⟩
theorem jdq {W:Wd} {M:Sto} {H:Hp} {Q:VK} {E:XK} {xs zs:List PV} {vs us:List V} {dV:List V} (kT:W.T=T) (hh:Held W M H) (hd:∀ W:Wd,W.T=T->yc W dP dV) (rx:yc W xs vs) (rz:yc W zs us) (q:yj W Rep (made k D (fun x=>yo a b sl dP (x :: xs) zs) M) Q E) :
  ∀ x dx,H x=none->H dx=none->dx≠x->spD T D (yo a b sl dV (.ref x :: vs) us) (L2.upd (L2.upd H dx (.own x)) x (.ins (T.C k) dx [])) (fun v H2=>v = .non∧Q (.ref x) H2) E:=by
 intro x dx hx hdx hne;obtain ⟨l1,h1,f1⟩:=hh.frz (l:=dx) (o:=.own x) hdx
 have e2:L2.upd H dx (.own x) x=none:=by rw [jk (fun z=>hne z.symm)]; exact hx
 obtain ⟨l2,h2,a2⟩:=h1.put (l:=x) (o:=.ins (T.C k) dx []) (c:=.ins k []) e2 ⟨dx,[],by rw [l1.k,kT],rfl⟩;have l12:=l1.trans l2;refine ⟨_,yo a b sl dP (.ref M.n :: xs) zs,M.new (.ins k []),l12.k.trans kT,h2,xY (hd _ (l12.k.trans kT)) ⟨_,_,rfl,⟨x,rfl,a2⟩,rx.up l12⟩ (rz.up l12),?_⟩;unfold made at q
 cases e:D (yo a b sl dP (.ref M.n :: xs) zs) (M.new (.ins k [])) with
 | ok v M3 =>
  simp only [e] at q
  cases v with
  | non=>exact fun W3 H3 u l3 h3 r3=>⟨r3,q W3 H3 (.ref x) (l12.trans l3) h3 ⟨x,rfl,l3.a _ _ a2⟩⟩
  | _=>exact q.elim
 | exc c M3 =>
  simp only [e] at q;intro W3 H3 l3 h3
  have:=q W3 H3 (l12.trans l3) h3
  rw [<- l12.k] at this;exact this
 | bad =>
  simp only [e] at q;exact q.elim
theorem jbh (N:NewD X.prog X.w X.K X.mg X.base T k x j ps ks a b sl dP D) (hr:Room (j + 1) X.A) (hg:Gl X x) (hx:xn (CX1 X.prog X.w) X ES) (ha:QA X T ES (e :: es) da) (hkw:QK X T ES kws dk)
  (hall:(backToKw pos (keywordEach kws X.env)).all (·.1.isSome)=true:=by rfl) (hks:(backToKw pos (keywordEach kws X.env)).filterMap (·.1)=ks:=by rfl)
  (hdb:(x == ("__debug__":Str))=false:=by decide) (he:starEach (e :: es) X.env=(false,eval e X.env) :: starEach es X.env:=by rfl)
  (hpl:((backTo pos (starEach (e :: es) X.env)).any (·.1) || (backToKw pos (keywordEach kws X.env)).any (·.1.isNone))=false:=by rfl):QE X T ES (.Call (.Name x p) (e :: es) kws pos) (jbF k D a b sl dP da dk):=⟨by
 obtain ⟨f,fd,dV,ds,F,mk,hm,hb,hdV⟩:=N.ex;rintro pins s σ H Q I ⟨W,ρ,M,kT,hh,hs,q⟩;refine wpAny_Call_Name_kw (JO I hg hm ?_ hdb)
 refine PySem.W.callWith_KW (h₀:=X.base) I.ok.mod.kin mk.kp hall (thn (ha.h pos pins s σ H (fun vs H1=>∃ W1 M1 xs,W1.T=T∧Held W1 M1 H1∧yE W1 ρ σ∧yc W1 xs vs∧yj W1 Rep ((dk ρ M1).bind fun zs M2=>made k D (fun x=>yo a b sl dP (x :: xs) zs) M2) Q (ES σ)) I ⟨W,ρ,M,kT,hh,hs,yj.bind q
   fun W1 M1 xs vs H1 l1 h1 r1 q1=>⟨W1,M1,xs,l1.k.trans kT,h1,hs.up l1,r1,q1⟩⟩) fun us s1 hQQ=>?_) hpl he
 obtain ⟨vs,H1,I1,r,W1,M1,xs,k1,h1,hs1,r1,q1⟩:=hQQ;refine thn (hkw.h pos pins s1 σ H1 (fun zs H2=>∀ x dx,H2 x=none->H2 dx=none->dx≠x->spD T D (yo a b sl dV (.ref x :: vs) zs) (L2.upd (L2.upd H2 dx (.own x)) x (.ins (T.C k) dx [])) (fun v H2=>v = .non∧Q (.ref x) H2) (ES σ)) I1 ⟨W1,ρ,M1,k1,h1,hs1,yj.bind q1 fun W2 M2 zs' zs H2 l2 h2 r2 q2=>jdq (l2.k.trans k1) h2 hdV (r1.up l2) r2 q2⟩) fun ws s2 hQQ=>?_;obtain ⟨zs,H2,I2,rz,q2⟩:=hQQ;refine ⟨I2.kIn,?_⟩;rw [hks]
 exact jbf mk F hr hb hx I2 r rz q2⟩
end
end L3

namespace L3
open PySem L2
end L3

namespace L3
open PySem L2
open PyProof.Rows (tail_any)
def jiu:List DictEntry->List (Int × Int)->Bool
 | [],[]=>true
 | e :: es,p :: kvs=>Value.isInt p.1 e.key && (e.hash == hashInt p.1) && Value.isInt p.2 e.val && jiu es kvs
 | _,_=>false
structure TabI (K:PySem.W.Frag) (mg:Str->Option Value) (x:Str) (kvs:List (Int × Int)):Prop where
 ex:∃ a es ep,mg x=some (.ref a)∧K.lookup a=some ⟨.type "dict",none,.dict es ep,#[]⟩∧jiu es.toList kvs=true
section
variable {X:Cx} {T:Tb} {ES:St->XK} {e:Expr} {x:Str} {k:Nat} {pos p:Pos} {d:DE} {kvs:List (Int × Int)}
end
end L3

namespace L3
open PySem L2
structure NoKit (K:PySem.W.Frag) (C:Addr):Prop where
 h:∀ n ∈ yT,PySem.W.kitOne K (.type n) (.ref C)=some false
section
variable {X:Cx} {T:Tb}
end
end L3

namespace L3
open PySem L2
def UP (xs ys:List PV):List PV:=List.zipWith (fun x y=>PV.tup [x,y]) xs ys
theorem jdV {xs ys:List PV} {i:Nat} {z:PV} (h:(UP xs ys)[i]? = some z):∃ x y,xs[i]? = some x∧ys[i]? = some y∧z = .tup [x,y]:=by
 unfold UP at h;rw [List.getElem?_zipWith] at h
 cases e1:xs[i]? with
 | none=>rw [e1] at h; cases h
 | some x =>
  cases e2:ys[i]? with
  | none=>rw [e1,e2] at h; cases h
  | some y =>
   rw [e1,e2] at h;cases h;exact ⟨x,y,rfl,rfl,rfl⟩
theorem jcV {xs ys:List PV} {i:Nat} (h:(UP xs ys)[i]? = none):xs.length<=i∨ys.length<=i:=by
 unfold UP at h;rw [List.getElem?_eq_none_iff,List.length_zipWith] at h;omega
def jic (ds:DA):En->Sto->Res ItP:=fun ρ M=>(ds ρ M).bind fun xs M1=>match xs with
 | [.lst xs,.lst ys]=>.ok (.fix (UP xs ys)) M1
 | [.tup [],.tup _]=>.ok (.fix []) M1
 | _=>.bad
section
variable {X:Cx} {T:Tb} {ES:St->XK} {p pos:Pos} {ds:DA}
theorem qi_zip {l m:Expr} {elts:List Expr} {x1:Nat} {tpos:Pos} (hT:T.K=X.K) (hg:Gl X "zip") (hm:X.mg "zip" = none) (ha:QA X T ES [l,m] ds) (hs:starEach [l,m] X.env=(false,eval l X.env) :: starEach [m] X.env:=by rfl) (hs2:starEach [m] X.env=[(false,eval m X.env)]:=by rfl) :
  QI X T ES (.Tuple elts x1 tpos) (.Call (.Name "zip" p) [l,m] [] pos) (jic ds) :=
 ⟨jbm (pi_zip hg hm ha.h hs hs2) fun σ H R hQQ=>jC hQQ fun W ρ M k hh hs q=>⟨W,ρ,M,k,hh,hs,yj.bind q fun W1 M1 xs vs H1 l1 h1 r1 p1=>by
  split at p1
  ·rename_i xs ys;obtain ⟨u,v,rfl,ru,rv⟩:=uH r1;obtain ⟨a,us,rfl,ha,ra⟩:=ru;obtain ⟨b,ws,rfl,hb,rb⟩:=rv;refine ⟨a,b,rfl,.inl ⟨⟨us,SqL.of (h1.f _ _ ha)⟩,⟨ws,SqL.of (h1.f _ _ hb)⟩,p1 W1 H1 _ (.refl W1) h1 fun W' M' H' le hh' i=>?_⟩⟩;have qa:H' a=some (.lst us):=hh'.f _ _ (le.f _ _ ha);have qb:H' b=some (.lst ws):=hh'.f _ _ (le.f _ _ hb);refine ⟨fun z e=>?_,fun e=>?_⟩
   ·have e:(UP xs ys)[i]? = some z:=Option.some.inj e;obtain ⟨x,y,ex,ey,rfl⟩:=jdV e;obtain ⟨u,eu,ru⟩:=ra.get ex;obtain ⟨v,ev,rv⟩:=rb.get ey;refine ⟨⟨us,ws,u,v,SqL.of qa,SqL.of qb,eu,ev⟩,fun t H'' hQQ=>?_⟩;obtain ⟨c,u',v',et,hc,hu,hv,eH⟩:=hQQ;subst et;subst eH;have hu:=hu us (SqL.of qa);have hv:=hv ws (SqL.of qb);rw [eu] at hu;rw [ev] at hv;cases hu;cases hv;exact JM (xs:=[x,y]) hh' (show yc W' _ [u,v] from ⟨_,_,rfl,ru.up0 le,_,_,rfl,rv.up0 le,rfl⟩) hc
   ·have e:(UP xs ys)[i]? = none:=Option.some.inj e;exact ⟨us,ws,SqL.of qa,SqL.of qb,by rw [ra.length,rb.length]; exact jcV e⟩
  ·rename_i ys;obtain ⟨u,v,rfl,ru,rv⟩:=uH r1;obtain ⟨a,us,rfl,ha,ra⟩:=ru;obtain ⟨b,ws,rfl,hb,rb⟩:=rv;cases ra
   have kk:W1.T.K=X.K:=by rw [l1.k,k]; exact hT
   refine ⟨a,b,rfl,.inr ⟨kk ▸ Ue h1.f ha,⟨ws,kk ▸ Ue h1.f hb⟩,p1 W1 H1 _ (.refl W1) h1 fun W' M' H' le hh' i=>?_⟩⟩;refine ⟨fun z e=>?_,fun e=>?_⟩
   ·have e:([]:List PV)[i]? = some z:=Option.some.inj e;simp at e
   ·have:SqT X.K H' a []:=kk ▸ Ue (fun b o q=>hh'.f b o (le.f b o q)) ha
    exact this
  ·exact p1.elim⟩⟩
end
structure ClsD (P:Program) (w:World) (K:PySem.W.Frag) (mg:Str->Option Value) (base:Heap) (T:Tb) (k:Nat) (x m:Str) (j:Nat) (ps ks:List Str) (a b:Nat) (sl:List Sl) (dP:List PV) (D:List PV->Sto->Res PV):Prop where
 ex:∃ f fd dV ds,FnOk P w K mg base (CX1 P w) j f fd ps (spD T D)∧mg x=some (.ref (T.C k))∧PySem.W.readsIn K (T.C k) (.type "type")=true∧PySem.W.findCls K (.ref (T.C k)) (.type "type") m=some (.val (.ref f)) ∧
  PySem.W.specialIn K (.ref (T.C k)) "__getattribute__" = some (some (.builtin "type.__getattribute__"))∧PySem.W.keepIn K (.ref f)=true∧KBinds K fd ps ks (yo a b sl ds) (yo a b sl dV)∧∀ W:Wd,W.T=T->yc W dP dV
section
variable {X:Cx} {T:Tb} {ES:St->XK} {x m:Str} {k j:Nat} {ps ks:List Str} {a b:Nat} {sl:List Sl} {dP:List PV} {D:List PV->Sto->Res PV} {p apos pos:Pos} {e:Expr} {es:List Expr} {kws:List Keyword} {da dk:DA}
theorem jhe {pl:Sem Bool} (N:ClsD X.prog X.w X.K X.mg X.base T k x m j ps ks a b sl dP D) (hr:Room j X.A) (hg:Gl X x) (hx:xn (CX1 X.prog X.w) X ES) (ha:QA X T ES (e :: es) da) (hkw:QK X T ES kws dk)
  (hall:(backToKw pos (keywordEach kws X.env)).all (·.1.isSome)=true:=by rfl) (hks:(backToKw pos (keywordEach kws X.env)).filterMap (·.1)=ks:=by rfl)
  (hdb:(x == ("__debug__":Str))=false:=by decide) (he:starEach (e :: es) X.env=(false,eval e X.env) :: starEach es X.env:=by rfl)
  (hpl:((backTo pos (starEach (e :: es) X.env)).any (·.1) || (backToKw pos (keywordEach kws X.env)).any (·.1.isNone))=false:=by rfl)
  (ht:eval (.Call (.Attribute (.Name x p) m apos) (e :: es) kws pos) X.env=(do
   let ov <- eval (.Name x p) X.env
   standAt apos.atName
   let (f,first) <- holding [ov] (getMethod ov m pl)
   callWith pos f first (backTo pos (starEach (e :: es) X.env)) (backToKw pos (keywordEach kws X.env))):=by rfl):QE X T ES (.Call (.Attribute (.Name x p) m apos) (e :: es) kws pos) (jo D a b sl dP da dk):=⟨by
 obtain ⟨f,fd,dV,ds,F,hm,hrd,hfc,hsp,hk,hb,hdV⟩:=N.ex;rintro pins s0 σ H Q I0 ⟨W,ρ,M,k,hh,hs,q⟩;refine PySem.W.methodCall_KW (pl:=pl) (thn (Uo (v:=.ref (T.C _)) hg hm rfl hdb pins s0 σ H (fun v H1=>v = .ref (T.C _)∧H1=H) I0 ⟨rfl,rfl⟩) fun u s1 hQQ=>?_) ht;obtain ⟨v,H1,I1,rx,rfl,rfl⟩:=hQQ;obtain rfl:u=Value.ref (T.C _):=rx;refine PySem.W.method_cls I1.kIn hsp (PySem.W.cls_value I1.kIn hrd hfc rfl ?_);have I:=I1.tok (s1.toks + 1)
 refine PySem.W.callWith_KW (first:=[]) (h₀:=X.base) I.ok.mod.kin hk hall (thn (ha.h pos pins _ σ H1 _ I ⟨W,ρ,M,k,hh,hs,yj.bind (Q1:=fun vs H1=>∃ W1 M1 xs,W1.T=T∧Held W1 M1 H1∧yE W1 ρ σ∧yc W1 xs vs∧yj W1 Rep ((dk ρ M1).bind fun zs M2=>D (yo a b sl dP xs zs) M2) Q (ES σ)) q
   fun W1 M1 xs vs H1 l1 h1 r1 q1=>⟨W1,M1,xs,l1.k.trans k,h1,hs.up l1,r1,q1⟩⟩) fun us s1 hQQ=>?_) hpl he
 obtain ⟨vs,H1,I1,r,W1,M1,xs,k1,h1,hs1,r1,q1⟩:=hQQ;refine thn (hkw.h pos pins s1 σ H1 (fun zs H2=>spD T D (yo a b sl dV vs zs) H2 Q (ES σ)) I1 ⟨W1,ρ,M1,k1,h1,hs1,yj.bind q1 fun W2 M2 zs' zs H2 l2 h2 r2 q2=>⟨W2,_,M2,l2.k.trans k1,h2,xY (hdV W2 (l2.k.trans k1)) (r1.up l2) r2,q2⟩⟩) fun ws s2 hQQ=>?_;obtain ⟨zs,H2,I2,rz,q2⟩:=hQQ;refine ⟨I2.kIn,?_⟩;rw [hks]
 exact jcb F hr hb hx I2 r rz q2⟩
end
def tabS (w:World):List DictEntry->List (Str × Int)->Prop
 | [],[]=>True
 | e :: es,p :: kvs=>Value.isStrOf p.1 e.key=true∧e.hash=hashStr w p.1∧Value.isInt p.2 e.val=true∧tabS w es kvs
 | _,_=>False
structure TabS (w:World) (K:PySem.W.Frag) (mg:Str->Option Value) (x:Str) (kvs:List (Str × Int)):Prop where
 ex:∃ a es ep,mg x=some (.ref a)∧K.lookup a=some ⟨.type "dict",none,.dict es ep,#[]⟩∧(a == sysModules)=false∧tabS w es.toList kvs
section
variable {X:Cx} {T:Tb} {ES:St->XK} {e:Expr} {x:Str} {p apos cpos:Pos} {d:DE} {kvs:List (Str × Int)} {te:TE}
end
end L3

namespace L3
open PySem L2
def getL (l:List (List Int × Int)) (k:List Int):Option Int:=(l.find? fun p=>decide (p.1=k)).map (·.2)
def putL (l:List (List Int × Int)) (k:List Int) (v:Int):List (List Int × Int) :=
 if (l.any fun p=>decide (p.1=k))=true then l.map (fun p=>if p.1=k then (p.1,v) else p) else l ++ [(k,v)]
section
variable {X:Cx} {T:Tb} {ES:St->XK} {e o:Expr} {es:List Expr} {pos p2 kp:Pos} {x1:Nat} {d do_ dz:DE} {dk:DA}
theorem hu1 {A:Around} {k:Nat} (hr:Room k A):A.units + 1 < cLine:=by have:=vP hr; omega
end
end L3

namespace L2
open PySem PySem.Spec PyProof.Rows
section
variable {X:Cx} {tg:Expr} {pins:List (Addr × Obj)} {σ:St} {H:Hp} {s:Shared}
end
end L2

namespace L3
open PySem L2
section
variable {X:Cx} {T:Tb} {ES:St->XK} {a b e tg iter:Expr} {es:List Expr} {p pos:Pos} {d:DE} {ds:DA}
end
end L3

namespace L3
open PySem L2
section
variable {X:Cx} {T:Tb} {ES:St->XK} {osc sc:Scope} {own fr:List Str} {js:List Nat} {elt target iter a b:Expr} {ifs:List Expr} {pos:Pos} {di:En->Sto->Res ItP} {g:TG} {bnd:PV->En->Option En} {dt:DT} {de da db:DE}
end
end L3

namespace L2
open PySem PySem.Spec PyProof.Rows
section
variable {prog:Program} {w:World} {A:Around} {E:Value->Shared->Prop} {s:Shared} {xs:List (List Key × Addr × Value)}
end
section
variable {X:Cx}
end
end L2

namespace L3
open PySem L2
section
variable {X:Cx} {T:Tb}
end
end L3

namespace L2
open PySem PySem.Spec PyProof.Rows
section
variable {prog:Program} {w:World} {A:Around} {R:Result->Shared->Prop} {s:Shared}
end
def BodyOk (X:Cx) (elt:Expr) (gens:List Comprehension) (scope:Scope) (pos:Pos) (d:Nat) (acc:Addr) (s:Shared) (Po:Shared->Prop):Prop:=match gens[d + 1]? with
 | none=>wpAny (model X.prog X.w) X.A (eval elt X.env) (fun x s₄=>wpAny (model X.prog X.w) X.A (call (.builtin "list.append") [.ref acc,x]) (fun _ s₅=>Po s₅) (fun _ _=>False) s₄) (fun _ _=>False) s
 | some g=>wpAny (model X.prog X.w) X.A (eval g.iter X.env) (fun x s₃=>wpAny (model X.prog X.w) X.A (pyIter x) (fun it' s₄ =>
   codeAny (model X.prog X.w) X.A (.compStart (.ListComp elt gens scope pos) (d + 1) it' (.ref acc) X.env) (fun r s₅=>match r with
    | .ok _=>Po s₅
    | .error _=>False) s₄) (fun _ _=>False) s₃) (fun _ _=>False) s
structure Plainly (env:Env) (gens:List Comprehension) (d:Nat):Prop where
 h:∀ g,gens[d + 1]? = some g->g.ifs=[]∧g.is_async=0∧∀ x,foldedSetIterable g.iter env x=pure x
abbrev TB:=Addr->St->Hp->(St->Hp->Prop)->Prop
def PMb (X:Cx) (elt:Expr) (gens:List Comprehension) (scope:Scope) (pos:Pos) (d:Nat) (tb:TB):Prop :=
 ∀ (acc:Addr) (pins:List (Addr × Obj)) (s:Shared) (σ:St) (H:Hp) (N:St->Hp->Prop),Inv X pins σ H s->tb acc σ H N->BodyOk X elt gens scope pos d acc s fun s'=>∃ σ' H',Inv X pins σ' H' s'∧N σ' H'
section
variable {X:Cx} {pins:List (Addr × Obj)} {σ:St} {H:Hp} {s:Shared} {osc sc:Scope} {own fr:List Str} {js:List Nat} {fp:List Addr}
end
section
variable {X:Cx} {osc sc:Scope} {own fr:List Str} {js:List Nat} {elt target iter:Expr} {rest:List Comprehension} {pos:Pos} {wi:TI} {g:TG} {tb:TB}
end
end L2

namespace L3
open PySem L2
abbrev EM:=En->Sto->Res (List PV)
def FinM (W:Wd) (acc:Addr) (ρ:En) (vs:List V) (N:St->Hp->Prop) (r:Res (List PV)):Prop:=match r with
 | .ok zs M'=>vs.length + zs.length<=sizeLine∧∀ W' σ' H' ws,W.le0 W'->W'.G=L2.upd W.G acc (.lst (vs ++ ws))->Held W' M' H'->yc W' zs ws->yE W' ρ σ'->N σ' H'
 | _=>False
def lfM (T:Tb) (own d:Nat) (em:EM):TB:=fun acc σ H N=>∃ W ρ M vs,W.T=T∧Held W M H∧yE W ρ σ∧W.G acc=some (.lst vs)∧(∀ j,d < j->j < own->ρ[j]? = some none)∧FinM W acc ρ vs N (em ρ M)
structure QM (X:Cx) (T:Tb) (own:Nat) (elt:Expr) (gens:List Comprehension) (sc:Scope) (pos:Pos) (d:Nat) (em:EM):Prop where
 h:PMb X elt gens sc pos d (lfM T own d em)
section
variable {X:Cx} {T:Tb} {ES:St->XK} {own d:Nat} {elt target iter:Expr} {gens:List Comprehension} {sc:Scope} {pos:Pos} {di:En->Sto->Res ItP} {em:EM} {de:DE}
end
section
variable {X:Cx} {T:Tb} {ES:St->XK} {osc sc:Scope} {own fr:List Str} {js:List Nat} {elt target iter:Expr} {rest:List Comprehension} {pos:Pos} {di:En->Sto->Res ItP} {em:EM}
end
structure CalZ (P:Program) (w:World) (K:PySem.W.Frag) (mg:Str->Option Value) (base:Heap) (T:Tb) (x:Str) (j:Nat) (D:List PV->Sto->Res PV):Prop where
 ex:∃ f fd,FnOk P w K mg base (CX1 P w) j f fd [] (spD T D)∧mg x=some (.ref f)∧PySem.W.keepIn K (.ref f)=true∧∀ s:Shared,K.In s.heap->BindsTo s fd ⟨[],[]⟩ []
end L3

namespace L2
open PySem PySem.Spec PyProof.Rows
section
variable {prog:Program} {w:World} {A:Around} {R:Result->Shared->Prop} {s:Shared}
end
def jis (X:Cx) (kx vx:Expr) (gens:List Comprehension) (scope:Scope) (pos:Pos) (d:Nat) (acc:Addr) (s:Shared) (Po:Shared->Prop):Prop:=match gens[d + 1]? with
 | none=>wpAny (model X.prog X.w) X.A (eval kx X.env) (fun kv s₃=>wpAny (model X.prog X.w) X.A (eval vx X.env) (fun vv s₄=>wpAny (model X.prog X.w) X.A (dictSet acc kv vv) (fun _ s₅=>Po s₅) (fun _ _=>False) s₄) (fun _ _=>False) s₃) (fun _ _=>False) s
 | some g=>wpAny (model X.prog X.w) X.A (eval g.iter X.env) (fun x s₃=>wpAny (model X.prog X.w) X.A (pyIter x) (fun it' s₄ =>
   codeAny (model X.prog X.w) X.A (.compStart (.DictComp kx vx gens scope pos) (d + 1) it' (.ref acc) X.env) (fun r s₅=>match r with
    | .ok _=>Po s₅
    | .error _=>False) s₄) (fun _ _=>False) s₃) (fun _ _=>False) s
def PMbD (X:Cx) (kx vx:Expr) (gens:List Comprehension) (scope:Scope) (pos:Pos) (d:Nat) (tb:TB):Prop :=
 ∀ (acc:Addr) (pins:List (Addr × Obj)) (s:Shared) (σ:St) (H:Hp) (N:St->Hp->Prop),Inv X pins σ H s->tb acc σ H N->jis X kx vx gens scope pos d acc s fun s'=>∃ σ' H',Inv X pins σ' H' s'∧N σ' H'
section
variable {X:Cx} {pins:List (Addr × Obj)} {σ:St} {H:Hp} {s:Shared} {osc sc:Scope} {own fr:List Str} {js:List Nat} {fp:List Addr}
end
section
variable {X:Cx} {osc sc:Scope} {own fr:List Str} {js:List Nat} {kx vx target iter:Expr} {rest:List Comprehension} {pos:Pos} {wi:TI} {g:TG} {tb:TB}
end
section
variable {prog:Program} {w:World} {A:Around} {E:Value->Shared->Prop} {s:Shared} {xs:List (List Key × Addr × Value)}
end
end L2

namespace L3
open PySem L2
abbrev Pr:=List Int × Int
abbrev EMD:=En->Sto->Res (List Pr)
def putAll (l zs:List Pr):List Pr:=zs.foldl (fun l p=>putL l p.1 p.2) l
def FinD (W:Wd) (acc:Addr) (ρ:En) (l:List Pr) (m:Nat) (N:St->Hp->Prop) (r:Res (List Pr)):Prop:=match r with
 | .ok zs M'=>m + zs.length<=sizeLine∧∀ W' σ' H',W.le0 W'->W'.G=L2.upd W.G acc (.dT (jib (putAll l zs)))->Held W' M' H'->yE W' ρ σ'->N σ' H'
 | _=>False
def lfD (T:Tb) (own d:Nat) (em:EMD):TB:=fun acc σ H N=>∃ W ρ M l m,W.T=T∧Held W M H∧yE W ρ σ∧W.G acc=some (.dT (jib l))∧l.length<=m∧(∀ j,d < j->j < own->ρ[j]? = some none)∧FinD W acc ρ l m N (em ρ M)
structure QMD (X:Cx) (T:Tb) (own:Nat) (kx vx:Expr) (gens:List Comprehension) (sc:Scope) (pos:Pos) (d:Nat) (em:EMD):Prop where
 h:PMbD X kx vx gens sc pos d (lfD T own d em)
section
variable {X:Cx} {T:Tb} {ES:St->XK} {own d:Nat} {kx vx target iter:Expr} {gens:List Comprehension} {sc:Scope} {pos:Pos} {di:En->Sto->Res ItP} {em:EMD} {dk:DA} {dv:DE}
end
section
variable {X:Cx} {T:Tb} {ES:St->XK} {osc sc:Scope} {own fr:List Str} {js:List Nat} {kx vx target iter:Expr} {rest:List Comprehension} {pos:Pos} {di:En->Sto->Res ItP} {em:EMD}
end
end L3

namespace L3
open PySem L2
section
variable {X:Cx} {T:Tb} {ES:St->XK} {a:Expr} {es:List Expr} {p pos:Pos} {ds:DA}
end
end L3

namespace L2
open PySem PySem.Spec PyProof.Rows
section
variable {prog:Program} {w:World} {A:Around} {E:Value->Shared->Prop} {s:Shared} {xs:List (List Key × Addr × Value)}
end
section
variable {X:Cx} {pins:List (Addr × Obj)} {σ:St} {H:Hp} {s:Shared} {a b:Addr} {d:V} {r:Value} {A:Around} {E:Value->Shared->Prop} {kvs:List (List Key × V)} {k:List Key}
end
section
variable {X:Cx} {o e f:Expr} {apos cpos:Pos} {td ty tx:TE}
end
end L2

namespace L2
open PySem PySem.Spec PyProof.Rows PySem.W
section
variable {prog:Program} {w:World} {A:Around} {E:Value->Shared->Prop} {s:Shared}
theorem iterK {d:Addr} {od:Obj} {es:Array DictEntry} {ep:Nat} {Q:Value->Shared->Prop} (nd:(d == sysModules)=false) (ho:s.heap.get? d=some od) (hx:od.ExactDict) (hd:od.data = .dict es ep)
  (hQ:Q (.ref s.heap.objs.size) { s with heap:=s.heap.push { cls:=.type "dict_keyiterator",data:=.fields #[.ref d,.int 0 0,.int es.size 0,.int ep 0] } }):wpAny (model prog w) A (pyIter (.ref d)) Q E s:=by
 have hT:s.TypeIs (.ref d) "dict":=⟨od,ho,hx.1⟩
 refine wpAny_pyIter_slot hT PySem.F.slot_dict_iter (wpAny_call_entry PySem.F.slot_dict_iter hT PySem.F.entry_dict_iter ?_ (PySem.F.args_dict_iter_1 _));unfold Builtin.«dict.__iter__»;refine wpAny_bind ?_;unfold Builtin.Dict.dictSlotNone;refine wpAny_bind (wpAny_notOrdered_dict hT ?_);show wpAny _ _ (pure (Value.ref d)) _ _ s;refine wpAny_pure ?_;show wpAny _ _ (Builtin.Dict.showsAll d >>= _) _ _ s;unfold Builtin.Dict.showsAll;rw [if_neg (by rw [nd]; exact Bool.false_ne_true)];refine wpAny_bind (wpAny_pure ?_);refine wpAny_bind (wpAny_dictEntries ho hd ?_);refine wpAny_bind (wpAny_dictEpoch ho hd ?_);refine wpAny_bind (wpAny_newObj_type (wpAny_pure ⟨_,rfl,"dict_keyiterator",_,⟨_,Heap.get?_push_size _ rfl,rfl⟩,PySem.F.slot_dict_keyiterator_next.lookup,?_⟩));simpa [rawInt] using hQ
theorem jbq {it d:Addr} {i ep:Nat} {es:Array DictEntry} {od:Obj} {Q:Option Value->Shared->Prop} (hit:s.heap.IsKeyIter it d i es.size ep) (hod:s.heap.get? d=some od) (hdd:od.data = .dict es ep) (hlt':i < es.size)
  (hQ:∀ h',h'.IsKeyIter it d (i + 1) es.size ep->Heap.SameBut it s.heap h'->Q (some es[i].key) { s with heap:=h' }):wpAny (model prog w) A (pyNext (.ref it)) Q E s:=by
 obtain ⟨o,ho,hc,hd⟩:=id hit;unfold pyNext
 refine wpAny_bind (wpAny_attempt (wpAny_callSpecial?_slot (name:=Str.ofString "__next__") hit.typeIs PySem.F.slot_dict_keyiterator_next
  (wpAny_call_entry PySem.F.slot_dict_keyiterator_next hit.typeIs PySem.F.entry_dict_keyiterator_next ?_ (PySem.F.args_dict_keyiterator_next_1 _))))
 refine wpAny_bind (wpAny_pure ?_);refine wpAny_bind ?_;refine wpAny_bind ?_
 first | refine wpAny_bind (wpAny_typeNameOfWhole_keyiter hit.typeIs (wpAny_pure ?_)) | refine wpAny_bind (wpAny_typeNameOf_keyiter hit.typeIs (wpAny_pure ?_))
 refine wpAny_bind (wpAny_fieldsOf ho hd ?_)
 have hown:Builtin.Dict_items.ownsTuple "dict_keyiterator" = false:=by decide
 simp only [hown,Bool.false_eq_true,if_false];show wpAny _ _ (if (Value.ref d == Value.none)=true then _ else _) _ _ s;rw [if_neg (show ¬ ((Value.ref d == Value.none)=true) from Bool.false_ne_true)];refine wpAny_bind (wpAny_pure ?_);refine wpAny_bind (wpAny_dictEntries hod hdd ?_);rw [if_neg (by simp)];refine wpAny_bind (wpAny_pure ?_);refine wpAny_bind (wpAny_dictEpoch hod hdd ?_);rw [if_neg (by simp)];refine wpAny_pure ?_;simp only [show ¬ ((i:Int) < 0) from by omega,if_false,Int.toNat_natCast,Array.getElem?_eq_getElem hlt'];refine wpAny_bind ?_
 first | refine wpAny_bind (wpAny_typeNameOfWhole_keyiter hit.typeIs (wpAny_pure ?_)) | refine wpAny_bind (wpAny_typeNameOf_keyiter hit.typeIs (wpAny_pure ?_))
 refine wpAny_bind (wpAny_isOneOf_keyiter hit.typeIs ?_);show wpAny _ _ (setField (.ref it) 1 (rawInt ((i:Int) + 1)) >>= _) _ _ s;refine wpAny_bind (wpAny_setField ho hd (by simp) ?_)
 have hit':(s.heap.update it (Obj.mapFields (·.setIfInBounds 1 (rawInt ((i:Int) + 1))))).IsKeyIter it d (i + 1) es.size ep :=
  ⟨_,Heap.get?_update_self _ ho (Obj.isFreed_of_fields (Obj.data_mapFields hd _)),(Obj.cls_mapFields ..).trans hc,by rw [Obj.data_mapFields hd]; simp [rawInt]⟩
 refine wpAny_bind (wpAny_holding ?_);refine wpAny_bind (wpAny_isOneOf_keyiter (s:={ s with heap:=s.heap.update it (Obj.mapFields (·.setIfInBounds 1 (rawInt ((i:Int) + 1)))) }) hit'.typeIs ?_);show wpAny _ _ (pure es[i].key) _ _ _;exact wpAny_pure (wpAny_pure ⟨_,rfl,wpAny_pure (hQ _ hit' (Heap.SameBut.update ..))⟩)
theorem jdn {it d:Addr} {i ep:Nat} {es:Array DictEntry} {od:Obj} {Q:Option Value->Shared->Prop} (hh:A.handled=none) (hit:s.heap.IsKeyIter it d i es.size ep) (hod:s.heap.get? d=some od) (hdd:od.data = .dict es ep) (hge:es.size<=i)
  (hQ:∀ h',Heap.ExtBut it s.heap h'->Q none { s with heap:=h' }):wpAny (model prog w) A (pyNext (.ref it)) Q E s:=by
 obtain ⟨o,ho,hc,hd⟩:=id hit;unfold pyNext
 refine wpAny_bind (wpAny_attempt (wpAny_callSpecial?_slot (name:=Str.ofString "__next__") hit.typeIs PySem.F.slot_dict_keyiterator_next
  (wpAny_call_entry PySem.F.slot_dict_keyiterator_next hit.typeIs PySem.F.entry_dict_keyiterator_next ?_ (PySem.F.args_dict_keyiterator_next_1 _))))
 refine wpAny_bind (wpAny_pure ?_);refine wpAny_bind ?_;refine wpAny_bind ?_
 first | refine wpAny_bind (wpAny_typeNameOfWhole_keyiter hit.typeIs (wpAny_pure ?_)) | refine wpAny_bind (wpAny_typeNameOf_keyiter hit.typeIs (wpAny_pure ?_))
 refine wpAny_bind (wpAny_fieldsOf ho hd ?_)
 have hown:Builtin.Dict_items.ownsTuple "dict_keyiterator" = false:=by decide
 simp only [hown,Bool.false_eq_true,if_false];show wpAny _ _ (if (Value.ref d == Value.none)=true then _ else _) _ _ s;rw [if_neg (show ¬ ((Value.ref d == Value.none)=true) from Bool.false_ne_true)];refine wpAny_bind (wpAny_pure ?_);refine wpAny_bind (wpAny_dictEntries hod hdd ?_);rw [if_neg (by simp)];refine wpAny_bind (wpAny_pure ?_);refine wpAny_bind (wpAny_dictEpoch hod hdd ?_);rw [if_neg (by simp)];refine wpAny_pure ?_;simp only [show ¬ ((i:Int) < 0) from by omega,if_false,Int.toNat_natCast,Array.getElem?_eq_none hge];refine wpAny_bind ?_
 first | refine wpAny_bind (wpAny_typeNameOfWhole_keyiter hit.typeIs (wpAny_pure ?_)) | refine wpAny_bind (wpAny_typeNameOf_keyiter hit.typeIs (wpAny_pure ?_))
 show wpAny _ _ (setField (.ref it) 0 .none >>= _) _ _ s;refine wpAny_bind (wpAny_setField ho hd (by simp) ?_);show wpAny _ _ (newExc (.type "StopIteration") [] >>= _) _ _ _;refine wpAny_bind ?_;simp only [newExc,newTuple];refine wpAny_bind (wpAny_newObj_type ?_ (by size_fits));refine wpAny_bind (m:=firstArgMember _ _) (wpAny_of_eq (a:=Value.none) (by first | rfl | (simp only [firstArgMember]; rfl)) ?_);refine wpAny_newObj_type ?_ (by size_fits);simp only [raiseNew];refine wpAny_bind (wpAny_handled ?_);rw [show A.in1.handled=none from hh];refine wpAny_bind (wpAny_pure (wpAny_throw ?_));refine wpAny_bind (wpAny_isInstance (T:="StopIteration") (b:=true) ⟨_,Heap.get?_push_size _ rfl,rfl⟩ isSubtype_stop ?_);exact wpAny_pure (hQ _ (((Heap.SameBut.update ..).extBut.push _).push _))
end
section
variable {X:Cx}
end
end L2

namespace L3
open PySem L2
section
variable {α κ:Type} [DecidableEq α] [DecidableEq κ]
def yO (l:List (α × PV)) (k:α):Option PV:=(l.find? fun p=>decide (p.1=k)).map (·.2)
def xV (l:List (α × PV)) (k:α) (x:PV):List (α × PV) :=
 if (l.any fun p=>decide (p.1=k))=true then l.map (fun p=>if p.1=k then (p.1,x) else p) else l ++ [(k,x)]
variable {W:Wd} {f:α->κ}
theorem yW.length:∀ {l:List (α × PV)} {vs:List (κ × V)},yW W f l vs->vs.length=l.length
 | [],_,e=>by cases e; rfl
 | _ :: _,_,⟨_,_,e,_,t⟩=>by subst e; rw [List.length_cons,List.length_cons,yW.length t]
theorem yW.any (hf:∀ a b,f a=f b->a=b) (k:α):∀ {l:List (α × PV)} {vs:List (κ × V)},yW W f l vs->(vs.any fun p=>decide (p.1=f k))=l.any fun p=>decide (p.1=k)
 | [],_,e=>by cases e; rfl
 | p :: _,_,⟨_,_,e,_,t⟩=>by
  subst e;rw [List.any_cons,List.any_cons,yW.any hf k t];congr 1;exact decide_eq_decide.mpr ⟨hf _ _,fun z=>by rw [z]⟩
theorem yW.get (hf:∀ a b,f a=f b->a=b) (k:α):∀ {l:List (α × PV)} {vs:List (κ × V)},yW W f l vs->(yO l k=none∧yX vs (f k)=none)∨∃ x v,yO l k=some x∧yX vs (f k)=some v∧Rep W x v
 | [],_,e=>by cases e; exact .inl ⟨rfl,rfl⟩
 | p :: r,_,⟨v,rs,e,rv,t⟩=>by
  subst e;unfold yO;rw [List.find?_cons]
  by_cases h:p.1=k
  ·rw [decide_eq_true h];exact .inr ⟨p.2,v,rfl,uF (by rw [h]),rv⟩
  ·rw [decide_eq_false h];have hv:yX ((f p.1,v) :: rs) (f k)=yX rs (f k):=uG (fun z=>h (hf _ _ z));rw [hv];exact yW.get hf k t
theorem yW.snoc {k:α} {x:PV} {v:V} (rv:Rep W x v):∀ {l:List (α × PV)} {vs:List (κ × V)},yW W f l vs->yW W f (l ++ [(k,x)]) (vs ++ [(f k,v)])
 | [],_,e=>by cases e; exact ⟨v,[],rfl,rv,rfl⟩
 | _ :: _,_,⟨u,rs,e,r,t⟩=>by subst e; exact ⟨u,_,rfl,r,yW.snoc rv t⟩
theorem yW.repl (hf:∀ a b,f a=f b->a=b) {k:α} {x:PV} {v:V} (rv:Rep W x v):∀ {l:List (α × PV)} {vs:List (κ × V)},yW W f l vs->yW W f (l.map fun p=>if p.1=k then (p.1,x) else p) (vs.map fun p=>if p.1=f k then (p.1,v) else p)
 | [],_,e=>by cases e; exact rfl
 | p :: _,_,⟨u,rs,e,r,t⟩=>by
  subst e;rw [List.map_cons,List.map_cons]
  by_cases h:p.1=k
  ·rw [if_pos h,if_pos (by rw [h])];exact ⟨v,_,rfl,rv,yW.repl hf rv t⟩
  ·rw [if_neg h,if_neg (fun z=>h (hf _ _ z))];exact ⟨u,_,rfl,r,yW.repl hf rv t⟩
theorem yW.put (hf:∀ a b,f a=f b->a=b) {k:α} {x:PV} {v:V} {l:List (α × PV)} {vs:List (κ × V)} (r:yW W f l vs) (rv:Rep W x v):yW W f (xV l k x) (xU vs (f k) v):=by
 unfold xV xU;rw [r.any hf k];split
 ·exact r.repl hf rv
 ·exact r.snoc rv
end
theorem xw (a b:Int) (h:JE a=JE b):a=b:=Sum.inl.inj h
def Xe:DE:=fun _ M=>.ok (.ref M.n) (M.new (.dkv []))
def uO (M:Sto) (o k x:PV):Option Sto:=match o,k with
 | .ref i,.int n=>(match M.g i with
  | some (.dkv l)=>if l.length < sizeLine then some (M.set i (.dkv (xV l n x))) else none
  | _=>none)
 | _,_=>none
def Ji (d do_ dk:DE):DS:=fun ρ M=>(d ρ M).st ρ fun x M1=>(do_ ρ M1).st ρ fun o M2=>(dk ρ M2).st ρ fun k M3=>match uO M3 o k x with
 | some M4=>.nx ρ M4
 | none=>.bad
def jaw:Sto->PV->Option PV:=fun M x=>match x with
 | .ref i=>(match M.g i with
  | some (.dkv l)=>some (.int l.length)
  | _=>none)
 | _=>none
section
variable {X:Cx} {T:Tb} {ES:St->XK} {e o f:Expr} {es:List Expr} {pos p2 kp:Pos} {x1:Nat} {d do_ dz dk1:DE} {dk:DA}
theorem Uj:QE X T ES (.Dict [] [] pos) Xe:=⟨jN jeW fun σ H Q hQQ=>jC hQQ fun W ρ M k hh hs q=>fun p hp=>by
 obtain ⟨le,h1,h2⟩:=hh.put (l:=p) (o:=.dK []) (c:=.dkv []) hp ⟨[],rfl,rfl⟩
 exact q _ _ _ le h1 ⟨p,rfl,h2⟩⟩
theorem UX (hu:X.A.units + 1 < cLine) (he:QE X T ES e d) (ho:QE X T ES o do_) (hk:QE X T ES f dk1) (hw:swapsWith e (some (.Subscript o f p2)) pos.line X.env=pure false:=by rfl) :
  QS X T ES (.Assign [.Subscript o f p2] e pos) (Ji d do_ dk1) :=
 ⟨xi (jck hu ho.h hk.h he.h hw) fun D σ H hQQ=>yN hQQ fun W ρ M k hh hs q=>⟨W,ρ,M,k,hh,hs,yy.bind hs q fun W1 M1 x v H1 l1 h1 r1 q1=>by
  have hs1:=hs.up l1;refine ⟨W1,ρ,M1,l1.k.trans k,h1,hs1,yy.bind hs1 q1 fun W2 M2 o' ov H2 l2 h2 r2 q2=>?_⟩;have hs2:=hs1.up l2;refine ⟨W2,ρ,M2,l2.k.trans (l1.k.trans k),h2,hs2,yy.bind hs2 q2 fun W3 M3 kk kv H3 l3 h3 r3 q3=>?_⟩;split at q3
  rotate_left
  ·exact q3.elim
  rename_i M4 e4;unfold uO at e4;split at e4
  rotate_left
  ·cases e4
  rename_i i n;split at e4
  rotate_left
  ·cases e4
  rename_i l e5;split at e4
  rotate_left
  ·cases e4
  rename_i hc;cases e4;cases (show kv = .int n from r3);obtain ⟨a,rfl,ea⟩:=r2.up l3;obtain ⟨b,ob,g1,g2,g3,vs,rfl,ra⟩:=h3.m i _ e5;rw [ea] at g1;cases g1;refine ⟨a,_,rfl,jaV.k (k:=JE n) (kvs:=vs) g3 (by rw [ra.length]; exact hc),?_⟩
  exact q3 _ σ _ (.refl W3) (h3.upd e5 ea (c':=.dkv (xV l n x)) (o:=.dK (xU vs (JE n) v)) ⟨_,rfl,ra.put xw ((r1.up l2).up l3)⟩) (hs2.up l3)⟩⟩
theorem jdO:yU X (.builtin "len") (fun xs H Q=>∃ p kvs,xs=[.ref p]∧Rd H p (.dK kvs)∧Q (.int kvs.length) H):=by
 intro pins s σ H xs us Q I r h;obtain ⟨p,kvs,rfl,hp,q⟩:=h;obtain ⟨u,rfl,rx⟩:=Xi r;cases rx
 exact d_len I hp fun t s' I'=>⟨.int kvs.length,H,I',⟨t,rfl⟩,q⟩
theorem b_lenK:yU X (.builtin "len") (rC T (one jaw)):=ue jdO fun W M H x v z Q k hh r e q=>by
 unfold jaw at e;split at e
 rotate_left
 ·cases e
 rename_i i;split at e
 rotate_left
 ·cases e
 rename_i l e5;cases e;obtain ⟨a,rfl,ea⟩:=r;obtain ⟨b,ob,g1,g2,g3,vs,rfl,ra⟩:=hh.m i _ e5;rw [ea] at g1;cases g1;exact ⟨a,vs,rfl,.inl g3,q W H _ (.refl W) hh (by rw [ra.length]; rfl)⟩
end
end L3

namespace L2
open PySem PySem.Spec PyProof.Rows PySem.W
section
variable {X:Cx} {pins:List (Addr × Obj)} {σ:St} {H:Hp} {s:Shared} {a:Addr} {o:Obj} {kvs:List (List Key × V)}
end
section
variable {X:Cx} {tg l e:Expr} {te:TE}
end
end L2

namespace L3
open PySem L2
section
variable {X:Cx} {T:Tb} {ES:St->XK} {osc sc:Scope} {own fr:List Str} {js:List Nat} {elt target iter:Expr} {ifs:List Expr} {pos:Pos} {d:DE} {g:TG} {bnd:PV->En->Option En} {dt:DT} {de:DE}
end
end L3

namespace L2
open PySem PySem.Spec PyProof.Rows PySem.W
def jai (ns:List Int):Nat:=(firstMet (fun i=>ns.getD i 0) ns.length).length
section
variable {X:Cx}
theorem jdM (hc:X.calm=true):yU X (.type "set") (fun xs H Q=>∃ (p:Addr) (ns:List Int),xs=[.ref p]∧SqL X.K H p (ns.map V.int)∧ns.length + 1 < scanBound∧∀ (l:Addr) (S:Int->Bool),H l=none->Q (.ref l) (upd H l (.set S (jai ns)))):=by
 intro pins s σ H xs us Q I r h;obtain ⟨p,ns,rfl,hq,hb,q⟩:=h;obtain ⟨u,rfl,rx⟩:=Xi r;cases rx;obtain ⟨its,r',pl,hz⟩:=I.list hq;have hI:=Uy r';have hlen:=r'.length;rw [List.length_map] at hlen
 have e1:its.toArray.size=ns.length:=by rw [List.size_toArray]; omega
 refine PySem.call_set_list (ns:=ns) (I.ok.hd hc) pl.isList hI (by rw [e1]; exact hb) fun h' tk hS hk=>?_;rw [e1] at hS;exact ⟨.ref s.heap.objs.size,_,I.laid (a:=s.heap.objs.size) (o:=.set _ (jai ns)) (t':=tk) (fun b o z=>hk b o (Heap.lt_size z) z) (Nat.le_refl _) hS,rfl,q _ _ (I.hok.fresh (Nat.le_refl _))⟩
theorem jdN:yU X (.builtin "len") (fun xs H Q=>∃ (p:Addr) (S:Int->Bool) (n:Nat),xs=[.ref p]∧H p=some (.set S n)∧Q (.int n) H):=by
 intro pins s σ H xs us Q I r h;obtain ⟨p,S,n,rfl,hp,q⟩:=h;obtain ⟨u,rfl,rx⟩:=Xi r;cases rx
 obtain ⟨o,es,ep,t,ho,hx,hd,_,_,hb,hf,hn⟩:=(show yr X.prog X.w H s.heap p (.set S n) from I.hok p _ hp)
 refine call_len_set ho hx hd hf (by unfold scanBound at hb; omega) ?_;exact ⟨.int n,H,I.kept (t':=s.toks + 1 + 1) fun _ _ e=>e,⟨_,by rw [hn]⟩,q⟩
end
end L2

namespace L3
open PySem L2
def jcD (d:DE):DE:=fun ρ M=>(d ρ M).bind fun x M1=>match jam M1 x with
 | some ns=>if ns.length + 1 < scanBound then .ok (.int (jai ns)) M1 else .bad
 | none=>.bad
section
variable {X:Cx} {T:Tb} {ES:St->XK} {e:Expr} {p p2 pos pos2:Pos} {d:DE}
theorem jha (hT:T.K=X.K) (hc:X.calm=true) (hg:Gl X "len") (hm:X.mg "len" = none) (hv:bootBuiltins "len" = some (.builtin "len")) (hg2:Gl X "set") (hm2:X.mg "set" = none) (hv2:bootBuiltins "set" = some (.type "set")) (he:QE X T ES e d)
  (hs1:starEach [e] X.env=[(false,eval e X.env)]:=by rfl) (hs2:starEach [.Call (.Name "set" p2) [e] [] pos2] X.env=[(false,eval (.Call (.Name "set" p2) [e] [] pos2) X.env)]:=by rfl) :
  QE X T ES (.Call (.Name "len" p) [.Call (.Name "set" p2) [e] [] pos2] [] pos) (jcD d) :=
 ⟨jN (jab jdN hg hm hv (Up (Vd (jdM hc) hg2 hm2 hv2 (Up he.h jbn (by rw [hs1]; rfl)) (by decide) (by decide) (by rw [hs1]; rfl) (by rfl)) jbn (by rw [hs2]; rfl)) (by decide) (by decide) (by rw [hs2]; rfl) (by rfl)) fun σ H Q hQQ=>jC hQQ fun W ρ M k hh hs q=>⟨W,ρ,M,k,hh,hs,yj.bind q fun W1 M1 x v H1 l1 h1 r1 q1=>by
  split at q1
  rotate_left
  ·exact q1.elim
  rename_i ns e1;split at q1
  rotate_left
  ·exact q1.elim
  rename_i hz;obtain ⟨a,rfl,ha⟩:=jhS h1 r1 e1;refine ⟨a,ns,rfl,SqL.of ha,hz,fun l S hl=>⟨l,S,_,rfl,jr,?_⟩⟩;obtain ⟨l4,h4,f4⟩:=h1.frz (o:=.set S (jai ns)) hl
  exact q1 _ _ _ l4 h4 rfl⟩⟩
end
end L3

namespace L3
open PySem L2
def UC (do_ dk:DE):DE:=fun ρ M=>(do_ ρ M).bind fun o M1=>match o with
 | .ref i=>(match M1.g i with
  | some (.dkv _)=>(dk ρ M1).bind fun k M2=>(match k,M2.g i with
   | .int n,some (.dkv l)=>.ok ((yO l n).getD .non) M2
   | _,_=>.bad)
  | _=>.bad)
 | _=>.bad
def Xb (neg:Bool):G2:=fun M k o=>match k,o with
 | .int n,.ref i=>(match M.g i with
  | some (.dkv l)=>some (.bl (if neg then !(yO l n).isSome else (yO l n).isSome))
  | _=>none)
 | _,_=>none
section
variable {X:Cx} {T:Tb} {ES:St->XK} {e o:Expr} {es:List Expr} {pos p2 kp:Pos} {x1:Nat} {d do_ dz dk1:DE} {dk:DA}
theorem jdg {apos cpos:Pos} (hu:X.A.units + 1 < cLine) (ho:QE X T ES o do_) (hk:QE X T ES e dk1) (m:M1 X o "get" apos e cpos):QE X T ES (.Call (.Attribute o "get" apos) [e] [] cpos) (UC do_ dk1) :=
 ⟨jN (jeX hu ho.h hk.h m) fun σ H Q hQQ=>jC hQQ fun W ρ M k hh hs q=>⟨W,ρ,M,k,hh,hs,yj.bind q fun W1 M1 x v H1 l1 h1 r1 q1=>by
  split at q1
  rotate_left
  ·exact q1.elim
  rename_i i;split at q1
  rotate_left
  ·exact q1.elim
  rename_i l0 e0;obtain ⟨a,rfl,ea⟩:=r1;obtain ⟨b,ob,g1,g2,g3,vs0,rfl,ra0⟩:=h1.m i _ e0;rw [ea] at g1;cases g1;refine ⟨a,rfl,.inl ⟨vs0,.inl g3⟩,W1,ρ,M1,l1.k.trans k,h1,hs.up l1,yj.bind q1 fun W2 M2 kk kv H2 l2 h2 r2 q2=>?_⟩;split at q2
  rotate_left
  ·exact q2.elim
  rename_i n l e5;cases (show kv = .int n from r2);have ea3:W2.α i=some a:=l2.a _ _ ea;obtain ⟨b,ob,g1,g2',g3',vs,rfl,ra⟩:=h2.m i _ e5;rw [ea3] at g1;cases g1;refine ⟨_,vX.k (k:=JE n) g3',?_⟩
  rcases ra.get xw n with ⟨a1,a2⟩ | ⟨x,v',a1,a2,rv⟩
  ·rw [a2];rw [a1] at q2;exact q2 _ _ _ (.refl W2) h2 rfl
  ·rw [a2];rw [a1] at q2
   exact q2 _ _ _ (.refl W2) h2 rv⟩⟩
theorem jdy {neg:Bool} {σ:St} {H:Hp} {Q:VK} (h:lft T Rep ES (dOp (Xb neg) dk1 do_) σ H Q) :
  lft T Rep ES dk1 σ H fun y H1=>lft T Rep ES do_ σ H1 fun x H2=>∃ a r,x = .ref a∧vX H2 a y r∧Q (.bl (if neg then !r.isSome else r.isSome)) H2:=by
 refine jC h fun W ρ M k hh hs q=>⟨W,ρ,M,k,hh,hs,yj.bind q fun W1 M1 kk kv H1 l1 h1 r1 q1=>⟨W1,ρ,M1,l1.k.trans k,h1,hs.up l1,yj.bind q1 fun W2 M2 o' ov H2 l2 h2 r2 q2=>?_⟩⟩
 unfold Xb at q2;split at q2
 rotate_left
 ·exact q2.elim
 rename_i n i
 cases e5:M2.g i with
 | none=>rw [e5] at q2; exact q2.elim
 | some c =>
  rw [e5] at q2
  cases c with
  | dkv l =>
   cases (show kv = .int n from r1);obtain ⟨a,rfl,ea⟩:=r2;obtain ⟨b,ob,g1,g2,g3,vs,rfl,ra⟩:=h2.m i _ e5;rw [ea] at g1;cases g1;refine ⟨a,_,rfl,vX.k (k:=JE n) g3,?_⟩
   have hv:(yX vs (JE n)).isSome=(yO l n).isSome:=by
    rcases ra.get xw n with ⟨a1,a2⟩ | ⟨x,v,a1,a2,_⟩
    ·rw [a1,a2]; rfl
    ·rw [a1,a2]; rfl
   rw [hv];exact q2 W2 H2 _ (.refl W2) h2 rfl
  | _=>exact q2.elim
theorem jce (hu:X.A.units + 1 < cLine) (hk:QE X T ES e dk1) (ho:QE X T ES o do_) (hm:behindInMarks .In o=false):QT X T ES (.Compare e [.In] [o] pos) (yd (dOp (Xb false) dk1 do_)) :=
 ⟨Uk (pt_cmp (jeZ hu hk.h ho.h) hm) fun σ H Q hQQ=>jC hQQ fun W ρ M k hh hs p=>show tDIn _ _ σ H (fun v H'=>∃ b,v=V.bl b∧Q b H') from jdy (Q:=fun v H'=>∃ b,v=V.bl b∧Q b H') (neg:=false) (dk1:=dk1) (do_:=do_) (T:=T) (ES:=ES) ⟨W,ρ,M,k,hh,hs,yj.bind (R1:=Rep) p fun W1 M1 x v H1 l1 h1 r1 p1=>by
  cases x with
  | bl b=>exact ⟨b,r1,p1 W1 H1 b (.refl W1) h1 rfl⟩
  | _=>exact p1.elim⟩⟩
end
end L3

namespace L2
open PySem PySem.Spec PyProof.Rows
section
variable {X:Cx} {pins:List (Addr × Obj)} {σ:St} {H:Hp} {s:Shared} {a:Addr} {d:V} {u r:Value} {A:Around} {E:Value->Shared->Prop} {kvs:List (Key × V)} {k:Key}
theorem jfv {Q:Value->Shared->Prop} (I:Inv X pins σ H s) (e:H a=some (.dK kvs)) (ry:yh (kV k) u) (l:kvs.length < sizeLine) (rd:yh d r)
  (h1:∀ v w' s',yX kvs k=some v->Inv X pins σ H s'->yh v w'->Q w' s') (h2:yX kvs k=none->∀ s',Inv X pins σ (upd H a (.dK (xU kvs k d))) s'->Q r s'):wpAny (model X.prog X.w) A (call (.builtin "dict.setdefault") [.ref a,u,r]) Q E s:=by
 obtain ⟨z,hd,vs,rel,dd⟩:=jiH I.hok e;have rv:=rel.val k;refine call_meetsIn PySem.F.slot_dict_setdefault dd.typeIs PySem.F.entry_dict_setdefault (PySem.F.args_dict_setdefault_3 _ _ _) (kt_meets_setdefault (yf X.prog X.w) a (Vq ry) hd r) ⟨vs,dd,by rw [<- rel.length]; exact z,fun v hv=>?_,fun hn h' dd' hs=>?_⟩
 ·rw [hv] at rv
  cases ev:yX kvs k with
  | none=>rw [ev] at rv; exact absurd rv (by intro z; cases z)
  | some x =>
   rw [ev] at rv;exact h1 x _ _ ev (I.tok _) rv
 ·rw [hn] at rv
  have en:yX kvs k=none:=by
   cases ev:yX kvs k with
   | none=>rfl
   | some v=>rw [ev] at rv; exact absurd rv (by intro z; cases z)
  have hl:(xU kvs k d).length<=sizeLine:=by have:=vN kvs k d; omega
  refine h2 en _ (uV I (by rw [e]; exact True.intro) hs ?_ (jfU hl hd (rel.put k rd) dd'));obtain ⟨q,_,_,hq,_⟩:=dd';exact ⟨q,hq⟩
end
section
variable {X:Cx} {o e f:Expr} {apos cpos:Pos} {td ty tx:TE}
def tKSet (td ty tx:TE):TE:=fun σ H Q=>td σ H fun x H1=>∃ a,x = .ref a∧IsD H1 a∧ty σ H1 fun y H2=>tx σ H2 fun z H3=>∃ k kvs,y=kV k∧H3 a=some (.dK kvs)∧kvs.length < sizeLine ∧
 (∀ v,yX kvs k=some v->Q v H3)∧(yX kvs k=none->Q z (upd H3 a (.dK (xU kvs k z))))
theorem jht (ho:PE X o td) (he:PE X e ty) (hf:PE X f tx) (m:M2 X o "setdefault" apos e f cpos):PE X (.Call (.Attribute o "setdefault" apos) [e,f] [] cpos) (tKSet td ty tx):=by
 intro pins s σ H Q I h;refine wpAny_Call_method m.base m.few m.line PySem.F.plainAttrs_dict PySem.F.slot_dict_setdefault PySem.F.type_dict_setdefault (thn (ho pins s σ H _ I h) fun u s1 hQQ=>?_);obtain ⟨x,H1,I1,rx,a,ex,d,q1⟩:=hQQ;subst ex;obtain rfl:u=Value.ref a:=rx;obtain ⟨t1,t2,_⟩:=jbx I1 d;refine ⟨t1,t2,?_⟩;rw [m.trees];refine Calls.callWith_builtin rfl (Calls.evalArgs_plain (Calls.spliced_cons (thn (he pins s1 σ H1 _ I1 q1) fun iv s2 hQQ=>?_)));obtain ⟨y,H2,I2,ry,q2⟩:=hQQ;refine Calls.spliced_cons (thn (hf pins s2 σ H2 _ I2 q2) fun fv s3 hQQ=>?_);obtain ⟨z,H3,I3,rz,k,kvs,ey,ha,hl,c1,c2⟩:=hQQ;subst ey;refine Calls.spliced_nil ?_
 exact jfv I3 ha ry hl rz (fun v w' s4 ev I4 rw'=>⟨v,H3,I4,rw',c1 v ev⟩) fun en s4 I4=>⟨z,_,I4,rz,c2 en⟩
end
end L2

namespace L3
open PySem L2
def jhO:PV->Option Key
 | .int i=>some (.inl i)
 | .str x=>some (.inr x)
 | _=>none
def Yw:List PV->Option (List Key)
 | []=>some []
 | x :: xs=>match jhO x,Yw xs with
  | some k,some ks=>some (k :: ks)
  | _,_=>none
theorem jft {W:Wd} {x:PV} {k:Key} {v:V} (e:jhO x=some k) (r:Rep W x v):v=kV k:=by
 cases x with
 | int i=>cases e; exact r
 | str y=>cases e; exact r
 | _=>cases e
theorem vt {W:Wd}:∀ {xs:List PV} {ks:List Key} {vs:List V},Yw xs=some ks->yc W xs vs->vs=ks.map kV
 | [],ks,vs,e,r=>by cases e; exact r
 | x :: xs,ks,vs,e,r=>by
  obtain ⟨v,rs,rfl,rv,t⟩:=r
  have e:(match jhO x,Yw xs with
   | some k,some ks=>some (k :: ks)
   | _,_=>none)=some ks:=e
  cases h1:jhO x with
  | none=>rw [h1] at e; cases e
  | some k =>
   cases h2:Yw xs with
   | none=>rw [h1,h2] at e; cases e
   | some ms =>
    rw [h1,h2] at e;cases e;rw [jft h1 rv,vt h2 t];rfl
def nkO:List PV->Option NK
 | [.int h,.tup xs]=>match Yw xs with
  | some ks=>some (h,ks)
  | none=>none
 | _=>none
theorem vg.length {W:Wd}:∀ {l:List (NK × PV)} {xs:List (NK × Addr × Value)},vg W l xs->xs.length=l.length
 | [],_,e=>by cases e; rfl
 | _ :: _,_,⟨_,_,_,_,e,_,_,_,t⟩=>by subst e; rw [List.length_cons,List.length_cons,vg.length t]
theorem vg.keys {W:Wd}:∀ {l:List (NK × PV)} {xs:List (NK × Addr × Value)},vg W l xs->∀ x ∈ xs,vH W.T.K W.F x.1 x.2.1
 | [],_,e,x,hx=>by cases e; cases hx
 | _ :: _,_,⟨b,u,rs,v,e,k,_,_,t⟩,x,hx=>by
  subst e
  rcases List.mem_cons.mp hx with rfl | hx
  ·exact k
  ·exact vg.keys t x hx
theorem vg.get {W:Wd} (k:NK):∀ {l:List (NK × PV)} {xs:List (NK × Addr × Value)},vg W l xs->(yO l k=none∧atKey xs k=none)∨∃ x b u v,yO l k=some x∧atKey xs k=some (b,u)∧Rep W x v∧yh v u
 | [],_,e=>by cases e; exact .inl ⟨rfl,rfl⟩
 | p :: r,_,⟨b,u,rs,v,e,_,rv,ru,t⟩=>by
  subst e;unfold yO atKey;rw [List.find?_cons,List.find?_cons]
  by_cases h:p.1=k
  ·rw [decide_eq_true h];exact .inr ⟨p.2,b,u,v,rfl,rfl,rv,ru⟩
  ·rw [decide_eq_false h];exact vg.get k t
theorem vg.snoc {W:Wd} {k:NK} {x:PV} {b:Addr} {u:Value} {v:V} (hk:vH W.T.K W.F k b) (rv:Rep W x v) (ru:yh v u):∀ {l:List (NK × PV)} {xs:List (NK × Addr × Value)},vg W l xs->vg W (l ++ [(k,x)]) (xs ++ [(k,b,u)])
 | [],_,e=>by cases e; exact ⟨b,u,[],v,rfl,hk,rv,ru,rfl⟩
 | _ :: _,_,⟨b',u',rs,v',e,k',r,ru',t⟩=>by subst e; exact ⟨b',u',_,v',rfl,k',r,ru',vg.snoc hk rv ru t⟩
theorem JL {K:PySem.W.Frag} {F H:Hp} {k:NK} {b:Addr} (h:vH K F k b) (s:∀ a o,F a=some o->H a=some o):vH K H k b:=by
 obtain ⟨c,h1,h2⟩:=h;exact ⟨c,s _ _ h1,Ue s h2⟩
theorem jfi {W:Wd} {ks:List PV} {k:NK} {kv:List V} {p:Addr} (e:nkO ks=some k) (r:yc W ks kv) (f:W.F p=some (.tup kv)):vH W.T.K W.F k p:=by
 unfold nkO at e;split at e
 rotate_left
 ·cases e
 rename_i h xs;split at e
 rotate_left
 ·cases e
 rename_i ms e2;cases e;obtain ⟨v1,r1,rfl,a1,r2⟩:=r;obtain ⟨v2,r3,rfl,a2,r4⟩:=r2;cases r4;cases (show v1 = .int h from a1);obtain ⟨c,vs,rfl,s,q⟩:=a2;rw [vt e2 q] at s;exact ⟨c,f,s⟩
def dDnN:DE:=fun _ M=>.ok (.ref M.n) (M.new (.dnv M.n []))
def dDsN:DE:=fun _ M=>.ok (.ref M.n) (M.new (.dsv []))
def jaH (do_:DE) (dk:DA) (dz:DE):DE:=fun ρ M=>(do_ ρ M).bind fun o M1=>match o with
 | .ref i=>(match M1.g i with
  | some (.dnv j _)=>if j=i then (dk ρ M1).bind fun ks M2=>(match nkO ks with
   | some k=>if ks.length<=sizeLine then (dz ρ M2).bind fun z M3=>(match M3.g i with
    | some (.dnv j l)=>if j=i∧l.length < sizeLine then (match yO l k with
     | some x=>.ok x M3
     | none=>.ok z (M3.set i (.dnv i (l ++ [(k,z)])))) else .bad
    | _=>.bad) else .bad
   | none=>.bad) else .bad
  | _=>.bad)
 | _=>.bad
def jcG (do_:DE) (dk:DA) (dz:DE):DE:=fun ρ M=>(do_ ρ M).bind fun o M1=>match o with
 | .ref i=>(match M1.g i with
  | some (.dnv j _)=>if j=i then (dk ρ M1).bind fun ks M2=>(match nkO ks with
   | some k=>if ks.length<=sizeLine then (dz ρ M2).bind fun z M3=>(match M3.g i with
    | some (.dnv j l)=>if j=i then .ok ((yO l k).getD z) M3 else .bad
    | _=>.bad) else .bad
   | none=>.bad) else .bad
  | _=>.bad)
 | _=>.bad
def jci (M:Sto) (o:PV) (ks:List PV) (x:PV):Option Sto:=match o with
 | .ref i=>(match M.g i with
  | some (.dsv l)=>(match Yw ks with
   | some ns=>if ks.length<=sizeLine∧l.length < sizeLine then some (M.set i (.dsv (xV l ns x))) else none
   | none=>none)
  | _=>none)
 | _=>none
def Uh (d do_:DE) (dk:DA):DS:=fun ρ M=>(d ρ M).st ρ fun x M1=>(do_ ρ M1).st ρ fun o M2=>(dk ρ M2).st ρ fun ks M3=>match jci M3 o ks x with
 | some M4=>.nx ρ M4
 | none=>.bad
def inSv (neg:Bool) (M:Sto) (ks:List PV) (o:PV):Option PV:=match o with
 | .ref i=>(match M.g i with
  | some (.dsv l)=>(match Yw ks with
   | some ns=>some (.bl (if neg then !(yO l ns).isSome else (yO l ns).isSome))
   | none=>none)
  | _=>none)
 | _=>none
def jcF (neg:Bool) (dk:DA) (do_:DE):DE:=fun ρ M=>(dk ρ M).bind fun ks M1=>if ks.length<=sizeLine then (do_ ρ M1).bind fun o M2=>(match inSv neg M2 ks o with
 | some z=>.ok z M2
 | none=>.bad) else .bad
def Vy (do_ dk dz:DE):DE:=fun ρ M=>(do_ ρ M).bind fun o M1=>match o with
 | .ref i=>(match M1.g i with
  | some (.dkv _)=>(dk ρ M1).bind fun k M2=>(dz ρ M2).bind fun z M3=>(match k,M3.g i with
   | .int n,some (.dkv l)=>if l.length < sizeLine then (match yO l n with
    | some x=>.ok x M3
    | none=>.ok z (M3.set i (.dkv (xV l n z)))) else .bad
   | _,_=>.bad)
  | _=>.bad)
 | _=>.bad
section
variable {X:Cx} {T:Tb} {ES:St->XK} {e o f:Expr} {es:List Expr} {pos p2 kp:Pos} {x1:Nat} {d do_ dz dk1:DE} {dk:DA}
theorem qe_dnN:QE X T ES (.Dict [] [] pos) dDnN:=⟨jN jaa fun σ H Q hQQ=>jC hQQ fun W ρ M k hh hs q=>fun p hp=>by
 obtain ⟨le,h1,h2⟩:=hh.put (l:=p) (o:=.dT []) (c:=.dnv M.n []) hp (.inl ⟨rfl,rfl⟩)
 exact q _ _ _ le h1 ⟨p,rfl,h2⟩⟩
theorem qe_dsN:QE X T ES (.Dict [] [] pos) dDsN:=⟨jN jaa fun σ H Q hQQ=>jC hQQ fun W ρ M k hh hs q=>fun p hp=>by
 obtain ⟨le,h1,h2⟩:=hh.put (l:=p) (o:=.dT []) (c:=.dsv []) hp ⟨[],rfl,rfl⟩
 exact q _ _ _ le h1 ⟨p,rfl,h2⟩⟩
theorem Ux {W:Wd} {M:Sto} {H:Hp} {i:Nat} {a:Addr} {l:List (NK × PV)} {w:World} (hw:W.T.w=w) (h:Held W M H) (e:M.g i=some (.dnv i l)) (ea:W.α i=some a):∃ xs,IsN w H a xs∧vg W l xs:=by
 obtain ⟨b,ob,g1,g2,g3,r⟩:=h.m i _ e;rw [ea] at g1;cases g1
 rcases r with ⟨rfl,rfl⟩ | ⟨d,xs,e1,e2,r⟩
 ·exact ⟨[],.inl ⟨rfl,g3⟩,rfl⟩
 ·rw [ea] at e1;cases e1;exact ⟨xs,.inr (by rw [g3,e2,hw]),r⟩
theorem jgY {apos cpos:Pos} (hT:T.K=X.K) (hw:T.w=X.w) (hu:X.A.units + 32 < cLine) (ho:QE X T ES o do_) (hk:QA X T ES es dk) (hz:QE X T ES f dz) (m:M2 X o "setdefault" apos (.Tuple es x1 kp) f cpos):QE X T ES (.Call (.Attribute o "setdefault" apos) [.Tuple es x1 kp,f] [] cpos) (jaH do_ dk dz) :=
 ⟨jN (jhr hu ho.h (Yq hk.h) hz.h m) fun σ H Q hQQ=>jC hQQ fun W ρ M k hh hs q=>⟨W,ρ,M,k,hh,hs,yj.bind q fun W1 M1 x v H1 l1 h1 r1 q1=>by
  split at q1
  rotate_left
  ·exact q1.elim
  rename_i i;split at q1
  rotate_left
  ·exact q1.elim
  rename_i j l0 e0;split at q1
  rotate_left
  ·exact q1.elim
  rename_i hj;subst hj;have k1:W1.T=T:=l1.k.trans k;obtain ⟨a,rfl,ea⟩:=r1;obtain ⟨xs0,n0,_⟩:=Ux (w:=X.w) (by rw [k1]; exact hw) h1 e0 ea;refine ⟨a,xs0,rfl,n0,W1,ρ,M1,k1,h1,hs.up l1,yj.bind q1 fun W2 M2 ks kv H2 l2 h2 r2 q2=>?_⟩;split at q2
  rotate_left
  ·exact q2.elim
  rename_i nk e6;split at q2
  rotate_left
  ·exact q2.elim
  rename_i hzz;refine ⟨by rw [r2.length]; exact hzz,fun p hp=>?_⟩;obtain ⟨l4,h4,f4⟩:=h2.frz (o:=.tup kv) hp;refine ⟨_,ρ,M2,l4.k.trans (l2.k.trans k1),h4,((hs.up l1).up l2).up l4,yj.bind (q2.up l4) fun W3 M3 z zv H3 l3 h3 r3 q3=>?_⟩;split at q3
  rotate_left
  ·exact q3.elim
  rename_i j l e5;split at q3
  rotate_left
  ·exact q3.elim
  rename_i hl;obtain ⟨hj,hl⟩:=hl;subst hj;have k3:W3.T=T:=l3.k.trans (l4.k.trans (l2.k.trans k1));have ea3:W3.α j=some a:=l3.a _ _ (l4.a _ _ (l2.a _ _ ea));obtain ⟨xs,n3,rn⟩:=Ux (w:=X.w) (by rw [k3]; exact hw) h3 e5 ea3
  have hK:W3.T.K=X.K:=by rw [k3]; exact hT
  have key:vH W3.T.K W3.F nk p:=jfi e6 ((r2.up l4).up l3) (l3.f _ _ f4);refine ⟨p,nk,xs,rfl,by rw [<- hK]; exact JL key h3.f,n3,fun x hx=>by rw [<- hK]; exact JL (rn.keys x hx) h3.f,by rw [rn.length]; exact hl,fun pp hv=>?_,fun hv r hr=>?_⟩
  ·rcases rn.get nk with ⟨a1,a2⟩ | ⟨x,b,u,v',a1,a2,rv,ru⟩
   ·rw [a2] at hv; cases hv
   ·rw [a2] at hv;cases hv;rw [a1] at q3;exact ⟨v',ru,q3 W3 H3 _ (.refl W3) h3 rv⟩
  ·rcases rn.get nk with ⟨a1,a2⟩ | ⟨x,b,u,v',a1,a2,rv,ru⟩
   ·rw [a1] at q3;exact q3 W3 _ _ (.refl W3) (h3.upd e5 ea3 (c':=.dnv j (l ++ [(nk,z)])) (o:=ndO X.w a (xs ++ [(nk,p,r)])) (.inr ⟨a,_,ea3,by rw [k3,hw],rn.snoc key r3 hr⟩)) r3
   ·rw [a2] at hv; cases hv⟩⟩
theorem jhc {apos cpos:Pos} (hT:T.K=X.K) (hw:T.w=X.w) (hu:X.A.units + 32 < cLine) (ho:QE X T ES o do_) (hk:QA X T ES es dk) (hz:QE X T ES f dz) (m:M2 X o "get" apos (.Tuple es x1 kp) f cpos):QE X T ES (.Call (.Attribute o "get" apos) [.Tuple es x1 kp,f] [] cpos) (jcG do_ dk dz) :=
 ⟨jN (jhs hu ho.h (Yq hk.h) hz.h m) fun σ H Q hQQ=>jC hQQ fun W ρ M k hh hs q=>⟨W,ρ,M,k,hh,hs,yj.bind q fun W1 M1 x v H1 l1 h1 r1 q1=>by
  split at q1
  rotate_left
  ·exact q1.elim
  rename_i i;split at q1
  rotate_left
  ·exact q1.elim
  rename_i j l0 e0;split at q1
  rotate_left
  ·exact q1.elim
  rename_i hj;subst hj;have k1:W1.T=T:=l1.k.trans k;obtain ⟨a,rfl,ea⟩:=r1;obtain ⟨xs0,n0,_⟩:=Ux (w:=X.w) (by rw [k1]; exact hw) h1 e0 ea;refine ⟨a,xs0,rfl,n0,W1,ρ,M1,k1,h1,hs.up l1,yj.bind q1 fun W2 M2 ks kv H2 l2 h2 r2 q2=>?_⟩;split at q2
  rotate_left
  ·exact q2.elim
  rename_i nk e6;split at q2
  rotate_left
  ·exact q2.elim
  rename_i hzz;refine ⟨by rw [r2.length]; exact hzz,fun p hp=>?_⟩;obtain ⟨l4,h4,f4⟩:=h2.frz (o:=.tup kv) hp;refine ⟨_,ρ,M2,l4.k.trans (l2.k.trans k1),h4,((hs.up l1).up l2).up l4,yj.bind (q2.up l4) fun W3 M3 z zv H3 l3 h3 r3 q3=>?_⟩;split at q3
  rotate_left
  ·exact q3.elim
  rename_i j l e5;split at q3
  rotate_left
  ·exact q3.elim
  rename_i hj;subst hj;have k3:W3.T=T:=l3.k.trans (l4.k.trans (l2.k.trans k1));have ea3:W3.α j=some a:=l3.a _ _ (l4.a _ _ (l2.a _ _ ea));obtain ⟨xs,n3,rn⟩:=Ux (w:=X.w) (by rw [k3]; exact hw) h3 e5 ea3
  have hK:W3.T.K=X.K:=by rw [k3]; exact hT
  have key:vH W3.T.K W3.F nk p:=jfi e6 ((r2.up l4).up l3) (l3.f _ _ f4);refine ⟨p,nk,xs,rfl,by rw [<- hK]; exact JL key h3.f,n3,fun x hx=>by rw [<- hK]; exact JL (rn.keys x hx) h3.f,fun pp hv=>?_,fun hv=>?_⟩
  ·rcases rn.get nk with ⟨a1,a2⟩ | ⟨x,b,u,v',a1,a2,rv,ru⟩
   ·rw [a2] at hv; cases hv
   ·rw [a2] at hv;cases hv;rw [a1] at q3;exact ⟨v',ru,q3 W3 H3 _ (.refl W3) h3 rv⟩
  ·rcases rn.get nk with ⟨a1,a2⟩ | ⟨x,b,u,v',a1,a2,rv,ru⟩
   ·rw [a1] at q3;exact q3 W3 H3 _ (.refl W3) h3 r3
   ·rw [a2] at hv; cases hv⟩⟩
theorem jgZ {apos cpos:Pos} (ho:QE X T ES o do_) (hk:QE X T ES e dk1) (hz:QE X T ES f dz) (m:M2 X o "setdefault" apos e f cpos):QE X T ES (.Call (.Attribute o "setdefault" apos) [e,f] [] cpos) (Vy do_ dk1 dz) :=
 ⟨jN (jht ho.h hk.h hz.h m) fun σ H Q hQQ=>jC hQQ fun W ρ M k hh hs q=>⟨W,ρ,M,k,hh,hs,yj.bind q fun W1 M1 x v H1 l1 h1 r1 q1=>by
  split at q1
  rotate_left
  ·exact q1.elim
  rename_i i;split at q1
  rotate_left
  ·exact q1.elim
  rename_i l0 e0;obtain ⟨a,rfl,ea⟩:=r1;obtain ⟨b,ob,g1,g2,g3,vs0,rfl,ra0⟩:=h1.m i _ e0;rw [ea] at g1;cases g1;refine ⟨a,rfl,.inl ⟨vs0,.inl g3⟩,W1,ρ,M1,l1.k.trans k,h1,hs.up l1,yj.bind q1 fun W2 M2 kk kv H2 l2 h2 r2 q2=>⟨W2,ρ,M2,l2.k.trans (l1.k.trans k),h2,(hs.up l1).up l2,yj.bind q2 fun W3 M3 z zv H3 l3 h3 r3 q3=>?_⟩⟩;split at q3
  rotate_left
  ·exact q3.elim
  rename_i n l e5;split at q3
  rotate_left
  ·exact q3.elim
  rename_i hl;cases (show kv = .int n from r2);have ea3:W3.α i=some a:=l3.a _ _ (l2.a _ _ ea);obtain ⟨b,ob,g1,g2',g3',vs,rfl,ra⟩:=h3.m i _ e5;rw [ea3] at g1;cases g1;refine ⟨JE n,vs,rfl,g3',by rw [ra.length]; exact hl,fun v hv=>?_,fun hv=>?_⟩
  ·rcases ra.get xw n with ⟨a1,a2⟩ | ⟨x,v',a1,a2,rv⟩
   ·rw [a2] at hv; cases hv
   ·rw [a2] at hv;cases hv;rw [a1] at q3;exact q3 W3 H3 _ (.refl W3) h3 rv
  ·rcases ra.get xw n with ⟨a1,a2⟩ | ⟨x,v',a1,a2,rv⟩
   ·rw [a1] at q3;exact q3 W3 _ _ (.refl W3) (h3.upd e5 ea3 (c':=.dkv (xV l n z)) (o:=.dK (xU vs (JE n) zv)) ⟨_,rfl,ra.put xw r3⟩) r3
   ·rw [a2] at hv; cases hv⟩⟩
theorem hu32 {A:Around} {k:Nat} (hr:Room k A):A.units + 32 < cLine:=by have:=vP hr; omega
theorem jfz (a b:List Key) (h:id a=id b):a=b:=h
theorem jes (hu:X.A.units + 1 < cLine) (he:QE X T ES e d) (ho:QE X T ES o do_) (hk:QA X T ES es dk) (hw:swapsWith e (some (.Subscript o (.Tuple es x1 kp) p2)) pos.line X.env=pure false:=by rfl) :
  QS X T ES (.Assign [.Subscript o (.Tuple es x1 kp) p2] e pos) (Uh d do_ dk) :=
 ⟨xi (jck hu ho.h (Yq hk.h) he.h hw) fun D σ H hQQ=>yN hQQ fun W ρ M k hh hs q=>⟨W,ρ,M,k,hh,hs,yy.bind hs q fun W1 M1 x v H1 l1 h1 r1 q1=>by
  have hs1:=hs.up l1;refine ⟨W1,ρ,M1,l1.k.trans k,h1,hs1,yy.bind hs1 q1 fun W2 M2 o' ov H2 l2 h2 r2 q2=>?_⟩;have hs2:=hs1.up l2;refine ⟨W2,ρ,M2,l2.k.trans (l1.k.trans k),h2,hs2,yy.bind hs2 q2 fun W3 M3 ks kv H3 l3 h3 r3 q3=>?_⟩;split at q3
  rotate_left
  ·exact q3.elim
  rename_i M4 e4;unfold jci at e4;split at e4
  rotate_left
  ·cases e4
  rename_i i;split at e4
  rotate_left
  ·cases e4
  rename_i l e5;split at e4
  rotate_left
  ·cases e4
  rename_i ns e6;split at e4
  rotate_left
  ·cases e4
  rename_i hc;cases e4;have ev:=vt e6 r3;obtain ⟨a,rfl,ea⟩:=r2.up l3;obtain ⟨b,ob,g1,g2,g3,vs,rfl,ra⟩:=h3.m i _ e5;rw [ea] at g1;cases g1;refine ⟨by rw [r3.length]; exact hc.1,fun p hp=>?_⟩;obtain ⟨l4,h4,f4⟩:=h3.frz (o:=.tup kv) hp;have na:a≠p:=jv g3 hp;refine ⟨a,_,rfl,jaV.t (k:=ns) (kvs:=vs) (by rw [jk na]; exact g3) (by rw [jr,ev]) (by rw [ra.length]; exact hc.2),?_⟩
  exact q3 _ σ _ l4 (h4.upd e5 (l4.a _ _ ea) (c':=.dsv (xV l ns x)) (o:=.dT (xU vs ns v)) ⟨_,rfl,(ra.up0 l4.toLe0).put (f:=id) jfz (((r1.up l2).up l3).up l4)⟩) ((hs2.up l3).up l4)⟩⟩
theorem jdx {neg:Bool} {σ:St} {H:Hp} {Q:VK} {td:TE} {ta:TA} (hta:ta=lft T yc ES dk) (htd:td=lft T Rep ES do_) (h:lft T Rep ES (jcF neg dk do_) σ H Q) :
  tTup ta σ H fun y H1=>td σ H1 fun x H2=>∃ a r,x = .ref a∧vX H2 a y r∧Q (.bl (if neg then !r.isSome else r.isSome)) H2:=by
 subst hta htd
 refine jC h fun W ρ M k hh hs q=>⟨W,ρ,M,k,hh,hs,yj.bind q fun W1 M1 ks kv H1 l1 h1 r1 q1=>?_⟩
 split at q1
 rotate_left
 ·exact q1.elim
 rename_i hz;refine ⟨by rw [r1.length]; exact hz,fun p hp=>?_⟩;obtain ⟨l4,h4,f4⟩:=h1.frz (o:=.tup kv) hp;refine ⟨_,ρ,M1,l4.k.trans (l1.k.trans k),h4,(hs.up l1).up l4,yj.bind (q1.up l4) fun W2 M2 o' ov H2 l2 h2 r2 q2=>?_⟩;split at q2
 rotate_left
 ·exact q2.elim
 rename_i z e4;unfold inSv at e4;split at e4
 rotate_left
 ·cases e4
 rename_i i;split at e4
 rotate_left
 ·cases e4
 rename_i l e5;split at e4
 rotate_left
 ·cases e4
 rename_i ns e6;cases e4;have ev:=vt e6 r1;obtain ⟨a,rfl,ea⟩:=r2;obtain ⟨b,ob,g1,g2,g3,vs,rfl,ra⟩:=h2.m i _ e5;rw [ea] at g1;cases g1;refine ⟨a,_,rfl,vX.t (k:=ns) g3 (by rw [<- ev]; exact h2.f _ _ (l2.f _ _ f4)),?_⟩
 have hv:(yX vs ns).isSome=(yO l ns).isSome:=by
  rcases ra.get (f:=id) jfz ns with ⟨a1,a2⟩ | ⟨x,v,a1,a2,_⟩
  ·rw [a1,show yX vs ns=none from a2]; rfl
  ·rw [a1,show yX vs ns=some v from a2]; rfl
 rw [hv];exact q2 W2 H2 _ (.refl W2) h2 rfl
theorem jhb (hu:X.A.units + 1 < cLine) (hk:QA X T ES es dk) (ho:QE X T ES o do_) (hm:behindInMarks .In o=false):QE X T ES (.Compare (.Tuple es x1 kp) [.In] [o] pos) (jcF false dk do_) :=
 ⟨jN (pe_cmp (jeZ hu (Yq hk.h) ho.h) hm) fun σ H Q h=>jdx rfl rfl h⟩
end
def JT:List Value->List Str->Bool
 | [],[]=>true
 | u :: us,x :: xs=>Value.isStrOf x u && JT us xs
 | _,_=>false
theorem Xj:∀ {us:List Value} {xs:List Str},JT us xs=true->yg (xs.map V.str) us
 | [],[],_=>.nil
 | u :: us,x :: xs,h=>by
  have h:(Value.isStrOf x u && JT us xs)=true:=h;rw [Bool.and_eq_true] at h;obtain ⟨t,e⟩:=Value.isStrOf_shape h.1;exact .cons ⟨t,e⟩ (Xj h.2)
 | [],_ :: _,h=>by cases h
 | _ :: _,[],h=>by cases h
theorem Va {W:Wd}:∀ {xs:List Str},yc W (xs.map PV.str) (xs.map V.str)
 | []=>rfl
 | _ :: _=>⟨_,_,rfl,rfl,Va⟩
structure TupS (K:PySem.W.Frag) (mg:Str->Option Value) (x:Str) (xs:List Str):Prop where
 ex:∃ a q its n ts,mg x=some (.ref a)∧K.lookup a=some ⟨.type "tuple",q,.seq its n,ts⟩∧its.size<=sizeLine∧JT its.toList xs=true
theorem q_gtup {X:Cx} {T:Tb} {ES:St->XK} {x:Str} {xs:List Str} {ys:List PV} {pos:Pos} (hT:T.K=X.K) (hg:Gl X x) (C:TupS X.K X.mg x xs) (hy:xs.map PV.str=ys) (hd:(x == ("__debug__":Str))=false:=by decide):QE X T ES (.Name x pos) (dC (.tup ys)):=by
 subst hy;obtain ⟨a,q,its,n,ts,hm,hk,hz,ho⟩:=C.ex
 exact qc (Uo (v:=.ref a) hg hm rfl hd) fun W h=>⟨a,xs.map V.str,rfl,.inr ⟨_,its,n,by rw [h,hT]; exact hk,rfl,rfl,hz,Xj ho⟩,Va⟩
end L3

namespace L2
open PySem PySem.Spec PyProof.Rows PySem.W
def Ikk (a:Addr) (o:Obj) (kvs:List (Key × V)):It :=
 ⟨fun i H=>H a=some (.frz o (.dK kvs))∧i < kvs.length,fun i H x H'=>∃ kv,kvs[i]? = some kv∧x=kV kv.1∧H'=H,fun i H=>H a=some (.frz o (.dK kvs))∧kvs.length<=i⟩
theorem jgS {k:Key} {v:Value} (h:Jz k v=true):yh (kV k) v:=by
 rcases jZ h with ⟨i,t,rfl,rfl⟩ | ⟨x,t,rfl,rfl⟩
 ·exact ⟨t,rfl⟩
 ·exact ⟨t,rfl⟩
theorem jfa {prog:Program} {w:World} {es:List DictEntry} {kvs:List (Key × Value)} (h:Pairs (yf prog w) es kvs):∀ {i:Nat} {kv:Key × Value},kvs[i]? = some kv->∃ e,es[i]? = some e∧Jz kv.1 e.key=true:=by
 induction h with
 | nil=>intro i kv e; simp at e
 | cons a b _ ih =>
  intro i kv e
  cases i with
  | zero=>cases e; exact ⟨_,rfl,a⟩
  | succ i=>exact ih (i:=i) e
theorem jaY {P:Program} {w:World} {K:PySem.W.Frag} {tg:Expr} {a it:Addr} {o:Obj} {es:Array DictEntry} {ep:Nat} {kvs:List (Key × V)} (hd:o.data = .dict es ep) (hz:es.size=kvs.length) :
  Turn P w K tg (Ikk a o kvs) [it] it (fun i h=>h.IsKeyIter it a i es.size ep) where
 mem:=by simp
 obj:=fun i h st c hc=>by
  obtain ⟨oi,h1,h2,h3⟩:=st
  have hc:c=it:=by simpa using hc
  subst hc;exact ⟨_,h1,fun v e=>by rw [h3] at e; cases e⟩
 keep:=fun i h h' st k=>by
  obtain ⟨oi,h1,h2,h3⟩:=st;exact ⟨oi,k it (by simp) _ h1,h2,h3⟩
 item:=by
  intro X hP hw hK hc i pins s σ H E I hf st hg;subst hP hw hK;obtain ⟨ha,lt⟩:=hg
  obtain ⟨ho,_,_,vs,rel,o',es',ep',ho',hx',hd',_,hp,nd⟩:=(show yr X.prog X.w H s.heap a (.frz o (.dK kvs)) from I.hok a _ ha)
  rw [ho] at ho';cases ho';rw [hd] at hd';cases hd'
  have lt2:i < es.size:=by rw [hz]; exact lt
  obtain ⟨f0,f1,f2,f3,f4,f5⟩:=hf it (by simp);refine jbq st ho hd lt2 fun h' out same=>?_
  obtain ⟨kv,hkv⟩:∃ kv,kvs[i]? = some kv:=⟨_,List.getElem?_eq_getElem lt⟩
  obtain ⟨q,hq,z1,z2⟩:=L2.Paired.at rel hkv;obtain ⟨e,he,ke⟩:=jfa hp hq
  have e2:es[i]=e:=by
   rw [Array.getElem?_toList,Array.getElem?_eq_getElem lt2] at he;exact Option.some.inj he
  have kk:yh (kV kv.1) es[i].key:=by rw [e2,z1]; exact jgS ke
  obtain ⟨oi,h1,h2,h3⟩:=id out;refine ⟨_,rfl,jfH (s:={ s with heap:=h' }) h1 h2 h3 (by decide) ⟨kV kv.1,H,I.turned (t':=s.toks) (fun b ob hb e=>same.extBut b ob hb e) f0 f1 f3 f4 f5,kk,⟨kv,hkv,rfl,rfl⟩,out,fun c hc=>?_⟩⟩
  have hc:c=it:=by simpa using hc
  rw [hc];exact f0
 done:=by
  intro X hP hw hK hc i pins s σ H E I hf st hg;subst hP hw hK;obtain ⟨ha,ge⟩:=hg
  obtain ⟨ho,_⟩:=(show yr X.prog X.w H s.heap a (.frz o (.dK kvs)) from I.hok a _ ha)
  obtain ⟨f0,f1,f2,f3,f4,f5⟩:=hf it (by simp)
  exact jdn (I.ok.hd hc) st ho hd (by rw [hz]; exact ge) fun h' eb=>⟨rfl,I.turned (t':=s.toks) (fun b o hb q=>eb b o hb q) f0 f1 f3 f4 f5⟩
 self:=fun A i s Q E st h=>wpAny_pyIter_keyiter st h
section
variable {X:Cx} {pins:List (Addr × Obj)} {σ:St} {H:Hp} {s:Shared} {a:Addr} {o:Obj} {kvs:List (Key × V)}
theorem Inv.freezeK (I:Inv X pins σ H s) (e:H a=some (.dK kvs)):∃ o,Inv X pins σ (upd H a (.frz o (.dK kvs))) s:=by
 obtain ⟨hl,hd,vs,rel,o,es,ep,ho,hr⟩:=(show yr X.prog X.w H s.heap a (.dK kvs) from I.hok a _ e)
 exact ⟨o,uV (h':=s.heap) (t':=s.toks) (ob:=.frz o (.dK kvs)) I (by rw [e]; exact True.intro) ⟨rfl,fun _ _=>rfl⟩ ⟨o,ho⟩ ⟨ho,hl,hd,vs,rel,o,es,ep,ho,hr⟩⟩
theorem Inv.meltK (I:Inv X pins σ H s) (e:H a=some (.frz o (.dK kvs))) (nf:∀ o u,X.H₀ a≠some (.frz o u)):Inv X pins σ (upd H a (.dK kvs)) s:=by
 have nn:∀ b,H b=none->b≠a:=fun b q z=>by rw [z,e] at q; cases q
 have nt:∀ b xs,H b=some (.tup xs)->b≠a:=fun b xs q z=>by rw [z,e] at q; cases q
 have no:∀ b c,H b=some (.own c)->b≠a:=fun b c q z=>by rw [z,e] at q; cases q
 refine ⟨I.ok,I.os,I.bare,⟨I.base.keep,I.base.slot,fun b ob q n hx=>?_,I.base.there,fun b xs q=>?_,fun b ob u q=>?_,fun b ps q=>?_⟩,I.loc,I.cell,?_,fun x c q=>?_,fun p hp=>?_,fun b u q=>?_,I.len⟩
 ·have:=I.base.free b ob q n hx
  rw [jk (nn b this)];exact this
 ·have:=I.base.tups b xs q
  rw [jk (nt b xs this)];exact this
 ·rw [jk (fun z:b=a=>nf ob u (by rw [<- z]; exact q))];exact I.base.frzs b ob u q
 ·obtain ⟨more,h⟩:=I.base.tbls b ps q;exact ⟨more,by rw [jk (fun z=>by rw [z,e] at h; cases h)]; exact h⟩
 ·rw [jk (nn _ I.free)];exact I.free
 ·rw [jk (nn _ (I.freeC x c q))];exact I.freeC x c q
 ·obtain ⟨h1,h2,h3⟩:=I.pin p hp;exact ⟨h1,by rw [jk (nn _ h2)]; exact h2,h3⟩
 ·have st:∀ {b u},yr X.prog X.w H s.heap b u->yr X.prog X.w (upd H a (.dK kvs)) s.heap b u:=fun {b u} ob=>ob.stay (fun c v _ r=>r) (fun c r=>by rw [jk (no c _ r)]; exact r) fun c xs r=>by rw [jk (nt c xs r)]; exact r
  by_cases z:b=a
  ·subst z;rw [jr] at q;cases q
   obtain ⟨_,ob⟩:=(show yr X.prog X.w H s.heap b (.frz o (.dK kvs)) from I.hok b _ e)
   exact st ob
  ·rw [jk z] at q;exact st (I.hok b u q)
end
section
variable {X:Cx} {tg l e:Expr} {te:TE}
def jfA (X:Cx) (te:TE):TI:=fun σ H R=>te σ H fun x H1=>∃ a kvs,x = .ref a∧H1 a=some (.dK kvs)∧∀ o,(∀ o u,X.H₀ a≠some (.frz o u))->(kvs.map (·.1)).Nodup->kvs.length<=sizeLine->R (Ikk a o kvs) (upd H1 a (.frz o (.dK kvs)))
theorem jhN {kvs:List (Key × V)} {vs:List (Key × Value)} (h:KV kvs vs):kvs.map (·.1)=vs.map (·.1):=by
 induction h with
 | nil=>rfl
 | cons r _ ih=>rw [List.map_cons,List.map_cons,ih,r.1]
theorem jeO (he:PE X l te):PI X tg l (jfA X te):=by
 intro pins s σ H R I h;refine thn (he pins s σ H _ I h) fun v s1 hQQ=>?_;obtain ⟨x,H1,I1,rx,a,kvs,rfl,ha,q⟩:=hQQ;obtain rfl:v=Value.ref a:=rx
 have nf:∀ o u,X.H₀ a≠some (.frz o u):=fun o u z=>by
  have:=I1.base.frzs a o u z
  rw [ha] at this;cases this
 obtain ⟨o,I2⟩:=I1.freezeK ha
 obtain ⟨ho,hl,hd,vs,rel,o',es,ep,ho',hx,hdat,_,hp,nd⟩:=(show yr X.prog X.w _ s1.heap a (.frz o (.dK kvs)) from I2.hok a _ jr)
 rw [ho] at ho';cases ho'
 have hz:es.size=kvs.length:=by rw [<- Array.length_toList,hp.length]; exact (Paired.length rel).symm
 refine iterK hd ho hx hdat ?_;refine ⟨_,[_],_,_,upd H1 a (.frz o (.dK kvs)),rfl,I2.kept (t':=s1.toks) (fun b ob e=>Heap.get?_push_of_some _ e),jaY hdat hz,⟨_,Heap.get?_push_size _ rfl,rfl,rfl⟩,fun c hc=>?_,q o nf (by rw [jhN rel]; exact nd) hl⟩
 have hc:c=s1.heap.objs.size:=by simpa using hc
 have le:s1.heap.objs.size<=c:=by rw [hc]; exact Nat.le_refl _
 exact I2.fpOk le (I2.hok.fresh le)
def jed (X:Cx) (te:TE):TE:=fun σ H Q=>te σ H fun x H1=>∃ a o kvs,(∀ o u,X.H₀ a≠some (.frz o u))∧H1 a=some (.frz o (.dK kvs))∧Q x (upd H1 a (.dK kvs))
theorem jeT (he:PE X e te):PE X e (jed X te):=by
 intro pins s σ H Q I h;refine thn (he pins s σ H _ I h) fun v s1 hQQ=>?_;obtain ⟨x,H1,I1,rx,a,o,kvs,nf,ha,q⟩:=hQQ;exact ⟨x,_,I1.meltK ha nf,rx,q⟩
theorem val_at {kvs:List (Key × V)} (nd:(kvs.map (·.1)).Nodup) {i:Nat} {kv:Key × V} (e:kvs[i]? = some kv):yX kvs kv.1=some kv.2:=by
 induction kvs generalizing i with
 | nil=>simp at e
 | cons p kvs ih =>
  rw [List.map_cons] at nd;obtain ⟨h1,h2⟩:=List.nodup_cons.mp nd;unfold yX at ih ⊢;rw [List.find?_cons]
  cases i with
  | zero =>
   cases e;rw [decide_eq_true rfl];rfl
  | succ i =>
   have e:kvs[i]? = some kv:=e;have hne:p.1≠kv.1:=fun z=>h1 (by rw [z]; exact List.mem_map.mpr ⟨kv,List.mem_of_getElem? e,rfl⟩);rw [decide_eq_false hne];exact ih h2 e
def tVals (j:Nat):TE:=fun σ H Q=>∃ a kvs,σ[j]? = some (some (.ref a))∧H a=some (.dK kvs)∧∀ acc,H acc=none->Q (.ref acc) (upd H acc (.lst (kvs.map (·.2))))
theorem vals_w {j:Nat} {σ:St} {H:Hp} {Q:VK} (h:tVals j σ H Q):jed X (jbX (jfA X (jaZ j)) 1 [j] (uk 0) jec (jiv (jaZ 1) (jaZ 0))) σ H Q:=by
 obtain ⟨a,kvs,hs,ha,q⟩:=h;refine ⟨.ref a,hs,a,kvs,rfl,ha,fun o nf nd hl acc hacc=>?_⟩
 have hne:acc≠a:=fun z=>by rw [z,jr] at hacc; cases hacc
 have hacc':H acc=none:=by rw [jk hne] at hacc; exact hacc
 obtain ⟨F,hF⟩:∃ F,F=upd H a (.frz o (.dK kvs)):=⟨_,rfl⟩
 have fa:∀ l:HO,upd F acc l a=some (.frz o (.dK kvs)):=fun l=>by rw [jk (Ne.symm hne),hF,jr]
 rw [<- hF];refine ⟨fun i m xs H2=>i + m=kvs.length∧xs=(kvs.take i).map (·.2)∧H2=upd F acc (.lst xs),⟨kvs.length,by omega,rfl,rfl⟩,?_⟩;rintro i m xs H2 ⟨h1,h2,rfl⟩
 by_cases hi:kvs.length<=i
 ·refine .inl ⟨⟨fa _,hi⟩,a,o,kvs,nf,fa _,?_⟩
  have e1:upd (upd F acc (.lst xs)) a (.dK kvs)=upd H acc (.lst (kvs.map (·.2))):=by
   rw [h2,List.take_of_length_le hi];funext b
   by_cases z:b=a
   ·subst z;rw [jr,jk (Ne.symm hne),ha]
   ·rw [jk z]
    by_cases y:b=acc
    ·subst y;rw [jr,jr]
    ·rw [jk y,jk y,hF,jk z]
  rw [e1];exact q acc hacc'
 ·have hlt:i < kvs.length:=by omega
  refine .inr ⟨⟨fa _,hlt⟩,by rw [h2,List.length_map,List.length_take]; omega,fun ys H'=>ys=(kvs.take (i + 1)).map (·.2)∧H'=upd F acc (.lst ys),fun ys H' hN=>⟨m - 1,by omega,by omega,hN.1,hN.2⟩,?_⟩;rintro x H3 ⟨kv,hkv,rfl,rfl⟩
  have ei:xH 1 [j] σ=[none,some (.ref a)]:=by
   show [none] ++ [(σ[j]?).getD none]=_;rw [hs];rfl
  rw [ei];refine ⟨jiC,?_⟩;unfold jec;simp only [if_true];refine ⟨.ref a,rfl,kV kv.1,rfl,a,kv.2,rfl,.inl ⟨kvs,kv.1,.inr ⟨o,fa _⟩,rfl,(val_at nd hkv).symm⟩,jr,?_,jbU⟩;rw [h2]
  have:kvs.take (i + 1)=kvs.take i ++ [kv]:=by
   rw [List.take_succ,hkv];rfl
  rw [this,List.map_append];rfl
end
end L2

namespace L3
open PySem L2
def jid (do_ dk:DE):DE:=fun ρ M=>(do_ ρ M).bind fun o M1=>(dk ρ M1).bind fun k M2=>match o,k with
 | .ref j,.int n=>(match M2.g j with
  | some (.dkv l)=>(match yO l n with
   | some x=>.ok x M2
   | none=>.bad)
  | _=>.bad)
 | _,_=>.bad
def Jt (i:Nat):DE:=fun ρ M=>(ya i ρ M).bind fun o M1=>match o with
 | .ref j=>(match M1.g j with
  | some (.dkv l)=>.ok (.lst (l.map (·.2))) M1
  | _=>.bad)
 | _=>.bad
theorem UQ {W:Wd}:∀ {l:List (Int × PV)} {vs:List (Key × V)},yW W JE l vs->yc W (l.map (·.2)) (vs.map (·.2))
 | [],_,e=>by
  have e:_=[]:=e;subst e;rfl
 | p :: l,_,⟨v,rs,e,r,t⟩=>by
  subst e;exact ⟨v,rs.map (·.2),rfl,r,UQ t⟩
section
variable {X:Cx} {T:Tb} {ES:St->XK} {o e:Expr} {do_ dk1:DE} {pos:Pos}
theorem qe_ixK (hu:X.A.units + 1 < cLine) (ho:QE X T ES o do_) (hk:QE X T ES e dk1) (hs:jir e):QE X T ES (.Subscript o e pos) (jid do_ dk1) :=
 ⟨jN (jco hu ho.h hk.h hs) fun σ H Q hQQ=>jC hQQ fun W ρ M k hh hs q=>⟨W,ρ,M,k,hh,hs,yj.bind q fun W1 M1 x v H1 l1 h1 r1 q1=>⟨W1,ρ,M1,l1.k.trans k,h1,hs.up l1,yj.bind q1 fun W2 M2 kk kv H2 l2 h2 r2 q2=>by
  split at q2
  rotate_left
  ·exact q2.elim
  rename_i j n;split at q2
  rotate_left
  ·exact q2.elim
  rename_i l e5;split at q2
  rotate_left
  ·exact q2.elim
  rename_i z eg;cases (show kv = .int n from r2);obtain ⟨a,rfl,ea⟩:=r1;have ea3:W2.α j=some a:=l2.a _ _ ea;obtain ⟨b,ob,g1,g2',g3',vs,rfl,ra⟩:=h2.m j _ e5;rw [ea3] at g1;cases g1
  rcases ra.get xw n with ⟨a1,a2⟩ | ⟨x,v',a1,a2,rv⟩
  ·rw [a1] at eg;cases eg
  ·rw [a1] at eg;cases eg
   exact ⟨a,v',rfl,by rw [<- a2]; exact vX.k (k:=JE n) g3',q2 _ _ _ (.refl W2) h2 rv⟩⟩⟩⟩
variable {osc sc:Scope} {xd xh:Str} {i:Nat} {p1 p2 p3 p4 p5:Pos}
theorem jex (hu:X.A.units + 1 < cLine) (hc:X.calm=true) (hos:X.env.scope=osc) (S:CompScope osc sc [xh] [xd]) (hj:[i].map (fun j=>X.N[j]?)=[xd].map some)
  (hi:PE X (.Name xd p1) (jaZ i)) (hg:∀ s₃ H₃ fp,PG (jQ X ([xh] ++ [xd]) sc s₃ H₃ fp) (.Name xh p2) (uk 0))
  (h1:∀ s₃ H₃ fp,PE (jQ X ([xh] ++ [xd]) sc s₃ H₃ fp) (.Name xd p3) (jaZ 1)) (h0:∀ s₃ H₃ fp,PE (jQ X ([xh] ++ [xd]) sc s₃ H₃ fp) (.Name xh p4) (jaZ 0)) (hns:jir (.Name xh p4))
  (hs:∀ x,foldedSetIterable (.Name xd p1) X.env x=pure x:=by intro _; rfl):QE X T ES (.ListComp (.Subscript (.Name xd p3) (.Name xh p4) p5) [⟨.Name xh p2,.Name xd p1,[],0⟩] sc pos) (Jt i) :=
 ⟨jN (jeT (jcp hc hos S hj (jeO hi) hg (fun _ _ _=>jfy) (fun a b c=>jco hu (h1 a b c) (h0 a b c) hns) hs)) fun σ H Q hQQ=>jC hQQ fun W ρ M k hh hsr q=>vals_w (by
  unfold Jt ya at q;split at q
  rotate_left
  ·exact q.elim
  rename_i y ey;simp only [Res.bind_ok] at q;split at q
  rotate_left
  ·exact q.elim
  rename_i j;split at q
  rotate_left
  ·exact q.elim
  rename_i l el;obtain ⟨v,ev,rv⟩:=hsr.2 i _ ey;obtain ⟨a,rfl,ea⟩:=rv;obtain ⟨b,ob,g1,g2,g3,vs,rfl,ra⟩:=hh.m j _ el;rw [ea] at g1;cases g1;refine ⟨a,vs,ev,g3,fun acc hacc=>?_⟩
  have gacc:W.G acc=none:=by
   cases z:W.G acc with
   | none=>rfl
   | some u =>
    rw [(hh.gd acc u z).1] at hacc;cases hacc
  obtain ⟨us,hus⟩:∃ us:List V,us=vs.map (·.2):=⟨_,rfl⟩
  rw [<- hus];have hg:=hh.guard (ws:=us) hacc
  obtain ⟨l2,h2⟩:=hg.unguard (G0:=W.G) (l:=acc) (o:=.lst us) jr fun b u z=>by
   have y:b≠acc:=fun y=>by rw [y,gacc] at z; cases z
   exact ⟨by show L2.upd W.G acc _ b=_; rw [jk y]; exact z,y⟩
  have rr:=yc.up0 (Wd.le0_gd.trans l2) (UQ ra);rw [<- hus] at rr
  exact q _ _ _ ⟨Wd.le0_gd.trans l2,rfl⟩ h2 ⟨acc,us,rfl,jr,rr⟩)⟩
end
end L3

set_option maxHeartbeats 4000000


namespace My
open PySem L2 L3
def top (i:Nat):Stmt:=PySem.Challenge.pw_liarclocks_k23_whole_words_alike.main.body.getD i (.Pass ⟨0,0,0,0⟩)
abbrev tb (w:World) (K:PySem.W.Frag) (C:Nat->Addr):Tb:=⟨K,C,w⟩
abbrev Xw:Stmt:=top 31
abbrev Xv:Stmt:=top 32
abbrev XD:Stmt:=top 35
abbrev Yb:Stmt:=top 37
abbrev Xu:Stmt:=top 33
abbrev Xm:Stmt:=top 11
abbrev Xs:Stmt:=top 12
abbrev XI:Stmt:=top 15
abbrev XH:Stmt:=top 17
abbrev Xr:Stmt:=top 16
abbrev Xl:Stmt:=top 13
abbrev JZ:Stmt:=top 14
abbrev Ye:Stmt:=top 18
abbrev XN:Stmt:=yq (top 23) 0
abbrev XF:Stmt:=top 19
abbrev XM:Stmt:=yq (top 29) 0
abbrev XW:Stmt:=yq (top 23) 4
abbrev XG:Stmt:=top 20
abbrev XZ:Stmt:=yq (top 23) 3
abbrev XC:Stmt:=top 27
abbrev XU:Stmt:=top 28
abbrev XR:Stmt:=yq (top 22) 0
abbrev XB:Stmt:=yq (top 23) 5
abbrev Xk:Stmt:=yq (top 29) 2
abbrev XA:Stmt:=top 38
abbrev XS:Stmt:=yq (top 29) 7
abbrev Yc:Stmt:=yq (top 23) 1
abbrev XT:Stmt:=yq (top 23) 6
abbrev XQ:Stmt:=yq (top 29) 8
abbrev Xq:Stmt:=yq (top 29) 1
abbrev Xz:Stmt:=yq (top 22) 1
abbrev Yd:Stmt:=yq (top 23) 2
abbrev Xp:Stmt:=yq (top 23) 7
abbrev XO:Stmt:=yq (top 29) 9
abbrev XV:Stmt:=yq (top 29) 4
abbrev XJ:Stmt:=yq (top 23) 8
abbrev XX:Stmt:=yq (top 29) 5
abbrev XY:Stmt:=yq (top 29) 6
abbrev Xo:Stmt:=yq (top 29) 3
abbrev XE:Stmt:=top 36
abbrev Xn:Stmt:=yq (top 29) 10
abbrev Xy:Stmt:=top 34
abbrev Xx:Stmt:=yq (top 29) 11
abbrev uh:Stmt:=top 39
theorem sc_zbd:FnScope ["_law_script"] ["_law_script"] (jc Xw):=⟨rfl,rfl,rfl,by decide +kernel,rfl,by decide +kernel,by decide +kernel⟩
theorem Jh:FnScope ["_law_town_here","_law_many","_law_row","_law_at","_law_cell","_law_mixed"] ["_law_town_here","_law_many"] (jc Xv):=⟨rfl,rfl,rfl,by decide +kernel,rfl,by decide +kernel,by decide +kernel⟩
theorem jbd:FnScope ["_law_town_here","_law_crew_here","_law_most","_law_found","_law_house"] ["_law_town_here","_law_crew_here","_law_most"] (jc XD):=⟨rfl,rfl,rfl,by decide +kernel,rfl,by decide +kernel,by decide +kernel⟩
theorem Ug:FnScope ["_law_town_here","_law_some","_law_crew_here","_law_foes"] ["_law_town_here"] (jc Yb):=⟨rfl,rfl,rfl,by decide +kernel,rfl,by decide +kernel,by decide +kernel⟩
theorem sc_zbg:FnScope ["_law_town_here","_law_some"] ["_law_town_here","_law_some"] (jc Xu):=⟨rfl,rfl,rfl,by decide +kernel,rfl,by decide +kernel,by decide +kernel⟩
theorem sc_zbo:FnScope ["thing"] ["thing"] (jc Xm):=⟨rfl,rfl,rfl,by decide +kernel,rfl,by decide +kernel,by decide +kernel⟩
theorem sc_zbh:FnScope ["thing","least","most"] ["thing","least","most"] (jc Xs):=⟨rfl,rfl,rfl,by decide +kernel,rfl,by decide +kernel,by decide +kernel⟩
theorem sc_zap:FnScope ["thing","least","most"] ["thing","least","most"] (jc XI):=⟨rfl,rfl,rfl,by decide +kernel,rfl,by decide +kernel,by decide +kernel⟩
theorem sc_zaq:FnScope ["houses"] ["houses"] (jc XH):=⟨rfl,rfl,rfl,by decide +kernel,rfl,by decide +kernel,by decide +kernel⟩
theorem sc_zbi:FnScope ["few"] ["few"] (jc Xr):=⟨rfl,rfl,rfl,by decide +kernel,rfl,by decide +kernel,by decide +kernel⟩
theorem sc_zbp:FnScope ["thing","houses"] ["thing","houses"] (jc Xl):=⟨rfl,rfl,rfl,by decide +kernel,rfl,by decide +kernel,by decide +kernel⟩
theorem sc_zbj:FnScope ["numbers"] ["numbers"] (jc JZ):=⟨rfl,rfl,rfl,by decide +kernel,rfl,by decide +kernel,by decide +kernel⟩
theorem sc_zaf:FnScope ["some","houses","most"] ["some","houses","most"] (jc Ye):=⟨rfl,rfl,rfl,by decide +kernel,rfl,by decide +kernel,by decide +kernel⟩
theorem sc_zam:FnScope ["self","houses","few","liars"] ["self","houses","few","liars"] (jc XN):=⟨rfl,rfl,rfl,by decide +kernel,rfl,by decide +kernel,by decide +kernel⟩
theorem sc_zat:FnScope ["house","houses"] ["house","houses"] (jc XF):=⟨rfl,rfl,rfl,by decide +kernel,rfl,by decide +kernel,by decide +kernel⟩
theorem sc_zan:FnScope ["self","houses","few","sender","liars"] ["self","houses","few","sender","liars"] (jc XM):=⟨rfl,rfl,rfl,by decide +kernel,rfl,by decide +kernel,by decide +kernel⟩
theorem sc_zad:FnScope ["self","liar"] ["self","liar"] (jc XW):=⟨rfl,rfl,rfl,by decide +kernel,rfl,by decide +kernel,by decide +kernel⟩
theorem sc_zar:FnScope ["house","houses","liars"] ["house","houses","liars"] (jc XG):=⟨rfl,rfl,rfl,by decide +kernel,rfl,by decide +kernel,by decide +kernel⟩
theorem sc_zaa:FnScope ["self","house"] ["self","house"] (jc XZ):=⟨rfl,rfl,rfl,by decide +kernel,rfl,by decide +kernel,by decide +kernel⟩
theorem sc_zax:FnScope ["word"] ["word"] (jc XC):=⟨rfl,rfl,rfl,by decide +kernel,rfl,by decide +kernel,by decide +kernel⟩
theorem sc_zag:FnScope ["number"] ["number"] (jc XU):=⟨rfl,rfl,rfl,by decide +kernel,rfl,by decide +kernel,by decide +kernel⟩
theorem sc_zaj:FnScope ["self","sender","house","what"] ["self","sender","house","what"] (jc XR):=⟨rfl,rfl,rfl,by decide +kernel,rfl,by decide +kernel,by decide +kernel⟩
theorem sc_zay:FnScope ["self","sender","house","what"] ["self","sender","house","what"] (jc XB):=⟨rfl,rfl,rfl,by decide +kernel,rfl,by decide +kernel,by decide +kernel⟩
theorem sc_zbq:FnScope ["self","liar","house","word","number"] ["self","liar","house","word","number"] (jc Xk):=⟨rfl,rfl,rfl,by decide +kernel,rfl,by decide +kernel,by decide +kernel⟩
theorem xM:FnScope ["_law_town_here","_law_echo","_law_foes","_law_honest","_law_number","_law_part","_law_other","_law_foe","_law_k","_law_told","_law_word"] ["_law_town_here","_law_echo","_law_foes","_law_honest","_law_number"] (jc XA):=⟨rfl,rfl,rfl,by decide +kernel,rfl,by decide +kernel,by decide +kernel⟩
theorem sc_zai:FnScope ["self","house","word"] ["self","house","word"] (jc XS):=⟨rfl,rfl,rfl,by decide +kernel,rfl,by decide +kernel,by decide +kernel⟩
theorem sc_zau:FnScope ["self"] ["self"] (jc Yc):=⟨rfl,rfl,rfl,by decide +kernel,rfl,by decide +kernel,by decide +kernel⟩
theorem jem:FnScope ["self","sender","what","house"] ["self","sender","what"] (jc XT):=⟨rfl,rfl,rfl,by decide +kernel,rfl,by decide +kernel,by decide +kernel⟩
theorem sc_zak:FnScope ["self","house","word","number"] ["self","house","word","number"] (jc XQ):=⟨rfl,rfl,rfl,by decide +kernel,rfl,by decide +kernel,by decide +kernel⟩
theorem sc_zbk:FnScope ["self","number"] ["self","number"] (jc Xq):=⟨rfl,rfl,rfl,by decide +kernel,rfl,by decide +kernel,by decide +kernel⟩
theorem sc_zba:FnScope ["self"] ["self"] (jc Xz):=⟨rfl,rfl,rfl,by decide +kernel,rfl,by decide +kernel,by decide +kernel⟩
theorem sc_zas:FnScope ["self"] ["self"] (jc Yd):=⟨rfl,rfl,rfl,by decide +kernel,rfl,by decide +kernel,by decide +kernel⟩
theorem jbc:FnScope ["self","at","letter","senders"] ["self","at"] (jc Xp):=⟨rfl,rfl,rfl,by decide +kernel,rfl,by decide +kernel,by decide +kernel⟩
theorem sc_zal:FnScope ["self","house","word","number"] ["self","house","word","number"] (jc XO):=⟨rfl,rfl,rfl,by decide +kernel,rfl,by decide +kernel,by decide +kernel⟩
theorem sc_zae:FnScope ["self","sender","house","number"] ["self","sender","house","number"] (jc XV):=⟨rfl,rfl,rfl,by decide +kernel,rfl,by decide +kernel,by decide +kernel⟩
theorem sc_zao:FnScope ["self","house","what"] ["self","house","what"] (jc XJ):=⟨rfl,rfl,rfl,by decide +kernel,rfl,by decide +kernel,by decide +kernel⟩
theorem sc_zac:FnScope ["self","house","number"] ["self","house","number"] (jc XX):=⟨rfl,rfl,rfl,by decide +kernel,rfl,by decide +kernel,by decide +kernel⟩
theorem jen:FnScope ["self","house","number","many"] ["self","house","number"] (jc XY):=⟨rfl,rfl,rfl,by decide +kernel,rfl,by decide +kernel,by decide +kernel⟩
theorem Uf:FnScope ["self","at","letter","word","number"] ["self","at"] (jc Xo):=⟨rfl,rfl,rfl,by decide +kernel,rfl,by decide +kernel,by decide +kernel⟩
theorem jel:FnScope ["_law_town_here","_law_post","_law_there"] ["_law_town_here","_law_post"] (jc XE):=⟨rfl,rfl,rfl,by decide +kernel,rfl,by decide +kernel,by decide +kernel⟩
theorem sc_zbn:FnScope ["self","house"] ["self","house"] (jc Xn):=⟨rfl,rfl,rfl,by decide +kernel,rfl,by decide +kernel,by decide +kernel⟩
theorem sc_zbb:FnScope ["_law_thing"] ["_law_thing"] (jc Xy):=⟨rfl,rfl,rfl,by decide +kernel,rfl,by decide +kernel,by decide +kernel⟩
theorem sc_zbc:FnScope ["self","house"] ["self","house"] (jc Xx):=⟨rfl,rfl,rfl,by decide +kernel,rfl,by decide +kernel,by decide +kernel⟩
theorem yQ:FnScope ["_law_script","_law_town_here","_law_some","_law_crew_here","_law_foes","_law_honest","_law_speaker","_law_echo","_law_number","_law_split_here","_law_taken","_law_turn","_law_word","_law_house","_law_told"] ["_law_script"] (jc uh):=⟨rfl,rfl,rfl,by decide +kernel,rfl,by decide +kernel,by decide +kernel⟩
def d_zbd:DS:=(yL (YM (jb (dIf (yd (dOp gScr (ya 0) (yR yb))) (dCB (jbD) (jb (ya 0) yb)) (YM (jb (dC (.int 0)) yb))) (jb (dC (.int 0)) yb))))
def jaP:List PV->Sto->Res PV:=yu 1 1 d_zbd
def jgb:DS:=(ye (yH 2 (dOp gIx (ya 0) (dC (.int 0))))
 (ye (jbZ (dOp JG (dOp gIx (ya 0) (dC (.int 1))) (dC (.int 1))) (ya 0) (dC (.int 1)))
 (ye (yH 3 (dOp jat (dOp gIx (ya 0) (dC (.int 1))) (dCB (one xD) (jb (ya 2) yb))))
 (ye (yH 4 (dOp gIx (ya 2) (ya 3)))
 (ye (sIf (yd (dOp gGe (ya 4) (dC (.int 1000000000000000000)))) (ye (jbZ (dOp jfM (ya 4) (ya 1)) (ya 2) (ya 3))
 (yL (dOp jat (ya 4) (ya 1)))) yp)
 (ye (yH 5 (dOp jat (dOp JG (ya 4) (dOp YE (dC (.int 104729)) (dOp gIx (ya 0) (dC (.int 1))))) (dC (.int 4294967291))))
 (ye (yH 5 (dOp jat (dOp gPow (ya 5) (dC (.int 5))) (dC (.int 4294967279))))
 (yL (dOp jat (dOp jfM (dOp jat (dOp JG (dOp YE (dOp jfM (ya 5) (dC (.int 64))) (dC (.int 69621))) (ya 5)) (dC (.int 4294967231))) (dC (.int 8))) (ya 1))))))))))
def yx:List PV->Sto->Res PV:=yu 2 6 jgb
def vS:DS:=(sIf (yJ (yd (dOp gLt (dCB (one xD) (jb (ya 3) yb)) (ya 2))) (yd (dOp (eqG false) (jo yx 2 0 [.p 0,.p 1] [] (jb (ya 0) (jb (dC (.int 3)) yb)) yb) (dC (.int 0))))) (yi (dMt xI (ya 3) (jb (ya 4) yb))) yp)
def jgd:DS:=(ye (yH 3 (YM yb))
 (ye (Yh 200 (vD (jb (ya 1) yb)) (gN 4) vS)
 (yL (dFrz (ya 3)))))
def VS:List PV->Sto->Res PV:=Uq (yu 3 5 jgd)
def jiP:DS:=(ye (yH 1 (jo yx 2 0 [.p 0,.p 1] [] (jb (ya 0) (jb (dC (.int 3)) yb)) yb))
 (ye (yH 2 (dOp JG (dOp JG (dOp YE (dC (.int 3)) (ya 1)) (dC (.int 1))) (jo yx 2 0 [.p 0,.p 1] [] (jb (ya 0) (jb (dC (.int 2)) yb)) yb)))
 (ye (yH 3 (jo VS 3 0 [.p 0,.p 1,.p 2] [] (jb (ya 0) (jb (ya 2) (jb (ya 1) yb))) yb))
 (yL (vU (jb (ya 1) (jb (ya 2) (jb (ya 3) (jb (xk (vD (jb (ya 2) yb)) jaL [3] (yd (dOp (gIn true) (ya 0) (ya 1))) (ya 0)) yb)))))))))
def jaO:List PV->Sto->Res PV:=yu 1 4 jiP
def jga:DS:=(yL (dOp gIx (ya 1) (jo yx 2 0 [.p 0,.p 1] [] (jb (ya 0) (jb (dCB (one xD) (jb (ya 1) yb)) yb)) yb)))
def yB:List PV->Sto->Res PV:=yu 2 2 jga
def jfX:DS:=(yL (YN (dCB (Xc) (jb (ya 0) (jb (dC (.ty "int")) yb))) (jaI (dCB (Xc) (jb (ya 0) (jb (dC (.ty "bool")) yb))))))
def VM:List PV->Sto->Res PV:=yu 1 1 jfX
def jfZ:DS:=(yL (YN (jo VM 1 0 [.p 0] [] (jb (ya 0) yb) yb) (UD gLe gLe (ya 1) (ya 0) (ya 2))))
def vE:List PV->Sto->Res PV:=yu 3 3 jfZ
def jgg:DS:=(sIf (vz (xm (jo vE 3 0 [.p 0,.p 1,.p 2] [] (jb (ya 0) (jb (ya 1) (jb (ya 2) yb))) yb))) (xN 0 (jb (jgo (jhP "not a whole number from " (jhQ (ya 1) (jhP " to " (jhQ (ya 2) jNil))))) yb)) yp)
def uq:List PV->Sto->Res PV:=yu 3 3 jgg
def jgf:DS:=(yi (jo uq 3 0 [.p 0,.p 1,.p 2] [] (jb (ya 0) (jb (dC (.int 1)) (jb (dC (.int 16)) yb))) yb))
def jcR:List PV->Sto->Res PV:=yu 1 1 jgf
def jfY:DS:=(yi (jo uq 3 0 [.p 0,.p 1,.p 2] [] (jb (ya 0) (jb (dC (.int 0)) (jb (dC (.int 5)) yb))) yb))
def YS:List PV->Sto->Res PV:=yu 1 1 jfY
def jiJ:DS:=(yL (jo vE 3 0 [.p 0,.p 1,.p 2] [] (jb (ya 0) (jb (dC (.int 0)) (jb (dOp jbC (ya 1) (dC (.int 1))) yb))) yb))
def JC:List PV->Sto->Res PV:=yu 2 2 jiJ
def jiO:DS:=(yL (dCB (one jax) (jb (xk (jic (jb (ya 0) (jb (dSl (ya 0) (dOS (dC (.int 1))) dON) yb))) jim [] YL (dOp gLt (ya 0) (ya 1))) yb)))
def jaN:List PV->Sto->Res PV:=yu 1 1 jiO
def UJ:DE:=(jo JC 2 0 [.p 0,.p 1] [] (jb (ya 0) (jb (ya 1) yb)) yb)
def jgk:DS:=(ye (sIf (dOr (vz (xm (dCB (Xc) (jb (ya 0) (jb (vU (jb (dC (.ty "list")) (jb (dC (.ty "tuple")) yb))) yb))))) (yd (dOp gGt (dCB (one xD) (jb (ya 0) yb)) (ya 2)))) (xN 3 (jb (dC (.str "not a list or tuple of houses, or too many of them")) yb)) yp)
 (sIf (dOr (vz (xm (dCB (one jax) (jb (xk (dIt (ya 0)) jaL [1] YL UJ) yb)))) (vz (xm (jo jaN 1 0 [.p 0] [] (jb (ya 0) yb) yb)))) (xN 3 (jb (dC (.str "not houses, rising, each once")) yb)) yp))
def VV:List PV->Sto->Res PV:=yu 3 3 jgk
def d_zam:DS:=(ye (yi (jo jcR 1 0 [.p 0] [] (jb (ya 1) yb) yb))
 (ye (yi (jo YS 1 0 [.p 0] [] (jb (ya 2) yb) yb))
 (ye (sIf (yd (dOp gLe (ya 1) (dOp YE (dC (.int 3)) (ya 2)))) (xN 3 (jb (dC (.str "no more than three times few")) yb)) yp)
 (ye (yi (jo VV 3 0 [.p 0,.p 1,.p 2] [] (jb (ya 3) (jb (ya 1) (jb (ya 2) yb))) yb))
 (ye (xc 12 "houses" (ya 1) (ya 0))
 (ye (xc 12 "few" (ya 2) (ya 0))
 (ye (xc 12 "liars" (dCB (one jfQ) (jb (ya 3) yb)) (ya 0))
 (ye (xc 12 "on_way" (YM yb) (ya 0))
 (xc 12 "got" dDnN (ya 0))))))))))
def jaS:List PV->Sto->Res PV:=yu 4 4 d_zam
def YK:DS:=(sIf (vz (xm (jo JC 2 0 [.p 0,.p 1] [] (jb (ya 0) (jb (ya 1) yb)) yb))) jeo yp)
def uo:List PV->Sto->Res PV:=yu 2 2 YK
def d_zan:DS:=(ye (yi (jo jaS 2 2 [.p 0,.p 1,.k 0,.k 1] [] (jb (ya 0) (jb (ya 1) yb)) (jb (ya 2) (jb (ya 4) yb))))
 (ye (yi (jo uo 2 0 [.p 0,.p 1] [] (jb (ya 3) (jb (ya 1) yb)) yb))
 (ye (xc 12 "sender" (ya 3) (ya 0))
 (ye (xc 12 "written" dDsN (ya 0))
 (xc 12 "taken" Xe (ya 0))))))
def Jd:List PV->Sto->Res PV:=yu 5 5 d_zan
def d_zad:DS:=(ye (yi (jo uo 2 0 [.p 0,.p 1] [] (jb (ya 1) (jb (yl 12 "houses" (ya 0)) yb)) yb))
 (sIf (yd (dOp (gIn true) (ya 1) (yl 12 "liars" (ya 0)))) jeo yp))
def jaU:List PV->Sto->Res PV:=yu 2 2 d_zad
def jcC:DS:=(ye (yi (jo uo 2 0 [.p 0,.p 1] [] (jb (ya 0) (jb (ya 1) yb)) yb))
 (sIf (yd (dOp (gIn false) (ya 0) (ya 2))) jeo yp))
def jaR:List PV->Sto->Res PV:=yu 3 3 jcC
def d_zaa:DS:=(yi (jo jaR 3 0 [.p 0,.p 1,.p 2] [] (jb (ya 1) (jb (yl 12 "houses" (ya 0)) (jb (yl 12 "liars" (ya 0)) yb))) yb))
def Je:List PV->Sto->Res PV:=yu 2 2 d_zaa
def d_zax:DS:=(sIf (dOr (vz (xm (dCB (Xc) (jb (ya 0) (jb (dC (.ty "str")) yb))))) (yd (dOp (gIn true) (ya 0) (dC (.tup [.str "first",.str "echo",.str "ready"]))))) (xN 2 (jb (dC (.str "not one of the three words")) yb)) yp)
def jaQ:List PV->Sto->Res PV:=yu 1 1 d_zax
def jgj:DS:=(yi (jo uq 3 0 [.p 0,.p 1,.p 2] [] (jb (ya 0) (jb (dC (.int 0)) (jb (dC (.int 999)) yb))) yb))
def YW:List PV->Sto->Res PV:=yu 1 1 jgj
def jgi:DS:=(ye (xc 10 "sender" (ya 1) (ya 0))
 (ye (xc 10 "house" (ya 2) (ya 0))
 (ye (xc 10 "what" (ya 3) (ya 0))
 (xc 10 "due" (dC .non) (ya 0)))))
def YV:List PV->Sto->Res PV:=yu 4 4 jgi
def jiT:DS:=(yi (dMt xI (yl 12 "on_way" (ya 0)) (jb (jbF 10 YV 4 0 [.p 0,.p 1,.p 2,.p 3] [] (jb (ya 1) (jb (ya 2) (jb (ya 3) yb))) yb) yb)))
def YT:List PV->Sto->Res PV:=yu 4 4 jiT
def jiI:DS:=(ye (yi (yv 12 "check_is_liar" jaU 2 0 [.p 0,.p 1] [] (ya 0) (jb (ya 1) yb) yb))
 (ye (yi (yv 12 "check_is_honest" Je 2 0 [.p 0,.p 1] [] (ya 0) (jb (ya 2) yb) yb))
 (ye (yi (jo jaQ 1 0 [.p 0] [] (jb (ya 3) yb) yb))
 (ye (yi (jo YW 1 0 [.p 0] [] (jb (ya 4) yb) yb))
 (yi (yv 12 "write" YT 4 0 [.p 0,.p 1,.p 2,.p 3] [] (ya 0) (jb (ya 1) (jb (ya 2) (jb (vU (jb (ya 3) (jb (ya 4) yb))) yb))) yb))))))
def ul:List PV->Sto->Res PV:=yu 5 5 jiI
def uS:DS:=(sIf (yJ (yd (dOp vQ (ya 9) (dC .non))) (yd (dOp gGt (jo yx 2 0 [.p 0,.p 1] [] (jb (ya 0) (jb (dC (.int 4)) yb)) yb) (dC (.int 0))))) (yi (yv 12 "lie" ul 5 0 [.p 0,.p 1,.p 2,.p 3,.p 4] [] (ya 1) (jb (ya 7) (jb (dOp gIx (ya 3) (ya 8)) (jb (ya 10) (jb (ya 9) yb)))) yb)) yp)
def uT:DS:=(ye (yH 9 (dIf (yd (dOp gLt (ya 8) (ya 5))) (ya 4) (ya 6)))
 (Yh 200 (dIt (yR (jb (dC (.str "first")) (jb (dC (.str "echo")) (jb (dC (.str "ready")) yb))))) (gN 10) uS))
def uU:DS:=(Yh 200 (vD (jb (dCB (one xD) (jb (ya 3) yb)) yb)) (gN 8) uT)
def jiS:DS:=(ye (yH 5 (jo yx 2 0 [.p 0,.p 1] [] (jb (ya 0) (jb (dOp JG (dCB (one xD) (jb (ya 3) yb)) (dC (.int 1))) yb)) yb))
 (ye (yH 6 (jo yB 2 0 [.p 0,.p 1] [] (jb (ya 0) (jb (yR (jb (dC (.int 0)) (jb (dC (.int 1)) (jb (dC .non) yb)))) yb)) yb))
 (Yh 200 (dIt (ya 2)) (gN 7) uU)))
def dx_zaz:DS:=(ye (yH 5 (jo yx 2 0 [.p 0,.p 1] [] (jb (ya 0) (jb (dOp JG (dCB (one xD) (jb (ya 3) yb)) (dC (.int 1))) yb)) yb))
 (ye (yH 6 (jo yB 2 0 [.p 0,.p 1] [] (jb (ya 0) (jb (yR (jb (dC (.int 0)) (jb (dC (.int 1)) (jb (dC .non) yb)))) yb)) yb))
 jeo))
def VR:List PV->Sto->Res PV:=jgy (yu 5 11 jiS) (yu 5 11 dx_zaz)
def d_zai:DS:=(yL (jcF false (jb (ya 1) (jb (ya 2) yb)) (yl 12 "written" (ya 0))))
def xC:List PV->Sto->Res PV:=yu 3 3 d_zai
def jiU:DS:=(yL (xk (vD (jb (yl 12 "houses" (ya 0)) yb)) jaL [0] (yd (dOp (gIn true) (ya 0) (yl 12 "liars" (ya 1)))) (ya 0)))
def VT:List PV->Sto->Res PV:=yu 1 1 jiU
def xz:DS:=(yi (yv 12 "write" YT 4 0 [.p 0,.p 1,.p 2,.p 3] [] (ya 0) (jb (ya 1) (jb (ya 3) (jb (ya 2) yb))) yb))
def d_zah:DS:=(Yh 200 (dIt (yv 12 "honest" VT 1 0 [.p 0] [] (ya 0) yb yb)) (gN 3) xz)
def jaT:List PV->Sto->Res PV:=Uq (yu 3 4 d_zah)
def d_zak:DS:=(ye (Uh (dC (.bl true)) (yl 12 "written" (ya 0)) (jb (ya 1) (jb (ya 2) yb)))
 (yi (yv 12 "write_to_all" jaT 3 0 [.p 0,.p 1,.p 2] [] (ya 0) (jb (ya 1) (jb (vU (jb (ya 2) (jb (ya 3) yb))) yb)) yb)))
def YU:List PV->Sto->Res PV:=yu 4 4 d_zak
def jiN:DS:=(ye (yi (jo YW 1 0 [.p 0] [] (jb (ya 1) yb) yb))
 (ye (sIf (yd (dOp (gIn false) (yl 12 "sender" (ya 0)) (yl 12 "liars" (ya 0)))) (xN 6 (jb (dC (.str "the sender is a liar")) yb)) yp)
 (ye (sIf (xm (yv 12 "has_written" xC 3 0 [.p 0,.p 1,.p 2] [] (ya 0) (jb (yl 12 "sender" (ya 0)) (jb (dC (.str "first")) yb)) yb)) (xN 6 (jb (dC (.str "the sender has sent")) yb)) yp)
 (yi (yv 12 "write_word" YU 4 0 [.p 0,.p 1,.p 2,.p 3] [] (ya 0) (jb (yl 12 "sender" (ya 0)) (jb (dC (.str "first")) (jb (ya 1) yb))) yb)))))
def VP:List PV->Sto->Res PV:=yu 2 2 jiN
def jiR:DS:=(yL (vU (jb (yl 10 "sender" (ya 0)) (jb (yl 10 "house" (ya 0)) (jb (yl 10 "what" (ya 0)) yb)))))
def um:List PV->Sto->Res PV:=yu 1 1 jiR
def d_zas:DS:=(yL (xk (dIt (yl 12 "on_way" (ya 0))) jaL [] YL (yv 10 "row" um 1 0 [.p 0] [] (ya 0) yb yb)))
def VU:List PV->Sto->Res PV:=yu 1 1 d_zas
def jiM:DS:=(ye (sIf (vz (xm (jo vE 3 0 [.p 0,.p 1,.p 2] [] (jb (ya 1) (jb (dC (.int 0)) (jb (dOp jbC (dCB (one xD) (jb (yl 12 "on_way" (ya 0)) yb)) (dC (.int 1))) yb))) yb))) (xN 5 (jb (dC (.str "no letter is on its way at this place")) yb)) yp)
 (ye (yH 2 (dMt YD (yl 12 "on_way" (ya 0)) (jb (ya 1) yb)))
 (ye (yH 3 (jaH (yl 12 "got" (ya 0)) (jb (yl 10 "house" (ya 2)) (jb (yl 10 "what" (ya 2)) yb)) Xe))
 (ye (Ji (dC (.bl true)) (ya 3) (yl 10 "sender" (ya 2)))
 (yL (ya 2))))))
def VO:List PV->Sto->Res PV:=yu 2 4 jiM
def jgh:DS:=(sIf (vz (xm (yv 12 "has_written" xC 3 0 [.p 0,.p 1,.p 2] [] (ya 0) (jb (ya 1) (jb (ya 2) yb)) yb))) (yi (yv 12 "write_word" YU 4 0 [.p 0,.p 1,.p 2,.p 3] [] (ya 0) (jb (ya 1) (jb (ya 2) (jb (ya 3) yb))) yb)) yp)
def ut:List PV->Sto->Res PV:=yu 4 4 jgh
def jgl:DS:=(sIf (yd (dOp (eqG false) (ya 1) (yl 12 "sender" (ya 0)))) (yi (yv 12 "write_once" ut 4 0 [.p 0,.p 1,.p 2,.p 3] [] (ya 0) (jb (ya 2) (jb (dC (.str "echo")) (jb (ya 3) yb))) yb)) yp)
def VW:List PV->Sto->Res PV:=yu 4 4 jgl
def d_zao:DS:=(yL (dCB (one jaw) (jb (jcG (yl 12 "got" (ya 0)) (jb (ya 1) (jb (ya 2) yb)) Xe) yb)))
def Jc:List PV->Sto->Res PV:=yu 3 3 d_zao
def jgm:DS:=(sIf (yd (dOp gGt (dOp YE (dC (.int 2)) (yv 12 "many_got" Jc 3 0 [.p 0,.p 1,.p 2] [] (ya 0) (jb (ya 1) (jb (vU (jb (dC (.str "echo")) (jb (ya 2) yb))) yb)) yb)) (dOp JG (yl 12 "houses" (ya 0)) (yl 12 "few" (ya 0))))) (yi (yv 12 "write_once" ut 4 0 [.p 0,.p 1,.p 2,.p 3] [] (ya 0) (jb (ya 1) (jb (dC (.str "ready")) (jb (ya 2) yb))) yb)) yp)
def VX:List PV->Sto->Res PV:=yu 3 3 jgm
def d_zab:DS:=(ye (yH 3 (yv 12 "many_got" Jc 3 0 [.p 0,.p 1,.p 2] [] (ya 0) (jb (ya 1) (jb (vU (jb (dC (.str "ready")) (jb (ya 2) yb))) yb)) yb))
 (ye (sIf (yd (dOp gGt (ya 3) (yl 12 "few" (ya 0)))) (yi (yv 12 "write_once" ut 4 0 [.p 0,.p 1,.p 2,.p 3] [] (ya 0) (jb (ya 1) (jb (dC (.str "ready")) (jb (ya 2) yb))) yb)) yp)
 (sIf (yd (dOp gGt (ya 3) (dOp YE (dC (.int 2)) (yl 12 "few" (ya 0))))) (yi (Vy (yl 12 "taken" (ya 0)) (ya 1) (ya 2))) yp)))
def YX:List PV->Sto->Res PV:=yu 3 4 d_zab
def jiL:DS:=(ye (yH 2 (yv 12 "take" VO 2 0 [.p 0,.p 1] [] (ya 0) (jb (ya 1) yb) yb))
 (ye (jbe (yl 10 "what" (ya 2)) (gT 2 (uy (gN 3) (uy (gN 4) jfG))))
 (ye (sIf (yd (dOp (eqG false) (ya 3) (dC (.str "first")))) (yi (yv 12 "look_at_first" VW 4 0 [.p 0,.p 1,.p 2,.p 3] [] (ya 0) (jb (yl 10 "sender" (ya 2)) (jb (yl 10 "house" (ya 2)) (jb (ya 4) yb))) yb)) yp)
 (ye (sIf (yd (dOp (eqG false) (ya 3) (dC (.str "echo")))) (yi (yv 12 "look_at_echoes" VX 3 0 [.p 0,.p 1,.p 2] [] (ya 0) (jb (yl 10 "house" (ya 2)) (jb (ya 4) yb)) yb)) yp)
 (ye (sIf (yd (dOp (eqG false) (ya 3) (dC (.str "ready")))) (yi (yv 12 "look_at_readies" YX 3 0 [.p 0,.p 1,.p 2] [] (ya 0) (jb (yl 10 "house" (ya 2)) (jb (ya 4) yb)) yb)) yp)
 (yL (yv 10 "row" um 1 0 [.p 0] [] (ya 2) yb yb)))))))
def VN:List PV->Sto->Res PV:=yu 2 5 jiL
def jge:DS:=(ye (yH 2 (dCB (one xD) (jb (yv 12 "letters" VU 1 0 [.p 0] [] (ya 1) yb yb) yb)))
 (yL (dIf (yd (dOp gGt (ya 2) (dC (.int 0)))) (yv 12 "come" VN 2 0 [.p 0,.p 1] [] (ya 1) (jb (jo yx 2 0 [.p 0,.p 1] [] (jb (ya 0) (jb (ya 2) yb)) yb) yb) yb) (dC .non))))
def vW:List PV->Sto->Res PV:=yu 2 3 jge
def jiK:DS:=(ye (yi (yv 12 "check_is_honest" Je 2 0 [.p 0,.p 1] [] (ya 0) (jb (ya 1) yb) yb))
 (yL (UC (yl 12 "taken" (ya 0)) (ya 1))))
def jaM:List PV->Sto->Res PV:=yu 2 2 jiK
def jgc:DS:=(yL (YN (dCB (Xc) (jb (ya 0) (jb (dC (.ty "int")) yb))) (jaI (dCB (Xc) (jb (ya 0) (jb (dC (.ty "bool")) yb))))))
def JD:List PV->Sto->Res PV:=yu 1 1 jgc
def jiQ:DS:=(ye (yi (yv 12 "check_is_honest" Je 2 0 [.p 0,.p 1] [] (ya 0) (jb (ya 1) yb) yb))
 (ye (sIf (yd (dOp (Xb false) (ya 1) (yl 12 "taken" (ya 0)))) (yL (dC (.int 3))) yp)
 (ye (sIf (xm (yv 12 "has_written" xC 3 0 [.p 0,.p 1,.p 2] [] (ya 0) (jb (ya 1) (jb (dC (.str "ready")) yb)) yb)) (yL (dC (.int 2))) yp)
 (yL (dIf (xm (yv 12 "has_written" xC 3 0 [.p 0,.p 1,.p 2] [] (ya 0) (jb (ya 1) (jb (dC (.str "echo")) yb)) yb)) (dC (.int 1)) (dC (.int 0)))))))
def VQ:List PV->Sto->Res PV:=yu 2 2 jiQ
def vT:DS:=(ye (yH 14 (yv 12 "took" jaM 2 0 [.p 0,.p 1] [] (ya 7) (jb (ya 13) yb) yb))
 (ye (sIf (dOr (yJ (yd (dOp (Xb false) (ya 13) (ya 10))) (yd (dOp (eqG true) (ya 14) (jid (ya 10) (ya 13))))) (yJ (yd (dOp vQ (ya 14) (dC .non))) (vz (xm (jo JD 1 0 [.p 0] [] (jb (ya 14) yb) yb))))) (yL (dC (.bl false))) yp)
 (ye (sIf (yd (dOp vQ (ya 14) (dC .non))) (Ji (ya 14) (ya 10) (ya 13)) yp)
 (sIf (dOr (yd (dOp (eqG true) (dOp vQ (ya 14) (dC .non)) (dOp (eqG false) (yv 12 "stage" VQ 2 0 [.p 0,.p 1] [] (ya 7) (jb (ya 13) yb) yb) (dC (.int 3))))) (yJ (yd (dOp (gIn true) (ya 6) (ya 4))) (yd (dOp (gIn true) (ya 14) (vU (jb (dC .non) (jb (ya 8) yb))))))) (yL (dC (.bl false))) yp))))
def uW:DS:=(ye (sIf (yJ (yd (dOp (eqG true) (ya 4) (yR yb))) (yJ (vz (xm (ya 9))) (yd (dOp (eqG false) (jo yx 2 0 [.p 0,.p 1] [] (jb (ya 1) (jb (dC (.int 2)) yb)) yb) (dC (.int 0)))))) (ye (yH 12 (jo yB 2 0 [.p 0,.p 1] [] (jb (ya 1) (jb (yR (jb (dC (.str "first")) (jb (dC (.str "echo")) (jb (dC (.str "echo")) (jb (dC (.str "ready")) yb))))) yb)) yb))
 (yi (yv 12 "lie" ul 5 0 [.p 0,.p 1,.p 2,.p 3,.p 4] [] (ya 7) (jb (jo yB 2 0 [.p 0,.p 1] [] (jb (ya 1) (jb (ya 4) yb)) yb) (jb (jo yB 2 0 [.p 0,.p 1] [] (jb (ya 1) (jb (ya 5) yb)) yb) (jb (ya 12) (jb (jo yB 2 0 [.p 0,.p 1] [] (jb (ya 1) (jb (yR (jb (ya 8) (jb (dC (.int 0)) (jb (dC (.int 1)) yb)))) yb)) yb) yb)))) yb))) (yi (jo vW 2 0 [.p 0,.p 1] [] (jb (ya 1) (jb (ya 7) yb)) yb)))
 (Yh 200 (dIt (ya 5)) (gN 13) vT))
def jaF:DS:=(ye (yH 1 (jo jaP 1 0 [.p 0] [] (jb (ya 0) yb) yb))
 (ye (jbe (jo jaO 1 0 [.p 0] [] (jb (ya 1) yb) yb) (gT 4 (uy (gN 2) (uy (gN 3) (uy (gN 4) (uy (gN 5) jfG))))))
 (ye (yH 6 (dIf (yJ (yd (dOp (eqG true) (ya 4) (yR yb))) (yd (dOp (eqG false) (jo yx 2 0 [.p 0,.p 1] [] (jb (ya 1) (jb (dC (.int 2)) yb)) yb) (dC (.int 0))))) (jo yB 2 0 [.p 0,.p 1] [] (jb (ya 1) (jb (ya 4) yb)) yb) (jo yx 2 0 [.p 0,.p 1] [] (jb (ya 1) (jb (ya 3) yb)) yb)))
 (ye (yH 7 (dIf (yd (dOp (eqG false) (ya 6) (dC (.int 0)))) (jbF 12 Jd 2 2 [.p 0,.p 1,.k 0,.d 0,.k 1] [.int 0] (jb (ya 3) yb) (jb (ya 2) (jb (ya 4) yb))) (jbF 12 Jd 2 3 [.p 0,.p 1,.k 0,.k 1,.k 2] [] (jb (ya 3) yb) (jb (ya 2) (jb (ya 6) (jb (ya 4) yb))))))
 (ye (yH 8 (jo yx 2 0 [.p 0,.p 1] [] (jb (ya 1) (jb (dC (.int 1000)) yb)) yb))
 (ye (yH 9 (dOp (eqG false) (jo yx 2 0 [.p 0,.p 1] [] (jb (ya 1) (jb (dC (.int 2)) yb)) yb) (dC (.int 0))))
 (ye (sIf (xm (ya 9)) (yi (jo VR 5 0 [.p 0,.p 1,.p 2,.p 3,.p 4] [] (jb (ya 1) (jb (ya 7) (jb (ya 4) (jb (ya 5) (jb (jo yB 2 0 [.p 0,.p 1] [] (jb (ya 1) (jb (yR (jb (ya 8) (jb (dC (.int 7)) yb))) yb)) yb) yb))))) yb)) yp)
 (ye (sIf (yd (dOp (gIn true) (ya 6) (ya 4))) (yi (yv 12 "send" VP 2 0 [.p 0,.p 1] [] (ya 7) (jb (ya 8) yb) yb)) yp)
 (ye (yH 10 Xe)
 (ye (Yh 200 (vD (jb (dC (.int 70)) yb)) (gN 11) uW)
 (yL (dOp gLt (jcD (Jt 10)) (dC (.int 2))))))))))))))
def Tw (M:Sto):Prop:=∃ ns c,Town M ns c
theorem jgD (ns:List Int):∃ M,jaP [.scr ns] ⟨0,fun _=>none⟩ = .ok (.ref 1) M∧Tw M∧M.n=2:=by
 cases ns with
 | nil=>exact ⟨_,rfl,⟨[0],0,rfl,rfl,by simp,Nat.le_refl _⟩,rfl⟩
 | cons n r=>exact ⟨_,rfl,⟨n :: r,0,rfl,rfl,by simp,Nat.le_refl _⟩,rfl⟩
theorem yP {M:Sto} (T:Tw M) {k:Int} (h1:1<=k) (h2:k < 1073741824):∃ d M',yx [.ref 1,.int k] M = .ok (.int d) M'∧0<=d∧d < k∧Tw M'∧Off M M':=by
 obtain ⟨ns,c,T⟩:=T
 have hl:(0:Int) < (ns.length:Int):=by
  have:ns.length≠0:=fun z=>T.ne (List.eq_nil_of_length_eq_zero z)
  omega
 have e0:yx [.ref 1,.int k] M=fin (jgb [some (.ref 1),some (.int k),none,none,none,none] M):=rfl;rw [e0];have a1:=ve T.tw;have a0:=ve T.row
 obtain ⟨M1,eM1⟩:∃ M1,M1=M.set 1 (.lst [.ref 0,.int (c + 1)]):=⟨_,rfl⟩
 have g0:M1.g 0=some (.lst (ns.map PV.int)):=by rw [eM1,Sto.set_ne (by decide)]; exact T.row
 have g1:M1.g 1=some (.lst [.ref 0,.int (c + 1)]):=by rw [eM1,Sto.set_same]
 have gi:∀ i,2<=i->i < M.n->M1.g i=M.g i:=fun i hi _=>by rw [eM1,Sto.set_ne (by omega)]
 have n1:M1.n=M.n:=by rw [eM1]; rfl
 have p1:jhi M (.ref 1) (.int 1) (.int (c + 1))=some M1:=by
  show (match M.g 1 with
   | some (.lst xs)=>(ixN xs.length 1).map fun n=>M.set 1 (.lst (xs.set n (.int (c + 1))))
   | _=>none)=_
  rw [T.tw,eM1];rfl
 have at0:0<=(c + 1) % (ns.length:Int):=Int.emod_nonneg _ (by omega);have at1:(c + 1) % (ns.length:Int) < ns.length:=Int.emod_lt_of_pos _ hl
 obtain ⟨at_,eat⟩:∃ a,a=(c + 1) % (ns.length:Int):=⟨_,rfl⟩
 rw [<- eat] at at0 at1
 obtain ⟨cell,ecell⟩:∃ z,ns[at_.toNat]? = some z:=⟨_,List.getElem?_eq_getElem (by omega)⟩
 have b1:=ve g1;have b0:=ve g0;unfold jgb
 have s1:dOp gIx (ya 0) (dC (.int 0)) [some (.ref 1),some (.int k),none,none,none,none] M = .ok (.ref 0) M:=by
  simp [uz a1]; rfl
 have ix0:atI (ns.map PV.int) at_=some (.int cell):=by
  rw [UM at0 (by simpa using at1),List.getElem?_map,ecell];rfl
 simp [s1,uz a1,uz b1,uz b0,xJ b0,jbZ,p1,UM,vc hl,<- eat,ix0,dMt]
 by_cases hc:1000000000000000000<=cell
 ·rw [if_pos hc,YF (by omega) h2]
  obtain ⟨M2,eM2⟩:∃ M2,M2=M1.set 0 (.lst ((ns.set at_.toNat (cell / k)).map PV.int)):=⟨_,rfl⟩
  have p2:jhi M1 (.ref 0) (.int at_) (.int (cell / k))=some M2:=by
   show (match M1.g 0 with
    | some (.lst xs)=>(ixN xs.length at_).map fun n=>M1.set 0 (.lst (xs.set n (.int (cell / k))))
    | _=>none)=_
   rw [g0,eM2]
   have:ixN (ns.map PV.int).length at_=some at_.toNat:=by
    unfold ixN;rw [if_pos at0,if_pos (by simpa using at1)]
   simp only [this];rw [List.map_set];rfl
  simp [p2,vc (show 0 < k by omega)];refine ⟨_,_,⟨rfl,rfl⟩,Int.emod_nonneg _ (by omega),Int.emod_lt_of_pos _ (by omega),⟨ns.set at_.toNat (cell / k),c + 1,?_,?_,?_,?_⟩,?_,fun i hi hn=>?_⟩
  ·rw [eM2,Sto.set_same]
  ·rw [eM2,Sto.set_ne (by decide)]; exact g1
  ·intro z
   have:=congrArg List.length z
   rw [List.length_set] at this;exact T.ne (List.eq_nil_of_length_eq_zero this)
  ·rw [eM2]; show 2<=M1.n; rw [n1]; exact T.n
  ·rw [eM2]; exact Nat.le_of_eq n1.symm
  ·rw [eM2,Sto.set_ne (by omega)]; exact gi i hi hn
 ·rw [if_neg hc]
  obtain ⟨x,ex⟩:∃ x,x=(cell + 104729 * (c + 1)) % 4294967291:=⟨_,rfl⟩
  have x0:0<=x:=by rw [ex]; exact Int.emod_nonneg _ (by decide)
  have x1:x < 4294967291:=by rw [ex]; exact Int.emod_lt_of_pos _ (by decide)
  obtain ⟨y,ey⟩:∃ y,y=x ^ 5 % 4294967279:=⟨_,rfl⟩
  have y0:0<=y:=by rw [ey]; exact Int.emod_nonneg _ (by decide)
  have y1:y < 4294967279:=by rw [ey]; exact Int.emod_lt_of_pos _ (by decide)
  have ix1:atI [PV.ref 0,PV.int (c + 1)] 1=some (.int (c + 1)):=rfl
  simp [uz b1,ix1,xZ (i:=104729) (j:=c + 1) (.inl (by decide)),vc (show (0:Int) < 4294967291 by decide),<- ex,jfL (i:=x) (j:=5) (by decide) (by decide) (by omega),vc (show (0:Int) < 4294967279 by decide),<- ey,
   YF (show (0:Int) < 64 by decide) (by decide),xZ (i:=y / 64) (j:=69621) (.inr (by decide)),vc (show (0:Int) < 4294967231 by decide),YF (show (0:Int) < 8 by decide) (by decide),vc (show 0 < k by omega)]
  exact ⟨_,_,⟨rfl,rfl⟩,Int.emod_nonneg _ (by omega),Int.emod_lt_of_pos _ (by omega),⟨ns,c + 1,g0,g1,T.ne,by rw [n1]; exact T.n⟩,Nat.le_of_eq n1.symm,gi⟩
theorem Ul {M:Sto} (T:Tw M) {xs:List PV} (hne:xs≠[]) (hl:xs.length < 1073741824):∃ x M',yB [.ref 1,.lst xs] M = .ok x M'∧x ∈ xs∧Tw M'∧Off M M':=by
 have h0:xs.length≠0:=fun z=>hne (List.eq_nil_of_length_eq_zero z);obtain ⟨d,M',e,d0,d1,T',o⟩:=yP T (k:=(xs.length:Int)) (by omega) (by omega)
 have hd:d.toNat < xs.length:=by omega
 refine ⟨xs[d.toNat],M',?_,List.getElem_mem hd,T',o⟩;have e0:yB [.ref 1,.lst xs] M=fin (jga [some (.ref 1),some (.lst xs)] M):=rfl;rw [e0];unfold jga;simp [yo,gen,xJ (M:=M) (x:=.lst xs) rfl,e,uz (M:=M') (x:=.lst xs) rfl,UM d0 d1,List.getElem?_eq_getElem hd]
theorem jfp {M:Sto} (T:Tw M) {crew most:Int} (h0:0<=crew) (h1:crew<=1000) (hm:0<=most):∃ (fs:List Int) (M':Sto),VS [.ref 1,.int crew,.int most] M = .ok (.lst (fs.map PV.int)) M'∧(fs.length:Int)<=most∧(∀ f ∈ fs,0<=f∧f < crew)∧fs.Pairwise (· < ·)∧Tw M'∧Off M M':=by
 have hn2:2<=M.n:=by obtain ⟨ns,c,t⟩:=T; exact t.n
 have e0:VS [.ref 1,.int crew,.int most] M=(fin (jgd [some (.ref 1),some (.int crew),some (.int most),none,none] M)).noX:=rfl;have sz:(0:Nat)<=sizeLine:=Nat.zero_le _
 have T0:Tw (M.new (.lst [])):=by
  obtain ⟨ns,c,t⟩:=T;exact ⟨ns,c,by rw [Sto.new_ne (by omega)]; exact t.row,by rw [Sto.new_ne (by omega)]; exact t.tw,t.ne,Nat.le_succ_of_le t.n⟩
 have dr:vD (jb (ya 1) yb) [some (.ref 1),some (.int crew),some (.int most),some (.ref M.n),none] (M.new (.lst [])) = .ok (.fix (xS 0 crew.toNat)) (M.new (.lst [])):=by
  have:vB crew=true:=xa.mpr (by omega)
  simp [vD,this]
 have lp:=xX (g:=gN 4) (db:=vS)
  (fun i ρ M'=>∃ (h:Option PV) (fs:List Int),ρ=[some (.ref 1),some (.int crew),some (.int most),some (.ref M.n),h]∧M'.g M.n=some (.lst (fs.map PV.int))∧Tw M'∧M.n < M'.n∧(∀ j,2<=j->j < M.n->M'.g j=M.g j)∧(fs.length:Int)<=most∧(∀ f ∈ fs,0<=f∧f < i)∧fs.Pairwise (· < ·)∧fs.length<=i)
  (xS 0 crew.toNat) 0 [some (.ref 1),some (.int crew),some (.int most),some (.ref M.n),none] (M.new (.lst []))
  ⟨none,[],rfl,Sto.new_same,T0,Nat.lt_succ_self _,fun j _ hj=>Sto.new_ne (by omega),by simpa using hm,by simp,.nil,Nat.le_refl _⟩ (by
   rintro i x hx ρ M1 ⟨hh,fs,rfl,g1,T1,n1,of1,len1,mem1,pw1,li1⟩;rw [Yi] at hx;split at hx
   ·rename_i hi;cases hx;generalize hzi:(0 + (i:Int))=z;obtain ⟨d,M2,ed,d0,d1,T2,o2⟩:=yP T1 (k:=3) (by decide) (by decide)
    have g2:M2.g M.n=some (.lst (fs.map PV.int)):=by rw [o2.g M.n hn2 n1]; exact g1
    have of2:∀ j,2<=j->j < M.n->M2.g j=M.g j:=fun j hj hn=>by rw [o2.g j hj (by omega)]; exact of1 j hj hn
    have n2:M.n < M2.n:=Nat.lt_of_lt_of_le n1 o2.n
    have mem2:∀ f ∈ fs,0<=f∧f < ((0 + i + 1:Nat):Int):=fun f hf=>by have:=mem1 f hf; omega
    have stay1:∃ (h:Option PV) (fs:List Int),[some (.ref 1),some (.int crew),some (.int most),some (.ref M.n),some (PV.int z)]=[some (.ref 1),some (.int crew),some (.int most),some (.ref M.n),h]∧M1.g M.n=some (.lst (fs.map PV.int))∧Tw M1∧M.n < M1.n∧(∀ j,2<=j->j < M.n->M1.g j=M.g j)∧(fs.length:Int)<=most∧(∀ f ∈ fs,0<=f∧f < ((0 + i + 1:Nat):Int))∧fs.Pairwise (· < ·)∧fs.length<=0 + i + 1:=⟨_,fs,rfl,g1,T1,n1,of1,len1,mem2,pw1,by omega⟩
    have lenE:xD M1 (.ref M.n)=some (.int fs.length):=by
     rw [xJ (ve g1),List.length_map]
    by_cases hl:(fs.length:Int) < most
    ·by_cases hd:d=0
     ·subst hd;have eq:eqG false M2 (.int 0) (.int 0)=some (.bl true):=rfl
      have hz:fs.length < sizeLine:=by
       exact Nat.lt_of_le_of_lt (show fs.length<=1000 by omega) (by decide)
      have ap:xI M2 (.ref M.n) [.int z]=some (.non,M2.set M.n (.lst ((fs ++ [z]).map PV.int))):=by
       unfold xI
       have:VC M2 (.ref M.n)=some (M.n,fs.map PV.int):=by
        show (match M2.g M.n with
         | some (.lst xs)=>some (M.n,xs)
         | _=>none)=_
        rw [g2]
       rw [this];simp [hz]
      refine ⟨_,[some (.ref 1),some (.int crew),some (.int most),some (.ref M.n),some (PV.int z)],M2.set M.n (.lst ((fs ++ [z]).map PV.int)),rfl,?_,_,fs ++ [z],rfl,Sto.set_same,?_,n2,fun j hj hn=>?_,by simp; omega,fun f hf=>?_,?_,by simp; omega⟩
      ·have sq:yV M2 (.ref M.n)=some (fs.map PV.int):=vI g2;simp [vS,yo,gen,gN,lenE,hl,ed,eq,dMt,sq,ap]
      ·obtain ⟨ns,c,t⟩:=T2;exact ⟨ns,c,by rw [Sto.set_ne (by omega)]; exact t.row,by rw [Sto.set_ne (by omega)]; exact t.tw,t.ne,t.n⟩
      ·rw [Sto.set_ne (by omega)];exact of2 j hj hn
      ·rcases List.mem_append.mp hf with hf | hf
       ·exact mem2 f hf
       ·rw [List.mem_singleton.mp hf];omega
      ·refine List.pairwise_append.mpr ⟨pw1,List.pairwise_singleton _ _,fun a ha b hb=>?_⟩;rw [List.mem_singleton.mp hb]
       have:=mem1 a ha
       omega
     ·have eq:eqG false M2 (.int d) (.int 0)=some (.bl false):=by
       show some (PV.bl (d == 0))=_;rw [show (d == 0)=false by simpa using hd]
      refine ⟨_,[some (.ref 1),some (.int crew),some (.int most),some (.ref M.n),some (PV.int z)],M2,rfl,?_,_,fs,rfl,g2,T2,n2,of2,len1,mem2,pw1,by omega⟩;simp [vS,yo,gen,gN,lenE,hl,ed,eq]
    ·refine ⟨_,[some (.ref 1),some (.int crew),some (.int most),some (.ref M.n),some (PV.int z)],M1,rfl,?_,stay1⟩;simp [vS,gN,lenE,hl]
   ·cases hx)
 obtain ⟨ρ',M',e,hh,fs,rfl,g',T',n',of',len',mem',pw',_⟩:=lp;rw [xR] at mem';refine ⟨fs,M'.drop M.n,?_,len',fun f hf=>by have:=mem' f hf; omega,pw',?_,Nat.le_of_lt n',fun i hi hn=>?_⟩
 ·rw [e0];unfold jgd
  have e1:(YM yb [some (.ref 1),some (.int crew),some (.int most),none,none] M) = .ok (.ref M.n) (M.new (.lst [])):=by simp [sz]
  simp only [jgR,jgQ,e1,Res.st_ok,RS.then_nx,List.set_cons_succ,List.set_cons_zero];rw [xq dr,e];simp [dFrz,g']
 ·obtain ⟨ns,c,t⟩:=T';exact ⟨ns,c,by show (if 0=M.n then none else M'.g 0)=_; rw [if_neg (by omega)]; exact t.row,by show (if 1=M.n then none else M'.g 1)=_; rw [if_neg (by omega)]; exact t.tw,t.ne,t.n⟩
 ·show (if i=M.n then none else M'.g i)=_;rw [if_neg (by omega)];exact of' i hi hn

def VY:PV->Bool
 | .int _=>true
 | _=>false
def jaq (x:PV) (a b:Int):Bool:=match x with
 | .int i=>decide (a<=i) && decide (i<=b)
 | _=>false
def Kd (M:Sto) (x:PV):Prop:=∃ n,Jy M x=some n
theorem Uv {M:Sto} {x:PV} {n m:String} (h:Jy M x=some n) (hm:m ∈ yT):Xc M [x,.ty m]=some (.bl (sub n m),M):=by
 show (match Jy M x with
  | some n=>if m ∈ yT then some (PV.bl (sub n m),M) else none
  | none=>none)=_
 rw [h];exact if_pos hm
theorem Xg {M:Sto} {x:PV} {n:String} (h:Jy M x=some n):(sub n "int" && !sub n "bool")=VY x:=by
 cases x with
 | ref i =>
  have h:(match M.g i with
   | some (.lst _)=>some "list"
   | _=>none)=some n:=h
  split at h
  ·cases h; rfl
  ·cases h
 | non=>cases h; rfl
 | bl _=>cases h; rfl
 | int _=>cases h; rfl
 | str _=>cases h; rfl
 | tup _=>cases h; rfl
 | lst _=>cases h; rfl
 | dct _=>cases h; rfl
 | _=>cases h
theorem jan {M:Sto} {x:PV} (h:Kd M x):VM [x] M = .ok (.bl (VY x)) M:=by
 obtain ⟨n,h⟩:=h;have e0:VM [x] M=fin (jfX [some x] M):=rfl;rw [e0,<- Xg h];unfold jfX;simp [YN,jaI,Uv h (show "int" ∈ yT by decide),Uv h (show "bool" ∈ yT by decide)];cases sub n "int" <;> simp
theorem Uu {M:Sto} {x:PV} (h:Kd M x):JD [x] M = .ok (.bl (VY x)) M:=by
 obtain ⟨n,h⟩:=h;have e0:JD [x] M=fin (jgc [some x] M):=rfl;rw [e0,<- Xg h];unfold jgc;simp [YN,jaI,Uv h (show "int" ∈ yT by decide),Uv h (show "bool" ∈ yT by decide)];cases sub n "int" <;> simp
theorem vw {M:Sto} {x:PV} {a b:Int} (h:Kd M x):vE [x,.int a,.int b] M = .ok (.bl (jaq x a b)) M:=by
 have e0:vE [x,.int a,.int b] M=fin (jfZ [some x,some (.int a),some (.int b)] M):=rfl;rw [e0];unfold jfZ;simp [yo,gen,jan h,YN,UD]
 cases x with
 | int i =>
  simp [VY,jaq]
  by_cases h:a<=i <;> simp [h]
 | _=>rfl
theorem Kd.int {M:Sto} (i:Int):Kd M (.int i):=⟨_,rfl⟩
theorem jA {M:Sto} {x:PV} {a b:Int} (h:Kd M x) (ha:vB a=true) (hb:vB b=true):uq [x,.int a,.int b] M=if jaq x a b=true then .ok .non M else .exc 0 M:=by
 have e0:uq [x,.int a,.int b] M=fin (jgg [some x,some (.int a),some (.int b)] M):=rfl;rw [e0];unfold jgg;simp [yo,gen,vw h]
 cases jaq x a b with
 | true=>simp
 | false =>
  have sz:(1:Nat)<=sizeLine:=by decide
  simp [jgo,jhP,jhQ,jNil,ha,hb,sz]
theorem UG {M:Sto} {x:PV} (h:Kd M x):YS [x] M=if jaq x 0 5=true then .ok .non M else .exc 0 M:=by
 have e0:YS [x] M=fin (jfY [some x] M):=rfl;rw [e0];unfold jfY;simp [yo,gen,jA h (a:=0) (b:=5) (by decide) (by decide)];cases jaq x 0 5 <;> simp
theorem Jp {M:Sto} {n m:Int}:eqG false M (.int n) (.int m)=some (.bl (n == m)):=rfl
theorem ne_len {M:Sto} {n m:Int}:eqG true M (.int n) (.int m)=some (.bl (!(n == m))):=rfl
theorem jgI {n:Nat} (h:n<=1000):n < sizeLine:=Nat.lt_of_le_of_lt h (by decide)
theorem Ud {M:Sto} {c:Nat} {x y:Cell}:(M.set c x).set c y=M.set c y:=by
 unfold Sto.set;congr 1;funext j
 by_cases h:j=c <;> simp [h]
structure Ex (M M':Sto):Prop where
 n:M.n<=M'.n
 g:∀ i,i < M.n->M'.g i=M.g i
theorem Ex.refl (M:Sto):Ex M M:=⟨Nat.le_refl _,fun _ _=>rfl⟩
theorem Ex.trans {A B C:Sto} (h:Ex A B) (k:Ex B C):Ex A C:=⟨Nat.le_trans h.n k.n,fun i hi=>(k.g i (Nat.lt_of_lt_of_le hi h.n)).trans (h.g i hi)⟩
theorem Ex.tw {M M':Sto} (h:Ex M M') (T:Tw M):Tw M':=by
 obtain ⟨ns,c,t⟩:=T
 have:=t.n
 exact ⟨ns,c,by rw [h.g 0 (by omega)]; exact t.row,by rw [h.g 1 (by omega)]; exact t.tw,t.ne,Nat.le_trans t.n h.n⟩
theorem Vw:∀ ns:List Int,vd (ns.map PV.int)=0
 | []=>rfl
 | _ :: ns=>by
  show max 0 (vd (ns.map PV.int))=0;rw [Vw ns];rfl
theorem UZ (ns:List Int):plain (.lst (ns.map PV.int))=true:=vL ns
theorem jdC (ns:List Int):dep (.lst (ns.map PV.int))<=60:=by
 show vd (ns.map PV.int) + 1<=60;rw [Vw];decide
theorem uR {M:Sto} {i k:Nat} {fs:List (Str × PV)} (h:M.g i=some (.ins k fs)):YA M k (.ref i)=some (i,fs):=by
 show (match M.g i with
  | some (.ins c fs)=>if c=k then some (i,fs) else none
  | _=>none)=_
 rw [h];exact if_pos rfl
def hon (n:Nat) (fs:List Int):List Int:=((List.range n).map fun k:Nat=>(0 + (k:Int))).filter fun h=>!decide (h ∈ fs)
theorem uQ {n:Nat} {fs:List Int} {h:Int}:h ∈ hon n fs↔(0<=h∧h < n)∧h ∉ fs:=by
 unfold hon;rw [List.mem_filter,List.mem_map];constructor
 ·rintro ⟨⟨k,hk,rfl⟩,h2⟩
  have:=List.mem_range.mp hk
  exact ⟨⟨by omega,by omega⟩,by simpa using h2⟩
 ·rintro ⟨⟨h0,h1⟩,h2⟩;exact ⟨⟨h.toNat,List.mem_range.mpr (by omega),by omega⟩,by simpa using h2⟩
theorem jcc (n:Nat):xS 0 n=((List.range n).map fun k:Nat=>(0 + (k:Int))).map PV.int:=by
 unfold xS;rw [List.map_map];rfl
theorem jdK {α:Type} {f:Sto->Option (List PV)} {bnd:PV->En->Option En} {r:En} {dt:DT} {de:DE} {M:Sto} (f0 g:α->PV) (as:List α) (hf:f M=some (as.map f0))
  (hx:∀ a ∈ as,∃ ρ,bnd (f0 a) r=some ρ∧dt ρ M = .ok true M∧de ρ M = .ok (g a) M):∀ (rst:List α) (k:Nat),as.drop k=rst->yC (.gen f) bnd r dt de (rst.length + 1) k M = .ok (rst.map g) M:=by
 intro rst
 induction rst with
 | nil =>
  intro k hk
  have e:nxt (.gen f) M k=some none:=by
   show (f M).map (fun xs=>xs[k]?)=_;rw [hf];show some ((as.map f0)[k]?)=_;rw [List.getElem?_map,List.getElem?_eq_none (by have:=congrArg List.length hk; simp at this; omega)];rfl
  show (match nxt (.gen f) M k with
   | none=>Res.bad
   | some none=>.ok [] M
   | some (some x)=>_)=_
  rw [e];rfl
 | cons a rst ih =>
  intro k hk
  have ea:as[k]? = some a:=by
   have:=congrArg (fun l=>l[0]?) hk
   simpa [List.getElem?_drop] using this
  have e:nxt (.gen f) M k=some (some (f0 a)):=by
   show (f M).map (fun xs=>xs[k]?)=_;rw [hf];show some ((as.map f0)[k]?)=_;rw [List.getElem?_map,ea];rfl
  have hk1:as.drop (k + 1)=rst:=by
   have:=congrArg (List.drop 1) hk
   simpa [List.drop_drop] using this
  obtain ⟨ρ,h1,h2,h3⟩:=hx a (List.mem_of_getElem? ea)
  show (match nxt (.gen f) M k with
   | none=>Res.bad
   | some none=>.ok [] M
   | some (some x)=>match bnd x r with
    | none=>.bad
    | some ρ=>(dt ρ M).noX.bind fun b M1=>if b=true then (de ρ M1).noX.bind fun y M2=>(yC (.gen f) bnd r dt de (rst.length + 1) (k + 1) M2).bind fun ys M3=>.ok (y :: ys) M3 else yC (.gen f) bnd r dt de (rst.length + 1) (k + 1) M1)=_
  rw [e];simp only [h1,h2,h3,jfh,Res.bind_ok,if_true,ih (k + 1) hk1];rfl
theorem jdF {α:Type} {di:En->Sto->Res ItP} {f:Sto->Option (List PV)} {bnd:PV->En->Option En} {js:List Nat} {dt:DT} {de:DE} {ρ:En} {M:Sto} (f0 g:α->PV) (as:List α) (hd:di ρ M = .ok (.gen f) M) (hf:f M=some (as.map f0)) (hl:as.length < sizeLine)
  (hx:∀ a ∈ as,∃ ρ',bnd (f0 a) (rest js ρ)=some ρ'∧dt ρ' M = .ok true M∧de ρ' M = .ok (g a) M):xk di bnd js dt de ρ M = .ok (.lst (as.map g)) M:=by
 unfold xk;rw [hd];simp only [Res.bind_ok]
 have hF:yZ (.gen f) M=as.length + 1:=by
  show ((f M).getD []).length + 1=_;rw [hf];simp
 rw [hF,if_pos (by omega),jdK f0 g as hf hx as 0 rfl];rfl
theorem xG {M:Sto} {h n:Int}:JC [.int h,.int n] M = .ok (.bl (jaq (.int h) 0 (n - 1))) M:=by
 refine jV (ρ:=[some (.int h),some (.int n)]) rfl rfl ?_;unfold jiJ;refine jO ?_;simp only [jT,jp,jz,jF,ju,xA,jY,Res.bind_ok,jfK,jy];exact vw (Kd.int h)
theorem vO {h a b:Int} (h0:a<=h) (h1:h<=b):jaq (.int h) a b=true:=by
 show (decide (a<=h) && decide (h<=b))=true;simp [h0,h1]
theorem jil {D0 D1:List PV->Sto->Res PV} {pvs:List PV} {M M':Sto} {v:PV} (h:D0 pvs M = .ok v M'):jgy D0 D1 pvs M = .ok v M':=by
 unfold jgy;rw [h]
theorem jbI {j:Nat} {bnd:PV->En->Option En} {r:En} {dt:DT} {de:DE}:∀ (n k:Nat) (M:Sto),yC (.live j) bnd r dt de n k M=yC (.gen fun M=>yV M (.ref j)) bnd r dt de n k M:=by
 intro n
 induction n with
 | zero=>intro k M; rfl
 | succ n ih =>
  intro k M;unfold yC;simp only [ih];rfl
theorem jbG {α:Type} {j:Nat} {di:En->Sto->Res ItP} {bnd:PV->En->Option En} {js:List Nat} {dt:DT} {de:DE} {ρ:En} {M:Sto} (f0 g:α->PV) (as:List α) (hd:di ρ M = .ok (.live j) M) (hf:M.g j=some (.lst (as.map f0))) (hl:as.length < sizeLine)
  (hx:∀ a ∈ as,∃ ρ',bnd (f0 a) (L3.rest js ρ)=some ρ'∧dt ρ' M = .ok true M∧de ρ' M = .ok (g a) M):xk di bnd js dt de ρ M = .ok (.lst (as.map g)) M:=by
 have h1:=jdF (di:=fun _ M=>.ok (.gen fun M=>yV M (.ref j)) M) (js:=js) (ρ:=ρ) f0 g as rfl (vI hf) hl hx;unfold xk at h1 ⊢;rw [hd];simp only [Res.bind_ok] at h1 ⊢;rw [show yZ (.live j) M=yZ (.gen fun M=>yV M (.ref j)) M from rfl,jbI];exact h1
theorem cut1 (fs:List Int):UE (fs.map PV.int) (some 1) none=(fs.drop 1).map PV.int:=by
 cases fs with
 | nil=>rfl
 | cons a r =>
  unfold UE
  have e1:HT.sIx ((a :: r).map PV.int).length 0 (some 1)=1:=by
   unfold HT.sIx;simp
  have e2:HT.sIx ((a :: r).map PV.int).length ((a :: r).map PV.int).length none=((a :: r).map PV.int).length:=rfl;rw [e1,e2,List.map_drop,List.take_of_length_le];rw [List.length_drop];exact Nat.le_refl _
theorem Uw {M:Sto} {fs:List Int} (h:fs.Pairwise (· < ·)) (hl:fs.length<=40):jaN [.lst (fs.map PV.int)] M = .ok (.bl true) M:=by
 refine jV (ρ:=[some (.lst (fs.map PV.int))]) rfl rfl ?_;unfold jiO;refine jO ?_
 have gs:gSl M (.lst (fs.map PV.int)) (some 1) none=some (.lst ((fs.drop 1).map PV.int)):=by
  show some (PV.lst (UE (fs.map PV.int) (some 1) none))=_;rw [cut1]
 have q2:xk (jic (jb (ya 0) (jb (dSl (ya 0) (dOS (dC (.int 1))) dON) yb))) jim [] YL (dOp gLt (ya 0) (ya 1)) [some (.lst (fs.map PV.int))] M = .ok (.lst ((fs.zip (fs.drop 1)).map fun _=>.bl true)) M:=by
  refine jK (xs:=(fs.zip (fs.drop 1)).map fun p=>PV.tup [.int p.1,.int p.2]) (M1:=M) ?_ (by rw [List.length_map,List.length_zip]; exact jgI (by omega)) ?_
  ·have e3:dSl (ya 0) (dOS (dC (.int 1))) dON [some (.lst (fs.map PV.int))] M = .ok (.lst ((fs.drop 1).map PV.int)) M:=by
    show ofO (gSl M (.lst (fs.map PV.int)) (some 1) none) M=_;rw [gs];rfl
   unfold jic;simp only [jp,jz,e3,ju,Res.bind_ok];congr 2;unfold UP;rw [List.zipWith_map];unfold List.zip;rw [List.map_zipWith]
  ·refine jW (fun p:Int × Int=>PV.tup [.int p.1,.int p.2]) (fun _=>.bl true) _ fun p hp=>⟨[some (.int p.1),some (.int p.2)],rfl,rfl,?_⟩
   have lt:p.1 < p.2:=by
    obtain ⟨k,hk⟩:=List.getElem?_of_mem hp;rw [List.getElem?_zip_eq_some] at hk;obtain ⟨k1,k2⟩:=hk;rw [List.getElem?_drop] at k2;obtain ⟨l1,e1⟩:=List.getElem?_eq_some_iff.mp k1;obtain ⟨l2,e2⟩:=List.getElem?_eq_some_iff.mp k2;rw [<- e1,<- e2];exact List.pairwise_iff_getElem.mp h k (1 + k) l1 l2 (by omega)
   have gl:gLt M (.int p.1) (.int p.2)=some (.bl true):=by
    show some (PV.bl (decide (p.1 < p.2)))=_;rw [decide_eq_true lt]
   simp only [jY,jz,jF,Res.bind_ok,gl,jy]
 have q3:jax M (.lst ((fs.zip (fs.drop 1)).map fun _=>PV.bl true))=some (.bl true):=by
  have e1:((fs.zip (fs.drop 1)).map fun _=>PV.bl true)=((fs.zip (fs.drop 1)).map fun _=>true).map PV.bl:=by rw [List.map_map]; rfl
  unfold jax jgx;rw [e1];simp only [JY,Option.bind_some,uC]
  have:((fs.zip (fs.drop 1)).map fun _=>true).all id=true:=by simp
  rw [this]
 simp only [jgp,jp,q2,ju,Res.bind_ok,one,q3,Option.map_some]
theorem JU {M:Sto} {fs:List Int} {n s:Int} (h:fs.Pairwise (· < ·)) (hb:∀ f ∈ fs,0<=f∧f < n) (hl:(fs.length:Int)<=s) (s5:s<=40):VV [.lst (fs.map PV.int),.int n,.int s] M = .ok .non M:=by
 show fin (jgk [some (.lst (fs.map PV.int)),some (.int n),some (.int s)] M)=_;unfold jgk;have q1:Xc M [.lst (fs.map PV.int),.tup [.ty "list",.ty "tuple"]]=some (.bl true,M):=rfl
 have hlen:xD M (.lst (fs.map PV.int))=some (.int fs.length):=by rw [xJ (x:=.lst (fs.map PV.int)) rfl,List.length_map]
 have hg:gGt M (.int fs.length) (.int s)=some (.bl false):=by
  show some (PV.bl (decide (s < (fs.length:Int))))=_;rw [decide_eq_false (by omega)]
 have q2:xk (dIt (ya 0)) jaL [1] YL UJ [some (.lst (fs.map PV.int)),some (.int n),some (.int s)] M = .ok (.lst (fs.map fun _=>.bl true)) M:=by
  refine jK (xs:=fs.map PV.int) (M1:=M) rfl (by rw [List.length_map]; exact jgI (by omega)) ?_
  refine jW PV.int (fun _=>.bl true) _ fun f hf=>⟨[some (.int f),some (.int n)],rfl,rfl,?_⟩
  obtain ⟨f0,f1⟩:=hb f hf;unfold UJ;simp only [jT,jp,jz,jF,ju,Res.bind_ok];rw [show JC (yo 2 0 [Sl.p 0,Sl.p 1] [] [PV.int f,PV.int n] []) M=_ from xG,vO f0 (by omega)]
 have q3:jax M (.lst (fs.map fun _=>PV.bl true))=some (.bl true):=by
  have e1:(fs.map fun _=>PV.bl true)=(fs.map fun _=>true).map PV.bl:=by rw [List.map_map]; rfl
  unfold jax jgx;rw [e1];simp only [JY,Option.bind_some,uC]
  have:(fs.map fun _=>true).all id=true:=by simp
  rw [this]
 have s2:(2:Nat)<=sizeLine:=by decide
 simp [yo,gen,q1,hlen,hg,q2,q3,jdZ,Uw h (by omega),s2]
theorem jM {M M1 M2:Sto} {i c a b:Nat} {fl:List (Str × PV)} {nm:Str} {D:List PV->Sto->Res PV} {sl:List Sl} {dP xs zs:List PV} {do_:DE} {da dk:DA} {ρ:En} (ho:do_ ρ M = .ok (.ref i) M) (hi:M.g i=some (.ins c fl)) (hn:fl.lookup nm=none) (ha:da ρ M = .ok xs M1) (hk:dk ρ M1 = .ok zs M2) :
  yv c nm D a b sl dP do_ da dk ρ M=D (yo a b sl dP (.ref i :: xs) zs) M2:=by
 unfold yv;rw [ho];simp only [Res.bind_ok,uR hi,hn,if_true];rw [ha];simp only [Res.bind_ok];rw [hk];simp only [Res.bind_ok]
theorem jP {M:Sto} {i c:Nat} {fl:List (Str × PV)} {x:Str} {v:PV} {d:DE} {ρ:En} (ho:d ρ M = .ok (.ref i) M) (hi:M.g i=some (.ins c fl)) (hx:fl.lookup x=some v):yl c x d ρ M = .ok v M:=by
 unfold yl;rw [ho];simp only [Res.bind_ok,uR hi,hx,jy]
theorem vp {M Ma:Sto} {i k:Nat} {fs0:List (Str × PV)} {f:Str} {v:PV} {d do_:DE} {c:DS} {ρ:En} {r:RS} (hd:d ρ M = .ok v Ma) (ho:do_ ρ Ma = .ok (.ref i) Ma) (hg:Ma.g i=some (.ins k fs0)) (hl:fs0.length < 1000) (hc:c ρ (Ma.set i (.ins k (xl f v fs0)))=r):ye (xc k f d do_) c ρ M=r:=by
 unfold ye xc;rw [hd];simp only [Res.st_ok];rw [ho];simp only [Res.st_ok,uR hg,hl,if_true];exact hc
theorem Us {M Ma:Sto} {i k:Nat} {fs0:List (Str × PV)} {f:Str} {v:PV} {d do_:DE} {ρ:En} (hd:d ρ M = .ok v Ma) (ho:do_ ρ Ma = .ok (.ref i) Ma) (hg:Ma.g i=some (.ins k fs0)) (hl:fs0.length < 1000):xc k f d do_ ρ M = .nx ρ (Ma.set i (.ins k (xl f v fs0))):=by
 unfold xc;rw [hd];simp only [Res.st_ok];rw [ho];simp only [Res.st_ok,uR hg,hl,if_true]
theorem jhG {M:Sto} {c d:Cell}:(M.new c).set M.n d=M.new d:=by
 unfold Sto.new Sto.set;congr 1;funext j
 by_cases h:j=M.n
 ·rw [if_pos h,if_pos h]
 ·rw [if_neg h,if_neg h];exact if_neg h
structure Ck where
 f:Int
 r:Int
 t:Int
def Ck.at (q:Ck) (b:Int):Int:=q.f + b * (1000 + q.r) / 1000 + q.t
def Ck.to (q:Ck) (x b:Int):Ck:=⟨q.f,q.r,q.t + (x - q.at b)⟩
theorem jbL {M:Sto} {h:Int} {n:Nat} {fs:List Int} (h0:0<=h) (h1:h < n) (h2:h ∉ fs):jaR [.int h,.int n,.lst (fs.map PV.int)] M = .ok .non M:=by
 have gi:gIn false M (.int h) (.lst (fs.map PV.int))=some (.bl (decide (h ∈ fs))):=xx (neg:=false) (M:=M) (x:=.lst (fs.map PV.int)) (k:=h) (ns:=fs) rfl;rw [decide_eq_false h2] at gi
 have c1:uo [.int h,.int n] M = .ok .non M:=by
  show fin (YK [some (.int h),some (.int n)] M)=_;unfold YK;have q:=xG (M:=M) (h:=h) (n:=n);rw [vO h0 (by omega)] at q;simp [yo,gen,q]
 show fin (jcC [some (.int h),some (.int n),some (.lst (fs.map PV.int))] M)=_
 obtain ⟨F,hF⟩:∃ F,F=PV.lst (fs.map PV.int):=⟨_,rfl⟩
 rw [<- hF] at gi ⊢
 have e:jcC [some (.int h),some (.int n),some F] M = .nx [some (.int h),some (.int n),some F] M:=by
  unfold jcC;refine yG (v:=.non) (M1:=M) (by simpa [yo,gen] using c1) ?_;exact vo (by simp [gi])
 rw [e];rfl
theorem ym {d:DE} {ρ:En} {M M1:Sto} {b:Bool} (h:d ρ M = .ok (.bl b) M1):yd d ρ M = .ok b M1:=by
 rw [jaG,h];rfl
theorem yk {g:G2} {da db:DE} {ρ:En} {M M1 M2:Sto} {x y z:PV} (h1:da ρ M = .ok x M1) (h2:db ρ M1 = .ok y M2) (h3:g M2 x y=some z):dOp g da db ρ M = .ok z M2:=by
 rw [jY,h1];simp only [Res.bind_ok];rw [h2];simp only [Res.bind_ok];rw [h3];rfl
theorem Vg {t:DT} {A B c:DS} {ρ ρ':En} {M M1 M2:Sto} {bb:Bool} {r:RS} (h:t ρ M = .ok bb M1) (hb:(if bb=true then A else B) ρ M1 = .nx ρ' M2) (k:c ρ' M2=r):ye (sIf t A B) c ρ M=r:=by
 unfold ye sIf;rw [h]
 have e:(Res.ok bb M1).st ρ (fun b M1=>if b=true then A ρ M1 else B ρ M1) = .nx ρ' M2:=by
  rw [<- hb];cases bb <;> rfl
 rw [e];exact k
theorem jhL {M:Sto} {j:Nat} {xs:List PV} {d:DE} {ρ:En} (h:M.g j=some (.lst xs)) (e:d ρ M = .ok (.ref j) M):dIt d ρ M = .ok (.live j) M:=by
 unfold dIt
 have e2:itOf M (.ref j)=some (.live j):=by
  show (match M.g j with
   | some (.lst _)=>some (ItP.live j)
   | _=>none)=_
  rw [h]
 simp only [e,Res.bind_ok,e2,jy]
theorem Yg {t:DT} {A B:DS} {ρ:En} {M M1:Sto} {r:RS} (h:t ρ M = .ok true M1) (k:A ρ M1=r):sIf t A B ρ M=r:=by
 unfold sIf;rw [h];exact k
theorem jca {t:DT} {A B:DS} {ρ:En} {M M1:Sto} {r:RS} (h:t ρ M = .ok false M1) (k:B ρ M1=r):sIf t A B ρ M=r:=by
 unfold sIf;rw [h];exact k
theorem yK {d:DE} {ρ:En} {M M1:Sto} {x:PV} (h:d ρ M = .ok x M1):jb d yb ρ M = .ok [x] M1:=by
 rw [jp,h];rfl

abbrev T4:=Int × Int × Str × Int
abbrev sF:Str:="first"
abbrev sE:Str:="echo"
abbrev sR:Str:="ready"
def wP (x:Str × Int):PV:=.tup [.str x.1,.int x.2]
def p4 (x:T4):PV:=.tup [.int x.1,.int x.2.1,wP x.2.2]
def ltF (x:T4):List (Str × PV):=[("sender",.int x.1),("house",.int x.2.1),("what",wP x.2.2),("due",.non)]
def nk (p:Int × Str × Int):NK:=(p.1,[.inr p.2.1,.inl p.2.2])
def kg (e:Nat × Int × Str × Int):NK × PV:=(nk e.2,.ref e.1)
def kw (x:Int × Str):List Key × PV:=([.inl x.1,.inr x.2],.bl true)
def kt (x:Int × Int):Int × PV:=(x.1,.int x.2)
def puF (i n:Nat) (s:Int) (fs:List Int) (sd:Int):List (Str × PV):=[("houses",.int n),("few",.int s),("liars",.lst (fs.map PV.int)),("on_way",.ref (i + 1)),("got",.ref (i + 2)),("sender",.int sd),("written",.ref (i + 3)),("taken",.ref (i + 4))]
structure Es where
 wr:List (Int × Str)
 gt:List T4
 tk:List (Int × Int)
 ls:List T4
def Es.say (q:Es) (hs:List Int) (h:Int) (w:Str) (c:Int):Es:=⟨q.wr ++ [(h,w)],q.gt,q.tk,q.ls ++ hs.map fun o=>(h,o,w,c)⟩
def Es.once (q:Es) (hs:List Int) (h:Int) (w:Str) (c:Int):Es:=if (h,w) ∈ q.wr then q else q.say hs h w c
def Es.add (q:Es) (t:T4):Es:=if t ∈ q.gt then q else ⟨q.wr,q.gt ++ [t],q.tk,q.ls⟩
def Es.many (q:Es) (p:Int × Str × Int):Nat:=(q.gt.filter fun t=>decide (t.2=p)).length
def Es.take (q:Es) (o c:Int):Es:=if o ∈ q.tk.map (·.1) then q else ⟨q.wr,q.gt,q.tk ++ [(o,c)],q.ls⟩
def Es.lookF (q:Es) (hs:List Int) (sd a o c:Int):Es:=if a=sd then q.once hs o sE c else q
def Es.lookE (q:Es) (n s:Int) (hs:List Int) (o c:Int):Es:=if n + s < 2 * (q.many (o,sE,c):Int) then q.once hs o sR c else q
def Es.lookR (q:Es) (s:Int) (hs:List Int) (o c:Int):Es:=if 2 * s < (q.many (o,sR,c):Int) then (if s < (q.many (o,sR,c):Int) then q.once hs o sR c else q).take o c else if s < (q.many (o,sR,c):Int) then q.once hs o sR c else q
def Es.look (q:Es) (n s:Int) (hs:List Int) (sd:Int) (t:T4):Es:=if t.2.2.1=sF then q.lookF hs sd t.1 t.2.1 t.2.2.2 else if t.2.2.1=sE then q.lookE n s hs t.2.1 t.2.2.2 else if t.2.2.1=sR then q.lookR s hs t.2.1 t.2.2.2 else q
def Es.come (q:Es) (n s:Int) (hs:List Int) (sd:Int) (t:T4):Es:=(q.add t).look n s hs sd t
def xL (gt:List T4) (p:Int × Str × Int):List (Int × PV):=(gt.filter fun t=>decide (t.2=p)).map fun t=>(t.1,PV.bl true)
structure Pu (M:Sto) (i lo n:Nat) (s:Int) (fs:List Int) (sd:Int) (es:List (Nat × T4)) (gs:List (Nat × Int × Str × Int)) (q:Es):Prop where
 pu:M.g i=some (.ins 12 (puF i n s fs sd))
 ow:M.g (i + 1)=some (.lst (es.map fun e=>PV.ref e.1))
 go:M.g (i + 2)=some (.dnv (i + 2) (gs.map kg))
 wt:M.g (i + 3)=some (.dsv (q.wr.map kw))
 sk:M.g (i + 4)=some (.dkv (q.tk.map kt))
 el:∀ e ∈ es,(i + 5<=e.1∧e.1 + 1≠lo)∧e.1 < M.n∧M.g e.1=some (.ins 10 (ltF e.2))
 gl:∀ e ∈ gs,lo<=e.1∧e.1 < M.n∧M.g e.1=some (.dkv (xL q.gt e.2))
 gd:gs.Pairwise fun a b=>a.1≠b.1
 gk:gs.Pairwise fun a b=>a.2≠b.2
 gc:∀ t ∈ q.gt,∃ e ∈ gs,e.2=t.2
 le:es.map (·.2)=q.ls
 li:i + 5<=lo
 ln:lo<=M.n
structure Fr (M M':Sto) (i lo:Nat):Prop where
 n:M.n<=M'.n
 g:∀ j,j < lo->(j < i∨i + 5<=j)->M'.g j=M.g j
theorem Fr.refl (M:Sto) (i lo:Nat):Fr M M i lo:=⟨Nat.le_refl _,fun _ _ _=>rfl⟩
theorem Fr.trans {A B C:Sto} {i lo:Nat} (h:Fr A B i lo) (k:Fr B C i lo):Fr A C i lo:=⟨Nat.le_trans h.n k.n,fun j a b=>(k.g j a b).trans (h.g j a b)⟩
theorem Fr.weak {A B:Sto} {i lo lo':Nat} (h:Fr A B i lo) (l:lo'<=lo):Fr A B i lo':=⟨h.n,fun j a b=>h.g j (Nat.lt_of_lt_of_le a l) b⟩
theorem Fr.tr {A B C:Sto} {i:Nat} (h:Fr A B i A.n) (k:Fr B C i B.n):Fr A C i A.n:=h.trans (k.weak h.n)
theorem szB {n:Nat} (h:n<=100000):n < sizeLine:=Nat.lt_of_le_of_lt h (by decide)
theorem jhZ {r:RS} {ρ:En} {M:Sto} (h:r = .nx ρ M):fin r = .ok .non M:=by rw [h]; rfl
theorem yI {n N:Nat} {pvs:List PV} {ρ ρ':En} {dd:DS} {M M1:Sto} (hn:pvs.length=n) (hρ:pvs.map some ++ List.replicate (N - n) none=ρ) (h:dd ρ M = .nx ρ' M1):yu n N dd pvs M = .ok .non M1:=by
 unfold yu;rw [if_pos hn,hρ,h];rfl
theorem jgn {g:GM} {do_:DE} {da:DA} {ρ:En} {M M1 M2 M3:Sto} {x z:PV} {ys xs:List PV} (h1:do_ ρ M = .ok x M1) (h2:yV M1 x=some ys) (h3:da ρ M1 = .ok xs M2) (h4:g M2 x xs=some (z,M3)):dMt g do_ da ρ M = .ok z M3:=by
 unfold dMt;rw [h1];simp only [Res.bind_ok];rw [h2];simp only [];rw [h3];simp only [Res.bind_ok];rw [h4]
theorem app_of {M:Sto} {j:Nat} {xs:List PV} {y:PV} (h:M.g j=some (.lst xs)) (hl:xs.length < sizeLine):xI M (.ref j) [y]=some (.non,M.set j (.lst (xs ++ [y]))):=by
 unfold xI
 have:VC M (.ref j)=some (j,xs):=by
  show (match M.g j with
   | some (.lst xs)=>some (j,xs)
   | _=>none)=_
  rw [h]
 rw [this];exact if_pos hl
theorem uw {f:Sto->PV->Option PV} {d:DE} {ρ:En} {M M1:Sto} {x z:PV} (h1:d ρ M = .ok x M1) (h2:f M1 x=some z):dCB (one f) (jb d yb) ρ M = .ok z M1:=by
 rw [jgp,jp,h1];simp only [Res.bind_ok,ju,one_eq,h2]
theorem yz {d:DE} {ρ:En} {M M1:Sto} {v:PV} (h:d ρ M = .ok v M1):yi d ρ M = .nx ρ M1:=by
 unfold yi;rw [h];rfl
section
variable {M M':Sto} {i lo n:Nat} {s:Int} {fs:List Int} {sd:Int} {es:List (Nat × T4)} {gs:List (Nat × Int × Str × Int)} {q:Es}
theorem Pu.off (P:Pu M i lo n s fs sd es gs q) (hn:M.n<=M'.n) (hg:∀ j,((i<=j∧j < i + 5)∨(i + 5<=j∧j + 1≠lo∧j < M.n))->M'.g j=M.g j):Pu M' i lo n s fs sd es gs q:=by
 have a:=P.li;have b:=P.ln
 exact ⟨by rw [hg i (by omega)]; exact P.pu,by rw [hg _ (by omega)]; exact P.ow,by rw [hg _ (by omega)]; exact P.go,by rw [hg _ (by omega)]; exact P.wt,by rw [hg _ (by omega)]; exact P.sk,
  fun e he=>by
   obtain ⟨h1,h2,h3⟩:=P.el e he
   exact ⟨h1,by omega,by rw [hg _ (.inr ⟨h1.1,h1.2,h2⟩)]; exact h3⟩,
  fun e he=>by
   obtain ⟨h1,h2,h3⟩:=P.gl e he
   exact ⟨h1,by omega,by rw [hg _ (.inr ⟨by omega,by omega,h2⟩)]; exact h3⟩,P.gd,P.gk,P.gc,P.le,P.li,by omega⟩
theorem Pu.fld {x:Str} {v:PV} {d:DE} {ρ:En} (P:Pu M i lo n s fs sd es gs q) (ho:d ρ M = .ok (.ref i) M) (hx:(puF i n s fs sd).lookup x=some v):yl 12 x d ρ M = .ok v M:=jP ho P.pu hx
theorem Pu.mth {M1 M2:Sto} {a b:Nat} {nm:Str} {D:List PV->Sto->Res PV} {sl:List Sl} {dP xs zs:List PV} {do_:DE} {da dk:DA} {ρ:En} (P:Pu M i lo n s fs sd es gs q) (ho:do_ ρ M = .ok (.ref i) M) (hn:(puF i n s fs sd).lookup nm=none) (ha:da ρ M = .ok xs M1) (hk:dk ρ M1 = .ok zs M2) :
  yv 12 nm D a b sl dP do_ da dk ρ M=D (yo a b sl dP (.ref i :: xs) zs) M2:=jM ho P.pu hn ha hk
theorem jfB (P:Pu M i lo n s fs sd es gs q) (hn:n<=40):VT [.ref i] M = .ok (.lst ((hon n fs).map PV.int)) M:=by
 refine jV (ρ:=[some (.ref i)]) rfl rfl ?_;unfold jiU;refine jO ?_;refine jK (xs:=xS 0 n) (M1:=M) ?_ (by rw [xR]; exact jgI (by omega)) ?_
 ·have hs:vB (n:Int)=true:=xa.mpr ⟨by omega,by omega⟩;unfold vD;simp only [jp,P.fld (x:="houses") (v:=.int n) (d:=ya 0) (ρ:=[some (.ref i)]) rfl rfl,ju,Res.bind_ok,hs,if_true,Int.toNat_natCast]
 ·rw [jcc]
  refine ud PV.int (fun x=>!decide (x ∈ fs)) PV.int _ fun x hx=>⟨[some (.int x),some (.ref i)],rfl,?_,fun _=>rfl⟩
  have gi:gIn true M (.int x) (.lst (fs.map PV.int))=some (.bl (!decide (x ∈ fs))):=xx (neg:=true) (M:=M) (x:=.lst (fs.map PV.int)) (k:=x) (ns:=fs) rfl;simp only [jaG,jY,jz,Res.bind_ok,P.fld (x:="liars") (v:=.lst (fs.map PV.int)) (d:=ya 1) (ρ:=[some (.int x),some (.ref i)]) rfl rfl,gi,jy];rfl
theorem jgt (P:Pu M i lo n s fs sd es gs q) {h:Int} (hh:h ∈ hon n fs):Je [.ref i,.int h] M = .ok .non M:=by
 obtain ⟨⟨h0,h1⟩,h2⟩:=uQ.mp hh;refine yI (ρ:=[some (.ref i),some (.int h)]) (ρ':=[some (.ref i),some (.int h)]) rfl rfl ?_;unfold d_zaa;refine yz (v:=.non) ?_;simp only [jT,jp,jz,jF,ju,P.fld (x:="houses") (v:=.int n) (d:=ya 0) (ρ:=[some (.ref i),some (.int h)]) rfl rfl,P.fld (x:="liars") (v:=.lst (fs.map PV.int)) (d:=ya 0) (ρ:=[some (.ref i),some (.int h)]) rfl rfl,Res.bind_ok];exact jbL h0 h1 h2
theorem chk_l (P:Pu M i lo n s fs sd es gs q) {h:Int} (hh:h ∈ fs) (h0:0<=h) (h1:h < n):jaU [.ref i,.int h] M = .ok .non M:=by
 have c1:uo [.int h,.int n] M = .ok .non M:=by
  show fin (YK [some (.int h),some (.int n)] M)=_;unfold YK;have q:=xG (M:=M) (h:=h) (n:=n);rw [vO h0 (by omega)] at q;simp [yo,gen,q]
 have gi:gIn true M (.int h) (.lst (fs.map PV.int))=some (.bl (!decide (h ∈ fs))):=xx (neg:=true) (M:=M) (x:=.lst (fs.map PV.int)) (k:=h) (ns:=fs) rfl;rw [decide_eq_true hh] at gi;refine yI (ρ:=[some (.ref i),some (.int h)]) (ρ':=[some (.ref i),some (.int h)]) rfl rfl ?_;unfold d_zad;refine yG (v:=.non) (M1:=M) ?_ ?_
 ·simp only [jT,jp,jz,jF,ju,P.fld (x:="houses") (v:=.int n) (d:=ya 0) (ρ:=[some (.ref i),some (.int h)]) rfl rfl,Res.bind_ok];exact c1
 ·refine vo ?_;exact ym (yk (x:=.int h) (y:=.lst (fs.map PV.int)) (M1:=M) rfl (P.fld (x:="liars") (d:=ya 0) rfl rfl) gi)
theorem get_kw (l:List (Int × Str)) (h:Int) (c:Str):(yO (l.map kw) [.inl h,.inr c]).isSome=decide ((h,c) ∈ l):=by
 unfold yO;rw [Option.isSome_map,Bool.eq_iff_iff,List.find?_isSome,decide_eq_true_eq];constructor
 ·rintro ⟨x,hx,e⟩;obtain ⟨y,hy,rfl⟩:=List.mem_map.mp hx;have e:[Sum.inl y.1,Sum.inr y.2]=[(Sum.inl h:Key),Sum.inr c]:=of_decide_eq_true e
  injection e with e1 e2
  injection e2 with e2 _
  have e1:y.1=h:=Sum.inl.inj e1;have e2:y.2=c:=Sum.inr.inj e2;rw [<- e1,<- e2];exact hy
 ·intro hm;exact ⟨kw (h,c),List.mem_map.mpr ⟨_,hm,rfl⟩,decide_eq_true rfl⟩
theorem put_kw {l:List (Int × Str)} {h:Int} {c:Str} (hm:(h,c) ∉ l):xV (l.map kw) [.inl h,.inr c] (.bl true)=(l ++ [(h,c)]).map kw:=by
 unfold xV
 have e:((l.map kw).any fun p=>decide (p.1=[.inl h,.inr c]))=false:=by
  rw [List.any_eq_false];intro x hx e;obtain ⟨y,hy,rfl⟩:=List.mem_map.mp hx;have e:[Sum.inl y.1,Sum.inr y.2]=[(Sum.inl h:Key),Sum.inr c]:=of_decide_eq_true e
  injection e with e1 e2
  injection e2 with e2 _
  have e1:y.1=h:=Sum.inl.inj e1;have e2:y.2=c:=Sum.inr.inj e2;rw [<- e1,<- e2] at hm;exact hm hy
 rw [e,List.map_append];rfl
theorem jfF (P:Pu M i lo n s fs sd es gs q) (h:Int) (c:Str):xC [.ref i,.int h,.str c] M = .ok (.bl (decide ((h,c) ∈ q.wr))) M:=by
 refine jV (ρ:=[some (.ref i),some (.int h),some (.str c)]) rfl rfl ?_;unfold d_zai;refine jO ?_;unfold jcF;simp only [jp,jz,jF,ju,Res.bind_ok];rw [if_pos (show [PV.int h,PV.str c].length<=sizeLine from (show (2:Nat)<=sizeLine by decide)),P.fld (x:="written") (v:=.ref (i + 3)) (d:=ya 0) (ρ:=[some (.ref i),some (.int h),some (.str c)]) rfl rfl];simp only [Res.bind_ok];unfold inSv;simp only [P.wt]
 show (match (match some (PV.bl (yO (q.wr.map kw) [Sum.inl h,Sum.inr c]).isSome) with
  | some z=>Res.ok z M
  | none=>.bad) with
  | r=>r)=_
 rw [get_kw]
theorem jhJ {c:Nat} {x:T4} (h:M.g c=some (.ins 10 [])):YV [.ref c,.int x.1,.int x.2.1,wP x.2.2] M = .ok .non (M.set c (.ins 10 (ltF x))):=by
 show fin (jgi [some (.ref c),some (.int x.1),some (.int x.2.1),some (wP x.2.2)] M)=_;unfold jgi;refine jhZ (ρ:=[some (.ref c),some (.int x.1),some (.int x.2.1),some (wP x.2.2)]) ?_;refine vp (v:=.int x.1) (Ma:=M) (i:=c) rfl rfl h (by decide) ?_;refine vp (v:=.int x.2.1) (Ma:=M.set c (.ins 10 (xl "sender" (.int x.1) []))) (i:=c) rfl rfl Sto.set_same (show 1 < 1000 by decide) ?_;rw [Ud];refine vp (v:=wP x.2.2) (Ma:=M.set c (.ins 10 (xl "house" (.int x.2.1) (xl "sender" (.int x.1) [])))) (i:=c) rfl rfl Sto.set_same (show 2 < 1000 by decide) ?_;rw [Ud];rw [Us (v:=.non) (Ma:=M.set c (.ins 10 (xl "what" (wP x.2.2) (xl "house" (.int x.2.1) (xl "sender" (.int x.1) []))))) (i:=c) rfl rfl Sto.set_same (show 3 < 1000 by decide),Ud];rfl
theorem lt_new {x:T4}:made 10 YV (fun y=>[y,.int x.1,.int x.2.1,wP x.2.2]) M = .ok (.ref M.n) (M.new (.ins 10 (ltF x))):=by
 unfold made;rw [jhJ (M:=M.new (.ins 10 [])) Sto.new_same,jhG]
theorem jbT (P:Pu M i lo n s fs sd es gs q) (hl:es.length<=90000) (x:T4):∃ M',YT [.ref i,.int x.1,.int x.2.1,wP x.2.2] M = .ok .non M'∧Pu M' i lo n s fs sd (es ++ [(M.n,x)]) gs ⟨q.wr,q.gt,q.tk,q.ls ++ [x]⟩∧Fr M M' i M.n:=by
 obtain ⟨M1,e1⟩:∃ M1,M1=M.new (.ins 10 (ltF x)):=⟨_,rfl⟩
 obtain ⟨M2,e2⟩:∃ M2,M2=M1.set (i + 1) (.lst ((es ++ [(M.n,x)]).map fun e=>PV.ref e.1)):=⟨_,rfl⟩
 have a:=P.li;have b:=P.ln
 have gj:∀ j,j≠i + 1->j≠M.n->M2.g j=M.g j:=fun j h1 h2=>by rw [e2,Sto.set_ne h1,e1,Sto.new_ne h2]
 have n2:M2.n=M.n + 1:=by rw [e2,e1]; rfl
 refine ⟨M2,?_,⟨by rw [gj _ (by omega) (by omega)]; exact P.pu,by rw [e2,Sto.set_same],by rw [gj _ (by omega) (by omega)]; exact P.go,by rw [gj _ (by omega) (by omega)]; exact P.wt,by rw [gj _ (by omega) (by omega)]; exact P.sk,fun e he=>?_,fun e he=>?_,P.gd,P.gk,P.gc,by rw [List.map_append,P.le]; rfl,a,by omega⟩,by omega,fun j h1 h2=>gj j (by omega) (by omega)⟩
 ·refine yI (ρ:=[some (.ref i),some (.int x.1),some (.int x.2.1),some (wP x.2.2)]) (ρ':=[some (.ref i),some (.int x.1),some (.int x.2.1),some (wP x.2.2)]) rfl rfl ?_;unfold jiT;refine yz (v:=.non) ?_;refine jgn (x:=.ref (i + 1)) (M1:=M) (M2:=M1) (xs:=[.ref M.n]) (P.fld (x:="on_way") (d:=ya 0) rfl rfl) (vI P.ow) ?_ ?_
  ·rw [jp];unfold jbF;simp only [jp,jz,jF,ju,Res.bind_ok];rw [show made 10 YV (fun y=>yo 4 0 [Sl.p 0,Sl.p 1,Sl.p 2,Sl.p 3] [] [y,PV.int x.1,.int x.2.1,wP x.2.2] []) M=_ from lt_new];simp only [Res.bind_ok];rw [e1]
  ·rw [app_of (M:=M1) (xs:=es.map fun e=>PV.ref e.1) (by rw [e1,Sto.new_ne (by omega)]; exact P.ow) (by rw [List.length_map]; exact szB (by omega)),e2,List.map_append];rfl
 ·rcases List.mem_append.mp he with he | he
  ·obtain ⟨h1,h2,h3⟩:=P.el e he;exact ⟨h1,by omega,by rw [gj _ (by omega) (by omega)]; exact h3⟩
  ·rw [List.mem_singleton.mp he];exact ⟨⟨by show i + 5<=M.n; omega,by show M.n + 1≠lo; omega⟩,by rw [n2]; exact Nat.lt_succ_self _,by rw [e2,Sto.set_ne (by show M.n≠i + 1; omega),e1]; exact Sto.new_same⟩
 ·obtain ⟨h1,h2,h3⟩:=P.gl e he;exact ⟨h1,by omega,by rw [gj _ (by omega) (by omega)]; exact h3⟩
end

section
variable {M M':Sto} {i lo n:Nat} {s:Int} {fs:List Int} {sd:Int} {es:List (Nat × T4)} {gs:List (Nat × Int × Str × Int)} {q:Es}
theorem Pu.elen (P:Pu M i lo n s fs sd es gs q):es.length=q.ls.length:=by rw [<- P.le,List.length_map]
theorem Pu.setw (P:Pu M i lo n s fs sd es gs q) (l:List (Int × Str)):Pu (M.set (i + 3) (.dsv (l.map kw))) i lo n s fs sd es gs ⟨l,q.gt,q.tk,q.ls⟩∧Fr M (M.set (i + 3) (.dsv (l.map kw))) i M.n:=by
 have a:=P.li;have b:=P.ln;have gj:∀ j,j≠i + 3->(M.set (i + 3) (.dsv (l.map kw))).g j=M.g j:=fun j h=>Sto.set_ne h;refine ⟨⟨by rw [gj _ (by omega)]; exact P.pu,by rw [gj _ (by omega)]; exact P.ow,by rw [gj _ (by omega)]; exact P.go,Sto.set_same,by rw [gj _ (by omega)]; exact P.sk,fun e he=>?_,fun e he=>?_,P.gd,P.gk,P.gc,P.le,a,b⟩,Nat.le_refl _,fun j h1 h2=>gj j (by omega)⟩
 ·obtain ⟨h1,h2,h3⟩:=P.el e he;exact ⟨h1,h2,by rw [gj _ (by omega)]; exact h3⟩
 ·obtain ⟨h1,h2,h3⟩:=P.gl e he;exact ⟨h1,h2,by rw [gj _ (by omega)]; exact h3⟩
theorem Pu.setk (P:Pu M i lo n s fs sd es gs q) (l:List (Int × Int)):Pu (M.set (i + 4) (.dkv (l.map kt))) i lo n s fs sd es gs ⟨q.wr,q.gt,l,q.ls⟩∧Fr M (M.set (i + 4) (.dkv (l.map kt))) i M.n:=by
 have a:=P.li;have b:=P.ln;have gj:∀ j,j≠i + 4->(M.set (i + 4) (.dkv (l.map kt))).g j=M.g j:=fun j h=>Sto.set_ne h;refine ⟨⟨by rw [gj _ (by omega)]; exact P.pu,by rw [gj _ (by omega)]; exact P.ow,by rw [gj _ (by omega)]; exact P.go,by rw [gj _ (by omega)]; exact P.wt,Sto.set_same,fun e he=>?_,fun e he=>?_,P.gd,P.gk,P.gc,P.le,a,b⟩,Nat.le_refl _,fun j h1 h2=>gj j (by omega)⟩
 ·obtain ⟨h1,h2,h3⟩:=P.el e he;exact ⟨h1,h2,by rw [gj _ (by omega)]; exact h3⟩
 ·obtain ⟨h1,h2,h3⟩:=P.gl e he;exact ⟨h1,h2,by rw [gj _ (by omega)]; exact h3⟩
theorem jeE {j:Nat} {l:List (Int × Str)} {h:Int} {c:Str} (hj:M.g j=some (.dsv (l.map kw))) (hl:l.length<=90000) (hm:(h,c) ∉ l):jci M (.ref j) [.int h,.str c] (.bl true)=some (M.set j (.dsv ((l ++ [(h,c)]).map kw))):=by
 unfold jci;simp only [hj];show (if (2:Nat)<=sizeLine∧(l.map kw).length < sizeLine then some (M.set j (.dsv (xV (l.map kw) [Sum.inl h,Sum.inr c] (.bl true)))) else none)=_;rw [if_pos ⟨by decide,by rw [List.length_map]; exact szB (by omega)⟩,put_kw hm]
theorem jde {d do_:DE} {dk:DA} {ρ:En} {j:Nat} {l:List (Int × Str)} {h:Int} {c:Str} (hd:d ρ M = .ok (.bl true) M) (ho:do_ ρ M = .ok (.ref j) M) (hk:dk ρ M = .ok [.int h,.str c] M) (hj:M.g j=some (.dsv (l.map kw))) (hl:l.length<=90000) (hm:(h,c) ∉ l):Uh d do_ dk ρ M = .nx ρ (M.set j (.dsv ((l ++ [(h,c)]).map kw))):=by
 unfold Uh;rw [hd];simp only [Res.st_ok];rw [ho];simp only [Res.st_ok];rw [hk];simp only [Res.st_ok,jeE hj hl hm]
theorem Xh (a:Int) (c:Str × Int):∀ (xs:List Int) (M:Sto) (es:List (Nat × T4)) (q:Es) (x3:Option PV),Pu M i lo n s fs sd es gs q->q.ls.length + xs.length<=90000->∃ ρ' M' es',xF (gN 3) xz (xs.map PV.int) [some (.ref i),some (.int a),some (wP c),x3] M = .nx ρ' M'∧Pu M' i lo n s fs sd es' gs ⟨q.wr,q.gt,q.tk,q.ls ++ xs.map fun o=>(a,o,c)⟩∧Fr M M' i M.n
 | [],M,es,q,x3,P,_=>⟨_,M,es,rfl,by rw [List.map_nil,List.append_nil]; exact P,.refl _ _ _⟩
 | x :: xs,M,es,q,x3,P,hl=>by
  rw [List.length_cons] at hl;obtain ⟨M1,e1,P1,f1⟩:=jbT P (by rw [P.elen]; omega) (a,x,c);obtain ⟨ρ',M2,es2,e2,P2,f2⟩:=Xh a c xs M1 _ _ (some (.int x)) P1 (by show (q.ls ++ [_]).length + _<=_; rw [List.length_append]; show q.ls.length + 1 + _<=_; omega);refine ⟨ρ',M2,es2,?_,?_,f1.tr f2⟩
  ·have eb:xz [some (.ref i),some (.int a),some (wP c),some (.int x)] M = .nx [some (.ref i),some (.int a),some (wP c),some (.int x)] M1:=by
    unfold xz;refine yz (v:=.non) ?_;rw [P.mth (xs:=[.int a,.int x,wP c]) (zs:=[]) (M1:=M) (M2:=M) rfl rfl rfl rfl];exact e1
   rw [List.map_cons];unfold xF
   show (match xz [some (.ref i),some (.int a),some (wP c),some (.int x)] M with
    | .nx ρ2 M2=>xF (gN 3) xz (xs.map PV.int) ρ2 M2
    | .ct ρ2 M2=>xF (gN 3) xz (xs.map PV.int) ρ2 M2
    | .bk ρ2 M2=>.nx ρ2 M2
    | r=>r)=_
   rw [eb];exact e2
  ·have:(q.ls ++ (x :: xs).map fun o=>(a,o,c))=(q.ls ++ [(a,x,c)]) ++ xs.map fun o=>(a,o,c):=by simp
   rw [this];exact P2
theorem wall_p (P:Pu M i lo n s fs sd es gs q) (hn:n<=40) (hl:q.ls.length<=80000) (a:Int) (c:Str × Int):∃ M' es',jaT [.ref i,.int a,wP c] M = .ok .non M'∧Pu M' i lo n s fs sd es' gs ⟨q.wr,q.gt,q.tk,q.ls ++ (hon n fs).map fun o=>(a,o,c)⟩∧Fr M M' i M.n:=by
 have hh:(hon n fs).length<=40:=Nat.le_trans (List.length_filter_le _ _) (by rw [List.length_map,List.length_range]; exact hn);obtain ⟨ρ',M1,es1,e1,P1,f1⟩:=Xh (i:=i) (lo:=lo) (n:=n) (s:=s) (fs:=fs) (sd:=sd) (gs:=gs) a c (hon n fs) M es q none P (by omega);refine ⟨M1,es1,?_,P1,f1⟩
 have nox:∀ {r:Res PV},r = .ok .non M1->r.noX = .ok .non M1:=fun h=>by rw [h]; rfl
 refine nox (yI (ρ:=[some (.ref i),some (.int a),some (wP c),none]) (ρ':=ρ') rfl rfl ?_);unfold d_zah
 have h1:dIt (yv 12 "honest" VT 1 0 [.p 0] [] (ya 0) yb yb) [some (.ref i),some (.int a),some (wP c),none] M = .ok (.fix ((hon n fs).map PV.int)) M:=by
  refine jcE ?_;rw [P.mth (xs:=[]) (zs:=[]) (M1:=M) (M2:=M) rfl rfl rfl rfl];exact jfB P hn
 rw [xq h1,e1]
theorem tupW {d1 d2:DE} {ρ:En} {a:Str} {b:Int} (h1:d1 ρ M = .ok (.str a) M) (h2:d2 ρ M = .ok (.int b) M):vU (jb d1 (jb d2 yb)) ρ M = .ok (wP (a,b)) M:=by
 rw [JQ,jp,h1];simp only [Res.bind_ok];rw [jp,h2];simp only [Res.bind_ok,ju];exact if_pos (show (2:Nat)<=sizeLine by decide)
theorem jbS (P:Pu M i lo n s fs sd es gs q) (hn:n<=40) (hl:q.ls.length<=80000) (hw:q.wr.length<=80000) {h c:Int} {w:Str} (hm:(h,w) ∉ q.wr):∃ M' es',YU [.ref i,.int h,.str w,.int c] M = .ok .non M'∧Pu M' i lo n s fs sd es' gs (q.say (hon n fs) h w c)∧Fr M M' i M.n:=by
 obtain ⟨P1,f1⟩:=P.setw (q.wr ++ [(h,w)])
 obtain ⟨M1,hM1⟩:∃ M1,M1=M.set (i + 3) (.dsv ((q.wr ++ [(h,w)]).map kw)):=⟨_,rfl⟩
 rw [<- hM1] at P1 f1;obtain ⟨M2,es2,e2,P2,f2⟩:=wall_p P1 hn hl h (w,c);refine ⟨M2,es2,?_,P2,f1.tr f2⟩;refine yI (ρ:=[some (.ref i),some (.int h),some (.str w),some (.int c)]) (ρ':=[some (.ref i),some (.int h),some (.str w),some (.int c)]) rfl rfl ?_;unfold d_zak;unfold ye;rw [jde (j:=i + 3) (l:=q.wr) (h:=h) (c:=w) rfl (P.fld (x:="written") (d:=ya 0) rfl rfl) rfl P.wt (by omega) hm,<- hM1];show yi _ [some (.ref i),some (.int h),some (.str w),some (.int c)] M1=_;refine yz (v:=.non) ?_;have et:vU (jb (ya 2) (jb (ya 3) yb)) [some (.ref i),some (.int h),some (.str w),some (.int c)] M1 = .ok (wP (w,c)) M1:=tupW rfl rfl;rw [P1.mth (xs:=[.int h,wP (w,c)]) (zs:=[]) (M1:=M1) (M2:=M1) rfl rfl (by rw [jp]; simp only [jz,jF,Res.bind_ok]; rw [yK et]; rfl) rfl];exact e2
theorem jbp (P:Pu M i lo n s fs sd es gs q) (hn:n<=40) (hl:q.ls.length<=80000) (hw:q.wr.length<=80000) (h c:Int) (w:Str):∃ M' es',ut [.ref i,.int h,.str w,.int c] M = .ok .non M'∧Pu M' i lo n s fs sd es' gs (q.once (hon n fs) h w c)∧Fr M M' i M.n:=by
 have t1:vz (xm (yv 12 "has_written" xC 3 0 [.p 0,.p 1,.p 2] [] (ya 0) (jb (ya 1) (jb (ya 2) yb)) yb)) [some (.ref i),some (.int h),some (.str w),some (.int c)] M = .ok (!decide ((h,w) ∈ q.wr)) M:=by
  rw [JR,vy,P.mth (xs:=[.int h,.str w]) (zs:=[]) (M1:=M) (M2:=M) rfl rfl rfl rfl];rw [show xC (yo 3 0 [Sl.p 0,Sl.p 1,Sl.p 2] [] [PV.ref i,.int h,.str w] []) M=_ from jfF P h w];rfl
 unfold Es.once
 by_cases hm:(h,w) ∈ q.wr
 ·rw [if_pos hm];rw [decide_eq_true hm] at t1;refine ⟨M,es,yI (ρ:=[some (.ref i),some (.int h),some (.str w),some (.int c)]) (ρ':=[some (.ref i),some (.int h),some (.str w),some (.int c)]) rfl rfl ?_,P,.refl _ _ _⟩;unfold jgh;exact vo t1
 ·rw [if_neg hm];rw [decide_eq_false hm] at t1;obtain ⟨M2,es2,e2,P2,f2⟩:=jbS P hn hl hw (c:=c) hm;refine ⟨M2,es2,yI (ρ:=[some (.ref i),some (.int h),some (.str w),some (.int c)]) (ρ':=[some (.ref i),some (.int h),some (.str w),some (.int c)]) rfl rfl ?_,P2,f2⟩;unfold jgh;refine Yg t1 (yz (v:=.non) ?_);rw [P.mth (xs:=[.int h,.str w,.int c]) (zs:=[]) (M1:=M) (M2:=M) rfl rfl rfl rfl];exact e2
theorem jcJ {c:Int} (c0:0<=c) (c1:c<=999):YW [.int c] M = .ok .non M:=by
 show fin (jgj [some (.int c)] M)=_;unfold jgj;simp [yo,gen,jA (M:=M) (a:=0) (b:=999) (Kd.int c) (by decide) (by decide),vO c0 c1]
theorem jgs {w:Str} (hw:w=sF∨w=sE∨w=sR):jaQ [.str w] M = .ok .non M:=by
 rcases hw with rfl | rfl | rfl <;> rfl
theorem send_p (P:Pu M i lo n s fs sd es gs q) (hn:n<=40) (hl:q.ls.length<=80000) (hw:q.wr.length<=80000) {c:Int} (c0:0<=c) (c1:c<=999) (hf:sd ∉ fs) (hm:(sd,sF) ∉ q.wr):∃ M' es',VP [.ref i,.int c] M = .ok .non M'∧Pu M' i lo n s fs sd es' gs (q.say (hon n fs) sd sF c)∧Fr M M' i M.n:=by
 obtain ⟨M2,es2,e2,P2,f2⟩:=jbS P hn hl hw (c:=c) hm;refine ⟨M2,es2,?_,P2,f2⟩;refine yI (ρ:=[some (.ref i),some (.int c)]) (ρ':=[some (.ref i),some (.int c)]) rfl rfl ?_;unfold jiN;have vs:yl 12 "sender" (ya 0) [some (.ref i),some (.int c)] M = .ok (.int sd) M:=P.fld (x:="sender") rfl rfl;refine yG (v:=.non) (M1:=M) ?_ ?_
 ·simp only [jT,jp,jz,jF,ju,Res.bind_ok];exact jcJ c0 c1
 refine xW (M1:=M) (ym (yk vs (P.fld (x:="liars") (v:=.lst (fs.map PV.int)) rfl rfl) (by rw [xx (neg:=false) (x:=.lst (fs.map PV.int)) rfl]; show some (PV.bl (decide (sd ∈ fs)))=_; rw [decide_eq_false hf]))) ?_;refine xW (M1:=M) ?_ ?_
 ·rw [vy,P.mth (xs:=[.int sd,.str sF]) (zs:=[]) (M1:=M) (M2:=M) rfl rfl (by rw [jp,vs]; rfl) rfl];rw [show xC (yo 3 0 [Sl.p 0,Sl.p 1,Sl.p 2] [] [PV.ref i,.int sd,.str sF] []) M=_ from jfF P sd sF,decide_eq_false hm];rfl
 refine yz (v:=.non) ?_;rw [P.mth (xs:=[.int sd,.str sF,.int c]) (zs:=[]) (M1:=M) (M2:=M) rfl rfl (by rw [jp,vs]; rfl) rfl];exact e2
theorem lie_p (P:Pu M i lo n s fs sd es gs q) (hl:q.ls.length<=80000) {f h c:Int} {w:Str} (hf:f ∈ fs) (f0:0<=f) (f1:f < n) (hh:h ∈ hon n fs) (hw:w=sF∨w=sE∨w=sR) (c0:0<=c) (c1:c<=999):∃ M' es',ul [.ref i,.int f,.int h,.str w,.int c] M = .ok .non M'∧Pu M' i lo n s fs sd es' gs ⟨q.wr,q.gt,q.tk,q.ls ++ [(f,h,w,c)]⟩∧Fr M M' i M.n:=by
 obtain ⟨M2,e2,P2,f2⟩:=jbT P (by rw [P.elen]; omega) (f,h,w,c);refine ⟨M2,_,?_,P2,f2⟩;refine yI (ρ:=[some (.ref i),some (.int f),some (.int h),some (.str w),some (.int c)]) (ρ':=[some (.ref i),some (.int f),some (.int h),some (.str w),some (.int c)]) rfl rfl ?_;unfold jiI;refine yG (v:=.non) (M1:=M) ?_ ?_
 ·rw [P.mth (xs:=[.int f]) (zs:=[]) (M1:=M) (M2:=M) rfl rfl rfl rfl];exact chk_l P hf f0 f1
 refine yG (v:=.non) (M1:=M) ?_ ?_
 ·rw [P.mth (xs:=[.int h]) (zs:=[]) (M1:=M) (M2:=M) rfl rfl rfl rfl];exact jgt P hh
 refine yG (v:=.non) (M1:=M) ?_ ?_
 ·simp only [jT,jp,jz,jF,ju,Res.bind_ok];exact jgs hw
 refine yG (v:=.non) (M1:=M) ?_ ?_
 ·simp only [jT,jp,jz,jF,ju,Res.bind_ok];exact jcJ c0 c1
 refine yz (v:=.non) ?_;have et:vU (jb (ya 3) (jb (ya 4) yb)) [some (.ref i),some (.int f),some (.int h),some (.str w),some (.int c)] M = .ok (wP (w,c)) M:=tupW rfl rfl;rw [P.mth (xs:=[.int f,.int h,wP (w,c)]) (zs:=[]) (M1:=M) (M2:=M) rfl rfl (by rw [jp]; simp only [jz,jF,Res.bind_ok]; rw [jp]; simp only [jz,jF,Res.bind_ok]; rw [yK et]; rfl) rfl];exact e2
theorem jiw {j:Nat} {x:T4} (h:M.g j=some (.ins 10 (ltF x))):um [.ref j] M = .ok (p4 x) M:=by
 refine jV (ρ:=[some (.ref j)]) rfl rfl ?_;unfold jiR;refine jO ?_;simp only [JQ,jp,ju,jP (x:="sender") (d:=ya 0) (ρ:=[some (.ref j)]) (v:=.int x.1) rfl h rfl,jP (x:="house") (d:=ya 0) (ρ:=[some (.ref j)]) (v:=.int x.2.1) rfl h rfl,jP (x:="what") (d:=ya 0) (ρ:=[some (.ref j)]) (v:=wP x.2.2) rfl h rfl,Res.bind_ok];exact if_pos (show (3:Nat)<=sizeLine by decide)
theorem jdt (P:Pu M i lo n s fs sd es gs q) (hl:q.ls.length<=80000):VU [.ref i] M = .ok (.lst (q.ls.map p4)) M:=by
 refine jV (ρ:=[some (.ref i)]) rfl rfl ?_;unfold d_zas;refine jO ?_
 have:=jbG (j:=i + 1) (di:=dIt (yl 12 "on_way" (ya 0))) (bnd:=jaL) (js:=[]) (dt:=YL) (de:=yv 10 "row" um 1 0 [.p 0] [] (ya 0) yb yb) (ρ:=[some (.ref i)]) (M:=M) (fun e:Nat × T4=>PV.ref e.1) (fun e=>p4 e.2) es (jhL P.ow (P.fld (x:="on_way") (d:=ya 0) rfl rfl)) P.ow (by rw [P.elen]; exact szB (by omega)) fun e he=>⟨[some (.ref e.1)],rfl,rfl,by
  obtain ⟨h1,h2,h3⟩:=P.el e he;rw [jM (xs:=[]) (zs:=[]) (M1:=M) (M2:=M) rfl h3 rfl rfl rfl]
  exact jiw h3⟩
 rw [this,<- P.le,List.map_map];rfl
end

section
variable {M M':Sto} {i lo n:Nat} {s:Int} {fs:List Int} {sd:Int} {es:List (Nat × T4)} {gs:List (Nat × Int × Str × Int)} {q:Es}
theorem jeC {α:Type} {R:α->α->Prop} (hs:∀ a b,R a b->R b a):∀ {l:List α},l.Pairwise R->∀ {x y:α},x ∈ l->y ∈ l->x≠y->R x y
 | [],_,_,_,hx,_,_=>by cases hx
 | a :: l,h,x,y,hx,hy,hne=>by
  obtain ⟨h1,h2⟩:=List.pairwise_cons.mp h
  rcases List.mem_cons.mp hx with rfl | hx1
  ·rcases List.mem_cons.mp hy with rfl | hy
   ·exact absurd rfl hne
   ·exact h1 _ hy
  ·rcases List.mem_cons.mp hy with rfl | hy
   ·exact hs _ _ (h1 _ hx1)
   ·exact jeC hs h2 hx1 hy hne
theorem nk_inj {a b:Int × Str × Int} (h:nk a=nk b):a=b:=by
 injection h with h1 h2
 injection h2 with h2 h3
 injection h3 with h3 _
 exact Prod.ext h1 (Prod.ext (Sum.inr.inj h2) (Sum.inl.inj h3))
theorem jfJ (gs:List (Nat × Int × Str × Int)) (p:Int × Str × Int):(∃ e ∈ gs,e.2=p∧yO (gs.map kg) (nk p)=some (.ref e.1))∨((∀ e ∈ gs,e.2≠p)∧yO (gs.map kg) (nk p)=none):=by
 induction gs with
 | nil=>exact .inr ⟨fun e he=>(by cases he),rfl⟩
 | cons g gs ih =>
  by_cases h:g.2=p
  ·refine .inl ⟨g,List.mem_cons_self,h,?_⟩;unfold yO;rw [List.map_cons,List.find?_cons,decide_eq_true (show (kg g).1=nk p by show nk g.2=_; rw [h])];rfl
  ·have hk:(kg g).1≠nk p:=fun z=>h (nk_inj z)
   have e:yO ((g :: gs).map kg) (nk p)=yO (gs.map kg) (nk p):=by
    unfold yO;rw [List.map_cons,List.find?_cons,decide_eq_false hk]
   rw [e]
   rcases ih with ⟨x,hx,h1,h2⟩ | ⟨h1,h2⟩
   ·exact .inl ⟨x,List.mem_cons_of_mem _ hx,h1,h2⟩
   ·exact .inr ⟨fun x hx=>by
     rcases List.mem_cons.mp hx with rfl | hx
     ·exact h
     ·exact h1 x hx,h2⟩
theorem JV (q:Es) (p:Int × Str × Int):(xL q.gt p).length=q.many p:=List.length_map ..
theorem Jf {gt:List T4} {p:Int × Str × Int} (h:∀ t ∈ gt,t.2≠p):xL gt p=[]:=by
 unfold xL;rw [List.filter_eq_nil_iff.mpr (fun t ht z=>h t ht (of_decide_eq_true z))];rfl
theorem JW (q:Es) (t:T4) (p:Int × Str × Int):xL (q.add t).gt p=if p=t.2 then xV (xL q.gt p) t.1 (.bl true) else xL q.gt p:=by
 unfold Es.add
 by_cases ht:t ∈ q.gt
 ·rw [if_pos ht];split
  ·rename_i hp;subst hp;unfold xV;have h1:((xL q.gt t.2).any fun p=>decide (p.1=t.1))=true:=List.any_eq_true.mpr ⟨(t.1,.bl true),List.mem_map.mpr ⟨t,List.mem_filter.mpr ⟨ht,decide_eq_true rfl⟩,rfl⟩,decide_eq_true rfl⟩;rw [if_pos h1]
   have:∀ x ∈ xL q.gt t.2,(if x.1=t.1 then (x.1,PV.bl true) else x)=x:=fun x hx=>by
    obtain ⟨y,_,rfl⟩:=List.mem_map.mp hx;split <;> rfl
   rw [List.map_congr_left this,List.map_id']
  ·rfl
 ·rw [if_neg ht];show xL (q.gt ++ [t]) p=_
  have ea:xL (q.gt ++ [t]) p=xL q.gt p ++ xL [t] p:=by
   unfold xL;rw [List.filter_append,List.map_append]
  rw [ea];split
  ·rename_i hp;subst hp;unfold xV
   have h1:((xL q.gt t.2).any fun p=>decide (p.1=t.1))=false:=by
    rw [List.any_eq_false];intro x hx e;obtain ⟨y,hy,rfl⟩:=List.mem_map.mp hx;obtain ⟨hy1,hy2⟩:=List.mem_filter.mp hy;have e:y.1=t.1:=of_decide_eq_true e;exact ht (by rw [show t=y from Prod.ext e.symm (of_decide_eq_true hy2).symm]; exact hy1)
   have h2:xL [t] t.2=[(t.1,.bl true)]:=by
    unfold xL
    have:[t].filter (fun x=>decide (x.2=t.2))=[t]:=by simp
    rw [this];rfl
   rw [h1,h2];rfl
  ·rename_i hp
   have h2:xL [t] p=[]:=Jf fun x hx=>by rw [List.mem_singleton.mp hx]; exact fun z=>hp z.symm
   rw [h2,List.append_nil]
theorem Pu.garb (P:Pu M i lo n s fs sd es gs q) (c:Cell):Pu (M.new c) i lo n s fs sd es gs q∧Fr M (M.new c) i M.n:=by
 have a:=P.li;have b:=P.ln;exact ⟨P.off (Nat.le_succ _) fun j h=>Sto.new_ne (by omega),Nat.le_succ _,fun j h1 h2=>Sto.new_ne (by omega)⟩
theorem many_p (P:Pu M i lo n s fs sd es gs q) (o:Int) (c:Str × Int):∃ M',Jc [.ref i,.int o,wP c] M = .ok (.int (q.many (o,c))) M'∧Pu M' i lo n s fs sd es gs q∧Fr M M' i M.n:=by
 obtain ⟨P1,f1⟩:=P.garb (.dkv []);refine ⟨_,?_,P1,f1⟩;have b:=P.ln;refine jV (ρ:=[some (.ref i),some (.int o),some (wP c)]) rfl rfl ?_;unfold d_zao;refine jO ?_
 have eg:∀ {x:PV},x=(yO (gs.map kg) (nk (o,c))).getD (.ref M.n)->jcG (yl 12 "got" (ya 0)) (jb (ya 1) (jb (ya 2) yb)) Xe [some (.ref i),some (.int o),some (wP c)] M = .ok x (M.new (.dkv [])):=fun {x} hx=>by
  unfold jcG;rw [P.fld (x:="got") (v:=.ref (i + 2)) (d:=ya 0) (ρ:=[some (.ref i),some (.int o),some (wP c)]) rfl rfl];simp only [Res.bind_ok,P.go,jp,jz,jF,ju];rw [if_pos trivial];show (if (2:Nat)<=sizeLine then (Xe [some (.ref i),some (.int o),some (wP c)] M).bind _ else _)=_;rw [if_pos (by decide)]
  show (match (M.new (.dkv [])).g (i + 2) with
    | some (.dnv j l)=>if j=i + 2 then Res.ok ((yO l (nk (o,c))).getD (.ref M.n)) (M.new (.dkv [])) else .bad
    | _=>.bad)=_
  rw [P1.go,hx];exact if_pos rfl
 rcases jfJ gs (o,c) with ⟨e,he,h1,h2⟩ | ⟨h1,h2⟩
 ·refine uw (eg (x:=.ref e.1) (by rw [h2]; rfl)) ?_;obtain ⟨a1,a2,a3⟩:=P1.gl e he;unfold jaw;simp only [a3];rw [JV,h1]
 ·refine uw (eg (x:=.ref M.n) (by rw [h2]; rfl)) ?_;unfold jaw;simp only [Sto.new_same]
  have:q.many (o,c)=0:=by
   rw [<- JV,Jf fun t ht z=>by
    obtain ⟨e,he,e2⟩:=P.gc t ht
    exact h1 e he (e2.trans z)]
   rfl
  rw [this];rfl
theorem jeJ {j k:Nat} {xs:List PV} {y:PV} (h:M.g j=some (.lst xs)) (hy:xs[k]? = some y) (hl:xs.length<=100000):YD M (.ref j) [.int k]=some (y,M.set j (.lst (xs.eraseIdx k))):=by
 unfold YD
 have:VC M (.ref j)=some (j,xs):=by
  show (match M.g j with
   | some (.lst xs)=>some (j,xs)
   | _=>none)=_
  rw [h]
 rw [this];obtain ⟨hk,_⟩:=List.getElem?_eq_some_iff.mp hy;simp only [];rw [if_pos ⟨by omega,by omega,by omega⟩,Int.toNat_natCast,hy];rfl
theorem Vj {α:Type} {x:α} {l:List α} {k:Nat} (h:x ∈ l.eraseIdx k):x ∈ l:=List.mem_of_mem_eraseIdx h
theorem Jl {α β:Type} (f:α->β):∀ (l:List α) (k:Nat),(l.map f).eraseIdx k=(l.eraseIdx k).map f
 | [],_=>rfl
 | _ :: _,0=>rfl
 | x :: l,k + 1=>by
  show f x :: (l.map f).eraseIdx k=f x :: (l.eraseIdx k).map f;rw [Jl f l k]
theorem Pu.pop (P:Pu M i lo n s fs sd es gs q) (k:Nat):Pu (M.set (i + 1) (.lst ((es.eraseIdx k).map fun e=>PV.ref e.1))) i lo n s fs sd (es.eraseIdx k) gs ⟨q.wr,q.gt,q.tk,q.ls.eraseIdx k⟩∧Fr M (M.set (i + 1) (.lst ((es.eraseIdx k).map fun e=>PV.ref e.1))) i M.n:=by
 have a:=P.li;have b:=P.ln;have gj:∀ j,j≠i + 1->(M.set (i + 1) (.lst ((es.eraseIdx k).map fun e=>PV.ref e.1))).g j=M.g j:=fun j h=>Sto.set_ne h;refine ⟨⟨by rw [gj _ (by omega)]; exact P.pu,Sto.set_same,by rw [gj _ (by omega)]; exact P.go,by rw [gj _ (by omega)]; exact P.wt,by rw [gj _ (by omega)]; exact P.sk,fun e he=>?_,fun e he=>?_,P.gd,P.gk,P.gc,by show _=q.ls.eraseIdx k; rw [<- P.le,Jl],a,b⟩,Nat.le_refl _,fun j h1 h2=>gj j (by omega)⟩
 ·obtain ⟨h1,h2,h3⟩:=P.el e (Vj he);exact ⟨h1,h2,by rw [gj _ (by omega)]; exact h3⟩
 ·obtain ⟨h1,h2,h3⟩:=P.gl e he;exact ⟨h1,h2,by rw [gj _ (by omega)]; exact h3⟩
theorem take_p (P:Pu M i lo n s fs sd es gs q) (hl:q.ls.length<=80000) (hg:gs.length<=80000) (hq:q.gt.length<=80000) {k:Nat} {t:T4} (hk:q.ls[k]? = some t):∃ j M' gs',VO [.ref i,.int k] M = .ok (.ref j) M'∧Pu M' i lo n s fs sd (es.eraseIdx k) gs' ((⟨q.wr,q.gt,q.tk,q.ls.eraseIdx k⟩:Es).add t)∧Fr M M' i lo∧M'.g j=some (.ins 10 (ltF t))∧i + 5<=j∧j < M'.n∧gs'.length<=gs.length + 1:=by
 have a:=P.li;have b:=P.ln;obtain ⟨kl,_⟩:=List.getElem?_eq_some_iff.mp hk
 have hk2:(es.map (·.2))[k]? = some t:=by rw [P.le]; exact hk
 rw [List.getElem?_map] at hk2
 obtain ⟨e,he,het⟩:∃ e,es[k]? = some e∧e.2=t:=by
  cases h:es[k]? with
  | none=>rw [h] at hk2; cases hk2
  | some e=>rw [h] at hk2; cases hk2; exact ⟨e,rfl,rfl⟩
 obtain ⟨e1,e2,e3⟩:=P.el e (List.mem_of_getElem? he);rw [het] at e3;obtain ⟨P1,f1⟩:=P.pop k
 obtain ⟨M1,hM1⟩:∃ M1,M1=M.set (i + 1) (.lst ((es.eraseIdx k).map fun e=>PV.ref e.1)):=⟨_,rfl⟩
 rw [<- hM1] at P1 f1
 have n1:M1.n=M.n:=by rw [hM1]; rfl
 have g1:M1.g e.1=some (.ins 10 (ltF t)):=by rw [hM1,Sto.set_ne (by omega)]; exact e3
 obtain ⟨P2,f2⟩:=P1.garb (.dkv [])
 obtain ⟨M2,hM2⟩:∃ M2,M2=M1.new (.dkv []):=⟨_,rfl⟩
 rw [<- hM2] at P2 f2
 have n2:M2.n=M.n + 1:=by rw [hM2]; show M1.n + 1=_; rw [n1]
 have g2:M2.g e.1=some (.ins 10 (ltF t)):=by rw [hM2,Sto.new_ne (by omega)]; exact g1
 obtain ⟨q1,hq1⟩:∃ q1:Es,q1=⟨q.wr,q.gt,q.tk,q.ls.eraseIdx k⟩:=⟨_,rfl⟩
 rw [<- hq1] at P1 P2 ⊢
 have q1g:q1.gt=q.gt:=by rw [hq1]
 have addw:(q1.add t).wr=q1.wr:=by unfold Es.add; split <;> rfl
 have adds:(q1.add t).tk=q1.tk:=by unfold Es.add; split <;> rfl
 have addl:(q1.add t).ls=q1.ls:=by unfold Es.add; split <;> rfl
 have addg:∀ x ∈ (q1.add t).gt,x=t∨x ∈ q1.gt:=fun x hx=>by
  unfold Es.add at hx;split at hx
  ·exact .inr hx
  ·rcases List.mem_append.mp hx with hx | hx
   ·exact .inr hx
   ·exact .inl (List.mem_singleton.mp hx)
 have slen:(xL q1.gt t.2).length<=80000:=by rw [JV]; unfold Es.many; exact Nat.le_trans (List.length_filter_le _ _) (by rw [q1g]; exact hq)
 obtain ⟨ρ0,hρ0⟩:∃ ρ0:En,ρ0=[some (.ref i),some (.int k),some (.ref e.1),none]:=⟨_,rfl⟩
 -- all but the last two steps
 have go:∀ {d:Nat} {M3 M4:Sto},jaH (yl 12 "got" (ya 0)) (jb (yl 10 "house" (ya 2)) (jb (yl 10 "what" (ya 2)) yb)) Xe ρ0 M1 = .ok (.ref d) M3->M3.g e.1=some (.ins 10 (ltF t))->uO M3 (.ref d) (.int t.1) (.bl true)=some M4->VO [.ref i,.int k] M = .ok (.ref e.1) M4:=fun {d M3 M4} h1 h2 h3=>by
  refine jV (ρ:=[some (.ref i),some (.int k),none,none]) rfl rfl ?_;unfold jiM
  have ol:xD M (.ref (i + 1))=some (.int es.length):=by rw [xJ (ve P.ow),List.length_map]
  refine xW (M1:=M) ?_ ?_
  ·have ew:vE [.int k,.int 0,.int ((es.length:Int) - 1)] M = .ok (.bl true) M:=by
    rw [vw (Kd.int _),vO (by omega) (by rw [P.elen]; omega)]
   have el2:dCB (one xD) (jb (yl 12 "on_way" (ya 0)) yb) [some (.ref i),some (.int k),none,none] M = .ok (.int es.length) M:=uw (P.fld (x:="on_way") (d:=ya 0) rfl rfl) ol;have el3:dOp jbC (dCB (one xD) (jb (yl 12 "on_way" (ya 0)) yb)) (dC (.int 1)) [some (.ref i),some (.int k),none,none] M = .ok (.int ((es.length:Int) - 1)) M:=yk el2 rfl rfl;rw [JR,vy,jT];simp only [jp,jz,jF,xA,ju,Res.bind_ok,el3];rw [show vE (yo 3 0 [Sl.p 0,Sl.p 1,Sl.p 2] [] [PV.int k,.int 0,.int ((es.length:Int) - 1)] []) M=_ from ew];rfl
  refine jR (v:=.ref e.1) (M1:=M1) ?_ ?_
  ·refine jgn (x:=.ref (i + 1)) (M1:=M) (M2:=M) (xs:=[.int k]) (P.fld (x:="on_way") (d:=ya 0) rfl rfl) (vI P.ow) rfl ?_;rw [jeJ (y:=.ref e.1) P.ow (by rw [List.getElem?_map,he]; rfl) (by rw [List.length_map,P.elen]; omega),Jl,hM1]
  simp only [List.set_cons_succ,List.set_cons_zero];rw [<- hρ0];refine jR (v:=.ref d) (M1:=M3) h1 ?_;rw [hρ0];simp only [List.set_cons_succ,List.set_cons_zero];unfold ye Ji;simp only [xA,jz,jF,Res.st_ok];rw [jP (x:="sender") (v:=.int t.1) (d:=ya 2) (M:=M3) (i:=e.1) rfl h2 rfl];simp only [Res.st_ok,h3];exact jO rfl
 have sdf:∀ {r:Res PV},(match yO (gs.map kg) (nk t.2) with
     | some x=>Res.ok x M2
     | none=>.ok (.ref M.n) (M2.set (i + 2) (.dnv (i + 2) (gs.map kg ++ [(nk t.2,.ref M.n)]))))=r->jaH (yl 12 "got" (ya 0)) (jb (yl 10 "house" (ya 2)) (jb (yl 10 "what" (ya 2)) yb)) Xe ρ0 M1=r:=fun {r} hr=>by
  have w1:yl 10 "house" (ya 2) ρ0 M1 = .ok (.int t.2.1) M1:=jP (i:=e.1) (by rw [hρ0]; rfl) g1 rfl;have w2:yl 10 "what" (ya 2) ρ0 M1 = .ok (wP t.2.2) M1:=jP (i:=e.1) (by rw [hρ0]; rfl) g1 rfl;have w3:yl 12 "got" (ya 0) ρ0 M1 = .ok (.ref (i + 2)) M1:=P1.fld (by rw [hρ0]; rfl) rfl;unfold jaH;rw [w3];simp only [Res.bind_ok,P1.go,jp,w1,w2,ju];rw [if_pos trivial];show (if (2:Nat)<=sizeLine then (Xe ρ0 M1).bind _ else _)=_;rw [if_pos (by decide)]
  show (match (M1.new (.dkv [])).g (i + 2) with
    | some (.dnv j l)=>if j=i + 2∧l.length < sizeLine then (match yO l (nk t.2) with
     | some x=>Res.ok x (M1.new (.dkv []))
     | none=>.ok (.ref M1.n) ((M1.new (.dkv [])).set (i + 2) (.dnv (i + 2) (l ++ [(nk t.2,PV.ref M1.n)])))) else .bad
    | _=>.bad)=_
  rw [<- hM2,P2.go];simp only [];rw [if_pos ⟨trivial,by rw [List.length_map]; exact szB (by omega)⟩,n1];exact hr
 rcases jfJ gs t.2 with ⟨x,hx,x1,x2⟩ | ⟨x1,x2⟩
 ·-- a house of which letters of this round have come to it
  obtain ⟨y1,y2,y3⟩:=P2.gl x hx;have xt:x.2=t.2:=x1;rw [xt] at y3
  obtain ⟨M4,hM4⟩:∃ M4,M4=M2.set x.1 (.dkv (xV (xL q1.gt t.2) t.1 (.bl true))):=⟨_,rfl⟩
  have pk:uO M2 (.ref x.1) (.int t.1) (.bl true)=some M4:=by
   unfold uO;simp only [y3];rw [if_pos (szB (by omega)),hM4]
  have gj:∀ j,j≠x.1->M4.g j=M2.g j:=fun j h=>by rw [hM4,Sto.set_ne h]
  have n4:M4.n=M2.n:=by rw [hM4]; rfl
  have nex:e.1≠x.1:=fun z=>by rw [z,y3] at g2; cases g2
  refine ⟨e.1,M4,gs,go (sdf (by rw [x2])) g2 pk,⟨by rw [gj _ (by omega)]; exact P2.pu,by rw [gj _ (by omega)]; exact P2.ow,by rw [gj _ (by omega)]; exact P2.go,by rw [gj _ (by omega),addw]; exact P2.wt,by rw [gj _ (by omega),adds]; exact P2.sk,fun z hz=>?_,fun z hz=>?_,P.gd,P.gk,fun z hz=>?_,by rw [addl]; exact P2.le,a,by omega⟩,((f1.tr f2).weak b).trans ⟨by omega,fun j h1 h2=>gj j (by omega)⟩,by rw [gj _ nex]; exact g2,e1.1,by omega,by omega⟩
  ·obtain ⟨h1,h2,h3⟩:=P2.el z hz;exact ⟨h1,by omega,by rw [gj _ (fun w=>by rw [w,y3] at h3; cases h3)]; exact h3⟩
  ·obtain ⟨h1,h2,h3⟩:=P2.gl z hz;refine ⟨h1,by omega,?_⟩;rw [JW]
   by_cases hz2:z.2=t.2
   ·rw [if_pos hz2,hz2]
    have hzx:z=x:=Classical.byContradiction fun w=>by
     have:=jeC (fun _ _ h z=>h z.symm) P.gk hz hx w
     exact this (hz2.trans xt.symm)
    rw [hzx,hM4,Sto.set_same]
   ·rw [if_neg hz2];have hzx:z.1≠x.1:=jeC (fun _ _ h z=>h z.symm) P.gd hz hx (fun w=>hz2 (by rw [w]; exact xt));rw [gj _ hzx];exact h3
  ·rcases addg z hz with rfl | hz
   ·exact ⟨x,hx,xt⟩
   ·exact P1.gc z hz
 ·-- the first one
  obtain ⟨M3,hM3⟩:∃ M3,M3=M2.set (i + 2) (.dnv (i + 2) ((gs ++ [(M.n,t.2)]).map kg)):=⟨_,rfl⟩
  have g3:M3.g M.n=some (.dkv []):=by rw [hM3,Sto.set_ne (by omega),hM2,<- n1]; exact Sto.new_same
  have ep:gs.map kg ++ [(nk t.2,.ref M.n)]=(gs ++ [(M.n,t.2)]).map kg:=by
   rw [List.map_append];rfl
  obtain ⟨M4,hM4⟩:∃ M4,M4=M3.set M.n (.dkv [(t.1,.bl true)]):=⟨_,rfl⟩
  have pk:uO M3 (.ref M.n) (.int t.1) (.bl true)=some M4:=by
   unfold uO;simp only [g3];rw [if_pos (by decide),hM4];rfl
  have n4:M4.n=M2.n:=by rw [hM4,hM3]; rfl
  have gj:∀ j,j≠i + 2->j≠M.n->M4.g j=M2.g j:=fun j h1 h2=>by rw [hM4,Sto.set_ne h2,hM3,Sto.set_ne h1]
  have none1:∀ z ∈ q1.gt,z.2≠t.2:=fun z hz w=>by
   obtain ⟨x,hx,h⟩:=P1.gc z hz;exact x1 x hx (h.trans w)
  refine ⟨e.1,M4,gs ++ [(M.n,t.2)],go (sdf (by rw [x2,ep,<- hM3])) (by rw [hM3,Sto.set_ne (by omega)]; exact g2) pk,⟨by rw [gj _ (by omega) (by omega)]; exact P2.pu,by rw [gj _ (by omega) (by omega)]; exact P2.ow,by rw [hM4,Sto.set_ne (by omega),hM3,Sto.set_same],by rw [gj _ (by omega) (by omega),addw]; exact P2.wt,by rw [gj _ (by omega) (by omega),adds]; exact P2.sk,fun z hz=>?_,fun z hz=>?_,?_,?_,fun z hz=>?_,by rw [addl]; exact P2.le,a,by omega⟩,((f1.tr f2).weak b).trans ⟨by omega,fun j h1 h2=>gj j (by omega) (by omega)⟩,by rw [gj _ (by omega) (by omega)]; exact g2,e1.1,by omega,by rw [List.length_append]; exact Nat.le_refl _⟩
  ·obtain ⟨h1,h2,h3⟩:=P1.el z hz;obtain ⟨_,_,h4⟩:=P2.el z hz;exact ⟨h1,by omega,by rw [gj _ (by omega) (by omega)]; exact h4⟩
  ·rcases List.mem_append.mp hz with hz | hz
   ·obtain ⟨h1,h2,h3⟩:=P1.gl z hz;obtain ⟨_,_,h4⟩:=P2.gl z hz;refine ⟨h1,by omega,?_⟩;rw [JW,if_neg (x1 z hz),gj _ (by omega) (by omega)];exact h4
   ·rw [List.mem_singleton.mp hz];refine ⟨b,by rw [n4,n2]; exact Nat.lt_succ_self _,?_⟩;show M4.g M.n=some (.dkv (xL (q1.add t).gt t.2));rw [JW,if_pos rfl,Jf none1,hM4,Sto.set_same];rfl
  ·refine List.pairwise_append.mpr ⟨P.gd,List.pairwise_singleton _ _,fun y hy z hz=>?_⟩;rw [List.mem_singleton.mp hz]
   have:=(P.gl y hy).2.1
   show y.1≠M.n;omega
  ·refine List.pairwise_append.mpr ⟨P.gk,List.pairwise_singleton _ _,fun y hy z hz=>?_⟩;rw [List.mem_singleton.mp hz];exact x1 y hy
  ·rcases addg z hz with rfl | hz
   ·exact ⟨(M.n,z.2),List.mem_append.mpr (.inr (List.mem_singleton.mpr rfl)),rfl⟩
   ·obtain ⟨x,hx,h⟩:=P1.gc z hz;exact ⟨x,List.mem_append.mpr (.inl hx),h⟩
end

section
variable {M M':Sto} {i lo n:Nat} {s:Int} {fs:List Int} {sd:Int} {es:List (Nat × T4)} {gs:List (Nat × Int × Str × Int)} {q:Es}
def yw (q:Es) (h:Int):Option Int:=(q.tk.find? fun x=>decide (x.1=h)).map (·.2)
theorem YC (l:List (Int × Int)) (h:Int):yO (l.map kt) h=((l.find? fun x=>decide (x.1=h)).map (·.2)).map PV.int:=by
 unfold yO;rw [List.find?_map,Option.map_map,Option.map_map];rfl
theorem vY (q:Es) (h:Int):(yw q h).isSome=decide (h ∈ q.tk.map (·.1)):=by
 unfold yw;rw [Option.isSome_map,Bool.eq_iff_iff,List.find?_isSome,decide_eq_true_eq];constructor
 ·rintro ⟨x,hx,e⟩;exact List.mem_map.mpr ⟨x,hx,of_decide_eq_true e⟩
 ·intro h;obtain ⟨x,hx,e⟩:=List.mem_map.mp h;exact ⟨x,hx,decide_eq_true e⟩
theorem put_kt {l:List (Int × Int)} {o c:Int} (h:o ∉ l.map (·.1)):xV (l.map kt) o (.int c)=(l ++ [(o,c)]).map kt:=by
 unfold xV
 have e:((l.map kt).any fun p=>decide (p.1=o))=false:=by
  rw [List.any_eq_false];intro x hx e;obtain ⟨y,hy,rfl⟩:=List.mem_map.mp hx;have e:y.1=o:=of_decide_eq_true e;exact h (List.mem_map.mpr ⟨y,hy,e⟩)
 rw [e,List.map_append];rfl
theorem setK_p (P:Pu M i lo n s fs sd es gs q) (hk:q.tk.length<=80000) {o c:Int} {dk dz do_:DE} {ρ:En} (v0:do_ ρ M = .ok (.ref (i + 4)) M) (v1:dk ρ M = .ok (.int o) M) (v2:dz ρ M = .ok (.int c) M):∃ v M',Vy do_ dk dz ρ M = .ok v M'∧Pu M' i lo n s fs sd es gs (q.take o c)∧Fr M M' i M.n:=by
 have e0:∀ {r:Res PV},(match yO (q.tk.map kt) o with
    | some x=>Res.ok x M
    | none=>.ok (.int c) (M.set (i + 4) (.dkv (xV (q.tk.map kt) o (.int c)))))=r->Vy do_ dk dz ρ M=r:=fun {r} hr=>by
  unfold Vy;rw [v0];simp only [Res.bind_ok,P.sk];rw [v1];simp only [Res.bind_ok];rw [v2];simp only [Res.bind_ok,P.sk];rw [if_pos (by rw [List.length_map]; exact szB (by omega))];exact hr
 have ts:=vY q o;unfold Es.take
 by_cases hm:o ∈ q.tk.map (·.1)
 ·rw [if_pos hm];rw [decide_eq_true hm] at ts;obtain ⟨z,hz⟩:=Option.isSome_iff_exists.mp ts;refine ⟨.int z,M,e0 ?_,P,.refl _ _ _⟩;rw [YC];unfold yw at hz;rw [hz];rfl
 ·rw [if_neg hm];rw [decide_eq_false hm] at ts;obtain ⟨P1,f1⟩:=P.setk (q.tk ++ [(o,c)]);refine ⟨.int c,_,e0 ?_,P1,f1⟩
  have hz:yw q o=none:=by
   cases h:yw q o with
   | none=>rfl
   | some z=>rw [h] at ts; cases ts
  rw [YC];unfold yw at hz;rw [hz,put_kt hm];rfl
theorem Yr (q:Es) (hs:List Int) (h:Int) (w:Str) (c:Int):(q.once hs h w c).wr.length<=q.wr.length + 1∧(q.once hs h w c).gt=q.gt∧(q.once hs h w c).tk=q.tk∧(q.once hs h w c).ls.length<=q.ls.length + hs.length:=by
 unfold Es.once;split
 ·exact ⟨Nat.le_succ _,rfl,rfl,Nat.le_add_right _ _⟩
 ·exact ⟨by show (q.wr ++ [_]).length<=_; rw [List.length_append]; exact Nat.le_refl _,rfl,rfl,by show (q.ls ++ _).length<=_; rw [List.length_append,List.length_map]; exact Nat.le_refl _⟩
theorem jhY (P:Pu M i lo n s fs sd es gs q) (hn:n<=40) (hl:q.ls.length<=80000) (hw:q.wr.length<=80000) (a o c:Int):∃ M' es',VW [.ref i,.int a,.int o,.int c] M = .ok .non M'∧Pu M' i lo n s fs sd es' gs (q.lookF (hon n fs) sd a o c)∧Fr M M' i M.n:=by
 have t1:yd (dOp (eqG false) (ya 1) (yl 12 "sender" (ya 0))) [some (.ref i),some (.int a),some (.int o),some (.int c)] M = .ok (a == sd) M:=ym (yk (x:=.int a) rfl (P.fld (x:="sender") (v:=.int sd) rfl rfl) Jp);unfold Es.lookF
 by_cases h:a=sd
 ·rw [if_pos h];rw [beq_iff_eq.mpr h] at t1;obtain ⟨M2,es2,e2,P2,f2⟩:=jbp P hn hl hw o c sE;refine ⟨M2,es2,yI (ρ:=[some (.ref i),some (.int a),some (.int o),some (.int c)]) (ρ':=[some (.ref i),some (.int a),some (.int o),some (.int c)]) rfl rfl ?_,P2,f2⟩;unfold jgl;refine Yg t1 (yz (v:=.non) ?_);rw [P.mth (xs:=[.int o,.str sE,.int c]) (zs:=[]) (M1:=M) (M2:=M) rfl rfl rfl rfl];exact e2
 ·rw [if_neg h];rw [show (a == sd)=false by rw [<- Bool.not_eq_true]; exact fun z=>h (beq_iff_eq.mp z)] at t1;refine ⟨M,es,yI (ρ:=[some (.ref i),some (.int a),some (.int o),some (.int c)]) (ρ':=[some (.ref i),some (.int a),some (.int o),some (.int c)]) rfl rfl ?_,P,.refl _ _ _⟩;unfold jgl;exact vo t1
theorem jiz (P:Pu M i lo n s fs sd es gs q) {ρ:En} {w:Str} (o c:Int) (v0:∀ M,ya 0 ρ M = .ok (.ref i) M) (v1:∀ M,ya 1 ρ M = .ok (.int o) M) (v2:∀ M,ya 2 ρ M = .ok (.int c) M):∃ M',yv 12 "many_got" Jc 3 0 [.p 0,.p 1,.p 2] [] (ya 0) (jb (ya 1) (jb (vU (jb (dC (.str w)) (jb (ya 2) yb))) yb)) yb ρ M = .ok (.int (q.many (o,w,c))) M'∧Pu M' i lo n s fs sd es gs q∧Fr M M' i M.n:=by
 obtain ⟨M1,e1,P1,f1⟩:=many_p P o (w,c);refine ⟨M1,?_,P1,f1⟩;have et:vU (jb (dC (.str w)) (jb (ya 2) yb)) ρ M = .ok (wP (w,c)) M:=tupW rfl (v2 M);rw [P.mth (xs:=[.int o,wP (w,c)]) (zs:=[]) (M1:=M) (M2:=M) (v0 M) rfl (by rw [jp,v1]; simp only [Res.bind_ok]; rw [yK et]; rfl) rfl];exact e1
theorem echo_p (P:Pu M i lo n s fs sd es gs q) (hn:n<=40) (hl:q.ls.length<=80000) (hw:q.wr.length<=80000) (o c:Int):∃ M' es',VX [.ref i,.int o,.int c] M = .ok .non M'∧Pu M' i lo n s fs sd es' gs (q.lookE n s (hon n fs) o c)∧Fr M M' i M.n:=by
 obtain ⟨M1,e1,P1,f1⟩:=jiz P (ρ:=[some (.ref i),some (.int o),some (.int c)]) (w:=sE) o c (fun _=>rfl) (fun _=>rfl) (fun _=>rfl)
 have t1:yd (dOp gGt (dOp YE (dC (.int 2)) (yv 12 "many_got" Jc 3 0 [.p 0,.p 1,.p 2] [] (ya 0) (jb (ya 1) (jb (vU (jb (dC (.str sE)) (jb (ya 2) yb))) yb)) yb)) (dOp JG (yl 12 "houses" (ya 0)) (yl 12 "few" (ya 0)))) [some (.ref i),some (.int o),some (.int c)] M = .ok (decide ((n:Int) + s < 2 * (q.many (o,sE,c):Int))) M1 :=
  ym (yk (yk (z:=.int (2 * (q.many (o,sE,c):Int))) rfl e1 (xZ (.inl (by decide)))) (yk (z:=.int ((n:Int) + s)) (P1.fld (x:="houses") (v:=.int n) rfl rfl) (P1.fld (x:="few") (v:=.int s) rfl rfl) rfl) rfl)
 unfold Es.lookE
 by_cases h:(n:Int) + s < 2 * (q.many (o,sE,c):Int)
 ·rw [if_pos h];rw [decide_eq_true h] at t1;obtain ⟨M2,es2,e2,P2,f2⟩:=jbp P1 hn hl hw o c sR;refine ⟨M2,es2,yI (ρ:=[some (.ref i),some (.int o),some (.int c)]) (ρ':=[some (.ref i),some (.int o),some (.int c)]) rfl rfl ?_,P2,f1.tr f2⟩;unfold jgm;refine Yg t1 (yz (v:=.non) ?_);rw [P1.mth (xs:=[.int o,.str sR,.int c]) (zs:=[]) (M1:=M1) (M2:=M1) rfl rfl rfl rfl];exact e2
 ·rw [if_neg h];rw [decide_eq_false h] at t1;refine ⟨M1,es,yI (ρ:=[some (.ref i),some (.int o),some (.int c)]) (ρ':=[some (.ref i),some (.int o),some (.int c)]) rfl rfl ?_,P1,f1⟩;unfold jgm;exact vo t1
theorem jgT (P:Pu M i lo n s fs sd es gs q) (hn:n<=40) (s0:0<=s) (s5:s<=5) (hl:q.ls.length<=80000) (hw:q.wr.length<=80000) (hk:q.tk.length<=80000) (o c:Int):∃ M' es',YX [.ref i,.int o,.int c] M = .ok .non M'∧Pu M' i lo n s fs sd es' gs (q.lookR s (hon n fs) o c)∧Fr M M' i M.n:=by
 obtain ⟨M1,e1,P1,f1⟩:=jiz P (ρ:=[some (.ref i),some (.int o),some (.int c),none]) (w:=sR) o c (fun _=>rfl) (fun _=>rfl) (fun _=>rfl)
 obtain ⟨m,hm⟩:∃ m,m=q.many (o,sR,c):=⟨_,rfl⟩
 unfold Es.lookR;rw [<- hm] at e1 ⊢
 obtain ⟨ρ,hρ⟩:∃ ρ:En,ρ=[some (.ref i),some (.int o),some (.int c),some (.int m)]:=⟨_,rfl⟩
 have v0:∀ M,ya 0 ρ M = .ok (.ref i) M:=fun M=>by rw [hρ]; rfl
 have v1:∀ M,ya 1 ρ M = .ok (.int o) M:=fun M=>by rw [hρ]; rfl
 have v2:∀ M,ya 2 ρ M = .ok (.int c) M:=fun M=>by rw [hρ]; rfl
 have v3:∀ M,ya 3 ρ M = .ok (.int m) M:=fun M=>by rw [hρ]; rfl
 have s1:∃ M2 es2,(∀ {kk:DS} {r:RS},kk ρ M2=r->ye (sIf (yd (dOp gGt (ya 3) (yl 12 "few" (ya 0)))) (yi (yv 12 "write_once" ut 4 0 [.p 0,.p 1,.p 2,.p 3] [] (ya 0) (jb (ya 1) (jb (dC (.str "ready")) (jb (ya 2) yb))) yb)) yp) kk ρ M1=r)∧Pu M2 i lo n s fs sd es2 gs (if s < (m:Int) then q.once (hon n fs) o sR c else q)∧Fr M1 M2 i M1.n:=by
  have t1:yd (dOp gGt (ya 3) (yl 12 "few" (ya 0))) ρ M1 = .ok (decide (s < (m:Int))) M1:=ym (yk (v3 M1) (P1.fld (x:="few") (v:=.int s) (v0 M1) rfl) rfl)
  by_cases h:s < (m:Int)
  ·rw [if_pos h];rw [decide_eq_true h] at t1;obtain ⟨M2,es2,e2,P2,f2⟩:=jbp P1 hn hl hw o c sR;refine ⟨M2,es2,fun {kk r} hr=>Vg (bb:=true) (M1:=M1) t1 (ρ':=ρ) (M2:=M2) (yz (v:=.non) ?_) hr,P2,f2⟩;rw [P1.mth (xs:=[.int o,.str sR,.int c]) (zs:=[]) (M1:=M1) (M2:=M1) (v0 M1) rfl (by simp only [jp,v1,v2,xA,ju,Res.bind_ok]) rfl];exact e2
  ·rw [if_neg h];rw [decide_eq_false h] at t1;exact ⟨M1,es,fun {kk r} hr=>Vg (bb:=false) (M1:=M1) t1 (ρ':=ρ) (M2:=M1) rfl hr,P1,.refl _ _ _⟩
 obtain ⟨M2,es2,e2,P2,f2⟩:=s1
 obtain ⟨q2,hq2⟩:∃ q2,q2=(if s < (m:Int) then q.once (hon n fs) o sR c else q):=⟨_,rfl⟩
 have k2:q2.tk=q.tk:=by
  rw [hq2];split
  ·exact (Yr _ _ _ _ _).2.2.1
  ·rfl
 rw [<- hq2] at P2 ⊢;have t2:yd (dOp gGt (ya 3) (dOp YE (dC (.int 2)) (yl 12 "few" (ya 0)))) ρ M2 = .ok (decide (2 * s < (m:Int))) M2:=ym (yk (v3 M2) (yk (z:=.int (2 * s)) rfl (P2.fld (x:="few") (v:=.int s) (v0 M2) rfl) (xZ (.inl ⟨by omega,by omega⟩))) rfl)
 have fin2:∀ {M3:Sto},sIf (yd (dOp gGt (ya 3) (dOp YE (dC (.int 2)) (yl 12 "few" (ya 0))))) (yi (Vy (yl 12 "taken" (ya 0)) (ya 1) (ya 2))) yp ρ M2 = .nx ρ M3->YX [.ref i,.int o,.int c] M = .ok .non M3:=fun {M3} h=>by
  refine yI (ρ:=[some (.ref i),some (.int o),some (.int c),none]) (ρ':=ρ) rfl rfl ?_;unfold d_zab;refine jR (v:=.int m) (M1:=M1) e1 ?_;simp only [List.set_cons_succ,List.set_cons_zero];rw [<- hρ];exact e2 h
 by_cases h:2 * s < (m:Int)
 ·rw [if_pos h];rw [decide_eq_true h] at t2;obtain ⟨v,M3,e3,P3,f3⟩:=setK_p P2 (by rw [k2]; exact hk) (o:=o) (c:=c) (do_:=yl 12 "taken" (ya 0)) (dk:=ya 1) (dz:=ya 2) (ρ:=ρ) (P2.fld (x:="taken") (v0 M2) rfl) (v1 M2) (v2 M2);exact ⟨M3,es2,fin2 (Yg t2 (yz e3)),P3,(f1.tr f2).tr f3⟩
 ·rw [if_neg h];rw [decide_eq_false h] at t2;exact ⟨M2,es2,fin2 (vo t2),P2,f1.tr f2⟩
theorem eq_str {M:Sto} {a b:Str}:eqG false M (.str a) (.str b)=some (.bl (decide (a=b))):=by
 show (if _ then some (PV.bl (eqB (.str a) (.str b))) else none)=_;rw [if_pos ⟨rfl,rfl,(by decide:(0:Nat)<=60)⟩];rfl
theorem fe:sF≠sE:=by decide
theorem fr:sF≠sR:=by decide
theorem er:sE≠sR:=by decide
theorem come_p (P:Pu M i lo n s fs sd es gs q) (hn:n<=40) (s5:s<=5) (s0:0<=s) (hl:q.ls.length<=70000) (hw:q.wr.length<=70000) (hst:q.tk.length<=70000) (hg:gs.length<=70000) (hq:q.gt.length<=70000) {k:Nat} {t:T4} (hk:q.ls[k]? = some t) (hwd:t.2.2.1=sF∨t.2.2.1=sE∨t.2.2.1=sR) :
  ∃ M' es' gs',VN [.ref i,.int k] M = .ok (p4 t) M'∧Pu M' i lo n s fs sd es' gs' ((⟨q.wr,q.gt,q.tk,q.ls.eraseIdx k⟩:Es).come n s (hon n fs) sd t)∧Fr M M' i lo∧gs'.length<=gs.length + 1:=by
 obtain ⟨j,M1,gs1,e1,P1,f1,g1,lj,nj,l1⟩:=take_p P (by omega) (by omega) (by omega) hk
 obtain ⟨q1,hq1⟩:∃ q1:Es,q1=(⟨q.wr,q.gt,q.tk,q.ls.eraseIdx k⟩:Es).add t:=⟨_,rfl⟩
 have hcome:(⟨q.wr,q.gt,q.tk,q.ls.eraseIdx k⟩:Es).come n s (hon n fs) sd t=q1.look n s (hon n fs) sd t:=by rw [hq1]; rfl
 rw [hcome];rw [<- hq1] at P1;have el:(q.ls.eraseIdx k).length<=q.ls.length:=List.length_eraseIdx_le _ _
 have z1:q1.wr=q.wr∧q1.tk=q.tk∧q1.ls=q.ls.eraseIdx k:=by rw [hq1]; unfold Es.add; split <;> exact ⟨rfl,rfl,rfl⟩
 obtain ⟨ρ,hρ⟩:∃ ρ:En,ρ=[some (.ref i),some (.int k),some (.ref j),some (.str t.2.2.1),some (.int t.2.2.2)]:=⟨_,rfl⟩
 have v0:∀ M,ya 0 ρ M = .ok (.ref i) M:=fun M=>by rw [hρ]; rfl
 have v2:∀ M,ya 2 ρ M = .ok (.ref j) M:=fun M=>by rw [hρ]; rfl
 have v3:∀ M,ya 3 ρ M = .ok (.str t.2.2.1) M:=fun M=>by rw [hρ]; rfl
 have v4:∀ M,ya 4 ρ M = .ok (.int t.2.2.2) M:=fun M=>by rw [hρ]; rfl
 have fs1:yl 10 "sender" (ya 2) ρ M1 = .ok (.int t.1) M1:=jP (i:=j) (v2 M1) g1 rfl;have fh1:yl 10 "house" (ya 2) ρ M1 = .ok (.int t.2.1) M1:=jP (i:=j) (v2 M1) g1 rfl;have fw1:yl 10 "what" (ya 2) [some (.ref i),some (.int k),some (.ref j),none,none] M1 = .ok (wP t.2.2) M1:=jP (i:=j) rfl g1 rfl;have tw:∀ (M:Sto) (w:Str),yd (dOp (eqG false) (ya 3) (dC (.str w))) ρ M = .ok (decide (t.2.2.1=w)) M:=fun M w=>ym (yk (v3 M) rfl eq_str)
 -- the three questions
 have body:∃ M2 es2,(ye (sIf (yd (dOp (eqG false) (ya 3) (dC (.str "first")))) (yi (yv 12 "look_at_first" VW 4 0 [.p 0,.p 1,.p 2,.p 3] [] (ya 0) (jb (yl 10 "sender" (ya 2)) (jb (yl 10 "house" (ya 2)) (jb (ya 4) yb))) yb)) yp)
 (ye (sIf (yd (dOp (eqG false) (ya 3) (dC (.str "echo")))) (yi (yv 12 "look_at_echoes" VX 3 0 [.p 0,.p 1,.p 2] [] (ya 0) (jb (yl 10 "house" (ya 2)) (jb (ya 4) yb)) yb)) yp)
 (ye (sIf (yd (dOp (eqG false) (ya 3) (dC (.str "ready")))) (yi (yv 12 "look_at_readies" YX 3 0 [.p 0,.p 1,.p 2] [] (ya 0) (jb (yl 10 "house" (ya 2)) (jb (ya 4) yb)) yb)) yp)
 (yL (yv 10 "row" um 1 0 [.p 0] [] (ya 2) yb yb))))) ρ M1 = .rt (p4 t) M2∧Pu M2 i lo n s fs sd es2 gs1 (q1.look n s (hon n fs) sd t)∧Fr M1 M2 i M1.n:=by
  have row:∀ {M2:Sto},Fr M1 M2 i M1.n->yL (yv 10 "row" um 1 0 [.p 0] [] (ya 2) yb yb) ρ M2 = .rt (p4 t) M2:=fun {M2} f=>by
   have a:=P.li
   have g2:M2.g j=some (.ins 10 (ltF t)):=by rw [f.g j nj (by omega)]; exact g1
   refine jO ?_;rw [jM (i:=j) (xs:=[]) (zs:=[]) (M1:=M2) (M2:=M2) (v2 M2) g2 rfl rfl rfl];exact jiw g2
  unfold Es.look
  by_cases hF:t.2.2.1=sF
  ·rw [if_pos hF];obtain ⟨M2,es2,e2,P2,f2⟩:=jhY P1 hn (by rw [z1.2.2]; omega) (by rw [z1.1]; omega) t.1 t.2.1 t.2.2.2;refine ⟨M2,es2,?_,P2,f2⟩;refine Vg (bb:=true) (M1:=M1) (by rw [tw,decide_eq_true hF]) (ρ':=ρ) (M2:=M2) (yz (v:=.non) ?_) ?_
   ·rw [P1.mth (xs:=[.int t.1,.int t.2.1,.int t.2.2.2]) (zs:=[]) (M1:=M1) (M2:=M1) (v0 M1) rfl (by rw [jp,fs1]; simp only [Res.bind_ok]; rw [jp,fh1]; simp only [Res.bind_ok]; rw [yK (v4 M1)]; rfl) rfl];exact e2
   refine xW (M1:=M2) (by rw [tw,decide_eq_false (by rw [hF]; exact fe)]) ?_;refine xW (M1:=M2) (by rw [tw,decide_eq_false (by rw [hF]; exact fr)]) ?_;exact row f2
  rw [if_neg hF]
  by_cases hE:t.2.2.1=sE
  ·rw [if_pos hE];obtain ⟨M2,es2,e2,P2,f2⟩:=echo_p P1 hn (by rw [z1.2.2]; omega) (by rw [z1.1]; omega) t.2.1 t.2.2.2;refine ⟨M2,es2,?_,P2,f2⟩;refine xW (M1:=M1) (by rw [tw,decide_eq_false hF]) ?_;refine Vg (bb:=true) (M1:=M1) (by rw [tw,decide_eq_true hE]) (ρ':=ρ) (M2:=M2) (yz (v:=.non) ?_) ?_
   ·rw [P1.mth (xs:=[.int t.2.1,.int t.2.2.2]) (zs:=[]) (M1:=M1) (M2:=M1) (v0 M1) rfl (by rw [jp,fh1]; simp only [Res.bind_ok]; rw [yK (v4 M1)]; rfl) rfl];exact e2
   refine xW (M1:=M2) (by rw [tw,decide_eq_false (by rw [hE]; exact er)]) ?_;exact row f2
  rw [if_neg hE];have hR:t.2.2.1=sR:=(hwd.resolve_left hF).resolve_left hE;rw [if_pos hR];obtain ⟨M2,es2,e2,P2,f2⟩:=jgT P1 hn s0 s5 (by rw [z1.2.2]; omega) (by rw [z1.1]; omega) (by rw [z1.2.1]; omega) t.2.1 t.2.2.2;refine ⟨M2,es2,?_,P2,f2⟩;refine xW (M1:=M1) (by rw [tw,decide_eq_false hF]) ?_;refine xW (M1:=M1) (by rw [tw,decide_eq_false hE]) ?_;refine Vg (bb:=true) (M1:=M1) (by rw [tw,decide_eq_true hR]) (ρ':=ρ) (M2:=M2) (yz (v:=.non) ?_) (row f2);rw [P1.mth (xs:=[.int t.2.1,.int t.2.2.2]) (zs:=[]) (M1:=M1) (M2:=M1) (v0 M1) rfl (by rw [jp,fh1]; simp only [Res.bind_ok]; rw [yK (v4 M1)]; rfl) rfl];exact e2
 obtain ⟨M2,es2,e2,P2,f2⟩:=body;refine ⟨M2,es2,gs1,?_,P2,f1.trans (f2.weak P1.ln),l1⟩;refine jV (ρ:=[some (.ref i),some (.int k),none,none,none]) rfl rfl ?_;unfold jiL;refine jR (v:=.ref j) (M1:=M1) ?_ ?_
 ·rw [P.mth (xs:=[.int k]) (zs:=[]) (M1:=M) (M2:=M) rfl rfl rfl rfl];exact e1
 simp only [List.set_cons_succ,List.set_cons_zero];refine nx_asg (v:=wP t.2.2) (M1:=M1) (ρ':=ρ) fw1 (by rw [hρ]; rfl) ?_;exact e2
theorem took_p (P:Pu M i lo n s fs sd es gs q) {h:Int} (hh:h ∈ hon n fs):jaM [.ref i,.int h] M = .ok (((yw q h).map PV.int).getD .non) M:=by
 refine jV (ρ:=[some (.ref i),some (.int h)]) rfl rfl ?_;unfold jiK;refine yG (v:=.non) (M1:=M) ?_ ?_
 ·rw [P.mth (xs:=[.int h]) (zs:=[]) (M1:=M) (M2:=M) rfl rfl rfl rfl];exact jgt P hh
 refine jO ?_;unfold UC;rw [P.fld (x:="taken") (v:=.ref (i + 4)) (d:=ya 0) (ρ:=[some (.ref i),some (.int h)]) rfl rfl];simp only [Res.bind_ok,P.sk,jz,jF];rw [YC];rfl
def uI (q:Es) (h:Int):Int:=if h ∈ q.tk.map (·.1) then 3 else if (h,sR) ∈ q.wr then 2 else if (h,sE) ∈ q.wr then 1 else 0
theorem jgK (P:Pu M i lo n s fs sd es gs q) {h:Int} (hh:h ∈ hon n fs):VQ [.ref i,.int h] M = .ok (.int (uI q h)) M:=by
 refine jV (ρ:=[some (.ref i),some (.int h)]) rfl rfl ?_;unfold jiQ;refine yG (v:=.non) (M1:=M) ?_ ?_
 ·rw [P.mth (xs:=[.int h]) (zs:=[]) (M1:=M) (M2:=M) rfl rfl rfl rfl];exact jgt P hh
 have t1:yd (dOp (Xb false) (ya 1) (yl 12 "taken" (ya 0))) [some (.ref i),some (.int h)] M = .ok (decide (h ∈ q.tk.map (·.1))) M:=by
  refine ym (yk (x:=.int h) rfl (P.fld (x:="taken") (v:=.ref (i + 4)) rfl rfl) ?_);unfold Xb;simp only [P.sk];rw [YC,Option.isSome_map,<- vY];rfl
 have tw:∀ w:Str,xm (yv 12 "has_written" xC 3 0 [.p 0,.p 1,.p 2] [] (ya 0) (jb (ya 1) (jb (dC (.str w)) yb)) yb) [some (.ref i),some (.int h)] M = .ok (decide ((h,w) ∈ q.wr)) M:=fun w=>by
  rw [vy,P.mth (xs:=[.int h,.str w]) (zs:=[]) (M1:=M) (M2:=M) rfl rfl rfl rfl];rw [show xC (yo 3 0 [Sl.p 0,Sl.p 1,Sl.p 2] [] [PV.ref i,.int h,.str w] []) M=_ from jfF P h w];rfl
 unfold uI
 by_cases c1:h ∈ q.tk.map (·.1)
 ·rw [if_pos c1];exact jad (M1:=M) (by rw [t1,decide_eq_true c1]) (jO rfl)
 rw [if_neg c1];refine xW (M1:=M) (by rw [t1,decide_eq_false c1]) ?_
 by_cases c2:(h,sR) ∈ q.wr
 ·rw [if_pos c2];exact jad (M1:=M) (by rw [tw,decide_eq_true c2]) (jO rfl)
 rw [if_neg c2];refine xW (M1:=M) (by rw [tw,decide_eq_false c2]) (jO ?_);rw [vV,tw]
 by_cases c3:(h,sE) ∈ q.wr
 ·rw [if_pos c3,decide_eq_true c3];rfl
 ·rw [if_neg c3,decide_eq_false c3];rfl
end

theorem jgB:∀ (n:Nat) (fs:List Int),(∀ k:Nat,k < n->(k:Int) ∈ fs)->n<=fs.length
 | 0,_,_=>Nat.zero_le _
 | n + 1,fs,h=>by
  have h1:=h n (Nat.lt_succ_self _);have h2:=jgB n (fs.erase (n:Int)) fun k hk=>(List.mem_erase_of_ne (by omega)).mpr (h k (by omega));rw [List.length_erase_of_mem h1] at h2
  have:fs.length≠0:=fun z=>by rw [List.eq_nil_of_length_eq_zero z] at h1; cases h1
  omega
theorem jfC {n:Nat} {fs:List Int} (h:fs.length < n):hon n fs≠[]:=fun z=>by
 have:=jgB n fs fun k hk=>Classical.byContradiction fun hf=>by
  have:(k:Int) ∈ hon n fs:=uQ.mpr ⟨⟨by omega,by omega⟩,hf⟩
  rw [z] at this;cases this
 omega
theorem ux (n:Nat) (fs:List Int):(hon n fs).length<=n:=Nat.le_trans (List.length_filter_le _ _) (by rw [List.length_map,List.length_range]; exact Nat.le_refl _)
section
variable {M:Sto} {i n:Nat} {s:Int} {fs:List Int}
def psF (i n:Nat) (s:Int) (fs:List Int):List (Str × PV):=[("houses",.int n),("few",.int s),("liars",.lst (fs.map PV.int)),("on_way",.ref (i + 1)),("got",.ref (i + 2))]
theorem jdi (hi:M.g i=some (.ins 12 [])) (hn:M.n=i + 1) (n1:1<=n) (n16:n<=16) (s0:0<=s) (s5:s<=5) (hs:3 * s < n) (pw:fs.Pairwise (· < ·)) (fb:∀ f ∈ fs,0<=f∧f < (n:Int)) (fl:(fs.length:Int)<=s) :
  ∃ M',jaS [.ref i,.int n,.int s,.lst (fs.map PV.int)] M = .ok .non M'∧M'.g i=some (.ins 12 (psF i n s fs))∧M'.g (i + 1)=some (.lst [])∧M'.g (i + 2)=some (.dnv (i + 2) [])∧M'.n=i + 3∧∀ j,j < i->M'.g j=M.g j:=by
 obtain ⟨F,hF⟩:∃ F,F=PV.lst (fs.map PV.int):=⟨_,rfl⟩
 have c4:VV [F,.int n,.int s] M = .ok .non M:=by rw [hF]; exact JU pw fb fl (by omega)
 obtain ⟨ρ,hρ⟩:∃ ρ:En,ρ=[some (.ref i),some (.int n),some (.int s),some F]:=⟨_,rfl⟩
 have v0:∀ M,ya 0 ρ M = .ok (.ref i) M:=fun M=>by rw [hρ]; rfl
 have v1:∀ M,ya 1 ρ M = .ok (.int n) M:=fun M=>by rw [hρ]; rfl
 have v2:∀ M,ya 2 ρ M = .ok (.int s) M:=fun M=>by rw [hρ]; rfl
 have v3:∀ M,ya 3 ρ M = .ok F M:=fun M=>by rw [hρ]; rfl
 obtain ⟨M1,e1⟩:∃ M1,M1=M.set i (.ins 12 [("houses",.int n)]):=⟨_,rfl⟩
 obtain ⟨M2,e2⟩:∃ M2,M2=M1.set i (.ins 12 [("houses",.int n),("few",.int s)]):=⟨_,rfl⟩
 obtain ⟨M3,e3⟩:∃ M3,M3=M2.set i (.ins 12 [("houses",.int n),("few",.int s),("liars",F)]):=⟨_,rfl⟩
 obtain ⟨M4,e4⟩:∃ M4,M4=M3.new (.lst []):=⟨_,rfl⟩
 obtain ⟨M5,e5⟩:∃ M5,M5=M4.set i (.ins 12 [("houses",.int n),("few",.int s),("liars",F),("on_way",.ref (i + 1))]):=⟨_,rfl⟩
 obtain ⟨M6,e6⟩:∃ M6,M6=M5.new (.dnv (i + 2) []):=⟨_,rfl⟩
 obtain ⟨M7,e7⟩:∃ M7,M7=M6.set i (.ins 12 [("houses",.int n),("few",.int s),("liars",F),("on_way",.ref (i + 1)),("got",.ref (i + 2))]):=⟨_,rfl⟩
 have n3:M3.n=i + 1:=by rw [e3,e2,e1]; exact hn
 have n5:M5.n=i + 2:=by rw [e5,e4]; show M3.n + 1=_; rw [n3]
 have g1:M1.g i=some (.ins 12 [("houses",.int n)]):=by rw [e1]; exact Sto.set_same
 have g2:M2.g i=some (.ins 12 [("houses",.int n),("few",.int s)]):=by rw [e2]; exact Sto.set_same
 have g3:M3.g i=some (.ins 12 [("houses",.int n),("few",.int s),("liars",F)]):=by rw [e3]; exact Sto.set_same
 have g4:M4.g i=some (.ins 12 [("houses",.int n),("few",.int s),("liars",F)]):=by rw [e4,Sto.new_ne (by omega)]; exact g3
 have g5:M5.g i=some (.ins 12 [("houses",.int n),("few",.int s),("liars",F),("on_way",.ref (i + 1))]):=by rw [e5]; exact Sto.set_same
 have g6:M6.g i=some (.ins 12 [("houses",.int n),("few",.int s),("liars",F),("on_way",.ref (i + 1))]):=by rw [e6,Sto.new_ne (by omega)]; exact g5
 refine ⟨M7,?_,by rw [e7,hF]; exact Sto.set_same,?_,?_,by rw [e7,e6]; show M5.n + 1=_; rw [n5],fun j hj=>?_⟩
 ·rw [<- hF];refine yI (ρ:=ρ) (ρ':=ρ) rfl (by rw [hρ]; rfl) ?_;unfold d_zam;refine yG (v:=.non) (M1:=M) ?_ ?_
  ·simp only [jT,jp,v1,ju,Res.bind_ok];show fin (jgf [some (.int n)] M)=_;unfold jgf;simp [yo,gen,jA (M:=M) (a:=1) (b:=16) (Kd.int (n:Int)) (by decide) (by decide),vO (h:=(n:Int)) (a:=1) (b:=16) (by omega) (by omega)]
  refine yG (v:=.non) (M1:=M) ?_ ?_
  ·simp only [jT,jp,v2,ju,Res.bind_ok];show YS [.int s] M=_;rw [UG (Kd.int s),vO s0 s5];rfl
  refine xW (M1:=M) (ym (yk (v1 M) (yk (z:=.int (3 * s)) rfl (v2 M) (xZ (.inl ⟨by omega,by omega⟩))) (by show some (PV.bl (decide ((n:Int)<=3 * s)))=_; rw [decide_eq_false (by omega)]))) ?_;refine yG (v:=.non) (M1:=M) ?_ ?_
  ·simp only [jT,jp,v1,v2,v3,ju,Res.bind_ok];exact c4
  refine vp (v:=.int n) (Ma:=M) (i:=i) (v1 M) (v0 M) hi (by decide) ?_;rw [show M.set i (.ins 12 (xl "houses" (.int n) []))=M1 from e1.symm];refine vp (v:=.int s) (Ma:=M1) (i:=i) (v2 M1) (v0 M1) g1 (show 1 < 1000 by decide) ?_;rw [show M1.set i (.ins 12 (xl "few" (.int s) [("houses",.int n)]))=M2 from e2.symm];refine vp (v:=F) (Ma:=M2) (i:=i) (uw (v3 M2) (by rw [hF]; rfl)) (v0 M2) g2 (show 2 < 1000 by decide) ?_;rw [show M2.set i (.ins 12 (xl "liars" F [("houses",.int n),("few",.int s)]))=M3 from e3.symm];refine vp (v:=.ref (i + 1)) (Ma:=M4) (i:=i) ?_ (v0 M4) g4 (show 3 < 1000 by decide) ?_
  ·show (if (0:Nat)<=sizeLine then Res.ok (PV.ref M3.n) (M3.new (.lst [])) else .bad)=_;rw [if_pos (Nat.zero_le _),n3,e4]
  rw [show M4.set i (.ins 12 (xl "on_way" (.ref (i + 1)) [("houses",.int n),("few",.int s),("liars",F)]))=M5 from e5.symm];rw [Us (v:=.ref (i + 2)) (Ma:=M6) (i:=i) (by show Res.ok (PV.ref M5.n) (M5.new (.dnv M5.n []))=_; rw [n5,e6]) (v0 M6) g6 (show 4 < 1000 by decide)];rw [e7];rfl
 ·rw [e7,Sto.set_ne (by omega),e6,Sto.new_ne (by omega),e5,Sto.set_ne (by omega),e4,<- n3];exact Sto.new_same
 ·rw [e7,Sto.set_ne (by omega),e6,<- n5];exact Sto.new_same
 ·rw [e7,Sto.set_ne (by omega),e6,Sto.new_ne (by omega),e5,Sto.set_ne (by omega),e4,Sto.new_ne (by omega),e3,Sto.set_ne (by omega),e2,Sto.set_ne (by omega),e1,Sto.set_ne (by omega)]
theorem jdB (hi:M.g i=some (.ins 12 [])) (hn:M.n=i + 1) (n1:1<=n) (n16:n<=16) (s0:0<=s) (s5:s<=5) (hs:3 * s < n) (pw:fs.Pairwise (· < ·)) (fb:∀ f ∈ fs,0<=f∧f < (n:Int)) (fl:(fs.length:Int)<=s) {sd:Int} (d0:0<=sd) (d1:sd < n) :
  ∃ M',Jd [.ref i,.int n,.int s,.int sd,.lst (fs.map PV.int)] M = .ok .non M'∧M'.n=i + 5∧Pu M' i (i + 5) n s fs sd [] [] ⟨[],[],[],[]⟩∧∀ j,j < i->M'.g j=M.g j:=by
 obtain ⟨M1,e1,g1,g2,g3,n3,g4⟩:=jdi hi hn n1 n16 s0 s5 hs pw fb fl
 obtain ⟨F,hF⟩:∃ F,F=PV.lst (fs.map PV.int):=⟨_,rfl⟩
 obtain ⟨M0,e0⟩:∃ M0,M0=M1.set i (.ins 12 (xl "sender" (.int sd) (psF i n s fs))):=⟨_,rfl⟩
 obtain ⟨M2,e2⟩:∃ M2,M2=M0.new (.dsv []):=⟨_,rfl⟩
 obtain ⟨M3,e3⟩:∃ M3,M3=M2.set i (.ins 12 (xl "written" (.ref (i + 3)) (xl "sender" (.int sd) (psF i n s fs)))):=⟨_,rfl⟩
 obtain ⟨M4,e4⟩:∃ M4,M4=M3.new (.dkv []):=⟨_,rfl⟩
 obtain ⟨M5,e5⟩:∃ M5,M5=M4.set i (.ins 12 (puF i n s fs sd)):=⟨_,rfl⟩
 have n0:M0.n=i + 3:=by rw [e0]; exact n3
 have nn3:M3.n=i + 4:=by rw [e3,e2]; show M0.n + 1=_; rw [n0]
 have nn5:M5.n=i + 5:=by rw [e5,e4]; show M3.n + 1=_; rw [nn3]
 have k0:M0.g i=some (.ins 12 (xl "sender" (.int sd) (psF i n s fs))):=by rw [e0]; exact Sto.set_same
 have k2':M2.g i=some (.ins 12 (xl "sender" (.int sd) (psF i n s fs))):=by rw [e2,Sto.new_ne (by omega)]; exact k0
 have k4:M4.g i=some (.ins 12 (xl "written" (.ref (i + 3)) (xl "sender" (.int sd) (psF i n s fs)))):=by rw [e4,Sto.new_ne (by omega),e3]; exact Sto.set_same
 have up:∀ j,j≠i->j≠i + 3->j≠i + 4->M5.g j=M1.g j:=fun j h1 h2 h3=>by rw [e5,Sto.set_ne h1,e4,Sto.new_ne (by omega),e3,Sto.set_ne h1,e2,Sto.new_ne (by omega),e0,Sto.set_ne h1]
 refine ⟨M5,?_,nn5,⟨by rw [e5]; exact Sto.set_same,by rw [up _ (by omega) (by omega) (by omega)]; exact g2,by rw [up _ (by omega) (by omega) (by omega)]; exact g3,?_,?_,fun e he=>(by cases he),fun e he=>(by cases he),.nil,.nil,fun t ht=>(by cases ht),rfl,Nat.le_refl _,Nat.le_of_eq nn5.symm⟩,fun j hj=>?_⟩
 ·obtain ⟨ρ,hρ⟩:∃ ρ:En,ρ=[some (.ref i),some (.int n),some (.int s),some (.int sd),some F]:=⟨_,rfl⟩
  have v0:∀ M,ya 0 ρ M = .ok (.ref i) M:=fun M=>by rw [hρ]; rfl
  rw [<- hF];refine yI (ρ:=ρ) (ρ':=ρ) rfl (by rw [hρ]; rfl) ?_;unfold d_zan;refine yG (v:=.non) (M1:=M1) ?_ ?_
  ·rw [hρ];simp only [jT,jp,jz,jF,ju,Res.bind_ok];rw [hF];exact e1
  refine yG (v:=.non) (M1:=M1) ?_ ?_
  ·rw [hρ];simp only [jT,jp,jz,jF,ju,Res.bind_ok];show fin (YK [some (.int sd),some (.int n)] M1)=_;unfold YK;have q:=xG (M:=M1) (h:=sd) (n:=n);rw [vO d0 (by omega)] at q;simp [yo,gen,q]
  refine vp (v:=.int sd) (Ma:=M1) (i:=i) (by rw [hρ]; rfl) (v0 M1) g1 (show 5 < 1000 by decide) ?_;rw [<- e0];refine vp (v:=.ref (i + 3)) (Ma:=M2) (i:=i) (by show Res.ok (PV.ref M0.n) (M0.new (.dsv []))=_; rw [n0,e2]) (v0 M2) k2' (show 6 < 1000 by decide) ?_;rw [<- e3];rw [Us (v:=.ref (i + 4)) (Ma:=M4) (i:=i) (by show Res.ok (PV.ref M3.n) (M3.new (.dkv []))=_; rw [nn3,e4]) (v0 M4) k4 (show 7 < 1000 by decide)];rw [e5];rfl
 ·rw [e5,Sto.set_ne (by omega),e4,Sto.new_ne (by omega),e3,Sto.set_ne (by omega),e2,<- n0];exact Sto.new_same
 ·rw [e5,Sto.set_ne (by omega),e4,<- nn3];exact Sto.new_same
 ·rw [up j (by omega) (by omega) (by omega),g4 j hj]
theorem jfS (n1:1<=n) (n16:n<=16) (s0:0<=s) (s5:s<=5) (hs:3 * s < n) (pw:fs.Pairwise (· < ·)) (fb:∀ f ∈ fs,0<=f∧f < (n:Int)) (fl:(fs.length:Int)<=s) {sd:Int} (d0:0<=sd) (d1:sd < n) :
  ∃ M',made 12 Jd (fun y=>[y,.int n,.int s,.int sd,.lst (fs.map PV.int)]) M = .ok (.ref M.n) M'∧M'.n=M.n + 5∧Pu M' M.n (M.n + 5) n s fs sd [] [] ⟨[],[],[],[]⟩∧∀ j,j < M.n->M'.g j=M.g j:=by
 obtain ⟨M1,e1,h⟩:=jdB (M:=M.new (.ins 12 [])) (i:=M.n) (n:=n) (s:=s) (fs:=fs) Sto.new_same rfl n1 n16 s0 s5 hs pw fb fl d0 d1;refine ⟨M1,?_,h.1,h.2.1,fun j hj=>by rw [h.2.2 j hj,Sto.new_ne (by omega)]⟩;unfold made;rw [e1]
end
theorem jig {M:Sto} (T:Tw M):∃ (s:Int) (n:Nat) (fs:List Int) (M':Sto),jaO [.ref 1] M = .ok (.tup [.int s,.int n,.lst (fs.map PV.int),.lst ((hon n fs).map PV.int)]) M'∧0<=s∧s<=2∧3 * s < n∧n<=8∧(fs.length:Int)<=s∧(∀ f ∈ fs,0<=f∧f < (n:Int))∧fs.Pairwise (· < ·)∧Tw M'∧Off M M':=by
 obtain ⟨s,M1,e1,s0,s1,T1,o1⟩:=yP T (k:=3) (by decide) (by decide);obtain ⟨d,M2,e2,d0,d1,T2,o2⟩:=yP T1 (k:=2) (by decide) (by decide)
 obtain ⟨n,hn⟩:∃ n:Nat,(n:Int)=3 * s + 1 + d:=⟨(3 * s + 1 + d).toNat,by omega⟩
 obtain ⟨fs,M3,e3,fl,fb,pw,T3,o3⟩:=jfp T2 (crew:=n) (most:=s) (by omega) (by omega) s0;refine ⟨s,n,fs,M3,?_,s0,by omega,by omega,by omega,fl,fb,pw,T3,(o1.trans o2).trans o3⟩
 obtain ⟨F,hF⟩:∃ F,F=PV.lst (fs.map PV.int):=⟨_,rfl⟩
 refine jV (ρ:=[some (.ref 1),none,none,none]) rfl rfl ?_;unfold jiP;refine jR (v:=.int s) (M1:=M1) (by simpa [yo,gen] using e1) ?_;simp only [List.set_cons_succ,List.set_cons_zero];refine jR (v:=.int n) (M1:=M2) (by simp [yo,gen,e2,hn,xZ (M:=M1) (i:=3) (j:=s) (.inl (by decide))]) ?_;simp only [List.set_cons_succ,List.set_cons_zero];refine jR (v:=F) (M1:=M3) (by rw [hF]; simpa [yo,gen] using e3) ?_;simp only [List.set_cons_succ,List.set_cons_zero];refine jO ?_
 have ec:xk (vD (jb (ya 2) yb)) jaL [3] (yd (dOp (gIn true) (ya 0) (ya 1))) (ya 0) [some (.ref 1),some (.int s),some (.int n),some F] M3 = .ok (.lst ((hon n fs).map PV.int)) M3:=by
  refine jK (xs:=xS 0 n) (M1:=M3) ?_ (by rw [xR]; exact jgI (by omega)) ?_
  ·have hs:vB (n:Int)=true:=xa.mpr ⟨by omega,by omega⟩;unfold vD;simp only [jp,jz,jF,ju,Res.bind_ok,hs,if_true,Int.toNat_natCast]
  ·rw [jcc]
   refine ud PV.int (fun x=>!decide (x ∈ fs)) PV.int _ fun x hx=>⟨[some (.int x),some F],rfl,?_,fun _=>rfl⟩
   have gi:gIn true M3 (.int x) F=some (.bl (!decide (x ∈ fs))):=by rw [hF]; exact xx (neg:=true) (M:=M3) (x:=.lst (fs.map PV.int)) (k:=x) (ns:=fs) rfl
   exact ym (yk rfl rfl gi)
 rw [JQ];simp only [jp,jz,jF,ju,Res.bind_ok,ec];rw [hF];exact if_pos (show (4:Nat)<=sizeLine by decide)

theorem xb {α:Type} [DecidableEq α]:∀ (l m:List α),l.Nodup->(∀ x ∈ l,x ∈ m)->l.length<=m.length
 | [],_,_,_=>Nat.zero_le _
 | a :: l,m,hn,h=>by
  obtain ⟨h1,h2⟩:=List.nodup_cons.mp hn;have ha:=h a List.mem_cons_self
  have:=xb l (m.erase a) h2 fun x hx=>(List.mem_erase_of_ne (fun z:x=a=>h1 (by rw [<- z]; exact hx))).mpr (h x (List.mem_cons_of_mem _ hx))
  rw [List.length_erase_of_mem ha] at this
  have:m.length≠0:=fun z=>by rw [List.eq_nil_of_length_eq_zero z] at ha; cases ha
  rw [List.length_cons];omega
theorem xu {α:Type} {l:List α} {x:α} (h:l.Nodup) (hx:x ∉ l):(l ++ [x]).Nodup:=List.nodup_append.mpr ⟨h,List.nodup_cons.mpr ⟨fun z=>(by cases z),.nil⟩,fun a ha b hb e=>hx (by
 rw [List.mem_singleton.mp hb] at e
 exact e ▸ ha)⟩
theorem Vh {α β:Type} {f:α->β} {l:List α} (h:l.Nodup) (hi:∀ a ∈ l,∀ b ∈ l,f a=f b->a=b):(l.map f).Nodup:=by
 induction l with
 | nil=>exact .nil
 | cons a l ih =>
  obtain ⟨h1,h2⟩:=List.nodup_cons.mp h;rw [List.map_cons];refine List.nodup_cons.mpr ⟨fun hm=>?_,ih h2 fun x hx y hy=>hi x (List.mem_cons_of_mem _ hx) y (List.mem_cons_of_mem _ hy)⟩;obtain ⟨b,hb,e⟩:=List.mem_map.mp hm;rw [hi b (List.mem_cons_of_mem _ hb) a List.mem_cons_self e] at hb;exact h1 hb
theorem jfO (val:Nat->Int):∀ i,(PyProof.Rows.firstMet val i).Nodup
 | 0=>by rw [PyProof.Rows.firstMet_zero]; exact .nil
 | i + 1=>by
  rw [PyProof.Rows.firstMet_succ];unfold PyProof.Rows.step_dedup;split
  ·exact jfO val i
  ·rename_i h;exact xu (jfO val i) fun z=>h (List.any_eq_true.mpr ⟨_,z,beq_self_eq_true _⟩)
theorem fm_mem (ns:List Int) (k:Int):k ∈ PyProof.Rows.firstMet (fun i=>ns.getD i 0) ns.length↔k ∈ ns:=by
 have h:=PyProof.Rows.firstMet_any (fun i=>ns.getD i 0) ns.length k
 have e:(List.range ns.length).map (fun i=>ns.getD i 0)=ns:=by
  refine List.ext_getElem? fun j=>?_;rw [List.getElem?_map]
  by_cases hj:j < ns.length
  ·rw [List.getElem?_range hj,List.getElem?_eq_getElem hj];show some (ns.getD j 0)=_;rw [List.getD_eq_getElem?_getD,List.getElem?_eq_getElem hj];rfl
  ·rw [List.getElem?_eq_none (by rw [List.length_range]; omega),List.getElem?_eq_none (by omega)];rfl
 rw [e] at h
 have a:∀ l:List Int,l.any (· == k)=true↔k ∈ l:=fun l=>by
  rw [List.any_eq_true];constructor
  ·rintro ⟨x,hx,z⟩;rw [<- beq_iff_eq.mp z];exact hx
  ·exact fun z=>⟨k,z,beq_self_eq_true _⟩
 rw [<- a,<- a,h]
theorem jfc {t1 t2:DT} {ρ:En} {M:Sto} (h1:t1 ρ M = .ok false M) (h2:t2 ρ M = .ok false M):dOr t1 t2 ρ M = .ok false M:=by
 unfold dOr;rw [h1];exact h2
theorem jej {d1 d2:DS} {ρ ρ':En} {M M1:Sto} {r:RS} (h:d1 ρ M = .nx ρ' M1) (k:d2 ρ' M1=r):ye d1 d2 ρ M=r:=by
 unfold ye;rw [h];exact k
theorem Yo {M:Sto} (t:Tw M) {l:List Int} (hne:l≠[]) (hl:l.length<=1000):∃ x M',yB [.ref 1,.lst (l.map PV.int)] M = .ok (.int x) M'∧x ∈ l∧Tw M'∧Off M M':=by
 obtain ⟨x,M1,e,hx,t1,o1⟩:=Ul t (xs:=l.map PV.int) (fun z=>hne (List.map_eq_nil_iff.mp z)) (by rw [List.length_map]; omega);obtain ⟨y,hy,rfl⟩:=List.mem_map.mp hx;exact ⟨y,M1,e,hy,t1,o1⟩
theorem jbV {M M':Sto} (t:Tw M) (h0:M'.g 0=M.g 0) (h1:M'.g 1=M.g 1) (hn:M.n<=M'.n):Tw M':=by
 obtain ⟨ns,c,t⟩:=t;exact ⟨ns,c,by rw [h0]; exact t.row,by rw [h1]; exact t.tw,t.ne,Nat.le_trans t.n hn⟩
def okW (w:Str):Prop:=w=sF∨w=sE∨w=sR

theorem xo {α:Type} {p:α->Bool} {l:List α} (h:l.Nodup):(l.filter p).Nodup:=List.Pairwise.sublist List.filter_sublist h
theorem jay {α:Type}:∀ {l:List α} {k:Nat} {t x:α},l[k]? = some t->x ∈ l->x ∈ l.eraseIdx k∨x=t
 | [],_,_,_,_,hx=>by cases hx
 | a :: l,0,t,x,h,hx=>by
  cases h
  rcases List.mem_cons.mp hx with rfl | hx
  ·exact .inr rfl
  ·exact .inl hx
 | a :: l,k + 1,t,x,h,hx=>by
  rcases List.mem_cons.mp hx with rfl | hx
  ·exact .inl List.mem_cons_self
  ·exact (jay (l:=l) (k:=k) h hx).imp (fun h=>List.mem_cons_of_mem _ h) id
theorem Vm {α:Type} (p:α->Bool):∀ l:List α,(l.filter p).length + (l.filter fun x=>!p x).length=l.length
 | []=>rfl
 | a :: l=>by
  have:=Vm p l
  rw [List.length_cons]
  cases h:p a with
  | true =>
   rw [List.filter_cons_of_pos h,List.filter_cons_of_neg (by rw [h]; decide),List.length_cons];omega
  | false =>
   rw [List.filter_cons_of_neg (by rw [h]; decide),List.filter_cons_of_pos (by rw [h]; rfl),List.length_cons];omega
def al (q:Es) (t:T4):Prop:=t ∈ q.ls∨t ∈ q.gt
def Qu (n:Nat) (s:Int) (q:Es) (c:Int):Prop:=∃ o,(n:Int) + s < 2 * (q.many (o,sE,c):Int)
structure Ev (n:Nat) (fs:List Int) (s sd v:Int) (q:Es):Prop where
 gn:q.gt.Nodup
 wn:q.wr.Nodup
 kn:(q.tk.map (·.1)).Nodup
 ok:∀ t,al q t->t.2.1 ∈ hon n fs∧okW t.2.2.1∧0<=t.1∧t.1 < (n:Int)
 wo:∀ h w,(h,w) ∈ q.wr->h ∈ hon n fs∧okW w
 src:∀ t,al q t->t.1 ∈ fs∨(t.1,t.2.2.1) ∈ q.wr
 wrt:∀ h w,(h,w) ∈ q.wr->∃ c,(∀ o ∈ hon n fs,al q (h,o,w,c))∧∀ o c',al q (h,o,w,c')->c'=c
 fst:sd ∉ fs->∀ o c,al q (sd,o,sF,c)->c=v
 ech:sd ∉ fs->∀ h o c,h ∉ fs->al q (h,o,sE,c)->c=v
 rdy:∀ h o c,h ∉ fs->al q (h,o,sR,c)->Qu n s q c
 tkk:∀ h c,(h,c) ∈ q.tk->2 * s < (q.many (h,sR,c):Int)
structure Ew (n:Nat) (s sd:Int) (q:Es):Prop where
 c1:∀ t ∈ q.gt,t.2.2.1=sF->t.1=sd->(t.2.1,sE) ∈ q.wr
 c2:∀ o c,(n:Int) + s < 2 * (q.many (o,sE,c):Int)->(o,sR) ∈ q.wr
 c3:∀ o c,s < (q.many (o,sR,c):Int)->(o,sR) ∈ q.wr
 c4:∀ o c,2 * s < (q.many (o,sR,c):Int)->o ∈ q.tk.map (·.1)
theorem jdp {q q':Es} (h:∀ t ∈ q.gt,t ∈ q'.gt) (hn:q.gt.Nodup) (p:Int × Str × Int):q.many p<=q'.many p:=xb _ _ (xo hn) fun x hx=>by
 obtain ⟨h1,h2⟩:=List.mem_filter.mp hx;exact List.mem_filter.mpr ⟨h x h1,h2⟩
theorem JN {q q':Es} (h:q'.gt=q.gt) (p:Int × Str × Int):q'.many p=q.many p:=by
 unfold Es.many;rw [h]
theorem jfD {n:Nat} {fs:List Int} {h:Int} (hh:h ∈ hon n fs):h ∉ fs:=(uQ.mp hh).2
section
variable {n:Nat} {fs:List Int} {s sd v:Int} {q:Es}
theorem ev0 (s0:0<=s):Ev n fs s sd v ⟨[],[],[],[]⟩∧Ew n s sd ⟨[],[],[],[]⟩:=by
 have z:∀ p,(Es.mk [] [] [] []).many p=0:=fun _=>rfl
 have na:∀ t,¬ al ⟨[],[],[],[]⟩ t:=fun t h=>by rcases h with h | h <;> cases h
 refine ⟨⟨.nil,.nil,.nil,fun t h=>absurd h (na t),fun _ _ h=>(by cases h),fun t h=>absurd h (na t),fun _ _ h=>(by cases h),fun _ _ _ h=>absurd h (na _),fun _ _ _ _ _ h=>absurd h (na _),fun _ _ _ _ h=>absurd h (na _),fun _ _ h=>(by cases h)⟩,fun _ h=>(by cases h),fun _ _ h=>?_,fun _ _ h=>?_,fun _ _ h=>?_⟩
 all_goals rw [z] at h; omega
theorem Ev.got (I:Ev n fs s sd v q) {q':Es} (hw:q'.wr=q.wr) (hk:q'.tk=q.tk) (hn:q'.gt.Nodup) (ha:∀ t,al q' t↔al q t) (hm:∀ p,q.many p<=q'.many p):Ev n fs s sd v q':=by
 refine ⟨hn,by rw [hw]; exact I.wn,by rw [hk]; exact I.kn,fun t h=>I.ok t ((ha t).mp h),fun h w hh=>I.wo h w (by rw [<- hw]; exact hh),fun t h=>by rw [hw]; exact I.src t ((ha t).mp h),fun h w hh=>?_,fun hs o c h=>I.fst hs o c ((ha _).mp h),fun hs h o c h0 h1=>I.ech hs h o c h0 ((ha _).mp h1),fun h o c h0 h1=>?_,fun h c hh=>?_⟩
 ·obtain ⟨c,h1,h2⟩:=I.wrt h w (by rw [<- hw]; exact hh);exact ⟨c,fun o ho=>(ha _).mpr (h1 o ho),fun o c' h=>h2 o c' ((ha _).mp h)⟩
 ·obtain ⟨o',h'⟩:=I.rdy h o c h0 ((ha _).mp h1)
  have:=hm (o',sE,c)
  exact ⟨o',by omega⟩
 ·have h1:=I.tkk h c (by rw [<- hk]; exact hh)
  have:=hm (h,sR,c)
  omega
theorem Ev.lie (I:Ev n fs s sd v q) {f h c:Int} {w:Str} (hf:f ∈ fs) (f0:0<=f) (f1:f < n) (hh:h ∈ hon n fs) (hw:okW w):Ev n fs s sd v ⟨q.wr,q.gt,q.tk,q.ls ++ [(f,h,w,c)]⟩:=by
 have ha:∀ t,al ⟨q.wr,q.gt,q.tk,q.ls ++ [(f,h,w,c)]⟩ t->al q t∨t=(f,h,w,c):=fun t ht=>by
  rcases ht with ht | ht
  ·rcases List.mem_append.mp ht with ht | ht
   ·exact .inl (.inl ht)
   ·exact .inr (List.mem_singleton.mp ht)
  ·exact .inl (.inr ht)
 have hb:∀ t,al q t->al ⟨q.wr,q.gt,q.tk,q.ls ++ [(f,h,w,c)]⟩ t:=fun t ht=>ht.imp (fun z=>List.mem_append_left _ z) id;refine ⟨I.gn,I.wn,I.kn,fun t ht=>?_,I.wo,fun t ht=>?_,fun h' w' hm=>?_,fun hs o c' ht=>?_,fun hs h' o c' h0 ht=>?_,fun h' o c' h0 ht=>?_,I.tkk⟩
 ·rcases ha t ht with ht | rfl
  ·exact I.ok t ht
  ·exact ⟨hh,hw,f0,f1⟩
 ·rcases ha t ht with ht | rfl
  ·exact I.src t ht
  ·exact .inl hf
 ·obtain ⟨c0,h1,h2⟩:=I.wrt h' w' hm;refine ⟨c0,fun o ho=>hb _ (h1 o ho),fun o c' ht=>?_⟩
  rcases ha _ ht with ht | e
  ·exact h2 o c' ht
  ·injection e with e _
   exact absurd hf (e ▸ jfD (I.wo h' w' hm).1)
 ·rcases ha _ ht with ht | e
  ·exact I.fst hs o c' ht
  ·injection e with e _
   exact absurd hf (e ▸ hs)
 ·rcases ha _ ht with ht | e
  ·exact I.ech hs h' o c' h0 ht
  ·injection e with e _
   exact absurd hf (e ▸ h0)
 ·rcases ha _ ht with ht | e
  ·exact I.rdy h' o c' h0 ht
  ·injection e with e _
   exact absurd hf (e ▸ h0)
theorem Ev.say (I:Ev n fs s sd v q) {h c:Int} {w:Str} (hm:(h,w) ∉ q.wr) (hh:h ∈ hon n fs) (hw:okW w) (g1:w=sF->h=sd->c=v) (g2:w=sE->sd ∉ fs->c=v) (g3:w=sR->Qu n s q c):Ev n fs s sd v (q.say (hon n fs) h w c):=by
 have ha:∀ t,al (q.say (hon n fs) h w c) t->al q t∨(∃ o ∈ hon n fs,t=(h,o,w,c)):=fun t ht=>by
  rcases ht with ht | ht
  ·rcases List.mem_append.mp ht with ht | ht
   ·exact .inl (.inl ht)
   ·obtain ⟨o,ho,rfl⟩:=List.mem_map.mp ht;exact .inr ⟨o,ho,rfl⟩
  ·exact .inl (.inr ht)
 have hb:∀ t,al q t->al (q.say (hon n fs) h w c) t:=fun t ht=>ht.imp (fun z=>List.mem_append_left _ z) id;have hc:∀ o ∈ hon n fs,al (q.say (hon n fs) h w c) (h,o,w,c):=fun o ho=>.inl (List.mem_append_right _ (List.mem_map.mpr ⟨o,ho,rfl⟩));have hne:∀ o c',¬ al q (h,o,w,c'):=fun o c' ht=>(I.src _ ht).elim (jfD hh) hm;have wr':∀ p:Int × Str,p ∈ (q.say (hon n fs) h w c).wr->p ∈ q.wr∨p=(h,w):=fun p hp=>(List.mem_append.mp hp).imp id fun z=>List.mem_singleton.mp z;refine ⟨I.gn,xu I.wn hm,I.kn,fun t ht=>?_,fun h' w' hp=>?_,fun t ht=>?_,fun h' w' hp=>?_,fun hs o c' ht=>?_,fun hs h' o c' h0 ht=>?_,fun h' o c' h0 ht=>?_,I.tkk⟩
 ·rcases ha t ht with ht | ⟨o,ho,rfl⟩
  ·exact I.ok t ht
  ·obtain ⟨⟨b0,b1⟩,_⟩:=uQ.mp hh;exact ⟨ho,hw,b0,b1⟩
 ·rcases wr' _ hp with hp | e
  ·exact I.wo h' w' hp
  ·injection e with e1 e2
   rw [e1,e2];exact ⟨hh,hw⟩
 ·rcases ha t ht with ht | ⟨o,ho,rfl⟩
  ·exact (I.src t ht).imp id fun z=>List.mem_append_left _ z
  ·exact .inr (List.mem_append_right _ (List.mem_singleton.mpr rfl))
 ·rcases wr' _ hp with hp | e
  ·obtain ⟨c0,h1,h2⟩:=I.wrt h' w' hp;refine ⟨c0,fun o ho=>hb _ (h1 o ho),fun o c' ht=>?_⟩
   rcases ha _ ht with ht | ⟨o',ho,e⟩
   ·exact h2 o c' ht
   ·injection e with e1 e
    injection e with e2 e
    injection e with e3 e
    rw [e1,e3] at hp;exact absurd hp hm
  ·injection e with e1 e2
   rw [e1,e2];refine ⟨c,hc,fun o c' ht=>?_⟩
   rcases ha _ ht with ht | ⟨o',ho,e⟩
   ·exact absurd ht (hne o c')
   ·injection e with e1 e
    injection e with e2 e
    injection e
 ·rcases ha _ ht with ht | ⟨o',ho,e⟩
  ·exact I.fst hs o c' ht
  ·injection e with e1 e
   injection e with e2 e
   injection e with e3 e
   rw [e];exact g1 e3.symm e1.symm
 ·rcases ha _ ht with ht | ⟨o',ho,e⟩
  ·exact I.ech hs h' o c' h0 ht
  ·injection e with e1 e
   injection e with e2 e
   injection e with e3 e
   rw [e];exact g2 e3.symm hs
 ·rcases ha _ ht with ht | ⟨o',ho,e⟩
  ·exact I.rdy h' o c' h0 ht
  ·injection e with e1 e
   injection e with e2 e
   injection e with e3 e
   rw [e];exact g3 e3.symm
theorem Ev.once (I:Ev n fs s sd v q) {h c:Int} {w:Str} (hh:h ∈ hon n fs) (hw:w=sE∨w=sR) (g2:w=sE->sd ∉ fs->c=v) (g3:w=sR->Qu n s q c):Ev n fs s sd v (q.once (hon n fs) h w c)∧(h,w) ∈ (q.once (hon n fs) h w c).wr∧(∀ p ∈ q.wr,p ∈ (q.once (hon n fs) h w c).wr)∧(q.once (hon n fs) h w c).gt=q.gt∧(q.once (hon n fs) h w c).tk=q.tk:=by
 unfold Es.once
 by_cases hm:(h,w) ∈ q.wr
 ·rw [if_pos hm];exact ⟨I,hm,fun p hp=>hp,rfl,rfl⟩
 ·rw [if_neg hm];refine ⟨I.say hm hh (.inr hw) (fun z=>?_) g2 g3,List.mem_append_right _ (List.mem_singleton.mpr rfl),fun p hp=>List.mem_append_left _ hp,rfl,rfl⟩
  rcases hw with hw | hw
  ·rw [hw] at z;exact absurd z (by decide)
  ·rw [hw] at z;exact absurd z (by decide)
theorem Ev.take (I:Ev n fs s sd v q) {o c:Int} (h:2 * s < (q.many (o,sR,c):Int)):Ev n fs s sd v (q.take o c)∧o ∈ (q.take o c).tk.map (·.1)∧(∀ p ∈ q.tk,p ∈ (q.take o c).tk)∧(q.take o c).gt=q.gt∧(q.take o c).wr=q.wr:=by
 unfold Es.take
 by_cases hm:o ∈ q.tk.map (·.1)
 ·rw [if_pos hm];exact ⟨I,hm,fun p hp=>hp,rfl,rfl⟩
 ·rw [if_neg hm];refine ⟨⟨I.gn,I.wn,?_,I.ok,I.wo,I.src,I.wrt,I.fst,I.ech,I.rdy,fun h' c' hp=>?_⟩,?_,fun p hp=>List.mem_append_left _ hp,rfl,rfl⟩
  ·show ((q.tk ++ [(o,c)]).map (·.1)).Nodup;rw [List.map_append];exact xu I.kn hm
  ·rcases List.mem_append.mp hp with hp | hp
   ·exact I.tkk h' c' hp
   ·have e:=List.mem_singleton.mp hp
    injection e with e1 e2
    rw [e1,e2];exact h
  ·exact List.mem_map.mpr ⟨(o,c),List.mem_append_right _ (List.mem_singleton.mpr rfl),rfl⟩
theorem jbA (I:Ev n fs s sd v q) (fl:(fs.length:Int)<=s) {o c:Int} {w:Str} (h:s < (q.many (o,w,c):Int)):∃ x,x ∉ fs∧(x,o,w,c) ∈ q.gt:=by
 refine Classical.byContradiction fun no=>?_
 have hl:=xb ((q.gt.filter fun t=>decide (t.2=(o,w,c))).map (·.1)) fs (Vh (xo I.gn) fun x hx y hy e=>by
  have h1:=of_decide_eq_true (List.mem_filter.mp hx).2;have h2:=of_decide_eq_true (List.mem_filter.mp hy).2
  exact Prod.ext e (h1.trans h2.symm)) fun x hx=>by
   obtain ⟨y,hy,rfl⟩:=List.mem_map.mp hx;obtain ⟨h1,h2⟩:=List.mem_filter.mp hy;have h2:y.2=(o,w,c):=of_decide_eq_true h2;refine Classical.byContradiction fun hf=>no ⟨y.1,hf,?_⟩;rw [<- h2];exact h1
 rw [List.length_map] at hl
 have:q.many (o,w,c)<=fs.length:=hl
 omega
theorem q_uniq (I:Ev n fs s sd v q) (fl:(fs.length:Int)<=s) {c c':Int} (h:Qu n s q c) (h':Qu n s q c'):c=c':=by
 obtain ⟨o,h⟩:=h;obtain ⟨o',h'⟩:=h'
 obtain ⟨A,hA⟩:∃ A,A=(q.gt.filter fun t=>decide (t.2=(o,sE,c))).map (·.1):=⟨_,rfl⟩
 obtain ⟨B,hB⟩:∃ B,B=(q.gt.filter fun t=>decide (t.2=(o',sE,c'))).map (·.1):=⟨_,rfl⟩
 have mem:∀ {p:Int × Str × Int} {x:Int},x ∈ (q.gt.filter fun t=>decide (t.2=p)).map (·.1)->(x,p) ∈ q.gt:=fun {p x} hx=>by
  obtain ⟨y,hy,rfl⟩:=List.mem_map.mp hx;obtain ⟨h1,h2⟩:=List.mem_filter.mp hy;rw [<- of_decide_eq_true h2];exact h1
 have nd:∀ p:Int × Str × Int,((q.gt.filter fun t=>decide (t.2=p)).map (·.1)).Nodup:=fun p=>Vh (xo I.gn) fun x hx y hy e=>by
  have h1:=of_decide_eq_true (List.mem_filter.mp hx).2;have h2:=of_decide_eq_true (List.mem_filter.mp hy).2;exact Prod.ext e (h1.trans h2.symm)
 have lA:A.length=q.many (o,sE,c):=by rw [hA,List.length_map]; rfl
 have lB:B.length=q.many (o',sE,c'):=by rw [hB,List.length_map]; rfl
 refine Classical.byContradiction fun hne=>?_
 have l1:=xb (B.filter fun x=>decide (x ∈ A)) fs (xo (hB ▸ nd _)) fun x hx=>by
  obtain ⟨h1,h2⟩:=List.mem_filter.mp hx;have h2:x ∈ A:=of_decide_eq_true h2;rw [hA] at h2;rw [hB] at h1;refine Classical.byContradiction fun hf=>hne ?_;have a1:al q (x,o,sE,c):=.inr (mem h2);have a2:al q (x,o',sE,c'):=.inr (mem h1);obtain ⟨c0,_,h3⟩:=I.wrt x sE ((I.src _ a1).resolve_left hf);rw [h3 o c a1,h3 o' c' a2]
 have l2:=xb (A ++ B.filter fun x=>!decide (x ∈ A)) ((List.range n).map fun k:Nat=>(k:Int)) (List.nodup_append.mpr ⟨hA ▸ nd _,xo (hB ▸ nd _),fun a ha b hb e=>by
  have:=(List.mem_filter.mp hb).2
  rw [<- e,decide_eq_true ha] at this
  cases this⟩) fun x hx=>by
   have b:0<=x∧x < (n:Int):=by
    rcases List.mem_append.mp hx with hx | hx
    ·rw [hA] at hx;exact (I.ok _ (.inr (mem hx))).2.2
    ·have hx:=(List.mem_filter.mp hx).1;rw [hB] at hx;exact (I.ok _ (.inr (mem hx))).2.2
   exact List.mem_map.mpr ⟨x.toNat,List.mem_range.mpr (by omega),by omega⟩
 have l3:(B.filter fun x=>decide (x ∈ A)).length + (B.filter fun x=>!decide (x ∈ A)).length=B.length:=Vm _ B;rw [List.length_append,List.length_map,List.length_range] at l2;omega
theorem jgU (I:Ev n fs s sd v q) (fl:(fs.length:Int)<=s) {h h' o o' c c':Int} (hh:h ∉ fs) (hh':h' ∉ fs) (a:al q (h,o,sR,c)) (a':al q (h',o',sR,c')):c=c':=q_uniq I fl (I.rdy h o c hh a) (I.rdy h' o' c' hh' a')
theorem q_send (I:Ev n fs s sd v q) (fl:(fs.length:Int)<=s) (hs:3 * s < n) (hd:sd ∉ fs) {c:Int} (h:Qu n s q c):c=v:=by
 obtain ⟨o,h⟩:=h;obtain ⟨x,h1,h2⟩:=jbA I fl (o:=o) (w:=sE) (c:=c) (by omega);exact I.ech hd x o c h1 (.inr h2)
theorem jea (I:Ev n fs s sd v q) (fl:(fs.length:Int)<=s) (s0:0<=s) {h c:Int} (hp:(h,c) ∈ q.tk):∃ x,x ∉ fs∧(x,h,sR,c) ∈ q.gt:=jbA I fl (by have:=I.tkk h c hp; omega)
theorem jeb (I:Ev n fs s sd v q) (fl:(fs.length:Int)<=s) (s0:0<=s) {h h' c c':Int} (hp:(h,c) ∈ q.tk) (hp':(h',c') ∈ q.tk):c=c':=by
 obtain ⟨x,h1,h2⟩:=jea I fl s0 hp;obtain ⟨y,h3,h4⟩:=jea I fl s0 hp';exact jgU I fl h1 h3 (.inr h2) (.inr h4)
theorem jgG (I:Ev n fs s sd v q) (fl:(fs.length:Int)<=s) (s0:0<=s) (hs:3 * s < n) (hd:sd ∉ fs) {h c:Int} (hp:(h,c) ∈ q.tk):c=v:=by
 obtain ⟨x,h1,h2⟩:=jea I fl s0 hp;exact q_send I fl hs hd (I.rdy x h c h1 (.inr h2))
end

section
variable {n:Nat} {fs:List Int} {s sd v:Int} {q:Es}
theorem jcz (I:Ev n fs s sd v q) (J:Ew n s sd q) (fl:(fs.length:Int)<=s) (s0:0<=s) {k:Nat} {t:T4} (hk:q.ls[k]? = some t) :
  Ev n fs s sd v ((⟨q.wr,q.gt,q.tk,q.ls.eraseIdx k⟩:Es).come n s (hon n fs) sd t)∧Ew n s sd ((⟨q.wr,q.gt,q.tk,q.ls.eraseIdx k⟩:Es).come n s (hon n fs) sd t)∧(∀ p ∈ q.wr,p ∈ ((⟨q.wr,q.gt,q.tk,q.ls.eraseIdx k⟩:Es).come n s (hon n fs) sd t).wr)∧(∀ p ∈ q.tk,p ∈ ((⟨q.wr,q.gt,q.tk,q.ls.eraseIdx k⟩:Es).come n s (hon n fs) sd t).tk):=by
 have htl:t ∈ q.ls:=List.mem_of_getElem? hk;obtain ⟨o1,o2,_⟩:=I.ok t (.inl htl)
 obtain ⟨q0,hq0⟩:∃ q0:Es,q0=⟨q.wr,q.gt,q.tk,q.ls.eraseIdx k⟩:=⟨_,rfl⟩
 rw [<- hq0]
 obtain ⟨q1,hq1⟩:∃ q1,q1=q0.add t:=⟨_,rfl⟩
 have w1:q1.wr=q.wr:=by rw [hq1,hq0]; unfold Es.add; split <;> rfl
 have k1:q1.tk=q.tk:=by rw [hq1,hq0]; unfold Es.add; split <;> rfl
 have l1:q1.ls=q.ls.eraseIdx k:=by rw [hq1,hq0]; unfold Es.add; split <;> rfl
 have g1:∀ x,x ∈ q1.gt↔x=t∨x ∈ q.gt:=fun x=>by
  rw [hq1,hq0];unfold Es.add;split
  ·rename_i h;exact ⟨.inr,fun z=>z.elim (fun e=>by rw [e]; exact h) id⟩
  ·show x ∈ q.gt ++ [t]↔_;rw [List.mem_append,List.mem_singleton];exact ⟨fun z=>z.elim .inr .inl,fun z=>z.elim .inr .inl⟩
 have n1:q1.gt.Nodup:=by
  rw [hq1,hq0];unfold Es.add;split
  ·exact I.gn
  ·rename_i h;exact xu I.gn h
 have mle:∀ p,q.many p<=q1.many p:=fun p=>jdp (fun x hx=>(g1 x).mpr (.inr hx)) I.gn p
 have mne:∀ p,p≠t.2->q1.many p=q.many p:=fun p hp=>Nat.le_antisymm (xb _ _ (xo n1) fun x hx=>by
  obtain ⟨h1,h2⟩:=List.mem_filter.mp hx
  rcases (g1 x).mp h1 with rfl | h1
  ·exact absurd (of_decide_eq_true h2).symm hp
  ·exact List.mem_filter.mpr ⟨h1,h2⟩) (mle p)
 have I1:Ev n fs s sd v q1:=I.got w1 k1 n1 (fun x=>by
  constructor
  ·rintro (h | h)
   ·exact .inl (Vj (l1 ▸ h))
   ·rcases (g1 x).mp h with rfl | h
    ·exact .inl htl
    ·exact .inr h
  ·rintro (h | h)
   ·rcases jay hk h with h | rfl
    ·exact .inl (l1 ▸ h)
    ·exact .inr ((g1 _).mpr (.inl rfl))
   ·exact .inr ((g1 x).mpr (.inr h))) mle
 have hat:al q1 t:=.inr ((g1 t).mpr (.inl rfl))
 have hcome:q0.come n s (hon n fs) sd t=q1.look n s (hon n fs) sd t:=by rw [hq1]; rfl
 rw [hcome];obtain ⟨a,o,w,c⟩:=t;have o1:o ∈ hon n fs:=o1
 -- what the look does
 have main:Ev n fs s sd v (q1.look n s (hon n fs) sd (a,o,w,c))∧(∀ p ∈ q1.wr,p ∈ (q1.look n s (hon n fs) sd (a,o,w,c)).wr)∧(∀ p ∈ q1.tk,p ∈ (q1.look n s (hon n fs) sd (a,o,w,c)).tk)∧(q1.look n s (hon n fs) sd (a,o,w,c)).gt=q1.gt∧(w=sF->a=sd->(o,sE) ∈ (q1.look n s (hon n fs) sd (a,o,w,c)).wr)∧(w=sE->(n:Int) + s < 2 * (q1.many (o,sE,c):Int)->(o,sR) ∈ (q1.look n s (hon n fs) sd (a,o,w,c)).wr)∧(w=sR->s < (q1.many (o,sR,c):Int)->(o,sR) ∈ (q1.look n s (hon n fs) sd (a,o,w,c)).wr)∧(w=sR->2 * s < (q1.many (o,sR,c):Int)->o ∈ (q1.look n s (hon n fs) sd (a,o,w,c)).tk.map (·.1)):=by
  have dF:¬ sE=sF:=by decide
  have dG:¬ sR=sF:=by decide
  have dH:¬ sR=sE:=by decide
  have dI:¬ sF=sE:=by decide
  have dJ:¬ sF=sR:=by decide
  have dK:¬ sE=sR:=by decide
  rcases o2 with hw | hw | hw
  ·have hw:w=sF:=hw;subst hw;have e:q1.look n s (hon n fs) sd (a,o,sF,c)=q1.lookF (hon n fs) sd a o c:=if_pos rfl;rw [e];unfold Es.lookF
   by_cases ha:a=sd
   ·rw [if_pos ha];obtain ⟨h1,h2,h3,h4,h5⟩:=I1.once (c:=c) o1 (.inl rfl) (fun _ hd=>I1.fst hd o c (ha ▸ hat)) (fun z=>absurd z dK);exact ⟨h1,h3,by rw [h5]; exact fun p hp=>hp,h4,fun _ _=>h2,fun z=>absurd z dI,fun z=>absurd z dJ,fun z=>absurd z dJ⟩
   ·rw [if_neg ha];exact ⟨I1,fun p hp=>hp,fun p hp=>hp,rfl,fun _ z=>absurd z ha,fun z=>absurd z dI,fun z=>absurd z dJ,fun z=>absurd z dJ⟩
  ·have hw:w=sE:=hw;subst hw;have e:q1.look n s (hon n fs) sd (a,o,sE,c)=q1.lookE n s (hon n fs) o c:=(if_neg dF).trans (if_pos rfl);rw [e];unfold Es.lookE
   by_cases ha:(n:Int) + s < 2 * (q1.many (o,sE,c):Int)
   ·rw [if_pos ha];obtain ⟨h1,h2,h3,h4,h5⟩:=I1.once (c:=c) o1 (.inr rfl) (fun z=>absurd z dH) (fun _=>⟨o,ha⟩);exact ⟨h1,h3,by rw [h5]; exact fun p hp=>hp,h4,fun z=>absurd z dF,fun _ _=>h2,fun z=>absurd z dK,fun z=>absurd z dK⟩
   ·rw [if_neg ha];exact ⟨I1,fun p hp=>hp,fun p hp=>hp,rfl,fun z=>absurd z dF,fun _ z=>absurd z ha,fun z=>absurd z dK,fun z=>absurd z dK⟩
  ·have hw:w=sR:=hw;subst hw;have e:q1.look n s (hon n fs) sd (a,o,sR,c)=q1.lookR s (hon n fs) o c:=(if_neg dG).trans ((if_neg dH).trans (if_pos rfl));rw [e];unfold Es.lookR
   by_cases hb:s < (q1.many (o,sR,c):Int)
   ·obtain ⟨x,x1,x2⟩:=jbA I1 fl hb;obtain ⟨h1,h2,h3,h4,h5⟩:=I1.once (c:=c) o1 (.inr rfl) (fun z=>absurd z dH) (fun _=>I1.rdy x o c x1 (.inr x2))
    by_cases ha:2 * s < (q1.many (o,sR,c):Int)
    ·rw [if_pos ha,if_pos hb];obtain ⟨j1,j2,j3,j4,j5⟩:=h1.take (o:=o) (c:=c) (by rw [JN h4]; exact ha);exact ⟨j1,by rw [j5]; exact h3,fun p hp=>j3 p (by rw [h5]; exact hp),j4.trans h4,fun z=>absurd z dG,fun z=>absurd z dH,fun _ _=>by rw [j5]; exact h2,fun _ _=>j2⟩
    ·rw [if_neg ha,if_pos hb];exact ⟨h1,h3,by rw [h5]; exact fun p hp=>hp,h4,fun z=>absurd z dG,fun z=>absurd z dH,fun _ _=>h2,fun _ z=>absurd z ha⟩
   ·have ha:¬ 2 * s < (q1.many (o,sR,c):Int):=by omega
    rw [if_neg ha,if_neg hb];exact ⟨I1,fun p hp=>hp,fun p hp=>hp,rfl,fun z=>absurd z dG,fun z=>absurd z dH,fun _ z=>absurd z hb,fun _ z=>absurd z ha⟩
 obtain ⟨m1,m2,m3,m4,m5,m6,m7,m8⟩:=main;refine ⟨m1,⟨fun x hx h1 h2=>?_,fun o' c' h=>?_,fun o' c' h=>?_,fun o' c' h=>?_⟩,fun p hp=>m2 p (by rw [w1]; exact hp),fun p hp=>m3 p (by rw [k1]; exact hp)⟩
 ·rw [m4] at hx
  rcases (g1 x).mp hx with rfl | hx
  ·exact m5 h1 h2
  ·exact m2 _ (by rw [w1]; exact J.c1 x hx h1 h2)
 ·rw [JN m4] at h
  by_cases e:((o',sE,c'):Int × Str × Int)=(o,w,c)
  ·injection e with e1 e
   injection e with e2 e
   subst e1 e;exact m6 e2.symm h
  ·rw [mne _ e] at h;exact m2 _ (by rw [w1]; exact J.c2 o' c' h)
 ·rw [JN m4] at h
  by_cases e:((o',sR,c'):Int × Str × Int)=(o,w,c)
  ·injection e with e1 e
   injection e with e2 e
   subst e1 e;exact m7 e2.symm h
  ·rw [mne _ e] at h;exact m2 _ (by rw [w1]; exact J.c3 o' c' h)
 ·rw [JN m4] at h
  by_cases e:((o',sR,c'):Int × Str × Int)=(o,w,c)
  ·injection e with e1 e
   injection e with e2 e
   subst e1 e;exact m8 e2.symm h
  ·rw [mne _ e] at h;obtain ⟨p,hp,e⟩:=List.mem_map.mp (J.c4 o' c' h);exact List.mem_map.mpr ⟨p,m3 p (by rw [k1]; exact hp),e⟩
theorem xP {h c:Int} (e:yw q h=some c):(h,c) ∈ q.tk:=by
 unfold yw at e;obtain ⟨x,h1,h2⟩:=Option.map_eq_some_iff.mp e;have h3:x.1=h:=of_decide_eq_true (by have:=List.find?_some h1; exact this);rw [<- h3,<- h2];exact List.mem_of_find?_eq_some h1
theorem jgE {h:Int} (e:h ∈ q.tk.map (·.1)):∃ c,yw q h=some c:=by
 have:=vY q h
 rw [decide_eq_true e] at this;exact Option.isSome_iff_exists.mp this
theorem wr_le (I:Ev n fs s sd v q):q.wr.length<=3 * (hon n fs).length:=by
 have h:=xb q.wr ((hon n fs).map (fun h=>(h,sF)) ++ ((hon n fs).map (fun h=>(h,sE)) ++ (hon n fs).map fun h=>(h,sR))) I.wn fun p hp=>by
  obtain ⟨h1,h2⟩:=I.wo p.1 p.2 hp;rw [List.mem_append,List.mem_append]
  rcases h2 with h2 | h2 | h2
  ·exact .inl (List.mem_map.mpr ⟨p.1,h1,by rw [<- h2]⟩)
  ·exact .inr (.inl (List.mem_map.mpr ⟨p.1,h1,by rw [<- h2]⟩))
  ·exact .inr (.inr (List.mem_map.mpr ⟨p.1,h1,by rw [<- h2]⟩))
 rw [List.length_append,List.length_append,List.length_map,List.length_map,List.length_map] at h;omega
end

theorem jav {M:Sto} {fs:List Int} {d:DE} {ρ:En} (hd:d ρ M = .ok (.lst (fs.map PV.int)) M):yd (dOp (eqG true) d (yR yb)) ρ M = .ok (!decide (fs=[])) M:=by
 refine ym (yk hd (M2:=M) (y:=.lst []) ?_ ?_)
 ·rw [uc,ju];simp only [Res.bind_ok];exact if_pos (Nat.zero_le _)
 unfold eqG;rw [show look M (.lst (fs.map PV.int)) = .lst (fs.map PV.int) from rfl,show look M (.lst []) = .lst [] from rfl,if_pos ⟨UZ fs,rfl,jdC fs⟩]
 cases fs with
 | nil=>rfl
 | cons a l=>rfl
theorem jcr (q:Es) (hs:List Int) (h:Int) (w:Str) (c:Int):((q.once hs h w c).wr=q.wr∧(q.once hs h w c).ls=q.ls)∨((q.once hs h w c).wr.length=q.wr.length + 1∧(q.once hs h w c).ls.length=q.ls.length + hs.length):=by
 unfold Es.once;split
 ·exact .inl ⟨rfl,rfl⟩
 ·exact .inr ⟨by show (q.wr ++ [_]).length=_; rw [List.length_append]; rfl,by show (q.ls ++ _).length=_; rw [List.length_append,List.length_map]⟩
theorem jbW (q:Es) (o c:Int):(q.take o c).wr=q.wr∧(q.take o c).ls=q.ls∧(q.take o c).gt=q.gt∧(q.take o c).tk.length<=q.tk.length + 1:=by
 unfold Es.take;split
 ·exact ⟨rfl,rfl,rfl,Nat.le_succ _⟩
 ·exact ⟨rfl,rfl,rfl,by show (q.tk ++ [_]).length<=_; rw [List.length_append]; exact Nat.le_refl _⟩
theorem jhK (q:Es) (n s:Int) (hs:List Int) (sd:Int) (t:T4):(((q.look n s hs sd t).wr=q.wr∧(q.look n s hs sd t).ls=q.ls)∨((q.look n s hs sd t).wr.length=q.wr.length + 1∧(q.look n s hs sd t).ls.length=q.ls.length + hs.length))∧(q.look n s hs sd t).gt=q.gt∧(q.look n s hs sd t).tk.length<=q.tk.length + 1:=by
 have h0:((q.wr=q.wr∧q.ls=q.ls)∨(q.wr.length=q.wr.length + 1∧q.ls.length=q.ls.length + hs.length))∧q.gt=q.gt∧q.tk.length<=q.tk.length + 1:=⟨.inl ⟨rfl,rfl⟩,rfl,Nat.le_succ _⟩
 have h1:∀ (o c:Int) (w:Str),(((q.once hs o w c).wr=q.wr∧(q.once hs o w c).ls=q.ls)∨((q.once hs o w c).wr.length=q.wr.length + 1∧(q.once hs o w c).ls.length=q.ls.length + hs.length))∧(q.once hs o w c).gt=q.gt∧(q.once hs o w c).tk.length<=q.tk.length + 1:=fun o c w=>by
  obtain ⟨_,b,d,_⟩:=Yr q hs o w c;exact ⟨jcr q hs o w c,b,by rw [d]; exact Nat.le_succ _⟩
 unfold Es.look;split
 ·unfold Es.lookF;split
  ·exact h1 _ _ _
  ·exact h0
 ·split
  ·unfold Es.lookE;split
   ·exact h1 _ _ _
   ·exact h0
  ·split
   ·unfold Es.lookR;split
    ·split
     ·obtain ⟨a,b,d,e⟩:=jbW (q.once hs t.2.1 sR t.2.2.2) t.2.1 t.2.2.2;obtain ⟨_,x,y,_⟩:=Yr q hs t.2.1 sR t.2.2.2;rw [a,b,d];rw [y] at e;exact ⟨jcr _ _ _ _ _,x,e⟩
     ·obtain ⟨a,b,d,e⟩:=jbW q t.2.1 t.2.2.2;rw [a,b,d];exact ⟨.inl ⟨rfl,rfl⟩,rfl,e⟩
    ·split
     ·exact h1 _ _ _
     ·exact h0
   ·exact h0
theorem jih (q:Es) (n s:Int) (hs:List Int) (sd:Int) (t:T4):(((q.come n s hs sd t).wr=q.wr∧(q.come n s hs sd t).ls=q.ls)∨((q.come n s hs sd t).wr.length=q.wr.length + 1∧(q.come n s hs sd t).ls.length=q.ls.length + hs.length))∧(q.come n s hs sd t).gt.length<=q.gt.length + 1∧(q.come n s hs sd t).tk.length<=q.tk.length + 1:=by
 have z:(q.add t).wr=q.wr∧(q.add t).tk=q.tk∧(q.add t).ls=q.ls∧(q.add t).gt.length<=q.gt.length + 1:=by
  unfold Es.add;split
  ·exact ⟨rfl,rfl,rfl,Nat.le_succ _⟩
  ·exact ⟨rfl,rfl,rfl,by show (q.gt ++ [_]).length<=_; rw [List.length_append]; exact Nat.le_refl _⟩
 obtain ⟨a,b,c⟩:=jhK (q.add t) n s hs sd t;rw [z.1,z.2.2.1] at a;rw [z.2.1] at c;unfold Es.come;exact ⟨a,by rw [b]; exact z.2.2.2,c⟩
structure K24 (M:Sto) (i lo n:Nat) (s:Int) (fs:List Int) (sd v:Int) (q:Es) (T L:Nat):Prop where
 tw:Tw M
 pu:∃ es gs,Pu M i lo n s fs sd es gs q∧gs.length<=T
 i2:2<=i
 iv:Ev n fs s sd v q
 iw:Ew n s sd q
 lg:q.gt.length<=T
 lk:q.tk.length<=T
 ll:q.ls.length<=8 * q.wr.length + L
structure Lw (M M':Sto) (i lo:Nat):Prop where
 n:M.n<=M'.n
 g:∀ j,i + 5<=j->j < lo->M'.g j=M.g j
theorem Lw.trans {A B C:Sto} {i lo:Nat} (h:Lw A B i lo) (k:Lw B C i lo):Lw A C i lo:=⟨Nat.le_trans h.n k.n,fun j a b=>(k.g j a b).trans (h.g j a b)⟩
theorem Lw.refl (M:Sto) (i lo:Nat):Lw M M i lo:=⟨Nat.le_refl _,fun _ _ _=>rfl⟩
section
variable {M M':Sto} {i lo n:Nat} {s:Int} {fs:List Int} {sd v:Int} {q:Es} {T L:Nat}
theorem K24.off (K:K24 M i lo n s fs sd v q T L) (o:Off M M') (t:Tw M'):K24 M' i lo n s fs sd v q T L∧Lw M M' i lo:=by
 obtain ⟨es,gs,P,hg⟩:=K.pu
 have:=K.i2
 have:=P.ln
 have:=P.li
 exact ⟨⟨t,⟨es,gs,P.off o.n fun j hj=>o.g j (by omega) (by omega),hg⟩,K.i2,K.iv,K.iw,K.lg,K.lk,K.ll⟩,o.n,fun j h1 h2=>o.g j (by omega) (by omega)⟩
theorem K24.more (K:K24 M i lo n s fs sd v q T L) {T' L':Nat} (h1:T<=T') (h2:L<=L'):K24 M i lo n s fs sd v q T' L':=by
 obtain ⟨es,gs,P,hg⟩:=K.pu;exact ⟨K.tw,⟨es,gs,P,by omega⟩,K.i2,K.iv,K.iw,by have:=K.lg; omega,by have:=K.lk; omega,by have:=K.ll; omega⟩
theorem K24.fr (K:K24 M i lo n s fs sd v q T L) (f:Fr M M' i lo):Tw M'∧Lw M M' i lo:=by
 obtain ⟨es,gs,P,hg⟩:=K.pu
 have:=K.i2
 have:=P.li
 exact ⟨jbV K.tw (f.g 0 (by omega) (by omega)) (f.g 1 (by omega) (by omega)) f.n,f.n,fun j h1 h2=>f.g j h2 (.inr h1)⟩
theorem K24.w24 (K:K24 M i lo n s fs sd v q T L) (n8:n<=8):q.wr.length<=24:=by
 have:=wr_le K.iv
 have:=ux n fs
 omega
theorem jiB (K:K24 M i lo n s fs sd v q T L) (n8:n<=8) (hL:L<=1000) {f h c:Int} {w:Str} (hf:f ∈ fs) (f0:0<=f) (f1:f < n) (hh:h ∈ hon n fs) (hw:okW w) (c0:0<=c) (c1:c<=999):∃ M',ul [.ref i,.int f,.int h,.str w,.int c] M = .ok .non M'∧K24 M' i lo n s fs sd v ⟨q.wr,q.gt,q.tk,q.ls ++ [(f,h,w,c)]⟩ T (L + 1)∧Lw M M' i lo:=by
 obtain ⟨es,gs,P,hg⟩:=K.pu;have hw':=K.w24 n8;have hl:=K.ll;obtain ⟨M1,es1,e1,P1,fr⟩:=lie_p P (by omega) hf f0 f1 hh hw c0 c1;obtain ⟨t1,w1⟩:=K.fr (fr.weak P.ln);refine ⟨M1,e1,⟨t1,⟨es1,gs,P1,hg⟩,K.i2,K.iv.lie hf f0 f1 hh hw,⟨K.iw.c1,K.iw.c2,K.iw.c3,K.iw.c4⟩,K.lg,K.lk,?_⟩,w1⟩;show (q.ls ++ [_]).length<=8 * q.wr.length + (L + 1);rw [List.length_append];show q.ls.length + 1<=_;omega
theorem jfr (K:K24 M i lo n s fs sd v q T L) (n8:n<=8) (s0:0<=s) (s2:s<=2) (fl:(fs.length:Int)<=s) (hT:T<=2000) (hL:L<=1000):(q.ls=[]∧vW [.ref 1,.ref i] M = .ok .non M)∨∃ k t M',q.ls[k]? = some t∧vW [.ref 1,.ref i] M = .ok (p4 t) M'∧K24 M' i lo n s fs sd v ((⟨q.wr,q.gt,q.tk,q.ls.eraseIdx k⟩:Es).come n s (hon n fs) sd t) (T + 1) L∧Lw M M' i lo:=by
 obtain ⟨es,gs,P,hg⟩:=K.pu;have hw:=K.w24 n8;have hl:=K.ll;have hgt:=K.lg;have hk:=K.lk;have hnl:=ux n fs
 have e1:dCB (one xD) (jb (yv 12 "letters" VU 1 0 [.p 0] [] (ya 1) yb yb) yb) [some (.ref 1),some (.ref i),none] M = .ok (.int q.ls.length) M:=by
  refine uw (x:=.lst (q.ls.map p4)) ?_ (by rw [xJ (x:=.lst _) rfl,List.length_map]);rw [P.mth (xs:=[]) (zs:=[]) (M1:=M) (M2:=M) rfl rfl rfl rfl];exact jdt P (by omega)
 have tG:yd (dOp gGt (ya 2) (dC (.int 0))) [some (.ref 1),some (.ref i),some (.int q.ls.length)] M = .ok (decide ((0:Int) < q.ls.length)) M:=ym (yk (x:=.int q.ls.length) (y:=.int 0) rfl rfl rfl)
 by_cases hE:q.ls=[]
 ·refine .inl ⟨hE,?_⟩;refine jV (ρ:=[some (.ref 1),some (.ref i),none]) rfl rfl ?_;unfold jge;refine jR e1 ?_;simp only [List.set_cons_succ,List.set_cons_zero];refine jO ?_;rw [decide_eq_false (by rw [hE]; decide)] at tG;unfold dIf;rw [tG];rfl
 ·have hlen:q.ls.length≠0:=fun z=>hE (List.eq_nil_of_length_eq_zero z);obtain ⟨d,M2,e2,d0,d1,T2,o2⟩:=yP K.tw (k:=(q.ls.length:Int)) (by omega) (by omega);obtain ⟨K2,w2⟩:=K.off o2 T2
  obtain ⟨k,rfl⟩:∃ k:Nat,d=(k:Int):=⟨d.toNat,by omega⟩
  have hkl:k < q.ls.length:=by omega
  obtain ⟨t,ht⟩:∃ t,q.ls[k]? = some t:=⟨_,List.getElem?_eq_getElem hkl⟩
  obtain ⟨es2,gs2,P2,hg2⟩:=K2.pu;obtain ⟨_,o1,_⟩:=K.iv.ok t (.inl (List.mem_of_getElem? ht));obtain ⟨M5,es5,gs5,e5,P5,f5,l5⟩:=come_p P2 (by omega) (by omega) s0 (by omega) (by omega) (by omega) (by omega) (by omega) ht o1;obtain ⟨z0,z3,z4⟩:=jih ⟨q.wr,q.gt,q.tk,q.ls.eraseIdx k⟩ n s (hon n fs) sd t;have z3:((⟨q.wr,q.gt,q.tk,q.ls.eraseIdx k⟩:Es).come n s (hon n fs) sd t).gt.length<=q.gt.length + 1:=z3;have z4:((⟨q.wr,q.gt,q.tk,q.ls.eraseIdx k⟩:Es).come n s (hon n fs) sd t).tk.length<=q.tk.length + 1:=z4;have el:(q.ls.eraseIdx k).length=q.ls.length - 1:=List.length_eraseIdx_of_lt hkl;obtain ⟨t5,w5⟩:=K2.fr f5;obtain ⟨i1,i2,_,_⟩:=jcz K.iv K.iw fl s0 ht;refine .inr ⟨k,t,M5,ht,?_,⟨t5,⟨es5,gs5,P5,by omega⟩,K.i2,i1,i2,by omega,by omega,?_⟩,w2.trans w5⟩
  ·refine jV (ρ:=[some (.ref 1),some (.ref i),none]) rfl rfl ?_;unfold jge;refine jR e1 ?_;simp only [List.set_cons_succ,List.set_cons_zero];refine jO ?_;rw [decide_eq_true (by omega)] at tG;unfold dIf;rw [tG];show yv 12 "come" VN 2 0 [.p 0,.p 1] [] (ya 1) (jb (jo yx 2 0 [.p 0,.p 1] [] (jb (ya 0) (jb (ya 2) yb)) yb) yb) yb [some (.ref 1),some (.ref i),some (.int q.ls.length)] M=_;rw [P.mth (xs:=[.int k]) (zs:=[]) (M1:=M2) (M2:=M2) rfl rfl (yK (by rw [jT]; simp only [jp,jz,jF,ju,Res.bind_ok]; exact e2)) rfl];exact e5
  ·rcases z0 with ⟨h1,h2⟩ | ⟨h1,h2⟩
   ·rw [h1,h2];show (q.ls.eraseIdx k).length<=8 * q.wr.length + L;omega
   ·rw [h1,h2];show (q.ls.eraseIdx k).length + _<=8 * (q.wr.length + 1) + L;omega
end

section
variable {M M':Sto} {i lo n:Nat} {s:Int} {fs:List Int} {sd v:Int} {q:Es} {T L:Nat} {F H:PV}
def VZ (t:PV):Prop:=t = .non∨∃ c:Int,t = .int c∧0<=c∧c<=999
theorem S3_24 (K:K24 M i lo n s fs sd v q T L) (n8:n<=8) (hL:L<=900) (hH:H = .lst ((hon n fs).map PV.int)) {f:Int} (hf:f ∈ fs) (f0:0<=f) (f1:f < n) {k:Nat} (hk:k < (hon n fs).length) {t:PV} (ht:VZ t) {w:Str} (hw:okW w) (x4 x5 x6:Option PV) :
  ∃ M' q',uS [some (.ref 1),some (.ref i),some F,some H,x4,x5,x6,some (.int f),some (.int k),some t,some (.str w)] M = .nx [some (.ref 1),some (.ref i),some F,some H,x4,x5,x6,some (.int f),some (.int k),some t,some (.str w)] M'∧K24 M' i lo n s fs sd v q' T (L + 1)∧Lw M M' i lo∧q'.wr=q.wr∧q'.tk=q.tk:=by
 obtain ⟨ρ,hρ⟩:∃ ρ:En,ρ=[some (.ref 1),some (.ref i),some F,some H,x4,x5,x6,some (.int f),some (.int k),some t,some (.str w)]:=⟨_,rfl⟩
 have v9:ya 9 ρ M = .ok t M:=by rw [hρ]; rfl
 rw [<- hρ];unfold uS
 rcases ht with rfl | ⟨c,rfl,c0,c1⟩
 ·refine ⟨M,q,jca (M1:=M) ?_ rfl,K.more (Nat.le_refl _) (Nat.le_succ _),Lw.refl _ _ _,rfl,rfl⟩;unfold yJ;rw [ym (b:=false) (yk v9 (y:=.non) rfl rfl)];rfl
 ·obtain ⟨d,M1,e1,d0,d1,T1,o1⟩:=yP K.tw (k:=4) (by decide) (by decide);obtain ⟨K1,w1⟩:=K.off o1 T1
  have t3:yJ (yd (dOp vQ (ya 9) (dC .non))) (yd (dOp gGt (jo yx 2 0 [.p 0,.p 1] [] (jb (ya 0) (jb (dC (.int 4)) yb)) yb) (dC (.int 0)))) ρ M = .ok (decide (0 < d)) M1:=by
   unfold yJ;rw [ym (b:=true) (yk v9 (y:=.non) rfl rfl)];show yd _ ρ M=_;refine ym (yk (x:=.int d) (M1:=M1) ?_ (y:=.int 0) rfl rfl);rw [jT,hρ];simp only [jp,jz,jF,xA,ju,Res.bind_ok];exact e1
  by_cases hd:0 < d
  ·rw [decide_eq_true hd] at t3;have hx:(hon n fs)[k] ∈ hon n fs:=List.getElem_mem hk;obtain ⟨M2,e2,K2,w2⟩:=jiB K1 n8 (by omega) hf f0 f1 hx hw c0 c1;obtain ⟨es,gs,P,hg⟩:=K1.pu;refine ⟨M2,_,Yg t3 (yz (v:=.non) ?_),K2,w1.trans w2,rfl,rfl⟩
   have hi:dOp gIx (ya 3) (ya 8) ρ M1 = .ok (.int (hon n fs)[k]) M1:=by
    refine yk (x:=H) (y:=.int k) (by rw [hρ]; rfl) (by rw [hρ]; rfl) ?_;rw [hH,uz (xs:=(hon n fs).map PV.int) rfl,UM (by omega) (by rw [List.length_map]; omega),Int.toNat_natCast,List.getElem?_map,List.getElem?_eq_getElem hk];rfl
   rw [P.mth (xs:=[.int f,.int (hon n fs)[k],.str w,.int c]) (zs:=[]) (M1:=M1) (M2:=M1) (by rw [hρ]; rfl) rfl (by
    rw [jp,show ya 7 ρ M1 = .ok (.int f) M1 by rw [hρ]; rfl];simp only [Res.bind_ok];rw [jp,hi];simp only [Res.bind_ok];rw [hρ]
    rfl) rfl]
   exact e2
  ·rw [decide_eq_false hd] at t3;exact ⟨M1,q,jca t3 rfl,K1.more (Nat.le_refl _) (Nat.le_succ _),w1,rfl,rfl⟩
theorem jdW {ρ:En}:dIt (yR (jb (dC (.str "first")) (jb (dC (.str "echo")) (jb (dC (.str "ready")) yb)))) ρ M = .ok (.fix [.str sF,.str sE,.str sR]) M:=by
 refine jcE ?_;rw [uc];simp only [jp,xA,ju,Res.bind_ok];exact if_pos (show (3:Nat)<=sizeLine by decide)
theorem S2_24 (K:K24 M i lo n s fs sd v q T L) (n8:n<=8) (hL:L<=800) (hH:H = .lst ((hon n fs).map PV.int)) {f:Int} (hf:f ∈ fs) (f0:0<=f) (f1:f < n) {k:Nat} (hk:k < (hon n fs).length) {a b:PV} (ha:VZ a) (hb:VZ b) (p:Int) (x9 x10:Option PV) :
  ∃ y9 y10 M' q',uT [some (.ref 1),some (.ref i),some F,some H,some a,some (.int p),some b,some (.int f),some (.int k),x9,x10] M = .nx [some (.ref 1),some (.ref i),some F,some H,some a,some (.int p),some b,some (.int f),some (.int k),y9,y10] M'∧K24 M' i lo n s fs sd v q' T (L + 3)∧Lw M M' i lo∧q'.wr=q.wr∧q'.tk=q.tk:=by
 obtain ⟨t,ht,et⟩:∃ t,VZ t∧dIf (yd (dOp gLt (ya 8) (ya 5))) (ya 4) (ya 6) [some (.ref 1),some (.ref i),some F,some H,some a,some (.int p),some b,some (.int f),some (.int k),x9,x10] M = .ok t M:=by
  have tt:yd (dOp gLt (ya 8) (ya 5)) [some (.ref 1),some (.ref i),some F,some H,some a,some (.int p),some b,some (.int f),some (.int k),x9,x10] M = .ok (decide ((k:Int) < p)) M:=ym (yk (x:=.int k) (y:=.int p) rfl rfl rfl)
  by_cases h:(k:Int) < p
  ·rw [decide_eq_true h] at tt;exact ⟨a,ha,by rw [vV,tt]; rfl⟩
  ·rw [decide_eq_false h] at tt;exact ⟨b,hb,by rw [vV,tt]; rfl⟩
 obtain ⟨ρ',M',e,y10,q',hρ,K',w',h1,h2⟩:=xX (g:=gN 10) (db:=uS) (fun j ρ M1=>∃ y10 q',ρ=[some (.ref 1),some (.ref i),some F,some H,some a,some (.int p),some b,some (.int f),some (.int k),some t,y10]∧K24 M1 i lo n s fs sd v q' T (L + j)∧Lw M M1 i lo∧q'.wr=q.wr∧q'.tk=q.tk) [.str sF,.str sE,.str sR] 0 [some (.ref 1),some (.ref i),some F,some H,some a,some (.int p),some b,some (.int f),some (.int k),some t,x10] M ⟨x10,q,rfl,K,Lw.refl _ _ _,rfl,rfl⟩ (by
  rintro j x hx ρ M1 ⟨y10,q',rfl,K1,w1,h1,h2⟩;have hj:j < 3:=(List.getElem?_eq_some_iff.mp hx).1;have hx:=List.mem_of_getElem? hx
  obtain ⟨w,rfl,okw⟩:∃ w,x = .str w∧okW w:=by
   rcases List.mem_cons.mp hx with rfl | hx
   ·exact ⟨_,rfl,.inl rfl⟩
   rcases List.mem_cons.mp hx with rfl | hx
   ·exact ⟨_,rfl,.inr (.inl rfl)⟩
   ·rw [List.mem_singleton.mp hx];exact ⟨_,rfl,.inr (.inr rfl)⟩
  obtain ⟨M2,q2,e2,K2,w2,h3,h4⟩:=S3_24 (F:=F) K1 n8 (by omega) hH hf f0 f1 hk ht okw (some a) (some (.int p)) (some b)
  exact ⟨_,_,M2,rfl,e2,some (.str w),q2,rfl,K2,w1.trans w2,h3.trans h1,h4.trans h2⟩)
 subst hρ;refine ⟨some t,y10,M',q',?_,K',w',h1,h2⟩;unfold uT;refine jR et ?_;simp only [List.set_cons_succ,List.set_cons_zero];rw [xq jdW,e]
theorem S1_24 (K:K24 M i lo n s fs sd v q T L) (n8:n<=8) (hL:L<=700) (hH:H = .lst ((hon n fs).map PV.int)) {f:Int} (hf:f ∈ fs) (f0:0<=f) (f1:f < n) {a b:PV} (ha:VZ a) (hb:VZ b) (p:Int) (x8 x9 x10:Option PV) :
  ∃ y8 y9 y10 M' q',uU [some (.ref 1),some (.ref i),some F,some H,some a,some (.int p),some b,some (.int f),x8,x9,x10] M = .nx [some (.ref 1),some (.ref i),some F,some H,some a,some (.int p),some b,some (.int f),y8,y9,y10] M'∧K24 M' i lo n s fs sd v q' T (L + 24)∧Lw M M' i lo∧q'.wr=q.wr∧q'.tk=q.tk:=by
 have hnl:=ux n fs
 obtain ⟨ρ',M',e,y8,y9,y10,q',hρ,K',w',h1,h2⟩:=xX (g:=gN 8) (db:=uT) (fun j ρ M1=>∃ y8 y9 y10 q',ρ=[some (.ref 1),some (.ref i),some F,some H,some a,some (.int p),some b,some (.int f),y8,y9,y10]∧K24 M1 i lo n s fs sd v q' T (L + 3 * j)∧Lw M M1 i lo∧q'.wr=q.wr∧q'.tk=q.tk) (xS 0 (hon n fs).length) 0 [some (.ref 1),some (.ref i),some F,some H,some a,some (.int p),some b,some (.int f),x8,x9,x10] M ⟨x8,x9,x10,q,rfl,K,Lw.refl _ _ _,rfl,rfl⟩ (by
  rintro j x hx ρ M1 ⟨y8,y9,y10,q',rfl,K1,w1,h1,h2⟩;have hj:=(List.getElem?_eq_some_iff.mp hx).1;rw [xR] at hj;obtain ⟨k,hk,rfl⟩:=jfl (List.mem_of_getElem? hx);obtain ⟨z9,z10,M2,q2,e2,K2,w2,h3,h4⟩:=S2_24 (F:=F) K1 n8 (by omega) hH hf f0 f1 hk ha hb p y9 y10;refine ⟨_,_,M2,rfl,?_,some (.int k),z9,z10,q2,rfl,K2,w1.trans w2,h3.trans h1,h4.trans h2⟩;rw [Int.zero_add]
  exact e2)
 subst hρ;rw [xR] at K';refine ⟨y8,y9,y10,M',q',?_,K'.more (Nat.le_refl _) (by omega),w',h1,h2⟩;unfold uU;rw [xq (xs:=xS 0 (hon n fs).length) (M1:=M),e];have hs:vB ((hon n fs).length:Int)=true:=xa.mpr ⟨by omega,by omega⟩;have hl:dCB (one xD) (jb (ya 3) yb) [some (.ref 1),some (.ref i),some F,some H,some a,some (.int p),some b,some (.int f),x8,x9,x10] M = .ok (.int (hon n fs).length) M:=uw (x:=H) rfl (by rw [hH,xJ (x:=.lst _) rfl,List.length_map]);unfold vD;simp only [jp,hl,ju,Res.bind_ok,hs,if_true,Int.toNat_natCast]
theorem jgL (K:K24 M i lo n s fs sd v q T L) (n8:n<=8) (s2:s<=2) (fl:(fs.length:Int)<=s) (fb:∀ f ∈ fs,0<=f∧f < (n:Int)) (hL:L<=600) (hF:F = .lst (fs.map PV.int)) (hH:H = .lst ((hon n fs).map PV.int)) {c:Int} (c0:0<=c) (c1:c<=999) :
  ∃ M' q',VR [.ref 1,.ref i,F,H,.int c] M = .ok .non M'∧K24 M' i lo n s fs sd v q' T (L + 48)∧Lw M M' i lo∧q'.wr=q.wr∧q'.tk=q.tk:=by
 have hnl:=ux n fs;obtain ⟨p,M1,e1,p0,p1,T1,o1⟩:=yP K.tw (k:=((hon n fs).length:Int) + 1) (by omega) (by omega);obtain ⟨K1,w1⟩:=K.off o1 T1;obtain ⟨b,M2,e2,hb,T2,o2⟩:=Ul T1 (xs:=[.int 0,.int 1,.non]) (by simp) (show 3 < 1073741824 by decide);obtain ⟨K2,w2⟩:=K1.off o2 T2
 have hb:VZ b:=by
  rcases List.mem_cons.mp hb with rfl | hb
  ·exact .inr ⟨0,rfl,by omega,by omega⟩
  rcases List.mem_cons.mp hb with rfl | hb
  ·exact .inr ⟨1,rfl,by omega,by omega⟩
  ·exact .inl (List.mem_singleton.mp hb)
 have ha:VZ (.int c):=.inr ⟨c,rfl,c0,c1⟩
 obtain ⟨ρ',M',e,y7,y8,y9,y10,q',hρ,K',w',h1,h2⟩:=xX (g:=gN 7) (db:=uU) (fun j ρ M3=>∃ y7 y8 y9 y10 q',ρ=[some (.ref 1),some (.ref i),some F,some H,some (.int c),some (.int p),some b,y7,y8,y9,y10]∧K24 M3 i lo n s fs sd v q' T (L + 24 * j)∧Lw M2 M3 i lo∧q'.wr=q.wr∧q'.tk=q.tk) (fs.map PV.int) 0 [some (.ref 1),some (.ref i),some F,some H,some (.int c),some (.int p),some b,none,none,none,none] M2 ⟨none,none,none,none,q,rfl,K2,Lw.refl _ _ _,rfl,rfl⟩ (by
  rintro j x hx ρ M3 ⟨y7,y8,y9,y10,q',rfl,K3,w3,h1,h2⟩;have hj:=(List.getElem?_eq_some_iff.mp hx).1;rw [List.length_map] at hj;obtain ⟨f,hf,rfl⟩:=List.mem_map.mp (List.mem_of_getElem? hx);obtain ⟨z8,z9,z10,M4,q4,e4,K4,w4,h3,h4⟩:=S1_24 (F:=F) K3 n8 (by omega) hH hf (fb f hf).1 (fb f hf).2 ha hb p y8 y9 y10
  exact ⟨_,_,M4,rfl,e4,some (.int f),z8,z9,z10,q4,rfl,K4,w3.trans w4,h3.trans h1,h4.trans h2⟩)
 rw [List.length_map] at K';refine ⟨M',q',jil ?_,K'.more (Nat.le_refl _) (by omega),(w1.trans w2).trans w',h1,h2⟩;refine yI (ρ:=[some (.ref 1),some (.ref i),some F,some H,some (.int c),none,none,none,none,none,none]) (ρ':=ρ') rfl rfl ?_;unfold jiS;refine jR (v:=.int p) (M1:=M1) ?_ ?_
 ·have hl:dCB (one xD) (jb (ya 3) yb) [some (.ref 1),some (.ref i),some F,some H,some (.int c),none,none,none,none,none,none] M = .ok (.int (hon n fs).length) M:=uw (x:=H) rfl (by rw [hH,xJ (x:=.lst _) rfl,List.length_map]);have hl2:dOp JG (dCB (one xD) (jb (ya 3) yb)) (dC (.int 1)) [some (.ref 1),some (.ref i),some F,some H,some (.int c),none,none,none,none,none,none] M = .ok (.int ((hon n fs).length + 1)) M:=yk hl rfl rfl;rw [jT];simp only [jp,jz,jF,ju,Res.bind_ok,hl2];exact e1
 simp only [List.set_cons_succ,List.set_cons_zero];refine jR (v:=b) (M1:=M2) ?_ ?_
 ·have l1:yR (jb (dC (.int 0)) (jb (dC (.int 1)) (jb (dC .non) yb))) [some (.ref 1),some (.ref i),some F,some H,some (.int c),some (.int p),none,none,none,none,none] M1 = .ok (.lst [.int 0,.int 1,.non]) M1:=by
   rw [uc];simp only [jp,xA,ju,Res.bind_ok];exact if_pos (show (3:Nat)<=sizeLine by decide)
  rw [jT];simp only [jp,jz,jF,ju,Res.bind_ok,l1];exact e2
 simp only [List.set_cons_succ,List.set_cons_zero];rw [xq (xs:=fs.map PV.int) (M1:=M2) (by rw [hF]; rfl),e]
end

section
variable {M M':Sto} {i lo n:Nat} {s:Int} {fs:List Int} {sd v:Int} {q:Es} {T L:Nat} {F H:PV}
theorem act23 (K:K24 M i lo n s fs sd v q T L) (n8:n<=8) (hT:T<=1000) (hL:L<=900) (s0:0<=s) (s2:s<=2) (hs:3 * s < n) (fl:(fs.length:Int)<=s) (fb:∀ f ∈ fs,0<=f∧f < (n:Int)) (hF:F = .lst (fs.map PV.int)) (hH:H = .lst ((hon n fs).map PV.int)) (v0:0<=v) (v1:v<=999) {b:Bool} (x0 x3 x10 x11 x12 x13 x14:Option PV) :
  ∃ y12 M' q',(sIf (yJ (yd (dOp (eqG true) (ya 4) (yR yb))) (yJ (vz (xm (ya 9))) (yd (dOp (eqG false) (jo yx 2 0 [.p 0,.p 1] [] (jb (ya 1) (jb (dC (.int 2)) yb)) yb) (dC (.int 0)))))) (ye (yH 12 (jo yB 2 0 [.p 0,.p 1] [] (jb (ya 1) (jb (yR (jb (dC (.str "first")) (jb (dC (.str "echo")) (jb (dC (.str "echo")) (jb (dC (.str "ready")) yb))))) yb)) yb))
 (yi (yv 12 "lie" ul 5 0 [.p 0,.p 1,.p 2,.p 3,.p 4] [] (ya 7) (jb (jo yB 2 0 [.p 0,.p 1] [] (jb (ya 1) (jb (ya 4) yb)) yb) (jb (jo yB 2 0 [.p 0,.p 1] [] (jb (ya 1) (jb (ya 5) yb)) yb) (jb (ya 12) (jb (jo yB 2 0 [.p 0,.p 1] [] (jb (ya 1) (jb (yR (jb (ya 8) (jb (dC (.int 0)) (jb (dC (.int 1)) yb)))) yb)) yb) yb)))) yb))) (yi (jo vW 2 0 [.p 0,.p 1] [] (jb (ya 1) (jb (ya 7) yb)) yb))) [x0,some (.ref 1),some (.int s),x3,some F,some H,some (.int sd),some (.ref i),some (.int v),some (.bl b),x10,x11,x12,x13,x14] M = .nx [x0,some (.ref 1),some (.int s),x3,some F,some H,some (.int sd),some (.ref i),some (.int v),some (.bl b),x10,x11,y12,x13,x14] M'∧K24 M' i lo n s fs sd v q' (T + 1) (L + 1)∧Lw M M' i lo∧(∀ p ∈ q.wr,p ∈ q'.wr)∧(∀ p ∈ q.tk,p ∈ q'.tk):=by
 have hnl:=ux n fs
 obtain ⟨ρ,hρ⟩:∃ ρ:En,ρ=[x0,some (.ref 1),some (.int s),x3,some F,some H,some (.int sd),some (.ref i),some (.int v),some (.bl b),x10,x11,x12,x13,x14]:=⟨_,rfl⟩
 have t1:=jav (M:=M) (fs:=fs) (d:=ya 4) (ρ:=ρ) (by rw [hρ,hF]; rfl)
 -- a letter
 have lett:∀ M1,K24 M1 i lo n s fs sd v q T L->Lw M M1 i lo->∃ M' q',yi (jo vW 2 0 [.p 0,.p 1] [] (jb (ya 1) (jb (ya 7) yb)) yb) ρ M1 = .nx ρ M'∧K24 M' i lo n s fs sd v q' (T + 1) (L + 1)∧Lw M M' i lo∧(∀ p ∈ q.wr,p ∈ q'.wr)∧(∀ p ∈ q.tk,p ∈ q'.tk):=fun M1 K1 w1=>by
  have go:∀ {v:PV} {M2:Sto},vW [.ref 1,.ref i] M1 = .ok v M2->yi (jo vW 2 0 [.p 0,.p 1] [] (jb (ya 1) (jb (ya 7) yb)) yb) ρ M1 = .nx ρ M2:=fun {v M2} e=>yz (v:=v) (by rw [jT,hρ]; simp only [jp,jz,jF,ju,Res.bind_ok]; exact e)
  rcases jfr K1 n8 s0 s2 fl (by omega) (by omega) with ⟨h1,h2⟩ | ⟨k,t,M2,h1,h2,K2,w2⟩
  ·exact ⟨M1,q,go h2,K1.more (Nat.le_succ _) (Nat.le_succ _),w1,fun p hp=>hp,fun p hp=>hp⟩
  ·obtain ⟨_,_,m1,m2⟩:=jcz K.iv K.iw fl s0 h1;exact ⟨M2,_,go h2,K2.more (Nat.le_refl _) (Nat.le_succ _),w1.trans w2,m1,m2⟩
 have no:∀ M1,K24 M1 i lo n s fs sd v q T L->Lw M M1 i lo->yJ (yd (dOp (eqG true) (ya 4) (yR yb))) (yJ (vz (xm (ya 9))) (yd (dOp (eqG false) (jo yx 2 0 [.p 0,.p 1] [] (jb (ya 1) (jb (dC (.int 2)) yb)) yb) (dC (.int 0))))) ρ M = .ok false M1->∃ y12 M' q',(sIf (yJ (yd (dOp (eqG true) (ya 4) (yR yb))) (yJ (vz (xm (ya 9))) (yd (dOp (eqG false) (jo yx 2 0 [.p 0,.p 1] [] (jb (ya 1) (jb (dC (.int 2)) yb)) yb) (dC (.int 0)))))) (ye (yH 12 (jo yB 2 0 [.p 0,.p 1] [] (jb (ya 1) (jb (yR (jb (dC (.str "first")) (jb (dC (.str "echo")) (jb (dC (.str "echo")) (jb (dC (.str "ready")) yb))))) yb)) yb))
 (yi (yv 12 "lie" ul 5 0 [.p 0,.p 1,.p 2,.p 3,.p 4] [] (ya 7) (jb (jo yB 2 0 [.p 0,.p 1] [] (jb (ya 1) (jb (ya 4) yb)) yb) (jb (jo yB 2 0 [.p 0,.p 1] [] (jb (ya 1) (jb (ya 5) yb)) yb) (jb (ya 12) (jb (jo yB 2 0 [.p 0,.p 1] [] (jb (ya 1) (jb (yR (jb (ya 8) (jb (dC (.int 0)) (jb (dC (.int 1)) yb)))) yb)) yb) yb)))) yb))) (yi (jo vW 2 0 [.p 0,.p 1] [] (jb (ya 1) (jb (ya 7) yb)) yb))) ρ M = .nx [x0,some (.ref 1),some (.int s),x3,some F,some H,some (.int sd),some (.ref i),some (.int v),some (.bl b),x10,x11,y12,x13,x14] M'∧K24 M' i lo n s fs sd v q' (T + 1) (L + 1)∧Lw M M' i lo∧(∀ p ∈ q.wr,p ∈ q'.wr)∧(∀ p ∈ q.tk,p ∈ q'.tk):=fun M1 K1 w1 ht=>by
  obtain ⟨M',q',e',K',h⟩:=lett M1 K1 w1;refine ⟨x12,M',q',?_,K',h⟩;rw [<- hρ];exact jca ht e'
 rw [<- hρ]
 by_cases hE:fs=[]
 ·rw [decide_eq_true hE] at t1;refine no M K (Lw.refl _ _ _) ?_;unfold yJ;rw [t1];rfl
 rw [decide_eq_false hE] at t1
 have t9:vz (xm (ya 9)) ρ M = .ok (!b) M:=by
  rw [JR,vy,hρ];rfl
 cases b with
 | true =>
  refine no M K (Lw.refl _ _ _) ?_;unfold yJ;rw [t1];simp only [Res.bind_ok,Bool.not_false,if_true];rw [t9];rfl
 | false =>
  obtain ⟨d,M1,e1,d0,d1,T1,o1⟩:=yP K.tw (k:=2) (by decide) (by decide);obtain ⟨K1,w1⟩:=K.off o1 T1
  have t3:yJ (yd (dOp (eqG true) (ya 4) (yR yb))) (yJ (vz (xm (ya 9))) (yd (dOp (eqG false) (jo yx 2 0 [.p 0,.p 1] [] (jb (ya 1) (jb (dC (.int 2)) yb)) yb) (dC (.int 0))))) ρ M = .ok (decide (d=0)) M1:=by
   unfold yJ;rw [t1];simp only [Res.bind_ok,Bool.not_false,if_true];rw [t9];refine ym (yk (x:=.int d) (y:=.int 0) (M1:=M1) (by rw [jT,hρ]; simp only [jp,jz,jF,xA,ju,Res.bind_ok]; exact e1) rfl (by rw [Jp]; rfl))
  by_cases hd:d=0
  ·rw [decide_eq_true hd] at t3;obtain ⟨x,M2,e2,hx,T2,o2⟩:=Ul T1 (xs:=[.str sF,.str sE,.str sE,.str sR]) (by simp) (show 4 < 1073741824 by decide);obtain ⟨K2,w2⟩:=K1.off o2 T2
   obtain ⟨w,rfl,okw⟩:∃ w,x = .str w∧okW w:=by
    rcases List.mem_cons.mp hx with rfl | hx
    ·exact ⟨_,rfl,.inl rfl⟩
    rcases List.mem_cons.mp hx with rfl | hx
    ·exact ⟨_,rfl,.inr (.inl rfl)⟩
    rcases List.mem_cons.mp hx with rfl | hx
    ·exact ⟨_,rfl,.inr (.inl rfl)⟩
    ·rw [List.mem_singleton.mp hx];exact ⟨_,rfl,.inr (.inr rfl)⟩
   obtain ⟨f,M3,e3,hf,T3,o3⟩:=Yo T2 hE (by omega);obtain ⟨K3,w3⟩:=K2.off o3 T3;obtain ⟨h,M4,e4,hh,T4',o4⟩:=Yo T3 (l:=hon n fs) (jfC (by omega)) (by omega);obtain ⟨K4,w4⟩:=K3.off o4 T4';obtain ⟨c,M5,e5,hc,T5,o5⟩:=Yo T4' (l:=[v,0,1]) (by simp) (show 3<=1000 by decide);obtain ⟨K5,w5⟩:=K4.off o5 T5
   obtain ⟨c0,c1⟩:0<=c∧c<=999:=by
    simp only [List.mem_cons,List.mem_nil_iff,or_false] at hc
    rcases hc with rfl | rfl | rfl <;> omega
   obtain ⟨M6,e6,K6,w6⟩:=jiB K5 n8 (by omega) hf (fb f hf).1 (fb f hf).2 hh okw c0 c1;refine ⟨some (.str w),M6,_,Yg t3 ?_,K6.more (Nat.le_succ _) (Nat.le_refl _),((((w1.trans w2).trans w3).trans w4).trans w5).trans w6,fun p hp=>hp,fun p hp=>hp⟩
   obtain ⟨ρ2,hρ2⟩:∃ ρ:En,ρ=[x0,some (.ref 1),some (.int s),x3,some F,some H,some (.int sd),some (.ref i),some (.int v),some (.bl false),x10,x11,some (.str w),x13,x14]:=⟨_,rfl⟩
   refine jR (v:=.str w) (M1:=M2) ?_ ?_
   ·have l1:yR (jb (dC (.str "first")) (jb (dC (.str "echo")) (jb (dC (.str "echo")) (jb (dC (.str "ready")) yb)))) ρ M1 = .ok (.lst [.str sF,.str sE,.str sE,.str sR]) M1:=by
     rw [uc];simp only [jp,xA,ju,Res.bind_ok];exact if_pos (show (4:Nat)<=sizeLine by decide)
    rw [jT,hρ] at *
    simp only [jp,jz,jF,ju,Res.bind_ok,l1];exact e2
   rw [hρ];simp only [List.set_cons_succ,List.set_cons_zero];rw [<- hρ2];refine yz (v:=.non) ?_;obtain ⟨es,gs,P,hg⟩:=K2.pu;rw [P.mth (xs:=[.int f,.int h,.str w,.int c]) (zs:=[]) (M1:=M5) (M2:=M5) (by rw [hρ2]; rfl) rfl ?_ rfl]
   ·exact e6
   have p1:jo yB 2 0 [.p 0,.p 1] [] (jb (ya 1) (jb (ya 4) yb)) yb ρ2 M2 = .ok (.int f) M3:=by
    rw [jT,hρ2];simp only [jp,jz,jF,ju,Res.bind_ok];rw [hF];exact e3
   have p2:jo yB 2 0 [.p 0,.p 1] [] (jb (ya 1) (jb (ya 5) yb)) yb ρ2 M3 = .ok (.int h) M4:=by
    rw [jT,hρ2];simp only [jp,jz,jF,ju,Res.bind_ok];rw [hH];exact e4
   have l2:yR (jb (ya 8) (jb (dC (.int 0)) (jb (dC (.int 1)) yb))) ρ2 M4 = .ok (.lst [.int v,.int 0,.int 1]) M4:=by
    rw [uc,hρ2];simp only [jp,jz,jF,xA,ju,Res.bind_ok];exact if_pos (show (3:Nat)<=sizeLine by decide)
   have p3:jo yB 2 0 [.p 0,.p 1] [] (jb (ya 1) (jb (yR (jb (ya 8) (jb (dC (.int 0)) (jb (dC (.int 1)) yb)))) yb)) yb ρ2 M4 = .ok (.int c) M5:=by
    rw [jT,jp,show ya 1 ρ2 M4 = .ok (.ref 1) M4 by rw [hρ2]; rfl];simp only [jp,ju,Res.bind_ok,l2];exact e5
   rw [jp,p1];simp only [Res.bind_ok];rw [jp,p2];simp only [Res.bind_ok];rw [jp,show ya 12 ρ2 M4 = .ok (.str w) M4 by rw [hρ2]; rfl];simp only [Res.bind_ok];rw [jp,p3];rfl
  ·rw [decide_eq_false hd] at t3;exact no M1 K1 w1 t3
end

structure Tk (n:Nat) (fs:List Int) (q:Es) (tl:List (Int × Int)):Prop where
 kn:(tl.map (·.1)).Nodup
 so:∀ p ∈ tl,p.1 ∈ hon n fs∧yw q p.1=some p.2
theorem jhh {tl:List (Int × Int)} {h c:Int} (hc:∀ p ∈ tl,p.1=h->p.2=c):xV (tl.map kt) h (.int c)=(if h ∈ tl.map (·.1) then tl else tl ++ [(h,c)]).map kt:=by
 unfold xV
 by_cases hm:h ∈ tl.map (·.1)
 ·have h1:((tl.map kt).any fun p=>decide (p.1=h))=true:=by
   obtain ⟨p,hp,e⟩:=List.mem_map.mp hm;exact List.any_eq_true.mpr ⟨kt p,List.mem_map.mpr ⟨p,hp,rfl⟩,decide_eq_true e⟩
  rw [if_pos h1,if_pos hm]
  have:∀ x ∈ tl.map kt,(if x.1=h then (x.1,PV.int c) else x)=x:=fun x hx=>by
   obtain ⟨p,hp,rfl⟩:=List.mem_map.mp hx;split
   ·rename_i e
    show (p.1,PV.int c)=(p.1,PV.int p.2)
    rw [hc p hp e]
   ·rfl
  rw [List.map_congr_left this,List.map_id']
 ·have h1:((tl.map kt).any fun p=>decide (p.1=h))=false:=by
   rw [List.any_eq_false];intro x hx e;obtain ⟨p,hp,rfl⟩:=List.mem_map.mp hx;exact hm (List.mem_map.mpr ⟨p,hp,of_decide_eq_true e⟩)
  rw [h1,if_neg hm,List.map_append];rfl
theorem jgF {q:Es} (kn:(q.tk.map (·.1)).Nodup) {h c:Int} (hp:(h,c) ∈ q.tk):yw q h=some c:=by
 obtain ⟨c',hc'⟩:=jgE (q:=q) (h:=h) (List.mem_map.mpr ⟨_,hp,rfl⟩);have h2:=xP hc';rw [hc'];obtain ⟨a,ha,e1⟩:=List.getElem_of_mem hp;obtain ⟨b,hb,e2⟩:=List.getElem_of_mem h2
 have:a=b:=by
  refine Classical.byContradiction fun z=>?_
  have p:∀ x y (hx:x < q.tk.length) (hy:y < q.tk.length),x < y->q.tk[x].1≠q.tk[y].1:=fun x y hx hy hxy=>by
   have:=List.pairwise_iff_getElem.mp kn x y (by rw [List.length_map]; exact hx) (by rw [List.length_map]; exact hy) hxy
   rw [List.getElem_map,List.getElem_map] at this;exact this
  rcases Nat.lt_or_gt_of_ne z with z | z
  ·exact p a b ha hb z (by rw [e1,e2])
  ·exact p b a hb ha z (by rw [e1,e2])
 subst this;rw [e1] at e2
 injection e2 with _ e
 rw [e]
theorem Tk.up {n:Nat} {fs:List Int} {q q':Es} {tl:List (Int × Int)} (D:Tk n fs q tl) (kn:(q'.tk.map (·.1)).Nodup) (hk:∀ p ∈ q.tk,p ∈ q'.tk):Tk n fs q' tl:=⟨D.kn,fun p hp=>⟨(D.so p hp).1,jgF kn (hk _ (xP (D.so p hp).2))⟩⟩
section
variable {M M':Sto} {i j n:Nat} {s:Int} {fs:List Int} {sd v:Int} {q:Es} {T L:Nat} {F H:PV}
theorem K24.setj (K:K24 M i (j + 1) n s fs sd v q T L) (hj:i + 5<=j) (c:Cell):K24 (M.set j c) i (j + 1) n s fs sd v q T L:=by
 obtain ⟨es,gs,P,hg⟩:=K.pu
 have:=K.i2
 exact ⟨jbV K.tw (Sto.set_ne (by omega)) (Sto.set_ne (by omega)) (Nat.le_refl _),⟨es,gs,P.off (Nat.le_refl _) fun k hk=>Sto.set_ne (by omega),hg⟩,K.i2,K.iv,K.iw,K.lg,K.lk,K.ll⟩
theorem eq_bl {a b:Bool}:eqG true M (.bl a) (.bl b)=some (.bl (a != b)):=by
 cases a <;> cases b <;> rfl
theorem stage3 (q:Es) (h:Int):(uI q h == 3)=(yw q h).isSome:=by
 rw [vY];unfold uI
 by_cases c:h ∈ q.tk.map (·.1)
 ·rw [if_pos c,decide_eq_true c];rfl
 ·rw [if_neg c,decide_eq_false c];split
  ·rfl
  ·split <;> rfl
theorem in_two {x:PV} (h:x = .non∨x = .int v):gIn true M x (.tup [.non,.int v])=some (.bl false):=by
 rcases h with rfl | rfl
 ·rfl
 ·unfold gIn;show (if _ then some (PV.bl (!([PV.non,PV.int v].any fun z=>eqB z (.int v)))) else none)=_;rw [if_pos ⟨rfl,rfl,rfl⟩]
  have:([PV.non,PV.int v].any fun z=>eqB z (.int v))=true:=List.any_eq_true.mpr ⟨.int v,by simp,by show (v == v)=true; exact beq_self_eq_true v⟩
  rw [this];rfl
theorem jhU {tl:List (Int × Int)} (K:K24 M i (j + 1) n s fs sd v q T L) (n8:n<=8) (s0:0<=s) (hs:3 * s < n) (fl:(fs.length:Int)<=s) (hj:i + 5<=j) (hd:M.g j=some (.dkv (tl.map kt))) (D:Tk n fs q tl) (hF:F = .lst (fs.map PV.int)) {h:Int} (hh:h ∈ hon n fs) (x0 x2 x3 x5 x9 x11 x12 x14:Option PV) :
  ∃ y14 M' tl',vT [x0,some (.ref 1),x2,x3,some F,x5,some (.int sd),some (.ref i),some (.int v),x9,some (.ref j),x11,x12,some (.int h),x14] M = .nx [x0,some (.ref 1),x2,x3,some F,x5,some (.int sd),some (.ref i),some (.int v),x9,some (.ref j),x11,x12,some (.int h),y14] M'∧K24 M' i (j + 1) n s fs sd v q T L∧M'.g j=some (.dkv (tl'.map kt))∧Tk n fs q tl':=by
 obtain ⟨es,gs,P,hg⟩:=K.pu
 have hln:tl.length<=8:=by
  have:=xb (tl.map (·.1)) (hon n fs) D.kn fun x hx=>by
   obtain ⟨p,hp,rfl⟩:=List.mem_map.mp hx;exact (D.so p hp).1
  have:=ux n fs
  rw [List.length_map] at *
  omega
 obtain ⟨t,ht⟩:∃ t,t=((yw q h).map PV.int).getD .non:=⟨_,rfl⟩
 obtain ⟨ρ,hρ⟩:∃ ρ:En,ρ=[x0,some (.ref 1),x2,x3,some F,x5,some (.int sd),some (.ref i),some (.int v),x9,some (.ref j),x11,x12,some (.int h),some t]:=⟨_,rfl⟩
 have v14:∀ M,ya 14 ρ M = .ok t M:=fun M=>by rw [hρ]; rfl
 have v13:∀ M,ya 13 ρ M = .ok (.int h) M:=fun M=>by rw [hρ]; rfl
 have v10:∀ M,ya 10 ρ M = .ok (.ref j) M:=fun M=>by rw [hρ]; rfl
 obtain ⟨q0,hq0⟩:∃ q0:Es,q0=⟨[],[],tl,[]⟩:=⟨_,rfl⟩
 have ek:q0.tk=tl:=by rw [hq0]
 have g0:yO (tl.map kt) h=(yw q0 h).map PV.int:=by rw [YC]; unfold yw; rw [ek]
 have so0:∀ c,yw q0 h=some c->yw q h=some c:=fun c e=>by
  have:=xP e
  rw [ek] at this;exact (D.so _ this).2
 have tIn:yd (dOp (Xb false) (ya 13) (ya 10)) ρ M = .ok (yw q0 h).isSome M:=by
  refine ym (yk (v13 M) (v10 M) ?_);unfold Xb;simp only [hd];rw [g0,Option.isSome_map];rfl
 have tN:∀ M,dOp vQ (ya 14) (dC .non) ρ M = .ok (.bl (yw q h).isSome) M:=fun M=>yk (v14 M) (y:=.non) rfl (by
  rw [ht]
  cases yw q h with
  | none=>rfl
  | some c=>rfl)
 have c1:dOr (yJ (yd (dOp (Xb false) (ya 13) (ya 10))) (yd (dOp (eqG true) (ya 14) (jid (ya 10) (ya 13))))) (yJ (yd (dOp vQ (ya 14) (dC .non))) (vz (xm (jo JD 1 0 [.p 0] [] (jb (ya 14) yb) yb)))) ρ M = .ok false M:=by
  refine jfc ?_ ?_
  ·unfold yJ;rw [tIn]
   cases e0:yw q0 h with
   | none=>rfl
   | some c =>
    simp only [Res.bind_ok,Option.isSome_some,if_true]
    have et:t = .int c:=by rw [ht,so0 c e0]; rfl
    refine ym (yk (v14 M) (y:=.int c) ?_ (by rw [et,ne_len,beq_self_eq_true]; rfl));unfold jid;rw [v10];simp only [Res.bind_ok];rw [v13];simp only [Res.bind_ok,hd,g0,e0];rfl
  ·unfold yJ;rw [ym (tN M)]
   cases e1:yw q h with
   | none=>rfl
   | some c =>
    simp only [Res.bind_ok,Option.isSome_some,if_true]
    have et:t = .int c:=by rw [ht,e1]; rfl
    rw [JR,vy,jT,yK (v14 M)];simp only [ju,Res.bind_ok];rw [et,show JD (yo 1 0 [Sl.p 0] [] [PV.int c] []) M=_ from Uu (Kd.int c)];rfl
 have tS:∀ M,yd (dOp (gIn true) (ya 6) (ya 4)) ρ M = .ok (!decide (sd ∈ fs)) M:=fun M=>ym (yk (x:=.int sd) (y:=F) (by rw [hρ]; rfl) (by rw [hρ]; rfl) (xx (neg:=true) (by rw [hF]; rfl)))
 have c3:∀ {M'},K24 M' i (j + 1) n s fs sd v q T L->dOr (yd (dOp (eqG true) (dOp vQ (ya 14) (dC .non)) (dOp (eqG false) (yv 12 "stage" VQ 2 0 [.p 0,.p 1] [] (ya 7) (jb (ya 13) yb) yb) (dC (.int 3))))) (yJ (yd (dOp (gIn true) (ya 6) (ya 4))) (yd (dOp (gIn true) (ya 14) (vU (jb (dC .non) (jb (ya 8) yb)))))) ρ M' = .ok false M':=fun {M'} K'=>by
  obtain ⟨es',gs',P',_⟩:=K'.pu;refine jfc ?_ ?_
  ·refine ym (yk (tN M') (y:=.bl (yw q h).isSome) (M2:=M') ?_ ?_)
   ·refine yk (x:=.int (uI q h)) (y:=.int 3) (M1:=M') ?_ rfl (by rw [Jp,stage3]);rw [P'.mth (xs:=[.int h]) (zs:=[]) (M1:=M') (M2:=M') (by rw [hρ]; rfl) rfl (yK (v13 M')) rfl];exact jgK P' hh
   ·rw [eq_bl,bne_self_eq_false]
  ·unfold yJ;rw [tS]
   by_cases hd:sd ∈ fs
   ·rw [decide_eq_true hd];rfl
   ·rw [decide_eq_false hd];simp only [Res.bind_ok,Bool.not_false,if_true];refine ym (yk (v14 M') (y:=.tup [.non,.int v]) (M2:=M') ?_ (in_two ?_))
    ·rw [JQ,jp];simp only [xA,Res.bind_ok];rw [yK (show ya 8 ρ M' = .ok (.int v) M' by rw [hρ]; rfl)];simp only [Res.bind_ok];exact if_pos (show (2:Nat)<=sizeLine by decide)
    ·rw [ht]
     cases e1:yw q h with
     | none=>exact .inl rfl
     | some c =>
      rw [jgG K.iv fl s0 hs hd (xP e1)];exact .inr rfl
 have fin_:∀ {M':Sto} {tl':List (Int × Int)},K24 M' i (j + 1) n s fs sd v q T L->M'.g j=some (.dkv (tl'.map kt))->Tk n fs q tl'->sIf (yd (dOp vQ (ya 14) (dC .non))) (Ji (ya 14) (ya 10) (ya 13)) yp ρ M = .nx ρ M' ->
   ∃ y14 M' tl',vT [x0,some (.ref 1),x2,x3,some F,x5,some (.int sd),some (.ref i),some (.int v),x9,some (.ref j),x11,x12,some (.int h),x14] M = .nx [x0,some (.ref 1),x2,x3,some F,x5,some (.int sd),some (.ref i),some (.int v),x9,some (.ref j),x11,x12,some (.int h),y14] M'∧K24 M' i (j + 1) n s fs sd v q T L∧M'.g j=some (.dkv (tl'.map kt))∧Tk n fs q tl':=fun {M' tl'} K' hd' D' e=>by
  refine ⟨some t,M',tl',?_,K',hd',D'⟩;unfold vT;refine jR (v:=t) (M1:=M) ?_ ?_
  ·rw [P.mth (xs:=[.int h]) (zs:=[]) (M1:=M) (M2:=M) rfl rfl rfl rfl,ht];exact took_p P hh
  simp only [List.set_cons_succ,List.set_cons_zero];rw [<- hρ];refine xW (M1:=M) c1 ?_;refine jej e ?_;exact vo (c3 K')
 cases e1:yw q h with
 | none =>
  refine fin_ K hd D (jca (M1:=M) ?_ rfl);rw [ym (tN M),e1];rfl
 | some c =>
  have et:t = .int c:=by rw [ht,e1]; rfl
  have hc:∀ p ∈ tl,p.1=h->p.2=c:=fun p hp e=>by
   have:=(D.so p hp).2
   rw [e,e1] at this;exact (Option.some.inj this).symm
  have hput:uO M (.ref j) (.int h) (.int c)=some (M.set j (.dkv ((if h ∈ tl.map (·.1) then tl else tl ++ [(h,c)]).map kt))):=by
   unfold uO;simp only [hd];rw [if_pos (by rw [List.length_map]; exact szB (by omega)),jhh hc]
  refine fin_ (tl':=if h ∈ tl.map (·.1) then tl else tl ++ [(h,c)]) (K.setj hj _) Sto.set_same ?_ (Yg (M1:=M) (by rw [ym (tN M),e1]; rfl) ?_)
  ·by_cases hm:h ∈ tl.map (·.1)
   ·rw [if_pos hm];exact D
   ·rw [if_neg hm];refine ⟨?_,fun p hp=>?_⟩
    ·rw [List.map_append];exact xu D.kn hm
    ·rcases List.mem_append.mp hp with hp | hp
     ·exact D.so p hp
     ·rw [List.mem_singleton.mp hp];exact ⟨hh,e1⟩
  ·unfold Ji;rw [v14];simp only [Res.st_ok];rw [v10];simp only [Res.st_ok];rw [v13];simp only [Res.st_ok,et,hput]
theorem turn23 {tl:List (Int × Int)} (K:K24 M i (j + 1) n s fs sd v q T L) (n8:n<=8) (hT:T<=1000) (hL:L<=900) (s0:0<=s) (s2:s<=2) (hs:3 * s < n) (fl:(fs.length:Int)<=s) (fb:∀ f ∈ fs,0<=f∧f < (n:Int)) (hj:i + 5<=j) (hd:M.g j=some (.dkv (tl.map kt))) (D:Tk n fs q tl) (hF:F = .lst (fs.map PV.int)) (hH:H = .lst ((hon n fs).map PV.int)) (v0:0<=v) (v1:v<=999) {b:Bool} (x0 x3 x11 x12 x13 x14:Option PV) :
  ∃ y12 y13 y14 M' q' tl',uW [x0,some (.ref 1),some (.int s),x3,some F,some H,some (.int sd),some (.ref i),some (.int v),some (.bl b),some (.ref j),x11,x12,x13,x14] M = .nx [x0,some (.ref 1),some (.int s),x3,some F,some H,some (.int sd),some (.ref i),some (.int v),some (.bl b),some (.ref j),x11,y12,y13,y14] M'∧K24 M' i (j + 1) n s fs sd v q' (T + 1) (L + 1)∧M'.g j=some (.dkv (tl'.map kt))∧Tk n fs q' tl':=by
 obtain ⟨y12,M1,q1,e1,K1,w1,m1,m2⟩:=act23 K n8 hT hL s0 s2 hs fl fb hF hH v0 v1 (b:=b) x0 x3 (some (.ref j)) x11 x12 x13 x14
 have hd1:M1.g j=some (.dkv (tl.map kt)):=by rw [w1.g j hj (Nat.lt_succ_self _)]; exact hd
 have D1:=D.up K1.iv.kn m2
 obtain ⟨ρ',M2,e2,y13,y14,tl2,hρ,K2,hd2,D2⟩:=Vl (g:=gN 13) (db:=vT) (fun ρ M=>∃ y13 y14 tl',ρ=[x0,some (.ref 1),some (.int s),x3,some F,some H,some (.int sd),some (.ref i),some (.int v),some (.bl b),some (.ref j),x11,y12,y13,y14]∧K24 M i (j + 1) n s fs sd v q1 (T + 1) (L + 1)∧M.g j=some (.dkv (tl'.map kt))∧Tk n fs q1 tl') ((hon n fs).map PV.int) [x0,some (.ref 1),some (.int s),x3,some F,some H,some (.int sd),some (.ref i),some (.int v),some (.bl b),some (.ref j),x11,y12,x13,x14] M1 ⟨x13,x14,tl,rfl,K1,hd1,D1⟩ (by
  rintro x hx ρ M ⟨y13,y14,tl',rfl,K',hd',D'⟩;obtain ⟨h,hh,rfl⟩:=List.mem_map.mp hx;obtain ⟨z14,M3,tl3,e3,K3,hd3,D3⟩:=jhU K' n8 s0 hs fl hj hd' D' hF hh x0 (some (.int s)) x3 (some H) (some (.bl b)) x11 y12 y14
  exact ⟨_,_,M3,rfl,e3,some (.int h),z14,tl3,rfl,K3,hd3,D3⟩)
 subst hρ;refine ⟨y12,y13,y14,M2,q1,tl2,?_,K2,hd2,D2⟩;unfold uW;refine jej e1 ?_;rw [xq (xs:=(hon n fs).map PV.int) (M1:=M1) (by rw [hH]; rfl),e2]
end

theorem law_true (ns:List Int) (hl:ns.length<=63):∃ M',yu 1 15 jaF [.scr ns] ⟨0,fun _=>none⟩ = .ok (.bl true) M':=by
 show Tru (jaF [some (.scr ns),none,none,none,none,none,none,none,none,none,none,none,none,none,none] ⟨0,fun _=>none⟩);obtain ⟨M1,e1,T1,n1⟩:=jgD ns;obtain ⟨s,n,fs,M2,e2,s0,s2,hs,n8,fl,fb,pw,T2,o2⟩:=jig T1;have hnl:=ux n fs
 obtain ⟨F,hF⟩:∃ F,F=PV.lst (fs.map PV.int):=⟨_,rfl⟩
 obtain ⟨H,hH⟩:∃ F,F=PV.lst ((hon n fs).map PV.int):=⟨_,rfl⟩
 unfold jaF;refine Jo (v:=.ref 1) (M1:=M1) (by simpa [yo,gen] using e1) ?_;simp only [List.set_cons_succ,List.set_cons_zero];refine go_asg (v:=.tup [.int s,.int n,F,H]) (M1:=M2) (ρ':=[some (.scr ns),some (.ref 1),some (.int s),some (.int n),some F,some H,none,none,none,none,none,none,none,none,none]) ?_ rfl ?_
 ·rw [jT];simp only [jp,jz,jF,ju,Res.bind_ok];rw [hF,hH];exact e2
 -- who sends
 obtain ⟨sd,M3,e3,d0,d1,T3⟩:∃ sd M3,dIf (yJ (yd (dOp (eqG true) (ya 4) (yR yb))) (yd (dOp (eqG false) (jo yx 2 0 [.p 0,.p 1] [] (jb (ya 1) (jb (dC (.int 2)) yb)) yb) (dC (.int 0))))) (jo yB 2 0 [.p 0,.p 1] [] (jb (ya 1) (jb (ya 4) yb)) yb) (jo yx 2 0 [.p 0,.p 1] [] (jb (ya 1) (jb (ya 3) yb)) yb) [some (.scr ns),some (.ref 1),some (.int s),some (.int n),some F,some H,none,none,none,none,none,none,none,none,none] M2 = .ok (.int sd) M3∧0<=sd∧sd < (n:Int)∧Tw M3:=by
  obtain ⟨ρ,hρ⟩:∃ ρ:En,ρ=[some (.scr ns),some (.ref 1),some (.int s),some (.int n),some F,some H,none,none,none,none,none,none,none,none,none]:=⟨_,rfl⟩
  rw [<- hρ];have t1:=jav (M:=M2) (fs:=fs) (d:=ya 4) (ρ:=ρ) (by rw [hρ,hF]; rfl)
  have dr:∀ {Ma:Sto},Tw Ma->∃ sd Mb,jo yx 2 0 [.p 0,.p 1] [] (jb (ya 1) (jb (ya 3) yb)) yb ρ Ma = .ok (.int sd) Mb∧0<=sd∧sd < (n:Int)∧Tw Mb:=fun {Ma} Ta=>by
   obtain ⟨sd,Mb,eb,b0,b1,Tb,_⟩:=yP Ta (k:=(n:Int)) (by omega) (by omega);refine ⟨sd,Mb,?_,b0,b1,Tb⟩;rw [jT,hρ];simp only [jp,jz,jF,ju,Res.bind_ok];exact eb
  by_cases hE:fs=[]
  ·rw [decide_eq_true hE] at t1;obtain ⟨sd,Mb,eb,b0,b1,Tb⟩:=dr T2;refine ⟨sd,Mb,?_,b0,b1,Tb⟩
   have:yJ (yd (dOp (eqG true) (ya 4) (yR yb))) (yd (dOp (eqG false) (jo yx 2 0 [.p 0,.p 1] [] (jb (ya 1) (jb (dC (.int 2)) yb)) yb) (dC (.int 0)))) ρ M2 = .ok false M2:=by
    unfold yJ;rw [t1];rfl
   rw [vV,this];exact eb
  ·rw [decide_eq_false hE] at t1;obtain ⟨x,Ma,ea,_,_,Ta,_⟩:=yP T2 (k:=2) (by decide) (by decide)
   have tA:yJ (yd (dOp (eqG true) (ya 4) (yR yb))) (yd (dOp (eqG false) (jo yx 2 0 [.p 0,.p 1] [] (jb (ya 1) (jb (dC (.int 2)) yb)) yb) (dC (.int 0)))) ρ M2 = .ok (x == 0) Ma:=by
    unfold yJ;rw [t1];show yd _ ρ M2=_;refine ym (yk (x:=.int x) (M1:=Ma) ?_ (y:=.int 0) rfl Jp);rw [jT,hρ];simp only [jp,jz,jF,xA,ju,Res.bind_ok];exact ea
   cases hx:(x == 0) with
   | true =>
    rw [hx] at tA;obtain ⟨f,Mb,eb,hf,Tb,_⟩:=Yo Ta hE (by omega);refine ⟨f,Mb,?_,(fb f hf).1,(fb f hf).2,Tb⟩;rw [vV,tA];show jo _ _ _ _ _ _ _ ρ Ma=_;rw [jT,hρ];simp only [jp,jz,jF,ju,Res.bind_ok];rw [hF];exact eb
   | false =>
    rw [hx] at tA;obtain ⟨sd,Mb,eb,b0,b1,Tb⟩:=dr Ta;refine ⟨sd,Mb,?_,b0,b1,Tb⟩;rw [vV,tA];exact eb
 refine Jo (v:=.int sd) (M1:=M3) e3 ?_;simp only [List.set_cons_succ,List.set_cons_zero];obtain ⟨M4,e4,n4,P4,g4⟩:=jfS (M:=M3) (n:=n) (s:=s) (fs:=fs) (sd:=sd) (by omega) (by omega) s0 (by omega) hs pw fb fl d0 d1
 obtain ⟨i,hi⟩:∃ i,i=M3.n:=⟨_,rfl⟩
 rw [<- hi] at e4 n4 P4 g4
 have i2:2<=i:=by rw [hi]; obtain ⟨_,_,t⟩:=T3; exact t.n
 refine Jo (v:=.ref i) (M1:=M4) ?_ ?_
 ·have tz:yd (dOp (eqG false) (ya 6) (dC (.int 0))) [some (.scr ns),some (.ref 1),some (.int s),some (.int n),some F,some H,some (.int sd),none,none,none,none,none,none,none,none] M3 = .ok (sd == 0) M3:=ym (yk (x:=.int sd) (y:=.int 0) rfl rfl Jp)
  cases hz:(sd == 0) with
  | true =>
   rw [hz] at tz;rw [vV,tz];simp only [Res.bind_ok,if_true];unfold jbF;simp only [jp,jz,jF,ju,Res.bind_ok]
   have:sd=0:=beq_iff_eq.mp hz
   rw [this] at e4;rw [hF];exact e4
  | false =>
   rw [hz] at tz;rw [vV,tz];simp only [Res.bind_ok,Bool.false_eq_true,if_false];unfold jbF;simp only [jp,jz,jF,ju,Res.bind_ok];rw [hF];exact e4
 simp only [List.set_cons_succ,List.set_cons_zero];have T4:Tw M4:=jbV T3 (g4 0 (by omega)) (g4 1 (by omega)) (by rw [n4,<- hi]; omega);obtain ⟨v,M5,e5,v0,v1,T5,o5⟩:=yP T4 (k:=1000) (by decide) (by decide);refine Jo (v:=.int v) (M1:=M5) ?_ ?_
 ·rw [jT];simp only [jp,jz,jF,xA,ju,Res.bind_ok];exact e5
 simp only [List.set_cons_succ,List.set_cons_zero];obtain ⟨ev,ew⟩:=ev0 (n:=n) (fs:=fs) (s:=s) (sd:=sd) (v:=v) s0
 have K4:K24 M4 i (i + 5) n s fs sd v ⟨[],[],[],[]⟩ 0 0:=⟨T4,⟨[],[],P4,Nat.zero_le _⟩,i2,ev,ew,Nat.zero_le _,Nat.zero_le _,Nat.zero_le _⟩
 obtain ⟨K5,_⟩:=K4.off o5 T5;obtain ⟨x,M6,e6,x0',x1',T6,o6⟩:=yP T5 (k:=2) (by decide) (by decide);obtain ⟨K6,_⟩:=K5.off o6 T6
 obtain ⟨b,hb⟩:∃ b,b=(x == 0):=⟨_,rfl⟩
 refine Jo (v:=.bl b) (M1:=M6) ?_ ?_
 ·rw [hb];refine yk (x:=.int x) (M1:=M6) ?_ (y:=.int 0) rfl Jp;rw [jT];simp only [jp,jz,jF,xA,ju,Res.bind_ok];exact e6
 simp only [List.set_cons_succ,List.set_cons_zero]
 obtain ⟨ρ,hρ⟩:∃ ρ:En,ρ=[some (.scr ns),some (.ref 1),some (.int s),some (.int n),some F,some H,some (.int sd),some (.ref i),some (.int v),some (.bl b),none,none,none,none,none]:=⟨_,rfl⟩
 rw [<- hρ]
 have br:∀ {bb:Bool} {Ma Mb Mc:Sto} {A:DS} {t:DT} {kk:DS},t ρ Ma = .ok bb Mb->(if bb=true then A else yp) ρ Mb = .nx ρ Mc->Tru (kk ρ Mc)->Tru (ye (sIf t A yp) kk ρ Ma):=fun {bb Ma Mb Mc A t kk} h1 h2 h3=>by
  unfold Tru at h3 ⊢;rw [Vg (k:=rfl) (c:=kk) h1 h2];exact h3
 -- the liars VZ the one this,the others that
 obtain ⟨M7,q7,e7,K7,w7⟩:∃ M7 q7,(if b=true then yi (jo VR 5 0 [.p 0,.p 1,.p 2,.p 3,.p 4] [] (jb (ya 1) (jb (ya 7) (jb (ya 4) (jb (ya 5) (jb (jo yB 2 0 [.p 0,.p 1] [] (jb (ya 1) (jb (yR (jb (ya 8) (jb (dC (.int 7)) yb))) yb)) yb) yb))))) yb) else yp) ρ M6 = .nx ρ M7∧K24 M7 i (i + 5) n s fs sd v q7 0 48∧q7.wr=[]:=by
  cases b with
  | false=>exact ⟨M6,_,rfl,K6.more (Nat.le_refl _) (by omega),rfl⟩
  | true =>
   obtain ⟨c,Ma,ea,hc,Ta,oa⟩:=Yo T6 (l:=[v,7]) (by simp) (show 2<=1000 by decide);obtain ⟨Ka,_⟩:=K6.off oa Ta
   obtain ⟨c0,c1⟩:0<=c∧c<=999:=by
    simp only [List.mem_cons,List.mem_nil_iff,or_false] at hc
    rcases hc with rfl | rfl <;> omega
   obtain ⟨Mb,qb,eb,Kb,_,wb,_⟩:=jgL Ka n8 s2 fl fb (by omega) hF hH c0 c1;refine ⟨Mb,qb,?_,Kb,wb⟩
   have l2:yR (jb (ya 8) (jb (dC (.int 7)) yb)) ρ M6 = .ok (.lst [.int v,.int 7]) M6:=by
    rw [uc,hρ];simp only [jp,jz,jF,xA,ju,Res.bind_ok];exact if_pos (show (2:Nat)<=sizeLine by decide)
   have p3:jo yB 2 0 [.p 0,.p 1] [] (jb (ya 1) (jb (yR (jb (ya 8) (jb (dC (.int 7)) yb))) yb)) yb ρ M6 = .ok (.int c) Ma:=by
    rw [jT,jp,show ya 1 ρ M6 = .ok (.ref 1) M6 by rw [hρ]; rfl];simp only [jp,ju,Res.bind_ok,l2];exact ea
   show yi _ ρ M6=_;refine yz (v:=.non) ?_;rw [jT,jp,show ya 1 ρ M6 = .ok (.ref 1) M6 by rw [hρ]; rfl];simp only [Res.bind_ok];rw [jp,show ya 7 ρ M6 = .ok (.ref i) M6 by rw [hρ]; rfl];simp only [Res.bind_ok];rw [jp,show ya 4 ρ M6 = .ok F M6 by rw [hρ]; rfl];simp only [Res.bind_ok];rw [jp,show ya 5 ρ M6 = .ok H M6 by rw [hρ]; rfl];simp only [Res.bind_ok];rw [yK p3];simp only [Res.bind_ok,ju];exact eb
 refine br (bb:=b) (Mb:=M6) (by rw [vy,hρ]; rfl) e7 ?_
 -- the sender sends
 have tS:yd (dOp (gIn true) (ya 6) (ya 4)) ρ M7 = .ok (!decide (sd ∈ fs)) M7:=ym (yk (x:=.int sd) (y:=F) (by rw [hρ]; rfl) (by rw [hρ]; rfl) (xx (neg:=true) (by rw [hF]; rfl)))
 obtain ⟨M8,q8,e8,K8,w8⟩:∃ M8 q8,(if (!decide (sd ∈ fs))=true then yi (yv 12 "send" VP 2 0 [.p 0,.p 1] [] (ya 7) (jb (ya 8) yb) yb) else yp) ρ M7 = .nx ρ M8∧K24 M8 i (i + 5) n s fs sd v q8 0 48∧(sd ∉ fs->(sd,sF) ∈ q8.wr):=by
  by_cases hm:sd ∈ fs
  ·rw [decide_eq_true hm];exact ⟨M7,q7,rfl,K7,fun z=>absurd hm z⟩
  ·rw [decide_eq_false hm];obtain ⟨es,gs,P,hg⟩:=K7.pu;have hl7:=K7.ll
   have hno:(sd,sF) ∉ q7.wr:=by rw [w7]; exact fun z=>by cases z
   have hin:sd ∈ hon n fs:=uQ.mpr ⟨⟨d0,d1⟩,hm⟩;obtain ⟨Mb,esb,eb,Pb,fb'⟩:=send_p P (by omega) (by rw [w7] at hl7; simp at hl7; omega) (by rw [w7]; decide) v0 (by omega) hm hno;obtain ⟨tb,_⟩:=K7.fr (fb'.weak P.ln);refine ⟨Mb,_,?_,⟨tb,⟨esb,gs,Pb,hg⟩,i2,K7.iv.say hno hin (.inl rfl) (fun _ _=>rfl) (fun z=>absurd z (by decide)) (fun z=>absurd z (by decide)),⟨fun t h1 h2 h3=>List.mem_append_left _ (K7.iw.c1 t h1 h2 h3),fun o c h=>List.mem_append_left _ (K7.iw.c2 o c h),fun o c h=>List.mem_append_left _ (K7.iw.c3 o c h),K7.iw.c4⟩,K7.lg,K7.lk,?_⟩,fun _=>List.mem_append_right _ (List.mem_singleton.mpr rfl)⟩
   ·show yi _ ρ M7=_;refine yz (v:=.non) ?_;rw [P.mth (xs:=[.int v]) (zs:=[]) (M1:=M7) (M2:=M7) (by rw [hρ]; rfl) rfl (by rw [hρ]; rfl) rfl];exact eb
   ·show (q7.ls ++ _).length<=8 * (q7.wr ++ [_]).length + 48;rw [List.length_append,List.length_append,List.length_map];show q7.ls.length + _<=8 * (q7.wr.length + 1) + 48;omega
 refine br tS e8 ?_
 -- the law's own dict
 obtain ⟨es8,gs8,P8,hg8⟩:=K8.pu;have gs0:gs8=[]:=List.eq_nil_of_length_eq_zero (Nat.le_zero.mp hg8);subst gs0
 obtain ⟨M9,hM9⟩:∃ M9,M9=M8.new (.dkv []):=⟨_,rfl⟩
 obtain ⟨j,hj⟩:∃ j,j=M8.n:=⟨_,rfl⟩
 have hij:i + 5<=j:=by rw [hj]; exact P8.ln
 have n9:M9.n=j + 1:=by rw [hM9,hj]; rfl
 have g9:∀ k,k≠j->M9.g k=M8.g k:=fun k hk=>by rw [hM9]; exact Sto.new_ne (by rw [<- hj]; exact hk)
 have K9:K24 M9 i (j + 1) n s fs sd v q8 0 48:=by
  refine ⟨jbV K8.tw (g9 0 (by omega)) (g9 1 (by omega)) (by rw [n9,hj]; omega),⟨es8,[],⟨by rw [g9 _ (by omega)]; exact P8.pu,by rw [g9 _ (by omega)]; exact P8.ow,by rw [g9 _ (by omega)]; exact P8.go,by rw [g9 _ (by omega)]; exact P8.wt,by rw [g9 _ (by omega)]; exact P8.sk,fun e he=>?_,fun e he=>(by cases he),P8.gd,P8.gk,P8.gc,P8.le,by omega,by omega⟩,Nat.le_refl _⟩,i2,K8.iv,K8.iw,K8.lg,K8.lk,K8.ll⟩;obtain ⟨h1,h2,h3⟩:=P8.el e he;exact ⟨⟨h1.1,by omega⟩,by omega,by rw [g9 _ (by omega)]; exact h3⟩
 have d9:M9.g j=some (.dkv (([]:List (Int × Int)).map kt)):=by rw [hM9,hj]; exact Sto.new_same
 refine Jo (v:=.ref j) (M1:=M9) (by rw [hM9,hj]; rfl) ?_;rw [hρ];simp only [List.set_cons_succ,List.set_cons_zero]
 obtain ⟨ρa,Ma,ea,y11,y12,y13,y14,qa,tl,hρa,Ka,da,Da⟩:=xX (g:=gN 11) (db:=uW)
  (fun k ρ M=>∃ y11 y12 y13 y14 q tl,ρ=[some (.scr ns),some (.ref 1),some (.int s),some (.int n),some F,some H,some (.int sd),some (.ref i),some (.int v),some (.bl b),some (.ref j),y11,y12,y13,y14]∧K24 M i (j + 1) n s fs sd v q k (48 + k)∧M.g j=some (.dkv (tl.map kt))∧Tk n fs q tl)
  (xS 0 70) 0 [some (.scr ns),some (.ref 1),some (.int s),some (.int n),some F,some H,some (.int sd),some (.ref i),some (.int v),some (.bl b),some (.ref j),none,none,none,none] M9
  ⟨none,none,none,none,q8,[],rfl,K9,d9,.nil,fun p hp=>(by cases hp)⟩ (by
   rintro k z hz ρ M ⟨y11,y12,y13,y14,q,tl,rfl,K,hd,D⟩
   have hq:k < 70:=by
    have:=(List.getElem?_eq_some_iff.mp hz).1
    rw [xR] at this;exact this
   rw [Nat.zero_add] at K ⊢;obtain ⟨z12,z13,z14,M',q',tl',e',K',hd',D'⟩:=turn23 K n8 (by omega) (by omega) s0 s2 hs fl fb hij hd D hF hH v0 (by omega) (b:=b) (some (.scr ns)) (some (.int n)) (some z) y12 y13 y14
   exact ⟨_,_,M',rfl,e',some z,z12,z13,z14,q',tl',rfl,K',hd',D'⟩)
 refine go_for (M1:=M9) (xs:=xS 0 70) rfl ea ?_;subst hρa
 -- no two have taken unlike numbers
 have hln:tl.length<=8:=by
  have:=xb (tl.map (·.1)) (hon n fs) Da.kn fun x hx=>by
   obtain ⟨p,hp,rfl⟩:=List.mem_map.mp hx;exact (Da.so p hp).1
  rw [List.length_map] at this;omega
 have few:jai (tl.map (·.2)) < 2:=by
  have two:∀ x ∈ tl.map (·.2),∀ y ∈ tl.map (·.2),x=y:=fun x hx y hy=>by
   obtain ⟨p,hp,rfl⟩:=List.mem_map.mp hx;obtain ⟨r,hr,rfl⟩:=List.mem_map.mp hy;exact jeb Ka.iv fl s0 (xP (Da.so p hp).2) (xP (Da.so r hr).2)
  cases ht:tl.map (·.2) with
  | nil=>decide
  | cons c l =>
   rw [ht] at two
   have:=xb (PyProof.Rows.firstMet (fun i=>(c :: l).getD i 0) (c :: l).length) [c] (jfO _ _) fun x hx=>List.mem_singleton.mpr (two x ((fm_mem (c :: l) x).mp hx) c List.mem_cons_self)
   unfold jai;have h1:[c].length=1:=rfl;omega
 have ev:Jt 10 [some (.scr ns),some (.ref 1),some (.int s),some (.int n),some F,some H,some (.int sd),some (.ref i),some (.int v),some (.bl b),some (.ref j),y11,y12,y13,y14] Ma = .ok (.lst ((tl.map (·.2)).map PV.int)) Ma:=by
  unfold Jt;simp only [jz,jF,Res.bind_ok,da];rw [List.map_map,List.map_map];rfl
 have el:jcD (Jt 10) [some (.scr ns),some (.ref 1),some (.int s),some (.int n),some F,some H,some (.int sd),some (.ref i),some (.int v),some (.bl b),some (.ref j),y11,y12,y13,y14] Ma = .ok (.int (jai (tl.map (·.2)))) Ma:=by
  unfold jcD;rw [ev];simp only [Res.bind_ok]
  have:jam Ma (.lst ((tl.map (·.2)).map PV.int))=some (tl.map (·.2)):=by
   unfold jam;rw [JY];exact Vr _
  rw [this];simp only [];rw [if_pos (by rw [List.length_map]; unfold scanBound; omega)]
 refine go_ret (M1:=Ma) (yk el (y:=.int 2) rfl ?_);show some (PV.bl (decide ((jai (tl.map (·.2)):Int) < 2)))=_;rw [decide_eq_true (by omega)]

section
variable {P:Program} {w:World} {K:PySem.W.Frag} {mg:Str->Option Value} {base:Heap} {C:Nat->Addr} {f:Addr} {fd:FuncData}
theorem ok_zbd (F:Fun K "_law_town" "_law_town" Xw f fd) (N_list:mg "list" = none):FnOk P w K mg base (CX1 P w) 1 f fd ["_law_script"] (spD (tb w K C) jaP) :=
 have hT:(tb w K C).K=K:=rfl
 jI F sc_zbd fun cdv A outer s H E hr=>(jf (jt (JJ (ja (Vb (jU (o_scr hT (hu0 hr)) (qv 0) (vj jd) (jS _)) (Vc (jin hT) rfl N_list UK (ja (qv 0) jd)) (JJ (ja jm jd))) (ja jm jd)))))
theorem ok_zbe (F:Fun K "_law_draw" "_law_draw" Xv f fd) (N_len:mg "len" = none):FnOk P w K mg base (CX1 P w) 1 f fd ["_law_town_here","_law_many"] (spD (tb w K C) yx) :=
 have hT:(tb w K C).K=K:=rfl
 jI F Jh fun cdv A outer s H E hr=>(je (jD (i:=2) Jh.nd rfl (Or.inl rfl) (Yl (jaW hT) (qv 0) jm (fun _ _=>rfl)))
   (je (jcf (jw (Jv hT) (Yl (jaW hT) (qv 0) jm (fun _ _=>rfl)) jm) (qv 0) jm)
   (je (jD (i:=3) Jh.nd rfl (Or.inl rfl) (jw (Vf) (Yl (jaW hT) (qv 0) jm (fun _ _=>rfl)) (jj (Ja hT) rfl N_len xB (ja (qv 2) jd))))
   (je (jD (i:=4) Jh.nd rfl (Or.inl rfl) (Yl (jaW hT) (qv 2) (qv 3) (fun _ _=>rfl)))
   (je (yA (jU (o_ge) (qv 4) jm (jS _)) (je (jcf (jw (jfd) (qv 4) (qv 1)) (qv 2) (qv 3))
   (jf (jt (jw (Vf) (qv 4) (qv 1))))) jG)
   (je (jD (i:=5) Jh.nd rfl (Or.inl rfl) (jw (Vf) (jw (Jv hT) (qv 4) (jw (Ve) jm (Yl (jaW hT) (qv 0) jm (fun _ _=>rfl)))) jm))
   (je (jD (i:=5) Jh.nd rfl (Or.inl rfl) (jw (Vf) (jw (o_pow) (qv 5) jm) jm))
   (jf (jt (jw (Vf) (jw (jfd) (jw (Vf) (jw (Jv hT) (jw (Ve) (jw (jfd) (qv 5) jm) jm) (qv 5)) jm) jm) (qv 1)))))))))))
theorem ok_zaw (F:Fun K "_law_liars" "_law_liars" XD f fd) (Q_zbe:CalD P w K mg base (tb w K C) "_law_draw" 1 ["_law_town_here","_law_many"] [] 2 0 [.p 0,.p 1] [] yx) (N_len:mg "len" = none) (N_range:mg "range" = none):FnOk P w K mg base (CX1 P w) 2 f fd ["_law_town_here","_law_crew_here","_law_most"] (spD (tb w K C) VS) :=
 have hT:(tb w K C).K=K:=rfl
 jaC (jcB F jbd fun cdv A outer s H E hr=>(je (jD (i:=3) jbd.nd rfl (Or.inl rfl) (JJ jd))
   (je (uu 200 PassesOwn.never rfl (uL rfl N_range (ja (qv 1) jd)) (yM (i:=4) jbd.nd rfl (Or.inl rfl)) (jf (yA (QW.qt (vJ (jU (jhE) (jj (Ja hT) rfl N_len xB (ja (qv 3) jd)) (qv 2) (jS _)) (vh (jU (YZ hT hr.units) (jh Q_zbe (hr.mono (by decide)) rfl jx (ja (qv 0) (ja jm jd)) jg) jm (jS _))))) (jf (jL (jeA PySem.F.slot_list_append PySem.F.type_list_append jal (qv 3) (ja (qv 4) jd)))) jG)))
   (jf (jt (qe_frz (qv 3)))))))
theorem ok_zbf (F:Fun K "_law_crew" "_law_crew" Yb f fd) (Q_zbe:CalD P w K mg base (tb w K C) "_law_draw" 1 ["_law_town_here","_law_many"] [] 2 0 [.p 0,.p 1] [] yx) (Q_zaw:CalD P w K mg base (tb w K C) "_law_liars" 2 ["_law_town_here","_law_crew_here","_law_most"] [] 3 0 [.p 0,.p 1,.p 2] [] VS) (N_range:mg "range" = none):FnOk P w K mg base (CX1 P w) 3 f fd ["_law_town_here"] (spD (tb w K C) jaO) :=
 have hT:(tb w K C).K=K:=rfl
 jI F Ug fun cdv A outer s H E hr=>(je (jD (i:=1) Ug.nd rfl (Or.inl rfl) (jh Q_zbe (hr.mono (by decide)) rfl jB (ja (qv 0) (ja jm jd)) jg))
   (je (jD (i:=2) Ug.nd rfl (Or.inl rfl) (jw (Jv hT) (jw (Jv hT) (jw (Ve) jm (qv 1)) jm) (jh Q_zbe (hr.mono (by decide)) rfl jB (ja (qv 0) (ja jm jd)) jg)))
   (je (jD (i:=3) Ug.nd rfl (Or.inr rfl) (jh Q_zaw (hr.mono (by decide)) rfl jB (ja (qv 0) (ja (qv 2) (ja (qv 1) jd))) jg))
   (jf (jt (vK (ja (qv 1) (ja (qv 2) (ja (qv 3) (ja (uM (osc:=(jc Yb)) (own:=["_law_house"]) (fr:=["_law_foes"]) (js:=[3]) jcN rfl rfl (by exact ⟨rfl,by decide +kernel,by decide +kernel,by decide +kernel,by decide +kernel,by decide +kernel⟩) rfl (uL rfl N_range (ja (qv 2) jd)) (fun _ _ _=>(jJ (i:=0) (show List.Nodup (["_law_house","_law_foes"]:List Str) from by decide +kernel) rfl (Or.inl rfl))) (fun _ _ _=>(jcg (jU (vn hT (vP hr)) (qv 0) (qv 1) (by with_unfolding_all rfl)))) (fun _ _ _=>(qv 0))) jd))))))))))
theorem ok_zbg (F:Fun K "_law_pick" "_law_pick" Xu f fd) (Q_zbe:CalD P w K mg base (tb w K C) "_law_draw" 1 ["_law_town_here","_law_many"] [] 2 0 [.p 0,.p 1] [] yx) (N_len:mg "len" = none):FnOk P w K mg base (CX1 P w) 2 f fd ["_law_town_here","_law_some"] (spD (tb w K C) yB) :=
 have hT:(tb w K C).K=K:=rfl
 jI F sc_zbg fun cdv A outer s H E hr=>(jf (jt (Yl (jaW hT) (qv 1) (jh Q_zbe (hr.mono (by decide)) rfl jB (ja (qv 0) (ja (jj (Ja hT) rfl N_len xB (ja (qv 1) jd)) jd)) jg) (fun _ _=>rfl))))
theorem ok_zbo (F:Fun K "is_whole" "is_whole" Xm f fd) (N_bool:mg "bool" = none) (N_int:mg "int" = none) (N_isinstance:mg "isinstance" = none):FnOk P w K mg base (CX1 P w) 1 f fd ["thing"] (spD (tb w K C) VM) :=
 have hT:(tb w K C).K=K:=rfl
 jI F sc_zbo fun cdv A outer s H E hr=>(jf (jt (jbi (jj (VJ hT) rfl N_isinstance jH (ja (qv 0) (ja (jbj rfl N_int jgv) jd))) (jbg (jez (jj (VJ hT) rfl N_isinstance jH (ja (qv 0) (ja (jbj rfl N_bool jcM) jd))))))))
theorem ok_zbh (F:Fun K "is_within" "is_within" Xs f fd) (Q_zbo:CalD P w K mg base (tb w K C) "is_whole" 1 ["thing"] [] 1 0 [.p 0] [] VM):FnOk P w K mg base (CX1 P w) 2 f fd ["thing","least","most"] (spD (tb w K C) vE) :=
 have hT:(tb w K C).K=K:=rfl
 jI F sc_zbh fun cdv A outer s H E hr=>(jf (jt (jbi (jh Q_zbo (hr.mono (by decide)) rfl jB (ja (qv 0) jd) jg) (jbg (jeB (o_le) (o_le) (qv 1) (qv 0) (qv 2))))))
theorem ok_zap (F:Fun K "check_within" "check_within" XI f fd) (X_BadNumber:Exc K mg "BadNumber" (C 0)) (Q_zbh:CalD P w K mg base (tb w K C) "is_within" 2 ["thing","least","most"] [] 3 0 [.p 0,.p 1,.p 2] [] vE):FnOk P w K mg base (CX1 P w) 3 f fd ["thing","least","most"] (spD (tb w K C) uq) :=
 have hT:(tb w K C).K=K:=rfl
 jI F sc_zap fun cdv A outer s H E hr=>(jf (yA (xO (yY hT (jh Q_zbh (hr.mono (by decide)) rfl jB (ja (qv 0) (ja (qv 1) (ja (qv 2) jd))) jg))) (jf (xf X_BadNumber rfl (ja (jhd (jeu (by decide +kernel) (by decide) (jev (qv 1) (by decide) (jeu (by decide +kernel) (by decide) (jev (qv 2) (by decide) (qj_nil (by decide))))))) jd))) jG))
theorem ok_zaq (F:Fun K "check_houses" "check_houses" XH f fd) {t_MOST_HOUSES:Tok} (C_MOST_HOUSES:mg "MOST_HOUSES" = some (.int 16 t_MOST_HOUSES)) (Q_zap:CalD P w K mg base (tb w K C) "check_within" 3 ["thing","least","most"] [] 3 0 [.p 0,.p 1,.p 2] [] uq):FnOk P w K mg base (CX1 P w) 4 f fd ["houses"] (spD (tb w K C) jcR) :=
 have hT:(tb w K C).K=K:=rfl
 jI F sc_zaq fun cdv A outer s H E hr=>(jf (jL (jh Q_zap (hr.mono (by decide)) rfl jB (ja (qv 0) (ja jm (ja (jbk rfl C_MOST_HOUSES) jd))) jg)))
theorem ok_zbi (F:Fun K "check_few" "check_few" Xr f fd) {t_MOST_FEW:Tok} (C_MOST_FEW:mg "MOST_FEW" = some (.int 5 t_MOST_FEW)) (Q_zap:CalD P w K mg base (tb w K C) "check_within" 3 ["thing","least","most"] [] 3 0 [.p 0,.p 1,.p 2] [] uq):FnOk P w K mg base (CX1 P w) 4 f fd ["few"] (spD (tb w K C) YS) :=
 have hT:(tb w K C).K=K:=rfl
 jI F sc_zbi fun cdv A outer s H E hr=>(jf (jL (jh Q_zap (hr.mono (by decide)) rfl jB (ja (qv 0) (ja jm (ja (jbk rfl C_MOST_FEW) jd))) jg)))
theorem ok_zbp (F:Fun K "is_house" "is_house" Xl f fd) (Q_zbh:CalD P w K mg base (tb w K C) "is_within" 2 ["thing","least","most"] [] 3 0 [.p 0,.p 1,.p 2] [] vE):FnOk P w K mg base (CX1 P w) 3 f fd ["thing","houses"] (spD (tb w K C) JC) :=
 have hT:(tb w K C).K=K:=rfl
 jI F sc_zbp fun cdv A outer s H E hr=>(jf (jt (jh Q_zbh (hr.mono (by decide)) rfl jB (ja (qv 0) (ja jm (ja (jw (jiy) (qv 1) jm) jd))) jg)))
theorem ok_zbj (F:Fun K "is_rising" "is_rising" JZ f fd) (N_all:mg "all" = none) (N_zip:mg "zip" = none):FnOk P w K mg base (CX1 P w) 1 f fd ["numbers"] (spD (tb w K C) jaN) :=
 have hT:(tb w K C).K=K:=rfl
 jI F sc_zbj fun cdv A outer s H E hr=>(jf (jt (jj (b_all rfl) rfl N_all jgw (ja (uM (osc:=(jc JZ)) (own:=["ahead","number"]) (fr:=[]) (js:=[]) (bnd_2 (T:=tb w K C)) rfl rfl (by exact ⟨rfl,by decide +kernel,by decide +kernel,by decide +kernel,by decide +kernel,by decide +kernel⟩) rfl (qi_zip hT rfl N_zip (ja (qv 0) (ja (jey hT (qv 0) (jgW jm) jgX) jd))) (fun _ _ _=>(show PG _ _ (gTup K 2 (jau (uk 0) (jau (uk 1) gNil))) from (jeP rfl (Yp (jJ (i:=0) (show List.Nodup (["ahead","number"]:List Str) from by decide +kernel) rfl (Or.inl rfl)) (Yp (jJ (i:=1) (show List.Nodup (["ahead","number"]:List Str) from by decide +kernel) rfl (Or.inl rfl)) jcm))))) (fun _ _ _=>Ui) (fun _ _ _=>(Ym (jhE) (qv 0) (qv 1) (jS _)))) jd))))
theorem ok_zaf (F:Fun K "check_some_houses" "check_some_houses" Ye f fd) (X_BadHouses:Exc K mg "BadHouses" (C 3)) (Q_zbp:CalD P w K mg base (tb w K C) "is_house" 3 ["thing","houses"] [] 2 0 [.p 0,.p 1] [] JC) (Q_zbj:CalD P w K mg base (tb w K C) "is_rising" 1 ["numbers"] [] 1 0 [.p 0] [] jaN) (N_all:mg "all" = none) (N_isinstance:mg "isinstance" = none) (N_len:mg "len" = none) (N_list:mg "list" = none) (N_tuple:mg "tuple" = none):FnOk P w K mg base (CX1 P w) 4 f fd ["some","houses","most"] (spD (tb w K C) VV) :=
 have hT:(tb w K C).K=K:=rfl
 jI F sc_zaf fun cdv A outer s H E hr=>(je (yA (QW.qt (UW (xO (yY hT (jj (VJ hT) rfl N_isinstance jH (ja (qv 0) (ja (vK (ja (jbj rfl N_list UK) (ja (jbj rfl N_tuple jgu) jd))) jd))))) (Yk (jU (jdl) (jj (Ja hT) rfl N_len xB (ja (qv 0) jd)) (qv 2) (jS _))))) (jf (xf X_BadHouses rfl (ja yF jd))) jG)
   (jf (yA (QW.qt (UW (xO (yY hT (jj (b_all rfl) rfl N_all jgw (ja (uM (osc:=(jc Ye)) (own:=["house"]) (fr:=["houses"]) (js:=[1]) jcN rfl rfl (by exact ⟨rfl,by decide +kernel,by decide +kernel,by decide +kernel,by decide +kernel,by decide +kernel⟩) rfl (vZ (qv 0)) (fun _ _ _=>(jJ (i:=0) (show List.Nodup (["house","houses"]:List Str) from by decide +kernel) rfl (Or.inl rfl))) (fun _ _ _=>Ui) (fun _ _ _=>(jh Q_zbp (hr.mono (by decide)) rfl jx (ja (qv 0) (ja (qv 1) jd)) jg))) jd)))) (Yk (xO (yY hT (jh Q_zbj (hr.mono (by decide)) rfl jB (ja (qv 0) jd) jg)))))) (jf (xf X_BadHouses rfl (ja yF jd))) jG)))
theorem ok_zam (F:Fun K "__init__" "Post.__init__" XN f fd) (X_BadHouses:Exc K mg "BadHouses" (C 3)) (nf_Echo_few:jn K (C 12) "few") (nf_Echo_got:jn K (C 12) "got") (nf_Echo_houses:jn K (C 12) "houses") (nf_Echo_liars:jn K (C 12) "liars") (nf_Echo_on_way:jn K (C 12) "on_way") (Q_zbi:CalD P w K mg base (tb w K C) "check_few" 4 ["few"] [] 1 0 [.p 0] [] YS) (Q_zaq:CalD P w K mg base (tb w K C) "check_houses" 4 ["houses"] [] 1 0 [.p 0] [] jcR) (Q_zaf:CalD P w K mg base (tb w K C) "check_some_houses" 4 ["some","houses","most"] [] 3 0 [.p 0,.p 1,.p 2] [] VV) (N_list:mg "list" = none) (cl_Echo:Cls K (C 12)):FnOk P w K mg base (CX1 P w) 5 f fd ["self","houses","few","liars"] (spD (tb w K C) jaS) :=
 have hT:(tb w K C).K=K:=rfl
 jI F sc_zam fun cdv A outer s H E hr=>(je (jL (jh Q_zaq (hr.mono (by decide)) rfl jB (ja (qv 1) jd) jg))
   (je (jL (jh Q_zbi (hr.mono (by decide)) rfl jB (ja (qv 2) jd) jg))
   (je (yA (jU (o_le) (qv 1) (jw (Ve) jm (qv 2)) (jS _)) (jf (xf X_BadHouses rfl (ja yF jd))) jG)
   (je (jL (jh Q_zaf (hr.mono (by decide)) rfl jB (ja (qv 3) (ja (qv 1) (ja (qv 2) jd))) jg))
   (je (xg hT cl_Echo nf_Echo_houses (qv 0) (qv 1))
   (je (xg hT cl_Echo nf_Echo_few (qv 0) (qv 2))
   (je (xg hT cl_Echo nf_Echo_liars (qv 0) (Vc (b_list hT) rfl N_list UK (ja (qv 3) jd)))
   (je (xg hT cl_Echo nf_Echo_on_way (qv 0) (JJ jd))
   (jf (xg hT cl_Echo nf_Echo_got (qv 0) qe_dnN))))))))))
theorem ok_zat (F:Fun K "check_house" "check_house" XF f fd) (Q_zbp:CalD P w K mg base (tb w K C) "is_house" 3 ["thing","houses"] [] 2 0 [.p 0,.p 1] [] JC):FnOk P w K mg base (CX1 P w) 4 f fd ["house","houses"] (spD (tb w K C) uo) :=
 have hT:(tb w K C).K=K:=rfl
 jI F sc_zat fun cdv A outer s H E hr=>(jf (yA (xO (yY hT (jh Q_zbp (hr.mono (by decide)) rfl jB (ja (qv 0) (ja (qv 1) jd)) jg))) (jf uK) jG))
theorem ok_zan (F:Fun K "__init__" "Echo.__init__" XM f fd) (Q_zam_2_few_liars:ClsD P w K mg base (tb w K C) 11 "Post" "__init__" 5 ["self","houses","few","liars"] ["few","liars"] 2 2 [.p 0,.p 1,.k 0,.k 1] [] jaS) (nf_Echo_sender:jn K (C 12) "sender") (nf_Echo_taken:jn K (C 12) "taken") (nf_Echo_written:jn K (C 12) "written") (Q_zat:CalD P w K mg base (tb w K C) "check_house" 4 ["house","houses"] [] 2 0 [.p 0,.p 1] [] uo) (cl_Echo:Cls K (C 12)):FnOk P w K mg base (CX1 P w) 7 f fd ["self","houses","few","sender","liars"] (spD (tb w K C) Jd) :=
 have hT:(tb w K C).K=K:=rfl
 jI F sc_zan fun cdv A outer s H E hr=>(je (jL (jhe Q_zam_2_few_liars (hr.mono (by decide)) rfl jB (ja (qv 0) (ja (qv 1) jd)) (vi (qv 2) (vi (qv 4) jg))))
   (je (jL (jh Q_zat (hr.mono (by decide)) rfl jB (ja (qv 3) (ja (qv 1) jd)) jg))
   (je (xg hT cl_Echo nf_Echo_sender (qv 0) (qv 3))
   (je (xg hT cl_Echo nf_Echo_written (qv 0) qe_dsN)
   (jf (xg hT cl_Echo nf_Echo_taken (qv 0) Uj))))))
theorem ok_zad (F:Fun K "check_is_liar" "Post.check_is_liar" XW f fd) (nf_Echo_houses:jn K (C 12) "houses") (nf_Echo_liars:jn K (C 12) "liars") (Q_zat:CalD P w K mg base (tb w K C) "check_house" 4 ["house","houses"] [] 2 0 [.p 0,.p 1] [] uo) (cl_Echo:Cls K (C 12)):FnOk P w K mg base (CX1 P w) 5 f fd ["self","liar"] (spD (tb w K C) jaU) :=
 have hT:(tb w K C).K=K:=rfl
 jI F sc_zad fun cdv A outer s H E hr=>(je (jL (jh Q_zat (hr.mono (by decide)) rfl jB (ja (qv 1) (ja (jX hT cl_Echo nf_Echo_houses (qv 0)) jd)) jg))
   (jf (yA (jU (vn hT (vP hr)) (qv 1) (jX hT cl_Echo nf_Echo_liars (qv 0)) (by with_unfolding_all rfl)) (jf uK) jG)))
theorem ok_zar (F:Fun K "check_honest" "check_honest" XG f fd) (Q_zat:CalD P w K mg base (tb w K C) "check_house" 4 ["house","houses"] [] 2 0 [.p 0,.p 1] [] uo):FnOk P w K mg base (CX1 P w) 5 f fd ["house","houses","liars"] (spD (tb w K C) jaR) :=
 have hT:(tb w K C).K=K:=rfl
 jI F sc_zar fun cdv A outer s H E hr=>(je (jL (jh Q_zat (hr.mono (by decide)) rfl jB (ja (qv 0) (ja (qv 1) jd)) jg))
   (jf (yA (jU (o_in hT (vP hr)) (qv 0) (qv 2) (by with_unfolding_all rfl)) (jf uK) jG)))
theorem ok_zaa (F:Fun K "check_is_honest" "Post.check_is_honest" XZ f fd) (nf_Echo_houses:jn K (C 12) "houses") (nf_Echo_liars:jn K (C 12) "liars") (Q_zar:CalD P w K mg base (tb w K C) "check_honest" 5 ["house","houses","liars"] [] 3 0 [.p 0,.p 1,.p 2] [] jaR) (cl_Echo:Cls K (C 12)):FnOk P w K mg base (CX1 P w) 6 f fd ["self","house"] (spD (tb w K C) Je) :=
 have hT:(tb w K C).K=K:=rfl
 jI F sc_zaa fun cdv A outer s H E hr=>(jf (jL (jh Q_zar (hr.mono (by decide)) rfl jB (ja (qv 1) (ja (jX hT cl_Echo nf_Echo_houses (qv 0)) (ja (jX hT cl_Echo nf_Echo_liars (qv 0)) jd))) jg)))
theorem ok_zax (F:Fun K "check_word" "check_word" XC f fd) (X_BadLies:Exc K mg "BadLies" (C 2)) (N_isinstance:mg "isinstance" = none) (N_str:mg "str" = none) (TU_WORDS:TupS K mg "WORDS" ["first","echo","ready"]):FnOk P w K mg base (CX1 P w) 1 f fd ["word"] (spD (tb w K C) jaQ) :=
 have hT:(tb w K C).K=K:=rfl
 jI F sc_zax fun cdv A outer s H E hr=>(jf (yA (QW.qt (UW (xO (yY hT (jj (VJ hT) rfl N_isinstance jH (ja (qv 0) (ja (jbj rfl N_str bt_str) jd))))) (Yk (jU (vn hT (vP hr)) (qv 0) (q_gtup hT rfl TU_WORDS rfl) (by with_unfolding_all rfl))))) (jf (xf X_BadLies rfl (ja yF jd))) jG))
theorem ok_zag (F:Fun K "check_word_number" "check_word_number" XU f fd) {t_LAST_WORD_NUMBER:Tok} (C_LAST_WORD_NUMBER:mg "LAST_WORD_NUMBER" = some (.int 999 t_LAST_WORD_NUMBER)) (Q_zap:CalD P w K mg base (tb w K C) "check_within" 3 ["thing","least","most"] [] 3 0 [.p 0,.p 1,.p 2] [] uq):FnOk P w K mg base (CX1 P w) 4 f fd ["number"] (spD (tb w K C) YW) :=
 have hT:(tb w K C).K=K:=rfl
 jI F sc_zag fun cdv A outer s H E hr=>(jf (jL (jh Q_zap (hr.mono (by decide)) rfl jB (ja (qv 0) (ja jm (ja (jbk rfl C_LAST_WORD_NUMBER) jd))) jg)))
theorem ok_zaj (F:Fun K "__init__" "Letter.__init__" XR f fd) (nf_Letter_due:jn K (C 10) "due") (nf_Letter_house:jn K (C 10) "house") (nf_Letter_sender:jn K (C 10) "sender") (nf_Letter_what:jn K (C 10) "what") (cl_Letter:Cls K (C 10)):FnOk P w K mg base (CX1 P w) 1 f fd ["self","sender","house","what"] (spD (tb w K C) YV) :=
 have hT:(tb w K C).K=K:=rfl
 jI F sc_zaj fun cdv A outer s H E hr=>(je (xg hT cl_Letter nf_Letter_sender (qv 0) (qv 1))
   (je (xg hT cl_Letter nf_Letter_house (qv 0) (qv 2))
   (je (xg hT cl_Letter nf_Letter_what (qv 0) (qv 3))
   (jf (xg hT cl_Letter nf_Letter_due (qv 0) uN)))))
theorem ok_zay (F:Fun K "write" "Post.write" XB f fd) (nf_Echo_on_way:jn K (C 12) "on_way") (Q_zaj:NewD P w K mg base (tb w K C) 10 "Letter" 1 ["self","sender","house","what"] [] 4 0 [.p 0,.p 1,.p 2,.p 3] [] YV) (cl_Echo:Cls K (C 12)):FnOk P w K mg base (CX1 P w) 3 f fd ["self","sender","house","what"] (spD (tb w K C) YT) :=
 have hT:(tb w K C).K=K:=rfl
 jI F sc_zay fun cdv A outer s H E hr=>(jf (jL (jeA PySem.F.slot_list_append PySem.F.type_list_append jal (jX hT cl_Echo nf_Echo_on_way (qv 0)) (ja (jbh Q_zaj (hr.mono (by decide)) rfl jB (ja (qv 1) (ja (qv 2) (ja (qv 3) jd))) jg) jd))))
theorem ok_zbq (F:Fun K "lie" "Echo.lie" Xk f fd) (Q_zax:CalD P w K mg base (tb w K C) "check_word" 1 ["word"] [] 1 0 [.p 0] [] jaQ) (Q_zag:CalD P w K mg base (tb w K C) "check_word_number" 4 ["number"] [] 1 0 [.p 0] [] YW) (Q_zaa:MetD P w K mg base (tb w K C) 12 "check_is_honest" 6 ["self","house"] [] 2 0 [.p 0,.p 1] [] Je) (Q_zad:MetD P w K mg base (tb w K C) 12 "check_is_liar" 5 ["self","liar"] [] 2 0 [.p 0,.p 1] [] jaU) (Q_zay:MetD P w K mg base (tb w K C) 12 "write" 3 ["self","sender","house","what"] [] 4 0 [.p 0,.p 1,.p 2,.p 3] [] YT):FnOk P w K mg base (CX1 P w) 7 f fd ["self","liar","house","word","number"] (spD (tb w K C) ul) :=
 have hT:(tb w K C).K=K:=rfl
 jI F sc_zbq fun cdv A outer s H E hr=>(je (jL (yt Q_zad (hr.mono (by decide)) jB (qv 0) (ja (qv 1) jd) jg))
   (je (jL (yt Q_zaa (hr.mono (by decide)) jB (qv 0) (ja (qv 2) jd) jg))
   (je (jL (jh Q_zax (hr.mono (by decide)) rfl jB (ja (qv 3) jd) jg))
   (je (jL (jh Q_zag (hr.mono (by decide)) rfl jB (ja (qv 4) jd) jg))
   (jf (jL (yt Q_zay (hr.mono (by decide)) jB (qv 0) (ja (qv 1) (ja (qv 2) (ja (vK (ja (qv 3) (ja (qv 4) jd))) jd))) jg)))))))
theorem ok_zaz (F:Fun K "_law_split" "_law_split" XA f fd) (Q_zbe:CalD P w K mg base (tb w K C) "_law_draw" 1 ["_law_town_here","_law_many"] [] 2 0 [.p 0,.p 1] [] yx) (Q_zbg:CalD P w K mg base (tb w K C) "_law_pick" 2 ["_law_town_here","_law_some"] [] 2 0 [.p 0,.p 1] [] yB) (Q_zbq:MetD P w K mg base (tb w K C) 12 "lie" 7 ["self","liar","house","word","number"] [] 5 0 [.p 0,.p 1,.p 2,.p 3,.p 4] [] ul) (N_len:mg "len" = none) (N_range:mg "range" = none):FnOk P w K mg base (CX1 P w) 8 f fd ["_law_town_here","_law_echo","_law_foes","_law_honest","_law_number"] (spD (tb w K C) VR) :=
 have hT:(tb w K C).K=K:=rfl
 jfW (jcB F xM fun cdv A outer s H E hr=>(je (jD (i:=5) xM.nd rfl (Or.inl rfl) (jh Q_zbe (hr.mono (by decide)) rfl jx (ja (qv 0) (ja (jw (Jv hT) (jj (Ja hT) rfl N_len xB (ja (qv 3) jd)) jm) jd)) jg))
   (je (jD (i:=6) xM.nd rfl (Or.inl rfl) (jh Q_zbg (hr.mono (by decide)) rfl jx (ja (qv 0) (ja (vj (ja jm (ja jm (ja uN jd)))) jd)) jg))
   (jf (uu 200 PassesOwn.never rfl (vZ (qv 2)) (yM (i:=7) xM.nd rfl (Or.inl rfl)) (jf (uu 200 PassesOwn.never rfl (uL rfl N_range (ja (jj (Ja hT) rfl N_len xB (ja (qv 3) jd)) jd)) (yM (i:=8) xM.nd rfl (Or.inl rfl)) (je (jD (i:=9) xM.nd rfl (Or.inl rfl) (Vb (jU (jhE) (qv 8) (qv 5) (jS _)) (qv 4) (qv 6)))
   (jf (uu 200 PassesOwn.never rfl (vZ (vj (ja yF (ja yF (ja yF jd))))) (yM (i:=10) xM.nd rfl (Or.inl rfl)) (jf (yA (QW.qt (vJ (jU (Ur) (qv 9) uN (jS _)) (vh (jU (jdl) (jh Q_zbe (hr.mono (by decide)) rfl jx (ja (qv 0) (ja jm jd)) jg) jm (jS _))))) (jf (jL (yt Q_zbq (hr.mono (by decide)) jx (qv 1) (ja (qv 7) (ja (Yl (jaW hT) (qv 3) (qv 8) (fun _ _=>rfl)) (ja (qv 10) (ja (qv 9) jd)))) jg))) jG)))))))))))) (jI F xM fun cdv A outer s H E hr=>(je (jD (i:=5) xM.nd rfl (Or.inl rfl) (jh Q_zbe (hr.mono (by decide)) rfl jB (ja (qv 0) (ja (jw (Jv hT) (jj (Ja hT) rfl N_len xB (ja (qv 3) jd)) jm) jd)) jg))
   (je (jD (i:=6) xM.nd rfl (Or.inl rfl) (jh Q_zbg (hr.mono (by decide)) rfl jB (ja (qv 0) (ja (vj (ja jm (ja jm (ja uN jd)))) jd)) jg))
   (jf uK))))
theorem ok_zai (F:Fun K "has_written" "Echo.has_written" XS f fd) (nf_Echo_written:jn K (C 12) "written") (cl_Echo:Cls K (C 12)):FnOk P w K mg base (CX1 P w) 1 f fd ["self","house","word"] (spD (tb w K C) xC) :=
 have hT:(tb w K C).K=K:=rfl
 jI F sc_zai fun cdv A outer s H E hr=>(jf (jt (jhb (hu1 hr) (ja (qv 1) (ja (qv 2) jd)) (jX hT cl_Echo nf_Echo_written (qv 0)) (by with_unfolding_all rfl))))
theorem ok_zau (F:Fun K "honest" "Post.honest" Yc f fd) (nf_Echo_houses:jn K (C 12) "houses") (nf_Echo_liars:jn K (C 12) "liars") (N_range:mg "range" = none) (cl_Echo:Cls K (C 12)):FnOk P w K mg base (CX1 P w) 1 f fd ["self"] (spD (tb w K C) VT) :=
 have hT:(tb w K C).K=K:=rfl
 jI F sc_zau fun cdv A outer s H E hr=>(jf (jt (uM (osc:=(jc Yc)) (own:=["house"]) (fr:=["self"]) (js:=[0]) jcN rfl rfl (by exact ⟨rfl,by decide +kernel,by decide +kernel,by decide +kernel,by decide +kernel,by decide +kernel⟩) rfl (uL rfl N_range (ja (jX hT cl_Echo nf_Echo_houses (qv 0)) jd)) (fun _ _ _=>(jJ (i:=0) (show List.Nodup (["house","self"]:List Str) from by decide +kernel) rfl (Or.inl rfl))) (fun _ _ _=>(jcg (jU (vn hT (vP hr)) (qv 0) (jX hT cl_Echo nf_Echo_liars (qv 1)) (by with_unfolding_all rfl)))) (fun _ _ _=>(qv 0)))))
theorem ok_zah (F:Fun K "write_to_all" "Post.write_to_all" XT f fd) (Q_zau:MetD P w K mg base (tb w K C) 12 "honest" 1 ["self"] [] 1 0 [.p 0] [] VT) (Q_zay:MetD P w K mg base (tb w K C) 12 "write" 3 ["self","sender","house","what"] [] 4 0 [.p 0,.p 1,.p 2,.p 3] [] YT):FnOk P w K mg base (CX1 P w) 4 f fd ["self","sender","what"] (spD (tb w K C) jaT) :=
 have hT:(tb w K C).K=K:=rfl
 jaC (jcB F jem fun cdv A outer s H E hr=>(jf (uu 200 PassesOwn.never rfl (vZ (JI Q_zau (hr.mono (by decide)) jx (qv 0) jg)) (yM (i:=3) jem.nd rfl (Or.inl rfl)) (jf (jL (yt Q_zay (hr.mono (by decide)) jx (qv 0) (ja (qv 1) (ja (qv 3) (ja (qv 2) jd))) jg))))))
theorem ok_zak (F:Fun K "write_word" "Echo.write_word" XQ f fd) (nf_Echo_written:jn K (C 12) "written") (Q_zah:MetD P w K mg base (tb w K C) 12 "write_to_all" 4 ["self","sender","what"] [] 3 0 [.p 0,.p 1,.p 2] [] jaT) (cl_Echo:Cls K (C 12)):FnOk P w K mg base (CX1 P w) 5 f fd ["self","house","word","number"] (spD (tb w K C) YU) :=
 have hT:(tb w K C).K=K:=rfl
 jI F sc_zak fun cdv A outer s H E hr=>(je (jes (hu1 hr) jhf (jX hT cl_Echo nf_Echo_written (qv 0)) (ja (qv 1) (ja (qv 2) jd)))
   (jf (jL (yt Q_zah (hr.mono (by decide)) jB (qv 0) (ja (qv 1) (ja (vK (ja (qv 2) (ja (qv 3) jd))) jd)) jg))))
theorem ok_zbk (F:Fun K "send" "Echo.send" Xq f fd) (X_NotNow:Exc K mg "NotNow" (C 6)) (nf_Echo_liars:jn K (C 12) "liars") (nf_Echo_sender:jn K (C 12) "sender") (Q_zag:CalD P w K mg base (tb w K C) "check_word_number" 4 ["number"] [] 1 0 [.p 0] [] YW) (Q_zai:MetD P w K mg base (tb w K C) 12 "has_written" 1 ["self","house","word"] [] 3 0 [.p 0,.p 1,.p 2] [] xC) (Q_zak:MetD P w K mg base (tb w K C) 12 "write_word" 5 ["self","house","word","number"] [] 4 0 [.p 0,.p 1,.p 2,.p 3] [] YU) (cl_Echo:Cls K (C 12)):FnOk P w K mg base (CX1 P w) 6 f fd ["self","number"] (spD (tb w K C) VP) :=
 have hT:(tb w K C).K=K:=rfl
 jI F sc_zbk fun cdv A outer s H E hr=>(je (jL (jh Q_zag (hr.mono (by decide)) rfl jB (ja (qv 1) jd) jg))
   (je (yA (jU (o_in hT (vP hr)) (jX hT cl_Echo nf_Echo_sender (qv 0)) (jX hT cl_Echo nf_Echo_liars (qv 0)) (by with_unfolding_all rfl)) (jf (xf X_NotNow rfl (ja yF jd))) jG)
   (je (yA (yY hT (yt Q_zai (hr.mono (by decide)) jB (qv 0) (ja (jX hT cl_Echo nf_Echo_sender (qv 0)) (ja yF jd)) jg)) (jf (xf X_NotNow rfl (ja yF jd))) jG)
   (jf (jL (yt Q_zak (hr.mono (by decide)) jB (qv 0) (ja (jX hT cl_Echo nf_Echo_sender (qv 0)) (ja yF (ja (qv 1) jd))) jg))))))
theorem ok_zba (F:Fun K "row" "Letter.row" Xz f fd) (nf_Letter_house:jn K (C 10) "house") (nf_Letter_sender:jn K (C 10) "sender") (nf_Letter_what:jn K (C 10) "what") (cl_Letter:Cls K (C 10)):FnOk P w K mg base (CX1 P w) 1 f fd ["self"] (spD (tb w K C) um) :=
 have hT:(tb w K C).K=K:=rfl
 jI F sc_zba fun cdv A outer s H E hr=>(jf (jt (vK (ja (jX hT cl_Letter nf_Letter_sender (qv 0)) (ja (jX hT cl_Letter nf_Letter_house (qv 0)) (ja (jX hT cl_Letter nf_Letter_what (qv 0)) jd))))))
theorem ok_zas (F:Fun K "letters" "Post.letters" Yd f fd) (nf_Echo_on_way:jn K (C 12) "on_way") (Q_zba:MetD P w K mg base (tb w K C) 10 "row" 1 ["self"] [] 1 0 [.p 0] [] um) (cl_Echo:Cls K (C 12)):FnOk P w K mg base (CX1 P w) 2 f fd ["self"] (spD (tb w K C) VU) :=
 have hT:(tb w K C).K=K:=rfl
 jI F sc_zas fun cdv A outer s H E hr=>(jf (jt (uM (osc:=(jc Yd)) (own:=["letter"]) (fr:=[]) (js:=[]) jcN rfl rfl (by exact ⟨rfl,by decide +kernel,by decide +kernel,by decide +kernel,by decide +kernel,by decide +kernel⟩) rfl (vZ (jX hT cl_Echo nf_Echo_on_way (qv 0))) (fun _ _ _=>(jJ (i:=0) (show List.Nodup (["letter"]:List Str) from by decide +kernel) rfl (Or.inl rfl))) (fun _ _ _=>Ui) (fun _ _ _=>(JI Q_zba (hr.mono (by decide)) jx (qv 0) jg)))))
theorem ok_zbl (F:Fun K "take" "Post.take" Xp f fd) (X_NoLetter:Exc K mg "NoLetter" (C 5)) (nf_Echo_got:jn K (C 12) "got") (nf_Echo_on_way:jn K (C 12) "on_way") (nf_Letter_house:jn K (C 10) "house") (nf_Letter_sender:jn K (C 10) "sender") (nf_Letter_what:jn K (C 10) "what") (Q_zbh:CalD P w K mg base (tb w K C) "is_within" 2 ["thing","least","most"] [] 3 0 [.p 0,.p 1,.p 2] [] vE) (N_len:mg "len" = none) (cl_Echo:Cls K (C 12)) (cl_Letter:Cls K (C 10)):FnOk P w K mg base (CX1 P w) 3 f fd ["self","at"] (spD (tb w K C) VO) :=
 have hT:(tb w K C).K=K:=rfl
 jI F jbc fun cdv A outer s H E hr=>(je (yA (xO (yY hT (jh Q_zbh (hr.mono (by decide)) rfl jB (ja (qv 1) (ja jm (ja (jw (jiy) (jj (Ja hT) rfl N_len xB (ja (jX hT cl_Echo nf_Echo_on_way (qv 0)) jd)) jm) jd))) jg))) (jf (xf X_NoLetter rfl (ja yF jd))) jG)
   (je (jD (i:=2) jbc.nd rfl (Or.inl rfl) (jeA PySem.F.slot_list_pop PySem.F.type_list_pop jhI (jX hT cl_Echo nf_Echo_on_way (qv 0)) (ja (qv 1) jd)))
   (je (jD (i:=3) jbc.nd rfl (Or.inl rfl) (jgY hT rfl (hu32 hr) (jX hT cl_Echo nf_Echo_got (qv 0)) (ja (jX hT cl_Letter nf_Letter_house (qv 2)) (ja (jX hT cl_Letter nf_Letter_what (qv 2)) jd)) Uj ⟨rfl,rfl,rfl,rfl⟩))
   (je (UX (hu1 hr) jhf (qv 3) (jX hT cl_Letter nf_Letter_sender (qv 2)))
   (jf (jt (qv 2)))))))
theorem ok_zal (F:Fun K "write_once" "Echo.write_once" XO f fd) (Q_zai:MetD P w K mg base (tb w K C) 12 "has_written" 1 ["self","house","word"] [] 3 0 [.p 0,.p 1,.p 2] [] xC) (Q_zak:MetD P w K mg base (tb w K C) 12 "write_word" 5 ["self","house","word","number"] [] 4 0 [.p 0,.p 1,.p 2,.p 3] [] YU):FnOk P w K mg base (CX1 P w) 6 f fd ["self","house","word","number"] (spD (tb w K C) ut) :=
 have hT:(tb w K C).K=K:=rfl
 jI F sc_zal fun cdv A outer s H E hr=>(jf (yA (xO (yY hT (yt Q_zai (hr.mono (by decide)) jB (qv 0) (ja (qv 1) (ja (qv 2) jd)) jg))) (jf (jL (yt Q_zak (hr.mono (by decide)) jB (qv 0) (ja (qv 1) (ja (qv 2) (ja (qv 3) jd))) jg))) jG))
theorem ok_zae (F:Fun K "look_at_first" "Echo.look_at_first" XV f fd) (nf_Echo_sender:jn K (C 12) "sender") (Q_zal:MetD P w K mg base (tb w K C) 12 "write_once" 6 ["self","house","word","number"] [] 4 0 [.p 0,.p 1,.p 2,.p 3] [] ut) (cl_Echo:Cls K (C 12)):FnOk P w K mg base (CX1 P w) 7 f fd ["self","sender","house","number"] (spD (tb w K C) VW) :=
 have hT:(tb w K C).K=K:=rfl
 jI F sc_zae fun cdv A outer s H E hr=>(jf (yA (jU (YZ hT hr.units) (qv 1) (jX hT cl_Echo nf_Echo_sender (qv 0)) (jS _)) (jf (jL (yt Q_zal (hr.mono (by decide)) jB (qv 0) (ja (qv 2) (ja yF (ja (qv 3) jd))) jg))) jG))
theorem ok_zao (F:Fun K "many_got" "Post.many_got" XJ f fd) (nf_Echo_got:jn K (C 12) "got") (N_len:mg "len" = none) (cl_Echo:Cls K (C 12)):FnOk P w K mg base (CX1 P w) 1 f fd ["self","house","what"] (spD (tb w K C) Jc) :=
 have hT:(tb w K C).K=K:=rfl
 jI F sc_zao fun cdv A outer s H E hr=>(jf (jt (jj (b_lenK) rfl N_len xB (ja (jhc hT rfl (hu32 hr) (jX hT cl_Echo nf_Echo_got (qv 0)) (ja (qv 1) (ja (qv 2) jd)) Uj ⟨rfl,rfl,rfl,rfl⟩) jd))))
theorem ok_zac (F:Fun K "look_at_echoes" "Echo.look_at_echoes" XX f fd) (nf_Echo_few:jn K (C 12) "few") (nf_Echo_houses:jn K (C 12) "houses") (Q_zal:MetD P w K mg base (tb w K C) 12 "write_once" 6 ["self","house","word","number"] [] 4 0 [.p 0,.p 1,.p 2,.p 3] [] ut) (Q_zao:MetD P w K mg base (tb w K C) 12 "many_got" 1 ["self","house","what"] [] 3 0 [.p 0,.p 1,.p 2] [] Jc) (cl_Echo:Cls K (C 12)):FnOk P w K mg base (CX1 P w) 7 f fd ["self","house","number"] (spD (tb w K C) VX) :=
 have hT:(tb w K C).K=K:=rfl
 jI F sc_zac fun cdv A outer s H E hr=>(jf (yA (jU (jdl) (jw (Ve) jm (yt Q_zao (hr.mono (by decide)) jB (qv 0) (ja (qv 1) (ja (vK (ja yF (ja (qv 2) jd))) jd)) jg)) (jw (Jv hT) (jX hT cl_Echo nf_Echo_houses (qv 0)) (jX hT cl_Echo nf_Echo_few (qv 0))) (jS _)) (jf (jL (yt Q_zal (hr.mono (by decide)) jB (qv 0) (ja (qv 1) (ja yF (ja (qv 2) jd))) jg))) jG))
theorem ok_zab (F:Fun K "look_at_readies" "Echo.look_at_readies" XY f fd) (nf_Echo_few:jn K (C 12) "few") (nf_Echo_taken:jn K (C 12) "taken") (Q_zal:MetD P w K mg base (tb w K C) 12 "write_once" 6 ["self","house","word","number"] [] 4 0 [.p 0,.p 1,.p 2,.p 3] [] ut) (Q_zao:MetD P w K mg base (tb w K C) 12 "many_got" 1 ["self","house","what"] [] 3 0 [.p 0,.p 1,.p 2] [] Jc) (cl_Echo:Cls K (C 12)):FnOk P w K mg base (CX1 P w) 7 f fd ["self","house","number"] (spD (tb w K C) YX) :=
 have hT:(tb w K C).K=K:=rfl
 jI F jen fun cdv A outer s H E hr=>(je (jD (i:=3) jen.nd rfl (Or.inl rfl) (yt Q_zao (hr.mono (by decide)) jB (qv 0) (ja (qv 1) (ja (vK (ja yF (ja (qv 2) jd))) jd)) jg))
   (je (yA (jU (jdl) (qv 3) (jX hT cl_Echo nf_Echo_few (qv 0)) (jS _)) (jf (jL (yt Q_zal (hr.mono (by decide)) jB (qv 0) (ja (qv 1) (ja yF (ja (qv 2) jd))) jg))) jG)
   (jf (yA (jU (jdl) (qv 3) (jw (Ve) jm (jX hT cl_Echo nf_Echo_few (qv 0))) (jS _)) (jf (jL (jgZ (jX hT cl_Echo nf_Echo_taken (qv 0)) (qv 1) (qv 2) ⟨rfl,rfl,rfl,rfl⟩))) jG))))
theorem ok_zbm (F:Fun K "come" "Echo.come" Xo f fd) (nf_Letter_house:jn K (C 10) "house") (nf_Letter_sender:jn K (C 10) "sender") (nf_Letter_what:jn K (C 10) "what") (Q_zac:MetD P w K mg base (tb w K C) 12 "look_at_echoes" 7 ["self","house","number"] [] 3 0 [.p 0,.p 1,.p 2] [] VX) (Q_zae:MetD P w K mg base (tb w K C) 12 "look_at_first" 7 ["self","sender","house","number"] [] 4 0 [.p 0,.p 1,.p 2,.p 3] [] VW) (Q_zab:MetD P w K mg base (tb w K C) 12 "look_at_readies" 7 ["self","house","number"] [] 3 0 [.p 0,.p 1,.p 2] [] YX) (Q_zba:MetD P w K mg base (tb w K C) 10 "row" 1 ["self"] [] 1 0 [.p 0] [] um) (Q_zbl:MetD P w K mg base (tb w K C) 12 "take" 3 ["self","at"] [] 2 0 [.p 0,.p 1] [] VO) (cl_Letter:Cls K (C 10)):FnOk P w K mg base (CX1 P w) 8 f fd ["self","at"] (spD (tb w K C) VN) :=
 have hT:(tb w K C).K=K:=rfl
 jI F Uf fun cdv A outer s H E hr=>(je (jD (i:=2) Uf.nd rfl (Or.inl rfl) (yt Q_zbl (hr.mono (by decide)) jB (qv 0) (ja (qv 1) jd) jg))
   (je (jet (jX hT cl_Letter nf_Letter_what (qv 2)) (jew hT rfl (xT (yM (i:=3) Uf.nd rfl (Or.inl rfl)) (xT (yM (i:=4) Uf.nd rfl (Or.inl rfl)) jch))))
   (je (yA (jU (YZ hT hr.units) (qv 3) yF (jS _)) (jf (jL (yt Q_zae (hr.mono (by decide)) jB (qv 0) (ja (jX hT cl_Letter nf_Letter_sender (qv 2)) (ja (jX hT cl_Letter nf_Letter_house (qv 2)) (ja (qv 4) jd))) jg))) jG)
   (je (yA (jU (YZ hT hr.units) (qv 3) yF (jS _)) (jf (jL (yt Q_zac (hr.mono (by decide)) jB (qv 0) (ja (jX hT cl_Letter nf_Letter_house (qv 2)) (ja (qv 4) jd)) jg))) jG)
   (je (yA (jU (YZ hT hr.units) (qv 3) yF (jS _)) (jf (jL (yt Q_zab (hr.mono (by decide)) jB (qv 0) (ja (jX hT cl_Letter nf_Letter_house (qv 2)) (ja (qv 4) jd)) jg))) jG)
   (jf (jt (JI Q_zba (hr.mono (by decide)) jB (qv 2) jg))))))))
theorem ok_zav (F:Fun K "_law_letter" "_law_letter" XE f fd) (Q_zbe:CalD P w K mg base (tb w K C) "_law_draw" 1 ["_law_town_here","_law_many"] [] 2 0 [.p 0,.p 1] [] yx) (Q_zbm:MetD P w K mg base (tb w K C) 12 "come" 8 ["self","at"] [] 2 0 [.p 0,.p 1] [] VN) (Q_zas:MetD P w K mg base (tb w K C) 12 "letters" 2 ["self"] [] 1 0 [.p 0] [] VU) (N_len:mg "len" = none):FnOk P w K mg base (CX1 P w) 9 f fd ["_law_town_here","_law_post"] (spD (tb w K C) vW) :=
 have hT:(tb w K C).K=K:=rfl
 jI F jel fun cdv A outer s H E hr=>(je (jD (i:=2) jel.nd rfl (Or.inl rfl) (jj (Ja hT) rfl N_len xB (ja (JI Q_zas (hr.mono (by decide)) jB (qv 1) jg) jd)))
   (jf (jt (Vb (jU (jdl) (qv 2) jm (jS _)) (yt Q_zbm (hr.mono (by decide)) jB (qv 1) (ja (jh Q_zbe (hr.mono (by decide)) rfl jB (ja (qv 0) (ja (qv 2) jd)) jg) jd) jg) uN))))
theorem ok_zbn (F:Fun K "took" "Echo.took" Xn f fd) (nf_Echo_taken:jn K (C 12) "taken") (Q_zaa:MetD P w K mg base (tb w K C) 12 "check_is_honest" 6 ["self","house"] [] 2 0 [.p 0,.p 1] [] Je) (cl_Echo:Cls K (C 12)):FnOk P w K mg base (CX1 P w) 7 f fd ["self","house"] (spD (tb w K C) jaM) :=
 have hT:(tb w K C).K=K:=rfl
 jI F sc_zbn fun cdv A outer s H E hr=>(je (jL (yt Q_zaa (hr.mono (by decide)) jB (qv 0) (ja (qv 1) jd) jg))
   (jf (jt (jdg (hu1 hr) (jX hT cl_Echo nf_Echo_taken (qv 0)) (qv 1) ⟨rfl,rfl,rfl,rfl⟩))))
theorem ok_zbb (F:Fun K "_law_whole" "_law_whole" Xy f fd) (N_bool:mg "bool" = none) (N_int:mg "int" = none) (N_isinstance:mg "isinstance" = none):FnOk P w K mg base (CX1 P w) 1 f fd ["_law_thing"] (spD (tb w K C) JD) :=
 have hT:(tb w K C).K=K:=rfl
 jI F sc_zbb fun cdv A outer s H E hr=>(jf (jt (jbi (jj (VJ hT) rfl N_isinstance jH (ja (qv 0) (ja (jbj rfl N_int jgv) jd))) (jbg (jez (jj (VJ hT) rfl N_isinstance jH (ja (qv 0) (ja (jbj rfl N_bool jcM) jd))))))))
theorem ok_zbc (F:Fun K "stage" "Echo.stage" Xx f fd) (nf_Echo_taken:jn K (C 12) "taken") (Q_zai:MetD P w K mg base (tb w K C) 12 "has_written" 1 ["self","house","word"] [] 3 0 [.p 0,.p 1,.p 2] [] xC) (Q_zaa:MetD P w K mg base (tb w K C) 12 "check_is_honest" 6 ["self","house"] [] 2 0 [.p 0,.p 1] [] Je) (cl_Echo:Cls K (C 12)):FnOk P w K mg base (CX1 P w) 7 f fd ["self","house"] (spD (tb w K C) VQ) :=
 have hT:(tb w K C).K=K:=rfl
 jI F sc_zbc fun cdv A outer s H E hr=>(je (jL (yt Q_zaa (hr.mono (by decide)) jB (qv 0) (ja (qv 1) jd) jg))
   (je (yA (jce (hu1 hr) (qv 1) (jX hT cl_Echo nf_Echo_taken (qv 0)) (by with_unfolding_all rfl)) (jf (jt jm)) jG)
   (je (yA (yY hT (yt Q_zai (hr.mono (by decide)) jB (qv 0) (ja (qv 1) (ja yF jd)) jg)) (jf (jt jm)) jG)
   (jf (jt (Vb (yY hT (yt Q_zai (hr.mono (by decide)) jB (qv 0) (ja (qv 1) (ja yF jd)) jg)) jm jm))))))
theorem ok_law (F:Fun K "law" "law" uh f fd) (Q_zbf:CalD P w K mg base (tb w K C) "_law_crew" 3 ["_law_town_here"] [] 1 0 [.p 0] [] jaO) (Q_zbe:CalD P w K mg base (tb w K C) "_law_draw" 1 ["_law_town_here","_law_many"] [] 2 0 [.p 0,.p 1] [] yx) (Q_zav:CalD P w K mg base (tb w K C) "_law_letter" 9 ["_law_town_here","_law_post"] [] 2 0 [.p 0,.p 1] [] vW) (Q_zbg:CalD P w K mg base (tb w K C) "_law_pick" 2 ["_law_town_here","_law_some"] [] 2 0 [.p 0,.p 1] [] yB) (Q_zaz:CalD P w K mg base (tb w K C) "_law_split" 8 ["_law_town_here","_law_echo","_law_foes","_law_honest","_law_number"] [] 5 0 [.p 0,.p 1,.p 2,.p 3,.p 4] [] VR) (Q_zbd:CalD P w K mg base (tb w K C) "_law_town" 1 ["_law_script"] [] 1 0 [.p 0] [] jaP) (Q_zbb:CalD P w K mg base (tb w K C) "_law_whole" 1 ["_law_thing"] [] 1 0 [.p 0] [] JD) (Q_zbq:MetD P w K mg base (tb w K C) 12 "lie" 7 ["self","liar","house","word","number"] [] 5 0 [.p 0,.p 1,.p 2,.p 3,.p 4] [] ul) (Q_zbk:MetD P w K mg base (tb w K C) 12 "send" 6 ["self","number"] [] 2 0 [.p 0,.p 1] [] VP) (Q_zbc:MetD P w K mg base (tb w K C) 12 "stage" 7 ["self","house"] [] 2 0 [.p 0,.p 1] [] VQ) (Q_zbn:MetD P w K mg base (tb w K C) 12 "took" 7 ["self","house"] [] 2 0 [.p 0,.p 1] [] jaM) (Q_zan_2_few_liars:NewD P w K mg base (tb w K C) 12 "Echo" 7 ["self","houses","few","sender","liars"] ["few","liars"] 2 2 [.p 0,.p 1,.k 0,.d 0,.k 1] [.int 0] Jd) (Q_zan_2_few_sender_liars:NewD P w K mg base (tb w K C) 12 "Echo" 7 ["self","houses","few","sender","liars"] ["few","sender","liars"] 2 3 [.p 0,.p 1,.k 0,.k 1,.k 2] [] Jd) (N_len:mg "len" = none) (N_range:mg "range" = none) (N_set:mg "set" = none):FnOk P w K mg base CX0 10 f fd ["_law_script"] (jdc (tb w K C) (yu 1 15 jaF)) :=
 have hT:(tb w K C).K=K:=rfl
 jcB F yQ fun cdv A outer s H E hr=>(je (jD (i:=1) yQ.nd rfl (Or.inl rfl) (jh Q_zbd (hr.mono (by decide)) rfl jx (ja (qv 0) jd) jg))
   (je (jet (jh Q_zbf (hr.mono (by decide)) rfl jx (ja (qv 1) jd) jg) (jew hT rfl (xT (yM (i:=2) yQ.nd rfl (Or.inl rfl)) (xT (yM (i:=3) yQ.nd rfl (Or.inl rfl)) (xT (yM (i:=4) yQ.nd rfl (Or.inl rfl)) (xT (yM (i:=5) yQ.nd rfl (Or.inl rfl)) jch))))))
   (je (jD (i:=6) yQ.nd rfl (Or.inl rfl) (Vb (QW.qt (vJ (jU (jhD hT hr.units) (qv 4) (vj jd) (jS _)) (vh (jU (YZ hT hr.units) (jh Q_zbe (hr.mono (by decide)) rfl jx (ja (qv 1) (ja jm jd)) jg) jm (jS _))))) (jh Q_zbg (hr.mono (by decide)) rfl jx (ja (qv 1) (ja (qv 4) jd)) jg) (jh Q_zbe (hr.mono (by decide)) rfl jx (ja (qv 1) (ja (qv 3) jd)) jg)))
   (je (jD (i:=7) yQ.nd rfl (Or.inl rfl) (Vb (jU (YZ hT hr.units) (qv 6) jm (jS _)) (jbh Q_zan_2_few_liars (hr.mono (by decide)) rfl jx (ja (qv 3) jd) (vi (qv 2) (vi (qv 4) jg))) (jbh Q_zan_2_few_sender_liars (hr.mono (by decide)) rfl jx (ja (qv 3) jd) (vi (qv 2) (vi (qv 6) (vi (qv 4) jg))))))
   (je (jD (i:=8) yQ.nd rfl (Or.inl rfl) (jh Q_zbe (hr.mono (by decide)) rfl jx (ja (qv 1) (ja jm jd)) jg))
   (je (jD (i:=9) yQ.nd rfl (Or.inl rfl) (Ym (YZ hT hr.units) (jh Q_zbe (hr.mono (by decide)) rfl jx (ja (qv 1) (ja jm jd)) jg) jm (jS _)))
   (je (yA (yY hT (qv 9)) (jf (jL (jh Q_zaz (hr.mono (by decide)) rfl jx (ja (qv 1) (ja (qv 7) (ja (qv 4) (ja (qv 5) (ja (jh Q_zbg (hr.mono (by decide)) rfl jx (ja (qv 1) (ja (vj (ja (qv 8) (ja jm jd))) jd)) jg) jd))))) jg))) jG)
   (je (yA (jU (vn hT (vP hr)) (qv 6) (qv 4) (by with_unfolding_all rfl)) (jf (jL (yt Q_zbk (hr.mono (by decide)) jx (qv 7) (ja (qv 8) jd) jg))) jG)
   (je (jD (i:=10) yQ.nd rfl (Or.inr rfl) Uj)
   (je (uu 200 PassesOwn.never rfl (uL rfl N_range (ja jm jd)) (yM (i:=11) yQ.nd rfl (Or.inl rfl)) (je (yA (QW.qt (vJ (jU (jhD hT hr.units) (qv 4) (vj jd) (jS _)) (vJ (xO (yY hT (qv 9))) (vh (jU (YZ hT hr.units) (jh Q_zbe (hr.mono (by decide)) rfl jx (ja (qv 1) (ja jm jd)) jg) jm (jS _)))))) (je (jD (i:=12) yQ.nd rfl (Or.inl rfl) (jh Q_zbg (hr.mono (by decide)) rfl jx (ja (qv 1) (ja (vj (ja yF (ja yF (ja yF (ja yF jd))))) jd)) jg))
   (jf (jL (yt Q_zbq (hr.mono (by decide)) jx (qv 7) (ja (jh Q_zbg (hr.mono (by decide)) rfl jx (ja (qv 1) (ja (qv 4) jd)) jg) (ja (jh Q_zbg (hr.mono (by decide)) rfl jx (ja (qv 1) (ja (qv 5) jd)) jg) (ja (qv 12) (ja (jh Q_zbg (hr.mono (by decide)) rfl jx (ja (qv 1) (ja (vj (ja (qv 8) (ja jm (ja jm jd)))) jd)) jg) jd)))) jg)))) (jf (jL (jh Q_zav (hr.mono (by decide)) rfl jx (ja (qv 1) (ja (qv 7) jd)) jg))))
   (jf (uu 200 PassesOwn.never rfl (vZ (qv 5)) (yM (i:=13) yQ.nd rfl (Or.inl rfl)) (je (jD (i:=14) yQ.nd rfl (Or.inl rfl) (yt Q_zbn (hr.mono (by decide)) jx (qv 7) (ja (qv 13) jd) jg))
   (je (yA (QW.qt (UW (QW.qt (vJ (jce (hu1 hr) (qv 13) (qv 10) (by with_unfolding_all rfl)) (vh (jU (jhD hT hr.units) (qv 14) (qe_ixK (hu1 hr) (qv 10) (qv 13) (fun _ _=>rfl)) (jS _))))) (Yk (QW.qt (vJ (jU (Ur) (qv 14) uN (jS _)) (vh (xO (yY hT (jh Q_zbb (hr.mono (by decide)) rfl jx (ja (qv 14) jd) jg))))))))) (jf (jt jhf)) jG)
   (je (yA (jU (Ur) (qv 14) uN (jS _)) (jf (UX (hu1 hr) (qv 14) (qv 10) (qv 13))) jG)
   (jf (yA (QW.qt (UW (jU (jhD hT hr.units) (Ym (Ur) (qv 14) uN (jS _)) (Ym (YZ hT hr.units) (yt Q_zbc (hr.mono (by decide)) jx (qv 7) (ja (qv 13) jd) jg) jm (jS _)) (jS _)) (Yk (QW.qt (vJ (jU (vn hT (vP hr)) (qv 6) (qv 4) (by with_unfolding_all rfl)) (vh (jU (vn hT (vP hr)) (qv 14) (vK (ja uN (ja (qv 8) jd))) (by with_unfolding_all rfl)))))))) (jf (jt jhf)) jG)))))))))
   (jf (jt (Ym (jhE) (jha hT rfl rfl N_len xB rfl N_set rfl (jex (osc:=(jc uh)) (xd:="_law_taken") (xh:="_law_house") (i:=10) (hu1 hr) rfl rfl (by exact ⟨rfl,by decide +kernel,by decide +kernel,by decide +kernel,by decide +kernel,by decide +kernel⟩) rfl (Um rfl (by first | exact Or.inl rfl | exact Or.inr (Or.inl rfl) | exact Or.inr (Or.inr rfl))) (fun _ _ _=>(jJ (i:=0) (show List.Nodup (["_law_house","_law_taken"]:List Str) from by decide +kernel) rfl (Or.inl rfl))) (fun _ _ _=>(Um rfl (by first | exact Or.inl rfl | exact Or.inr (Or.inl rfl) | exact Or.inr (Or.inr rfl)))) (fun _ _ _=>(Um rfl (by first | exact Or.inl rfl | exact Or.inr (Or.inl rfl) | exact Or.inr (Or.inr rfl)))) (fun _ _=>rfl))) jm (jS _))))))))))))))
end
theorem ln0 {α:Type}:∀ {us:List α},us.length=0->us=[]
 | [],_=>rfl
theorem ln1 {α:Type} {us:List α} (h:us.length=1):∃ u0,us=[u0]:=by
 cases us with
 | nil=>cases h
 | cons x0 us=>exact ⟨x0,by rw [ln0 (Nat.succ.inj h)]⟩
theorem ln2 {α:Type} {us:List α} (h:us.length=2):∃ u0 u1,us=[u0,u1]:=by
 cases us with
 | nil=>cases h
 | cons x0 us=>obtain ⟨v0,e⟩:=ln1 (Nat.succ.inj h); exact ⟨x0,v0,by rw [e]⟩
theorem ln3 {α:Type} {us:List α} (h:us.length=3):∃ u0 u1 u2,us=[u0,u1,u2]:=by
 cases us with
 | nil=>cases h
 | cons x0 us=>obtain ⟨v0,v1,e⟩:=ln2 (Nat.succ.inj h); exact ⟨x0,v0,v1,by rw [e]⟩
theorem ln4 {α:Type} {us:List α} (h:us.length=4):∃ u0 u1 u2 u3,us=[u0,u1,u2,u3]:=by
 cases us with
 | nil=>cases h
 | cons x0 us=>obtain ⟨v0,v1,v2,e⟩:=ln3 (Nat.succ.inj h); exact ⟨x0,v0,v1,v2,by rw [e]⟩
theorem ln5 {α:Type} {us:List α} (h:us.length=5):∃ u0 u1 u2 u3 u4,us=[u0,u1,u2,u3,u4]:=by
 cases us with
 | nil=>cases h
 | cons x0 us=>obtain ⟨v0,v1,v2,v3,e⟩:=ln4 (Nat.succ.inj h); exact ⟨x0,v0,v1,v2,v3,by rw [e]⟩
def S0:Sto:=⟨0,fun _=>none⟩
def Ub (K:PySem.W.Frag):Sp:=fun vs H Q _=>∃ (a:Addr) (ns:List Int),vs=[.ref a]∧SqL K H a (ns.map V.int)∧ns.length<=63∧∀ H',Q (.bl true) H'
theorem law_sp {P:Program} {w:World} {K:PySem.W.Frag} {mg:Str->Option Value} {base:Heap} {C:Nat->Addr} {f:Addr} {fd:FuncData} (h:FnOk P w K mg base CX0 10 f fd ["_law_script"] (jdc (tb w K C) (yu 1 15 jaF))):FnOk P w K mg base CX0 10 f fd ["_law_script"] (Ub K):=h.imp fun vs H Q E ⟨a,ns,e,hq,hl,q⟩=>by
 subst e;obtain ⟨M',e⟩:=law_true ns hl;exact ⟨⟨tb w K C,H,fun _=>none,fun _=>none⟩,[.scr ns],S0,.bl true,M',rfl,⟨fun _ _ e=>e,(fun _ _ e=>nomatch e),(fun _ _ _ _ _ e=>nomatch e),fun _ _=>rfl,(fun _ _ e=>nomatch e),(fun _ _ e=>nomatch e)⟩,⟨.ref a,[],rfl,⟨a,rfl,hq,hl⟩,rfl⟩,e,fun W' H' u _ _ r=>by cases r; exact q H'⟩
theorem all_mk {l:PySem.W.OpenLaw} {w:World} {K:PySem.W.Frag} {h:Heap} {mg:Str->Option Value} {fa:Addr} (X:K.In h) (G:h.Ns mainGlobals mg) (hfa:mg "law" = some (.ref fa))
  {c_Echo:Addr}
  {c_Letter:Addr}
  {c_Post:Addr}
  {f_zbd:Addr} {od_zbd an_zbd:Option Addr} {sl_zbd:Array (Option Value)} {oc_zbd kV_zbd dc_zbd pm_zbd cd_zbd ct_zbd:Value}
  {f_zbe:Addr} {od_zbe an_zbe:Option Addr} {sl_zbe:Array (Option Value)} {oc_zbe kV_zbe dc_zbe pm_zbe cd_zbe ct_zbe:Value}
  {f_zaw:Addr} {od_zaw an_zaw:Option Addr} {sl_zaw:Array (Option Value)} {oc_zaw kV_zaw dc_zaw pm_zaw cd_zaw ct_zaw:Value}
  {f_zbf:Addr} {od_zbf an_zbf:Option Addr} {sl_zbf:Array (Option Value)} {oc_zbf kV_zbf dc_zbf pm_zbf cd_zbf ct_zbf:Value}
  {f_zbg:Addr} {od_zbg an_zbg:Option Addr} {sl_zbg:Array (Option Value)} {oc_zbg kV_zbg dc_zbg pm_zbg cd_zbg ct_zbg:Value}
  {f_zbo:Addr} {od_zbo an_zbo:Option Addr} {sl_zbo:Array (Option Value)} {oc_zbo kV_zbo dc_zbo pm_zbo cd_zbo ct_zbo:Value}
  {f_zbh:Addr} {od_zbh an_zbh:Option Addr} {sl_zbh:Array (Option Value)} {oc_zbh kV_zbh dc_zbh pm_zbh cd_zbh ct_zbh:Value}
  {f_zap:Addr} {od_zap an_zap:Option Addr} {sl_zap:Array (Option Value)} {oc_zap kV_zap dc_zap pm_zap cd_zap ct_zap:Value}
  {f_zaq:Addr} {od_zaq an_zaq:Option Addr} {sl_zaq:Array (Option Value)} {oc_zaq kV_zaq dc_zaq pm_zaq cd_zaq ct_zaq:Value}
  {f_zbi:Addr} {od_zbi an_zbi:Option Addr} {sl_zbi:Array (Option Value)} {oc_zbi kV_zbi dc_zbi pm_zbi cd_zbi ct_zbi:Value}
  {f_zbp:Addr} {od_zbp an_zbp:Option Addr} {sl_zbp:Array (Option Value)} {oc_zbp kV_zbp dc_zbp pm_zbp cd_zbp ct_zbp:Value}
  {f_zbj:Addr} {od_zbj an_zbj:Option Addr} {sl_zbj:Array (Option Value)} {oc_zbj kV_zbj dc_zbj pm_zbj cd_zbj ct_zbj:Value}
  {f_zaf:Addr} {od_zaf an_zaf:Option Addr} {sl_zaf:Array (Option Value)} {oc_zaf kV_zaf dc_zaf pm_zaf cd_zaf ct_zaf:Value}
  {f_zam:Addr} {od_zam an_zam:Option Addr} {sl_zam:Array (Option Value)} {oc_zam kV_zam dc_zam pm_zam cd_zam ct_zam:Value}
  {f_zat:Addr} {od_zat an_zat:Option Addr} {sl_zat:Array (Option Value)} {oc_zat kV_zat dc_zat pm_zat cd_zat ct_zat:Value}
  {f_zan:Addr} {od_zan an_zan:Option Addr} {sl_zan:Array (Option Value)} {oc_zan  dc_zan pm_zan cd_zan ct_zan:Value}
  {kd_zan:Addr}
  {tt_zan_sender:Tok}
  {tu_zan_liars:Addr} {tq_zan_liars:Option Addr} {tn_zan_liars:Nat} {ts_zan_liars:Array (Option Value)}
  {f_zad:Addr} {od_zad an_zad:Option Addr} {sl_zad:Array (Option Value)} {oc_zad kV_zad dc_zad pm_zad cd_zad ct_zad:Value}
  {f_zar:Addr} {od_zar an_zar:Option Addr} {sl_zar:Array (Option Value)} {oc_zar kV_zar dc_zar pm_zar cd_zar ct_zar:Value}
  {f_zaa:Addr} {od_zaa an_zaa:Option Addr} {sl_zaa:Array (Option Value)} {oc_zaa kV_zaa dc_zaa pm_zaa cd_zaa ct_zaa:Value}
  {f_zax:Addr} {od_zax an_zax:Option Addr} {sl_zax:Array (Option Value)} {oc_zax kV_zax dc_zax pm_zax cd_zax ct_zax:Value}
  {f_zag:Addr} {od_zag an_zag:Option Addr} {sl_zag:Array (Option Value)} {oc_zag kV_zag dc_zag pm_zag cd_zag ct_zag:Value}
  {f_zaj:Addr} {od_zaj an_zaj:Option Addr} {sl_zaj:Array (Option Value)} {oc_zaj kV_zaj dc_zaj pm_zaj cd_zaj ct_zaj:Value}
  {f_zay:Addr} {od_zay an_zay:Option Addr} {sl_zay:Array (Option Value)} {oc_zay kV_zay dc_zay pm_zay cd_zay ct_zay:Value}
  {f_zbq:Addr} {od_zbq an_zbq:Option Addr} {sl_zbq:Array (Option Value)} {oc_zbq kV_zbq dc_zbq pm_zbq cd_zbq ct_zbq:Value}
  {f_zaz:Addr} {od_zaz an_zaz:Option Addr} {sl_zaz:Array (Option Value)} {oc_zaz kV_zaz dc_zaz pm_zaz cd_zaz ct_zaz:Value}
  {f_zai:Addr} {od_zai an_zai:Option Addr} {sl_zai:Array (Option Value)} {oc_zai kV_zai dc_zai pm_zai cd_zai ct_zai:Value}
  {f_zau:Addr} {od_zau an_zau:Option Addr} {sl_zau:Array (Option Value)} {oc_zau kV_zau dc_zau pm_zau cd_zau ct_zau:Value}
  {f_zah:Addr} {od_zah an_zah:Option Addr} {sl_zah:Array (Option Value)} {oc_zah kV_zah dc_zah pm_zah cd_zah ct_zah:Value}
  {f_zak:Addr} {od_zak an_zak:Option Addr} {sl_zak:Array (Option Value)} {oc_zak kV_zak dc_zak pm_zak cd_zak ct_zak:Value}
  {f_zbk:Addr} {od_zbk an_zbk:Option Addr} {sl_zbk:Array (Option Value)} {oc_zbk kV_zbk dc_zbk pm_zbk cd_zbk ct_zbk:Value}
  {f_zba:Addr} {od_zba an_zba:Option Addr} {sl_zba:Array (Option Value)} {oc_zba kV_zba dc_zba pm_zba cd_zba ct_zba:Value}
  {f_zas:Addr} {od_zas an_zas:Option Addr} {sl_zas:Array (Option Value)} {oc_zas kV_zas dc_zas pm_zas cd_zas ct_zas:Value}
  {f_zbl:Addr} {od_zbl an_zbl:Option Addr} {sl_zbl:Array (Option Value)} {oc_zbl kV_zbl dc_zbl pm_zbl cd_zbl ct_zbl:Value}
  {f_zal:Addr} {od_zal an_zal:Option Addr} {sl_zal:Array (Option Value)} {oc_zal kV_zal dc_zal pm_zal cd_zal ct_zal:Value}
  {f_zae:Addr} {od_zae an_zae:Option Addr} {sl_zae:Array (Option Value)} {oc_zae kV_zae dc_zae pm_zae cd_zae ct_zae:Value}
  {f_zao:Addr} {od_zao an_zao:Option Addr} {sl_zao:Array (Option Value)} {oc_zao kV_zao dc_zao pm_zao cd_zao ct_zao:Value}
  {f_zac:Addr} {od_zac an_zac:Option Addr} {sl_zac:Array (Option Value)} {oc_zac kV_zac dc_zac pm_zac cd_zac ct_zac:Value}
  {f_zab:Addr} {od_zab an_zab:Option Addr} {sl_zab:Array (Option Value)} {oc_zab kV_zab dc_zab pm_zab cd_zab ct_zab:Value}
  {f_zbm:Addr} {od_zbm an_zbm:Option Addr} {sl_zbm:Array (Option Value)} {oc_zbm kV_zbm dc_zbm pm_zbm cd_zbm ct_zbm:Value}
  {f_zav:Addr} {od_zav an_zav:Option Addr} {sl_zav:Array (Option Value)} {oc_zav kV_zav dc_zav pm_zav cd_zav ct_zav:Value}
  {f_zbn:Addr} {od_zbn an_zbn:Option Addr} {sl_zbn:Array (Option Value)} {oc_zbn kV_zbn dc_zbn pm_zbn cd_zbn ct_zbn:Value}
  {f_zbb:Addr} {od_zbb an_zbb:Option Addr} {sl_zbb:Array (Option Value)} {oc_zbb kV_zbb dc_zbb pm_zbb cd_zbb ct_zbb:Value}
  {f_zbc:Addr} {od_zbc an_zbc:Option Addr} {sl_zbc:Array (Option Value)} {oc_zbc kV_zbc dc_zbc pm_zbc cd_zbc ct_zbc:Value}
  {f_law:Addr} {od_law an_law:Option Addr} {sl_law:Array (Option Value)} {oc_law kV_law dc_law pm_law cd_law ct_law:Value}
  {t_LAST_WORD_NUMBER:Tok}
  {t_MOST_FEW:Tok}
  {t_MOST_HOUSES:Tok}
  {c_WORDS:Addr} {its_WORDS:Array Value} {tn_WORDS:Nat} {tq_WORDS:Option Addr} {ts_WORDS:Array (Option Value)}
  {c_BadNumber:Addr}
  {c_BadLies:Addr}
  {c_BadHouses:Addr}
  {c_NoHouse:Addr}
  {c_NoLetter:Addr}
  {c_NotNow:Addr}
  {c_LiarError:Addr}
  (a_Echo:PySem.W.nsIn K mainGlobals "Echo" = some (some (.ref c_Echo)))
  (o_Echo_pg:PySem.W.plainGet K c_Echo Str.empty=true)
  (o_Echo_hd:PySem.W.hasDictIn K c_Echo=true)
  (o_Echo_po:PySem.W.plainOver K c_Echo=true)
  (o_Echo_sa:PySem.W.findIn K (.ref c_Echo) "__setattr__" = some (some (.builtin "object.__setattr__")))
  (o_Echo_mk:PySem.W.makesIn K c_Echo=true)
  (o_Echo_kp:PySem.W.keepIn K (.ref c_Echo)=true)
  (o_Echo_n_few:PySem.W.findIn K (.ref c_Echo) "few" = some none)
  (o_Echo_n_got:PySem.W.findIn K (.ref c_Echo) "got" = some none)
  (o_Echo_n_houses:PySem.W.findIn K (.ref c_Echo) "houses" = some none)
  (o_Echo_n_liars:PySem.W.findIn K (.ref c_Echo) "liars" = some none)
  (o_Echo_n_on_way:PySem.W.findIn K (.ref c_Echo) "on_way" = some none)
  (o_Echo_n_sender:PySem.W.findIn K (.ref c_Echo) "sender" = some none)
  (o_Echo_n_taken:PySem.W.findIn K (.ref c_Echo) "taken" = some none)
  (o_Echo_n_written:PySem.W.findIn K (.ref c_Echo) "written" = some none)
  (a_Letter:PySem.W.nsIn K mainGlobals "Letter" = some (some (.ref c_Letter)))
  (o_Letter_pg:PySem.W.plainGet K c_Letter Str.empty=true)
  (o_Letter_hd:PySem.W.hasDictIn K c_Letter=true)
  (o_Letter_po:PySem.W.plainOver K c_Letter=true)
  (o_Letter_sa:PySem.W.findIn K (.ref c_Letter) "__setattr__" = some (some (.builtin "object.__setattr__")))
  (o_Letter_mk:PySem.W.makesIn K c_Letter=true)
  (o_Letter_kp:PySem.W.keepIn K (.ref c_Letter)=true)
  (o_Letter_n_due:PySem.W.findIn K (.ref c_Letter) "due" = some none)
  (o_Letter_n_house:PySem.W.findIn K (.ref c_Letter) "house" = some none)
  (o_Letter_n_sender:PySem.W.findIn K (.ref c_Letter) "sender" = some none)
  (o_Letter_n_what:PySem.W.findIn K (.ref c_Letter) "what" = some none)
  (a_Post:PySem.W.nsIn K mainGlobals "Post" = some (some (.ref c_Post)))
  (o_Post_pg:PySem.W.plainGet K c_Post Str.empty=true)
  (o_Post_hd:PySem.W.hasDictIn K c_Post=true)
  (o_Post_po:PySem.W.plainOver K c_Post=true)
  (o_Post_sa:PySem.W.findIn K (.ref c_Post) "__setattr__" = some (some (.builtin "object.__setattr__")))
  (o_Post_mk:PySem.W.makesIn K c_Post=true)
  (o_Post_kp:PySem.W.keepIn K (.ref c_Post)=true)
  (a_zbd:PySem.W.nsIn K mainGlobals "_law_town" = some (some (.ref f_zbd)))
  (l_zbd:K.lookup f_zbd=some ⟨oc_zbd,od_zbd,.func (PySem.W.fnOf "_law_town" "_law_town" (jl Xw) (ji Xw) (jc Xw) .none kV_zbd dc_zbd pm_zbd an_zbd cd_zbd ct_zbd),sl_zbd⟩)
  (c_zbd:PySem.W.codeIn K cd_zbd "_law_town" = true)
  (k_zbd:PySem.W.keepIn K (.ref f_zbd)=true)
  (a_zbe:PySem.W.nsIn K mainGlobals "_law_draw" = some (some (.ref f_zbe)))
  (l_zbe:K.lookup f_zbe=some ⟨oc_zbe,od_zbe,.func (PySem.W.fnOf "_law_draw" "_law_draw" (jl Xv) (ji Xv) (jc Xv) .none kV_zbe dc_zbe pm_zbe an_zbe cd_zbe ct_zbe),sl_zbe⟩)
  (c_zbe:PySem.W.codeIn K cd_zbe "_law_draw" = true)
  (k_zbe:PySem.W.keepIn K (.ref f_zbe)=true)
  (a_zaw:PySem.W.nsIn K mainGlobals "_law_liars" = some (some (.ref f_zaw)))
  (l_zaw:K.lookup f_zaw=some ⟨oc_zaw,od_zaw,.func (PySem.W.fnOf "_law_liars" "_law_liars" (jl XD) (ji XD) (jc XD) .none kV_zaw dc_zaw pm_zaw an_zaw cd_zaw ct_zaw),sl_zaw⟩)
  (c_zaw:PySem.W.codeIn K cd_zaw "_law_liars" = true)
  (k_zaw:PySem.W.keepIn K (.ref f_zaw)=true)
  (a_zbf:PySem.W.nsIn K mainGlobals "_law_crew" = some (some (.ref f_zbf)))
  (l_zbf:K.lookup f_zbf=some ⟨oc_zbf,od_zbf,.func (PySem.W.fnOf "_law_crew" "_law_crew" (jl Yb) (ji Yb) (jc Yb) .none kV_zbf dc_zbf pm_zbf an_zbf cd_zbf ct_zbf),sl_zbf⟩)
  (c_zbf:PySem.W.codeIn K cd_zbf "_law_crew" = true)
  (k_zbf:PySem.W.keepIn K (.ref f_zbf)=true)
  (a_zbg:PySem.W.nsIn K mainGlobals "_law_pick" = some (some (.ref f_zbg)))
  (l_zbg:K.lookup f_zbg=some ⟨oc_zbg,od_zbg,.func (PySem.W.fnOf "_law_pick" "_law_pick" (jl Xu) (ji Xu) (jc Xu) .none kV_zbg dc_zbg pm_zbg an_zbg cd_zbg ct_zbg),sl_zbg⟩)
  (c_zbg:PySem.W.codeIn K cd_zbg "_law_pick" = true)
  (k_zbg:PySem.W.keepIn K (.ref f_zbg)=true)
  (a_zbo:PySem.W.nsIn K mainGlobals "is_whole" = some (some (.ref f_zbo)))
  (l_zbo:K.lookup f_zbo=some ⟨oc_zbo,od_zbo,.func (PySem.W.fnOf "is_whole" "is_whole" (jl Xm) (ji Xm) (jc Xm) .none kV_zbo dc_zbo pm_zbo an_zbo cd_zbo ct_zbo),sl_zbo⟩)
  (c_zbo:PySem.W.codeIn K cd_zbo "is_whole" = true)
  (k_zbo:PySem.W.keepIn K (.ref f_zbo)=true)
  (a_zbh:PySem.W.nsIn K mainGlobals "is_within" = some (some (.ref f_zbh)))
  (l_zbh:K.lookup f_zbh=some ⟨oc_zbh,od_zbh,.func (PySem.W.fnOf "is_within" "is_within" (jl Xs) (ji Xs) (jc Xs) .none kV_zbh dc_zbh pm_zbh an_zbh cd_zbh ct_zbh),sl_zbh⟩)
  (c_zbh:PySem.W.codeIn K cd_zbh "is_within" = true)
  (k_zbh:PySem.W.keepIn K (.ref f_zbh)=true)
  (a_zap:PySem.W.nsIn K mainGlobals "check_within" = some (some (.ref f_zap)))
  (l_zap:K.lookup f_zap=some ⟨oc_zap,od_zap,.func (PySem.W.fnOf "check_within" "check_within" (jl XI) (ji XI) (jc XI) .none kV_zap dc_zap pm_zap an_zap cd_zap ct_zap),sl_zap⟩)
  (c_zap:PySem.W.codeIn K cd_zap "check_within" = true)
  (k_zap:PySem.W.keepIn K (.ref f_zap)=true)
  (a_zaq:PySem.W.nsIn K mainGlobals "check_houses" = some (some (.ref f_zaq)))
  (l_zaq:K.lookup f_zaq=some ⟨oc_zaq,od_zaq,.func (PySem.W.fnOf "check_houses" "check_houses" (jl XH) (ji XH) (jc XH) .none kV_zaq dc_zaq pm_zaq an_zaq cd_zaq ct_zaq),sl_zaq⟩)
  (c_zaq:PySem.W.codeIn K cd_zaq "check_houses" = true)
  (k_zaq:PySem.W.keepIn K (.ref f_zaq)=true)
  (a_zbi:PySem.W.nsIn K mainGlobals "check_few" = some (some (.ref f_zbi)))
  (l_zbi:K.lookup f_zbi=some ⟨oc_zbi,od_zbi,.func (PySem.W.fnOf "check_few" "check_few" (jl Xr) (ji Xr) (jc Xr) .none kV_zbi dc_zbi pm_zbi an_zbi cd_zbi ct_zbi),sl_zbi⟩)
  (c_zbi:PySem.W.codeIn K cd_zbi "check_few" = true)
  (k_zbi:PySem.W.keepIn K (.ref f_zbi)=true)
  (a_zbp:PySem.W.nsIn K mainGlobals "is_house" = some (some (.ref f_zbp)))
  (l_zbp:K.lookup f_zbp=some ⟨oc_zbp,od_zbp,.func (PySem.W.fnOf "is_house" "is_house" (jl Xl) (ji Xl) (jc Xl) .none kV_zbp dc_zbp pm_zbp an_zbp cd_zbp ct_zbp),sl_zbp⟩)
  (c_zbp:PySem.W.codeIn K cd_zbp "is_house" = true)
  (k_zbp:PySem.W.keepIn K (.ref f_zbp)=true)
  (a_zbj:PySem.W.nsIn K mainGlobals "is_rising" = some (some (.ref f_zbj)))
  (l_zbj:K.lookup f_zbj=some ⟨oc_zbj,od_zbj,.func (PySem.W.fnOf "is_rising" "is_rising" (jl JZ) (ji JZ) (jc JZ) .none kV_zbj dc_zbj pm_zbj an_zbj cd_zbj ct_zbj),sl_zbj⟩)
  (c_zbj:PySem.W.codeIn K cd_zbj "is_rising" = true)
  (k_zbj:PySem.W.keepIn K (.ref f_zbj)=true)
  (a_zaf:PySem.W.nsIn K mainGlobals "check_some_houses" = some (some (.ref f_zaf)))
  (l_zaf:K.lookup f_zaf=some ⟨oc_zaf,od_zaf,.func (PySem.W.fnOf "check_some_houses" "check_some_houses" (jl Ye) (ji Ye) (jc Ye) .none kV_zaf dc_zaf pm_zaf an_zaf cd_zaf ct_zaf),sl_zaf⟩)
  (c_zaf:PySem.W.codeIn K cd_zaf "check_some_houses" = true)
  (k_zaf:PySem.W.keepIn K (.ref f_zaf)=true)
  (a_zam:PySem.W.findIn K (.ref c_Post) "__init__" = some (some (.ref f_zam)))
  (i_zam:PySem.W.isFn K (.ref f_zam)=true)
  (l_zam:K.lookup f_zam=some ⟨oc_zam,od_zam,.func (PySem.W.fnOf "__init__" "Post.__init__" (jl XN) (ji XN) (jc XN) .none kV_zam dc_zam pm_zam an_zam cd_zam ct_zam),sl_zam⟩)
  (c_zam:PySem.W.codeIn K cd_zam "Post.__init__" = true)
  (k_zam:PySem.W.keepIn K (.ref f_zam)=true)
  (q_zam_rd:PySem.W.readsIn K c_Post (.type "type")=true)
  (q_zam_fc:PySem.W.findCls K (.ref c_Post) (.type "type") "__init__" = some (.val (.ref f_zam)))
  (q_zam_sp:PySem.W.specialIn K (.ref c_Post) "__getattribute__" = some (some (.builtin "type.__getattribute__")))
  (a_zat:PySem.W.nsIn K mainGlobals "check_house" = some (some (.ref f_zat)))
  (l_zat:K.lookup f_zat=some ⟨oc_zat,od_zat,.func (PySem.W.fnOf "check_house" "check_house" (jl XF) (ji XF) (jc XF) .none kV_zat dc_zat pm_zat an_zat cd_zat ct_zat),sl_zat⟩)
  (c_zat:PySem.W.codeIn K cd_zat "check_house" = true)
  (k_zat:PySem.W.keepIn K (.ref f_zat)=true)
  (a_zan:PySem.W.findIn K (.ref c_Echo) "__init__" = some (some (.ref f_zan)))
  (i_zan:PySem.W.isFn K (.ref f_zan)=true)
  (l_zan:K.lookup f_zan=some ⟨oc_zan,od_zan,.func (PySem.W.fnOf "__init__" "Echo.__init__" (jl XM) (ji XM) (jc XM) .none (.ref kd_zan) dc_zan pm_zan an_zan cd_zan ct_zan),sl_zan⟩)
  (c_zan:PySem.W.codeIn K cd_zan "Echo.__init__" = true)
  (k_zan:PySem.W.keepIn K (.ref f_zan)=true)
  (kd_zan_sender:PySem.W.nsIn K kd_zan "sender" = some (some (.int 0 tt_zan_sender)))
  (kd_zan_liars:PySem.W.nsIn K kd_zan "liars" = some (some (.ref tu_zan_liars)))
  (tu_zan_liars_o:K.lookup tu_zan_liars=some ⟨.type "tuple",tq_zan_liars,.seq #[] tn_zan_liars,ts_zan_liars⟩)
  (a_zad:PySem.W.findIn K (.ref c_Echo) "check_is_liar" = some (some (.ref f_zad)))
  (i_zad:PySem.W.isFn K (.ref f_zad)=true)
  (l_zad:K.lookup f_zad=some ⟨oc_zad,od_zad,.func (PySem.W.fnOf "check_is_liar" "Post.check_is_liar" (jl XW) (ji XW) (jc XW) .none kV_zad dc_zad pm_zad an_zad cd_zad ct_zad),sl_zad⟩)
  (c_zad:PySem.W.codeIn K cd_zad "Post.check_is_liar" = true)
  (k_zad:PySem.W.keepIn K (.ref f_zad)=true)
  (a_zar:PySem.W.nsIn K mainGlobals "check_honest" = some (some (.ref f_zar)))
  (l_zar:K.lookup f_zar=some ⟨oc_zar,od_zar,.func (PySem.W.fnOf "check_honest" "check_honest" (jl XG) (ji XG) (jc XG) .none kV_zar dc_zar pm_zar an_zar cd_zar ct_zar),sl_zar⟩)
  (c_zar:PySem.W.codeIn K cd_zar "check_honest" = true)
  (k_zar:PySem.W.keepIn K (.ref f_zar)=true)
  (a_zaa:PySem.W.findIn K (.ref c_Echo) "check_is_honest" = some (some (.ref f_zaa)))
  (i_zaa:PySem.W.isFn K (.ref f_zaa)=true)
  (l_zaa:K.lookup f_zaa=some ⟨oc_zaa,od_zaa,.func (PySem.W.fnOf "check_is_honest" "Post.check_is_honest" (jl XZ) (ji XZ) (jc XZ) .none kV_zaa dc_zaa pm_zaa an_zaa cd_zaa ct_zaa),sl_zaa⟩)
  (c_zaa:PySem.W.codeIn K cd_zaa "Post.check_is_honest" = true)
  (k_zaa:PySem.W.keepIn K (.ref f_zaa)=true)
  (a_zax:PySem.W.nsIn K mainGlobals "check_word" = some (some (.ref f_zax)))
  (l_zax:K.lookup f_zax=some ⟨oc_zax,od_zax,.func (PySem.W.fnOf "check_word" "check_word" (jl XC) (ji XC) (jc XC) .none kV_zax dc_zax pm_zax an_zax cd_zax ct_zax),sl_zax⟩)
  (c_zax:PySem.W.codeIn K cd_zax "check_word" = true)
  (k_zax:PySem.W.keepIn K (.ref f_zax)=true)
  (a_zag:PySem.W.nsIn K mainGlobals "check_word_number" = some (some (.ref f_zag)))
  (l_zag:K.lookup f_zag=some ⟨oc_zag,od_zag,.func (PySem.W.fnOf "check_word_number" "check_word_number" (jl XU) (ji XU) (jc XU) .none kV_zag dc_zag pm_zag an_zag cd_zag ct_zag),sl_zag⟩)
  (c_zag:PySem.W.codeIn K cd_zag "check_word_number" = true)
  (k_zag:PySem.W.keepIn K (.ref f_zag)=true)
  (a_zaj:PySem.W.findIn K (.ref c_Letter) "__init__" = some (some (.ref f_zaj)))
  (i_zaj:PySem.W.isFn K (.ref f_zaj)=true)
  (l_zaj:K.lookup f_zaj=some ⟨oc_zaj,od_zaj,.func (PySem.W.fnOf "__init__" "Letter.__init__" (jl XR) (ji XR) (jc XR) .none kV_zaj dc_zaj pm_zaj an_zaj cd_zaj ct_zaj),sl_zaj⟩)
  (c_zaj:PySem.W.codeIn K cd_zaj "Letter.__init__" = true)
  (k_zaj:PySem.W.keepIn K (.ref f_zaj)=true)
  (a_zay:PySem.W.findIn K (.ref c_Echo) "write" = some (some (.ref f_zay)))
  (i_zay:PySem.W.isFn K (.ref f_zay)=true)
  (l_zay:K.lookup f_zay=some ⟨oc_zay,od_zay,.func (PySem.W.fnOf "write" "Post.write" (jl XB) (ji XB) (jc XB) .none kV_zay dc_zay pm_zay an_zay cd_zay ct_zay),sl_zay⟩)
  (c_zay:PySem.W.codeIn K cd_zay "Post.write" = true)
  (k_zay:PySem.W.keepIn K (.ref f_zay)=true)
  (a_zbq:PySem.W.findIn K (.ref c_Echo) "lie" = some (some (.ref f_zbq)))
  (i_zbq:PySem.W.isFn K (.ref f_zbq)=true)
  (l_zbq:K.lookup f_zbq=some ⟨oc_zbq,od_zbq,.func (PySem.W.fnOf "lie" "Echo.lie" (jl Xk) (ji Xk) (jc Xk) .none kV_zbq dc_zbq pm_zbq an_zbq cd_zbq ct_zbq),sl_zbq⟩)
  (c_zbq:PySem.W.codeIn K cd_zbq "Echo.lie" = true)
  (k_zbq:PySem.W.keepIn K (.ref f_zbq)=true)
  (a_zaz:PySem.W.nsIn K mainGlobals "_law_split" = some (some (.ref f_zaz)))
  (l_zaz:K.lookup f_zaz=some ⟨oc_zaz,od_zaz,.func (PySem.W.fnOf "_law_split" "_law_split" (jl XA) (ji XA) (jc XA) .none kV_zaz dc_zaz pm_zaz an_zaz cd_zaz ct_zaz),sl_zaz⟩)
  (c_zaz:PySem.W.codeIn K cd_zaz "_law_split" = true)
  (k_zaz:PySem.W.keepIn K (.ref f_zaz)=true)
  (a_zai:PySem.W.findIn K (.ref c_Echo) "has_written" = some (some (.ref f_zai)))
  (i_zai:PySem.W.isFn K (.ref f_zai)=true)
  (l_zai:K.lookup f_zai=some ⟨oc_zai,od_zai,.func (PySem.W.fnOf "has_written" "Echo.has_written" (jl XS) (ji XS) (jc XS) .none kV_zai dc_zai pm_zai an_zai cd_zai ct_zai),sl_zai⟩)
  (c_zai:PySem.W.codeIn K cd_zai "Echo.has_written" = true)
  (k_zai:PySem.W.keepIn K (.ref f_zai)=true)
  (a_zau:PySem.W.findIn K (.ref c_Echo) "honest" = some (some (.ref f_zau)))
  (i_zau:PySem.W.isFn K (.ref f_zau)=true)
  (l_zau:K.lookup f_zau=some ⟨oc_zau,od_zau,.func (PySem.W.fnOf "honest" "Post.honest" (jl Yc) (ji Yc) (jc Yc) .none kV_zau dc_zau pm_zau an_zau cd_zau ct_zau),sl_zau⟩)
  (c_zau:PySem.W.codeIn K cd_zau "Post.honest" = true)
  (k_zau:PySem.W.keepIn K (.ref f_zau)=true)
  (a_zah:PySem.W.findIn K (.ref c_Echo) "write_to_all" = some (some (.ref f_zah)))
  (i_zah:PySem.W.isFn K (.ref f_zah)=true)
  (l_zah:K.lookup f_zah=some ⟨oc_zah,od_zah,.func (PySem.W.fnOf "write_to_all" "Post.write_to_all" (jl XT) (ji XT) (jc XT) .none kV_zah dc_zah pm_zah an_zah cd_zah ct_zah),sl_zah⟩)
  (c_zah:PySem.W.codeIn K cd_zah "Post.write_to_all" = true)
  (k_zah:PySem.W.keepIn K (.ref f_zah)=true)
  (a_zak:PySem.W.findIn K (.ref c_Echo) "write_word" = some (some (.ref f_zak)))
  (i_zak:PySem.W.isFn K (.ref f_zak)=true)
  (l_zak:K.lookup f_zak=some ⟨oc_zak,od_zak,.func (PySem.W.fnOf "write_word" "Echo.write_word" (jl XQ) (ji XQ) (jc XQ) .none kV_zak dc_zak pm_zak an_zak cd_zak ct_zak),sl_zak⟩)
  (c_zak:PySem.W.codeIn K cd_zak "Echo.write_word" = true)
  (k_zak:PySem.W.keepIn K (.ref f_zak)=true)
  (a_zbk:PySem.W.findIn K (.ref c_Echo) "send" = some (some (.ref f_zbk)))
  (i_zbk:PySem.W.isFn K (.ref f_zbk)=true)
  (l_zbk:K.lookup f_zbk=some ⟨oc_zbk,od_zbk,.func (PySem.W.fnOf "send" "Echo.send" (jl Xq) (ji Xq) (jc Xq) .none kV_zbk dc_zbk pm_zbk an_zbk cd_zbk ct_zbk),sl_zbk⟩)
  (c_zbk:PySem.W.codeIn K cd_zbk "Echo.send" = true)
  (k_zbk:PySem.W.keepIn K (.ref f_zbk)=true)
  (a_zba:PySem.W.findIn K (.ref c_Letter) "row" = some (some (.ref f_zba)))
  (i_zba:PySem.W.isFn K (.ref f_zba)=true)
  (l_zba:K.lookup f_zba=some ⟨oc_zba,od_zba,.func (PySem.W.fnOf "row" "Letter.row" (jl Xz) (ji Xz) (jc Xz) .none kV_zba dc_zba pm_zba an_zba cd_zba ct_zba),sl_zba⟩)
  (c_zba:PySem.W.codeIn K cd_zba "Letter.row" = true)
  (k_zba:PySem.W.keepIn K (.ref f_zba)=true)
  (a_zas:PySem.W.findIn K (.ref c_Echo) "letters" = some (some (.ref f_zas)))
  (i_zas:PySem.W.isFn K (.ref f_zas)=true)
  (l_zas:K.lookup f_zas=some ⟨oc_zas,od_zas,.func (PySem.W.fnOf "letters" "Post.letters" (jl Yd) (ji Yd) (jc Yd) .none kV_zas dc_zas pm_zas an_zas cd_zas ct_zas),sl_zas⟩)
  (c_zas:PySem.W.codeIn K cd_zas "Post.letters" = true)
  (k_zas:PySem.W.keepIn K (.ref f_zas)=true)
  (a_zbl:PySem.W.findIn K (.ref c_Echo) "take" = some (some (.ref f_zbl)))
  (i_zbl:PySem.W.isFn K (.ref f_zbl)=true)
  (l_zbl:K.lookup f_zbl=some ⟨oc_zbl,od_zbl,.func (PySem.W.fnOf "take" "Post.take" (jl Xp) (ji Xp) (jc Xp) .none kV_zbl dc_zbl pm_zbl an_zbl cd_zbl ct_zbl),sl_zbl⟩)
  (c_zbl:PySem.W.codeIn K cd_zbl "Post.take" = true)
  (k_zbl:PySem.W.keepIn K (.ref f_zbl)=true)
  (a_zal:PySem.W.findIn K (.ref c_Echo) "write_once" = some (some (.ref f_zal)))
  (i_zal:PySem.W.isFn K (.ref f_zal)=true)
  (l_zal:K.lookup f_zal=some ⟨oc_zal,od_zal,.func (PySem.W.fnOf "write_once" "Echo.write_once" (jl XO) (ji XO) (jc XO) .none kV_zal dc_zal pm_zal an_zal cd_zal ct_zal),sl_zal⟩)
  (c_zal:PySem.W.codeIn K cd_zal "Echo.write_once" = true)
  (k_zal:PySem.W.keepIn K (.ref f_zal)=true)
  (a_zae:PySem.W.findIn K (.ref c_Echo) "look_at_first" = some (some (.ref f_zae)))
  (i_zae:PySem.W.isFn K (.ref f_zae)=true)
  (l_zae:K.lookup f_zae=some ⟨oc_zae,od_zae,.func (PySem.W.fnOf "look_at_first" "Echo.look_at_first" (jl XV) (ji XV) (jc XV) .none kV_zae dc_zae pm_zae an_zae cd_zae ct_zae),sl_zae⟩)
  (c_zae:PySem.W.codeIn K cd_zae "Echo.look_at_first" = true)
  (k_zae:PySem.W.keepIn K (.ref f_zae)=true)
  (a_zao:PySem.W.findIn K (.ref c_Echo) "many_got" = some (some (.ref f_zao)))
  (i_zao:PySem.W.isFn K (.ref f_zao)=true)
  (l_zao:K.lookup f_zao=some ⟨oc_zao,od_zao,.func (PySem.W.fnOf "many_got" "Post.many_got" (jl XJ) (ji XJ) (jc XJ) .none kV_zao dc_zao pm_zao an_zao cd_zao ct_zao),sl_zao⟩)
  (c_zao:PySem.W.codeIn K cd_zao "Post.many_got" = true)
  (k_zao:PySem.W.keepIn K (.ref f_zao)=true)
  (a_zac:PySem.W.findIn K (.ref c_Echo) "look_at_echoes" = some (some (.ref f_zac)))
  (i_zac:PySem.W.isFn K (.ref f_zac)=true)
  (l_zac:K.lookup f_zac=some ⟨oc_zac,od_zac,.func (PySem.W.fnOf "look_at_echoes" "Echo.look_at_echoes" (jl XX) (ji XX) (jc XX) .none kV_zac dc_zac pm_zac an_zac cd_zac ct_zac),sl_zac⟩)
  (c_zac:PySem.W.codeIn K cd_zac "Echo.look_at_echoes" = true)
  (k_zac:PySem.W.keepIn K (.ref f_zac)=true)
  (a_zab:PySem.W.findIn K (.ref c_Echo) "look_at_readies" = some (some (.ref f_zab)))
  (i_zab:PySem.W.isFn K (.ref f_zab)=true)
  (l_zab:K.lookup f_zab=some ⟨oc_zab,od_zab,.func (PySem.W.fnOf "look_at_readies" "Echo.look_at_readies" (jl XY) (ji XY) (jc XY) .none kV_zab dc_zab pm_zab an_zab cd_zab ct_zab),sl_zab⟩)
  (c_zab:PySem.W.codeIn K cd_zab "Echo.look_at_readies" = true)
  (k_zab:PySem.W.keepIn K (.ref f_zab)=true)
  (a_zbm:PySem.W.findIn K (.ref c_Echo) "come" = some (some (.ref f_zbm)))
  (i_zbm:PySem.W.isFn K (.ref f_zbm)=true)
  (l_zbm:K.lookup f_zbm=some ⟨oc_zbm,od_zbm,.func (PySem.W.fnOf "come" "Echo.come" (jl Xo) (ji Xo) (jc Xo) .none kV_zbm dc_zbm pm_zbm an_zbm cd_zbm ct_zbm),sl_zbm⟩)
  (c_zbm:PySem.W.codeIn K cd_zbm "Echo.come" = true)
  (k_zbm:PySem.W.keepIn K (.ref f_zbm)=true)
  (a_zav:PySem.W.nsIn K mainGlobals "_law_letter" = some (some (.ref f_zav)))
  (l_zav:K.lookup f_zav=some ⟨oc_zav,od_zav,.func (PySem.W.fnOf "_law_letter" "_law_letter" (jl XE) (ji XE) (jc XE) .none kV_zav dc_zav pm_zav an_zav cd_zav ct_zav),sl_zav⟩)
  (c_zav:PySem.W.codeIn K cd_zav "_law_letter" = true)
  (k_zav:PySem.W.keepIn K (.ref f_zav)=true)
  (a_zbn:PySem.W.findIn K (.ref c_Echo) "took" = some (some (.ref f_zbn)))
  (i_zbn:PySem.W.isFn K (.ref f_zbn)=true)
  (l_zbn:K.lookup f_zbn=some ⟨oc_zbn,od_zbn,.func (PySem.W.fnOf "took" "Echo.took" (jl Xn) (ji Xn) (jc Xn) .none kV_zbn dc_zbn pm_zbn an_zbn cd_zbn ct_zbn),sl_zbn⟩)
  (c_zbn:PySem.W.codeIn K cd_zbn "Echo.took" = true)
  (k_zbn:PySem.W.keepIn K (.ref f_zbn)=true)
  (a_zbb:PySem.W.nsIn K mainGlobals "_law_whole" = some (some (.ref f_zbb)))
  (l_zbb:K.lookup f_zbb=some ⟨oc_zbb,od_zbb,.func (PySem.W.fnOf "_law_whole" "_law_whole" (jl Xy) (ji Xy) (jc Xy) .none kV_zbb dc_zbb pm_zbb an_zbb cd_zbb ct_zbb),sl_zbb⟩)
  (c_zbb:PySem.W.codeIn K cd_zbb "_law_whole" = true)
  (k_zbb:PySem.W.keepIn K (.ref f_zbb)=true)
  (a_zbc:PySem.W.findIn K (.ref c_Echo) "stage" = some (some (.ref f_zbc)))
  (i_zbc:PySem.W.isFn K (.ref f_zbc)=true)
  (l_zbc:K.lookup f_zbc=some ⟨oc_zbc,od_zbc,.func (PySem.W.fnOf "stage" "Echo.stage" (jl Xx) (ji Xx) (jc Xx) .none kV_zbc dc_zbc pm_zbc an_zbc cd_zbc ct_zbc),sl_zbc⟩)
  (c_zbc:PySem.W.codeIn K cd_zbc "Echo.stage" = true)
  (k_zbc:PySem.W.keepIn K (.ref f_zbc)=true)
  (a_law:PySem.W.nsIn K mainGlobals "law" = some (some (.ref f_law)))
  (l_law:K.lookup f_law=some ⟨oc_law,od_law,.func (PySem.W.fnOf "law" "law" (jl uh) (ji uh) (jc uh) .none kV_law dc_law pm_law an_law cd_law ct_law),sl_law⟩)
  (c_law:PySem.W.codeIn K cd_law "law" = true)
  (k_law:PySem.W.keepIn K (.ref f_law)=true)
  (n_LAST_WORD_NUMBER:PySem.W.nsIn K mainGlobals "LAST_WORD_NUMBER" = some (some (.int 999 t_LAST_WORD_NUMBER)))
  (n_MOST_FEW:PySem.W.nsIn K mainGlobals "MOST_FEW" = some (some (.int 5 t_MOST_FEW)))
  (n_MOST_HOUSES:PySem.W.nsIn K mainGlobals "MOST_HOUSES" = some (some (.int 16 t_MOST_HOUSES)))
  (a_WORDS:PySem.W.nsIn K mainGlobals "WORDS" = some (some (.ref c_WORDS)))
  (d_WORDS:K.lookup c_WORDS=some ⟨.type "tuple",tq_WORDS,.seq its_WORDS tn_WORDS,ts_WORDS⟩)
  (dz_WORDS:its_WORDS.size<=sizeLine)
  (dl_WORDS:JT its_WORDS.toList ["first","echo","ready"]=true)
  (a_BadNumber:PySem.W.nsIn K mainGlobals "BadNumber" = some (some (.ref c_BadNumber)))
  (a_BadLies:PySem.W.nsIn K mainGlobals "BadLies" = some (some (.ref c_BadLies)))
  (a_BadHouses:PySem.W.nsIn K mainGlobals "BadHouses" = some (some (.ref c_BadHouses)))
  (a_NoHouse:PySem.W.nsIn K mainGlobals "NoHouse" = some (some (.ref c_NoHouse)))
  (a_NoLetter:PySem.W.nsIn K mainGlobals "NoLetter" = some (some (.ref c_NoLetter)))
  (a_NotNow:PySem.W.nsIn K mainGlobals "NotNow" = some (some (.ref c_NotNow)))
  (a_LiarError:PySem.W.nsIn K mainGlobals "LiarError" = some (some (.ref c_LiarError)))
  (e_BadHouses:PySem.W.excIn K c_BadHouses jdQ "ValueError.__new__" = true)
  (e_BadLies:PySem.W.excIn K c_BadLies jdQ "ValueError.__new__" = true)
  (e_BadNumber:PySem.W.excIn K c_BadNumber jdQ "ValueError.__new__" = true)
  (e_NoLetter:PySem.W.excIn K c_NoLetter jdQ "ValueError.__new__" = true)
  (e_NotNow:PySem.W.excIn K c_NotNow jdQ "ValueError.__new__" = true)
  (z_all:PySem.W.nsIn K mainGlobals "all" = some none)
  (z_bool:PySem.W.nsIn K mainGlobals "bool" = some none)
  (z_int:PySem.W.nsIn K mainGlobals "int" = some none)
  (z_isinstance:PySem.W.nsIn K mainGlobals "isinstance" = some none)
  (z_len:PySem.W.nsIn K mainGlobals "len" = some none)
  (z_list:PySem.W.nsIn K mainGlobals "list" = some none)
  (z_range:PySem.W.nsIn K mainGlobals "range" = some none)
  (z_set:PySem.W.nsIn K mainGlobals "set" = some none)
  (z_str:PySem.W.nsIn K mainGlobals "str" = some none)
  (z_tuple:PySem.W.nsIn K mainGlobals "tuple" = some none)
  (z_zip:PySem.W.nsIn K mainGlobals "zip" = some none) :
  ∃ fd:FuncData,(∀ (s:Shared) (v:Value),BindsTo s fd ⟨[v],[]⟩ [("_law_script",v)])∧∀ base:Heap,K.In base->base.Ns mainGlobals mg->FnOk l.prog w K mg base CX0 10 fa fd ["_law_script"] (Ub K):=by
 have e:=hfa.symm.trans (PySem.W.mg_of X G a_law);cases e
 let C:Nat->Addr:=fun k=>([c_BadNumber,0,c_BadLies,c_BadHouses,c_NoHouse,c_NoLetter,c_NotNow,0,0,c_LiarError,c_Letter,c_Post,c_Echo]:List Addr).getD k 0
 have N_all:=PySem.W.mg_none_of X G z_all;have N_bool:=PySem.W.mg_none_of X G z_bool;have N_int:=PySem.W.mg_none_of X G z_int;have N_isinstance:=PySem.W.mg_none_of X G z_isinstance;have N_len:=PySem.W.mg_none_of X G z_len;have N_list:=PySem.W.mg_none_of X G z_list;have N_range:=PySem.W.mg_none_of X G z_range;have N_set:=PySem.W.mg_none_of X G z_set;have N_str:=PySem.W.mg_none_of X G z_str;have N_tuple:=PySem.W.mg_none_of X G z_tuple;have N_zip:=PySem.W.mg_none_of X G z_zip;have C_LAST_WORD_NUMBER:=PySem.W.mg_of X G n_LAST_WORD_NUMBER;have C_MOST_FEW:=PySem.W.mg_of X G n_MOST_FEW;have C_MOST_HOUSES:=PySem.W.mg_of X G n_MOST_HOUSES
 have TU_WORDS:TupS K mg "WORDS" ["first","echo","ready"]:=⟨c_WORDS,tq_WORDS,its_WORDS,tn_WORDS,ts_WORDS,PySem.W.mg_of X G a_WORDS,d_WORDS,dz_WORDS,dl_WORDS⟩
 have A_BadNumber:mg "BadNumber" = some (.ref (C 0)):=PySem.W.mg_of X G a_BadNumber;have A_BadLies:mg "BadLies" = some (.ref (C 2)):=PySem.W.mg_of X G a_BadLies;have A_BadHouses:mg "BadHouses" = some (.ref (C 3)):=PySem.W.mg_of X G a_BadHouses;have A_NoHouse:mg "NoHouse" = some (.ref (C 4)):=PySem.W.mg_of X G a_NoHouse;have A_NoLetter:mg "NoLetter" = some (.ref (C 5)):=PySem.W.mg_of X G a_NoLetter;have A_NotNow:mg "NotNow" = some (.ref (C 6)):=PySem.W.mg_of X G a_NotNow;have A_LiarError:mg "LiarError" = some (.ref (C 9)):=PySem.W.mg_of X G a_LiarError;have A_Echo:mg "Echo" = some (.ref (C 12)):=PySem.W.mg_of X G a_Echo
 have cl_Echo:Cls K (C 12):=⟨o_Echo_pg,o_Echo_hd,o_Echo_po,o_Echo_sa⟩
 have nf_Echo_few:jn K (C 12) "few":=o_Echo_n_few;have nf_Echo_got:jn K (C 12) "got":=o_Echo_n_got;have nf_Echo_houses:jn K (C 12) "houses":=o_Echo_n_houses;have nf_Echo_liars:jn K (C 12) "liars":=o_Echo_n_liars;have nf_Echo_on_way:jn K (C 12) "on_way":=o_Echo_n_on_way;have nf_Echo_sender:jn K (C 12) "sender":=o_Echo_n_sender;have nf_Echo_taken:jn K (C 12) "taken":=o_Echo_n_taken;have nf_Echo_written:jn K (C 12) "written":=o_Echo_n_written;have A_Letter:mg "Letter" = some (.ref (C 10)):=PySem.W.mg_of X G a_Letter
 have cl_Letter:Cls K (C 10):=⟨o_Letter_pg,o_Letter_hd,o_Letter_po,o_Letter_sa⟩
 have nf_Letter_due:jn K (C 10) "due":=o_Letter_n_due;have nf_Letter_house:jn K (C 10) "house":=o_Letter_n_house;have nf_Letter_sender:jn K (C 10) "sender":=o_Letter_n_sender;have nf_Letter_what:jn K (C 10) "what":=o_Letter_n_what;have A_Post:mg "Post" = some (.ref (C 11)):=PySem.W.mg_of X G a_Post
 have cl_Post:Cls K (C 11):=⟨o_Post_pg,o_Post_hd,o_Post_po,o_Post_sa⟩
 have X_BadHouses:Exc K mg "BadHouses" (C 3):=⟨A_BadHouses,e_BadHouses⟩
 have X_BadLies:Exc K mg "BadLies" (C 2):=⟨A_BadLies,e_BadLies⟩
 have X_BadNumber:Exc K mg "BadNumber" (C 0):=⟨A_BadNumber,e_BadNumber⟩
 have X_NoLetter:Exc K mg "NoLetter" (C 5):=⟨A_NoLetter,e_NoLetter⟩
 have X_NotNow:Exc K mg "NotNow" (C 6):=⟨A_NotNow,e_NotNow⟩
 have F_zbd:=jq (st:=Xw) l_zbd c_zbd k_zbd;have F_zbe:=jq (st:=Xv) l_zbe c_zbe k_zbe;have F_zaw:=jq (st:=XD) l_zaw c_zaw k_zaw;have F_zbf:=jq (st:=Yb) l_zbf c_zbf k_zbf;have F_zbg:=jq (st:=Xu) l_zbg c_zbg k_zbg;have F_zbo:=jq (st:=Xm) l_zbo c_zbo k_zbo;have F_zbh:=jq (st:=Xs) l_zbh c_zbh k_zbh;have F_zap:=jq (st:=XI) l_zap c_zap k_zap;have F_zaq:=jq (st:=XH) l_zaq c_zaq k_zaq;have F_zbi:=jq (st:=Xr) l_zbi c_zbi k_zbi;have F_zbp:=jq (st:=Xl) l_zbp c_zbp k_zbp;have F_zbj:=jq (st:=JZ) l_zbj c_zbj k_zbj;have F_zaf:=jq (st:=Ye) l_zaf c_zaf k_zaf;have F_zam:=jq (st:=XN) l_zam c_zam k_zam;have F_zat:=jq (st:=XF) l_zat c_zat k_zat;have F_zan:=jq (st:=XM) l_zan c_zan k_zan;have F_zad:=jq (st:=XW) l_zad c_zad k_zad;have F_zar:=jq (st:=XG) l_zar c_zar k_zar;have F_zaa:=jq (st:=XZ) l_zaa c_zaa k_zaa;have F_zax:=jq (st:=XC) l_zax c_zax k_zax
 have F_zag:=jq (st:=XU) l_zag c_zag k_zag;have F_zaj:=jq (st:=XR) l_zaj c_zaj k_zaj;have F_zay:=jq (st:=XB) l_zay c_zay k_zay;have F_zbq:=jq (st:=Xk) l_zbq c_zbq k_zbq;have F_zaz:=jq (st:=XA) l_zaz c_zaz k_zaz;have F_zai:=jq (st:=XS) l_zai c_zai k_zai;have F_zau:=jq (st:=Yc) l_zau c_zau k_zau;have F_zah:=jq (st:=XT) l_zah c_zah k_zah;have F_zak:=jq (st:=XQ) l_zak c_zak k_zak;have F_zbk:=jq (st:=Xq) l_zbk c_zbk k_zbk;have F_zba:=jq (st:=Xz) l_zba c_zba k_zba;have F_zas:=jq (st:=Yd) l_zas c_zas k_zas;have F_zbl:=jq (st:=Xp) l_zbl c_zbl k_zbl;have F_zal:=jq (st:=XO) l_zal c_zal k_zal;have F_zae:=jq (st:=XV) l_zae c_zae k_zae;have F_zao:=jq (st:=XJ) l_zao c_zao k_zao;have F_zac:=jq (st:=XX) l_zac c_zac k_zac;have F_zab:=jq (st:=XY) l_zab c_zab k_zab;have F_zbm:=jq (st:=Xo) l_zbm c_zbm k_zbm;have F_zav:=jq (st:=XE) l_zav c_zav k_zav
 have F_zbn:=jq (st:=Xn) l_zbn c_zbn k_zbn;have F_zbb:=jq (st:=Xy) l_zbb c_zbb k_zbb;have F_zbc:=jq (st:=Xx) l_zbc c_zbc k_zbc;have F_law:=jq (st:=uh) l_law c_law k_law;refine ⟨PySem.W.fnOf "law" "law" (jl uh) (ji uh) (jc uh) .none kV_law dc_law pm_law an_law cd_law ct_law,fun s v=>.of_eq rfl,fun base _ _=>?_⟩;have ok_zbd_:=ok_zbd (P:=l.prog) (w:=w) (mg:=mg) (base:=base) (C:=C) F_zbd N_list
 have Q_zbd:CalD l.prog w K mg base (tb w K C) "_law_town" 1 ["_law_script"] [] 1 0 [.p 0] [] jaP:=⟨f_zbd,_,[],[],ok_zbd_,PySem.W.mg_of X G a_zbd,k_zbd,jE (dV:=[]) (ds:=[]) .nil (fun s us ws KX h1 h2=>by obtain ⟨u0,rfl⟩:=ln1 h1; obtain rfl:=ln0 h2; exact .of_eq rfl),fun W hW=>rfl⟩
 have ok_zbe_:=ok_zbe (P:=l.prog) (w:=w) (mg:=mg) (base:=base) (C:=C) F_zbe N_len
 have Q_zbe:CalD l.prog w K mg base (tb w K C) "_law_draw" 1 ["_law_town_here","_law_many"] [] 2 0 [.p 0,.p 1] [] yx:=⟨f_zbe,_,[],[],ok_zbe_,PySem.W.mg_of X G a_zbe,k_zbe,jE (dV:=[]) (ds:=[]) .nil (fun s us ws KX h1 h2=>by obtain ⟨u0,u1,rfl⟩:=ln2 h1; obtain rfl:=ln0 h2; exact .of_eq rfl),fun W hW=>rfl⟩
 have ok_zaw_:=ok_zaw (P:=l.prog) (w:=w) (mg:=mg) (base:=base) (C:=C) F_zaw Q_zbe N_len N_range
 have Q_zaw:CalD l.prog w K mg base (tb w K C) "_law_liars" 2 ["_law_town_here","_law_crew_here","_law_most"] [] 3 0 [.p 0,.p 1,.p 2] [] VS:=⟨f_zaw,_,[],[],ok_zaw_,PySem.W.mg_of X G a_zaw,k_zaw,jE (dV:=[]) (ds:=[]) .nil (fun s us ws KX h1 h2=>by obtain ⟨u0,u1,u2,rfl⟩:=ln3 h1; obtain rfl:=ln0 h2; exact .of_eq rfl),fun W hW=>rfl⟩
 have ok_zbf_:=ok_zbf (P:=l.prog) (w:=w) (mg:=mg) (base:=base) (C:=C) F_zbf Q_zbe Q_zaw N_range
 have Q_zbf:CalD l.prog w K mg base (tb w K C) "_law_crew" 3 ["_law_town_here"] [] 1 0 [.p 0] [] jaO:=⟨f_zbf,_,[],[],ok_zbf_,PySem.W.mg_of X G a_zbf,k_zbf,jE (dV:=[]) (ds:=[]) .nil (fun s us ws KX h1 h2=>by obtain ⟨u0,rfl⟩:=ln1 h1; obtain rfl:=ln0 h2; exact .of_eq rfl),fun W hW=>rfl⟩
 have ok_zbg_:=ok_zbg (P:=l.prog) (w:=w) (mg:=mg) (base:=base) (C:=C) F_zbg Q_zbe N_len
 have Q_zbg:CalD l.prog w K mg base (tb w K C) "_law_pick" 2 ["_law_town_here","_law_some"] [] 2 0 [.p 0,.p 1] [] yB:=⟨f_zbg,_,[],[],ok_zbg_,PySem.W.mg_of X G a_zbg,k_zbg,jE (dV:=[]) (ds:=[]) .nil (fun s us ws KX h1 h2=>by obtain ⟨u0,u1,rfl⟩:=ln2 h1; obtain rfl:=ln0 h2; exact .of_eq rfl),fun W hW=>rfl⟩
 have ok_zbo_:=ok_zbo (P:=l.prog) (w:=w) (mg:=mg) (base:=base) (C:=C) F_zbo N_bool N_int N_isinstance
 have Q_zbo:CalD l.prog w K mg base (tb w K C) "is_whole" 1 ["thing"] [] 1 0 [.p 0] [] VM:=⟨f_zbo,_,[],[],ok_zbo_,PySem.W.mg_of X G a_zbo,k_zbo,jE (dV:=[]) (ds:=[]) .nil (fun s us ws KX h1 h2=>by obtain ⟨u0,rfl⟩:=ln1 h1; obtain rfl:=ln0 h2; exact .of_eq rfl),fun W hW=>rfl⟩
 have ok_zbh_:=ok_zbh (P:=l.prog) (w:=w) (mg:=mg) (base:=base) (C:=C) F_zbh Q_zbo
 have Q_zbh:CalD l.prog w K mg base (tb w K C) "is_within" 2 ["thing","least","most"] [] 3 0 [.p 0,.p 1,.p 2] [] vE:=⟨f_zbh,_,[],[],ok_zbh_,PySem.W.mg_of X G a_zbh,k_zbh,jE (dV:=[]) (ds:=[]) .nil (fun s us ws KX h1 h2=>by obtain ⟨u0,u1,u2,rfl⟩:=ln3 h1; obtain rfl:=ln0 h2; exact .of_eq rfl),fun W hW=>rfl⟩
 have ok_zap_:=ok_zap (P:=l.prog) (w:=w) (mg:=mg) (base:=base) (C:=C) F_zap X_BadNumber Q_zbh
 have Q_zap:CalD l.prog w K mg base (tb w K C) "check_within" 3 ["thing","least","most"] [] 3 0 [.p 0,.p 1,.p 2] [] uq:=⟨f_zap,_,[],[],ok_zap_,PySem.W.mg_of X G a_zap,k_zap,jE (dV:=[]) (ds:=[]) .nil (fun s us ws KX h1 h2=>by obtain ⟨u0,u1,u2,rfl⟩:=ln3 h1; obtain rfl:=ln0 h2; exact .of_eq rfl),fun W hW=>rfl⟩
 have ok_zaq_:=ok_zaq (P:=l.prog) (w:=w) (mg:=mg) (base:=base) (C:=C) F_zaq C_MOST_HOUSES Q_zap
 have Q_zaq:CalD l.prog w K mg base (tb w K C) "check_houses" 4 ["houses"] [] 1 0 [.p 0] [] jcR:=⟨f_zaq,_,[],[],ok_zaq_,PySem.W.mg_of X G a_zaq,k_zaq,jE (dV:=[]) (ds:=[]) .nil (fun s us ws KX h1 h2=>by obtain ⟨u0,rfl⟩:=ln1 h1; obtain rfl:=ln0 h2; exact .of_eq rfl),fun W hW=>rfl⟩
 have ok_zbi_:=ok_zbi (P:=l.prog) (w:=w) (mg:=mg) (base:=base) (C:=C) F_zbi C_MOST_FEW Q_zap
 have Q_zbi:CalD l.prog w K mg base (tb w K C) "check_few" 4 ["few"] [] 1 0 [.p 0] [] YS:=⟨f_zbi,_,[],[],ok_zbi_,PySem.W.mg_of X G a_zbi,k_zbi,jE (dV:=[]) (ds:=[]) .nil (fun s us ws KX h1 h2=>by obtain ⟨u0,rfl⟩:=ln1 h1; obtain rfl:=ln0 h2; exact .of_eq rfl),fun W hW=>rfl⟩
 have ok_zbp_:=ok_zbp (P:=l.prog) (w:=w) (mg:=mg) (base:=base) (C:=C) F_zbp Q_zbh
 have Q_zbp:CalD l.prog w K mg base (tb w K C) "is_house" 3 ["thing","houses"] [] 2 0 [.p 0,.p 1] [] JC:=⟨f_zbp,_,[],[],ok_zbp_,PySem.W.mg_of X G a_zbp,k_zbp,jE (dV:=[]) (ds:=[]) .nil (fun s us ws KX h1 h2=>by obtain ⟨u0,u1,rfl⟩:=ln2 h1; obtain rfl:=ln0 h2; exact .of_eq rfl),fun W hW=>rfl⟩
 have ok_zbj_:=ok_zbj (P:=l.prog) (w:=w) (mg:=mg) (base:=base) (C:=C) F_zbj N_all N_zip
 have Q_zbj:CalD l.prog w K mg base (tb w K C) "is_rising" 1 ["numbers"] [] 1 0 [.p 0] [] jaN:=⟨f_zbj,_,[],[],ok_zbj_,PySem.W.mg_of X G a_zbj,k_zbj,jE (dV:=[]) (ds:=[]) .nil (fun s us ws KX h1 h2=>by obtain ⟨u0,rfl⟩:=ln1 h1; obtain rfl:=ln0 h2; exact .of_eq rfl),fun W hW=>rfl⟩
 have ok_zaf_:=ok_zaf (P:=l.prog) (w:=w) (mg:=mg) (base:=base) (C:=C) F_zaf X_BadHouses Q_zbp Q_zbj N_all N_isinstance N_len N_list N_tuple
 have Q_zaf:CalD l.prog w K mg base (tb w K C) "check_some_houses" 4 ["some","houses","most"] [] 3 0 [.p 0,.p 1,.p 2] [] VV:=⟨f_zaf,_,[],[],ok_zaf_,PySem.W.mg_of X G a_zaf,k_zaf,jE (dV:=[]) (ds:=[]) .nil (fun s us ws KX h1 h2=>by obtain ⟨u0,u1,u2,rfl⟩:=ln3 h1; obtain rfl:=ln0 h2; exact .of_eq rfl),fun W hW=>rfl⟩
 have ok_zam_:=ok_zam (P:=l.prog) (w:=w) (mg:=mg) (base:=base) (C:=C) F_zam X_BadHouses nf_Echo_few nf_Echo_got nf_Echo_houses nf_Echo_liars nf_Echo_on_way Q_zbi Q_zaq Q_zaf N_list cl_Echo
 have Q_zam_2_few_liars:ClsD l.prog w K mg base (tb w K C) 11 "Post" "__init__" 5 ["self","houses","few","liars"] ["few","liars"] 2 2 [.p 0,.p 1,.k 0,.k 1] [] jaS:=⟨f_zam,_,[],[],ok_zam_,A_Post,q_zam_rd,q_zam_fc,q_zam_sp,k_zam,jE (dV:=[]) (ds:=[]) .nil (fun s us ws KX h1 h2=>by obtain ⟨u0,u1,rfl⟩:=ln2 h1; obtain ⟨w0,w1,rfl⟩:=ln2 h2; exact .of_eq rfl),fun W hW=>rfl⟩
 have ok_zat_:=ok_zat (P:=l.prog) (w:=w) (mg:=mg) (base:=base) (C:=C) F_zat Q_zbp
 have Q_zat:CalD l.prog w K mg base (tb w K C) "check_house" 4 ["house","houses"] [] 2 0 [.p 0,.p 1] [] uo:=⟨f_zat,_,[],[],ok_zat_,PySem.W.mg_of X G a_zat,k_zat,jE (dV:=[]) (ds:=[]) .nil (fun s us ws KX h1 h2=>by obtain ⟨u0,u1,rfl⟩:=ln2 h1; obtain rfl:=ln0 h2; exact .of_eq rfl),fun W hW=>rfl⟩
 have ok_zan_:=ok_zan (P:=l.prog) (w:=w) (mg:=mg) (base:=base) (C:=C) F_zan Q_zam_2_few_liars nf_Echo_sender nf_Echo_taken nf_Echo_written Q_zat cl_Echo
 have Q_zan_2_few_liars:NewD l.prog w K mg base (tb w K C) 12 "Echo" 7 ["self","houses","few","sender","liars"] ["few","liars"] 2 2 [.p 0,.p 1,.k 0,.d 0,.k 1] [.int 0] Jd:=⟨f_zan,_,[.int 0],[.int 0 tt_zan_sender],ok_zan_,⟨o_Echo_mk,a_zan,i_zan,o_Echo_kp⟩,A_Echo,jE (dV:=[.int 0]) (ds:=[.int 0 tt_zan_sender]) (.cons ⟨_,rfl⟩ .nil) (fun s us ws KX h1 h2=>by obtain ⟨u0,u1,rfl⟩:=ln2 h1; obtain ⟨w0,w1,rfl⟩:=ln2 h2; refine' jgz KX kd_zan_sender ?h1 ?h2 ?h3 ?h4; rotate_left 5; (case h1=>exact rfl); (case h2=>exact rfl); (case h3=>exact rfl); (case h4=>exact rfl)),fun W hW=>⟨_,_,rfl,rfl,rfl⟩⟩
 have Q_zan_2_few_sender_liars:NewD l.prog w K mg base (tb w K C) 12 "Echo" 7 ["self","houses","few","sender","liars"] ["few","sender","liars"] 2 3 [.p 0,.p 1,.k 0,.k 1,.k 2] [] Jd:=⟨f_zan,_,[],[],ok_zan_,⟨o_Echo_mk,a_zan,i_zan,o_Echo_kp⟩,A_Echo,jE (dV:=[]) (ds:=[]) .nil (fun s us ws KX h1 h2=>by obtain ⟨u0,u1,rfl⟩:=ln2 h1; obtain ⟨w0,w1,w2,rfl⟩:=ln3 h2; exact .of_eq rfl),fun W hW=>rfl⟩
 have ok_zad_:=ok_zad (P:=l.prog) (w:=w) (mg:=mg) (base:=base) (C:=C) F_zad nf_Echo_houses nf_Echo_liars Q_zat cl_Echo
 have Q_zad:MetD l.prog w K mg base (tb w K C) 12 "check_is_liar" 5 ["self","liar"] [] 2 0 [.p 0,.p 1] [] jaU:=⟨f_zad,_,[],[],ok_zad_,⟨a_zad,i_zad,k_zad⟩,cl_Echo,jE (dV:=[]) (ds:=[]) .nil (fun s us ws KX h1 h2=>by obtain ⟨u0,u1,rfl⟩:=ln2 h1; obtain rfl:=ln0 h2; exact .of_eq rfl),fun W hW=>rfl⟩
 have ok_zar_:=ok_zar (P:=l.prog) (w:=w) (mg:=mg) (base:=base) (C:=C) F_zar Q_zat
 have Q_zar:CalD l.prog w K mg base (tb w K C) "check_honest" 5 ["house","houses","liars"] [] 3 0 [.p 0,.p 1,.p 2] [] jaR:=⟨f_zar,_,[],[],ok_zar_,PySem.W.mg_of X G a_zar,k_zar,jE (dV:=[]) (ds:=[]) .nil (fun s us ws KX h1 h2=>by obtain ⟨u0,u1,u2,rfl⟩:=ln3 h1; obtain rfl:=ln0 h2; exact .of_eq rfl),fun W hW=>rfl⟩
 have ok_zaa_:=ok_zaa (P:=l.prog) (w:=w) (mg:=mg) (base:=base) (C:=C) F_zaa nf_Echo_houses nf_Echo_liars Q_zar cl_Echo
 have Q_zaa:MetD l.prog w K mg base (tb w K C) 12 "check_is_honest" 6 ["self","house"] [] 2 0 [.p 0,.p 1] [] Je:=⟨f_zaa,_,[],[],ok_zaa_,⟨a_zaa,i_zaa,k_zaa⟩,cl_Echo,jE (dV:=[]) (ds:=[]) .nil (fun s us ws KX h1 h2=>by obtain ⟨u0,u1,rfl⟩:=ln2 h1; obtain rfl:=ln0 h2; exact .of_eq rfl),fun W hW=>rfl⟩
 have ok_zax_:=ok_zax (P:=l.prog) (w:=w) (mg:=mg) (base:=base) (C:=C) F_zax X_BadLies N_isinstance N_str TU_WORDS
 have Q_zax:CalD l.prog w K mg base (tb w K C) "check_word" 1 ["word"] [] 1 0 [.p 0] [] jaQ:=⟨f_zax,_,[],[],ok_zax_,PySem.W.mg_of X G a_zax,k_zax,jE (dV:=[]) (ds:=[]) .nil (fun s us ws KX h1 h2=>by obtain ⟨u0,rfl⟩:=ln1 h1; obtain rfl:=ln0 h2; exact .of_eq rfl),fun W hW=>rfl⟩
 have ok_zag_:=ok_zag (P:=l.prog) (w:=w) (mg:=mg) (base:=base) (C:=C) F_zag C_LAST_WORD_NUMBER Q_zap
 have Q_zag:CalD l.prog w K mg base (tb w K C) "check_word_number" 4 ["number"] [] 1 0 [.p 0] [] YW:=⟨f_zag,_,[],[],ok_zag_,PySem.W.mg_of X G a_zag,k_zag,jE (dV:=[]) (ds:=[]) .nil (fun s us ws KX h1 h2=>by obtain ⟨u0,rfl⟩:=ln1 h1; obtain rfl:=ln0 h2; exact .of_eq rfl),fun W hW=>rfl⟩
 have ok_zaj_:=ok_zaj (P:=l.prog) (w:=w) (mg:=mg) (base:=base) (C:=C) F_zaj nf_Letter_due nf_Letter_house nf_Letter_sender nf_Letter_what cl_Letter
 have Q_zaj:NewD l.prog w K mg base (tb w K C) 10 "Letter" 1 ["self","sender","house","what"] [] 4 0 [.p 0,.p 1,.p 2,.p 3] [] YV:=⟨f_zaj,_,[],[],ok_zaj_,⟨o_Letter_mk,a_zaj,i_zaj,o_Letter_kp⟩,A_Letter,jE (dV:=[]) (ds:=[]) .nil (fun s us ws KX h1 h2=>by obtain ⟨u0,u1,u2,u3,rfl⟩:=ln4 h1; obtain rfl:=ln0 h2; exact .of_eq rfl),fun W hW=>rfl⟩
 have ok_zay_:=ok_zay (P:=l.prog) (w:=w) (mg:=mg) (base:=base) (C:=C) F_zay nf_Echo_on_way Q_zaj cl_Echo
 have Q_zay:MetD l.prog w K mg base (tb w K C) 12 "write" 3 ["self","sender","house","what"] [] 4 0 [.p 0,.p 1,.p 2,.p 3] [] YT:=⟨f_zay,_,[],[],ok_zay_,⟨a_zay,i_zay,k_zay⟩,cl_Echo,jE (dV:=[]) (ds:=[]) .nil (fun s us ws KX h1 h2=>by obtain ⟨u0,u1,u2,u3,rfl⟩:=ln4 h1; obtain rfl:=ln0 h2; exact .of_eq rfl),fun W hW=>rfl⟩
 have ok_zbq_:=ok_zbq (P:=l.prog) (w:=w) (mg:=mg) (base:=base) (C:=C) F_zbq Q_zax Q_zag Q_zaa Q_zad Q_zay
 have Q_zbq:MetD l.prog w K mg base (tb w K C) 12 "lie" 7 ["self","liar","house","word","number"] [] 5 0 [.p 0,.p 1,.p 2,.p 3,.p 4] [] ul:=⟨f_zbq,_,[],[],ok_zbq_,⟨a_zbq,i_zbq,k_zbq⟩,cl_Echo,jE (dV:=[]) (ds:=[]) .nil (fun s us ws KX h1 h2=>by obtain ⟨u0,u1,u2,u3,u4,rfl⟩:=ln5 h1; obtain rfl:=ln0 h2; exact .of_eq rfl),fun W hW=>rfl⟩
 have ok_zaz_:=ok_zaz (P:=l.prog) (w:=w) (mg:=mg) (base:=base) (C:=C) F_zaz Q_zbe Q_zbg Q_zbq N_len N_range
 have Q_zaz:CalD l.prog w K mg base (tb w K C) "_law_split" 8 ["_law_town_here","_law_echo","_law_foes","_law_honest","_law_number"] [] 5 0 [.p 0,.p 1,.p 2,.p 3,.p 4] [] VR:=⟨f_zaz,_,[],[],ok_zaz_,PySem.W.mg_of X G a_zaz,k_zaz,jE (dV:=[]) (ds:=[]) .nil (fun s us ws KX h1 h2=>by obtain ⟨u0,u1,u2,u3,u4,rfl⟩:=ln5 h1; obtain rfl:=ln0 h2; exact .of_eq rfl),fun W hW=>rfl⟩
 have ok_zai_:=ok_zai (P:=l.prog) (w:=w) (mg:=mg) (base:=base) (C:=C) F_zai nf_Echo_written cl_Echo
 have Q_zai:MetD l.prog w K mg base (tb w K C) 12 "has_written" 1 ["self","house","word"] [] 3 0 [.p 0,.p 1,.p 2] [] xC:=⟨f_zai,_,[],[],ok_zai_,⟨a_zai,i_zai,k_zai⟩,cl_Echo,jE (dV:=[]) (ds:=[]) .nil (fun s us ws KX h1 h2=>by obtain ⟨u0,u1,u2,rfl⟩:=ln3 h1; obtain rfl:=ln0 h2; exact .of_eq rfl),fun W hW=>rfl⟩
 have ok_zau_:=ok_zau (P:=l.prog) (w:=w) (mg:=mg) (base:=base) (C:=C) F_zau nf_Echo_houses nf_Echo_liars N_range cl_Echo
 have Q_zau:MetD l.prog w K mg base (tb w K C) 12 "honest" 1 ["self"] [] 1 0 [.p 0] [] VT:=⟨f_zau,_,[],[],ok_zau_,⟨a_zau,i_zau,k_zau⟩,cl_Echo,jE (dV:=[]) (ds:=[]) .nil (fun s us ws KX h1 h2=>by obtain ⟨u0,rfl⟩:=ln1 h1; obtain rfl:=ln0 h2; exact .of_eq rfl),fun W hW=>rfl⟩
 have ok_zah_:=ok_zah (P:=l.prog) (w:=w) (mg:=mg) (base:=base) (C:=C) F_zah Q_zau Q_zay
 have Q_zah:MetD l.prog w K mg base (tb w K C) 12 "write_to_all" 4 ["self","sender","what"] [] 3 0 [.p 0,.p 1,.p 2] [] jaT:=⟨f_zah,_,[],[],ok_zah_,⟨a_zah,i_zah,k_zah⟩,cl_Echo,jE (dV:=[]) (ds:=[]) .nil (fun s us ws KX h1 h2=>by obtain ⟨u0,u1,u2,rfl⟩:=ln3 h1; obtain rfl:=ln0 h2; exact .of_eq rfl),fun W hW=>rfl⟩
 have ok_zak_:=ok_zak (P:=l.prog) (w:=w) (mg:=mg) (base:=base) (C:=C) F_zak nf_Echo_written Q_zah cl_Echo
 have Q_zak:MetD l.prog w K mg base (tb w K C) 12 "write_word" 5 ["self","house","word","number"] [] 4 0 [.p 0,.p 1,.p 2,.p 3] [] YU:=⟨f_zak,_,[],[],ok_zak_,⟨a_zak,i_zak,k_zak⟩,cl_Echo,jE (dV:=[]) (ds:=[]) .nil (fun s us ws KX h1 h2=>by obtain ⟨u0,u1,u2,u3,rfl⟩:=ln4 h1; obtain rfl:=ln0 h2; exact .of_eq rfl),fun W hW=>rfl⟩
 have ok_zbk_:=ok_zbk (P:=l.prog) (w:=w) (mg:=mg) (base:=base) (C:=C) F_zbk X_NotNow nf_Echo_liars nf_Echo_sender Q_zag Q_zai Q_zak cl_Echo
 have Q_zbk:MetD l.prog w K mg base (tb w K C) 12 "send" 6 ["self","number"] [] 2 0 [.p 0,.p 1] [] VP:=⟨f_zbk,_,[],[],ok_zbk_,⟨a_zbk,i_zbk,k_zbk⟩,cl_Echo,jE (dV:=[]) (ds:=[]) .nil (fun s us ws KX h1 h2=>by obtain ⟨u0,u1,rfl⟩:=ln2 h1; obtain rfl:=ln0 h2; exact .of_eq rfl),fun W hW=>rfl⟩
 have ok_zba_:=ok_zba (P:=l.prog) (w:=w) (mg:=mg) (base:=base) (C:=C) F_zba nf_Letter_house nf_Letter_sender nf_Letter_what cl_Letter
 have Q_zba:MetD l.prog w K mg base (tb w K C) 10 "row" 1 ["self"] [] 1 0 [.p 0] [] um:=⟨f_zba,_,[],[],ok_zba_,⟨a_zba,i_zba,k_zba⟩,cl_Letter,jE (dV:=[]) (ds:=[]) .nil (fun s us ws KX h1 h2=>by obtain ⟨u0,rfl⟩:=ln1 h1; obtain rfl:=ln0 h2; exact .of_eq rfl),fun W hW=>rfl⟩
 have ok_zas_:=ok_zas (P:=l.prog) (w:=w) (mg:=mg) (base:=base) (C:=C) F_zas nf_Echo_on_way Q_zba cl_Echo
 have Q_zas:MetD l.prog w K mg base (tb w K C) 12 "letters" 2 ["self"] [] 1 0 [.p 0] [] VU:=⟨f_zas,_,[],[],ok_zas_,⟨a_zas,i_zas,k_zas⟩,cl_Echo,jE (dV:=[]) (ds:=[]) .nil (fun s us ws KX h1 h2=>by obtain ⟨u0,rfl⟩:=ln1 h1; obtain rfl:=ln0 h2; exact .of_eq rfl),fun W hW=>rfl⟩
 have ok_zbl_:=ok_zbl (P:=l.prog) (w:=w) (mg:=mg) (base:=base) (C:=C) F_zbl X_NoLetter nf_Echo_got nf_Echo_on_way nf_Letter_house nf_Letter_sender nf_Letter_what Q_zbh N_len cl_Echo cl_Letter
 have Q_zbl:MetD l.prog w K mg base (tb w K C) 12 "take" 3 ["self","at"] [] 2 0 [.p 0,.p 1] [] VO:=⟨f_zbl,_,[],[],ok_zbl_,⟨a_zbl,i_zbl,k_zbl⟩,cl_Echo,jE (dV:=[]) (ds:=[]) .nil (fun s us ws KX h1 h2=>by obtain ⟨u0,u1,rfl⟩:=ln2 h1; obtain rfl:=ln0 h2; exact .of_eq rfl),fun W hW=>rfl⟩
 have ok_zal_:=ok_zal (P:=l.prog) (w:=w) (mg:=mg) (base:=base) (C:=C) F_zal Q_zai Q_zak
 have Q_zal:MetD l.prog w K mg base (tb w K C) 12 "write_once" 6 ["self","house","word","number"] [] 4 0 [.p 0,.p 1,.p 2,.p 3] [] ut:=⟨f_zal,_,[],[],ok_zal_,⟨a_zal,i_zal,k_zal⟩,cl_Echo,jE (dV:=[]) (ds:=[]) .nil (fun s us ws KX h1 h2=>by obtain ⟨u0,u1,u2,u3,rfl⟩:=ln4 h1; obtain rfl:=ln0 h2; exact .of_eq rfl),fun W hW=>rfl⟩
 have ok_zae_:=ok_zae (P:=l.prog) (w:=w) (mg:=mg) (base:=base) (C:=C) F_zae nf_Echo_sender Q_zal cl_Echo
 have Q_zae:MetD l.prog w K mg base (tb w K C) 12 "look_at_first" 7 ["self","sender","house","number"] [] 4 0 [.p 0,.p 1,.p 2,.p 3] [] VW:=⟨f_zae,_,[],[],ok_zae_,⟨a_zae,i_zae,k_zae⟩,cl_Echo,jE (dV:=[]) (ds:=[]) .nil (fun s us ws KX h1 h2=>by obtain ⟨u0,u1,u2,u3,rfl⟩:=ln4 h1; obtain rfl:=ln0 h2; exact .of_eq rfl),fun W hW=>rfl⟩
 have ok_zao_:=ok_zao (P:=l.prog) (w:=w) (mg:=mg) (base:=base) (C:=C) F_zao nf_Echo_got N_len cl_Echo
 have Q_zao:MetD l.prog w K mg base (tb w K C) 12 "many_got" 1 ["self","house","what"] [] 3 0 [.p 0,.p 1,.p 2] [] Jc:=⟨f_zao,_,[],[],ok_zao_,⟨a_zao,i_zao,k_zao⟩,cl_Echo,jE (dV:=[]) (ds:=[]) .nil (fun s us ws KX h1 h2=>by obtain ⟨u0,u1,u2,rfl⟩:=ln3 h1; obtain rfl:=ln0 h2; exact .of_eq rfl),fun W hW=>rfl⟩
 have ok_zac_:=ok_zac (P:=l.prog) (w:=w) (mg:=mg) (base:=base) (C:=C) F_zac nf_Echo_few nf_Echo_houses Q_zal Q_zao cl_Echo
 have Q_zac:MetD l.prog w K mg base (tb w K C) 12 "look_at_echoes" 7 ["self","house","number"] [] 3 0 [.p 0,.p 1,.p 2] [] VX:=⟨f_zac,_,[],[],ok_zac_,⟨a_zac,i_zac,k_zac⟩,cl_Echo,jE (dV:=[]) (ds:=[]) .nil (fun s us ws KX h1 h2=>by obtain ⟨u0,u1,u2,rfl⟩:=ln3 h1; obtain rfl:=ln0 h2; exact .of_eq rfl),fun W hW=>rfl⟩
 have ok_zab_:=ok_zab (P:=l.prog) (w:=w) (mg:=mg) (base:=base) (C:=C) F_zab nf_Echo_few nf_Echo_taken Q_zal Q_zao cl_Echo
 have Q_zab:MetD l.prog w K mg base (tb w K C) 12 "look_at_readies" 7 ["self","house","number"] [] 3 0 [.p 0,.p 1,.p 2] [] YX:=⟨f_zab,_,[],[],ok_zab_,⟨a_zab,i_zab,k_zab⟩,cl_Echo,jE (dV:=[]) (ds:=[]) .nil (fun s us ws KX h1 h2=>by obtain ⟨u0,u1,u2,rfl⟩:=ln3 h1; obtain rfl:=ln0 h2; exact .of_eq rfl),fun W hW=>rfl⟩
 have ok_zbm_:=ok_zbm (P:=l.prog) (w:=w) (mg:=mg) (base:=base) (C:=C) F_zbm nf_Letter_house nf_Letter_sender nf_Letter_what Q_zac Q_zae Q_zab Q_zba Q_zbl cl_Letter
 have Q_zbm:MetD l.prog w K mg base (tb w K C) 12 "come" 8 ["self","at"] [] 2 0 [.p 0,.p 1] [] VN:=⟨f_zbm,_,[],[],ok_zbm_,⟨a_zbm,i_zbm,k_zbm⟩,cl_Echo,jE (dV:=[]) (ds:=[]) .nil (fun s us ws KX h1 h2=>by obtain ⟨u0,u1,rfl⟩:=ln2 h1; obtain rfl:=ln0 h2; exact .of_eq rfl),fun W hW=>rfl⟩
 have ok_zav_:=ok_zav (P:=l.prog) (w:=w) (mg:=mg) (base:=base) (C:=C) F_zav Q_zbe Q_zbm Q_zas N_len
 have Q_zav:CalD l.prog w K mg base (tb w K C) "_law_letter" 9 ["_law_town_here","_law_post"] [] 2 0 [.p 0,.p 1] [] vW:=⟨f_zav,_,[],[],ok_zav_,PySem.W.mg_of X G a_zav,k_zav,jE (dV:=[]) (ds:=[]) .nil (fun s us ws KX h1 h2=>by obtain ⟨u0,u1,rfl⟩:=ln2 h1; obtain rfl:=ln0 h2; exact .of_eq rfl),fun W hW=>rfl⟩
 have ok_zbn_:=ok_zbn (P:=l.prog) (w:=w) (mg:=mg) (base:=base) (C:=C) F_zbn nf_Echo_taken Q_zaa cl_Echo
 have Q_zbn:MetD l.prog w K mg base (tb w K C) 12 "took" 7 ["self","house"] [] 2 0 [.p 0,.p 1] [] jaM:=⟨f_zbn,_,[],[],ok_zbn_,⟨a_zbn,i_zbn,k_zbn⟩,cl_Echo,jE (dV:=[]) (ds:=[]) .nil (fun s us ws KX h1 h2=>by obtain ⟨u0,u1,rfl⟩:=ln2 h1; obtain rfl:=ln0 h2; exact .of_eq rfl),fun W hW=>rfl⟩
 have ok_zbb_:=ok_zbb (P:=l.prog) (w:=w) (mg:=mg) (base:=base) (C:=C) F_zbb N_bool N_int N_isinstance
 have Q_zbb:CalD l.prog w K mg base (tb w K C) "_law_whole" 1 ["_law_thing"] [] 1 0 [.p 0] [] JD:=⟨f_zbb,_,[],[],ok_zbb_,PySem.W.mg_of X G a_zbb,k_zbb,jE (dV:=[]) (ds:=[]) .nil (fun s us ws KX h1 h2=>by obtain ⟨u0,rfl⟩:=ln1 h1; obtain rfl:=ln0 h2; exact .of_eq rfl),fun W hW=>rfl⟩
 have ok_zbc_:=ok_zbc (P:=l.prog) (w:=w) (mg:=mg) (base:=base) (C:=C) F_zbc nf_Echo_taken Q_zai Q_zaa cl_Echo
 have Q_zbc:MetD l.prog w K mg base (tb w K C) 12 "stage" 7 ["self","house"] [] 2 0 [.p 0,.p 1] [] VQ:=⟨f_zbc,_,[],[],ok_zbc_,⟨a_zbc,i_zbc,k_zbc⟩,cl_Echo,jE (dV:=[]) (ds:=[]) .nil (fun s us ws KX h1 h2=>by obtain ⟨u0,u1,rfl⟩:=ln2 h1; obtain rfl:=ln0 h2; exact .of_eq rfl),fun W hW=>rfl⟩
 exact law_sp (C:=C) (ok_law F_law Q_zbf Q_zbe Q_zav Q_zbg Q_zaz Q_zbd Q_zbb Q_zbq Q_zbk Q_zbc Q_zbn Q_zan_2_few_liars Q_zan_2_few_sender_liars N_len N_range N_set)
theorem walk {l:PySem.W.OpenLaw} {q:Program} {loose:List Str} {XP:(Str->Option Value)->Heap->Prop} {YP:World->Heap->Prop} {d:DefRec} {K:Params->PySem.W.Frag} (hn:l.most=some 63) (hdf:d.params.defaults=[])
  (hY:∀ (w:World) (h:Heap),YP w h->(K w.params).In h)
  (F:∀ (w:World) (mg:Str->Option Value) (fa:Addr) (h:Heap),(K w.params).In h->h.Ns mainGlobals mg->mg d.name=some (.ref fa) ->
   ∃ fd:FuncData,(∀ (s:Shared) (u:Value),BindsTo s fd ⟨[u],[]⟩ [("_law_script",u)])∧∀ base:Heap,(K w.params).In base->base.Ns mainGlobals mg->FnOk l.prog w (K w.params) mg base CX0 10 fa fd ["_law_script"] (Ub (K w.params))) :
  PySem.W.WalkO q loose XP YP l.row.toRowW d [] (fun f vs=>PySem.call f vs) :=
 L2.walk_of (n:=63) (k:=10) (x:="_law_script") (CX:=fun _=>CX0) (sp:=fun w=>Ub (K w.params)) hn (by decide) hdf ⟨rfl,by decide,by decide⟩ hY F (fun _ _ a ns hl _ hS=>⟨a,ns,rfl,hS,hl,fun _=>rfl⟩) fun _ _ _ _ _ z=>z
theorem walk_x {q:Program} {loose:List Str} {XP:(Str->Option Value)->Heap->Prop} {K:Params->PySem.W.Frag} {as:List Addr} {n t:Nat} {r:PySem.W.RowW} {d:DefRec} {kwd:List (Str × Expr)} {run:Value->List Value->Sem Value} (e:∀ P:Params,as=(K P).map fun p=>p.1)
  (h:PySem.W.WalkO q loose XP (fun w h=>(K w.params).In h) r d kwd run):PySem.W.WalkX q loose XP (PySem.W.X.obsZ as) (PySem.W.X.valZ K n t) r d kwd run :=
 fun w s₀ s₁ mg mb G y a o pm cd doc dV kV ho hd hc hD hm hg args vals as' L hpre hlay hrd hwl hlo=>h w s₀ s₁ mg mb G (fun a o q=>L.keeps a o ((PySem.W.X.z_facts e y).2.1 a o q)) a o pm cd doc dV kV ho hd hc hD hm hg args vals as' hpre hlay hrd hwl hlo
end My
open PySem PySem.W PyProof.Rows
set_option maxRecDepth 100000 in
set_option maxHeartbeats 0 in
theorem PySem.Challenge.cw_liarclocks_k23_whole_words_alike_holds : PySem.Challenge.rw_liarclocks_k23_whole_words_alike.Holds := by
 w_on; o_law; refine PySem.W.holds_openX (q := MH.wr.view_838) (loose := [PySem.Str.ofString "Echo"]) (Xt := fun s => PySem.W.xlAt MH.wr.view_838 [] s && PySem.W.recOk (PySem.W.RowW.records (PySem.W.OpenRow.toRowW (PySem.W.OpenLaw.row PySem.Challenge.rw_liarclocks_k23_whole_words_alike))) s) (XP := PySem.W.XL MH.wr.view_838 []) (Yf := PySem.W.X.obsZ MH.as0) (Ya := PySem.W.X.valZ MH.wr.heap_402 446 783) MH.le_ok (fun s e => PySem.W.xl_of s (Bool.and_eq_true_iff.mp e).1) PySem.W.XL.keeps (by rfl) (by rfl) (by rfl) (fun s e => PySem.W.recFacts_of (Bool.and_eq_true_iff.mp e).2) (by rfl) (by first | assumption | decide +kernel) (by decide +kernel) ⟨rfl, rfl, rfl, rfl, rfl, by decide +kernel⟩ ?hw ?hc; (case hw => w_witness2)
 k_fill
 refine My.walk_x MH.as_eq (My.walk (l := PySem.Challenge.rw_liarclocks_k23_whole_words_alike) rfl rfl (fun w h Y => Y) ?F)
 case F =>
  intro w mg fa h KX G hmg
  refine' My.all_mk KX G hmg ?a_Echo ?o_Echo_pg ?o_Echo_hd ?o_Echo_po ?o_Echo_sa ?o_Echo_mk ?o_Echo_kp ?o_Echo_n_few ?o_Echo_n_got ?o_Echo_n_houses ?o_Echo_n_liars ?o_Echo_n_on_way ?o_Echo_n_sender ?o_Echo_n_taken ?o_Echo_n_written ?a_Letter ?o_Letter_pg ?o_Letter_hd ?o_Letter_po ?o_Letter_sa ?o_Letter_mk ?o_Letter_kp ?o_Letter_n_due ?o_Letter_n_house ?o_Letter_n_sender ?o_Letter_n_what ?a_Post ?o_Post_pg ?o_Post_hd ?o_Post_po ?o_Post_sa ?o_Post_mk ?o_Post_kp ?a_zbd ?l_zbd ?c_zbd ?k_zbd ?a_zbe ?l_zbe ?c_zbe ?k_zbe ?a_zaw ?l_zaw ?c_zaw ?k_zaw ?a_zbf ?l_zbf ?c_zbf ?k_zbf ?a_zbg ?l_zbg ?c_zbg ?k_zbg ?a_zbo ?l_zbo ?c_zbo ?k_zbo ?a_zbh ?l_zbh ?c_zbh ?k_zbh ?a_zap ?l_zap ?c_zap ?k_zap ?a_zaq ?l_zaq ?c_zaq ?k_zaq ?a_zbi ?l_zbi ?c_zbi ?k_zbi ?a_zbp ?l_zbp ?c_zbp ?k_zbp ?a_zbj ?l_zbj ?c_zbj ?k_zbj ?a_zaf ?l_zaf ?c_zaf ?k_zaf ?a_zam ?i_zam ?l_zam ?c_zam ?k_zam ?q_zam_rd ?q_zam_fc ?q_zam_sp ?a_zat ?l_zat ?c_zat ?k_zat ?a_zan ?i_zan ?l_zan ?c_zan ?k_zan ?kd_zan_sender ?kd_zan_liars ?tu_zan_liars_o ?a_zad ?i_zad ?l_zad ?c_zad ?k_zad ?a_zar ?l_zar ?c_zar ?k_zar ?a_zaa ?i_zaa ?l_zaa ?c_zaa ?k_zaa ?a_zax ?l_zax ?c_zax ?k_zax ?a_zag ?l_zag ?c_zag ?k_zag ?a_zaj ?i_zaj ?l_zaj ?c_zaj ?k_zaj ?a_zay ?i_zay ?l_zay ?c_zay ?k_zay ?a_zbq ?i_zbq ?l_zbq ?c_zbq ?k_zbq ?a_zaz ?l_zaz ?c_zaz ?k_zaz ?a_zai ?i_zai ?l_zai ?c_zai ?k_zai ?a_zau ?i_zau ?l_zau ?c_zau ?k_zau ?a_zah ?i_zah ?l_zah ?c_zah ?k_zah ?a_zak ?i_zak ?l_zak ?c_zak ?k_zak ?a_zbk ?i_zbk ?l_zbk ?c_zbk ?k_zbk ?a_zba ?i_zba ?l_zba ?c_zba ?k_zba ?a_zas ?i_zas ?l_zas ?c_zas ?k_zas ?a_zbl ?i_zbl ?l_zbl ?c_zbl ?k_zbl ?a_zal ?i_zal ?l_zal ?c_zal ?k_zal ?a_zae ?i_zae ?l_zae ?c_zae ?k_zae ?a_zao ?i_zao ?l_zao ?c_zao ?k_zao ?a_zac ?i_zac ?l_zac ?c_zac ?k_zac ?a_zab ?i_zab ?l_zab ?c_zab ?k_zab ?a_zbm ?i_zbm ?l_zbm ?c_zbm ?k_zbm ?a_zav ?l_zav ?c_zav ?k_zav ?a_zbn ?i_zbn ?l_zbn ?c_zbn ?k_zbn ?a_zbb ?l_zbb ?c_zbb ?k_zbb ?a_zbc ?i_zbc ?l_zbc ?c_zbc ?k_zbc ?a_law ?l_law ?c_law ?k_law ?n_LAST_WORD_NUMBER ?n_MOST_FEW ?n_MOST_HOUSES ?a_WORDS ?d_WORDS ?dz_WORDS ?dl_WORDS ?a_BadNumber ?a_BadLies ?a_BadHouses ?a_NoHouse ?a_NoLetter ?a_NotNow ?a_LiarError ?e_BadHouses ?e_BadLies ?e_BadNumber ?e_NoLetter ?e_NotNow ?z_all ?z_bool ?z_int ?z_isinstance ?z_len ?z_list ?z_range ?z_set ?z_str ?z_tuple ?z_zip
  (case a_Echo => k_is)
  (case o_Echo_pg => k_is)
  (case o_Echo_hd => k_is)
  (case o_Echo_po => k_is)
  (case o_Echo_sa => k_is)
  (case o_Echo_mk => k_is)
  (case o_Echo_kp => k_is)
  (case o_Echo_n_few => k_is)
  (case o_Echo_n_got => k_is)
  (case o_Echo_n_houses => k_is)
  (case o_Echo_n_liars => k_is)
  (case o_Echo_n_on_way => k_is)
  (case o_Echo_n_sender => k_is)
  (case o_Echo_n_taken => k_is)
  (case o_Echo_n_written => k_is)
  (case a_Letter => k_is)
  (case o_Letter_pg => k_is)
  (case o_Letter_hd => k_is)
  (case o_Letter_po => k_is)
  (case o_Letter_sa => k_is)
  (case o_Letter_mk => k_is)
  (case o_Letter_kp => k_is)
  (case o_Letter_n_due => k_is)
  (case o_Letter_n_house => k_is)
  (case o_Letter_n_sender => k_is)
  (case o_Letter_n_what => k_is)
  (case a_Post => k_is)
  (case o_Post_pg => k_is)
  (case o_Post_hd => k_is)
  (case o_Post_po => k_is)
  (case o_Post_sa => k_is)
  (case o_Post_mk => k_is)
  (case o_Post_kp => k_is)
  (case a_zbd => k_is)
  (case l_zbd => k_is)
  (case c_zbd => k_is)
  (case k_zbd => k_is)
  (case a_zbe => k_is)
  (case l_zbe => k_is)
  (case c_zbe => k_is)
  (case k_zbe => k_is)
  (case a_zaw => k_is)
  (case l_zaw => k_is)
  (case c_zaw => k_is)
  (case k_zaw => k_is)
  (case a_zbf => k_is)
  (case l_zbf => k_is)
  (case c_zbf => k_is)
  (case k_zbf => k_is)
  (case a_zbg => k_is)
  (case l_zbg => k_is)
  (case c_zbg => k_is)
  (case k_zbg => k_is)
  (case a_zbo => k_is)
  (case l_zbo => k_is)
  (case c_zbo => k_is)
  (case k_zbo => k_is)
  (case a_zbh => k_is)
  (case l_zbh => k_is)
  (case c_zbh => k_is)
  (case k_zbh => k_is)
  (case a_zap => k_is)
  (case l_zap => k_is)
  (case c_zap => k_is)
  (case k_zap => k_is)
  (case a_zaq => k_is)
  (case l_zaq => k_is)
  (case c_zaq => k_is)
  (case k_zaq => k_is)
  (case a_zbi => k_is)
  (case l_zbi => k_is)
  (case c_zbi => k_is)
  (case k_zbi => k_is)
  (case a_zbp => k_is)
  (case l_zbp => k_is)
  (case c_zbp => k_is)
  (case k_zbp => k_is)
  (case a_zbj => k_is)
  (case l_zbj => k_is)
  (case c_zbj => k_is)
  (case k_zbj => k_is)
  (case a_zaf => k_is)
  (case l_zaf => k_is)
  (case c_zaf => k_is)
  (case k_zaf => k_is)
  (case a_zam => k_is)
  (case i_zam => k_is)
  (case l_zam => k_is)
  (case c_zam => k_is)
  (case k_zam => k_is)
  (case q_zam_rd => k_is)
  (case q_zam_fc => k_is)
  (case q_zam_sp => k_is)
  (case a_zat => k_is)
  (case l_zat => k_is)
  (case c_zat => k_is)
  (case k_zat => k_is)
  (case a_zan => k_is)
  (case i_zan => k_is)
  (case l_zan => k_is)
  (case c_zan => k_is)
  (case k_zan => k_is)
  (case kd_zan_sender => k_is)
  (case kd_zan_liars => k_is)
  (case tu_zan_liars_o => k_is)
  (case a_zad => k_is)
  (case i_zad => k_is)
  (case l_zad => k_is)
  (case c_zad => k_is)
  (case k_zad => k_is)
  (case a_zar => k_is)
  (case l_zar => k_is)
  (case c_zar => k_is)
  (case k_zar => k_is)
  (case a_zaa => k_is)
  (case i_zaa => k_is)
  (case l_zaa => k_is)
  (case c_zaa => k_is)
  (case k_zaa => k_is)
  (case a_zax => k_is)
  (case l_zax => k_is)
  (case c_zax => k_is)
  (case k_zax => k_is)
  (case a_zag => k_is)
  (case l_zag => k_is)
  (case c_zag => k_is)
  (case k_zag => k_is)
  (case a_zaj => k_is)
  (case i_zaj => k_is)
  (case l_zaj => k_is)
  (case c_zaj => k_is)
  (case k_zaj => k_is)
  (case a_zay => k_is)
  (case i_zay => k_is)
  (case l_zay => k_is)
  (case c_zay => k_is)
  (case k_zay => k_is)
  (case a_zbq => k_is)
  (case i_zbq => k_is)
  (case l_zbq => k_is)
  (case c_zbq => k_is)
  (case k_zbq => k_is)
  (case a_zaz => k_is)
  (case l_zaz => k_is)
  (case c_zaz => k_is)
  (case k_zaz => k_is)
  (case a_zai => k_is)
  (case i_zai => k_is)
  (case l_zai => k_is)
  (case c_zai => k_is)
  (case k_zai => k_is)
  (case a_zau => k_is)
  (case i_zau => k_is)
  (case l_zau => k_is)
  (case c_zau => k_is)
  (case k_zau => k_is)
  (case a_zah => k_is)
  (case i_zah => k_is)
  (case l_zah => k_is)
  (case c_zah => k_is)
  (case k_zah => k_is)
  (case a_zak => k_is)
  (case i_zak => k_is)
  (case l_zak => k_is)
  (case c_zak => k_is)
  (case k_zak => k_is)
  (case a_zbk => k_is)
  (case i_zbk => k_is)
  (case l_zbk => k_is)
  (case c_zbk => k_is)
  (case k_zbk => k_is)
  (case a_zba => k_is)
  (case i_zba => k_is)
  (case l_zba => k_is)
  (case c_zba => k_is)
  (case k_zba => k_is)
  (case a_zas => k_is)
  (case i_zas => k_is)
  (case l_zas => k_is)
  (case c_zas => k_is)
  (case k_zas => k_is)
  (case a_zbl => k_is)
  (case i_zbl => k_is)
  (case l_zbl => k_is)
  (case c_zbl => k_is)
  (case k_zbl => k_is)
  (case a_zal => k_is)
  (case i_zal => k_is)
  (case l_zal => k_is)
  (case c_zal => k_is)
  (case k_zal => k_is)
  (case a_zae => k_is)
  (case i_zae => k_is)
  (case l_zae => k_is)
  (case c_zae => k_is)
  (case k_zae => k_is)
  (case a_zao => k_is)
  (case i_zao => k_is)
  (case l_zao => k_is)
  (case c_zao => k_is)
  (case k_zao => k_is)
  (case a_zac => k_is)
  (case i_zac => k_is)
  (case l_zac => k_is)
  (case c_zac => k_is)
  (case k_zac => k_is)
  (case a_zab => k_is)
  (case i_zab => k_is)
  (case l_zab => k_is)
  (case c_zab => k_is)
  (case k_zab => k_is)
  (case a_zbm => k_is)
  (case i_zbm => k_is)
  (case l_zbm => k_is)
  (case c_zbm => k_is)
  (case k_zbm => k_is)
  (case a_zav => k_is)
  (case l_zav => k_is)
  (case c_zav => k_is)
  (case k_zav => k_is)
  (case a_zbn => k_is)
  (case i_zbn => k_is)
  (case l_zbn => k_is)
  (case c_zbn => k_is)
  (case k_zbn => k_is)
  (case a_zbb => k_is)
  (case l_zbb => k_is)
  (case c_zbb => k_is)
  (case k_zbb => k_is)
  (case a_zbc => k_is)
  (case i_zbc => k_is)
  (case l_zbc => k_is)
  (case c_zbc => k_is)
  (case k_zbc => k_is)
  (case a_law => k_is)
  (case l_law => k_is)
  (case c_law => k_is)
  (case k_law => k_is)
  (case n_LAST_WORD_NUMBER => k_is)
  (case n_MOST_FEW => k_is)
  (case n_MOST_HOUSES => k_is)
  (case a_WORDS => k_is)
  (case d_WORDS => k_is)
  (case dz_WORDS => decide)
  (case dl_WORDS => rfl)
  (case a_BadNumber => k_is)
  (case a_BadLies => k_is)
  (case a_BadHouses => k_is)
  (case a_NoHouse => k_is)
  (case a_NoLetter => k_is)
  (case a_NotNow => k_is)
  (case a_LiarError => k_is)
  (case e_BadHouses => k_exc)
  (case e_BadLies => k_exc)
  (case e_BadNumber => k_exc)
  (case e_NoLetter => k_exc)
  (case e_NotNow => k_exc)
  (case z_all => k_is)
  (case z_bool => k_is)
  (case z_int => k_is)
  (case z_isinstance => k_is)
  (case z_len => k_is)
  (case z_list => k_is)
  (case z_range => k_is)
  (case z_set => k_is)
  (case z_str => k_is)
  (case z_tuple => k_is)
  (case z_zip => k_is)
