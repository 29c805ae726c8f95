import PyProof.Rows.All
import Wide.All
import OpenK.AllK
import Wide.FinOn
import Lean
import PyProof.EqAt
import PyProof.EqKinds
import PyProof.TupleCall
import PySem.Challenge.RW_liarclocks_k29_books_refused
set_option Elab.async false
set_option linter.all false
set_option maxRecDepth 100000
set_option maxHeartbeats 4000000
namespace MH
open PySem PySem.W
def goT (tb : String → Option Builtin) (p : Program) (w : World) (n₀ : Nat) (ann : Option Value) : Nat → SharedT → Thread → Option SharedT
  | 0, _, _ => none
  | m + 1, s, th => match through th with
    | true => some s
    | false => match stepOk n₀ ann th with
      | false => none
      | true => match stepT (denote tb) p w s th with
        | some (s', th') => goT tb p w n₀ ann m s' th'
        | none => none
theorem jgr {tb : String → Option Builtin} {p : Program} {w : World} {n₀ : Nat} {ann : Option Value} {m : Nat} : ∀ {s r : SharedT} {th : Thread}, goT tb p w n₀ ann m s th = some r → topRun tb p w n₀ ann m s.abs th = some r.abs := by
  induction m with
  | zero => intro s r th h; cases h
  | succ m ih =>
    intro s r th h
    unfold goT at h
    unfold topRun
    cases he : through th with
    | true => rw [he] at h; cases h; rfl
    | false =>
      rw [he] at h
      cases hk : stepOk n₀ ann th with
      | false => rw [hk] at h; cases h
      | true =>
        rw [hk] at h
        cases hs : stepT (denote tb) p w s th with
        | none => rw [hs] at h; cases h
        | some x => obtain ⟨s₂, t₂⟩ := x; rw [hs] at h; dsimp only; rw [stepT_spec hs]; exact ih h
def jhr (l : List Obj) : BT × Nat := l.foldl (fun t o => (t.1.ins t.2 o, t.2 + 1)) (.nil, 0)
def jam (h : Heap) (d : Drawn) (k : Nat) (os : OsState) : SharedT := ⟨(jhr h.objs.toList).1, h.objs.toList.length, h.life, #[], d, k, os⟩
def jda (p q : Program) (loose : List Str) (lv : List (Str × WData)) (R : WRecords) (as : List Addr) (h₀ : Heap) (s : Shared) :=
  ((staticsOk (importedModules p.main.body) h₀ s.heap && namesBound p s.heap && gensDone s && laidKept h₀ s.heap), openSeen q loose (importedModules p.main.body) (fun s => xlAt q lv s && recOk R s) true s, PySem.W.X.obsZ as s)
def E (p q : Program) (loose : List Str) (lv : List (Str × WData)) (R : WRecords) (as : List Addr) (m₀ : Nat) (ann : Option Value) (M : Nat) (h₀ : Heap) (d : Drawn) (k : Nat) (w : World) (os : OsState) :=
  (goT treeTable p w m₀ ann M (jam h₀ d k os) (topStub p)).map fun s => jda p q loose lv R as h₀ s.abs
def sz (h : Heap) : Bool × Nat × Option Value := (h.isNs mainGlobals && (#[] : Array GenState).size == 0, h.objs.size, h.nsMap mainGlobals "__annotations__")
theorem le_add {M N : Nat} (le : Nat.ble M N = true) : M + (N - M) = N := Nat.add_sub_cancel' (Nat.le_of_ble_eq_true le)
theorem left {p q p' q' : Program} {loose loose' : List Str} {lv : List (Str × WData)} {R : WRecords} {as : List Addr} {N m₀ M : Nat} {ann : Option Value} {Ya : World → List (Option Obj) × Nat × Nat} {E2 : _} {sz2 : _} (hE : @E = E2) (hS : @sz = sz2) (hp : p = p') (hq : q = q') (hl : loose = loose')
    (o1 : opening p = plainProg p.main.scope.names) (hN : Nat.ble 600 N = true) (o2 : ∀ s, fenceModules? p s = some s) (habs : ∀ (P : Params) d k os, (jam (boot_heap P) d k os).abs = ⟨boot_heap P, #[], d, k, os⟩)
    (size : ∀ P : Params, sz2 (boot_heap P) = (true, m₀, ann)) (le : Nat.ble M N = true)
    (run : ∀ (w : World) (os : OsState), E2 p' q' loose' lv R as m₀ ann M (boot_heap w.params) boot_drawn boot_toks w os = some (true, openGood q' loose', Ya w)) :
    LeftO p q loose (fun s => xlAt q lv s && recOk R s) (PySem.W.X.obsZ as) Ya N := fun w => by
  subst hE hS hp hq hl
  obtain ⟨⟨h, gs, d, k, os⟩, e, e'⟩ := Option.map_eq_some_iff.mp (boot_open o1 hN o2 w)
  obtain ⟨rfl, rfl, rfl, rfl⟩ : h = boot_heap w.params ∧ gs = #[] ∧ d = boot_drawn ∧ k = boot_toks := by simpa using e'
  obtain ⟨z1, z2, z3⟩ : _ ∧ _ ∧ _ := by simpa only [sz, Prod.mk.injEq] using size w.params
  obtain ⟨s₁, r, l⟩ := Option.map_eq_some_iff.mp (run w os)
  obtain ⟨l1, l2, l3⟩ : _ ∧ _ ∧ _ := by simpa only [jda, Prod.mk.injEq] using l
  have r := jgr r
  rw [habs] at r
  have r := topRun_mono (N - M) _ _ _ _ r
  rw [le_add le] at r
  have t : topFrom treeTable p w N ⟨boot_heap w.params, #[], boot_drawn, boot_toks, os⟩ = some s₁.abs := by
    unfold topFrom
    dsimp only
    rw [z1, z2, z3, r]
    show (match staticsOk (importedModules p.main.body) (boot_heap w.params) s₁.abs.heap && namesBound p s₁.abs.heap && gensDone s₁.abs && laidKept (boot_heap w.params) s₁.abs.heap with | true => _ | false => _) = _
    rw [l1]
  unfold openEnds
  rw [e]
  show (topFrom treeTable p w N _).map _ = _
  rw [t]
  show some (_, _) = _
  rw [l2, l3]
theorem jgq {α : Sort _} {a b : α} (h : a = b) : a = b := h
theorem two {P : World → Prop} (row : String) (hf : ∀ w : World, P (w.withFollow row false)) (ht : ∀ w : World, P (w.withFollow row true)) (w : World) : P w := byRow2 row hf ht w
theorem jcx (P : Params) (d : Drawn) (k : Nat) (os : OsState) : (jam (boot_heap P) d k os).abs = ⟨boot_heap P, #[], d, k, os⟩ := by kernel_rfl
end MH
lay_quick MH.E MH.sz PySem.Challenge.pw_liarclocks_k29_books_refused
section
open PySem PySem.W PySem.W.X PySem.W.ZRun
local macro_rules
  | `(tactic| refine $f $args*) => do
    let is (a : Lean.Syntax) (n : Lean.Name) : Bool := a.isOfKind `Lean.Parser.Term.syntheticHole && a[1].getId.eraseMacroScopes == n
    unless args.any (fun a => is a.raw `hl) do Lean.Macro.throwUnsupported
    let as : Array Lean.Syntax := args.map fun a => if is a.raw `hl then (Lean.mkIdent `hl).raw else if is a.raw `hc then (Lean.mkIdent `hc).raw else a.raw
    let t : Lean.TSyntax `term := ⟨Lean.mkNode `Lean.Parser.Term.app #[f.raw, Lean.mkNullNode as]⟩
    `(tactic| refine $t)
set_option maxHeartbeats 0 in
/-- only to have the kit write out the kept heap and the view; it is used nowhere -/
theorem MH.wr (hl : ∀ {q : Program} {loose : List Str} {Xt : Shared → Bool} {Yf : Shared → List (Option Obj) × Nat × Nat} {Ya : World → List (Option Obj) × Nat × Nat} {N : Nat}, LeftO PySem.Challenge.pw_liarclocks_k29_books_refused q loose Xt Yf Ya N) (hc : ∀ {q : Program} {loose : List Str} {XP : (Str → Option Value) → Heap → Prop} {Yf : Shared → List (Option Obj) × Nat × Nat} {Ya : World → List (Option Obj) × Nat × Nat} {r : RowW} {d : DefRec} {kwd : List (Str × Expr)} {run : Value → List Value → Sem Value}, WalkX q loose XP Yf Ya r d kwd run) : PySem.Challenge.rw_liarclocks_k29_books_refused.Holds := by
  w_on; o_law; z_head; (case hw => w_witness2)
end
namespace MH
open PySem PySem.W
noncomputable def as0 : List Addr := [0, 1, 2, 3, 4, 5, 6, 7, 8, 9, 10, 11, 12, 13, 14, 15, 22, 23, 24, 25, 28, 35, 36, 37, 40, 47, 48, 49, 52, 59, 60, 61, 64, 71, 72, 73, 76, 83, 84, 85, 86, 87, 88, 89, 90, 91, 92, 95, 102, 103, 104, 107, 114, 115, 116, 119, 126, 127, 128, 131, 138, 139, 140, 143, 144, 145, 146, 147, 148, 149, 150, 151, 152, 153, 154, 155, 156, 157, 158, 159, 160, 161, 162, 163, 164, 165, 166, 167, 168, 169, 170, 171, 172, 173, 174, 175, 176, 177, 178, 179, 180, 181, 182, 183, 184, 185, 186, 187, 188, 189, 190, 191, 192, 193, 194, 195, 196, 197, 198, 199, 200, 201, 202, 203, 204, 205, 206, 207, 208, 209, 210, 211, 212, 213, 214, 215, 216, 217, 218, 219, 220, 221, 222, 223, 224, 225, 233, 234, 235, 236, 237, 238, 239, 240, 241, 242, 243, 244, 245, 246, 247, 248, 249, 250, 251, 252, 253, 254, 255, 256, 257, 258, 259, 260, 261, 262, 263, 264, 265, 266, 267, 268, 269, 270, 271, 272, 273, 274, 275, 276, 277, 278, 279, 280, 281, 282, 283, 284, 285, 286, 287, 288, 289, 290, 291, 292, 293, 294, 295, 296, 297, 298, 299, 302, 303, 304, 305, 306, 307, 308, 309, 310, 311, 312, 313, 314, 315, 316, 317, 318, 319, 320, 321, 322, 323, 324, 325, 326, 327, 328, 329, 330, 331, 332, 333, 334, 335, 336, 337, 338, 339, 340, 341, 342, 343, 344, 345, 346, 347, 348, 349, 350, 351, 352, 353]
noncomputable def q0 : Program := PySem.W.view PySem.W.Fast.tw12938398107316313983 [1,2,3,4,5,6,7,8,9,10,12,13,14,15,16,17,18,19,20,21,22,23,25,26,27,28,29,30,32,33,34,35,36,37,38]
noncomputable def lo0 : List Str := [⟨⟨[66, 111, 111, 107]⟩⟩]
def Ok (w : World) : Prop := ∀ os : OsState, PySem.W.Fast.tw6129207837983636007 PySem.W.Fast.tw12938398107316313983 q0 lo0 [] (PySem.W.RowW.records (PySem.W.OpenRow.toRowW (PySem.W.OpenLaw.row PySem.Challenge.rw_liarclocks_k29_books_refused))) as0 11 (some (PySem.Value.ref 6)) 6768 (boot_heap w.params) boot_drawn boot_toks w os = some (true, openGood q0 lo0, PySem.W.X.valZ MH.wr.heap_303 354 640 w)
theorem ok (w : World) : Ok w := fun os => by kernel_rfl
theorem q_eq : MH.wr.view_648 = q0 := Eq.trans (b := PySem.W.view PySem.Challenge.pw_liarclocks_k29_books_refused [1,2,3,4,5,6,7,8,9,10,12,13,14,15,16,17,18,19,20,21,22,23,25,26,27,28,29,30,32,33,34,35,36,37,38]) (by kernel_rfl) (congrArg (fun p => PySem.W.view p [1,2,3,4,5,6,7,8,9,10,12,13,14,15,16,17,18,19,20,21,22,23,25,26,27,28,29,30,32,33,34,35,36,37,38]) PySem.W.Fast.te12938398107316313983)
theorem lo_eq : ([PySem.Str.ofString "Book"] : List Str) = lo0 := by kernel_rfl
theorem le_ok : LeftO PySem.Challenge.pw_liarclocks_k29_books_refused MH.wr.view_648 [PySem.Str.ofString "Book"] (fun s => xlAt MH.wr.view_648 [] s && recOk (PySem.W.RowW.records (PySem.W.OpenRow.toRowW (PySem.W.OpenLaw.row PySem.Challenge.rw_liarclocks_k29_books_refused))) s) (PySem.W.X.obsZ as0) (PySem.W.X.valZ MH.wr.heap_303 354 640) 6768 :=
  left PySem.W.Fast.te6129207837983636007 PySem.W.Fast.te9778236028270751511 PySem.W.Fast.te12938398107316313983 q_eq lo_eq (by kernel_rfl) (by decide) (fun s => by kernel_rfl) jcx (fun P => by kernel_rfl) (by decide) ok
theorem as_eq (P : Params) : as0 = (MH.wr.heap_303 P).map fun p => p.1 := by kernel_rfl
end MH
set_option Elab.async false
set_option linter.all false
set_option maxRecDepth 100000
namespace L2
open PySem PySem.Spec PyProof.Rows
abbrev Key:=Sum Int Str
def Xf:Key->Value->Bool
  | .inl k,v=>Value.isInt k v
  | .inr x,v=>Value.isStrOf x v
def keyH (w:World):Key->Int
  | .inl k=>hashInt k
  | .inr x=>hashStr w x
theorem jZ:∀ {k:Key} {v:Value},Xf k v=true->(∃ i t,k=Sum.inl i∧v=Value.int i t)∨(∃ x t,k=Sum.inr x∧v=Value.str x t)
  | .inl i,v,h=>by
    obtain ⟨t,e⟩:=Value.isInt_shape (k:=i) (v:=v) h
    exact .inl ⟨i,t,rfl,e⟩
  | .inr x,v,h=>by
    obtain ⟨t,e⟩:=Value.isStrOf_shape (x:=x) (v:=v) h
    exact .inr ⟨x,t,rfl,e⟩
theorem jcg (i:Int) (t:Tok):Xf (.inl i) (.int i t)=true:=by simp [Xf,Value.isInt]
theorem jcf (x:Str) (t:Tok):Xf (.inr x) (.str x t)=true:=by simp [Xf,Value.isStrOf]
theorem key_ll (a b:Int):decide ((Sum.inl a:Key)=Sum.inl b)=(a == b):=by
  by_cases e:a=b
  · subst e; simp
  · have h:¬ (Sum.inl a:Key)=Sum.inl b:=fun q=>e (Sum.inl.inj q)
    rw [decide_eq_false h]
    exact (beq_eq_false_iff_ne.mpr e).symm
theorem key_rr (a b:Str):decide ((Sum.inr a:Key)=Sum.inr b)=decide (a=b):=by
  by_cases e:a=b
  · subst e; simp
  · have h:¬ (Sum.inr a:Key)=Sum.inr b:=fun q=>e (Sum.inr.inj q)
    rw [decide_eq_false h,decide_eq_false e]
theorem key_lr (a:Int) (b:Str):decide ((Sum.inl a:Key)=Sum.inr b)=false:=decide_eq_false (fun q=>nomatch q)
theorem key_rl (a:Str) (b:Int):decide ((Sum.inr a:Key)=Sum.inl b)=false:=decide_eq_false (fun q=>nomatch q)
def jI (prog:Program) (w:World):PySem.KeyKind prog w Key where
  is:=Xf
  hash:=keyH w
  inj:=fun v a b ha hb=>by
    rcases jZ ha with ⟨i,t,rfl,rfl⟩ | ⟨x,t,rfl,rfl⟩
    · rcases jZ hb with ⟨j,u,rfl,e⟩ | ⟨y,u,rfl,e⟩
      · injection e with e1 _; rw [e1]
      · exact nomatch e
    · rcases jZ hb with ⟨j,u,rfl,e⟩ | ⟨y,u,rfl,e⟩
      · exact nomatch e
      · injection e with e1 _; rw [e1]
  byValue:=fun k v h=>by
    rcases jZ h with ⟨i,t,rfl,rfl⟩ | ⟨x,t,rfl,rfl⟩ <;> rfl
  pyHash:=fun hv h=>by
    rcases jZ hv with ⟨i,t,rfl,rfl⟩ | ⟨x,t,rfl,rfl⟩
    · exact wpAny_pyHash_int h
    · exact wpAny_pyHash_str h
  eqBool:=fun hu hv h=>by
    rcases jZ hu with ⟨i,t,rfl,rfl⟩ | ⟨x,t,rfl,rfl⟩
    · rcases jZ hv with ⟨j,u,rfl,rfl⟩ | ⟨y,u,rfl,rfl⟩
      · rw [key_ll] at h; exact wpAny_eqBool_int h
      · rw [key_lr] at h; exact SeqAt.EqAt.int_str i t y u _ _ _ _ h
    · rcases jZ hv with ⟨j,u,rfl,rfl⟩ | ⟨y,u,rfl,rfl⟩
      · rw [key_rl] at h; exact SeqAt.EqAt.str_int x t j u _ _ _ _ h
      · rw [key_rr] at h; exact wpAny_eqBool_str h
  «strs»:=fun k x t v h=>by
    rcases jZ h with ⟨i,u,rfl,e⟩ | ⟨y,u,rfl,e⟩
    · exact nomatch e
    · injection e with e1 _
      subst e1
      cases v <;> rfl
theorem VJ (prog:Program) (w:World) (i:Int) (t:Tok):(jI prog w).is (.inl i) (.int i t)=true:=jcg i t
theorem VI (prog:Program) (w:World) (x:Str) (t:Tok):(jI prog w).is (.inr x) (.str x t)=true:=jcf x t
end L2
namespace L2
open PySem PySem.Spec PyProof.Rows
inductive V where
  | non | bl (b:Bool) | int (i:Int) | str (x:Str) | byt (b:Array UInt8) | flt (b:UInt64) | ref (a:Addr) | ty (n:String)
  deriving DecidableEq
def jv:V->Value->Prop
  | .non,u=>u=Value.none
  | .bl b,u=>u=Value.bool b
  | .int i,u=>∃ t,u=Value.int i t
  | .str x,u=>∃ t,u=Value.str x t
  | .byt b,u=>∃ t,u=Value.bytes b t
  | .flt b,u=>∃ t,u=Value.float b t
  | .ref a,u=>u=Value.ref a
  | .ty n,u=>u=Value.type n
abbrev jq:List V->List Value->Prop:=Paired jv
theorem jq.length {xs:List V} {us:List Value} (r:jq xs us):xs.length=us.length:=Paired.length r
theorem jq.get:∀ {xs:List V} {us:List Value} {i:Nat} {x:V},jq xs us->xs[i]? = some x->∃ u,us[i]? = some u∧jv x u
  | _,_,_,_,.nil,e=>by simp at e
  | _,_,0,_,.cons r _,e=>by simp at e; subst e; exact ⟨_,rfl,r⟩
  | _,_,i + 1,x,.cons _ t,e=>by
    obtain ⟨u,h1,h2⟩:=jq.get (i:=i) (x:=x) t (by simpa using e)
    exact ⟨u,by simpa using h1,h2⟩
theorem jq.set {x:V} {u:Value} (r:jv x u):∀ {xs:List V} {us:List Value} (i:Nat),jq xs us->jq (xs.set i x) (us.set i u)
  | _,_,_,.nil=>.nil
  | _,_,0,.cons _ t=>.cons r t
  | _,_,i + 1,.cons q t=>.cons q (jq.set r i t)
theorem jq.append {xs ys:List V} {us ws:List Value} (h:jq xs us) (s:jq ys ws):jq (xs ++ ys) (us ++ ws):=by
  induction h with
  | nil=>exact s
  | cons r t ih=>exact .cons r ih
theorem jq.take:∀ {xs:List V} {us:List Value} (n:Nat),jq xs us->jq (xs.take n) (us.take n)
  | _,_,0,_=>.nil
  | _,_,_ + 1,.nil=>.nil
  | _,_,n + 1,.cons r t=>.cons r (jq.take n t)
theorem jq.drop:∀ {xs:List V} {us:List Value} (n:Nat),jq xs us->jq (xs.drop n) (us.drop n)
  | _,_,0,r=>r
  | _,_,_ + 1,.nil=>.nil
  | _,_,n + 1,.cons _ t=>jq.drop n t
theorem jq.none_of:∀ {xs:List V} {us:List Value} {i:Nat},jq xs us->xs[i]? = none->us[i]? = none:=fun {xs us i} r e=>by
  have h1:=r.length
  have h2:xs.length<=i:=List.getElem?_eq_none_iff.mp e
  exact List.getElem?_eq_none_iff.mpr (by omega)
def xM:Option V->Option Value->Prop
  | some v,some u=>jv v u
  | none,none=>True
  | _,_=>False
def KV {κ:Type}:List (κ × V)->List (κ × Value)->Prop:=Paired fun (p:κ × V) (q:κ × Value)=>p.1=q.1∧jv p.2 q.2
def kV:Key->V
  | .inl i=>.int i
  | .inr x=>.str x
inductive HO where
    | lst (xs:List V)
    | tup (xs:List V)
    | dK (kvs:List (Key × V)) | dT (kvs:List (List Key × V))
    | set (S:Int->Bool) (n:Nat)
    | ins (C dx:Addr) (fs:List (Str × V))
    | own (x:Addr)
    | xd (fs:List (Str × V))
    | met (f x:Addr)
    | rng (lo hi:Int)
    | frz (o:Obj) (u:HO)
    | tbl (ps:Array Value)
    | ext (φ:Heap->Prop)
abbrev Hp:=Addr->Option HO
def upd (H:Hp) (a:Addr) (o:HO):Hp:=fun b=>if b=a then some o else H b
theorem jo {H:Hp} {a:Addr} {o:HO}:upd H a o a=some o:=by unfold upd; rw [if_pos rfl]
theorem ji {H:Hp} {a b:Addr} {o:HO} (h:b≠a):upd H a o b=H b:=by unfold upd; rw [if_neg h]
theorem xX {H:Hp} {a:Addr} {o u:HO}:upd (upd H a o) a u=upd H a u:=by
  funext b; unfold upd; split <;> rfl
theorem ne_of {H:Hp} {a b:Addr} {o u:HO} (h:H a=some o) (h':H b=some u) (d:o≠u):a≠b:=by
  intro e; subst e; rw [h] at h'; exact d (Option.some.inj h')
theorem jB {H:Hp} {a b:Addr} {o:HO} (h:H a=some o) (h':H b=none):a≠b:=by
  intro e; subst e; rw [h] at h'; cases h'
section
variable (P:Program) (w:World)
def jM (H:Hp) (h:Heap) (a:Addr):HO->Prop
  | .lst xs=>xs.length<=sizeLine∧∃ (its:List Value) (n:Nat),jq xs its∧h.get? a=some { cls:=.type "list",data:=.seq its.toArray n }
  | .tup xs=>xs.length<=sizeLine∧∃ its:List Value,jq xs its∧IsTup h a its.toArray
  | .dK kvs=>kvs.length<=sizeLine∧(a == sysModules)=false∧∃ vs,KV kvs vs∧h.DictOf (jI P w) a vs
  | .dT kvs=>kvs.length<=sizeLine∧(a == sysModules)=false∧∃ xs:List (List Key × Addr × Value),
      Paired (fun (p:List Key × V) (q:List Key × Addr × Value)=>p.1=q.1∧H q.2.1=some (.tup (p.1.map kV))∧jv p.2 q.2.2) kvs xs ∧
      ∃ o es ep,h.get? a=some o∧o.ExactDict∧o.data = .dict es ep∧es.toList=xs.map (entryOfKey (tupleKind (jI P w)))∧(xs.map (·.1)).Nodup
  | .set S n=>h.SetOf (intKind P w) a S n
  | .ins C dx fs=>H dx=some (.own a)∧fs.length<=1000∧dx≠a∧h.get? a=some (PySem.W.instObj C dx) ∧
      ∃ mA,h.Ns1 dx mA∧(∀ f,xM (fs.lookup f) (mA f))∧PySem.Within mA (fs.map (·.1))
  | .own _=>∃ o,h.get? a=some o
  | .xd fs=>∃ mA,h.Ns1 a mA∧∀ f,xM (fs.lookup f) (mA f)
  | .rng lo hi=>∃ t u v,h.get? a=some { cls:=.type "range",data:=.fields #[.int lo t,.int hi u,.int 1 v] }
  | .frz o u=>h.get? a=some o∧jM H h a u
  | .tbl ps=>h.get? a=some { cls:=.none,data:=.fields ps }
  | .met f x=>h.get? a=some (PySem.W.methodObj (.ref f) (.ref x))
  | .ext φ=>φ h∧(∃ o,h.get? a=some o)∧∀ h1 h2:Heap,φ h1->(∀ o,h1.get? a=some o->h2.get? a=some o)->φ h2
def HOk (H:Hp) (h:Heap):Prop:=∀ a o,H a=some o->jM P w H h a o
end
section
variable {P:Program} {w:World} {H H':Hp} {h h':Heap} {a:Addr} {o:HO}
theorem jM.lt (x:jM P w H h a o):a < h.objs.size:=by
  cases o with
  | lst xs=>obtain ⟨_,_,_,_,e⟩:=x; exact Heap.lt_size e
  | tup xs=>obtain ⟨_,_,_,p⟩:=x; exact p.lt
  | dK kvs=>obtain ⟨_,_,_,_,o,_,_,e,_⟩:=x; exact Heap.lt_size e
  | dT kvs=>obtain ⟨_,_,_,_,o,_,_,e,_⟩:=x; exact Heap.lt_size e
  | set S n=>obtain ⟨o,_,_,_,e,_⟩:=x; exact Heap.lt_size e
  | ins C dx fs=>obtain ⟨_,_,_,e,_⟩:=x; exact Heap.lt_size e
  | own y=>obtain ⟨_,e⟩:=x; exact Heap.lt_size e
  | xd fs=>obtain ⟨_,⟨_,_,_,e,_⟩,_⟩:=x; exact Heap.lt_size e
  | rng lo hi=>obtain ⟨_,_,_,e⟩:=x; exact Heap.lt_size e
  | frz ob u=>obtain ⟨e,_⟩:=x; exact Heap.lt_size e
  | tbl ps=>exact Heap.lt_size (show h.get? a=some _ from x)
  | met f y=>exact Heap.lt_size (show h.get? a=some _ from x)
  | ext φ=>obtain ⟨_,⟨_,e⟩,_⟩:=x; exact Heap.lt_size e
theorem Paired.mapP {α β:Type} {F G:α->β->Prop} {l₁:List α} {l₂:List β} (h:Paired F l₁ l₂) (f:∀ a b,F a b->G a b):Paired G l₁ l₂:=by
  induction h with
  | nil=>exact .nil
  | cons r t ih=>exact .cons (f _ _ r) ih
theorem jM.stay (x:jM P w H h a o) (k:∀ b u,(b=a∨H b=some (.own a))->h.get? b=some u->h'.get? b=some u)
    (ho:∀ b,H b=some (.own a)->H' b=some (.own a)) (ht:∀ b xs,H b=some (.tup xs)->H' b=some (.tup xs)):jM P w H' h' a o:=by
  induction o with
  | lst xs=>obtain ⟨z,its,n,r,e⟩:=x; exact ⟨z,its,n,r,k _ _ (.inl rfl) e⟩
  | tup xs=>obtain ⟨z,its,r,ob,e,c⟩:=x; exact ⟨z,its,r,ob,k _ _ (.inl rfl) e,c⟩
  | dK kvs=>obtain ⟨z,y,vs,r,ob,es,ep,e,c⟩:=x; exact ⟨z,y,vs,r,ob,es,ep,k _ _ (.inl rfl) e,c⟩
  | dT kvs =>
    obtain ⟨z,y,xs,r,ob,es,ep,e,c⟩:=x
    exact ⟨z,y,xs,Paired.mapP r fun p q z=>⟨z.1,ht _ _ z.2.1,z.2.2⟩,ob,es,ep,k _ _ (.inl rfl) e,c⟩
  | set S n=>obtain ⟨ob,es,ep,t,e,c⟩:=x; exact ⟨ob,es,ep,t,k _ _ (.inl rfl) e,c⟩
  | ins C dx fs =>
    obtain ⟨d,z,ne,e,mA,⟨od,es,ep,e2,c⟩,r⟩:=x
    exact ⟨ho _ d,z,ne,k _ _ (.inl rfl) e,mA,⟨od,es,ep,k _ _ (.inr d) e2,c⟩,r⟩
  | own y=>obtain ⟨ob,e⟩:=x; exact ⟨ob,k _ _ (.inl rfl) e⟩
  | xd fs=>obtain ⟨mA,⟨od,es,ep,e,c⟩,r⟩:=x; exact ⟨mA,⟨od,es,ep,k _ _ (.inl rfl) e,c⟩,r⟩
  | rng lo hi=>obtain ⟨t,u,v,e⟩:=x; exact ⟨t,u,v,k _ _ (.inl rfl) e⟩
  | frz ob u ih=>obtain ⟨e,q⟩:=x; exact ⟨k _ _ (.inl rfl) e,ih q⟩
  | tbl ps =>
    have e:h.get? a=some { cls:=.none,data:=.fields ps }:=x
    show h'.get? a=some { cls:=.none,data:=.fields ps }
    exact k a _ (.inl rfl) e
  | met f y =>
    have e:h.get? a=some (PySem.W.methodObj (.ref f) (.ref y)):=x
    show h'.get? a=some (PySem.W.methodObj (.ref f) (.ref y))
    exact k a _ (.inl rfl) e
  | ext φ=>obtain ⟨p,⟨o,e⟩,st⟩:=x; exact ⟨st _ _ p fun o q=>k _ _ (.inl rfl) q,⟨o,k _ _ (.inl rfl) e⟩,st⟩
theorem HOk.lt (x:HOk P w H h) (e:H a=some o):a < h.objs.size:=(x a o e).lt
theorem HOk.fresh (x:HOk P w H h) (e:h.objs.size<=a):H a=none:=by
  cases q:H a with
  | none=>rfl
  | some u=>exact absurd (Nat.lt_of_lt_of_le (x.lt q) e) (Nat.lt_irrefl _)
theorem HOk.kept (x:HOk P w H h) (k:∀ b u,h.get? b=some u->h'.get? b=some u):HOk P w H h':=fun a o e =>
  (x a o e).stay (fun b u _ q=>k b u q) (fun _ q=>q) fun _ _ q=>q
theorem HOk.laid (x:HOk P w H h) (k:∀ b u,h.get? b=some u->h'.get? b=some u) (hp:h.objs.size<=a) (new:jM P w (upd H a o) h' a o):HOk P w (upd H a o) h':=fun b u e=>by
  have hn:=x.fresh hp
  by_cases hb:b=a
  · subst hb; rw [jo] at e; cases e; exact new
  · rw [ji hb] at e
    exact (x b u e).stay (fun c v _ q=>k c v q) (fun c q=>by rw [ji (jB q hn)]; exact q) fun c xs q=>by rw [ji (jB q hn)]; exact q
end
def Rd (H:Hp) (a:Addr) (u:HO):Prop:=H a=some u∨∃ o,H a=some (.frz o u)
theorem Rd.of {H:Hp} {a:Addr} {u:HO} (h:H a=some u):Rd H a u:=.inl h
theorem Rd.ok {P:Program} {w:World} {H:Hp} {h:Heap} {a:Addr} {u:HO} (r:Rd H a u) (x:HOk P w H h):jM P w H h a u:=by
  rcases r with r | ⟨o,r⟩
  · exact x a u r
  · obtain ⟨_,q⟩:=x a _ r
    exact q
def Mut:Option HO->Prop
  | some (.lst _)=>True
  | some (.dK _)=>True
  | some (.dT _)=>True
  | some (.set _ _)=>True
  | some (.ins _ _ _)=>True
  | some (.ext _)=>True
  | _=>False
section
variable {P:Program} {w:World} {H:Hp} {h h':Heap} {x e:Addr} {o':HO}
theorem HOk.write (ok:HOk P w H h) (mu:Mut (H x)) (he:e=x∨H e=some (.own x)) (k:∀ b u,b≠e->h.get? b=some u->h'.get? b=some u) (heo:∃ u,h'.get? e=some u)
    (new:jM P w (upd H x o') h' x o'):HOk P w (upd H x o') h':=fun b u q=>by
  have nown:∀ c y,H c=some (.own y)->c≠x:=fun c y r z=>by subst z; rw [r] at mu; exact mu
  have ntup:∀ c xs,H c=some (.tup xs)->c≠x:=fun c xs r z=>by subst z; rw [r] at mu; exact mu
  by_cases hb:b=x
  · subst hb; rw [jo] at q; cases q; exact new
  · rw [ji hb] at q
    by_cases hbe:b=e
    · have q':H b=some (.own x):=by
        rcases he with z | z
        · exact absurd (hbe.trans z) hb
        · rw [hbe]; exact z
      rw [q] at q'; cases q'
      obtain ⟨v,hv⟩:=heo
      exact ⟨v,by rw [hbe]; exact hv⟩
    · refine (ok b u q).stay (fun c v hc r=>k c v ?_ r) (fun c r=>by rw [ji (nown c b r)]; exact r) fun c xs r=>by rw [ji (ntup c xs r)]; exact r
      rcases hc with rfl | hc
      · exact hbe
      · rintro rfl
        rcases he with z | z
        · exact nown c b hc z
        · rw [hc] at z; cases z; exact hb rfl
end
structure Un (fs ex:List Addr) (H H':Hp) (h h':Heap):Prop where
  keep:∀ b o,h.get? b=some o->H b=none->b ∉ fs->b ∉ ex->h'.get? b=some o
  slot:∀ b o,h.get? b=some o->H b=none->b ∈ fs->b ∉ ex->∃ sl,h'.get? b=some { o with slots:=sl }
  free:∀ b o,h.get? b=some o->H b=none->b ∉ ex->H' b=none
  there:∀ b o,h.get? b=some o->b ∉ ex->∃ o',h'.get? b=some o'
  tups:∀ b xs,H b=some (.tup xs)->H' b=some (.tup xs)
  frzs:∀ b o u,H b=some (.frz o u)->H' b=some (.frz o u)
  tbls:∀ b ps,H b=some (.tbl ps)->∃ more,H' b=some (.tbl (ps ++ more))
section
variable {fs fs' ex ex':List Addr} {H H1 H2:Hp} {h h1 h2 h':Heap} {a x e:Addr} {o:HO}
theorem Un.any (u:Un fs ex H H1 h h1) {b:Addr} {ob:Obj} (q:h.get? b=some ob) (n:H b=none) (hx:b ∉ ex):∃ sl,h1.get? b=some { ob with slots:=sl }:=by
  by_cases hb:b ∈ fs
  · exact u.slot b ob q n hb hx
  · exact ⟨ob.slots,u.keep b ob q n hb hx⟩
theorem Un.trans (a:Un fs ex H H1 h h1) (b:Un fs ex H1 H2 h1 h2):Un fs ex H H2 h h2 where
  keep:=fun c ob q n hc hx=>b.keep c ob (a.keep c ob q n hc hx) (a.free c ob q n hx) hc hx
  slot:=fun c ob q n hc hx=>by
    obtain ⟨sl,e1⟩:=a.slot c ob q n hc hx
    obtain ⟨sl',e2⟩:=b.slot c _ e1 (a.free c ob q n hx) hc hx
    exact ⟨sl',e2⟩
  free:=fun c ob q n hx=>by
    obtain ⟨o',e1⟩:=a.there c ob q hx
    exact b.free c o' e1 (a.free c ob q n hx) hx
  there:=fun c ob q hx=>by
    obtain ⟨o',e1⟩:=a.there c ob q hx
    exact b.there c o' e1 hx
  tups:=fun c xs q=>b.tups c xs (a.tups c xs q)
  frzs:=fun c ob xs q=>b.frzs c ob xs (a.frzs c ob xs q)
  tbls:=fun c ps q=>by
    obtain ⟨m1,e1⟩:=a.tbls c ps q
    obtain ⟨m2,e2⟩:=b.tbls c _ e1
    exact ⟨m1 ++ m2,by rw [e2,Array.append_assoc]⟩
theorem Un.kept (k:∀ b u,h.get? b=some u->h'.get? b=some u):Un fs ex H H h h' :=
  ⟨fun b ob q _ _ _=>k b ob q,fun b ob q _ _ _=>⟨ob.slots,k b ob q⟩,fun _ _ _ n _=>n,fun b ob q _=>⟨ob,k b ob q⟩,fun _ _ q=>q,fun _ _ _ q=>q,fun _ ps q=>⟨#[],by rw [q]; simp⟩⟩
theorem Un.refl:Un fs ex H H h h:=Un.kept fun _ _ q=>q
theorem Un.laid (k:∀ b u,h.get? b=some u->h'.get? b=some u) (hp:h.objs.size<=a) (hn:H a=none):Un fs ex H (upd H a o) h h' where
  keep:=fun b u q _ _ _=>k b u q
  slot:=fun b u q _ _ _=>⟨u.slots,k b u q⟩
  free:=fun b u q n _=>by rw [ji (Nat.ne_of_lt (Nat.lt_of_lt_of_le (Heap.lt_size q) hp))]; exact n
  there:=fun b u q _=>⟨u,k b u q⟩
  tups:=fun b xs q=>by rw [ji (jB q hn)]; exact q
  frzs:=fun b u xs q=>by rw [ji (jB q hn)]; exact q
  tbls:=fun b ps q=>⟨#[],by rw [ji (jB q hn),q]; simp⟩
theorem Un.write (mu:Mut (H x)) (he:e=x∨H e=some (.own x)) (k:∀ b u,b≠e->h.get? b=some u->h'.get? b=some u) (heo:∃ u,h'.get? e=some u):Un fs ex H (upd H x o) h h':=by
  have hx:∀ b,H b=none->b≠x:=fun b n z=>by subst z; rw [n] at mu; exact mu
  have hb:∀ b,H b=none->b≠e:=fun b n z=>by
    subst z
    rcases he with r | r
    · exact hx b n r
    · rw [n] at r; cases r
  have hm:∀ b u,H b=some u->¬ Mut (some u)->b≠x:=fun b u q nm z=>by subst z; rw [q] at mu; exact nm mu
  refine ⟨fun b u q n _ _=>k b u (hb b n) q,fun b u q n _ _=>⟨u.slots,k b u (hb b n) q⟩,fun b u q n _=>by rw [ji (hx b n)]; exact n,fun b u q _=>?_,
    fun b xs q=>by rw [ji (hm b _ q fun z=>z)]; exact q,fun b u xs q=>by rw [ji (hm b _ q fun z=>z)]; exact q,fun b ps q=>⟨#[],by rw [ji (hm b _ q fun z=>z),q]; simp⟩⟩
  by_cases hbe:b=e
  · subst hbe; exact heo
  · exact ⟨u,k b u hbe q⟩
theorem Un.mono (u:Un fs ex H H1 h h1) (hs:∀ b ∈ fs,b ∈ fs') (hx:∀ b ∈ ex,b ∈ ex'):Un fs' ex' H H1 h h1 :=
  ⟨fun b ob q n hb he=>u.keep b ob q n (fun z=>hb (hs b z)) fun z=>he (hx b z),fun _ _ q n _ he=>u.any q n fun z=>he (hx _ z),fun b ob q n he=>u.free b ob q n fun z=>he (hx b z),fun b ob q he=>u.there b ob q fun z=>he (hx b z),u.tups,u.frzs,u.tbls⟩
end
def trk (h:Heap) (H:Hp):List Addr:=(List.range h.objs.size).filter fun a=>(H a).isSome
def XX (h:Heap) (H:Hp):Heap:=PySem.W.hideAll h (trk h H)
theorem jck (h:Heap) (H:Hp):(XX h H).objs.size=h.objs.size:=PySem.W.hideAll_size _ _
theorem jeo {h:Heap} {H:Hp} {b:Addr} {o:Obj} (e:h.get? b=some o) (n:H b=none):(XX h H).get? b=some o :=
  PySem.W.hideAll_get _ e fun hm=>by
    have q:(H b).isSome=true:=(List.mem_filter.mp hm).2
    rw [n] at q; simp at q
theorem jgg {h:Heap} {H:Hp} {b:Addr} {o:Obj} (e:(XX h H).get? b=some o):h.get? b=some o∧H b=none:=by
  have e':h.get? b=some o:=PySem.W.of_hideAll (trk h H) e
  refine ⟨e',?_⟩
  cases q:H b with
  | none=>rfl
  | some x =>
    have hm:b ∈ trk h H:=List.mem_filter.mpr ⟨List.mem_range.mpr (Heap.lt_size e'),by simp [q]⟩
    have z:(XX h H).get? b=none:=PySem.W.hideAll_none (trk h H) hm
    rw [z] at e; cases e
def jgM (g h:Heap) (L:Addr):List (Addr × Obj):=(List.range h.objs.size).filterMap fun a=>if a=L∨(g.get? a).isSome=true then none else (h.get? a).map fun o=>(a,o)
def ju (g h:Heap) (L d:Addr):List (Addr × Obj):=(jgM g h L).filter fun p=>decide (p.1≠d)
end L2
namespace L2
open PySem PySem.Spec PyProof.Rows
structure Mod (K:PySem.W.Frag) (mg:Str->Option Value) (base:Heap):Prop where
  kin:K.In base
  glob:base.Ns mainGlobals mg
  blt:∃ mb,base.Ns builtinsNs mb∧∀ x:Str,x≠"__name__"->mb x=bootBuiltins x
  nolimit:base.NoLimit
structure Cx where
  prog:Program
  w:World
  K:PySem.W.Frag
  mg:Str->Option Value
  base:Heap
  A:Around
  N:List Str
  s₀:Shared
  H₀:Hp
  env:Env
  outer:List Env
  stack:List Env
  ex:List Addr
  fn:Str->Bool
  calm:Bool
  pn:List (Addr × Obj)
  xe:Value->Shared->Prop
def frs (l:List Env):List Addr:=l.filterMap (·.frame)
abbrev Cx.fs (X:Cx):List Addr:=frs X.outer
def Vis (sc:Scope) (x:Str):Prop:=sc.names.lookup x=some .local∨sc.names.lookup x=some .cell∨sc.names.lookup x=some .free
def Loc (sc:Scope) (x:Str):Prop:=sc.names.lookup x=some .local∨sc.names.lookup x=some .cell
def Look (env:Env) (h:Heap) (m:Str->Option Value) (x:Str) (u:Value):Prop :=
  (env.kindOf x=some .local∧m x=some u)∨((env.kindOf x=some .cell∨env.kindOf x=some .free)∧∃ c,env.cells.lookup x=some c∧h.IsCell c (some u))
structure Cx.Ok (X:Cx):Prop where
  mod:Mod X.K X.mg X.base
  kind:X.env.scope.kind = .function
  glob:X.env.globals=mainGlobals
  blt:X.env.builtins=builtinsNs
  above:X.s₀.heap.objs.size<=X.env.locals
  inj:∀ x y c,X.env.cells.lookup x=some c->X.env.cells.lookup y=some c->x=y
  has:∀ x,(X.env.kindOf x=some .cell∨X.env.kindOf x=some .free)->∃ c,X.env.cells.lookup x=some c
  cab:∀ x c,X.fn x=true->X.env.cells.lookup x=some c->X.s₀.heap.objs.size<=c
  hd:X.calm=true->X.A.handled=none
  frames:X.A.frames=some X.stack
  stk:X.stack=X.outer∨(X.stack=X.env :: X.outer∧X.env.frame=some X.env.locals)
  exf:∀ b ∈ X.ex,b≠X.env.locals∧∀ x c,X.env.cells.lookup x=some c->c≠b
  bs:∀ b o,X.base.get? b=some o->X.s₀.heap.get? b=some o∧X.H₀ b=none
  bsz:X.base.objs.size<=X.s₀.heap.objs.size
  noex:∀ b o,X.base.get? b=some o->b ∉ X.ex
  exfs:∀ b ∈ X.ex,b ∉ X.fs
  funs:X.s₀.heap.FunFrames X.base X.outer
  frf:∀ b ∈ X.fs,X.H₀ b=none
structure Inv (X:Cx) (pins:List (Addr × Obj)) (σ:List (Option V)) (H:Hp) (s:Shared):Prop where
  ok:X.Ok
  os:s.os=X.s₀.os
  bare:AllBare s.gens
  base:Un X.fs X.ex X.H₀ H X.s₀.heap s.heap
  loc:∃ m,s.heap.Ns X.env.locals m∧∀ (i:Nat) (x:Str) (v:V),X.N[i]? = some x->σ[i]? = some (some v)->Vis X.env.scope x->∃ u,jv v u∧Look X.env s.heap m x u
  cell:∀ x c,X.env.cells.lookup x=some c->∃ v,s.heap.IsCell c v
  free:H X.env.locals=none
  freeC:∀ x c,X.env.cells.lookup x=some c->H c=none
  pin:∀ p ∈ X.pn ++ pins,s.heap.get? p.1=some p.2∧H p.1=none∧p.1≠X.env.locals∧p.1 ∉ X.fs∧∀ v,p.2.data≠.cell v
  hok:HOk X.prog X.w H s.heap
  len:σ.length=X.N.length
section
variable {X:Cx} {pins:List (Addr × Obj)} {σ:List (Option V)} {H H':Hp} {s:Shared} {h':Heap}
theorem Cx.Ok.nofr (ok:X.Ok) {b:Addr} {o:Obj} (e:X.base.get? b=some o):b ∉ X.fs:=fun hb=>by
  have:=(ok.funs.mem hb).1
  rw [e] at this; cases this
theorem Inv.bs (I:Inv X pins σ H s):∀ b o,X.base.get? b=some o->s.heap.get? b=some o∧H b=none:=fun b o e =>
  ⟨I.base.keep b o (I.ok.bs b o e).1 (I.ok.bs b o e).2 (I.ok.nofr e) (I.ok.noex b o e),I.base.free b o (I.ok.bs b o e).1 (I.ok.bs b o e).2 (I.ok.noex b o e)⟩
theorem Inv.bk (I:Inv X pins σ H s):∀ b o,X.base.get? b=some o->s.heap.get? b=some o:=fun b o e=>(I.bs b o e).1
theorem Inv.mod (I:Inv X pins σ H s):Mod X.K X.mg X.base:=I.ok.mod
theorem Inv.kIn (I:Inv X pins σ H s):X.K.In s.heap:=I.ok.mod.kin.keeps I.bk
theorem Inv.nolimit (I:Inv X pins σ H s):s.heap.NoLimit:=I.ok.mod.nolimit.keeps I.bk
theorem Inv.fr (I:Inv X pins σ H s):∃ m,Fr X.base X.env.locals s.heap m :=
  let ⟨m,hn,_⟩:=I.loc
  ⟨m,hn,I.bk,Nat.le_trans I.ok.bsz I.ok.above⟩
theorem Inv.lt (I:Inv X pins σ H s):X.env.locals < s.heap.objs.size:=let ⟨_,hn,_⟩:=I.loc; hn.lt
theorem Inv.sz (I:Inv X pins σ H s):X.s₀.heap.objs.size<=s.heap.objs.size:=Nat.le_trans I.ok.above (Nat.le_of_lt I.lt)
theorem Inv.nofs (I:Inv X pins σ H s) {a:Addr} (h:s.heap.objs.size<=a):a ∉ X.fs:=fun hb=>by
  obtain ⟨_,o,ho,_⟩:=I.ok.funs.mem hb
  exact absurd (Nat.lt_of_lt_of_le (Heap.lt_size ho) (Nat.le_trans I.sz h)) (Nat.lt_irrefl _)
theorem Inv.cne (I:Inv X pins σ H s):∀ x c,X.env.cells.lookup x=some c->c≠X.env.locals:=fun x c e z=>by
  obtain ⟨v,o,ho,hd⟩:=I.cell x c e
  obtain ⟨m,⟨o',es,ep,ho',hd',_⟩,_⟩:=I.loc
  rw [z,ho'] at ho; cases ho; rw [hd'] at hd; cases hd
theorem Inv.funs (I:Inv X pins σ H s):s.heap.FunFrames X.base X.outer:=by
  have all:∀ (l:List Env),(∀ b ∈ frs l,b ∈ X.fs)->X.s₀.heap.FunFrames X.base l->s.heap.FunFrames X.base l:=by
    intro l
    induction l with
    | nil=>intro _ _; trivial
    | cons env r ih =>
      intro hs hl
      obtain ⟨hk,⟨L,o,hf,hn,ho,hd⟩,hr⟩:=hl
      have hL:L ∈ X.fs:=hs L (by unfold frs; rw [List.filterMap_cons,hf]; exact List.mem_cons_self)
      obtain ⟨sl,e⟩:=I.base.slot L o ho (I.ok.frf L hL) hL fun z=>I.ok.exfs L z hL
      exact ⟨hk,⟨L,_,hf,hn,e,hd⟩,ih (fun b hb=>hs b (by unfold frs; rw [List.filterMap_cons,hf]; exact List.mem_cons_of_mem _ hb)) hr⟩
  exact all X.outer (fun _ hb=>hb) I.ok.funs
theorem Inv.stack (I:Inv X pins σ H s):s.heap.FunFrames X.base X.stack:=by
  rcases I.ok.stk with e | ⟨e,hf⟩
  · rw [e]; exact I.funs
  · rw [e]
    obtain ⟨m,hn,_⟩:=I.loc
    refine .cons (by rw [I.ok.kind]; decide) hf hn ?_ I.funs
    exact Heap.get?_none_of_le (Nat.le_trans I.ok.bsz I.ok.above)
theorem Inv.stkSub (I:Inv X pins σ H s):∀ b ∈ frs X.stack,b ∈ X.env.locals :: X.fs:=fun b hb=>by
  rcases I.ok.stk with e | ⟨e,hf⟩
  · rw [e] at hb; exact List.mem_cons_of_mem _ hb
  · rw [e] at hb
    unfold frs at hb
    rw [List.filterMap_cons,hf] at hb
    exact hb
theorem Inv.stkFree (I:Inv X pins σ H s):∀ b ∈ frs X.stack,H b=none:=fun b hb=>by
  rcases List.mem_cons.mp (I.stkSub b hb) with e | hb
  · rw [e]; exact I.free
  · obtain ⟨_,o,ho,_⟩:=I.ok.funs.mem hb
    exact I.base.free b o ho (I.ok.frf b hb) fun z=>I.ok.exfs b z hb
theorem Inv.step {g':Array GenState} {t':Nat} {d':Drawn} {ch:List Addr} (I:Inv X pins σ H s)
    (hch:∀ b ∈ ch,(b ∈ X.ex∨X.s₀.heap.objs.size<=b)∧b≠X.env.locals∧(∀ x c,X.env.cells.lookup x=some c->c≠b)∧∀ p ∈ X.pn ++ pins,p.1≠b)
    (keep:∀ b o,b≠X.env.locals->b ∉ X.fs->b ∉ ch->s.heap.get? b=some o->H b=none->h'.get? b=some o)
    (slot:∀ b o,b≠X.env.locals->b ∈ X.fs->b ∉ ch->s.heap.get? b=some o->H b=none->∃ sl,h'.get? b=some { o with slots:=sl }) (free:∀ b o,b ∉ ch->s.heap.get? b=some o->H b=none->H' b=none)
    (there:∀ b o,b ∉ ch->s.heap.get? b=some o->∃ o',h'.get? b=some o')
    (tups:∀ b xs,H b=some (.tup xs)->H' b=some (.tup xs)) (frzs:∀ b o u,H b=some (.frz o u)->H' b=some (.frz o u)) (tbls:∀ b ps,H b=some (.tbl ps)->∃ more,H' b=some (.tbl (ps ++ more)))
    (ns:∀ m,s.heap.Ns X.env.locals m->h'.Ns X.env.locals m) (hok:HOk X.prog X.w H' h') (hg:AllBare g') :
    Inv X pins σ H' { s with heap:=h',gens:=g',drawn:=d',toks:=t' }:=by
  have neL:∀ b o,X.s₀.heap.get? b=some o->b≠X.env.locals:=fun b o e=>Nat.ne_of_lt (Nat.lt_of_lt_of_le (Heap.lt_size e) I.ok.above)
  have neC:∀ b o,X.s₀.heap.get? b=some o->b ∉ X.ex->b ∉ ch:=fun b o e hx hb=>by
    rcases (hch b hb).1 with z | z
    · exact hx z
    · exact absurd (Nat.lt_of_lt_of_le (Heap.lt_size e) z) (Nat.lt_irrefl _)
  have cellK:∀ x c,X.env.cells.lookup x=some c->∀ v,s.heap.IsCell c v->h'.IsCell c v:=fun x c e v hQQ=>by
    obtain ⟨o,ho,hd⟩:=hQQ
    have nch:c ∉ ch:=fun z=>(hch c z).2.2.1 x c e rfl
    by_cases hc:c ∈ X.fs
    · obtain ⟨sl,q⟩:=slot c o (I.cne x c e) hc nch ho (I.freeC x c e)
      exact ⟨_,q,hd⟩
    · exact ⟨o,keep c o (I.cne x c e) hc nch ho (I.freeC x c e),hd⟩
  refine ⟨I.ok,I.os,hg,⟨fun b o e n hb hx=>?_,fun b o e n hb hx=>?_,fun b o e n hx=>?_,fun b o e hx=>?_,fun b xs e=>tups b xs (I.base.tups b xs e),fun b o xs e=>frzs b o xs (I.base.frzs b o xs e),fun b ps e=>?_⟩,?_,fun x c e=>?_,?_,fun x c e=>?_,fun p hp=>?_,hok,I.len⟩
  · exact keep b o (neL b o e) hb (neC b o e hx) (I.base.keep b o e n hb hx) (I.base.free b o e n hx)
  · obtain ⟨sl,e1⟩:=I.base.slot b o e n hb hx
    obtain ⟨sl',e2⟩:=slot b _ (neL b o e) hb (neC b o e hx) e1 (I.base.free b o e n hx)
    exact ⟨sl',e2⟩
  · obtain ⟨o',e1⟩:=I.base.there b o e hx
    exact free b o' (neC b o e hx) e1 (I.base.free b o e n hx)
  · obtain ⟨o',e1⟩:=I.base.there b o e hx
    exact there b o' (neC b o e hx) e1
  · obtain ⟨m1,e1⟩:=I.base.tbls b ps e
    obtain ⟨m2,e2⟩:=tbls b _ e1
    exact ⟨m1 ++ m2,by rw [e2,Array.append_assoc]⟩
  · obtain ⟨m,hn,hl⟩:=I.loc
    refine ⟨m,ns m hn,fun i x v e1 e2 e3=>?_⟩
    obtain ⟨u,r,l⟩:=hl i x v e1 e2 e3
    refine ⟨u,r,?_⟩
    rcases l with l | ⟨k,c,e,z⟩
    · exact .inl l
    · exact .inr ⟨k,c,e,cellK x c e _ z⟩
  · obtain ⟨v,z⟩:=I.cell x c e
    exact ⟨v,cellK x c e v z⟩
  · obtain ⟨m,⟨o,_,_,ho,_⟩,_⟩:=I.loc
    exact free _ o (fun z=>(hch _ z).2.1 rfl) ho I.free
  · obtain ⟨v,o,ho,hd⟩:=I.cell x c e
    exact free c o (fun z=>(hch c z).2.2.1 x c e rfl) ho (I.freeC x c e)
  · obtain ⟨e,n,ne,nf,d⟩:=I.pin p hp
    have nch:p.1 ∉ ch:=fun z=>(hch p.1 z).2.2.2 p hp rfl
    exact ⟨keep p.1 p.2 ne nf nch e n,free p.1 p.2 nch e n,ne,nf,d⟩
theorem Inv.un {t':Nat} (I:Inv X pins σ H s) (u:Un X.fs [] H H' s.heap h') (hok:HOk X.prog X.w H' h'):Inv X pins σ H' { s with heap:=h',toks:=t' }:=by
  obtain ⟨m,⟨o,es,ep,ho,r⟩,_⟩:=id I.loc
  obtain ⟨sl,hL⟩:=u.any ho I.free (by simp)
  exact I.step (g':=s.gens) (d':=s.drawn) (ch:=[]) (fun _ z=>nomatch z) (fun b o _ hb _ e n=>u.keep b o e n hb (by simp)) (fun b o _ hb _ e n=>u.slot b o e n hb (by simp)) (fun b o _ e n=>u.free b o e n (by simp)) (fun b o _ e=>u.there b o e (by simp)) u.tups u.frzs u.tbls (fun m' hm=>by
    obtain ⟨o',es',ep',ho',r'⟩:=hm
    rw [ho] at ho'; cases ho'
    exact ⟨_,es',ep',hL,r'⟩) hok I.bare
theorem Inv.call {g':Array GenState} {t':Nat} {d':Drawn} {ch:List Addr} (I:Inv X pins σ H s) (u:Un (frs X.stack) ch H H' s.heap h') (hok:HOk X.prog X.w H' h') (hg:AllBare g')
    (hch:∀ b ∈ ch,(b ∈ X.ex∨X.s₀.heap.objs.size<=b)∧b≠X.env.locals∧(∀ x c,X.env.cells.lookup x=some c->c≠b)∧∀ p ∈ X.pn ++ pins,p.1≠b) :
    Inv X pins σ H' { s with heap:=h',gens:=g',drawn:=d',toks:=t' }:=by
  obtain ⟨m,⟨o,es,ep,ho,r⟩,_⟩:=id I.loc
  obtain ⟨sl,hL⟩:=u.any ho I.free fun z=>(hch _ z).2.1 rfl
  exact I.step (ch:=ch) hch (fun b o hL hb hc e n=>u.keep b o e n (fun z=>(List.mem_cons.mp (I.stkSub b z)).elim hL hb) hc) (fun b o _ _ hc e n=>u.any e n hc) (fun b o hc e n=>u.free b o e n hc) (fun b o hc e=>u.there b o e hc) u.tups u.frzs u.tbls (fun m' hm=>by
    obtain ⟨o',es',ep',ho',r'⟩:=hm
    rw [ho] at ho'; cases ho'
    exact ⟨_,es',ep',hL,r'⟩) hok hg
theorem Inv.turned {t':Nat} {it:Addr} (I:Inv X pins σ H s) (k:∀ b o,b≠it->s.heap.get? b=some o->h'.get? b=some o) (hn:H it=none) (hL:it≠X.env.locals)
    (h1:it ∈ X.ex∨X.s₀.heap.objs.size<=it) (h2:∀ x c,X.env.cells.lookup x=some c->c≠it) (h3:∀ p ∈ X.pn ++ pins,p.1≠it):Inv X pins σ H { s with heap:=h',toks:=t' }:=by
  have nit:∀ b u,H b=some u->b≠it:=fun b u e z=>by rw [z,hn] at e; cases e
  refine I.step (g':=s.gens) (d':=s.drawn) (ch:=[it]) (fun b hb=>?_) (fun b o _ _ hc e _=>k b o (fun z=>hc (by simp [z])) e) (fun b o _ _ hc e _=>⟨o.slots,k b o (fun z=>hc (by simp [z])) e⟩) (fun _ _ _ _ n=>n)
    (fun b o hc e=>⟨o,k b o (fun z=>hc (by simp [z])) e⟩) (fun _ _ e=>e) (fun _ _ _ e=>e) (fun b ps e=>⟨#[],by rw [e]; simp⟩) (fun m hm=>?_) (fun b u e=>?_) I.bare
  · have e:b=it:=by simpa using hb
    subst e
    exact ⟨h1,hL,h2,h3⟩
  · obtain ⟨o,es,ep,ho,r⟩:=hm
    exact ⟨o,es,ep,k _ o (Ne.symm hL) ho,r⟩
  · refine (I.hok b u e).stay (fun c v hc q=>k c v ?_ q) (fun _ q=>q) fun _ _ q=>q
    rcases hc with z | z
    · rw [z]; exact nit b u e
    · exact nit c _ z
theorem Inv.tok (I:Inv X pins σ H s) (t:Nat):Inv X pins σ H { s with toks:=t }:=I.un (h':=s.heap) (t':=t) Un.refl I.hok
theorem Inv.kept {t':Nat} (I:Inv X pins σ H s) (k:∀ b u,s.heap.get? b=some u->h'.get? b=some u):Inv X pins σ H { s with heap:=h',toks:=t' }:=I.un (Un.kept k) (I.hok.kept k)
theorem Inv.laid {a:Addr} {o:HO} {t':Nat} (I:Inv X pins σ H s) (k:∀ b u,s.heap.get? b=some u->h'.get? b=some u) (hp:s.heap.objs.size<=a) (new:jM X.prog X.w (upd H a o) h' a o) :
    Inv X pins σ (upd H a o) { s with heap:=h',toks:=t' }:=I.un (Un.laid k hp (I.hok.fresh hp)) (I.hok.laid k hp new)
theorem Inv.write {x e:Addr} {o:HO} {t':Nat} (I:Inv X pins σ H s) (mu:Mut (H x)) (he:e=x∨H e=some (.own x)) (k:∀ b u,b≠e->s.heap.get? b=some u->h'.get? b=some u) (heo:∃ u,h'.get? e=some u)
    (new:jM X.prog X.w (upd H x o) h' x o):Inv X pins σ (upd H x o) { s with heap:=h',toks:=t' }:=I.un (Un.write mu he k heo) (I.hok.write mu he k heo new)
theorem Inv.weak {σ':List (Option V)} (I:Inv X pins σ H s) (hl:σ'.length=σ.length) (w:∀ (i:Nat) v,σ'[i]? = some (some v)->σ[i]? = some (some v)):Inv X pins σ' H s :=
  ⟨I.ok,I.os,I.bare,I.base,let ⟨m,hn,hl'⟩:=I.loc; ⟨m,hn,fun i x v e1 e2 e3=>hl' i x v e1 (w i v e2) e3⟩,I.cell,I.free,I.freeC,I.pin,I.hok,hl.trans I.len⟩
theorem Inv.pins_of {pins':List (Addr × Obj)} (I:Inv X pins σ H s) (h:∀ p ∈ pins',s.heap.get? p.1=some p.2∧H p.1=none∧p.1≠X.env.locals∧p.1 ∉ X.fs∧∀ v,p.2.data≠.cell v):Inv X pins' σ H s :=
  ⟨I.ok,I.os,I.bare,I.base,I.loc,I.cell,I.free,I.freeC,fun p hp=>(List.mem_append.mp hp).elim (fun z=>I.pin p (List.mem_append_left _ z)) (h p),I.hok,I.len⟩
theorem JB {N:List Str} (hN:N.Nodup) {i j:Nat} {x:Str} (a:N[i]? = some x) (b:N[j]? = some x):i=j:=by
  obtain ⟨h1,e1⟩:=List.getElem?_eq_some_iff.mp a
  obtain ⟨h2,e2⟩:=List.getElem?_eq_some_iff.mp b
  exact (List.getElem_inj hN).mp (e1.trans e2.symm)
theorem jbK {M:Model} {A:Around} {E:Value->Shared->Prop} {i:Nat} {x:Str} {v:V} {u:Value} {Q:Unit->Shared->Prop} (I:Inv X pins σ H s) (hN:X.N.Nodup) (hi:X.N[i]? = some x) (hx:Loc X.env.scope x) (r:jv v u)
    (h:∀ s',Inv X pins (σ.set i (some v)) H s'->(∃ a,Heap.SameBut a s.heap s'.heap∧(a=X.env.locals∨X.env.cells.lookup x=some a))->Q () s') (hf:X.fn x=true∨X.env.scope.names.lookup x=some .local:=by first | exact .inl rfl | exact .inr rfl | assumption):wpAny M A (storeName X.env x u) Q E s:=by
  obtain ⟨m,hn,hl⟩:=id I.loc
  have hcls:(X.env.scope.kind == .class || (X.env.scope.kind == .module && X.env.locals != X.env.globals))=false:=by rw [I.ok.kind]; rfl
  have hiσ:i < σ.length:=by rw [I.len]; exact (List.getElem?_eq_some_iff.mp hi).1
  have cne:=I.cne
  have tracked:∀ {a:Addr} {h':Heap},(∃ o,s.heap.get? a=some o∧H a=none)->Heap.SameBut a s.heap h'->HOk X.prog X.w H h':=fun {a h'} ha hs b ob e=>by
    obtain ⟨_,_,hfree⟩:=ha
    refine (I.hok b ob e).stay (fun c w' hc q=>(hs.2 c ?_).trans q) (fun _ q=>q) fun _ _ q=>q
    rintro rfl
    rcases hc with rfl | hc
    · rw [hfree] at e; cases e
    · rw [hfree] at hc; cases hc
  rcases hx with hk | hk
  · refine wpAny_storeName_local hk hn (fun h' hn' hs=>?_) hcls
    obtain ⟨oL,_,_,hoL,_⟩:=id hn
    refine h _ ⟨I.ok,I.os,I.bare,⟨fun b o e n hb hx=>?_,fun b o e n hb hx=>?_,I.base.free,fun b o e hx=>?_,I.base.tups,I.base.frzs,I.base.tbls⟩,⟨_,hn',fun j y v' e1 e2 e3=>?_⟩,fun y c e=>?_,I.free,I.freeC,fun p hp=>?_,tracked ⟨oL,hoL,I.free⟩ hs,by simpa using I.len⟩ ⟨_,hs,.inl rfl⟩
    · exact (hs.2 b (Nat.ne_of_lt (Nat.lt_of_lt_of_le (Heap.lt_size e) I.ok.above))).trans (I.base.keep b o e n hb hx)
    · obtain ⟨sl,e1⟩:=I.base.slot b o e n hb hx
      exact ⟨sl,(hs.2 b (Nat.ne_of_lt (Nat.lt_of_lt_of_le (Heap.lt_size e) I.ok.above))).trans e1⟩
    · obtain ⟨o',e1⟩:=I.base.there b o e hx
      exact ⟨o',(hs.2 b (Nat.ne_of_lt (Nat.lt_of_lt_of_le (Heap.lt_size e) I.ok.above))).trans e1⟩
    · by_cases hj:j=i
      · subst hj
        rw [hi] at e1; cases e1
        rw [List.getElem?_set_self hiσ] at e2
        cases e2
        exact ⟨u,r,.inl ⟨hk,by simp⟩⟩
      · rw [List.getElem?_set_ne (Ne.symm hj)] at e2
        obtain ⟨u',r',q⟩:=hl j y v' e1 e2 e3
        refine ⟨u',r',?_⟩
        rcases q with ⟨k,e⟩ | ⟨k,c,e,z⟩
        · refine .inl ⟨k,?_⟩
          have:y≠x:=fun e=>hj (JB hN e1 (e ▸ hi))
          simp [this,e]
        · exact .inr ⟨k,c,e,z.sameBut hs (cne y c e)⟩
    · obtain ⟨w',z⟩:=I.cell y c e
      exact ⟨w',z.sameBut hs (cne y c e)⟩
    · obtain ⟨e,n,ne,nf,d⟩:=I.pin p hp
      exact ⟨(hs.2 p.1 ne).trans e,n,ne,nf,d⟩
  · have hfn:X.fn x=true:=by
      rcases hf with z | z
      · exact z
      · rw [z] at hk; cases hk
    obtain ⟨c,hc⟩:=I.ok.has x (.inl hk)
    obtain ⟨w',z⟩:=I.cell x c hc
    refine wpAny_storeName_cell I.ok.kind hk hc z (fun h' hc' hs=>?_)
    obtain ⟨oc,hoc,hocd⟩:=id z
    refine h { s with heap:=h' } ⟨I.ok,I.os,I.bare,⟨fun b o e n hb hx=>?_,fun b o e n hb hx=>?_,I.base.free,fun b o e hx=>?_,I.base.tups,I.base.frzs,I.base.tbls⟩,⟨m,hn.sameBut hs (Ne.symm (cne x c hc)),fun j y v' e1 e2 e3=>?_⟩,fun y c' e=>?_,I.free,I.freeC,fun p hp=>?_,tracked ⟨oc,hoc,I.freeC x c hc⟩ hs,by simpa using I.len⟩ ⟨c,hs,.inr hc⟩
    · exact (hs.2 b (Nat.ne_of_lt (Nat.lt_of_lt_of_le (Heap.lt_size e) (I.ok.cab x c hfn hc)))).trans (I.base.keep b o e n hb hx)
    · obtain ⟨sl,e1⟩:=I.base.slot b o e n hb hx
      exact ⟨sl,(hs.2 b (Nat.ne_of_lt (Nat.lt_of_lt_of_le (Heap.lt_size e) (I.ok.cab x c hfn hc)))).trans e1⟩
    · obtain ⟨o',e1⟩:=I.base.there b o e hx
      exact ⟨o',(hs.2 b (Nat.ne_of_lt (Nat.lt_of_lt_of_le (Heap.lt_size e) (I.ok.cab x c hfn hc)))).trans e1⟩
    · by_cases hj:j=i
      · subst hj
        rw [hi] at e1; cases e1
        rw [List.getElem?_set_self hiσ] at e2
        cases e2
        exact ⟨u,r,.inr ⟨.inl hk,c,hc,hc'⟩⟩
      · rw [List.getElem?_set_ne (Ne.symm hj)] at e2
        obtain ⟨u',r',q⟩:=hl j y v' e1 e2 e3
        refine ⟨u',r',?_⟩
        rcases q with q | ⟨k,c',e,z'⟩
        · exact .inl q
        · refine .inr ⟨k,c',e,z'.sameBut hs ?_⟩
          rintro rfl
          exact hj (JB hN e1 (I.ok.inj _ _ _ e hc ▸ hi))
    · by_cases hcc:c'=c
      · subst hcc; exact ⟨_,hc'⟩
      · obtain ⟨w2,z2⟩:=I.cell y c' e
        exact ⟨w2,z2.sameBut hs hcc⟩
    · obtain ⟨e,n,ne,nf,d⟩:=I.pin p hp
      refine ⟨(hs.2 p.1 ?_).trans e,n,ne,nf,d⟩
      intro q
      rw [q,hoc] at e
      have q':oc=p.2:=Option.some.inj e
      exact d w' (by rw [<- q']; exact hocd)
theorem Jg {M:Model} {A:Around} {E:Value->Shared->Prop} {i:Nat} {x:Str} {v:V} {u:Value} {Q:Unit->Shared->Prop} (I:Inv X pins σ H s) (hN:X.N.Nodup) (hi:X.N[i]? = some x) (hx:Loc X.env.scope x) (r:jv v u)
    (h:∀ s',Inv X pins (σ.set i (some v)) H s'->Q () s') (hf:X.fn x=true∨X.env.scope.names.lookup x=some .local:=by first | exact .inl rfl | exact .inr rfl | assumption):wpAny M A (storeName X.env x u) Q E s :=
  jbK I hN hi hx r (fun s' I' _=>h s' I') hf
theorem Inv.call' {s':Shared} {ch:List Addr} (I:Inv X pins σ H s) (ho:s'.os=s.os) (u:Un (frs X.stack) ch H H' s.heap s'.heap) (hok:HOk X.prog X.w H' s'.heap) (hg:AllBare s'.gens)
    (hch:∀ b ∈ ch,(b ∈ X.ex∨X.s₀.heap.objs.size<=b)∧b≠X.env.locals∧(∀ x c,X.env.cells.lookup x=some c->c≠b)∧∀ p ∈ X.pn ++ pins,p.1≠b):Inv X pins σ H' s':=by
  obtain ⟨h',g',d',t',o'⟩:=s'
  have e:o'=s.os:=ho
  subst e
  exact I.call (g':=g') (t':=t') (d':=d') u hok hg hch
end
abbrev XK:=Value->Option Addr->Hp->Prop
abbrev St:=List (Option V)
abbrev VK:=V->Hp->Prop
abbrev TE:=St->Hp->VK->Prop
abbrev TT:=St->Hp->(Bool->Hp->Prop)->Prop
abbrev TA:=St->Hp->(List V->Hp->Prop)->Prop
structure Ends where
  nx:St->Hp->Prop
  rt:VK
  bk:St->Hp->Prop:=fun _ _=>False
  ct:St->Hp->Prop:=fun _ _=>False
abbrev TS:=Ends->St->Hp->Prop
def EP (X:Cx) (pins:List (Addr × Obj)) (σ:St) (Q:VK) (u:Value) (s':Shared):Prop:=∃ v H',Inv X pins σ H' s'∧jv v u∧Q v H'
def TP (X:Cx) (pins:List (Addr × Obj)) (σ:St) (Q:Bool->Hp->Prop) (b:Bool) (s':Shared):Prop:=∃ H',Inv X pins σ H' s'∧Q b H'
def AP (X:Cx) (pins:List (Addr × Obj)) (σ:St) (Q:List V->Hp->Prop) (us:List Value) (s':Shared):Prop:=∃ vs H',Inv X pins σ H' s'∧jq vs us∧Q vs H'
def SP (X:Cx) (pins:List (Addr × Obj)) (D:Ends) (f:Flow) (s':Shared):Prop :=
  match f with
  | .next=>∃ σ' H',Inv X pins σ' H' s'∧D.nx σ' H'
  | .brk=>∃ σ' H',Inv X pins σ' H' s'∧D.bk σ' H'
  | .cont=>∃ σ' H',Inv X pins σ' H' s'∧D.ct σ' H'
  | .ret u=>∃ v σ' H',Inv X pins σ' H' s'∧jv v u∧D.rt v H'
def PE (X:Cx) (e:Expr) (t:TE):Prop :=
  ∀ (pins:List (Addr × Obj)) (s:Shared) (σ:St) (H:Hp) (Q:VK),Inv X pins σ H s->t σ H Q->wpAny (model X.prog X.w) X.A (eval e X.env) (EP X pins σ Q) X.xe s
def PT (X:Cx) (e:Expr) (t:TT):Prop :=
  ∀ (pins:List (Addr × Obj)) (s:Shared) (σ:St) (H:Hp) (Q:Bool->Hp->Prop),Inv X pins σ H s->t σ H Q->wpAny (model X.prog X.w) X.A (isTrue e X.env (eval e X.env)) (TP X pins σ Q) X.xe s
def PW (X:Cx) (e:Expr) (t:TT):Prop :=
  ∀ (whole:Sem Value) (pins:List (Addr × Obj)) (s:Shared) (σ:St) (H:Hp) (Q:Bool->Hp->Prop),Inv X pins σ H s->t σ H Q->wpAny (model X.prog X.w) X.A (isTrue e X.env whole) (TP X pins σ Q) X.xe s
theorem PW.pt {X:Cx} {e:Expr} {t:TT} (h:PW X e t):PT X e t:=h _
def PA (X:Cx) (es:List Expr) (t:TA):Prop :=
  ∀ (pos:Pos) (pins:List (Addr × Obj)) (s:Shared) (σ:St) (H:Hp) (Q:List V->Hp->Prop),Inv X pins σ H s->t σ H Q->wpAny (model X.prog X.w) X.A (spliced (backTo pos (starEach es X.env))) (AP X pins σ Q) X.xe s
def PS (X:Cx) (st:Stmt) (t:TS):Prop :=
  ∀ (pins:List (Addr × Obj)) (s:Shared) (σ:St) (H:Hp) (D:Ends),Inv X pins σ H s->t D σ H->wpAny (model X.prog X.w) X.A (exec st X.env) (SP X pins D) X.xe s
def PSs (X:Cx) (st:List Stmt) (t:TS):Prop :=
  ∀ (pins:List (Addr × Obj)) (s:Shared) (σ:St) (H:Hp) (D:Ends),Inv X pins σ H s->t D σ H->wpAny (model X.prog X.w) X.A (execs st X.env) (SP X pins D) X.xe s
theorem thn {α:Type} {t:Sem α} {Q Q':α->Shared->Prop} {M:Model} {A:Around} {E:Value->Shared->Prop} {s:Shared} (h:wpAny M A t Q E s) (hQ:∀ a s,Q a s->Q' a s):wpAny M A t Q' E s:=wpAny_mono h hQ fun _ _ x=>x
end L2
namespace L2
open PySem PySem.Spec PyProof.Rows
section
variable {X:Cx}
def tVar (i:Nat):TE:=fun σ H Q=>∃ v,σ[i]? = some (some v)∧Q v H
def tC (v:V):TE:=fun _ H Q=>Q v H
theorem Jy {i:Nat} {x:Str} {pos:Pos} (hN:X.N[i]? = some x) (hv:Vis X.env.scope x) (hd:(x == ("__debug__":Str))=false:=by decide) (hcd:(x == ("__classdict__":Str))=false:=by decide):PE X (.Name x pos) (tVar i):=by
  intro pins s σ H Q I h
  obtain ⟨v,e,h⟩:=h
  obtain ⟨m,hn,hl⟩:=I.loc
  obtain ⟨u,r,l⟩:=hl i x v hN e hv
  have fin:EP X pins σ Q u s:=⟨v,H,I,r,h⟩
  rcases l with ⟨hk,hm⟩ | ⟨hk,c,hc,hcell⟩
  · exact wpAny_Name (wpAny_loadName_local I.ok.kind hk hn hm fin) hd
  · rcases hk with hk | hk
    · exact wpAny_Name (wpAny_loadName_cell I.ok.kind hk hc hcell fin) hd
    · exact wpAny_Name (wpAny_loadName_free I.ok.kind hk hc hcell fin hcd) hd
theorem pe_int {i j pos}:PE X (.Constant (.int i) j pos) (tC (.int i)):=fun _ _ _ H _ I h=>wpAny_Constant_int ⟨.int i,H,I.tok _,⟨_,rfl⟩,h⟩
theorem pe_bl {b j pos}:PE X (.Constant (.bool b) j pos) (tC (.bl b)):=fun _ _ _ H _ I h=>Constant_bool ⟨.bl b,H,I,rfl,h⟩
theorem pe_non {j pos}:PE X (.Constant .none j pos) (tC .non):=fun _ _ _ H _ I h=>Constant_none ⟨.non,H,I,rfl,h⟩
theorem UC {x j pos}:PE X (.Constant (.str x) j pos) (tC (.str x)):=fun _ _ _ H _ I h=>Calls.Constant_str ⟨.str x,H,I.tok _,⟨_,rfl⟩,h⟩
def Gl (X:Cx) (x:Str):Prop:=X.env.kindOf x=some .globalImplicit
theorem vd {E:Value->Shared->Prop} {pins:List (Addr × Obj)} {s:Shared} {σ:St} {H:Hp} {x:Str} {u:Value} {pos:Pos} {Q:Value->Shared->Prop} (I:Inv X pins σ H s) (hg:Gl X x) (hm:X.mg x=some u) (h:Q u s)
    (hd:(x == ("__debug__":Str))=false:=by decide):wpAny (model X.prog X.w) X.A (eval (.Name x pos) X.env) Q E s :=
  Calls.Name_function_global I.ok.kind hg (Calls.loadGlobal_global (by rw [I.ok.glob]; exact I.mod.glob.keeps I.bk) hm h) hd
theorem uo {E:Value->Shared->Prop} {pins:List (Addr × Obj)} {s:Shared} {σ:St} {H:Hp} {x:Str} {u:Value} {pos:Pos} {Q:Value->Shared->Prop} (I:Inv X pins σ H s) (hg:Gl X x) (hm:X.mg x=none) (hv:bootBuiltins x=some u) (h:Q u s)
    (hn:x≠"__name__":=by decide) (hd:(x == ("__debug__":Str))=false:=by decide):wpAny (model X.prog X.w) X.A (eval (.Name x pos) X.env) Q E s:=by
  obtain ⟨mb,h1,h2⟩:=I.mod.blt
  exact Calls.Name_function_global I.ok.kind hg (Calls.loadGlobal_builtin (by rw [I.ok.glob]; exact I.mod.glob.keeps I.bk) hm (by rw [I.ok.blt]; exact h1.keeps I.bk) ((h2 x hn).trans hv) h) hd
theorem XS {x:Str} {v:V} {u:Value} {pos:Pos} (hg:Gl X x) (hm:X.mg x=some u) (r:jv v u) (hd:(x == ("__debug__":Str))=false:=by decide):PE X (.Name x pos) (tC v) :=
  fun _ _ _ H _ I h=>vd I hg hm ⟨v,H,I,r,h⟩ hd
theorem jgb {x:Str} {v:V} {u:Value} {pos:Pos} (hg:Gl X x) (hm:X.mg x=none) (hv:bootBuiltins x=some u) (r:jv v u) (hn:x≠"__name__":=by decide) (hd:(x == ("__debug__":Str))=false:=by decide):PE X (.Name x pos) (tC v) :=
  fun _ _ _ H _ I h=>uo I hg hm hv ⟨v,H,I,r,h⟩ hn hd
variable {a b:Expr} {ta tb:TE} {pos:Pos}
def PC (X:Cx) (op:CmpOp) (a b:Expr) (t:TE):Prop :=
  ∀ (pins:List (Addr × Obj)) (s:Shared) (σ:St) (H:Hp) (Q:VK),Inv X pins σ H s->t σ H Q ->
    wpAny (model X.prog X.w) X.A (eval a X.env) (fun v s₁=>wpAny (model X.prog X.w) X.A (eval b X.env) (fun u s₂=>wpAny (model X.prog X.w) X.A (compareOp op v u) (EP X pins σ Q) X.xe s₂) X.xe s₁) X.xe s
theorem jdX (b:Expr) {op:CmpOp} (h:op≠.In) (h2:op≠.NotIn):behindInMarks op b=false:=by
  have e1:(op == CmpOp.In)=false:=by cases op <;> first | rfl | exact absurd rfl h
  have e2:(op == CmpOp.NotIn)=false:=by cases op <;> first | rfl | exact absurd rfl h2
  cases b <;> simp [behindInMarks,e1,e2]
def tB (t:TE):TT:=fun σ H Q=>t σ H fun x H1=>∃ c,x = .bl c∧Q c H1
theorem pt_cmp {op:CmpOp} {t:TE} (h:PC X op a b t) (h1:behindInMarks op b=false:=by first | exact jdX _ (by decide) (by decide) | rfl):PT X (.Compare a [op] [b] pos) (tB t):=by
  intro pins s σ H Q I hw
  refine wpAny_isTrue_Compare1 (thn (h pins s σ H _ I hw) fun v s1 h1=>thn h1 fun u s2 h2=>thn h2 fun c s3 hQQ=>?_) h1
  obtain ⟨x,H1,I1,r1,q1⟩:=hQQ
  obtain ⟨d,rfl,q⟩:=q1
  cases r1
  exact wpAny_truthy_bool ⟨H1,I1,q⟩
variable {tA tB':TT} {ju:List Expr}
def tOr (t u:TT):TT:=fun σ H Q=>t σ H fun c H1=>if c=true then Q true H1 else u σ H1 Q
def tNot (t:TT):TT:=fun σ H Q=>t σ H fun c H1=>Q (!c) H1
theorem pw_or1 (ha:PT X a tA):PW X (.BoolOp .Or [a] pos) tA:=by
  intro wh pins s σ H Q I h
  refine isTrue_or (thn (ha pins s σ H Q I h) fun c s1 e=>?_)
  cases c with
  | false=>exact isTrue_or_nil e
  | true=>exact e
theorem pw_or (ha:PT X a tA) (hb:PW X (.BoolOp .Or (b :: ju) pos) tB'):PW X (.BoolOp .Or (a :: b :: ju) pos) (tOr tA tB'):=by
  intro wh pins s σ H Q I h
  refine isTrue_or (thn (ha pins s σ H _ I h) fun c s1 hQQ=>?_)
  obtain ⟨H1,I1,q1⟩:=hQQ
  cases c with
  | true=>exact ⟨H1,I1,q1⟩
  | false=>exact hb wh pins s1 σ H1 Q I1 q1
theorem pt_not (ha:PT X a tA):PT X (.UnaryOp .Not a pos) (tNot tA):=by
  intro pins s σ H Q I h
  exact isTrue_not (ha pins s σ H (fun c H1=>Q (!c) H1) I h)
def tAndV (ta tb:TE):TE:=fun σ H Q=>ta σ H fun x H1=>∃ c,x = .bl c∧if c=true then tb σ H1 Q else Q (.bl false) H1
def tNotV (ta:TE):TE:=fun σ H Q=>ta σ H fun x H1=>∃ c,x = .bl c∧Q (.bl (!c)) H1
theorem pe_one {op} {t:TE} (h:PE X a t):PE X (.BoolOp op [a] pos) t:=fun pins s σ H Q I hw=>BoolOp_one (h pins s σ H Q I hw)
theorem pe_and (ha:PE X a ta) (hb:PE X (.BoolOp .And (b :: ju) pos) tb):PE X (.BoolOp .And (a :: b :: ju) pos) (tAndV ta tb):=by
  intro pins s σ H Q I h
  refine BoolOp_and (thn (ha pins s σ H _ I h) fun v s1 hQQ=>?_)
  obtain ⟨x,H1,I1,r1,q1⟩:=hQQ
  obtain ⟨c,rfl,q1⟩:=q1
  cases r1
  refine wpAny_truthy_bool ?_
  cases c with
  | true=>exact hb pins s1 σ H1 Q I1 q1
  | false=>exact ⟨.bl false,H1,I1,rfl,q1⟩
theorem pe_not (ha:PE X a ta):PE X (.UnaryOp .Not a pos) (tNotV ta):=by
  intro pins s σ H Q I h
  refine UnaryOp_ (thn (ha pins s σ H _ I h) fun v s1 hQQ=>?_)
  obtain ⟨x,H1,I1,r1,q1⟩:=hQQ
  obtain ⟨c,rfl,q1⟩:=q1
  cases r1
  exact not_of (wpAny_truthy_bool ⟨.bl (!c),H1,I1,rfl,q1⟩)
def tIf (t:TT) (ta tb:TE):TE:=fun σ H Q=>t σ H fun c H1=>if c=true then ta σ H1 Q else tb σ H1 Q
theorem jdL {c:Expr} (hc:PT X c tA) (ha:PE X a ta) (hb:PE X b tb):PE X (.IfExp c a b pos) (tIf tA ta tb):=by
  intro pins s σ H Q I h
  refine wpAny_IfExp (thn (hc pins s σ H _ I h) fun d s1 hQQ=>?_)
  obtain ⟨H1,I1,q1⟩:=hQQ
  cases d with
  | true=>exact ha pins s1 σ H1 Q I1 q1
  | false=>exact hb pins s1 σ H1 Q I1 q1
end
end L2
namespace L2
open PySem PySem.Spec PyProof.Rows
def SqL (K:PySem.W.Frag) (H:Hp) (a:Addr) (xs:List V):Prop :=
  Rd H a (.lst xs) ∨
    ∃ (o:Obj) (its:Array Value) (n:Nat),K.lookup a=some o∧o.cls = .type "list"∧o.dict=none∧o.data = .seq its n∧its.size<=sizeLine∧jq xs its.toList
def SqT (K:PySem.W.Frag) (H:Hp) (a:Addr) (xs:List V):Prop :=
  Rd H a (.tup xs) ∨
    ∃ (o:Obj) (its:Array Value) (n:Nat),K.lookup a=some o∧o.cls = .type "tuple"∧o.data = .seq its n∧its.size<=sizeLine∧jq xs its.toList
def absV:Value->Option V
  | .none=>some .non
  | .bool b=>some (.bl b)
  | .int i _=>some (.int i)
  | .str x _=>some (.str x)
  | .bytes b _=>some (.byt b)
  | .float b _=>some (.flt b)
  | .ref a=>some (.ref a)
  | .type n=>some (.ty n)
  | _=>none
theorem jv.abs {x:V} {u:Value} (r:jv x u):absV u=some x:=by
  cases x with
  | non=>cases r; rfl
  | bl _=>cases r; rfl
  | int _=>obtain ⟨t,rfl⟩:=r; rfl
  | str _=>obtain ⟨t,rfl⟩:=r; rfl
  | byt _=>obtain ⟨t,rfl⟩:=r; rfl
  | flt _=>obtain ⟨t,rfl⟩:=r; rfl
  | ref _=>cases r; rfl
  | ty _=>cases r; rfl
theorem jv.inj {x y:V} {u:Value} (r:jv x u) (q:jv y u):x=y:=Option.some.inj (r.abs.symm.trans q.abs)
theorem jq.inj {xs ys:List V} {us:List Value} (h:jq xs us) (h':jq ys us):xs=ys:=by
  induction h generalizing ys with
  | nil=>cases h'; rfl
  | cons r t ih =>
    cases h' with
    | cons r' t'=>rw [r.inj r',ih t']
section
variable {X:Cx} {pins:List (Addr × Obj)} {σ:St} {H:Hp} {s:Shared} {a:Addr} {xs ys:List V}
theorem SqL.of {K:PySem.W.Frag} (h:H a=some (.lst xs)):SqL K H a xs:=.inl (.inl h)
theorem SqT.of {K:PySem.W.Frag} (h:H a=some (.tup xs)):SqT K H a xs:=.inl (.inl h)
theorem Inv.list (I:Inv X pins σ H s) (h:SqL X.K H a xs):∃ its:List Value,jq xs its∧PlainL s.heap a its.toArray∧xs.length<=sizeLine:=by
  rcases h with h | ⟨o,its,n,hk,hc,hd,hs,hz,r⟩
  · obtain ⟨z,its,n,r,e⟩:=h.ok I.hok
    exact ⟨its,r,⟨_,n,e,rfl,rfl,rfl⟩,z⟩
  · refine ⟨its.toList,r,⟨o,n,I.kIn a o hk,hc,hd,by simpa using hs⟩,?_⟩
    have e:=r.length
    simp only [Array.length_toList] at e
    omega
theorem Inv.tuple (I:Inv X pins σ H s) (h:SqT X.K H a xs):∃ its:List Value,jq xs its∧IsTup s.heap a its.toArray∧xs.length<=sizeLine:=by
  rcases h with h | ⟨o,its,n,hk,hc,hs,hz,r⟩
  · obtain ⟨z,its,r,p⟩:=h.ok I.hok
    exact ⟨its,r,p,z⟩
  · refine ⟨its.toList,r,⟨o,I.kIn a o hk,hc,n,by simpa using hs⟩,?_⟩
    have e:=r.length
    simp only [Array.length_toList] at e
    omega
theorem Inv.list_inj (I:Inv X pins σ H s) (h:SqL X.K H a xs) (h':SqL X.K H a ys):xs=ys:=by
  obtain ⟨its,r,⟨o,n,e,_,_,d⟩,_⟩:=I.list h
  obtain ⟨its',r',⟨o',n',e',_,_,d'⟩,_⟩:=I.list h'
  rw [e] at e'; cases e'
  rw [d] at d'
  injection d' with d1 _
  have:its=its':=by simpa using congrArg Array.toList d1
  subst this
  exact r.inj r'
theorem Inv.tuple_inj (I:Inv X pins σ H s) (h:SqT X.K H a xs) (h':SqT X.K H a ys):xs=ys:=by
  obtain ⟨its,r,⟨o,e,_,n,d⟩,_⟩:=I.tuple h
  obtain ⟨its',r',⟨o',e',_,n',d'⟩,_⟩:=I.tuple h'
  rw [e] at e'; cases e'
  rw [d] at d'
  injection d' with d1 _
  have:its=its':=by simpa using congrArg Array.toList d1
  subst this
  exact r.inj r'
end
abbrev Cx.wish (X:Cx) (E:Value->Shared->Prop):Cx:={ X with xe:=E }
abbrev Cx.nox (X:Cx):Cx:=X.wish fun _ _=>False
theorem Cx.Ok.wish {X:Cx} (ok:X.Ok) (E:Value->Shared->Prop):(X.wish E).Ok :=
  ⟨ok.mod,ok.kind,ok.glob,ok.blt,ok.above,ok.inj,ok.has,ok.cab,ok.hd,ok.frames,ok.stk,ok.exf,ok.bs,ok.bsz,ok.noex,ok.exfs,ok.funs,ok.frf⟩
theorem Cx.Ok.unwish {X:Cx} {E:Value->Shared->Prop} (ok:(X.wish E).Ok):X.Ok :=
  ⟨ok.mod,ok.kind,ok.glob,ok.blt,ok.above,ok.inj,ok.has,ok.cab,ok.hd,ok.frames,ok.stk,ok.exf,ok.bs,ok.bsz,ok.noex,ok.exfs,ok.funs,ok.frf⟩
section
variable {X:Cx} {pins:List (Addr × Obj)} {σ:St} {H:Hp} {s:Shared} {E:Value->Shared->Prop}
theorem Inv.wish (I:Inv X pins σ H s) (E:Value->Shared->Prop):Inv (X.wish E) pins σ H s:=⟨I.ok.wish E,I.os,I.bare,I.base,I.loc,I.cell,I.free,I.freeC,I.pin,I.hok,I.len⟩
theorem Inv.unwish (I:Inv (X.wish E) pins σ H s):Inv X pins σ H s:=⟨I.ok.unwish,I.os,I.bare,I.base,I.loc,I.cell,I.free,I.freeC,I.pin,I.hok,I.len⟩
theorem SP.unwish {D:Ends} {f:Flow} {s':Shared} (h:SP (X.wish E) pins D f s'):SP X pins D f s':=by
  cases f with
  | next=>obtain ⟨σ',H',I,q⟩:=h; exact ⟨σ',H',I.unwish,q⟩
  | brk=>obtain ⟨σ',H',I,q⟩:=h; exact ⟨σ',H',I.unwish,q⟩
  | cont=>obtain ⟨σ',H',I,q⟩:=h; exact ⟨σ',H',I.unwish,q⟩
  | ret u=>obtain ⟨v,σ',H',I,r,q⟩:=h; exact ⟨v,σ',H',I.unwish,r,q⟩
theorem PE.nox {e:Expr} {t:TE} (h:PE X.nox e t):PE X e t:=fun pins s σ H Q I hw =>
  wpAny_mono (h pins s σ H Q (I.wish _) hw) (fun _ _ ⟨v,H',I',r,q⟩=>⟨v,H',I'.unwish,r,q⟩) fun _ _ z=>False.elim z
theorem PT.nox {e:Expr} {t:TT} (h:PT X.nox e t):PT X e t:=fun pins s σ H Q I hw =>
  wpAny_mono (h pins s σ H Q (I.wish _) hw) (fun _ _ ⟨H',I',q⟩=>⟨H',I'.unwish,q⟩) fun _ _ z=>False.elim z
theorem PSs.nox {st:List Stmt} {t:TS} (h:PSs X.nox st t):PSs X st t:=fun pins s σ H D I hw =>
  wpAny_mono (h pins s σ H D (I.wish _) hw) (fun _ _ q=>q.unwish) fun _ _ z=>False.elim z
end
section
variable {X:Cx} {st:Stmt} {ju:List Stmt} {t u:TS} {e:Expr} {te:TE} {pos:Pos}
def tNext:TS:=fun D σ H=>D.nx σ H
def tSeq (t u:TS):TS:=fun D σ H=>t { D with nx:=u D } σ H
theorem jaH:PSs X [] tNext:=fun _ _ σ H _ I h=>wpAny_execs_nil ⟨σ,H,I,h⟩
theorem vL (h1:PS X st t) (h2:PSs X ju u):PSs X (st :: ju) (tSeq t u):=by
  intro pins s σ H D I h
  refine wpAny_execs_cons (thn (h1 pins s σ H { D with nx:=u D } I h) fun f s1 q=>?_)
  cases f with
  | next =>
    obtain ⟨σ',H',I',q⟩:=q
    exact h2 pins s1 σ' H' D I' q
  | ret v=>exact q
  | brk=>exact q
  | cont=>exact q
theorem jaG (h1:PS X st t):PSs X [st] t:=by
  intro pins s σ H D I h
  refine wpAny_execs_cons (thn (h1 pins s σ H D I h) fun f s1 q=>?_)
  cases f with
  | next=>exact wpAny_execs_nil q
  | ret v=>exact q
  | brk=>exact q
  | cont=>exact q
theorem Inv.quiet {pins:List (Addr × Obj)} {σ:St} {H:Hp} {s:Shared} (I:Inv X pins σ H s):interactive X.env=false:=by simp [interactive,I.ok.kind]
def tDrop (te:TE):TS:=fun D σ H=>te σ H fun _ H1=>D.nx σ H1
theorem jaI (he:PE X e te) (hs:swapsWith e none pos.line X.env=pure false:=by rfl):PS X (.Expr e pos) (tDrop te):=by
  intro pins s σ H D I h
  exact wpAny_Expr_any (thn (he pins s σ H _ I h) fun v s1 ⟨x,H1,I1,r1,q1⟩=>⟨σ,H1,I1,q1⟩) I.quiet hs
def tRet (te:TE):TS:=fun D σ H=>te σ H D.rt
theorem ps_ret (he:PE X e te):PS X (.Return (some e) pos) (tRet te):=by
  intro pins s σ H D I h
  exact wpAny_Return_some (thn (he pins s σ H _ I h) fun v s1 ⟨x,H1,I1,r1,q1⟩=>⟨x,σ,H1,I1,r1,q1⟩)
def tIfS (c:TT) (t u:TS):TS:=fun D σ H=>c σ H fun b H1=>if b=true then t D σ H1 else u D σ H1
theorem ps_if {c:Expr} {a b:List Stmt} {tc:TT} (hc:PT X c tc) (ha:PSs X a t) (hb:PSs X b u):PS X (.If c a b pos) (tIfS tc t u):=by
  intro pins s σ H D I h
  refine wpAny_If (thn (hc pins s σ H _ I h) fun d s1 hQQ=>?_)
  obtain ⟨H1,I1,q1⟩:=hQQ
  cases d with
  | true=>exact ha pins s1 σ H1 D I1 q1
  | false=>exact hb pins s1 σ H1 D I1 q1
def jhw:TS:=fun _ _ _=>False
theorem jdz:PS X st jhw:=fun _ _ _ _ _ _ h=>h.elim
end
abbrev TG:=V->St->Hp->(St->Hp->Prop)->Prop
abbrev TGs:=List V->St->Hp->(St->Hp->Prop)->Prop
def PG (X:Cx) (target:Expr) (t:TG):Prop :=
  ∀ (pins:List (Addr × Obj)) (s:Shared) (σ:St) (H:Hp) (v:V) (u:Value) (Q:St->Hp->Prop),Inv X pins σ H s->jv v u->t v σ H Q ->
    wpAny (model X.prog X.w) X.A (assign target X.env u) (fun _ s'=>∃ σ' H',Inv X pins σ' H' s'∧Q σ' H') X.xe s
def PGs (X:Cx) (ts:List Expr) (t:TGs):Prop :=
  ∀ (pins:List (Addr × Obj)) (s:Shared) (σ:St) (H:Hp) (vs:List V) (us:List Value) (Q:St->Hp->Prop),Inv X pins σ H s->jq vs us->t vs σ H Q ->
    wpAny (model X.prog X.w) X.A (assignInOrder ((assignEach ts X.env).map (·.2)) us) (fun _ s'=>∃ σ' H',Inv X pins σ' H' s'∧Q σ' H') X.xe s
abbrev TSet:=V->V->V->Hp->(Hp->Prop)->Prop
def PSet (X:Cx) (t:TSet):Prop :=
  ∀ (pins:List (Addr × Obj)) (s:Shared) (σ:St) (H:Hp) (o i v:V) (ov iv u:Value) (Q:Hp->Prop),Inv X pins σ H s->jv o ov->jv i iv->jv v u->t o i v H Q ->
    wpAny (model X.prog X.w) X.A (setItem ov iv u) (fun _ s'=>∃ H',Inv X pins σ H' s'∧Q H') X.xe s
section
variable {X:Cx} {pos:Pos}
def xL (i:Nat):TG:=fun v σ H Q=>Q (σ.set i (some v)) H
theorem yr {i:Nat} {x:Str} (hN:X.N.Nodup) (hi:X.N[i]? = some x) (hx:Loc X.env.scope x) (hf:X.fn x=true∨X.env.scope.names.lookup x=some .local:=by first | exact .inl rfl | exact .inr rfl | assumption):PG X (.Name x pos) (xL i):=by
  intro pins s σ H v u Q I r h
  exact wpAny_assign_Name (Jg I hN hi hx r (fun s' I'=>⟨_,H,I',h⟩) hf)
def gNil:TGs:=fun vs σ H Q=>vs=[]∧Q σ H
def VV (t:TG) (u:TGs):TGs:=fun vs σ H Q=>∃ v r,vs=v :: r∧t v σ H fun σ' H'=>u r σ' H' Q
theorem jaM:PGs X [] gNil:=by
  intro pins s σ H vs us Q I r h
  obtain ⟨e,h⟩:=h
  subst e
  cases r
  exact assignInOrder_nil ⟨σ,H,I,h⟩
theorem Jx {e:Expr} {es:List Expr} {t:TG} {u:TGs} (h1:PG X e t) (h2:PGs X es u)
    (hs:(assignEach (e :: es) X.env).map (·.2)=assign e X.env :: (assignEach es X.env).map (·.2):=by rfl):PGs X (e :: es) (VV t u):=by
  intro pins s σ H vs us Q I r h
  obtain ⟨v,vr,e1,h⟩:=h
  subst e1
  cases r with
  | cons r rr =>
    rw [hs]
    refine assignInOrder_cons (thn (h1 pins s σ H _ _ _ I r h) fun _ s1 hQQ=>?_)
    obtain ⟨σ1,H1,I1,q1⟩:=hQQ
    exact h2 pins s1 σ1 H1 _ _ Q I1 rr q1
def gTup (K:PySem.W.Frag) (n:Nat) (t:TGs):TG:=fun v σ H Q=>∃ a xs,v = .ref a∧SqT K H a xs∧xs.length=n∧t xs σ H Q
theorem jdG {es:List Expr} {k:Nat} {t:TGs} {n:Nat} (hc:X.calm=true) (h:PGs X es t)
    (hn:(assignEach es X.env).length=n:=by rfl) (hst:(assignEach es X.env).findIdx? (·.1)=none:=by rfl):PG X (.Tuple es k pos) (gTup X.K n t):=by
  intro pins s σ H v u Q I r hw
  obtain ⟨a,xs,e1,hq,hl,hw⟩:=hw
  subst e1
  cases r
  obtain ⟨its,rv,ht,hz⟩:=I.tuple hq
  refine assign_Tuple_tuple (I.ok.hd hc) ht (by simp [hn,<- hl,rv.length]) hst fun h' hx=>?_
  have I1:Inv X pins σ H { s with heap:=h' }:=I.kept (t':=s.toks) fun b o e=>hx b o (Nat.ne_of_lt (Heap.lt_size e)) e
  exact h pins _ σ H xs _ Q I1 (by simpa using rv) hw
def VS (to ti:TE) (t:TSet):TG:=fun v σ H Q=>to σ H fun o H1=>ti σ H1 fun i H2=>t o i v H2 fun H3=>Q σ H3
theorem pg_sub {o i:Expr} {to ti:TE} {t:TSet} (ho:PE X o to) (hi:PE X i ti) (hs:PSet X t)
    (ha:∀ v,assign (.Subscript o i pos) X.env v=(do
      let ov <- holding [v] (eval o X.env)
      let iv <- holding [v,ov] (eval i X.env)
      standAt pos
      holding [v,ov,iv] (setItem ov iv v)
      release [v,ov,iv] []):=by intro _; rfl):PG X (.Subscript o i pos) (VS to ti t):=by
  intro pins s σ H v u Q I r h
  rw [ha]
  refine wpAny_bind (wpAny_holding (thn (ho pins s σ H _ I h) fun ov s1 hQQ=>?_))
  obtain ⟨x,H1,I1,r1,q1⟩:=hQQ
  refine wpAny_bind (wpAny_holding (thn (hi pins s1 σ H1 _ I1 q1) fun iv s2 hQQ=>?_))
  obtain ⟨y,H2,I2,r2,q2⟩:=hQQ
  refine wpAny_bind (wpAny_standAt (wpAny_bind (wpAny_holding (thn (hs pins s2 σ H2 x y v ov iv u _ I2 r1 r2 r q2) fun _ s3 hQQ=>?_))))
  obtain ⟨H3,I3,q3⟩:=hQQ
  exact wpAny_release ⟨σ,H3,I3,q3⟩
def jhA (te:TE) (g:TG):TS:=fun D σ H=>te σ H fun x H1=>g x σ H1 D.nx
theorem ps_asg {tg e:Expr} {te:TE} {g:TG} (he:PE X e te) (hg:PG X tg g) (hs:swapsWithSole [tg] e pos.line X.env=pure false:=by rfl) (hw:swappedStores [tg] e X.env=pure none:=by rfl)
    (h1:(assignEach [tg] X.env).map (·.2)=[assign tg X.env]:=by rfl):PS X (.Assign [tg] e pos) (jhA te g):=by
  intro pins s σ H D I h
  refine wpAny_Assign_stores (thn (he pins s σ H _ I h) fun v s1 hQQ=>?_) hs hw
  obtain ⟨x,H1,I1,r1,q1⟩:=hQQ
  rw [h1]
  exact thn (hg pins s1 σ H1 x v _ I1 r1 q1) fun _ s2 q=>q
theorem jdx {i:Nat} {x:Str} {e:Expr} {te:TE} {pos':Pos} (hN:X.N.Nodup) (hi:X.N[i]? = some x) (hx:Loc X.env.scope x) (he:PE X e te) (hs:swapsWith e (some (.Name x pos')) pos.line X.env=pure false:=by rfl) (hf:X.fn x=true∨X.env.scope.names.lookup x=some .local:=by first | exact .inl rfl | exact .inr rfl | assumption) :
    PS X (.Assign [.Name x pos'] e pos) (jhA te (xL i)):=by
  intro pins s σ H D I h
  refine wpAny_Assign_Name (thn (he pins s σ H _ I h) fun v s1 hQQ=>?_) hs
  obtain ⟨y,H1,I1,r1,q1⟩:=hQQ
  exact Jg I1 hN hi hx r1 (fun s2 I2=>⟨_,H1,I2,q1⟩) hf
end
section
variable {X:Cx} {pos:Pos}
end
structure It where
  go:Nat->Hp->Prop
  yld:Nat->Hp->V->Hp->Prop
  stop:Nat->Hp->Prop
def yA (X:Cx) (pins:List (Addr × Obj)) (H:Hp) (b:Addr):Prop :=
  H b=none∧b≠X.env.locals∧b ∉ X.fs∧(b ∈ X.ex∨X.s₀.heap.objs.size<=b)∧(∀ x c,X.env.cells.lookup x=some c->c≠b)∧∀ p ∈ X.pn ++ pins,p.1≠b
theorem Inv.fpOk {X:Cx} {pins:List (Addr × Obj)} {σ:St} {H H':Hp} {s:Shared} {b:Addr} (I:Inv X pins σ H s) (hb:s.heap.objs.size<=b) (hn:H' b=none):yA X pins H' b:=by
  refine ⟨hn,Nat.ne_of_gt (Nat.lt_of_lt_of_le I.lt hb),I.nofs hb,.inr (Nat.le_trans I.sz hb),fun x c e z=>?_,fun p hp z=>?_⟩
  · obtain ⟨v,q⟩:=I.cell x c e
    exact absurd (Nat.lt_of_lt_of_le q.lt (by rw [z]; exact hb)) (Nat.lt_irrefl _)
  · exact absurd (Nat.lt_of_lt_of_le (Heap.lt_size (I.pin p hp).1) (by rw [z]; exact hb)) (Nat.lt_irrefl _)
structure Turn (P:Program) (w:World) (K:PySem.W.Frag) (tg:Expr) (J:It) (fp:List Addr) (it:Addr) (tn:Nat->Heap->Prop):Prop where
  mem:it ∈ fp
  obj:∀ i h,tn i h->∀ b ∈ fp,∃ o,h.get? b=some o∧∀ v,o.data≠.cell v
  keep:∀ i h h',tn i h->(∀ b ∈ fp,∀ o,h.get? b=some o->h'.get? b=some o)->tn i h'
  item:∀ (X:Cx),X.prog=P->X.w=w->X.K=K->X.calm=true->∀ (i:Nat) (pins:List (Addr × Obj)) (s:Shared) (σ:St) (H:Hp) (E:Value->Shared->Prop),Inv X pins σ H s->(∀ b ∈ fp,yA X pins H b)->tn i s.heap->J.go i H ->
    wpAny (model P w) X.A (pyNext (.ref it)) (fun r s1=>∃ u,r=some u ∧
      wpAny (model P w) X.A (letOwnedTupleGo tg (.ref it) u) (fun _ s2=>∃ x H',Inv X pins σ H' s2∧jv x u∧J.yld i H x H'∧tn (i + 1) s2.heap∧∀ b ∈ fp,H' b=none) E s1) E s
  done:∀ (X:Cx),X.prog=P->X.w=w->X.K=K->X.calm=true->∀ (i:Nat) (pins:List (Addr × Obj)) (s:Shared) (σ:St) (H:Hp) (E:Value->Shared->Prop),Inv X pins σ H s->(∀ b ∈ fp,yA X pins H b)->tn i s.heap->J.stop i H ->
    wpAny (model P w) X.A (pyNext (.ref it)) (fun r s1=>r=none∧Inv X pins σ H s1) E s
  self:∀ (A:Around) (i:Nat) (s:Shared) (Q:Value->Shared->Prop) (E:Value->Shared->Prop),tn i s.heap->Q (.ref it) s->wpAny (model P w) A (pyIter (.ref it)) Q E s
abbrev TI:=St->Hp->(It->Hp->Prop)->Prop
def PIE (X:Cx) (pins:List (Addr × Obj)) (σ:St) (tg:Expr) (R:It->Hp->Prop) (itv:Value) (s2:Shared):Prop :=
  ∃ (it:Addr) (fp:List Addr) (tn:Nat->Heap->Prop) (J:It) (H':Hp),itv = .ref it∧Inv X pins σ H' s2∧Turn X.prog X.w X.K tg J fp it tn∧tn 0 s2.heap∧(∀ b ∈ fp,yA X pins H' b)∧R J H'
def PI (X:Cx) (tg iter:Expr) (wi:TI):Prop :=
  ∀ (pins:List (Addr × Obj)) (s:Shared) (σ:St) (H:Hp) (R:It->Hp->Prop),Inv X pins σ H s->wi σ H R ->
    wpAny (model X.prog X.w) X.A (eval iter X.env) (fun v s1=>wpAny (model X.prog X.w) X.A (pyIter v) (PIE X pins σ tg R) X.xe s1) X.xe s
theorem jer {M:Model} {A:Around} {E:Value->Shared->Prop} {s:Shared} {tg:Expr} {it:Addr} {u:Value} {o:Obj} {n:String} {vs:Array Value} {Q:Unit->Shared->Prop} (ho:s.heap.get? it=some o) (hc:o.cls = .type n) (hd:o.data = .fields vs)
    (hn:["enumerate","zip","dict_itemiterator","dict_reverseitemiterator","odict_iterator","itertools.zip_longest","itertools.pairwise"].contains n=false) (hQ:Q () s):wpAny M A (letOwnedTupleGo tg (.ref it) u) Q E s:=by
  unfold letOwnedTupleGo
  cases tg <;> first
    | exact wpAny_pure hQ
    | (cases u <;> first
        | exact wpAny_pure hQ
        | (refine wpAny_bind (wpAny_load ho ?_)
           rw [hc,hd]
           show wpAny M A (if (["enumerate","zip","dict_itemiterator","dict_reverseitemiterator","odict_iterator","itertools.zip_longest","itertools.pairwise"].contains n && vs[0]? == some (rawInt _))=true then _ else _) Q E s
           rw [if_neg (by intro h; rw [hn,Bool.false_and] at h; cases h)]
           exact wpAny_pure hQ))
def Itl (K:PySem.W.Frag) (a:Addr):It :=
  ⟨fun i H=>∃ xs x,SqL K H a xs∧xs[i]? = some x,fun i H x H'=>H'=H∧∀ xs,SqL K H a xs->xs[i]? = some x,fun i H=>∃ xs,SqL K H a xs∧xs.length<=i⟩
def Itt (K:PySem.W.Frag) (a:Addr):It :=
  ⟨fun i H=>∃ xs x,SqT K H a xs∧xs[i]? = some x,fun i H x H'=>H'=H∧∀ xs,SqT K H a xs->xs[i]? = some x,fun i H=>∃ xs,SqT K H a xs∧xs.length<=i⟩
def Itr (lo:Int) (n:Nat):It:=⟨fun i _=>i < n,fun i H x H'=>H'=H∧x = .int (lo + i),fun i _=>n<=i⟩
theorem Yv {P:Program} {w:World} {K:PySem.W.Frag} {tg:Expr} (a it:Addr):Turn P w K tg (Itl K a) [it] it (fun i h=>h.IsListIter it a i) where
  mem:=by simp
  obj:=fun i h st b hb=>by
    have e:b=it:=by simpa using hb
    subst e
    obtain ⟨o,e,c,d⟩:=st
    exact ⟨o,e,fun v z=>by rw [d] at z; cases z⟩
  keep:=fun i h h' st k=>st.at fun o e=>k it (by simp) o e
  item:=by
    intro X hP hw hK hc i pins s σ H E I hf st hg
    subst hP hw hK
    obtain ⟨xs,x,hq,hx⟩:=hg
    obtain ⟨its,rv,p,hz⟩:=I.list hq
    obtain ⟨u,hu,ru⟩:=rv.get hx
    obtain ⟨f0,f1,f2,f3,f4,f5⟩:=hf it (by simp)
    refine wpAny_pyNext_list_item st p.isList (x:=u) (by simpa using hu) fun h' st' sb=>?_
    have I1:Inv X pins σ H { s with heap:=h' }:=I.turned (t':=s.toks) (fun b o hb e=>(sb.2 b hb).trans e) f0 f1 f3 f4 f5
    obtain ⟨o,e,c,d⟩:=id st'
    exact ⟨u,rfl,jer (s:={ s with heap:=h' }) e c d (by decide) ⟨x,H,I1,ru,⟨rfl,fun ys hy=>by rw [I.list_inj hy hq]; exact hx⟩,st',fun b hb=>(hf b hb).1⟩⟩
  done:=by
    intro X hP hw hK hc i pins s σ H E I hf st hg
    subst hP hw hK
    obtain ⟨xs,hq,hx⟩:=hg
    obtain ⟨its,rv,p,hz⟩:=I.list hq
    obtain ⟨f0,f1,f2,f3,f4,f5⟩:=hf it (by simp)
    have hl:=rv.length
    exact wpAny_pyNext_list_end (I.ok.hd hc) st p.isList (by simp; omega) fun h' eb=>⟨rfl,I.turned (t':=s.toks) (fun b o hb e=>eb b o hb e) f0 f1 f3 f4 f5⟩
  self:=fun _ _ _ _ _ st h=>wpAny_pyIter_listiter st h
theorem Je {P:Program} {w:World} {K:PySem.W.Frag} {tg:Expr} (a it:Addr):Turn P w K tg (Itt K a) [it] it (fun i h=>h.IsTupleIter it a i) where
  mem:=by simp
  obj:=fun i h st b hb=>by
    have e:b=it:=by simpa using hb
    subst e
    obtain ⟨o,e,c,d⟩:=st
    exact ⟨o,e,fun v z=>by rw [d] at z; cases z⟩
  keep:=fun i h h' st k=>st.at fun o e=>k it (by simp) o e
  item:=by
    intro X hP hw hK hc i pins s σ H E I hf st hg
    subst hP hw hK
    obtain ⟨xs,x,hq,hx⟩:=hg
    obtain ⟨its,rv,p,hz⟩:=I.tuple hq
    obtain ⟨u,hu,ru⟩:=rv.get hx
    obtain ⟨f0,f1,f2,f3,f4,f5⟩:=hf it (by simp)
    refine wpAny_pyNext_tuple_item st (show s.heap.IsTuple a its.toArray from p) (x:=u) (by simpa using hu) fun h' st' sb=>?_
    have I1:Inv X pins σ H { s with heap:=h' }:=I.turned (t':=s.toks) (fun b o hb e=>(sb.2 b hb).trans e) f0 f1 f3 f4 f5
    obtain ⟨o,e,c,d⟩:=id st'
    exact ⟨u,rfl,jer (s:={ s with heap:=h' }) e c d (by decide) ⟨x,H,I1,ru,⟨rfl,fun ys hy=>by rw [I.tuple_inj hy hq]; exact hx⟩,st',fun b hb=>(hf b hb).1⟩⟩
  done:=by
    intro X hP hw hK hc i pins s σ H E I hf st hg
    subst hP hw hK
    obtain ⟨xs,hq,hx⟩:=hg
    obtain ⟨its,rv,p,hz⟩:=I.tuple hq
    obtain ⟨f0,f1,f2,f3,f4,f5⟩:=hf it (by simp)
    have hl:=rv.length
    exact wpAny_pyNext_tuple_end (I.ok.hd hc) st (show s.heap.IsTuple a its.toArray from p) (by simp; omega) fun h' eb=>⟨rfl,I.turned (t':=s.toks) (fun b o hb e=>eb b o hb e) f0 f1 f3 f4 f5⟩
  self:=fun _ _ _ _ _ st h=>wpAny_pyIter_tupleiter st h
theorem Uu {P:Program} {w:World} {K:PySem.W.Frag} {tg:Expr} (it:Addr) (lo:Int) (n:Nat):Turn P w K tg (Itr lo n) [it] it (fun i h=>IsRangeIter h it (lo + (i:Nat) * 1) ((n:Int) - (i:Nat)) 1) where
  mem:=by simp
  obj:=fun i h st b hb=>by
    have e:b=it:=by simpa using hb
    subst e
    exact ⟨_,st,fun v z=>by
      have z':Data.fields _=Data.cell v:=z
      cases z'⟩
  keep:=fun i h h' st k=>k it (by simp) _ st
  item:=by
    intro X hP hw hK hc i pins s σ H E I hf st hg
    subst hP hw hK
    obtain ⟨f0,f1,f2,f3,f4,f5⟩:=hf it (by simp)
    have W:=Walks.range (prog:=X.prog) (w:=X.w) (I.ok.hd hc) it lo 1 n
    refine W.item i s _ _ hg st fun v h' tk hv st' kk=>?_
    obtain ⟨t,rfl⟩:=hv
    have I1:Inv X pins σ H { s with heap:=h',toks:=tk }:=I.turned (fun b o hb e=>kk b o (by simpa using hb) e) f0 f1 f3 f4 f5
    refine ⟨_,rfl,jer (s:={ s with heap:=h',toks:=tk }) (n:="range_iterator") st' rfl rfl (by decide) ⟨.int (lo + i),H,I1,⟨t,?_⟩,⟨rfl,rfl⟩,st',fun b hb=>(hf b hb).1⟩⟩
    rw [Int.mul_one]
  done:=by
    intro X hP hw hK hc i pins s σ H E I hf st hg
    subst hP hw hK
    obtain ⟨f0,f1,f2,f3,f4,f5⟩:=hf it (by simp)
    exact wpAny_pyNext_range_end (I.ok.hd hc) st (by have:n<=i:=hg; omega) fun h' eb=>⟨rfl,I.turned (t':=s.toks) (fun b o hb e=>eb b o hb e) f0 f1 f3 f4 f5⟩
  self:=fun _ _ _ _ _ st h=>wpAny_pyIter_rangeiter st h
end L2
namespace L2
open PySem PySem.Spec PyProof.Rows
section
variable {X:Cx} {tg:Expr}
def iList (K:PySem.W.Frag) (tl:TE):TI:=fun σ H R=>tl σ H fun x H1=>∃ a,x = .ref a∧(∃ xs,SqL K H1 a xs)∧R (Itl K a) H1
def iTup (K:PySem.W.Frag) (tl:TE):TI:=fun σ H R=>tl σ H fun x H1=>∃ a,x = .ref a∧(∃ xs,SqT K H1 a xs)∧R (Itt K a) H1
theorem jfU {l:Expr} {tl:TE} (hl:PE X l tl):PI X tg l (iList X.K tl):=by
  intro pins s σ H R I h
  refine thn (hl pins s σ H _ I h) fun v s1 hQQ=>?_
  obtain ⟨x,H1,I1,r1,q1⟩:=hQQ
  obtain ⟨a,e,⟨xs,hq⟩,q⟩:=q1
  subst e
  cases r1
  obtain ⟨its,rv,p,hz⟩:=I1.list hq
  refine wpAny_pyIter_list p.isList ?_
  refine ⟨s1.heap.objs.size,[s1.heap.objs.size],_,_,H1,rfl,I1.kept (t':=s1.toks) fun b o e=>Heap.get?_push_of_some _ e,Yv a _,⟨_,Heap.get?_push_size _ rfl,rfl,rfl⟩,fun b hb=>?_,q⟩
  have e:b=s1.heap.objs.size:=by simpa using hb
  subst e
  exact I1.fpOk (Nat.le_refl _) (I1.hok.fresh (Nat.le_refl _))
theorem pi_tup {l:Expr} {tl:TE} (hl:PE X l tl):PI X tg l (iTup X.K tl):=by
  intro pins s σ H R I h
  refine thn (hl pins s σ H _ I h) fun v s1 hQQ=>?_
  obtain ⟨x,H1,I1,r1,q1⟩:=hQQ
  obtain ⟨a,e,⟨xs,hq⟩,q⟩:=q1
  subst e
  cases r1
  obtain ⟨its,rv,p,hz⟩:=I1.tuple hq
  refine wpAny_pyIter_tuple (show s1.heap.IsTuple a its.toArray from p) ?_
  refine ⟨s1.heap.objs.size,[s1.heap.objs.size],_,_,H1,rfl,I1.kept (t':=s1.toks) fun b o e=>Heap.get?_push_of_some _ e,Je a _,⟨_,Heap.get?_push_size _ rfl,rfl,rfl⟩,fun b hb=>?_,q⟩
  have e:b=s1.heap.objs.size:=by simpa using hb
  subst e
  exact I1.fpOk (Nat.le_refl _) (I1.hok.fresh (Nat.le_refl _))
theorem jdj {pins:List (Addr × Obj)} {σ:St} {H:Hp} {s:Shared} {R:It->Hp->Prop} {E:Value->Shared->Prop} {lo hi:Int} {t u v:Tok} {tk:Nat} (I:Inv X pins σ H s) (h1:-(2 ^ 62)<=lo) (h2:lo < 2 ^ 62) (h3:-(2 ^ 62)<=hi) (h4:hi < 2 ^ 62)
    (q:R (Itr lo (hi - lo).toNat) H):wpAny (model X.prog X.w) X.A (pyIter (.ref s.heap.objs.size)) (PIE X pins σ tg R) E { s with heap:=s.heap.push { cls:=.type "range",data:=.fields #[.int lo t,.int hi u,.int 1 v] },toks:=tk }:=by
  refine wpAny_pyIter_range (IsRange.new ..) (small_one h1 h2 h3 h4) ?_
  have I1:Inv X pins σ H { s with heap:=s.heap.push { cls:=.type "range",data:=.fields #[.int lo t,.int hi u,.int 1 v] },toks:=tk }:=I.kept fun b o e=>Heap.get?_push_of_some _ e
  refine ⟨(s.heap.push { cls:=.type "range",data:=.fields #[.int lo t,.int hi u,.int 1 v] }).objs.size,[(s.heap.push { cls:=.type "range",data:=.fields #[.int lo t,.int hi u,.int 1 v] }).objs.size],_,_,H,rfl,
    I1.kept (t':=tk) fun b o e=>Heap.get?_push_of_some _ e,Uu _ lo (hi - lo).toNat,?_,fun b hb=>?_,q⟩
  · have e1:lo + ((0:Nat):Int) * 1=lo:=by simp
    have e2:(((hi - lo).toNat:Nat):Int) - ((0:Nat):Int)=Builtin.Range.rangeSize lo hi 1:=by rw [rangeSize_one]; split <;> omega
    show IsRangeIter _ _ (lo + ((0:Nat):Int) * 1) ((((hi - lo).toNat:Nat):Int) - ((0:Nat):Int)) 1
    rw [e1,e2]
    exact Heap.get?_push_size _ rfl
  · have e:b=(s.heap.push { cls:=.type "range",data:=.fields #[.int lo t,.int hi u,.int 1 v] }).objs.size:=by simpa using hb
    subst e
    exact I1.fpOk (Nat.le_refl _) (I1.hok.fresh (Nat.le_refl _))
def iRng1 (ta:TA):TI:=fun σ H R=>ta σ H fun vs H1=>∃ j:Int,vs=[.int j]∧-(2 ^ 62)<=j∧j < 2 ^ 62∧R (Itr 0 j.toNat) H1
theorem jbX {a:Expr} {ta:TA} {p pos:Pos} (hg:Gl X "range") (hm:X.mg "range" = none) (ha:PA X [a] ta) (hs:starEach [a] X.env=[(false,eval a X.env)]:=by rfl):PI X tg (.Call (.Name "range" p) [a] [] pos) (iRng1 ta):=by
  intro pins s σ H R I h
  refine Call_ (uo I hg hm boot_range (PyProof.Rows.callWith_type1 (thn (ha pos pins s σ H _ I h) fun us s1 hQQ=>?_) hs rfl))
  obtain ⟨vs,H1,I1,r1,q1⟩:=hQQ
  obtain ⟨j,e,q1,q2,q⟩:=q1
  subst e
  cases r1 with
  | cons r rr =>
    cases rr
    obtain ⟨t,rfl⟩:=r
    exact call_range_1 (jdj I1 (by omega) (by omega) q1 q2 (by simpa using q))
def tFor (wi:TI) (g:TG) (tb:TS):TS:=fun D σ H=>wi σ H fun J H1=>∃ W:Nat->Nat->St->Hp->Prop,(∃ m,W 0 m σ H1)∧∀ i m σ H,W i m σ H ->
  (J.stop i H∧D.nx σ H)∨(J.go i H∧∃ N:St->Hp->Prop,(∀ σ' H',N σ' H'->∃ m',m' < m∧W (i + 1) m' σ' H')∧∀ x H',J.yld i H x H'->g x σ H' fun σ2 H2=>tb { D with nx:=N,ct:=N,bk:=D.nx } σ2 H2)
def Jv (fp:List Addr) (h:Heap):List (Addr × Obj):=fp.filterMap fun b=>(h.get? b).map fun o=>(b,o)
theorem jR {fp:List Addr} {h:Heap} {b:Addr} {o:Obj} (hb:b ∈ fp) (e:h.get? b=some o):(b,o) ∈ Jv fp h:=List.mem_filterMap.mpr ⟨b,hb,by rw [e]; rfl⟩
theorem jca {fp:List Addr} {h:Heap} {p:Addr × Obj} (hp:p ∈ Jv fp h):p.1 ∈ fp∧h.get? p.1=some p.2:=by
  obtain ⟨b,hb,e⟩:=List.mem_filterMap.mp hp
  cases q:h.get? b with
  | none=>rw [q] at e; cases e
  | some o =>
    rw [q] at e
    have e':(b,o)=p:=Option.some.inj e
    subst e'
    exact ⟨hb,q⟩
theorem Inv.pinned {pins:List (Addr × Obj)} {σ:St} {H:Hp} {s:Shared} {fp:List Addr} (I:Inv X pins σ H s) (hf:∀ b ∈ fp,yA X pins H b) (ho:∀ b ∈ fp,∃ o,s.heap.get? b=some o∧∀ v,o.data≠.cell v):Inv X (pins ++ Jv fp s.heap) σ H s :=
  I.pins_of fun p hp=>(List.mem_append.mp hp).elim (fun z=>I.pin p (List.mem_append_right _ z)) fun z=>by
    obtain ⟨hb,e⟩:=jca z
    obtain ⟨f0,f1,f2,_⟩:=hf p.1 hb
    obtain ⟨o,e',d⟩:=ho p.1 hb
    rw [e] at e'; cases e'
    exact ⟨e,f0,f1,f2,d⟩
theorem Inv.unpinned {pins pl:List (Addr × Obj)} {σ:St} {H:Hp} {s:Shared} (I:Inv X (pins ++ pl) σ H s):Inv X pins σ H s:=I.pins_of fun p hp=>I.pin p (List.mem_append_right _ (List.mem_append_left _ hp))
theorem ps_for {iter:Expr} {body:List Stmt} {wi:TI} {g:TG} {tb:TS} {pos:Pos} (hp:PassesOwn (model X.prog X.w) X.A X.env X.xe) (hc:X.calm=true) (hi:PI X tg iter wi) (hg:PG X tg g) (hb:PSs X body tb)
    (hs:∀ x,foldedSetIterable iter X.env x=pure x:=by intro _; rfl):PS X (.For tg iter body [] pos) (tFor wi g tb):=by
  intro pins s σ H D I h
  refine wpAny_For (thn (hi pins s σ H _ I h) fun v s1 h1=>thn h1 fun itv s2 h2=>?_) hs
  obtain ⟨it,fp,tn,J,H2,e,I2,T,st2,f2,W,⟨m0,w0⟩,turn⟩:=h2
  subst e
  -- what stays true of the iterator's objects through the loop
  have stat:∀ {H':Hp},(∀ b ∈ fp,H' b=none)->∀ b ∈ fp,yA X pins H' b:=fun hn b hb=>⟨hn b hb,(f2 b hb).2⟩
  refine codeAny_forLoop_any (fun n s'=>∃ i σ' H',Inv X pins σ' H' s'∧tn i s'.heap∧(∀ b ∈ fp,H' b=none)∧W i n σ' H') ?_ m0 ⟨0,σ,H2,I2,st2,fun b hb=>(f2 b hb).1,w0⟩
  rintro n s3 ⟨i,σ3,H3,I3,st3,fr3,w3⟩
  rcases turn i n σ3 H3 w3 with ⟨stop,qn⟩ | ⟨go,N,hN,step⟩
  · refine wpAny_passesOwn hp (thn (T.done X rfl rfl rfl hc i pins s3 σ3 H3 X.xe I3 (stat fr3) st3 stop) fun r s4 hQQ=>?_)
    obtain ⟨hr,I4⟩:=hQQ
    subst hr
    exact wpAny_execs_nil ⟨σ3,H3,I4,qn⟩
  · refine wpAny_passesOwn hp (thn (T.item X rfl rfl rfl hc i pins s3 σ3 H3 X.xe I3 (stat fr3) st3 go) fun r s4 hQQ=>?_)
    obtain ⟨u,hr,h4⟩:=hQQ
    subst hr
    refine wpAny_passesOwn hp (thn h4 fun _ s5 hQQ=>?_)
    obtain ⟨x,H5,I5,r5,y5,st5,fr5⟩:=hQQ
    have I5':=I5.pinned (stat fr5) (T.obj _ _ st5)
    refine wpAny_passesOwn hp (thn (hg _ s5 σ3 H5 x u _ I5' r5 (step x H5 y5)) fun _ s6 hQQ=>?_)
    obtain ⟨σ6,H6,I6,q6⟩:=hQQ
    refine wpAny_passesOwn hp (thn (hb _ s6 σ6 H6 _ I6 q6) fun f s7 q7=>?_)
    have again:∀ {σ7:St} {H7:Hp},Inv X (pins ++ Jv fp s5.heap) σ7 H7 s7->N σ7 H7->∃ m,m < n∧∃ i σ' H',Inv X pins σ' H' s7∧tn i s7.heap∧(∀ b ∈ fp,H' b=none)∧W i m σ' H':=fun {σ7 H7} I7 n7=>by
      obtain ⟨m',hm,w7⟩:=hN σ7 H7 n7
      refine ⟨m',hm,i + 1,σ7,H7,I7.unpinned,T.keep _ _ _ st5 fun b hb o e=>(I7.pin (b,o) (List.mem_append_right _ (List.mem_append_right _ (jR hb e)))).1,fun b hb=>?_,w7⟩
      obtain ⟨o,e,d⟩:=T.obj _ _ st5 b hb
      exact (I7.pin (b,o) (List.mem_append_right _ (List.mem_append_right _ (jR hb e)))).2.1
    cases f with
    | next=>obtain ⟨σ7,H7,I7,n7⟩:=q7; exact again I7 n7
    | cont=>obtain ⟨σ7,H7,I7,n7⟩:=q7; exact again I7 n7
    | brk=>obtain ⟨σ7,H7,I7,q7⟩:=q7; exact ⟨σ7,H7,I7.unpinned,q7⟩
    | ret v=>obtain ⟨x7,σ7,H7,I7,r7,q7⟩:=q7; exact ⟨x7,σ7,H7,I7.unpinned,r7,q7⟩
end
end L2
namespace L2
open PySem PySem.Spec PyProof.Rows
abbrev R2:=V->V->Hp->VK->Prop
def OpR (X:Cx) (f:Value->Value->Sem Value) (r:R2):Prop :=
  ∀ (pins:List (Addr × Obj)) (s:Shared) (σ:St) (H:Hp) (x y:V) (v u:Value) (Q:VK),Inv X pins σ H s->jv x v->jv y u->r x y H Q ->
    wpAny (model X.prog X.w) X.A (f v u) (EP X pins σ Q) X.xe s
def UnR (X:Cx) (f:Value->Sem Value) (r:V->Hp->VK->Prop):Prop :=
  ∀ (pins:List (Addr × Obj)) (s:Shared) (σ:St) (H:Hp) (x:V) (v:Value) (Q:VK),Inv X pins σ H s->jv x v->r x H Q ->
    wpAny (model X.prog X.w) X.A (f v) (EP X pins σ Q) X.xe s
def yf (X:Cx) (f:Value) (r:List V->Hp->VK->Prop):Prop :=
  ∀ (pins:List (Addr × Obj)) (s:Shared) (σ:St) (H:Hp) (xs:List V) (us:List Value) (Q:VK),Inv X pins σ H s->jq xs us->r xs H Q ->
    wpAny (model X.prog X.w) X.A (call f us) (EP X pins σ Q) X.xe s
def TruR (X:Cx) (r:V->Hp->(Bool->Hp->Prop)->Prop):Prop :=
  ∀ (pins:List (Addr × Obj)) (s:Shared) (σ:St) (H:Hp) (x:V) (v:Value) (Q:Bool->Hp->Prop),Inv X pins σ H s->jv x v->r x H Q ->
    wpAny (model X.prog X.w) X.A (truthy v) (TP X pins σ Q) X.xe s
def tOp (r:R2) (ta tb:TE):TE:=fun σ H Q=>ta σ H fun x H1=>tb σ H1 fun y H2=>r x y H2 Q
def tUn (r:V->Hp->VK->Prop) (ta:TE):TE:=fun σ H Q=>ta σ H fun x H1=>r x H1 Q
def rI (C:Int->Int->Prop) (g:Int->Int->V):R2:=fun x y H Q=>∃ i j,x = .int i∧y = .int j∧C i j∧Q (g i j) H
def rI0 (g:Int->Int->V):R2:=fun x y H Q=>∃ i j,x = .int i∧y = .int j∧Q (g i j) H
def rU (g:Int->V):V->Hp->VK->Prop:=fun x H Q=>∃ i,x = .int i∧Q (g i) H
section
variable {X:Cx} {a b c:Expr} {ta tb tc:TE} {pos:Pos}
theorem binT (ha:PE X a ta) (hb:PE X b tb) {pins:List (Addr × Obj)} {s:Shared} {σ:St} {H:Hp} {R:V->V->Hp->Prop} (I:Inv X pins σ H s)
    (h:ta σ H fun x H1=>tb σ H1 fun y H2=>R x y H2) {Q:Value->Shared->Prop} {f:Value->Value->Sem Value}
    (hf:∀ v u s2 x y H2,Inv X pins σ H2 s2->jv x v->jv y u->R x y H2->wpAny (model X.prog X.w) X.A (f v u) Q X.xe s2) :
    wpAny (model X.prog X.w) X.A (eval a X.env) (fun v s₁=>wpAny (model X.prog X.w) X.A (eval b X.env) (fun u s₂=>wpAny (model X.prog X.w) X.A (f v u) Q X.xe s₂) X.xe s₁) X.xe s:=by
  refine thn (ha pins s σ H _ I h) fun v s1 hQQ=>?_
  obtain ⟨x,H1,I1,r1,q1⟩:=hQQ
  refine thn (hb pins s1 σ H1 _ I1 q1) fun u s2 hQQ=>?_
  obtain ⟨y,H2,I2,r2,q2⟩:=hQQ
  exact hf v u s2 x y H2 I2 r1 r2 q2
theorem pe_op {op:Operator} {r:R2} (ho:OpR X (binaryOp op) r) (ha:PE X a ta) (hb:PE X b tb):PE X (.BinOp a op b pos) (tOp r ta tb):=by
  intro pins s σ H Q I h
  exact wpAny_BinOp (binT ha hb I h fun v u s2 x y H2 I2 rx ry q=>ho pins s2 σ H2 x y v u Q I2 rx ry q)
theorem pe_un {op:UnaryOp} {r:V->Hp->VK->Prop} (ho:UnR X (unaryOp op) r) (ha:PE X a ta):PE X (.UnaryOp op a pos) (tUn r ta):=by
  intro pins s σ H Q I h
  exact UnaryOp_ (thn (ha pins s σ H _ I h) fun v s1 ⟨x,H1,I1,r1,q1⟩=>ho pins s1 σ H1 x v Q I1 r1 q1)
theorem opI {f:Value->Value->Sem Value} {C:Int->Int->Prop} {g:Int->Int->Int}
    (rule:∀ (i j:Int) (t u:Tok) (s:Shared) (Q:Value->Shared->Prop) (E:Value->Shared->Prop),C i j->Q (.int (g i j) s.toks) { s with toks:=s.toks + 1 }->wpAny (model X.prog X.w) X.A (f (.int i t) (.int j u)) Q E s) :
    OpR X f (rI C fun i j=>.int (g i j)):=by
  intro pins s σ H x y v u Q I rx ry h
  obtain ⟨i,j,rfl,rfl,hc,q⟩:=h
  obtain ⟨t,rfl⟩:=rx
  obtain ⟨t',rfl⟩:=ry
  exact rule i j t t' s _ _ hc ⟨.int (g i j),H,I.tok _,⟨_,rfl⟩,q⟩
theorem opI0 {f:Value->Value->Sem Value} {g:Int->Int->Int}
    (rule:∀ (i j:Int) (t u:Tok) (s:Shared) (Q:Value->Shared->Prop) (E:Value->Shared->Prop),Q (.int (g i j) s.toks) { s with toks:=s.toks + 1 }->wpAny (model X.prog X.w) X.A (f (.int i t) (.int j u)) Q E s) :
    OpR X f (rI0 fun i j=>.int (g i j)):=by
  intro pins s σ H x y v u Q I rx ry h
  obtain ⟨i,j,rfl,rfl,q⟩:=h
  obtain ⟨t,rfl⟩:=rx
  obtain ⟨t',rfl⟩:=ry
  exact rule i j t t' s _ _ ⟨.int (g i j),H,I.tok _,⟨_,rfl⟩,q⟩
theorem jgf {f:Value->Value->Sem Value} {g:Int->Int->Bool}
    (rule:∀ (i j:Int) (t u:Tok) (s:Shared) (Q:Value->Shared->Prop) (E:Value->Shared->Prop),Q (.bool (g i j)) s->wpAny (model X.prog X.w) X.A (f (.int i t) (.int j u)) Q E s) :
    OpR X f (rI0 fun i j=>.bl (g i j)):=by
  intro pins s σ H x y v u Q I rx ry h
  obtain ⟨i,j,rfl,rfl,q⟩:=h
  obtain ⟨t,rfl⟩:=rx
  obtain ⟨t',rfl⟩:=ry
  exact rule i j t t' s _ _ ⟨.bl (g i j),H,I,rfl,q⟩
def CDiv (i j:Int):Prop:=0 < j∧j < 1073741824
def CPow (i j:Int):Prop:=0<=j∧j<=1000000∧i.natAbs < 2 ^ 64
def CMul (i j:Int):Prop:=(-(2 ^ 64) < i∧i < 2 ^ 64)∨(-(2 ^ 64) < j∧j < 2 ^ 64)
theorem CMul.ok {i j:Int} (h:CMul i j):IntMulOk i j:=by
  rcases h with ⟨h1,h2⟩ | ⟨h1,h2⟩
  · exact .of_left (intBits_le_64 h1 h2)
  · exact .of_right (intBits_le_64 h1 h2)
theorem op_add:OpR X (binaryOp .Add) (rI0 fun i j=>.int (i + j)):=opI0 fun _ _ _ _ _ _ _ q=>add_int q
theorem op_sub:OpR X (binaryOp .Sub) (rI0 fun i j=>.int (i - j)):=opI0 fun _ _ _ _ _ _ _ q=>sub_int q
theorem op_mul:OpR X (binaryOp .Mult) (rI CMul fun i j=>.int (i * j)):=opI fun _ _ _ _ _ _ _ hc q=>mul_int q hc.ok
theorem jgd:OpR X (binaryOp .FloorDiv) (rI CDiv fun i j=>.int (i / j)):=opI fun i j _ _ _ _ _ hc q=>by
  have h1:(0:Int) < j:=hc.1
  have h2:j < 1073741824:=hc.2
  exact floordiv_int (by omega) (by rw [Int.fdiv_eq_ediv_of_nonneg i (by omega)]; exact q) (.inl (PyProof.noPylong_small (by omega)))
theorem op_mod:OpR X (binaryOp .Mod) (rI (fun _ j=>0 < j) fun i j=>.int (i % j)):=opI fun i j _ _ _ _ _ hc q=>by
  have h1:(0:Int) < j:=hc
  exact mod_int' (by omega) (by rw [Int.fmod_eq_emod_of_nonneg i (by omega)]; exact q)
theorem op_pow:OpR X (binaryOp .Pow) (rI CPow fun i j=>.int (i ^ j.toNat)):=opI fun _ _ _ _ _ _ _ hc q=>pow_int_small hc.1 hc.2.1 hc.2.2 q
theorem unI {f:Value->Sem Value} {g:Int->Int}
    (rule:∀ (i:Int) (t:Tok) (s:Shared) (Q:Value->Shared->Prop) (E:Value->Shared->Prop),Q (.int (g i) s.toks) { s with toks:=s.toks + 1 }->wpAny (model X.prog X.w) X.A (f (.int i t)) Q E s) :
    UnR X f (rU fun i=>.int (g i)):=by
  intro pins s σ H x v Q I rx h
  obtain ⟨i,rfl,q⟩:=h
  obtain ⟨t,rfl⟩:=rx
  exact rule i t s _ _ ⟨.int (g i),H,I.tok _,⟨_,rfl⟩,q⟩
theorem jhn:UnR X (unaryOp .USub) (rU fun i=>.int (-i)):=unI fun _ _ _ _ _ q=>neg_int q
end
section
variable {X:Cx} {a b c:Expr} {ta tb tc:TE} {pos:Pos}
theorem fin_bl {pins:List (Addr × Obj)} {σ:St} {H:Hp} {s:Shared} {Q:VK} {k k':Bool} (I:Inv X pins σ H s) (q:Q (.bl k) H) (e:k=k'):EP X pins σ Q (.bool k') s:=by
  subst e
  exact ⟨.bl k,H,I,rfl,q⟩
theorem op_lt:OpR X (compareOp .Lt) (rI0 fun i j=>.bl (decide (i < j))):=jgf fun _ _ _ _ _ _ _ q=>lt_int q
theorem op_le:OpR X (compareOp .LtE) (rI0 fun i j=>.bl (decide (i<=j))):=jgf fun _ _ _ _ _ _ _ q=>le_int q
theorem op_gt:OpR X (compareOp .Gt) (rI0 fun i j=>.bl (decide (j < i))):=jgf fun _ _ _ _ _ _ _ q=>gt_int q
theorem op_ge:OpR X (compareOp .GtE) (rI0 fun i j=>.bl (decide (j<=i))):=jgf fun _ _ _ _ _ _ _ q=>ge_int q
theorem op_isN:OpR X (compareOp .Is) (fun x y H Q=>y = .non∧Q (.bl (decide (x = .non))) H):=by
  intro pins s σ H x y v u Q I rx ry h
  obtain ⟨rfl,q⟩:=h
  cases ry
  refine is_none_gen (fin_bl I q ?_)
  cases x <;> first
    | (cases rx; rfl)
    | (obtain ⟨t,rfl⟩:=rx; rfl)
theorem OpR.or {f:Value->Value->Sem Value} {r r':R2} (h:OpR X f r) (h':OpR X f r'):OpR X f (fun x y H Q=>r x y H Q∨r' x y H Q):=by
  intro pins s σ H x y v u Q I rx ry q
  rcases q with q | q
  · exact h pins s σ H x y v u Q I rx ry q
  · exact h' pins s σ H x y v u Q I rx ry q
theorem jF (b:Expr) {op:CmpOp} (h:op≠.In:=by decide) (h2:op≠.NotIn:=by decide):behindInMarks op b=false:=by
  have e1:(op == CmpOp.In)=false:=by cases op <;> first | rfl | exact absurd rfl h
  have e2:(op == CmpOp.NotIn)=false:=by cases op <;> first | rfl | exact absurd rfl h2
  cases b <;> simp [behindInMarks,e1,e2]
theorem jga {op:CmpOp} {r:R2} (ho:OpR X (compareOp op) r) (ha:PE X a ta) (hb:PE X b tb) (hm:behindInMarks op b=false):PE X (.Compare a [op] [b] pos) (tOp r ta tb):=by
  intro pins s σ H Q I h
  exact wpAny_Compare1 (binT ha hb I h fun v u s2 x y H2 I2 rx ry q=>ho pins s2 σ H2 x y v u Q I2 rx ry q) hm
def tTest (t:TE):TT:=fun σ H Q=>t σ H fun x H'=>∃ k,x = .bl k∧Q k H'
theorem jfK {op:CmpOp} {r:R2} (ho:OpR X (compareOp op) r) (ha:PE X a ta) (hb:PE X b tb) (hm:behindInMarks op b=false):PT X (.Compare a [op] [b] pos) (tTest (tOp r ta tb)):=by
  intro pins s σ H Q I h
  refine wpAny_isTrue_Compare1 (thn (ha pins s σ H _ I h) fun v s1 ⟨x,H1,I1,r1,q1⟩=>thn (hb pins s1 σ H1 _ I1 q1) fun u s2 ⟨y,H2,I2,r2,q2⟩ =>
    thn (ho pins s2 σ H2 x y v u _ I2 r1 r2 q2) fun c s3 ⟨z,H3,I3,r3,k,e,q3⟩=>?_) hm
  subst e
  cases r3
  exact wpAny_truthy_bool ⟨H3,I3,q3⟩
def jcQ (r r':R2) (ta tb tc:TE):TE:=fun σ H Q=>ta σ H fun x H1=>tb σ H1 fun y H2=>r x y H2 fun z H3=>∃ k,z = .bl k ∧
  (if k=true then tc σ H3 fun w' H4=>r' y w' H4 Q else Q (.bl false) H3)
theorem jdQ {op op':CmpOp} {r r':R2} (ho:OpR X (compareOp op) r) (ho':OpR X (compareOp op') r') (ha:PE X a ta) (hb:PE X b tb) (hc:PE X c tc)
    (hm:lastMarks [op,op'] [b,c]=false:=by with_unfolding_all rfl):PE X (.Compare a [op,op'] [b,c] pos) (jcQ r r' ta tb tc):=by
  intro pins s σ H Q I h
  refine Compare_chain (thn (ha pins s σ H _ I h) fun v s1 ⟨x,H1,I1,r1,q1⟩=>chain_link (thn (hb pins s1 σ H1 _ I1 q1) fun u s2 ⟨y,H2,I2,r2,q2⟩ =>
    thn (ho pins s2 σ H2 x y v u _ I2 r1 r2 q2) fun d s3 ⟨z,H3,I3,r3,k,e,q3⟩=>?_)) hm
  subst e
  cases r3
  refine wpAny_truthy_bool ?_
  cases k with
  | false=>exact ite_ff ⟨.bl false,H3,I3,rfl,q3⟩
  | true=>exact ite_tt (chain_last (thn (hc pins s3 σ H3 _ I3 q3) fun w' s4 ⟨z',H4,I4,r4,q4⟩=>ho' pins s4 σ H4 y z' u w' Q I4 r2 r4 q4))
def TruV (K:PySem.W.Frag) (x:V) (H:Hp) (k:Bool):Prop :=
  match x with
  | .non=>k=false
  | .bl b=>k=b
  | .int i=>k=(i != 0)
  | .str y=>y.length<=sizeLine∧k=((y.length:Int) != 0)
  | .byt y=>y.size<=sizeLine∧k=((y.size:Int) != 0)
  | .ref p=>(∃ xs,SqL K H p xs∧k = !xs.isEmpty)∨(∃ xs,SqT K H p xs∧k = !xs.isEmpty)∨∃ kvs,H p=some (.dK kvs)∧k = !kvs.isEmpty
  | _=>False
theorem UN {κ:Type} {kvs:List (κ × V)} {vs:List (κ × Value)} (r:KV kvs vs):(!vs.isEmpty) = !kvs.isEmpty:=by
  cases r <;> rfl
theorem JH {xs:List V} {its:List Value} (r:jq xs its):(!its.toArray.isEmpty) = !xs.isEmpty:=by
  cases r <;> simp
theorem JE:(sizeLine:Nat) < 2 ^ 63:=by rw [sizeLine_eq]; decide
theorem jhp:TruR X (fun x H Q=>∃ k,TruV X.K x H k∧Q k H):=by
  intro pins s σ H x v Q I rx h
  obtain ⟨k,e,q⟩:=h
  have hl:=JE
  have hs:sizeLine=16777216:=sizeLine_eq
  cases x with
  | non =>
    cases rx
    have e':k=false:=e
    subst e'
    exact truthy_none ⟨H,I,q⟩
  | bl b =>
    cases rx
    have e':k=b:=e
    subst e'
    exact wpAny_truthy_bool ⟨H,I,q⟩
  | int i =>
    obtain ⟨t,rfl⟩:=rx
    have e':k=(i != 0):=e
    subst e'
    exact PySem.P.truthy_int ⟨H,I,q⟩
  | str y =>
    obtain ⟨t,rfl⟩:=rx
    obtain ⟨hy,e'⟩:y.length<=sizeLine∧k=((y.length:Int) != 0):=e
    subst e'
    exact PySem.P.truthy_str (by omega) ⟨H,I.tok _,q⟩
  | byt y =>
    obtain ⟨t,rfl⟩:=rx
    obtain ⟨hy,e'⟩:y.size<=sizeLine∧k=((y.size:Int) != 0):=e
    subst e'
    exact PySem.W.truthy_bytes (by omega) ⟨H,I.tok _,q⟩
  | ref p =>
    cases rx
    have e':(∃ xs,SqL X.K H p xs∧k = !xs.isEmpty)∨(∃ xs,SqT X.K H p xs∧k = !xs.isEmpty)∨∃ kvs,H p=some (.dK kvs)∧k = !kvs.isEmpty:=e
    rcases e' with ⟨xs,hx,e'⟩ | ⟨xs,hx,e'⟩ | ⟨kvs,hx,e'⟩
    · subst e'
      obtain ⟨its,r,pl,hz⟩:=I.list hx
      have hlen:=r.length
      exact wpAny_truthy_list pl.isList (by simp only [List.size_toArray]; omega) ⟨H,I.tok _,by rw [JH r]; exact q⟩
    · subst e'
      obtain ⟨its,r,pl,hz⟩:=I.tuple hx
      have hlen:=r.length
      exact truthy_tuple pl (by simp only [List.size_toArray]; omega) ⟨H,I.tok _,by rw [JH r]; exact q⟩
    · subst e'
      obtain ⟨hz,hS,vs,r,m⟩:kvs.length<=sizeLine∧(p == sysModules)=false∧∃ vs,KV kvs vs∧s.heap.DictOf (jI X.prog X.w) p vs:=I.hok p _ hx
      have hlen:kvs.length=vs.length:=Paired.length r
      exact wpAny_truthy_dict hS m (by omega) ⟨H,I.tok _,by rw [UN r]; exact q⟩
  | _=>exact (show False from e).elim
theorem Yu {x:V} {us:List Value} (r:jq [x] us):∃ u,us=[u]∧jv x u:=by
  cases r with
  | cons r1 r2=>cases r2; exact ⟨_,rfl,r1⟩
theorem Yt {x y:V} {us:List Value} (r:jq [x,y] us):∃ u w',us=[u,w']∧jv x u∧jv y w':=by
  cases r with
  | cons r1 r2 =>
    cases r2 with
    | cons r3 r4=>cases r4; exact ⟨_,_,rfl,r1,r3⟩
end
end L2
namespace L2
open PySem PySem.Spec PyProof.Rows
structure ObjM (h:Heap) (x dx C:Addr) (mA:Str->Option Value):Prop where
  obj:h.get? x=some (PySem.W.instObj C dx)
  ns:h.Ns1 dx mA
  ne:dx≠x
theorem jce {h:Heap} {dx:Addr} {mA:Str->Option Value} (n:h.Ns1 dx mA):∃ od,h.get? dx=some od∧∀ name,PySem.W.lookIn name od=some (mA name):=by
  obtain ⟨o,es,ep,ho,hd,hk,_,hm⟩:=n
  refine ⟨o,ho,fun name=>?_⟩
  have e:=hm name
  unfold nsFind findBy at e
  rw [<- Array.find?_toList] at e
  unfold PySem.W.lookIn
  rw [hd]
  dsimp only
  split
  · rename_i y q
    rw [q] at e
    exact congrArg some e
  · rename_i q
    rw [q] at e
    have a:es.toList.any (·.refKey)=false:=by
      rw [List.any_eq_false]
      intro y hy
      obtain ⟨z,t,hkey⟩:=hk y (Array.mem_toList_iff.mp hy)
      simp [DictEntry.refKey,hkey]
    have a':¬ es.toList.any (·.refKey)=true:=by rw [a]; exact Bool.false_ne_true
    rw [if_neg a']
    exact congrArg some e
theorem ObjM.look {h:Heap} {x dx C:Addr} {mA:Str->Option Value} (I:ObjM h x dx C mA):∃ od,PySem.W.InstAt h x (PySem.W.instObj C dx) C (some od)∧∀ name,PySem.W.lookIn name od=some (mA name) :=
  let ⟨od,ho,hl⟩:=jce I.ns
  ⟨od,⟨I.obj,rfl,rfl,ho⟩,hl⟩
section
variable {prog:Program} {w:World} {A:Around} {E:Value->Shared->Prop} {s:Shared} {K:PySem.W.Frag} {x dx C f:Addr} {mA:Str->Option Value} {name:Str} {v:Value}
theorem jgs {expr:Bool} {Q:Value->Shared->Prop} (X:K.In s.heap) (I:ObjM s.heap x dx C mA) (hg:PySem.W.plainGet K C name=true) (hh:PySem.W.hasDictIn K C=true)
    (ha:PySem.W.findIn K (.ref C) name=some none) (hv:mA name=some v) (hv':PySem.W.handedIn v=true) (h:Q v { s with toks:=s.toks + 1 }) :
    wpAny (model prog w) A (getAttr (.ref x) name expr) Q E s:=by
  obtain ⟨od,J,hl⟩:=I.look
  exact PySem.W.get_value X J (PySem.W.plainGet_of hg).1 (PySem.W.findObj_own hh ha rfl (by rw [hl,hv])) hv' h
theorem jes {pl:Sem Bool} {Q:Value × List Value->Shared->Prop} (X:K.In s.heap) (I:ObjM s.heap x dx C mA) (hg:PySem.W.plainGet K C name=true)
    (hf:PySem.W.findIn K (.ref C) name=some (some (.ref f))) (ht:PySem.W.isFn K (.ref f)=true) (hv:mA name=none) (h:Q (.ref f,[.ref x]) s) :
    wpAny (model prog w) A (getMethod (.ref x) name pl) Q E s:=by
  obtain ⟨od,J,hl⟩:=I.look
  exact PySem.W.method_fn X J (PySem.W.plainGet_of hg).1 (PySem.W.plainGet_of hg).2 hf (beq_iff_eq.mp ht) (by show (PySem.W.lookIn name od).map (·.isSome)=some false; rw [hl,hv]; rfl) h
theorem jfx {ns:List Str} {Q:Unit->Shared->Prop} (X:K.In s.heap) (I:ObjM s.heap x dx C mA)
    (hs:PySem.W.findIn K (.ref C) "__setattr__" = some (some (.builtin "object.__setattr__"))) (hp:PySem.W.plainOver K C=true) (ht:PySem.W.takerIn K C name=some none) (hh:PySem.W.hasDictIn K C=true)
    (hw:PySem.Within mA ns) (hsz:ns.length<=sizeLine)
    (h:∀ h',ObjM h' x dx C (fun y=>if y=name then some v else mA y)->Heap.SameBut dx s.heap h'->Q () { s with heap:=h',toks:=s.toks + 2 }) :
    wpAny (model prog w) A (setAttr (.ref x) name v) Q E s:=by
  obtain ⟨od,J,hl⟩:=I.look
  refine PySem.W.set_plain X J hs (PySem.W.osa_open (s:={ s with toks:=s.toks + 1 }) (r:=none) X J hp ht fun b=>?_)
  obtain ⟨cd,hc,hd'⟩:=PySem.W.any_some hh
  have hx:s.heap.get? x=some ⟨.ref C,some dx,.plain,#[]⟩:=I.obj
  refine wpAny_bind (wpAny_pure (wpAny_bind (wpAny_bind (wpAny_loadPart hx (wpAny_bind (PySem.W.Looks.here (s:={ s with toks:=s.toks + 1 }) (PySem.W.looks_clsIn X hc) ?_))))))
  rw [hd']
  refine wpAny_pure (a:=some dx) (wpAny_bind (wpAny_pure (wpAny_bind ?_)))
  refine wpAny_nsSet1 (s:={ s with toks:=s.toks + 1 }) I.ns fun h' hn2 hs2=>?_
  obtain ⟨oD,esD,epD,hoD,hdD,hcD⟩:=hn2.count (PySem.Within.cons name v hw)
  refine wpAny_bind (wpAny_lookBehind hoD (by rw [hdD]; exact pastItsLine_dict (Nat.le_trans hcD (by rw [List.length_cons]; omega))) ?_)
  exact wpAny_pure (h _ ⟨(hs2.2 _ (Ne.symm I.ne)).trans I.obj,hn2,I.ne⟩ hs2)
theorem jeb {R:Result->Shared->Prop} {vs:List Value} {kw:List (Str × Value)} (X:K.In s.heap) (hm:PySem.W.makesIn K C=true)
    (hi:PySem.W.findIn K (.ref C) "__init__" = some (some (.ref f))) (hf:PySem.W.typeIn K (.ref f)=some (.type "function"))
    (h:codeAny (model prog w) (A.under (.builtin "type.__call__" ⟨.ref C :: vs,kw⟩)) (.call (.ref f) ⟨.ref (s.heap.objs.size + 1) :: vs,kw⟩) (PySem.W.InitBack (s.heap.objs.size + 1) R)
      { s with heap:=(s.heap.push PySem.W.emptyDict).push (PySem.W.instObj C s.heap.objs.size) }) :
    codeAny (model prog w) A (.call (.ref C) ⟨vs,kw⟩) R s:=by
  obtain ⟨hh,g,d,t,os⟩:=s
  exact PySem.W.make_core (PySem.W.makes_of X hm) (PySem.W.looks_findIn X hi) (fun self=>PySem.W.bind_fn X self hf) (.inl rfl) h
end
def xC (f:Str) (v:V):List (Str × V)->List (Str × V)
  | []=>[(f,v)]
  | (g,x) :: r=>if g=f then (g,v) :: r else (g,x) :: xC f v r
theorem uE (f g:Str) (v:V):∀ fs:List (Str × V),(xC f v fs).lookup g=if g=f then some v else fs.lookup g
  | []=>by
    show List.lookup g [(f,v)]=_
    by_cases h:g=f
    · have hb:(g == f)=true:=beq_iff_eq.mpr h
      simp only [List.lookup,hb,if_pos h]
    · have hb:(g == f)=false:=beq_eq_false_iff_ne.mpr h
      simp only [List.lookup,hb,if_neg h]
  | (k,x) :: r=>by
    have ih:=uE f g v r
    rw [show xC f v ((k,x) :: r)=(if k=f then (k,v) :: r else (k,x) :: xC f v r) from rfl]
    by_cases hk:k=f
    · rw [if_pos hk]
      by_cases h:g=k
      · have hb:(g == k)=true:=beq_iff_eq.mpr h
        simp only [List.lookup,hb,if_pos (h.trans hk)]
      · have hb:(g == k)=false:=beq_eq_false_iff_ne.mpr h
        simp only [List.lookup,hb,if_neg (fun e:g=f=>h (e.trans hk.symm))]
    · rw [if_neg hk]
      by_cases h:g=k
      · have hb:(g == k)=true:=beq_iff_eq.mpr h
        simp only [List.lookup,hb,if_neg (fun e:g=f=>hk (h.symm.trans e))]
      · have hb:(g == k)=false:=beq_eq_false_iff_ne.mpr h
        simp only [List.lookup,hb]
        exact ih
theorem ut (f:Str) (v:V):∀ fs:List (Str × V),f ∈ (xC f v fs).map (·.1)∧∀ g,g ∈ fs.map (·.1)->g ∈ (xC f v fs).map (·.1)
  | []=>⟨by simp [xC],fun g h=>by simp at h⟩
  | (k,x) :: r=>by
    obtain ⟨i1,i2⟩:=ut f v r
    rw [show xC f v ((k,x) :: r)=(if k=f then (k,v) :: r else (k,x) :: xC f v r) from rfl]
    by_cases hk:k=f
    · rw [if_pos hk]
      subst hk
      exact ⟨by simp,fun g h=>by simpa using h⟩
    · rw [if_neg hk]
      refine ⟨?_,fun g h=>?_⟩
      · rw [List.map_cons]
        exact List.mem_cons_of_mem _ i1
      · rw [List.map_cons] at h ⊢
        rcases List.mem_cons.mp h with e | e
        · exact List.mem_cons.mpr (.inl e)
        · exact List.mem_cons_of_mem _ (i2 g e)
theorem uG (f:Str) (v:V):∀ fs:List (Str × V),(xC f v fs).length<=fs.length + 1
  | []=>by simp [xC]
  | (k,x) :: r=>by
    have ih:=uG f v r
    rw [show xC f v ((k,x) :: r)=(if k=f then (k,v) :: r else (k,x) :: xC f v r) from rfl]
    by_cases hk:k=f
    · rw [if_pos hk,List.length_cons,List.length_cons]; omega
    · rw [if_neg hk,List.length_cons,List.length_cons]; omega
theorem xM.some_of {v:V} {o:Option Value} (r:xM (some v) o):∃ u,o=some u∧jv v u:=by
  cases o with
  | none=>exact (show False from r).elim
  | some u=>exact ⟨u,rfl,r⟩
theorem xM.none_of {o:Option Value} (r:xM none o):o=none:=by
  cases o with
  | none=>rfl
  | some u=>exact (show False from r).elim
theorem Xg {v:V} {u:Value} (r:jv v u):PySem.W.handedIn u=true:=by
  cases v with
  | non=>cases (show u=Value.none from r); rfl
  | bl b=>cases (show u=Value.bool b from r); rfl
  | int i=>obtain ⟨t,e⟩:=(show ∃ t,u=Value.int i t from r); cases e; rfl
  | str x=>obtain ⟨t,e⟩:=(show ∃ t,u=Value.str x t from r); cases e; rfl
  | byt b=>obtain ⟨t,e⟩:=(show ∃ t,u=Value.bytes b t from r); cases e; rfl
  | flt b=>obtain ⟨t,e⟩:=(show ∃ t,u=Value.float b t from r); cases e; rfl
  | ref a=>cases (show u=Value.ref a from r); rfl
  | ty n=>cases (show u=Value.type n from r); rfl
section
variable {P:Program} {w:World} {H H':Hp} {h h':Heap} {a C dx:Addr} {fs fs':List (Str × V)}
theorem XW (hok:HOk P w H h) (e:H a=some (.ins C dx fs)):∃ mA,ObjM h a dx C mA∧(∀ f,xM (fs.lookup f) (mA f))∧PySem.Within mA (fs.map (·.1))∧fs.length<=1000∧H dx=some (.own a):=by
  obtain ⟨d,z,ne,ob,mA,n,r,q⟩:=(show jM P w H h a (.ins C dx fs) from hok a _ e)
  exact ⟨mA,⟨ob,n,ne⟩,r,q,z,d⟩
end
structure Cls (K:PySem.W.Frag) (C:Addr):Prop where
  pg:PySem.W.plainGet K C Str.empty=true
  hd:PySem.W.hasDictIn K C=true
  po:PySem.W.plainOver K C=true
  sa:PySem.W.findIn K (.ref C) "__setattr__" = some (some (.builtin "object.__setattr__"))
theorem Cls.get {K:PySem.W.Frag} {C:Addr} (c:Cls K C) (f:Str):PySem.W.plainGet K C f=true:=c.pg
def jS (K:PySem.W.Frag) (C:Addr) (f:Str):Prop:=PySem.W.findIn K (.ref C) f=some none
theorem jS.taker {K:PySem.W.Frag} {C:Addr} {f:Str} (n:jS K C f):PySem.W.takerIn K C f=some none:=by
  unfold PySem.W.takerIn
  rw [show PySem.W.findIn K (.ref C) f=some none from n]
  rfl
structure Con (K:PySem.W.Frag) (C:Addr) (f:Str) (v:V) (u:Value):Prop where
  at_:PySem.W.findIn K (.ref C) f=some (some u)
  rel:jv v u
  get:PySem.W.specialIn K u "__get__" = some none
  cp:PySem.W.copiedNames.contains f=false
structure Meth (K:PySem.W.Frag) (C:Addr) (m:Str) (f:Addr):Prop where
  at_:PySem.W.findIn K (.ref C) m=some (some (.ref f))
  fn:PySem.W.isFn K (.ref f)=true
  kp:PySem.W.keepIn K (.ref f)=true
section
variable {X:Cx} {pins:List (Addr × Obj)} {σ:St} {H:Hp} {s:Shared} {a C dx:Addr} {fs:List (Str × V)} {f:Str} {v:V} {A:Around} {E:Value->Shared->Prop}
theorem UQ {b:Bool} {Q:Value->Shared->Prop} (I:Inv X pins σ H s) (e:H a=some (.ins C dx fs)) (c:Cls X.K C) (n:jS X.K C f) (l:fs.lookup f=some v)
    (h:∀ u s',Inv X pins σ H s'->jv v u->Q u s'):wpAny (model X.prog X.w) A (getAttr (.ref a) f b) Q E s:=by
  obtain ⟨mA,O,r,_,_,_⟩:=XW I.hok e
  obtain ⟨u,hu,ru⟩:=xM.some_of (v:=v) (o:=mA f) (by rw [<- l]; exact r f)
  exact jgs I.kIn O (c.get f) c.hd n hu (Xg ru) (h u _ (I.tok _) ru)
theorem JL {m:Str} {g:Addr} {pl:Sem Bool} {Q:Value × List Value->Shared->Prop} (I:Inv X pins σ H s) (e:H a=some (.ins C dx fs)) (c:Cls X.K C) (k:Meth X.K C m g) (l:fs.lookup m=none)
    (h:Q (.ref g,[.ref a]) s):wpAny (model X.prog X.w) A (getMethod (.ref a) m pl) Q E s:=by
  obtain ⟨mA,O,r,_,_,_⟩:=XW I.hok e
  have hn:mA m=none:=xM.none_of (by rw [<- l]; exact r m)
  exact jes I.kIn O (c.get m) k.at_ k.fn hn h
theorem Uv {y:V} {u:Value} {Q:Unit->Shared->Prop} (I:Inv X pins σ H s) (e:H a=some (.ins C dx fs)) (c:Cls X.K C) (n:jS X.K C f) (hl:fs.length < 1000) (ry:jv y u)
    (h:∀ s',Inv X pins σ (upd H a (.ins C dx (xC f y fs))) s'->Q () s'):wpAny (model X.prog X.w) A (setAttr (.ref a) f u) Q E s:=by
  obtain ⟨mA,O,r,wi,_,ho⟩:=XW I.hok e
  have hz:(fs.map (·.1)).length<=sizeLine:=by rw [List.length_map,sizeLine_eq]; omega
  refine jfx I.kIn O c.sa c.po n.taker c.hd wi hz fun h' O' sb=>h _ ?_
  have hd:∃ o,h'.get? dx=some o:=let ⟨o,_,_,e',_⟩:=O'.ns; ⟨o,e'⟩
  refine I.write (x:=a) (e:=dx) (by rw [e]; exact True.intro) (.inr ho) (fun b q hb z=>(sb.2 b hb).trans z) hd ?_
  refine ⟨by rw [ji O.ne]; exact ho,?_,O.ne,O'.obj,_,O'.ns,fun g=>?_,fun g hg=>?_⟩
  · have:=uG f y fs; omega
  · show xM ((xC f y fs).lookup g) (if g=f then some u else mA g)
    rw [uE]
    by_cases q:g=f
    · rw [if_pos q,if_pos q]; exact ry
    · rw [if_neg q,if_neg q]; exact r g
  · by_cases q:g=f
    · rw [q]; exact (ut f y fs).1
    · refine (ut f y fs).2 g (wi g fun z=>hg ?_)
      show (if g=f then some u else mA g)=none
      rw [if_neg q]; exact z
theorem Inv.made (I:Inv X pins σ H s):Inv X pins σ (upd (upd H s.heap.objs.size (.own (s.heap.objs.size + 1))) (s.heap.objs.size + 1) (.ins C s.heap.objs.size []))
    { s with heap:=(s.heap.push PySem.W.emptyDict).push (PySem.W.instObj C s.heap.objs.size) }:=by
  have e1:(s.heap.push PySem.W.emptyDict).get? s.heap.objs.size=some PySem.W.emptyDict:=Heap.get?_push_size s.heap rfl
  have e2:((s.heap.push PySem.W.emptyDict).push (PySem.W.instObj C s.heap.objs.size)).get? (s.heap.objs.size + 1)=some (PySem.W.instObj C s.heap.objs.size):=by
    have:=Heap.get?_push_size (s.heap.push PySem.W.emptyDict) (o:=PySem.W.instObj C s.heap.objs.size) rfl
    rwa [Heap.size_push] at this
  have e3:(s.heap.push PySem.W.emptyDict).Ns s.heap.objs.size (fun _=>none):=⟨PySem.W.emptyDict,#[],_,e1,rfl,(fun e he=>absurd he (by simp)),fun _=>rfl⟩
  have I1:=I.laid (a:=s.heap.objs.size) (o:=.own (s.heap.objs.size + 1)) (h':=s.heap.push PySem.W.emptyDict) (t':=s.toks) (fun b u q=>Heap.get?_push_of_some _ q) (Nat.le_refl _) ⟨_,e1⟩
  refine I1.laid (a:=s.heap.objs.size + 1) (o:=.ins C s.heap.objs.size []) (t':=s.toks) (fun b u q=>Heap.get?_push_of_some _ q) (Nat.le_of_eq (Heap.size_push _ _)) ?_
  have ne:s.heap.objs.size≠s.heap.objs.size + 1:=Nat.ne_of_lt (Nat.lt_succ_self _)
  refine ⟨by rw [ji ne,jo],Nat.zero_le _,ne,e2,fun _=>none,(Heap.Ns1.of_empty e3).at fun o q=>Heap.get?_push_of_some _ q,fun _=>True.intro,fun y hy=>absurd rfl hy⟩
theorem jbk {prog:Program} {w:World} {env:Env} {e:Expr} {f:Str} {pos:Pos} {s:Shared} {Q:Value->Shared->Prop} (hb:attributeBase e f env (eval e env)=eval e env)
    (h:wpAny (model prog w) A (eval e env) (fun o s₁=>wpAny (model prog w) A (getAttr o f true) Q E s₁) E s):wpAny (model prog w) A (eval (.Attribute e f pos) env) Q E s :=
  Attribute_any_ h (by rw [arm_eval_Attribute,hb])
end
def tFld (K:PySem.W.Frag) (ta:TE) (f:Str):TE:=fun σ H Q=>ta σ H fun x H1=>∃ a C dx fs v,x = .ref a∧H1 a=some (.ins C dx fs)∧Cls K C∧jS K C f∧fs.lookup f=some v∧Q v H1
def sFld (K:PySem.W.Frag) (ta tv:TE) (f:Str):TS:=fun D σ H=>tv σ H fun y H1=>ta σ H1 fun x H2=>∃ a C dx fs,x = .ref a∧H2 a=some (.ins C dx fs)∧Cls K C∧jS K C f∧fs.length < 1000 ∧
  D.nx σ (upd H2 a (.ins C dx (xC f y fs)))
section
variable {X:Cx} {o e value:Expr} {f:Str} {pos pos' tpos:Pos} {ta tv:TE}
theorem pe_fld (he:PE X e ta) (hb:attributeBase e f X.env (eval e X.env)=eval e X.env):PE X (.Attribute e f pos) (tFld X.K ta f):=by
  intro pins s σ H Q I h
  refine jbk hb (thn (he pins s σ H _ I h) fun u s1 hQQ=>?_)
  obtain ⟨x,H1,I1,rx,a,C,dx,fs,v,ex,ea,c,n,l,q⟩:=hQQ
  subst ex
  obtain rfl:u=Value.ref a:=rx
  exact UQ I1 ea c n l fun u' s2 I2 ru=>⟨v,H1,I2,ru,q⟩
theorem ps_fld (ha:PE X o ta) (hv:PE X value tv) (hs:swapsWith value (some (.Attribute o f pos')) pos.line X.env=pure false):PS X (.Assign [.Attribute o f pos'] value pos) (sFld X.K ta tv f):=by
  intro pins s σ H D I h
  refine plainObj_wpAny_Assign_Attribute (thn (hv pins s σ H _ I h) fun u s1 ⟨y,H1,I1,ry,q⟩=>thn (ha pins s1 σ H1 _ I1 q) fun ov s2 hQQ=>?_) hs
  obtain ⟨x,H2,I2,rx,a,C,dx,fs,ex,ea,c,n,l,q2⟩:=hQQ
  subst ex
  obtain rfl:ov=Value.ref a:=rx
  exact Uv I2 ea c n l ry fun s3 I3=>⟨σ,_,I3,q2⟩
end
section
variable {X:Cx} {pins:List (Addr × Obj)} {σ:St} {H:Hp} {s:Shared} {A:Around} {E:Value->Shared->Prop} {Q:Value->Shared->Prop} {c:Value} {b:Bool}
inductive TyOf (K:PySem.W.Frag) (H:Hp):V->Value->Prop where
  | non:TyOf K H .non (.type "NoneType")
  | bl (x:Bool):TyOf K H (.bl x) (.type "bool")
  | int (i:Int):TyOf K H (.int i) (.type "int")
  | str (x:Str):TyOf K H (.str x) (.type "str")
  | flt (x:UInt64):TyOf K H (.flt x) (.type "float")
  | lst {a:Addr} {xs:List V} (e:H a=some (.lst xs)):TyOf K H (.ref a) (.type "list")
  | frz {a:Addr} {o:Obj} {xs:List V} (e:H a=some (.frz o (.lst xs))):TyOf K H (.ref a) (.type "list")
  | tup {a:Addr} {xs:List V} (e:H a=some (.tup xs)):TyOf K H (.ref a) (.type "tuple")
  | dK {a:Addr} {kvs:List (Key × V)} (e:H a=some (.dK kvs)):TyOf K H (.ref a) (.type "dict")
  | dT {a:Addr} {kvs:List (List Key × V)} (e:H a=some (.dT kvs)):TyOf K H (.ref a) (.type "dict")
  | ins {a C dx:Addr} {fs:List (Str × V)} (e:H a=some (.ins C dx fs)) (cl:Cls K C) (ha:PySem.W.findIn K (.ref C) "__class__" = some (some (.builtin "object.__class__")))
      (hn:PySem.W.specialIn K (.builtin "object.__class__") "__get__" = some (some (.builtin "getset_descriptor.__get__"))) (htk:PySem.W.takesIn K (.builtin "object.__class__")=some true)
      (hm:PySem.W.mroIn K C (.type "object")=some true):TyOf K H (.ref a) (.ref C)
end
end L2
namespace L2
open PySem PySem.Spec PyProof.Rows
structure Room (k:Nat) (A:Around):Prop where
  hd:A.handled=none
  dp:A.depth + 3 * k + 5 < recursionLimit
  un:A.units + 16 * k + 200 < cLine
theorem Room.mono {j k:Nat} {A:Around} (r:Room k A) (h:j<=k):Room j A:=⟨r.hd,by have:=r.dp; omega,by have:=r.un; omega⟩
theorem Room.deeper {k:Nat} {A:Around} (r:Room (k + 1) A) (env:Env):Room k (A.deeper env) :=
  ⟨r.hd,by have:=r.dp; show A.depth + 1 + 3 * k + 5 < _; omega,by have:=r.un; show A.units + 3 + 16 * k + 200 < _; omega⟩
theorem Room.in1 {k:Nat} {A:Around} (r:Room (k + 1) A):Room k A.in1 :=
  ⟨r.hd,by have:=r.dp; show A.depth + 3 * k + 5 < _; omega,by have:=r.un; show A.units + 1 + 16 * k + 200 < _; omega⟩
theorem UK {A:Around} {C:Addr} {us:List Value} {kw:List (Str × Value)}:(A.under (.builtin "type.__call__" ⟨.ref C :: us,kw⟩)).depth=A.depth + 1:=by
  first | rfl | simp [Around.under,Code.weight,Code.isCreation,Code.isGuard,Code.isCaller,Code.frames,Code.isFrame,guardIds]
theorem UJ {A:Around} {C:Addr} {us:List Value} {kw:List (Str × Value)}:(A.under (.builtin "type.__call__" ⟨.ref C :: us,kw⟩)).units=A.units + 1:=by
  first | rfl | simp [Around.under,Code.cUnits,Code.frames,Code.isFrame]
theorem Room.make {k:Nat} {A:Around} (r:Room (k + 1) A) (C:Addr) (us:List Value) (kw:List (Str × Value)):Room k (A.under (.builtin "type.__call__" ⟨.ref C :: us,kw⟩)) :=
  ⟨r.hd,by have:=r.dp; rw [UK]; omega,by have:=r.un; rw [UJ]; omega⟩
theorem Room.depth {k:Nat} {A:Around} (r:Room k A):A.depth < recursionLimit:=by have:=r.dp; omega
theorem Room.units {k:Nat} {A:Around} (r:Room k A):A.units + 64 < cLine:=by have:=r.un; omega
theorem Room.units0 {k:Nat} {A:Around} (r:Room k A):A.units < cLine:=by have:=r.un; omega
def tNil:TA:=fun _ H Q=>Q [] H
def jcN (ta:TE) (tr:TA):TA:=fun σ H Q=>ta σ H fun x H1=>tr σ H1 fun xs H2=>Q (x :: xs) H2
section
variable {X:Cx} {e:Expr} {es:List Expr} {te:TE} {t:TA} {pos:Pos}
theorem UE:PA X [] tNil:=fun _ _ _ _ H Q I h=>Calls.spliced_nil ⟨[],H,I,.nil,h⟩
theorem uZ (ha:PE X e te) (hr:PA X es t) (hs:starEach (e :: es) X.env=(false,eval e X.env) :: starEach es X.env:=by rfl):PA X (e :: es) (jcN te t):=by
  intro pos pins s σ H Q I h
  rw [hs]
  show wpAny _ _ (spliced ((false,eval e X.env) :: backTo pos (starEach es X.env))) _ _ s
  refine Calls.spliced_cons (thn (ha pins s σ H _ I h) fun u s1 hQQ=>?_)
  obtain ⟨x,H1,I1,r1,q1⟩:=hQQ
  exact thn (hr pos pins s1 σ H1 _ I1 q1) fun us s2 ⟨xs,H2,I2,r2,q2⟩=>⟨x :: xs,H2,I2,.cons r1 r2,q2⟩
def tTup (t:TA):TE:=fun σ H Q=>t σ H fun xs H1=>xs.length<=sizeLine∧∀ p,H1 p=none->Q (.ref p) (upd H1 p (.tup xs))
def tLst (t:TA):TE:=fun σ H Q=>t σ H fun xs H1=>xs.length<=sizeLine∧∀ p,H1 p=none->Q (.ref p) (upd H1 p (.lst xs))
theorem XR {x1} (h:PA X es t):PE X (.Tuple es x1 pos) (tTup t):=by
  intro pins s σ H Q I hq
  refine wpAny_Tuple_spliced (thn (h pos pins s σ H _ I hq) fun us s1 ⟨xs,H1,I1,r,z,q⟩=>⟨by rw [<- r.length]; exact z,?_⟩)
  have hf:H1 s1.heap.objs.size=none:=I1.hok.fresh (Nat.le_refl _)
  refine ⟨.ref s1.heap.objs.size,upd H1 s1.heap.objs.size (.tup xs),I1.laid (t':=s1.toks) (fun b u e=>Heap.get?_push_of_some _ e) (Nat.le_refl _) ?_,rfl,q _ hf⟩
  exact ⟨z,us,r,⟨_,Heap.get?_push_size _ rfl,rfl,_,rfl⟩⟩
theorem jdK (h:PA X es t):PE X (.List es pos) (tLst t):=by
  intro pins s σ H Q I hq
  refine wpAny_List_spliced (thn (h pos pins s σ H _ I hq) fun us s1 ⟨xs,H1,I1,r,z,q⟩=>⟨by rw [<- r.length]; exact z,?_⟩)
  have hf:H1 s1.heap.objs.size=none:=I1.hok.fresh (Nat.le_refl _)
  refine ⟨.ref s1.heap.objs.size,upd H1 s1.heap.objs.size (.lst xs),I1.laid (t':=s1.toks) (fun b u e=>Heap.get?_push_of_some _ e) (Nat.le_refl _) ?_,rfl,q _ hf⟩
  exact ⟨z,us,0,r,Heap.get?_push_size _ rfl⟩
end
abbrev Sp:=List V->Hp->VK->XK->Prop
abbrev CXT:=List Env->Hp->Shared->XK->Value->Shared->Prop
structure Env0 (P:Program) (w:World) (K:PySem.W.Frag) (mg:Str->Option Value) (base:Heap) (A:Around) (outer:List Env) (s:Shared) (H:Hp):Prop where
  frames:A.frames=some outer
  mod:Mod K mg base
  bs:∀ b o,base.get? b=some o->s.heap.get? b=some o∧H b=none
  bsz:base.objs.size<=s.heap.objs.size
  funs:s.heap.FunFrames base outer
  frf:∀ b ∈ frs outer,H b=none
  hok:HOk P w H s.heap
  bare:AllBare s.gens
def CE (outer:List Env) (P:Program) (w:World) (H:Hp) (s:Shared) (Q:VK) (u:Value) (s':Shared):Prop :=
  ∃ v H',s'.os=s.os∧AllBare s'.gens∧Un (frs outer) [] H H' s.heap s'.heap∧HOk P w H' s'.heap∧jv v u∧Q v H'
def CR (CX:CXT) (outer:List Env) (P:Program) (w:World) (H:Hp) (s:Shared) (Q:VK) (E:XK) (r:Result) (s':Shared):Prop :=
  match r with
  | .ok (.ret u)=>CE outer P w H s Q u s'
  | .ok _=>False
  | .error e=>CX outer H s E e s'
structure FnOk (P:Program) (w:World) (K:PySem.W.Frag) (mg:Str->Option Value) (base:Heap) (CX:CXT) (k:Nat) (f:Addr) (fd:FuncData) (ps:List Str) (sp:Sp):Prop where
  len:∀ vs H Q E,sp vs H Q E->vs.length=ps.length
  run:∀ (A:Around) (outer:List Env) (s:Shared) (H:Hp) (args:Args) (us:List Value) (vs:List V) (Q:VK) (E:XK),Room k A->Env0 P w K mg base A outer s H->BindsTo s fd args (ps.zip us)->jq vs us->sp vs H Q E ->
    codeAny (model P w) A (.call (.ref f) args) (CR CX outer P w H s Q E) s
theorem FnOk.mono {P:Program} {w:World} {K:PySem.W.Frag} {mg:Str->Option Value} {base:Heap} {CX:CXT} {j k:Nat} {f:Addr} {fd:FuncData} {ps:List Str} {sp:Sp} (F:FnOk P w K mg base CX j f fd ps sp) (h:j<=k) :
    FnOk P w K mg base CX k f fd ps sp:=⟨F.len,fun A outer s H args us vs Q E hr=>F.run A outer s H args us vs Q E (hr.mono h)⟩
theorem FnOk.imp {P:Program} {w:World} {K:PySem.W.Frag} {mg:Str->Option Value} {base:Heap} {CX:CXT} {k:Nat} {f:Addr} {fd:FuncData} {ps:List Str} {sp sp':Sp} (F:FnOk P w K mg base CX k f fd ps sp)
    (h:∀ vs H Q E,sp' vs H Q E->sp vs H Q E):FnOk P w K mg base CX k f fd ps sp' :=
  ⟨fun vs H Q E q=>F.len vs H Q E (h _ _ _ _ q),fun A outer s H args us vs Q E hr he hb hv hs=>F.run A outer s H args us vs Q E hr he hb hv (h _ _ _ _ hs)⟩
theorem Env0.make {P:Program} {w:World} {K:PySem.W.Frag} {mg:Str->Option Value} {base:Heap} {A:Around} {outer:List Env} {s:Shared} {H:Hp} (e:Env0 P w K mg base A outer s H) (C:Addr) (us:List Value) (kw:List (Str × Value)) :
    Env0 P w K mg base (A.under (.builtin "type.__call__" ⟨.ref C :: us,kw⟩)) outer s H:=⟨by first | exact e.frames | (simpa [Around.under,Code.envs,Code.isFrame,pushEnvs] using e.frames),e.mod,e.bs,e.bsz,e.funs,e.frf,e.hok,e.bare⟩
theorem Env0.in1 {P:Program} {w:World} {K:PySem.W.Frag} {mg:Str->Option Value} {base:Heap} {A:Around} {outer:List Env} {s:Shared} {H:Hp} (e:Env0 P w K mg base A outer s H) :
    Env0 P w K mg base A.in1 outer s H:=⟨e.frames,e.mod,e.bs,e.bsz,e.funs,e.frf,e.hok,e.bare⟩
section
variable {X:Cx} {pins:List (Addr × Obj)} {σ:St} {H:Hp} {s s':Shared}
theorem Inv.env0 (I:Inv X pins σ H s):Env0 X.prog X.w X.K X.mg X.base X.A X.stack s H :=
  ⟨I.ok.frames,I.ok.mod,I.bs,Nat.le_trans I.ok.bsz I.sz,I.stack,I.stkFree,I.hok,I.bare⟩
theorem Inv.after {Q:VK} {u:Value} (I:Inv X pins σ H s) (h:CE X.stack X.prog X.w H s Q u s'):EP X pins σ Q u s':=by
  obtain ⟨v,H',os,bare,un,hok,r,q⟩:=h
  obtain ⟨hh,g,d,t,os'⟩:=s'
  obtain rfl:os'=s.os:=os
  exact ⟨v,H',I.call (h':=hh) (g':=g) (d':=d) (t':=t) (ch:=[]) un hok bare (fun b z=>absurd z (by simp)),r,q⟩
end
def uN (K:PySem.W.Frag) (fd:FuncData) (ps:List Str) (ds:List Value):Prop :=
  ∀ (s:Shared) (us:List Value),K.In s.heap->(us ++ ds).length=ps.length->BindsTo s fd ⟨us,[]⟩ (ps.zip (us ++ ds))
theorem uN.all {K:PySem.W.Frag} {fd:FuncData} {ps:List Str} (h:∀ us:List Value,us.length=ps.length->bindArgs fd ⟨us,[]⟩=pure (ps.zip us)):uN K fd ps []:=fun s us _ hl=>by
  rw [List.append_nil] at hl ⊢
  exact .of_eq (h us hl)
def Passes (CX:CXT) (X:Cx) (E:XK):Prop:=∀ (pins:List (Addr × Obj)) (σ:St) (H:Hp) (s:Shared) (e:Value) (s':Shared),Inv X pins σ H s->CX X.stack H s E e s'->X.xe e s'
section
variable {X:Cx} {CX:CXT} {k:Nat} {f C:Addr} {fd:FuncData} {ps:List Str} {sp:Sp} {dvs:List V} {ds:List Value} {E:XK} {x m:Str} {p pos apos:Pos} {e o:Expr} {es:List Expr} {ta:TE} {t:TA}
structure Mk (K:PySem.W.Frag) (C f:Addr):Prop where
  makes:PySem.W.makesIn K C=true
  init:PySem.W.findIn K (.ref C) "__init__" = some (some (.ref f))
  fn:PySem.W.isFn K (.ref f)=true
  kp:PySem.W.keepIn K (.ref C)=true
end
def PK (X:Cx) (kws:List Keyword) (t:TA):Prop :=
  ∀ (pos:Pos) (pins:List (Addr × Obj)) (s:Shared) (σ:St) (H:Hp) (Q:List V->Hp->Prop),Inv X pins σ H s->t σ H Q->wpAny (model X.prog X.w) X.A (evalAll ((backToKw pos (keywordEach kws X.env)).map (·.2))) (AP X pins σ Q) X.xe s
section
variable {X:Cx} {CX:CXT} {k:Nat} {f C:Addr} {fd:FuncData} {ps ks:List Str} {sp:Sp} {E:XK} {x m:Str} {p pos apos kpos:Pos} {e o:Expr} {es:List Expr} {kws:List Keyword} {te ta:TE} {t tk:TA} {nm:Option Str}
theorem pk_nil:PK X [] tNil:=fun _ _ _ _ H Q I h=>wpAny_evalAll_nil ⟨[],H,I,.nil,h⟩
theorem jfQ (ha:PE X e te) (hr:PK X kws t):PK X (⟨nm,e,kpos⟩ :: kws) (jcN te t):=by
  intro pos pins s σ H Q I h
  show wpAny _ _ (evalAll ((do let v <- eval e X.env; standAt pos; pure v) :: (backToKw pos (keywordEach kws X.env)).map (·.2))) _ _ s
  refine wpAny_evalAll_cons (wpAny_bind (thn (ha pins s σ H _ I h) fun u s1 ⟨x,H1,I1,r1,q1⟩=>wpAny_bind (wpAny_standAt (wpAny_pure ?_))))
  exact thn (hr pos pins s1 σ H1 _ I1 q1) fun us s2 ⟨xs,H2,I2,r2,q2⟩=>⟨x :: xs,H2,I2,.cons r1 r2,q2⟩
structure KBinds (K:PySem.W.Frag) (fd:FuncData) (ps ks:List Str) (g:List Value->List Value->List Value) (gV:List V->List V->List V):Prop where
  to:∀ (s:Shared) (us ws:List Value),K.In s.heap->(g us ws).length=ps.length->BindsTo s fd ⟨us,ks.zip ws⟩ (ps.zip (g us ws))
  rel:∀ {vs:List V} {us:List Value} {zs:List V} {ws:List Value},jq vs us->jq zs ws->jq (gV vs zs) (g us ws)
variable {g:List Value->List Value->List Value} {gV:List V->List V->List V}
end
structure FnScope (N P:List Str) (sc:Scope):Prop where
  kind:sc.kind = .function
  co:sc.isCoroutine=false
  gen:sc.isGenerator=false
  nd:N.Nodup
  pre:N.take P.length=P
  par:∀ x ∈ P,sc.names.lookup x=some .local∨sc.names.lookup x=some .cell
  nofree:∀ y ∈ sc.names,y.2≠.free
theorem Xp {kindOf:Str->Option NameKind} {x:Str}:∀ {binds:List (Str × Value)} {m:Str->Option Value},(∀ v,(x,v) ∉ binds)->bindL kindOf binds m x=m x
  | [],_,_=>rfl
  | (n,v) :: r,m,h=>by
    unfold bindL
    rw [Xp fun w hw=>h w (List.mem_cons_of_mem _ hw)]
    split
    · have:x≠n:=by rintro rfl; exact h v List.mem_cons_self
      simp [this]
    · rfl
theorem Xr {kindOf:Str->Option NameKind} {x:Str}:∀ {binds:List (Str × Value)} {m:Str->Option Value},(∀ v,(x,v) ∉ binds)->bindC kindOf binds m x=m x
  | [],_,_=>rfl
  | (n,v) :: r,m,h=>by
    unfold bindC
    rw [Xr fun w hw=>h w (List.mem_cons_of_mem _ hw)]
    split
    · rfl
    · have:x≠n:=by rintro rfl; exact h v List.mem_cons_self
      simp [this]
theorem Xq {kindOf:Str->Option NameKind} {x:Str} {v:Value}:∀ {P:List Str} {vs:List Value} {i:Nat} {m:Str->Option Value},P.Nodup->P[i]? = some x->vs[i]? = some v->kindOf x=some .local ->
    bindL kindOf (P.zip vs) m x=some v
  | [],_,_,_,_,h,_,_=>by simp at h
  | _ :: _,[],_,_,_,_,h,_=>by simp at h
  | p :: P,w :: vs,0,m,nd,h1,h2,hk=>by
    simp at h1 h2; subst h1; subst h2
    show bindL kindOf ((p,w) :: P.zip vs) m p=_
    unfold bindL
    rw [Xp fun v hv=>(List.nodup_cons.mp nd).1 (List.of_mem_zip hv).1,if_pos hk]
    simp
  | p :: P,w :: vs,i + 1,m,nd,h1,h2,hk=>by
    show bindL kindOf ((p,w) :: P.zip vs) m x=_
    unfold bindL
    exact Xq (i:=i) (List.nodup_cons.mp nd).2 (by simpa using h1) (by simpa using h2) hk
theorem Xs {kindOf:Str->Option NameKind} {x:Str} {v:Value}:∀ {P:List Str} {vs:List Value} {i:Nat} {m:Str->Option Value},P.Nodup->P[i]? = some x->vs[i]? = some v->kindOf x≠some .local ->
    bindC kindOf (P.zip vs) m x=some v
  | [],_,_,_,_,h,_,_=>by simp at h
  | _ :: _,[],_,_,_,_,h,_=>by simp at h
  | p :: P,w :: vs,0,m,nd,h1,h2,hk=>by
    simp at h1 h2; subst h1; subst h2
    show bindC kindOf ((p,w) :: P.zip vs) m p=_
    unfold bindC
    rw [Xr fun v hv=>(List.nodup_cons.mp nd).1 (List.of_mem_zip hv).1,if_neg hk]
    simp
  | p :: P,w :: vs,i + 1,m,nd,h1,h2,hk=>by
    show bindC kindOf ((p,w) :: P.zip vs) m x=_
    unfold bindC
    exact Xs (i:=i) (List.nodup_cons.mp nd).2 (by simpa using h1) (by simpa using h2) hk
def start (N:List Str) (vs:List V):St:=vs.map some ++ List.replicate (N.length - vs.length) none
def yz (CX:CXT) (P:Program) (w:World) (K:PySem.W.Frag) (mg:Str->Option Value) (base:Heap) (N:List Str) (qual:Str) (scope:Scope) (f:Addr) (cd:Value) (A:Around) (outer:List Env) (s:Shared) (H:Hp) (E:XK):Cx where
  prog:=P
  w:=w
  K:=K
  mg:=mg
  base:=base
  A:=A.deeper (envOfC qual scope s.heap.objs.size f cd)
  N:=N
  s₀:=s
  H₀:=H
  env:=envOfC qual scope s.heap.objs.size f cd
  outer:=outer
  stack:=envOfC qual scope s.heap.objs.size f cd :: outer
  ex:=[]
  calm:=true
  fn:=fun _=>true
  pn:=[]
  xe:=fun e s'=>wpAny (model P w) (A.deeper (envOfC qual scope s.heap.objs.size f cd)) («leaving» (envOfC qual scope s.heap.objs.size f cd) e) (fun _ s''=>CX outer H s E e s'') (fun e' s''=>CX outer H s E e' s'') s'
theorem Ui {sc:Scope} {n:Nat} {x:Str} (h:sc.names.lookup x=some .cell):∃ c,(cellsFrom n sc.names []).lookup x=some c:=by
  have q:=PySem.W.cellsFrom_some sc.names n [] (.inl h)
  exact Option.isSome_iff_exists.mp q
theorem jci {CX:CXT} {P:Program} {w:World} {K:PySem.W.Frag} {mg:Str->Option Value} {base:Heap} {N ps:List Str} {qual:Str} {scope:Scope} {f:Addr} {cd:Value} {A:Around} {outer:List Env} {s s1:Shared} {H:Hp} {E:XK} {us:List Value} {vs:List V}
    (S:FnScope N ps scope) (hd:A.handled=none) (e0:Env0 P w K mg base A outer s H) (hl:vs.length=ps.length) (r:jq vs us)
    (x:InCallC s s.heap.objs.size (bindL (envOfC qual scope s.heap.objs.size f cd).kindOf (ps.zip us) fun _=>none) (cellsFrom (s.heap.objs.size + 1) scope.names []) (bindC (envOfC qual scope s.heap.objs.size f cd).kindOf (ps.zip us) fun _=>none) s1) :
    Inv (yz CX P w K mg base N qual scope f cd A outer s H E) [] (start N vs) H s1:=by
  have hpl:ps.length<=N.length:=by have:=congrArg List.length S.pre; rw [List.length_take] at this; omega
  obtain ⟨h1,tk,rfl,hk⟩:=x.done
  have noA:∀ b:Addr,b ∉ (yz CX P w K mg base N qual scope f cd A outer s H E).ex:=fun b z=>absurd (show b ∈ ([]:List Addr) from z) (by simp)
  refine ⟨⟨e0.mod,S.kind,rfl,rfl,Nat.le_refl _,fun y z c h1 h2=>?_,fun y hy=>?_,fun y c _ h=>?_,fun _=>hd,Around.frames_deeper e0.frames,.inr ⟨rfl,rfl⟩,fun b z=>absurd z (noA b),e0.bs,e0.bsz,fun b _ _=>noA b,fun b z=>absurd z (noA b),e0.funs,e0.frf⟩,
    rfl,e0.bare,Un.kept hk,⟨_,x.toInCall.ns,fun i y v h1 h2 h3=>?_⟩,fun y c h=>⟨_,x.cell y c h⟩,e0.hok.fresh (Nat.le_refl _),fun y c h=>?_,fun p hp=>absurd (show p ∈ ([]:List (Addr × Obj)) from hp) (by simp),e0.hok.kept hk,?_⟩
  · exact name_of_addr x.apart (PySem.mem_of_lookup h1) (PySem.mem_of_lookup h2)
  · have hy:scope.names.lookup y=some .cell∨scope.names.lookup y=some .free:=hy
    rcases hy with hy | hy
    · exact Ui hy
    · exact absurd rfl (S.nofree _ (PySem.mem_of_lookup hy))
  · exact Nat.le_of_lt (x.above y c (PySem.mem_of_lookup h))
  · have hi:i < vs.length:=by
      unfold start at h2
      by_cases hi:i < vs.length
      · exact hi
      · rw [List.getElem?_append_right (by simpa using hi)] at h2
        rw [List.getElem?_replicate] at h2
        split at h2 <;> cases h2
    have ha:vs[i]? = some v:=by
      unfold start at h2
      rw [List.getElem?_append_left (by simpa using hi),List.getElem?_map] at h2
      cases e:vs[i]? with
      | none=>rw [e] at h2; cases h2
      | some a=>rw [e] at h2; cases h2; rfl
    obtain ⟨u,hu,rv⟩:=r.get ha
    have hp:ps[i]? = some y:=by
      rw [<- S.pre,List.getElem?_take_of_lt (by omega)]; exact h1
    have ndP:ps.Nodup:=by rw [<- S.pre]; exact S.nd.sublist (List.take_sublist _ _)
    refine ⟨u,rv,?_⟩
    rcases S.par y (List.mem_of_getElem? hp) with k | k
    · exact .inl ⟨k,Xq ndP hp hu k⟩
    · obtain ⟨c,e⟩:=Ui (n:=s.heap.objs.size + 1) k
      refine .inr ⟨.inl k,c,e,?_⟩
      have q:=x.cell y c e
      rw [Xs ndP hp hu (by show scope.names.lookup y≠_; rw [k]; decide)] at q
      exact q
  · exact e0.hok.fresh (Nat.le_of_lt (x.above y c (PySem.mem_of_lookup h)))
  · unfold start
    show _=N.length
    rw [List.length_append,List.length_map,List.length_replicate]
    omega
theorem jaY {CX:CXT} {P:Program} {w:World} {K:PySem.W.Frag} {mg:Str->Option Value} {base:Heap} {k:Nat} {f:Addr} {name qual:Str} {params:Arguments} {body:List Stmt} {scope:Scope} {dV kV doc pm cdv ct oc:Value} {an od:Option Addr}
    {osl:Array (Option Value)} {N ps:List Str} {sp:Sp} (lk:K.lookup f=some ⟨oc,od,.func (PySem.W.fnOf name qual params body scope dV kV doc pm an cdv ct),osl⟩) (hcd:PySem.W.codeIn K cdv qual=true) (S:FnScope N ps scope)
    (len:∀ vs H Q E,sp vs H Q E->vs.length=ps.length)
    (hbody:∀ (A:Around) (outer:List Env) (s:Shared) (H:Hp) (vs:List V) (Q:VK) (E:XK),Room k (A.deeper (envOfC qual scope s.heap.objs.size f cdv))->sp vs H Q E ->
      ∃ t,PSs (yz CX P w K mg base N qual scope f cdv A outer s H E) body t∧t { nx:=fun _ H'=>Q .non H',rt:=Q } (start N vs) H) :
    FnOk P w K mg base CX (k + 1) f (PySem.W.fnOf name qual params body scope dV kV doc pm an cdv ct) ps sp:=by
  refine ⟨len,fun A outer s H args us vs Q E hr e0 hb r hsp=>?_⟩
  have hl:=len _ _ _ _ hsp
  have KX:K.In s.heap:=e0.mod.kin.keeps fun b o e=>(e0.bs b o e).1
  have lim:s.heap.NoLimit:=e0.mod.nolimit.keeps fun b o e=>(e0.bs b o e).1
  have hkind:∀ y ∈ ps.zip us,scope.names.lookup y.1=some .local∨(scope.names.lookup y.1=some .cell∧((cellsFrom (s.heap.objs.size + 1) scope.names []).lookup y.1).isSome=true):=fun ⟨n,v⟩ hy=>by
    rcases S.par n (List.of_mem_zip hy).1 with q | q
    · exact .inl q
    · exact .inr ⟨q,PySem.W.cellsFrom_some _ _ _ (.inl q)⟩
  refine codeAny_call_function hr.depth (KX _ _ lk) rfl S.co S.gen rfl (PySem.W.codeRec_of KX hcd) (hb _ _ _ _ ?_)
  refine wpAny_newFunctionEnv_cells S.kind hkind fun env he s1 x=>?_
  subst he
  refine ⟨lim.keeps x.toInCall.keep,codeAny_func ?_⟩
  obtain ⟨t,ht,hq⟩:=hbody A outer s H vs Q E (hr.deeper _) hsp
  have I:Inv (yz CX P w K mg base N qual scope f cdv A outer s H E) [] (start N vs) H s1:=jci S hr.hd e0 hl r x
  refine wpAny_mono (ht [] s1 (start N vs) H _ I hq) (fun fl s' hs=>?_) fun e s' hs=>hs
  have fin:∀ {σ':St} {H':Hp} {v:V} {u:Value},Inv (yz CX P w K mg base N qual scope f cdv A outer s H E) [] σ' H' s'->jv v u->Q v H'->CE outer P w H s Q u s' :=
    fun {σ' H' v u} J rv q=>⟨v,H',J.os,J.bare,J.base,J.hok,rv,q⟩
  cases fl with
  | ret u =>
    obtain ⟨v,σ',H',J,rv,q⟩:=hs
    exact fin J rv q
  | next =>
    obtain ⟨σ',H',J,q⟩:=hs
    exact fin (v:=V.non) (u:=Value.none) J rfl q
  | brk =>
    obtain ⟨_,_,_,q⟩:=hs
    exact False.elim q
  | cont =>
    obtain ⟨_,_,_,q⟩:=hs
    exact False.elim q
end L2
namespace L2
open PySem PySem.Spec PyProof.Rows
section
variable {X:Cx} {x:Str} {p pos:Pos} {e:Expr} {es:List Expr} {t:TA} {id T:String} {r:List V->Hp->VK->Prop}
def tCB (r:List V->Hp->VK->Prop) (t:TA):TE:=fun σ H Q=>t σ H fun vs H1=>r vs H1 Q
theorem VC (hc:yf X (.builtin id) r) (hg:Gl X x) (hm:X.mg x=none) (hv:bootBuiltins x=some (.builtin id)) (ha:PA X (e :: es) t) (hn:x≠"__name__":=by decide) (hdb:(x == ("__debug__":Str))=false:=by decide)
    (he:starEach (e :: es) X.env=(false,eval e X.env) :: starEach es X.env:=by rfl) (hpl:(backTo pos (starEach es X.env)).any (·.1)=false:=by rfl):PE X (.Call (.Name x p) (e :: es) [] pos) (tCB r t):=by
  intro pins s σ H Q I h
  refine wpAny_Call_Name_kw (uo I hg hm hv ?_ hn hdb)
  exact PyProof.Rows.callWith_builtin1 (thn (ha pos pins s σ H _ I h) fun us s1 ⟨vs,H1,I1,r1,q1⟩=>hc pins s1 σ H1 vs us Q I1 r1 q1) he hpl
theorem jbZ (hc:yf X (.type T) r) (hg:Gl X x) (hm:X.mg x=none) (hv:bootBuiltins x=some (.type T)) (ha:PA X (e :: es) t) (hn:x≠"__name__":=by decide) (hdb:(x == ("__debug__":Str))=false:=by decide)
    (he:starEach (e :: es) X.env=(false,eval e X.env) :: starEach es X.env:=by rfl) (hpl:(backTo pos (starEach es X.env)).any (·.1)=false:=by rfl):PE X (.Call (.Name x p) (e :: es) [] pos) (tCB r t):=by
  intro pins s σ H Q I h
  refine wpAny_Call_Name_kw (uo I hg hm hv ?_ hn hdb)
  exact PyProof.Rows.callWith_type1 (thn (ha pos pins s σ H _ I h) fun us s1 ⟨vs,H1,I1,r1,q1⟩=>hc pins s1 σ H1 vs us Q I1 r1 q1) he hpl
end
end L2
namespace HT
open PySem PyProof.Rows
section
open PySem.SeqAt
open PySem.AutoSeq1 (wpAny_loadPart')
open PySem.MeetsSeq PySem.MeetsSeq2 PySem.MeetsSeq3
end
section
variable {prog:Program} {w:World} {A:Around} {E:Value->Shared->Prop} {s:Shared}
theorem cat_tup {t b:Addr} {vs ws:List Value} {Q:Value->Shared->Prop} (ht:IsTup s.heap t vs.toArray) (hb:IsTup s.heap b ws.toArray) (hv:vs≠[])
    (h1:ws=[]->Q (.ref t) s) (h2:ws≠[]->Q (.ref s.heap.objs.size) { s with heap:=s.heap.push { cls:=.type "tuple",data:=.seq (vs ++ ws).toArray } })
    (hsz:vs.length + ws.length<=sizeLine):wpAny (model prog w) A (binaryOp .Add (.ref t) (.ref b)) Q E s:=by
  obtain ⟨⟨cls,dd,data,sl⟩,ho,hc,n,hd⟩:=id ht
  obtain ⟨⟨cls2,dd2,data2,sl2⟩,ho2,hc2,n2,hd2⟩:=id hb
  simp only at hc hd hc2 hd2
  subst hc hd hc2 hd2
  have e:vs.toArray ++ ws.toArray=(vs ++ ws).toArray:=by simp
  by_cases hw:ws=[]
  · exact concat_meets ⟨_,ho,rfl⟩ ⟨_,ho2,rfl⟩ noFill_tuple_add seq_tuple_add PySem.F.slot_tuple_add PySem.F.entry_tuple_add (PySem.F.args_tuple_add_2 _ _)
      (tuple_addW1 t b vs.toArray ws.toArray n n2 dd dd2 sl sl2 (by simpa using hv) (by simp [hw])) ⟨ho,ho2,h1 hw⟩
  · refine concat_meets ⟨_,ho,rfl⟩ ⟨_,ho2,rfl⟩ noFill_tuple_add seq_tuple_add PySem.F.slot_tuple_add PySem.F.entry_tuple_add (PySem.F.args_tuple_add_2 _ _)
      (tuple_addW2 t b vs.toArray ws.toArray n n2 dd dd2 sl sl2 (by simpa using hv) (by simpa using hw) (by rw [List.size_toArray,List.size_toArray]; exact hsz)) ⟨ho,ho2,?_⟩
    rw [e]
    exact h2 hw
def sIx (n d:Nat):Option Int->Nat
  | none=>d
  | some v=>if v < 0 then (v + (n:Int)).toNat else min v.toNat n
theorem sIx_le (n d:Nat) (hd:d<=n) (o:Option Int):sIx n d o<=n:=by
  cases o with
  | none=>exact hd
  | some v =>
    show (if v < 0 then (v + (n:Int)).toNat else min v.toNat n)<=n
    by_cases hv:v < 0
    · rw [if_pos hv]; omega
    · rw [if_neg hv]; exact Nat.min_le_right _ _
theorem jbg (v:Int) (n d:Nat):(if v < 0 then max (v + (n:Int)) 0 else min v (n:Int))=((sIx n d (some v):Nat):Int):=by
  show (if v < 0 then max (v + (n:Int)) 0 else min v (n:Int))=(((if v < 0 then (v + (n:Int)).toNat else min v.toNat n):Nat):Int)
  by_cases hv:v < 0
  · simp only [if_pos hv]; omega
  · simp only [if_neg hv]; omega
theorem jaq (lo hi:Option Int) (n:Nat):Builtin.Slice.sliceAdjust lo hi 1 (n:Int)=(((sIx n 0 lo:Nat):Int),((sIx n n hi:Nat):Int)):=by
  have h1:¬ ((1:Int) < 0):=by omega
  unfold Builtin.Slice.sliceAdjust
  simp only [h1,if_false]
  refine Prod.ext ?_ ?_
  · cases lo with
    | none=>rfl
    | some v=>exact jbg v n 0
  · cases hi with
    | none=>rfl
    | some v=>exact jbg v n n
theorem UA (i j:Nat):Builtin.Slice.slicePlaces (i:Int) (j:Int) 1=j - i:=by
  unfold Builtin.Slice.slicePlaces
  have h1:(1:Int) > 0:=by omega
  simp only [h1,if_true,Int.ediv_one]
  split <;> omega
theorem Jj {v:Value} {o:Option Int} {Q:Option Int->Shared->Prop} (p:IsPart v o) (h:Q o s):wpAny (model prog w) A (Builtin.Slice.slicePartIndex v) Q E s:=by
  cases p with
  | none=>exact slicePart_none h
  | int i t=>exact slicePart_int h
theorem xj {sl:Addr} {vl vu:Value} {lo hi:Option Int} {n:Nat} {Q:Int × Int × Nat->Shared->Prop} (hs:s.heap.IsSliceOf sl vl vu .none) (pl:IsPart vl lo) (pu:IsPart vu hi)
    (h:Q (((sIx n 0 lo:Nat):Int),1,sIx n n hi - sIx n 0 lo) s):wpAny (model prog w) A (Builtin.Slice.sliceApplied (.ref sl) (pure (n:Int))) Q E s:=by
  obtain ⟨os,hos,hcs,hds⟩:=id hs
  unfold Builtin.Slice.sliceApplied Builtin.Slice.sliceFields
  refine wpAny_bind (wpAny_bind (wpAny_field hos hds (x:=vl) rfl (wpAny_bind (wpAny_field hos hds (x:=vu) rfl (wpAny_bind (wpAny_field hos hds (x:=.none) rfl (wpAny_pure ?_)))))))
  refine wpAny_bind (slicePart_none ?_)
  show wpAny _ _ (if ((1:Int) == 0)=true then _ else _) _ _ s
  rw [if_neg (by decide)]
  refine wpAny_bind (Jj pl (wpAny_bind (Jj pu (wpAny_bind (wpAny_pure ?_)))))
  show wpAny _ _ (match Builtin.Slice.sliceAdjust lo hi 1 (n:Int) with | (lo,hi)=>pure (lo,(1:Int),Builtin.Slice.slicePlaces lo hi 1)) _ _ s
  rw [jaq lo hi n]
  show wpAny _ _ (pure (((sIx n 0 lo:Nat):Int),(1:Int),Builtin.Slice.slicePlaces ((sIx n 0 lo:Nat):Int) ((sIx n n hi:Nat):Int) 1)) _ _ s
  rw [UA]
  exact wpAny_pure h
theorem jdD (xs:Array Value) (i k:Nat):((List.range k).filterMap fun (m:Nat)=>xs[((i:Int) + (m:Int) * 1).toNat]?).toArray=((xs.toList.drop i).take k).toArray:=by
  have e:(fun (m:Nat)=>xs[((i:Int) + (m:Int) * 1).toNat]?)=fun m=>xs[i + m]?:=by
    funext m
    have:((i:Int) + (m:Int) * 1).toNat=i + m:=by omega
    rw [this]
  rw [e]
  have:=pick_run xs i k
  rw [List.filterMap_map] at this
  have e2:((fun x=>xs[x]?) ∘ fun x=>i + x)=fun m=>xs[i + m]?:=rfl
  rw [e2] at this
  rw [this]
theorem getItem_tuple_cut {t sl:Addr} {items:Array Value} {vl vu:Value} {lo hi:Option Int} {Q:Value->Shared->Prop} (ht:IsTup s.heap t items) (hs:s.heap.IsSliceOf sl vl vu .none) (pl:IsPart vl lo) (pu:IsPart vu hi)
    (hw:¬ (sIx items.size 0 lo=0∧sIx items.size items.size hi=items.size))
    (h:Q (.ref s.heap.objs.size) { s with heap:=s.heap.push { cls:=.type "tuple",data:=.seq ((items.toList.drop (sIx items.size 0 lo)).take (sIx items.size items.size hi - sIx items.size 0 lo)).toArray } })
    (hsz:items.size<=sizeLine):wpAny (model prog w) A (getItem (.ref t) (.ref sl)) Q E s:=by
  have htake:sizeOk (.seq ((items.toList.drop (sIx items.size 0 lo)).take (sIx items.size items.size hi - sIx items.size 0 lo)).toArray):=by
    show ((items.toList.drop (sIx items.size 0 lo)).take (sIx items.size items.size hi - sIx items.size 0 lo)).toArray.size<=sizeLine
    rw [List.size_toArray,List.length_take,List.length_drop,Array.length_toList]
    omega
  have hj:sIx items.size items.size hi<=items.size:=sIx_le _ _ (Nat.le_refl _) hi
  obtain ⟨os,hos,hcs,hds⟩:=id hs
  have hTs:s.TypeIs (.ref sl) "slice":=⟨os,hos,hcs⟩
  unfold getItem
  try with_reducible refine wpAny_holding ?_
  first | refine wpAny_bind (wpAny_pure ?_) | skip
  refine wpAny_bind (wpAny_sequenceKey ht.typeIs (by decide) ?_)
  refine wpAny_bind (wpAny_callSpecial?_slot (name:=Str.ofString "__getitem__") ht.typeIs PyProof.Rows.slot_tuple_getitem
    (wpAny_call_entry PyProof.Rows.slot_tuple_getitem ht.typeIs entry_tuple_getitem ?_ (args_tuple_getitem _ _)))
  show wpAny _ _ (Builtin.Tuple.tupleItemsOf (.ref t) >>= _) _ _ s
  refine wpAny_bind (tupleItemsOf_ ht ?_)
  refine wpAny_bind (wpAny_typeOf hTs ?_)
  rw [if_pos (by decide)]
  refine wpAny_bind (xj hs pl pu ?_)
  have hno:¬ ((((sIx items.size 0 lo:Nat):Int) == 0 && (1:Int) == 1 && (sIx items.size items.size hi - sIx items.size 0 lo) == items.size)=true):=by
    intro q
    rw [Bool.and_eq_true,Bool.and_eq_true] at q
    have q1:((sIx items.size 0 lo:Nat):Int)=0:=eq_of_beq q.1.1
    have q2:sIx items.size items.size hi - sIx items.size 0 lo=items.size:=eq_of_beq q.2
    exact hw ⟨by omega,by omega⟩
  show wpAny _ _ (if (((sIx items.size 0 lo:Nat):Int) == 0 && (1:Int) == 1 && (sIx items.size items.size hi - sIx items.size 0 lo) == items.size)=true then _ else _) _ _ s
  rw [if_neg hno,jdD]
  first
    | exact wpAny_bind (m:=Builtin.Tuple.tupleExact _) (wpAny_newObj_type (wpAny_pure ⟨_,rfl,wpAny_pure h⟩) htake)
    | exact wpAny_bind (m:=Builtin.Tuple.tupleExact _) (wpAny_newObj_type (wpAny_bind (wpAny_pure (wpAny_pure ⟨_,rfl,wpAny_pure h⟩))) htake)
    | exact wpAny_bind (wpAny_bind (m:=Builtin.Tuple.tupleExact _) (wpAny_newObj_type (wpAny_pure (wpAny_pure ⟨_,rfl,wpAny_pure h⟩)) htake))
    | exact wpAny_bind (wpAny_bind (m:=Builtin.Tuple.tupleExact _) (wpAny_newObj_type (wpAny_pure ⟨_,rfl,wpAny_pure h⟩) htake))
end
end HT
namespace L2
open PySem PySem.Spec PyProof.Rows
abbrev TO:=St->Hp->(Option Int->Hp->Prop)->Prop
def PO (X:Cx) (e:Option Expr) (t:TO):Prop :=
  ∀ (pins:List (Addr × Obj)) (s:Shared) (σ:St) (H:Hp) (Q:Option Int->Hp->Prop),Inv X pins σ H s->t σ H Q ->
    wpAny (model X.prog X.w) X.A (evalPart e X.env) (fun u s'=>∃ o H',Inv X pins σ H' s'∧IsPart u o∧Q o H') X.xe s
def jfs:TO:=fun _ H Q=>Q none H
def tPart (t:TE):TO:=fun σ H Q=>t σ H fun x H1=>∃ i,x = .int i∧Q (some i) H1
section
variable {X:Cx} {e:Expr} {te:TE} {lo hi:Option Expr} {tl th:TO} {pos p2:Pos}
theorem jfO:PO X none jfs:=by
  intro pins s σ H Q I h
  rw [evalPart_none]
  exact wpAny_pure ⟨none,H,I,.none,h⟩
theorem jfN (h:PE X e te):PO X (some e) (tPart te):=by
  intro pins s σ H Q I hw
  rw [evalPart_some]
  refine thn (h pins s σ H _ I hw) fun u s1 hQQ=>?_
  obtain ⟨x,H1,I1,r1,q1⟩:=hQQ
  obtain ⟨i,rfl,q⟩:=q1
  obtain ⟨t,rfl⟩:=r1
  exact ⟨some i,H1,I1,.int i t,q⟩
def SlR (X:Cx) (r:V->Option Int->Option Int->Hp->VK->Prop):Prop :=
  ∀ (pins:List (Addr × Obj)) (s:Shared) (σ:St) (H:Hp) (x:V) (v vl vu:Value) (lo hi:Option Int) (sl:Addr) (Q:VK),Inv X pins σ H s->jv x v->s.heap.IsSliceOf sl vl vu .none->IsPart vl lo->IsPart vu hi->r x lo hi H Q ->
    ∃ T id,typeLookup (.type T) "__getitem__" = pure (some (.builtin id))∧s.TypeIs v T∧wpAny (model X.prog X.w) X.A (getItem v (.ref sl)) (EP X pins σ Q) X.xe s
theorem SlR.or {r r':V->Option Int->Option Int->Hp->VK->Prop} (h:SlR X r) (h':SlR X r'):SlR X (fun x lo hi H Q=>r x lo hi H Q∨r' x lo hi H Q):=by
  intro pins s σ H x v vl vu lo hi sl Q I rx hs pl pu q
  rcases q with q | q
  · exact h pins s σ H x v vl vu lo hi sl Q I rx hs pl pu q
  · exact h' pins s σ H x v vl vu lo hi sl Q I rx hs pl pu q
def tSl (r:V->Option Int->Option Int->Hp->VK->Prop) (te:TE) (tl th:TO):TE:=fun σ H Q=>te σ H fun x H1=>tl σ H1 fun l H2=>th σ H2 fun u H3=>r x l u H3 Q
theorem jdJ {r:V->Option Int->Option Int->Hp->VK->Prop} (hr:SlR X r) (he:PE X e te) (hl:PO X lo tl) (hu:PO X hi th):PE X (.Subscript e (.Slice lo hi none p2) pos) (tSl r te tl th):=by
  intro pins s σ H Q I h
  refine Subscript_ (thn (he pins s σ H _ I h) fun v s1 hQQ=>?_)
  obtain ⟨x,H1,I1,r1,q1⟩:=hQQ
  refine wpAny_Slice (thn (hl pins s1 σ H1 _ I1 q1) fun vl s2 ⟨l,H2,I2,pl,q2⟩=>thn (hu pins s2 σ H2 _ I2 q2) fun vu s3 hQQ=>?_)
  obtain ⟨u,H3,I3,pu,q3⟩:=hQQ
  rw [evalPart_none]
  refine wpAny_pure ?_
  have I4:Inv X pins σ H3 { s3 with heap:=s3.heap.push { cls:=.type "slice",data:=.fields #[vl,vu,.none] } }:=I3.kept (t':=s3.toks) fun b ob q=>Heap.get?_push_of_some _ q
  obtain ⟨T,id,hT,ht,hg⟩:=hr pins { s3 with heap:=s3.heap.push { cls:=.type "slice",data:=.fields #[vl,vu,.none] } } σ H3 x v vl vu l u s3.heap.objs.size Q I4 r1 (Heap.IsSliceOf.new ..) pl pu q3
  show wpAny (model X.prog X.w) X.A (subscriptTail e (.Slice lo hi none p2) v (.ref s3.heap.objs.size)) (EP X pins σ Q) X.xe { s3 with heap:=s3.heap.push { cls:=.type "slice",data:=.fields #[vl,vu,.none] } }
  exact tail_any (ops:=[.ref s3.heap.objs.size,v]) ht hT hg (by with_unfolding_all rfl)
def Ud (xs:List V) (lo hi:Option Int):List V:=(xs.drop (HT.sIx xs.length 0 lo)).take (HT.sIx xs.length xs.length hi - HT.sIx xs.length 0 lo)
theorem uJ (xs:List V) (lo hi:Option Int):(Ud xs lo hi).length<=xs.length:=by
  unfold Ud
  rw [List.length_take,List.length_drop]
  omega
def rSlT (K:PySem.W.Frag):V->Option Int->Option Int->Hp->VK->Prop:=fun x lo hi H Q=>∃ a xs,x = .ref a∧SqT K H a xs ∧
  ¬ (HT.sIx xs.length 0 lo=0∧HT.sIx xs.length xs.length hi=xs.length)∧∀ p,H p=none->Q (.ref p) (upd H p (.tup (Ud xs lo hi)))
theorem jhG:SlR X (rSlT X.K):=by
  intro pins s σ H x v vl vu lo hi sl Q I rx hs pl pu h
  obtain ⟨a,xs,rfl,hx,hw,q⟩:=h
  cases rx
  obtain ⟨its,r,ht,hz⟩:=I.tuple hx
  have hlen:its.toArray.size=xs.length:=by rw [List.size_toArray]; exact r.length.symm
  refine ⟨"tuple",_,PyProof.Rows.slot_tuple_getitem.lookup,ht.typeIs,?_⟩
  refine HT.getItem_tuple_cut ht hs pl pu (by rw [hlen]; exact hw) ?_ (by rw [hlen]; exact hz)
  rw [hlen]
  refine ⟨.ref s.heap.objs.size,_,I.laid (t':=s.toks) (o:=.tup (Ud xs lo hi)) (fun b ob q=>Heap.get?_push_of_some _ q) (Nat.le_refl _) ?_,rfl,q _ (I.hok.fresh (Nat.le_refl _))⟩
  exact ⟨Nat.le_trans (uJ xs lo hi) hz,_,(r.drop (HT.sIx xs.length 0 lo)).take (HT.sIx xs.length xs.length hi - HT.sIx xs.length 0 lo),IsTup.new _ _⟩
def rCatT (K:PySem.W.Frag):R2:=fun x y H Q=>∃ a b xs ys,x = .ref a∧y = .ref b∧SqT K H a xs∧SqT K H b ys∧xs≠[]∧xs.length + ys.length<=sizeLine ∧
  (ys=[]->Q (.ref a) H)∧(ys≠[]->∀ p,H p=none->Q (.ref p) (upd H p (.tup (xs ++ ys))))
theorem jq.nil_iff {xs:List V} {us:List Value} (r:jq xs us):us=[]↔xs=[]:=by
  cases r with
  | nil=>simp
  | cons _ _=>simp
theorem jge:OpR X (binaryOp .Add) (rCatT X.K):=by
  intro pins s σ H x y v u Q I rx ry h
  obtain ⟨a,b,xs,ys,rfl,rfl,ha,hb,hx,hz,q1,q2⟩:=h
  cases rx
  cases ry
  obtain ⟨its,r1,p1,_⟩:=I.tuple ha
  obtain ⟨its2,r2,p2,_⟩:=I.tuple hb
  refine HT.cat_tup p1 p2 (fun z=>hx (r1.nil_iff.mp z)) (fun z=>⟨.ref a,H,I,rfl,q1 (r2.nil_iff.mp z)⟩) (fun z=>?_) (by rw [<- r1.length,<- r2.length]; exact hz)
  refine ⟨.ref s.heap.objs.size,_,I.laid (t':=s.toks) (o:=.tup (xs ++ ys)) (fun b ob q=>Heap.get?_push_of_some _ q) (Nat.le_refl _) ?_,rfl,q2 (fun w=>z (r2.nil_iff.mpr w)) _ (I.hok.fresh (Nat.le_refl _))⟩
  exact ⟨by rw [List.length_append]; exact hz,_,r1.append r2,IsTup.new _ _⟩
end
end L2
namespace L2
open PySem PySem.Spec PyProof.Rows
def ixN (n:Nat) (i:Int):Option Nat:=if 0<=i then (if i < n then some i.toNat else none) else if -(n:Int)<=i then some (i + n).toNat else none
def atI {α:Type} (xs:List α) (i:Int):Option α:=(ixN xs.length i).bind fun j=>xs[j]?
theorem jaV {n:Nat} {i:Int} {j:Nat} (h:ixN n i=some j):seqIndex? i n=some j∧j < n∧-(n:Int)<=i∧i < n:=by
  unfold ixN at h
  by_cases h0:0<=i
  · rw [if_pos h0] at h
    by_cases h1:i < n
    · rw [if_pos h1] at h
      have e:i.toNat=j:=Option.some.inj h
      exact ⟨by rw [seqIndex_of h0 h1,e],by omega,by omega,h1⟩
    · rw [if_neg h1] at h; cases h
  · rw [if_neg h0] at h
    by_cases h1:-(n:Int)<=i
    · rw [if_pos h1] at h
      have e:(i + n).toNat=j:=Option.some.inj h
      exact ⟨by rw [seqIndex_neg (by omega) h1,e],by omega,h1,by omega⟩
    · rw [if_neg h1] at h; cases h
theorem jbl {α:Type} {xs:List α} {i:Int} {v:α} (h:atI xs i=some v):∃ j,seqIndex? i xs.length=some j∧xs[j]? = some v∧j < xs.length∧-(xs.length:Int)<=i∧i < xs.length:=by
  unfold atI at h
  cases e:ixN xs.length i with
  | none=>rw [e] at h; cases h
  | some j =>
    rw [e] at h
    obtain ⟨h1,h2,h3,h4⟩:=jaV e
    exact ⟨j,h1,h,h2,h3,h4⟩
def jbn (b:Expr):Prop:=∀ o i,subscripted b false o i=operate [o,i] (getItem o i)
def IxR (X:Cx) (r:R2):Prop :=
  ∀ (value slice:Expr) (pins:List (Addr × Obj)) (s:Shared) (σ:St) (H:Hp) (x y:V) (v u:Value) (Q:VK),Inv X pins σ H s->jv x v->jv y u->r x y H Q ->
    subscripted slice false v u=operate [v,u] (getItem v u)->wpAny (model X.prog X.w) X.A (subscriptTail value slice v u) (EP X pins σ Q) X.xe s
def MtR (X:Cx) (id:String) (r:V->List V->Hp->VK->Prop):Prop :=
  ∀ (pins:List (Addr × Obj)) (s:Shared) (σ:St) (H:Hp) (x:V) (xs:List V) (v:Value) (us:List Value) (Q:VK),Inv X pins σ H s->jv x v->jq xs us->r x xs H Q ->
    wpAny (model X.prog X.w) X.A (call (.builtin id) (v :: us)) (EP X pins σ Q) X.xe s
section
variable {X:Cx} {a b:Expr} {ta tb:TE} {pos:Pos}
theorem IxR.or {r r':R2} (h:IxR X r) (h':IxR X r'):IxR X (fun x y H Q=>r x y H Q∨r' x y H Q):=by
  intro value slice pins s σ H x y v u Q I rx ry q hs
  rcases q with q | q
  · exact h value slice pins s σ H x y v u Q I rx ry q hs
  · exact h' value slice pins s σ H x y v u Q I rx ry q hs
theorem MtR.or {id:String} {r r':V->List V->Hp->VK->Prop} (h:MtR X id r) (h':MtR X id r'):MtR X id (fun x xs H Q=>r x xs H Q∨r' x xs H Q):=by
  intro pins s σ H x xs v us Q I rx rs q
  rcases q with q | q
  · exact h pins s σ H x xs v us Q I rx rs q
  · exact h' pins s σ H x xs v us Q I rx rs q
theorem pe_ix {r:R2} (hr:IxR X r) (ha:PE X a ta) (hb:PE X b tb) (hs:jbn b):PE X (.Subscript a b pos) (tOp r ta tb):=by
  intro pins s σ H Q I h
  exact Subscript_ (binT ha hb I h fun v u s2 x y H2 I2 rx ry q=>hr a b pins s2 σ H2 x y v u Q I2 rx ry q (hs _ _))
def rIxL (K:PySem.W.Frag):R2:=fun x y H Q=>∃ p xs i v,x = .ref p∧y = .int i∧SqL K H p xs∧atI xs i=some v∧Q v H
def rIxT (K:PySem.W.Frag):R2:=fun x y H Q=>∃ p xs i v,x = .ref p∧y = .int i∧SqT K H p xs∧atI xs i=some v∧Q v H
theorem jgo:IxR X (rIxL X.K):=by
  intro value slice pins s σ H x y v u Q I rx ry h hs
  obtain ⟨p,xs,i,z,rfl,rfl,hq,he,q⟩:=h
  cases rx
  obtain ⟨t,rfl⟩:=ry
  obtain ⟨its,r,pl,hz⟩:=I.list hq
  obtain ⟨j,h1,h2,h3,h4,h5⟩:=jbl he
  obtain ⟨w,ew,rw'⟩:=r.get h2
  have hl:=r.length
  have hn:=JE
  have fin:EP X pins σ Q w s:=⟨z,H,I,rw',q⟩
  by_cases h0:0<=i
  · have hj:i.toNat=j:=by
      rw [seqIndex_of h0 h5] at h1
      exact Option.some.inj h1
    exact item_listR pl.isList h0 (by omega) (by rw [hj]; simpa using ew) fin hs
  · have hj:(i + (its.toArray.size:Int)).toNat=j:=by
      rw [seqIndex_neg (by omega) h4] at h1
      rw [List.size_toArray,<- hl]
      exact Option.some.inj h1
    exact subscriptTail_builtinR (x:=w) pl.isList.typeIs slot_list_getitem.lookup
      (wpAny_getItem_list_neg (Q:=fun r s'=>r=w∧EP X pins σ Q r s') pl.isList (by omega) (by rw [List.size_toArray] <;> omega) (by omega) (by rw [hj]; simpa using ew) ⟨rfl,fin⟩) hs
theorem ix_tup:IxR X (rIxT X.K):=by
  intro value slice pins s σ H x y v u Q I rx ry h hs
  obtain ⟨p,xs,i,z,rfl,rfl,hq,he,q⟩:=h
  cases rx
  obtain ⟨t,rfl⟩:=ry
  obtain ⟨its,r,pl,hz⟩:=I.tuple hq
  obtain ⟨j,h1,h2,h3,h4,h5⟩:=jbl he
  obtain ⟨w,ew,rw'⟩:=r.get h2
  have hl:=r.length
  have hn:=JE
  have fin:EP X pins σ Q w s:=⟨z,H,I,rw',q⟩
  exact subscriptTail_builtinR (x:=w) pl.typeIs slot_tuple_getitem.lookup
    (getItem_tuple (j:=j) (Q:=fun r s'=>r=w∧EP X pins σ Q r s') pl (by omega) (by omega) (by rw [List.size_toArray,<- hl]; exact h1) (by simpa using ew) ⟨rfl,fin⟩) hs
theorem UI (its:List Value) (n j:Nat) (u:Value):Obj.mapSeq (·.setIfInBounds j u) { cls:=.type "list",data:=.seq its.toArray n }={ cls:=.type "list",data:=.seq (its.set j u).toArray n }:=by
  simp [Obj.mapSeq]
theorem Inv.lst {pins:List (Addr × Obj)} {σ:St} {H:Hp} {s:Shared} {p:Addr} {xs:List V} (I:Inv X pins σ H s) (h:H p=some (.lst xs)) :
    ∃ (its:List Value) (n:Nat),jq xs its∧s.heap.get? p=some { cls:=.type "list",data:=.seq its.toArray n }∧xs.length<=sizeLine:=by
  obtain ⟨z,its,n,r,e⟩:=I.hok p _ h
  exact ⟨its,n,r,e,z⟩
theorem Inv.lstUpd {pins:List (Addr × Obj)} {σ:St} {H:Hp} {s:Shared} {p:Addr} {xs ys:List V} {its its':List Value} {n n':Nat} {f:Obj->Obj} (I:Inv X pins σ H s) (h:H p=some (.lst xs))
    (ho:s.heap.get? p=some { cls:=.type "list",data:=.seq its.toArray n }) (hf:f { cls:=.type "list",data:=.seq its.toArray n }={ cls:=.type "list",data:=.seq its'.toArray n' }) (r:jq ys its') (hz:ys.length<=sizeLine) (t:Nat) :
    Inv X pins σ (upd H p (.lst ys)) { s with heap:=s.heap.update p f,toks:=t }:=by
  have e:(s.heap.update p f).get? p=some { cls:=.type "list",data:=.seq its'.toArray n' }:=by
    rw [Heap.get?_update_self f ho (by rw [hf] <;> rfl),hf]
  refine I.write (x:=p) (e:=p) (by rw [h]; trivial) (.inl rfl) (fun b u hb q=>(Heap.get?_update_other _ _ (Ne.symm hb)).trans q) ⟨_,e⟩ ?_
  exact ⟨hz,its',n',r,e⟩
def rSetL:V->V->V->Hp->(Hp->Prop)->Prop:=fun o i v H Q=>∃ p xs k j,o = .ref p∧i = .int k∧H p=some (.lst xs)∧ixN xs.length k=some j∧Q (upd H p (.lst (xs.set j v)))
theorem jcX:PSet X rSetL:=by
  intro pins s σ H o i v ov iv u Q I ro ri rv h
  obtain ⟨p,xs,k,j,rfl,rfl,hp,hj,q⟩:=h
  cases ro
  obtain ⟨t,rfl⟩:=ri
  obtain ⟨its,n,r,ho,hz⟩:=I.lst hp
  obtain ⟨h1,h2,h3,h4⟩:=jaV hj
  have hl:=r.length
  have hn:=JE
  have I':Inv X pins σ (upd H p (.lst (xs.set j v))) { s with heap:=s.heap.update p (Obj.mapSeq (·.setIfInBounds j u)) } :=
    I.lstUpd hp ho (UI its n j u) (r.set rv j) (by rw [List.length_set]; exact hz) s.toks
  by_cases h0:0<=k
  · have hk:k.toNat=j:=by
      rw [seqIndex_of h0 h4] at h1
      exact Option.some.inj h1
    exact PySem.W.ki_setAt ho h0 (by omega) (by rw [List.size_toArray,<- hl]; exact h4) (by rw [hk]; exact ⟨_,I',q⟩)
  · have hk:(k + (its.toArray.size:Int)).toNat=j:=by
      rw [seqIndex_neg (by omega) h3] at h1
      rw [List.size_toArray,<- hl]
      exact Option.some.inj h1
    exact PySem.W.ki_setBack ho (by omega) (by rw [List.size_toArray,<- hl]; exact h3) (by omega) (by rw [hk]; exact ⟨_,I',q⟩)
theorem XI (lo hi:Option Int) (n:Nat):(sliceBounds lo hi none n).1=((HT.sIx n 0 lo:Nat):Int)∧(sliceBounds lo hi none n).2.1=((HT.sIx n n hi:Nat):Int)∧(sliceBounds lo hi none n).2.2=1:=by
  refine ⟨?_,?_,rfl⟩
  · cases lo with
    | none=>simp [sliceBounds,HT.sIx]
    | some i =>
      simp only [sliceBounds,HT.sIx,Option.getD_none,show (1:Int) > 0 by decide,if_true]
      by_cases h:i < 0
      · simp only [h,if_true] <;> omega
      · simp only [h,if_false] <;> omega
  · cases hi with
    | none=>simp [sliceBounds,HT.sIx]
    | some i =>
      simp only [sliceBounds,HT.sIx,Option.getD_none,show (1:Int) > 0 by decide,if_true]
      by_cases h:i < 0
      · simp only [h,if_true] <;> omega
      · simp only [h,if_false] <;> omega
theorem Yl (its:List Value) (lo hi:Option Int):slicePick its.toArray lo hi none=((its.drop (HT.sIx its.length 0 lo)).take (HT.sIx its.length its.length hi - HT.sIx its.length 0 lo)).toArray:=by
  obtain ⟨h1,h2,h3⟩:=XI lo hi its.toArray.size
  unfold slicePick
  rw [h1,h2,h3]
  simp only [sliceRange_one,pick_run,List.size_toArray] <;> rfl
def rSlL (K:PySem.W.Frag):V->Option Int->Option Int->Hp->VK->Prop:=fun x lo hi H Q=>∃ a xs,x = .ref a∧SqL K H a xs∧∀ p,H p=none->Q (.ref p) (upd H p (.lst (Ud xs lo hi)))
theorem jfw:SlR X (rSlL X.K):=by
  intro pins s σ H x v vl vu lo hi sl Q I rx hs pl pu h
  obtain ⟨a,xs,rfl,hx,q⟩:=h
  cases rx
  obtain ⟨its,r,ht,hz⟩:=I.list hx
  have hlen:=r.length
  refine ⟨"list",_,slot_list_getitem.lookup,ht.isList.typeIs,?_⟩
  refine wpAny_getItem_list_slice ht.isList hs pl pu .none (by simp) ?_ (by rw [List.size_toArray] <;> omega)
  rw [Yl,<- hlen]
  refine ⟨.ref s.heap.objs.size,_,I.laid (t':=s.toks) (o:=.lst (Ud xs lo hi)) (fun b ob q=>Heap.get?_push_of_some _ q) (Nat.le_refl _) ?_,rfl,q _ (I.hok.fresh (Nat.le_refl _))⟩
  exact ⟨Nat.le_trans (uJ xs lo hi) hz,_,0,(r.drop (HT.sIx xs.length 0 lo)).take (HT.sIx xs.length xs.length hi - HT.sIx xs.length 0 lo),Heap.get?_push_size _ rfl⟩
def yx:V->Bool
  | .non=>true
  | .bl _=>true
  | .int _=>true
  | .str _=>true
  | _=>false
def eqV:V->V->Bool
  | .non,.non=>true
  | .bl a,.bl b=>a == b
  | .bl a,.int b=>(if a then 1 else 0) == b
  | .int a,.bl b=>a == (if b then 1 else 0)
  | .int a,.int b=>a == b
  | .str a,.str b=>a == b
  | _,_=>false
theorem jeC {A:Around} {s:Shared} {y x:V} {u v:Value} (ry:jv y u) (rx:jv x v) (fy:yx y=true) (fx:yx x=true):SeqAt.EqAt A s u v (eqV y x):=by
  cases y with
  | non =>
    cases ry
    cases x with
    | non=>cases rx; exact SeqAt.EqAt.same _
    | bl b=>cases rx; exact SeqAt.EqAt.none_bool b
    | int b=>obtain ⟨t,rfl⟩:=rx; exact SeqAt.EqAt.none_int b t
    | str b=>obtain ⟨t,rfl⟩:=rx; exact SeqAt.EqAt.none_str b t
    | _=>exact absurd (show false=true from fx) Bool.false_ne_true
  | bl a =>
    cases ry
    cases x with
    | non=>cases rx; exact SeqAt.EqAt.bool_none a
    | bl b=>cases rx; exact SeqAt.EqAt.bool_bool a b
    | int b=>obtain ⟨t,rfl⟩:=rx; exact SeqAt.EqAt.bool_int a b t
    | str b=>obtain ⟨t,rfl⟩:=rx; exact SeqAt.EqAt.bool_str a b t
    | _=>exact absurd (show false=true from fx) Bool.false_ne_true
  | int a =>
    obtain ⟨t',rfl⟩:=ry
    cases x with
    | non=>cases rx; exact SeqAt.EqAt.int_none a t'
    | bl b=>cases rx; exact SeqAt.EqAt.int_bool a t' b
    | int b=>obtain ⟨t,rfl⟩:=rx; exact SeqAt.EqAt.int_int a t' b t
    | str b=>obtain ⟨t,rfl⟩:=rx; exact SeqAt.EqAt.int_str a t' b t
    | _=>exact absurd (show false=true from fx) Bool.false_ne_true
  | str a =>
    obtain ⟨t',rfl⟩:=ry
    cases x with
    | non=>cases rx; exact SeqAt.EqAt.str_none a t'
    | bl b=>cases rx; exact SeqAt.EqAt.str_bool a t' b
    | int b=>obtain ⟨t,rfl⟩:=rx; exact SeqAt.EqAt.str_int a t' b t
    | str b=>obtain ⟨t,rfl⟩:=rx; exact SeqAt.EqAt.str_str a t' b t
    | _=>exact absurd (show false=true from fx) Bool.false_ne_true
  | _=>exact absurd (show false=true from fy) Bool.false_ne_true
def eqU (x:V) (u:Value):Bool:=match u with
  | .none=>eqV .non x
  | .bool b=>eqV (.bl b) x
  | .int i _=>eqV (.int i) x
  | .str z _=>eqV (.str z) x
  | _=>false
theorem UX {x y:V} {u:Value} (r:jv y u) (f:yx y=true):eqU x u=eqV y x:=by
  cases y with
  | non=>cases r; rfl
  | bl b=>cases r; rfl
  | int i=>obtain ⟨t,rfl⟩:=r; rfl
  | str z=>obtain ⟨t,rfl⟩:=r; rfl
  | _=>exact absurd (show false=true from f) Bool.false_ne_true
theorem JC {A:Around} {s:Shared} {x:V} {v:Value} (rx:jv x v) (fx:yx x=true):∀ {xs:List V} {us:List Value},jq xs us->xs.all yx=true->∀ u ∈ us,SeqAt.EqAt A s u v (eqU x u)
  | _,_,.nil,_=>fun u hu=>by cases hu
  | y :: xs,u :: us,.cons r t,f=>fun u' hu=>by
    rw [List.all_cons,Bool.and_eq_true] at f
    rcases List.mem_cons.mp hu with rfl | hu
    · rw [UX r f.1]; exact jeC r rx f.1 fx
    · exact JC rx fx t f.2 u' hu
theorem Vj:yf X (.builtin "len") (fun xs H Q=>∃ p ys,xs=[.ref p]∧(SqL X.K H p ys∨SqT X.K H p ys)∧Q (.int ys.length) H):=by
  intro pins s σ H xs us Q I r h
  obtain ⟨p,ys,rfl,hq,q⟩:=h
  obtain ⟨u,rfl,rx⟩:=Yu r
  cases rx
  have hn:=JE
  rcases hq with hq | hq
  · obtain ⟨its,r',pl,hz⟩:=I.list hq
    have hlen:=r'.length
    exact Calls.call_len_list pl.isList (by simp only [List.size_toArray] <;> omega) ⟨.int ys.length,H,I.tok _,⟨s.toks + 1,by rw [List.size_toArray,hlen]⟩,q⟩
  · obtain ⟨its,r',pl,hz⟩:=I.tuple hq
    have hlen:=r'.length
    exact len_tuple pl (by simp only [List.size_toArray] <;> omega) ⟨.int ys.length,H,I.tok _,⟨s.toks + 1,by rw [List.size_toArray,hlen]⟩,q⟩
theorem yf.or {f:Value} {r r':List V->Hp->VK->Prop} (h:yf X f r) (h':yf X f r'):yf X f (fun xs H Q=>r xs H Q∨r' xs H Q):=by
  intro pins s σ H xs us Q I rs q
  rcases q with q | q
  · exact h pins s σ H xs us Q I rs q
  · exact h' pins s σ H xs us Q I rs q
theorem vY:yf X (.type "list") (fun xs H Q=>∃ p ys,xs=[.ref p]∧(SqL X.K H p ys∨SqT X.K H p ys)∧∀ l,H l=none->Q (.ref l) (upd H l (.lst ys))):=by
  intro pins s σ H xs us Q I r h
  obtain ⟨p,ys,rfl,hq,q⟩:=h
  obtain ⟨u,rfl,rx⟩:=Yu r
  cases rx
  have fin:∀ (its:List Value),jq ys its->ys.length<=sizeLine->∀ (h':Heap) (c':Nat),(∀ b o',s.heap.get? b=some o'->h'.get? b=some o') ->
      h'.get? s.heap.objs.size=some { cls:=.type "list",dict:=none,data:=.seq its.toArray c',slots:=#[] }->EP X pins σ Q (.ref s.heap.objs.size) { s with heap:=h' }:=fun its r' hz h' c' kp e =>
    ⟨.ref s.heap.objs.size,_,I.laid (t':=s.toks) kp (Nat.le_refl _) (show jM X.prog X.w _ h' _ (.lst ys) from ⟨hz,its,c',r',e⟩),rfl,q _ (I.hok.fresh (Nat.le_refl _))⟩
  rcases hq with hq | hq
  · obtain ⟨its,r',pl,hz⟩:=I.list hq
    have hlen:=r'.length
    obtain ⟨o,ho,hc,n,hd⟩:=pl.isList
    exact call_list_seq p (.inl rfl) ho hc hd (fun h' c' kp e=>fin its r' hz h' c' kp e) (by simp only [List.size_toArray] <;> omega)
  · obtain ⟨its,r',pl,hz⟩:=I.tuple hq
    have hlen:=r'.length
    obtain ⟨o,ho,hc,n,hd⟩:=pl
    exact call_list_seq p (.inr rfl) ho hc hd (fun h' c' kp e=>fin its r' hz h' c' kp e) (by simp only [List.size_toArray] <;> omega)
def tyV (K:PySem.W.Frag) (T:String) (x:V) (H:Hp):Prop:=match x with
  | .str _=>T = "str"
  | .int _=>T = "int"
  | .ref p=>(T = "list"∧∃ xs,SqL K H p xs)∨(T = "tuple"∧∃ o,K.lookup p=some o∧o.cls = .type "tuple"∧o.dict=none) ∨
      (T = "dict"∧((∃ kvs,H p=some (.dK kvs))∨∃ kvs,H p=some (.dT kvs)))∨(T = "set"∧∃ S n,H p=some (.set S n))
  | _=>False
theorem jho {pins:List (Addr × Obj)} {σ:St} {H:Hp} {s:Shared} {T:String} {x:V} {v:Value} (I:Inv X pins σ H s) (r:jv x v) (ty:tyV X.K T x H) :
    s.TypeIs v T∧∀ a,v = .ref a->∃ ob,s.heap.get? a=some ob∧ob.dict=none:=by
  cases x with
  | str z =>
    obtain ⟨t,rfl⟩:=r
    cases (show T = "str" from ty)
    exact ⟨typeIs_str s z t,fun _ e=>nomatch e⟩
  | int i =>
    obtain ⟨t,rfl⟩:=r
    cases (show T = "int" from ty)
    exact ⟨typeIs_int s i t,fun _ e=>nomatch e⟩
  | ref p =>
    cases r
    rcases ty with ⟨rfl,xs,hq⟩ | ⟨rfl,o,hk,hc,hd⟩ | ⟨rfl,hk⟩ | ⟨rfl,S,n,hk⟩
    · obtain ⟨its,_,pl,_⟩:=I.list hq
      refine ⟨pl.isList.typeIs,fun a e=>?_⟩
      cases e
      obtain ⟨o,n,e,c,hd,_⟩:=pl
      exact ⟨o,e,hd⟩
    · refine ⟨⟨o,I.kIn p o hk,hc⟩,fun a e=>?_⟩
      cases e
      exact ⟨o,I.kIn _ o hk,hd⟩
    · have z:∃ o,s.heap.get? p=some o∧o.ExactDict:=by
        rcases hk with ⟨kvs,hk⟩ | ⟨kvs,hk⟩
        · obtain ⟨_,_,_,_,o,_,_,e,ex,_⟩:=I.hok p _ hk
          exact ⟨o,e,ex⟩
        · obtain ⟨_,_,_,_,o,_,_,e,ex,_⟩:=I.hok p _ hk
          exact ⟨o,e,ex⟩
      obtain ⟨o,e,ex⟩:=z
      refine ⟨⟨o,e,ex.1⟩,fun a e2=>?_⟩
      cases e2
      exact ⟨o,e,ex.2.1⟩
    · obtain ⟨o,_,_,_,e,ex,_⟩:=I.hok p _ hk
      refine ⟨⟨o,e,ex.1⟩,fun a e2=>?_⟩
      cases e2
      exact ⟨o,e,ex.2.1⟩
  | _=>exact False.elim ty
def tBM (K:PySem.W.Frag) (T:String) (r:V->List V->Hp->VK->Prop) (to:TE) (t:TA):TE:=fun σ H Q=>to σ H fun x H1=>tyV K T x H1∧t σ H1 fun xs H2=>r x xs H2 Q
variable {o e:Expr} {es:List Expr} {to:TE} {t:TA} {name:Str} {apos cpos:Pos} {T id:String} {r:V->List V->Hp->VK->Prop}
theorem pe_bm (pa:PlainAttrs T) (slot:Slot T name id) (hty:typeOf (.builtin id)=pure (.type "method_descriptor")) (hm:MtR X id r) (ho:PE X o to) (ha:PA X (e :: es) t)
    (hbase:attributeBase o name X.env (eval o X.env)=eval o X.env:=by rfl)
    (hfew:((backTo cpos (starEach (e :: es) X.env)).all (fun x=>!x.1) && (backToKw cpos (keywordEach [] X.env)).all (fun x=>x.1.isSome)
      && decide ((e :: es).length + ([]:List Keyword).length + (if ([]:List Keyword).isEmpty then 0 else 1) < 30))=true:=by rfl)
    (hline:(apos.endLine == cpos.line)=true:=by rfl) (hs:starEach (e :: es) X.env=(false,eval e X.env) :: starEach es X.env:=by rfl) (hplain:(backTo cpos (starEach es X.env)).any (·.1)=false:=by rfl) :
    PE X (.Call (.Attribute o name apos) (e :: es) [] cpos) (tBM X.K T r to t):=by
  intro pins s σ H Q I h
  refine wpAny_Call_method_late hbase hfew hline rfl (thn (ho pins s σ H _ I h) fun v s1 hQQ=>?_)
  obtain ⟨x,H1,I1,r1,ty,q1⟩:=hQQ
  obtain ⟨h1,h2⟩:=jho I1 r1 ty
  refine ⟨T,id,pa,slot,hty,h1,h2,?_⟩
  have hA:=ha cpos pins s1 σ H1 _ I1 q1
  rw [hs] at hA ⊢
  refine Calls.callWith_builtin (by show (false || (backTo cpos (starEach es X.env)).any (·.1))=false; rw [hplain] <;> rfl) (Calls.evalArgs_plain ?_)
  exact thn hA fun us s2 ⟨vs,H2,I2,r2,q2⟩=>hm pins s2 σ H2 x vs v us Q I2 r1 r2 q2
/- xs.append(e),list.index on a module's tuple .. are MtR facts of 06m -/
end
end L2
namespace L2
open PySem PySem.Spec PyProof.Rows
def MtM (X:Cx) (id:String) (r:V->List V->Hp->VK->Prop):Prop :=
  ∀ (pins:List (Addr × Obj)) (s:Shared) (σ:St) (H:Hp) (x:V) (xs:List V) (v:Value) (us:List Value) (Q:VK),Inv X pins σ H s->jv x v->jq xs us->r x xs H Q ->
    wpAny (model X.prog X.w) X.A (call (.builtin id) (v :: us)) (EP X pins σ Q) X.xe s
theorem jq.one:∀ {x:V} {us:List Value},jq [x] us->∃ u,us=[u]∧jv x u
  | _,_,.cons r .nil=>⟨_,rfl,r⟩
theorem jq.two:∀ {x y:V} {us:List Value},jq [x,y] us->∃ u v,us=[u,v]∧jv x u∧jv y v
  | _,_,_,.cons r (.cons q .nil)=>⟨_,_,rfl,r,q⟩
theorem jq.zero:∀ {us:List Value},jq [] us->us=[]
  | _,.nil=>rfl
theorem jq.eraseIdx:∀ {xs:List V} {us:List Value} (i:Nat),jq xs us->jq (xs.eraseIdx i) (us.eraseIdx i)
  | _,_,_,.nil=>.nil
  | _,_,0,.cons _ t=>t
  | _,_,i + 1,.cons r t=>.cons r (jq.eraseIdx i t)
theorem jq.reverse {xs:List V} {us:List Value} (h:jq xs us):jq xs.reverse us.reverse:=by
  induction h with
  | nil=>exact .nil
  | cons r t ih=>rw [List.reverse_cons,List.reverse_cons]; exact jq.append ih (.cons r .nil)
theorem jq.rep {xs:List V} {us:List Value} (h:jq xs us):∀ k:Nat,jq (List.replicate k xs).flatten (List.replicate k us).flatten
  | 0=>.nil
  | k + 1=>by
    rw [List.replicate_succ,List.replicate_succ,List.flatten_cons,List.flatten_cons]
    exact jq.append h (jq.rep h k)
theorem Xh (its:List Value):∀ (k:Nat) (acc:List Value),
    List.foldl (fun x1 x2=>x1 ++ x2) acc.toArray (List.replicate k its.toArray)=(acc ++ (List.replicate k its).flatten).toArray
  | 0,acc=>by simp
  | k + 1,acc=>by
    have e:acc.toArray ++ its.toArray=(acc ++ its).toArray:=by simp
    have e2:(acc ++ its) ++ (List.replicate k its).flatten=acc ++ (List.replicate (k + 1) its).flatten:=by
      rw [List.replicate_succ,List.flatten_cons,List.append_assoc]
    rw [<- e2,<- Xh its k (acc ++ its),<- e,List.replicate_succ,List.foldl_cons]
section
variable {X:Cx} {pins:List (Addr × Obj)} {σ:St} {H:Hp} {s:Shared} {l b:Addr} {xs ys zs:List V}
theorem Inv.lset {its its':List Value} {n:Nat} {f:Array Value->Array Value} {t':Nat} (I:Inv X pins σ H s) (hH:H l=some (.lst xs))
    (e:s.heap.get? l=some { cls:=.type "list",data:=.seq its.toArray n }) (hf:f its.toArray=its'.toArray) (hv:jq ys its') (hz:ys.length<=sizeLine) :
    Inv X pins σ (upd H l (.lst ys)) { s with heap:=s.heap.update l (Obj.mapSeq f),toks:=t' }:=by
  have q:=PySem.IsL.update e f
  rw [hf] at q
  refine I.write (x:=l) (e:=l) (by rw [hH]; exact trivial) (.inl rfl) (fun b' u hb hu=>(Heap.get?_update_other s.heap (Obj.mapSeq f) (Ne.symm hb)).trans hu) ⟨_,q⟩ ?_
  exact ⟨hz,its',_,hv,q⟩
theorem Inv.lnew {its:List Value} {t':Nat} (I:Inv X pins σ H s) (hv:jq ys its) (hz:ys.length<=sizeLine) :
    Inv X pins σ (upd H s.heap.objs.size (.lst ys)) { s with heap:=s.heap.push { cls:=.type "list",data:=.seq its.toArray },toks:=t' } :=
  I.laid (fun _ _ q=>Heap.get?_push_of_some _ q) (Nat.le_refl _) ⟨hz,its,0,hv,Heap.get?_push_size _ rfl⟩
theorem Inv.fresh (I:Inv X pins σ H s):H s.heap.objs.size=none:=I.hok.fresh (Nat.le_refl _)
theorem Inv.lstM (I:Inv X pins σ H s) (hH:H l=some (.lst xs)):xs.length<=sizeLine∧∃ (its:List Value) (n:Nat),jq xs its∧xs.length=its.length∧s.heap.get? l=some { cls:=.type "list",data:=.seq its.toArray n }:=by
  obtain ⟨z,its,n,r,e⟩:=I.hok l _ hH
  exact ⟨z,its,n,r,r.length,e⟩
theorem jdW {n:Nat} (h:n<=sizeLine):Builtin.List.listTooLong n=false:=by
  unfold Builtin.List.listTooLong
  exact decide_eq_false (by omega)
end
section
variable {X:Cx}
def jfz:V->List V->Hp->VK->Prop:=fun x vs H Q=>∃ l xs y,x = .ref l∧vs=[y]∧H l=some (.lst xs)∧xs.length < sizeLine∧Q .non (upd H l (.lst (xs ++ [y])))
theorem Xc:MtM X "list.append" jfz:=by
  intro pins s σ H x vs v us Q I rx rv h
  obtain ⟨l,xs,y,rfl,rfl,hH,hz,q⟩:=h
  cases rx
  obtain ⟨u,rfl,ru⟩:=rv.one
  obtain ⟨z,its,n,r,hl,e⟩:=I.lstM hH
  refine call_meets F.slot_list_append ⟨_,e,rfl⟩ F.entry_list_append (F.args_list_append_2 _ _) (PySem.list_append l its.toArray n u (by rw [List.size_toArray]; omega)) ⟨e,?_⟩
  refine ⟨.non,_,I.lset (its':=its ++ [u]) hH e (by simp) (r.append (.cons ru .nil)) ?_,rfl,q⟩
  rw [List.length_append,List.length_singleton]
  omega
def rCat:R2:=fun x y H Q=>∃ l b xs zs,x = .ref l∧y = .ref b∧H l=some (.lst xs)∧H b=some (.lst zs)∧xs.length + zs.length<=sizeLine∧∀ p,H p=none->Q (.ref p) (upd H p (.lst (xs ++ zs)))
theorem op_cat:OpR X (binaryOp .Add) rCat:=by
  intro pins s σ H x y v u Q I rx ry h
  obtain ⟨l,b,xs,zs,rfl,rfl,hH,hB,hz,q⟩:=h
  cases rx
  cases ry
  obtain ⟨z,its,n,r,hl,e⟩:=I.lstM hH
  obtain ⟨z2,its2,n2,r2,hl2,e2⟩:=I.lstM hB
  refine PySem.P.add_list e e2 ?_ (by rw [List.size_toArray,List.size_toArray]; omega)
  have ea:its.toArray ++ its2.toArray=(its ++ its2).toArray:=by simp
  rw [ea]
  exact ⟨.ref _,_,I.lnew (t':=s.toks) (r.append r2) (by rw [List.length_append]; omega),rfl,q _ I.fresh⟩
def rRep:R2:=fun x y H Q=>∃ l k xs,x = .ref l∧y = .int k∧H l=some (.lst xs)∧-(2 ^ 63)<=k∧k < 2 ^ 63∧xs.length * k.toNat<=sizeLine ∧
  ∀ p,H p=none->Q (.ref p) (upd H p (.lst (List.replicate k.toNat xs).flatten))
theorem jgl {α:Type} (xs:List α) (k:Nat):(List.replicate k xs).flatten.length=k * xs.length:=by
  induction k with
  | zero=>simp
  | succ k ih=>rw [List.replicate_succ,List.flatten_cons,List.length_append,ih,Nat.succ_mul,Nat.add_comm]
theorem op_rep:OpR X (binaryOp .Mult) rRep:=by
  intro pins s σ H x y v u Q I rx ry h
  obtain ⟨l,k,xs,rfl,rfl,hH,h1,h2,hz,q⟩:=h
  cases rx
  obtain ⟨t,rfl⟩:=ry
  obtain ⟨z,its,n,r,hl,e⟩:=I.lstM hH
  have hlen:its.toArray.size * k.toNat<=sizeLine:=by rw [List.size_toArray,<- hl]; exact hz
  have hcap:¬ its.toArray.size * k.toNat > (2 ^ 63 - 1) / 8:=by
    have:(sizeLine:Nat)<=(2 ^ 63 - 1) / 8:=by decide
    omega
  have hfit:¬ (!Builtin.List.listFitsIndex k)=true:=by
    rw [fitsIndex_both h1 h2]
    exact Bool.false_ne_true
  have hlong:¬ Builtin.List.listTooLong (its.toArray.size * k.toNat)=true:=by
    rw [jdW hlen]
    exact Bool.false_ne_true
  have hnew:List.foldl (fun x1 x2=>x1 ++ x2) #[] (List.replicate (if its.toArray.isEmpty=true then 0 else k.toNat) its.toArray)=(List.replicate k.toNat its).flatten.toArray:=by
    have f0:∀ m:Nat,List.foldl (fun x1 x2=>x1 ++ x2) #[] (List.replicate m its.toArray)=(List.replicate m its).flatten.toArray:=fun m=>by
      have:=Xh its m []
      rw [List.nil_append] at this
      exact this
    rw [f0]
    cases its with
    | nil=>simp
    | cons a r'=>rw [if_neg (by simp)]
  refine wpAny_binaryOp_repeat_ref (T:="list") (U:="int") (by decide) ⟨_,e,rfl⟩ (fun s'=>typeIs_int s' k t) noFill_list_mul F.fills_int_mul F.slot_int_rmul repeat_list F.slot_int_index.lookup
    (call_meets F.slot_int_rmul (typeIs_int s k t) F.entry_int_rmul (F.args_int_rmul_2 _ _) (int___rmul___int_list k t l its.toArray n)
      ⟨e,rfl,⟨_,e,rfl⟩,call_meets F.slot_list_mul ⟨_,e,rfl⟩ F.entry_list_mul (F.args_list_mul_2 _ _) (AutoListH.list___mul___list_int_3 l its.toArray n k t hfit hcap hlong) ⟨e,?_⟩⟩)
  rw [hnew]
  exact ⟨.ref _,_,I.lnew (t':=s.toks) (r.rep k.toNat) (by rw [jgl,Nat.mul_comm]; exact hz),rfl,q _ I.fresh⟩
end
section
variable {prog:Program} {w:World} {A:Around} {E:Value->Shared->Prop} {s:Shared}
end
section
variable {X:Cx}
end
end L2
namespace Att
open PySem PySem.W PySem.Calls PyProof.Rows
theorem uS {P:Params} {h:Heap}:∀ (ns:List Int) (vs:List Value),WellAll P h vs (ns.map WData.int)->IntsAre vs ns:=by
  intro ns
  induction ns with
  | nil =>
    intro vs w
    rw [List.map_nil] at w
    cases w
    exact .nil
  | cons n ns ih =>
    intro vs w
    rw [List.map_cons] at w
    cases w with
    | cons a b =>
      cases a
      exact .cons _ _ (ih _ b)
theorem jbN {l:OpenLaw} {n:Nat} (hn:l.most=some n) {P:Params} {h:Heap} {args:List WData} {vals:List Value}
    (hpre:l.row.toRowW.claim.pre args=true) (hwl:WellAll P h vals args) :
    ∃ a vs ns,vals=[Value.ref a]∧args=[WData.list (ns.map WData.int)]∧h.get? a=some { cls:=.type "list",data:=.seq vs.toArray }∧IntsAre vs ns∧ns.length<=n:=by
  have hsh:WShape.hasAll [] args [.list .int]=true:=(pre_splitW hpre).1
  have hc:l.pre.holds [] { args:=args }=true:=(pre_splitW hpre).2
  obtain ⟨d,r,rfl,h1,h2⟩:=hasAllW_cons hsh
  obtain rfl:=hasAllW_nil h2
  obtain ⟨xs,rfl,h3⟩:=hasW_list h1
  obtain ⟨ns,rfl⟩:=items_int h3
  have hlen:ns.length<=n:=by
    unfold OpenLaw.pre at hc
    have h4:(WTm.not (.lt (.lit (.int (n:Int))) (.len (.arg 0)))).holds [] { args:=[.list (ns.map .int)] }=true:=by
      have h4:=(holds_andW hc).1
      rw [hn] at h4
      exact h4
    have h5:=condW_of h4 (w_not (w_lt w_lit (w_len_list (w_arg rfl))))
    rw [List.length_map] at h5
    refine Nat.le_of_not_lt fun q=>?_
    have q':(n:Int) < ((ns.length:Nat):Int):=by omega
    first
      | (rw [decide_eq_true q'] at h5; exact absurd h5 (by decide))
      | (simp at h5; omega)
  cases hwl with
  | cons w1 w2 =>
    cases w2
    cases w1 with
    | list ho hall=>exact ⟨_,_,ns,rfl,rfl,ho,uS ns _ hall,hlen⟩
theorem jbT (l:OpenLaw) (args:List WData):l.row.toRowW.claim.post args (.bool true) args=true :=
  postW_of (r:=l.row.toRowW) (X:=(true == true))
    (show WShape.has [] (.bool true) .bool=true by first | rfl | decide | simp [WShape.has,WShape.arms,WShape.armsAll])
    (show (WTm.eq .res (.lit (.bool true))).value [] { args:=args,res:=some (.bool true),after:=args }=some (.bool (true == true)) from w_eq_bool (w_res rfl) w_lit) rfl
theorem attach_call {l:OpenLaw} {n:Nat} {q:Program} {loose:List Str} {XP:(Str->Option Value)->Heap->Prop} {YP:World->Heap->Prop} {d:DefRec}
    (hn:l.most=some n) (hdf:d.params.defaults=[])
    (call:∀ (w:World) (s₀ s₁:Shared) (mg mb:Str->Option Value) (fa:Addr) (o:Obj) (pm cd doc:Value) (a:Addr) (vs:List Value) (ns:List Int),
      Ground q loose [] XP w s₀ mg mb s₁.heap->YP w s₁.heap ->
      s₁.heap.get? fa=some o->o.data = .func (docDef d.name d.params d.body d.scope pm cd doc)->s₁.heap.CodeRec cd d.name->mg d.name=some (.ref fa) ->
      s₁.heap.get? a=some { cls:=.type "list",data:=.seq vs.toArray }->IntsAre vs ns->ns.length<=n->s₁.gens = #[] ->
      codeAny (model l.prog w) callerA (.call (.ref fa) ⟨[.ref a],[]⟩) (fun r s'=>r = .ok (.ret (.bool true))∧OldK s₁.heap s'.heap∧s'.os=s₁.os∧AllBare s'.gens) s₁) :
    WalkO q loose XP YP l.row.toRowW d [] (fun f vs=>PySem.call f vs):=by
  intro w s₀ s₁ mg mb G Y fa o pm cd doc dV kV ho hd hcd hD hmg hg args vals as hpre hlay hrd hwl hlo
  obtain rfl:dV = .none:=Dflts.none hD hdf
  obtain rfl:kV = .none:=Dflts.noKw hD
  obtain ⟨a,vs,ns,rfl,rfl,hobj,hints,hlen⟩:=jbN hn hpre hwl
  refine enter_call (codeAny_mono (call w s₀ s₁ mg mb fa o pm cd doc a vs ns G Y ho (fd_plain hd) hcd hmg hobj hints hlen hg) fun r s' hq=>?_)
  obtain ⟨rfl,h2,h3,h4⟩:=hq
  exact ⟨.inl ⟨.bool true,.bool true,[],rfl,fun _=>rfl,.bool true,jbT l _,fun _=>⟨List.Pairwise.nil,fun _ hm=>(nomatch hm)⟩⟩,h2,h3,h4⟩
section
variable {prog:Program} {w:World} {A:Around} {E:Value->Shared->Prop} {s:Shared} {K:Frag}
end
end Att
namespace L2
open PySem PySem.Spec PyProof.Rows
theorem Ys {vs:List Value} {ns:List Int} (h:IntsAre vs ns):jq (ns.map V.int) vs:=by
  induction h with
  | nil=>exact .nil
  | cons n t h ih=>exact .cons ⟨t,rfl⟩ ih
def Only (H:Hp):Prop:=∀ b,H b=none∨∃ o xs,H b=some (.frz o (.lst xs))
theorem jeg {P:Program} {w:World} {K:PySem.W.Frag} {mg mb:Str->Option Value} {CX:CXT} {k:Nat} {fa a:Addr} {fd:FuncData} {x:Str} {sp:Sp} {s₁:Shared} {vs:List Value} {ns:List Int}
    (KX:K.In s₁.heap) (hns:s₁.heap.Ns mainGlobals mg) (hb:s₁.heap.Ns builtinsNs mb) (hbb:∀ x:Str,x≠"__name__"->mb x=bootBuiltins x) (hlim:s₁.heap.NoLimit) (hg:s₁.gens = #[])
    (ha:s₁.heap.get? a=some { cls:=.type "list",data:=.seq vs.toArray }) (hi:IntsAre vs ns) (hl:ns.length<=sizeLine) (hr:Room k callerA)
    (F:∀ base:Heap,K.In base->base.Ns mainGlobals mg->FnOk P w K mg base CX k fa fd [x] sp) (hbind:∀ (s:Shared) (u:Value),BindsTo s fd ⟨[u],[]⟩ [(x,u)])
    (hsp:∀ H:Hp,Only H->SqL K H a (ns.map V.int)->sp [.ref a] H (fun v _=>v = .bl true) fun _ _ _=>False)
    (hCX:∀ H e s',CX [] H s₁ (fun _ _ _=>False) e s'->False) :
    codeAny (model P w) callerA (.call (.ref fa) ⟨[.ref a],[]⟩) (fun r s'=>r = .ok (.ret (.bool true))∧OldK s₁.heap s'.heap∧s'.os=s₁.os∧AllBare s'.gens) s₁:=by
  have rv:=Ys hi
  have lenV:=hi.length
  -- from an abstract heap in which nothing but the script may be tracked
  have core:∀ H:Hp,Only H->SqL K H a (ns.map V.int)->HOk P w H s₁.heap->(∀ b,H b≠none->b=a)->(H a≠none->K.lookup a=none) ->
      codeAny (model P w) callerA (.call (.ref fa) ⟨[.ref a],[]⟩) (fun r s'=>r = .ok (.ret (.bool true))∧OldK s₁.heap s'.heap∧s'.os=s₁.os∧AllBare s'.gens) s₁:=by
    intro H hO hS hok hA hK
    have base_of:∀ {b:Addr} {o:Obj},s₁.heap.get? b=some o->H b=none->(XX s₁.heap H).get? b=some o:=fun e n=>jeo e n
    have noA:∀ {b:Addr} {o:Obj} {es:Array DictEntry} {ep:Nat},s₁.heap.get? b=some o->o.data = .dict es ep->H b=none:=fun {b o es ep} e d=>by
      cases q:H b with
      | none=>rfl
      | some u =>
        have e':b=a:=hA b (by rw [q]; simp)
        subst e'
        rw [ha] at e; cases e
        have d':Data.seq vs.toArray _=Data.dict es ep:=d
        cases d'
    have nsK:∀ {b:Addr} {m:Str->Option Value},s₁.heap.Ns b m->(XX s₁.heap H).Ns b m:=fun {b m} ⟨o,es,ep,e,d,r⟩=>⟨o,es,ep,base_of e (noA e d),d,r⟩
    have hKb:K.In (XX s₁.heap H):=fun b o e=>base_of (KX b o e) (by
      cases q:H b with
      | none=>rfl
      | some u =>
        have e':b=a:=hA b (by rw [q]; simp)
        subst e'
        rw [hK (by rw [q]; simp)] at e; cases e)
    have hM:Mod K mg (XX s₁.heap H):=⟨hKb,nsK hns,⟨mb,nsK hb,hbb⟩,let ⟨mc,h1,h2⟩:=hlim; ⟨mc,nsK h1,h2⟩⟩
    have e0:Env0 P w K mg (XX s₁.heap H) callerA [] s₁ H:=⟨rfl,hM,fun b o e=>jgg e,Nat.le_of_eq (jck _ _),trivial,fun b hb=>absurd (show b ∈ ([]:List Addr) from hb) (by simp),hok,.of_eq hg⟩
    refine codeAny_mono ((F _ hKb (nsK hns)).run callerA [] s₁ H ⟨[.ref a],[]⟩ [.ref a] [.ref a] _ _ hr e0 (hbind s₁ (.ref a)) (.cons rfl .nil) (hsp H hO hS)) fun r s' h=>?_
    cases r with
    | error e=>exact (hCX H e s' h).elim
    | ok fl =>
      cases fl with
      | next=>exact False.elim h
      | brk=>exact False.elim h
      | cont=>exact False.elim h
      | ret u =>
        obtain ⟨v,H',os,bare,un,hok',r',q⟩:=h
        have q':v = .bl true:=q
        subst q'
        obtain rfl:u=Value.bool true:=r'
        refine ⟨rfl,OldK.of_keep fun b o e=>?_,os,bare⟩
        cases q:H b with
        | none=>exact un.keep b o e q (by intro z; exact absurd (show b ∈ ([]:List Addr) from z) (by simp)) (by simp)
        | some u =>
          rcases hO b with z | ⟨ob,xs,z⟩
          · rw [q] at z; cases z
          · have z2:=un.frzs b ob _ z
            obtain ⟨e1,_⟩:=hok b _ z
            obtain ⟨e2,_⟩:=hok' b _ z2
            rw [e] at e1; cases e1
            exact e2
  cases hk:K.lookup a with
  | some o =>
    -- the script is one of the module's own objects
    have e:=KX a o hk
    rw [ha] at e
    cases e
    refine core (fun _=>none) (fun _=>.inl rfl) (.inr ⟨_,vs.toArray,_,hk,rfl,rfl,rfl,by rw [List.size_toArray,lenV]; exact hl,by simpa using rv⟩) (fun b u z=>by have z':(none:Option HO)=some u:=z; cases z') (fun b z=>absurd rfl z) fun z=>absurd rfl z
  | none =>
    refine core (fun b=>if b=a then some (.frz { cls:=.type "list",data:=.seq vs.toArray } (.lst (ns.map V.int))) else none) (fun b=>?_) (.inl (.inr ⟨{ cls:=.type "list",data:=.seq vs.toArray },if_pos rfl⟩)) (fun b u z=>?_) (fun b z=>?_) fun _=>hk
    · by_cases hb:b=a
      · exact .inr ⟨_,_,if_pos hb⟩
      · exact .inl (if_neg hb)
    · by_cases hb:b=a
      · have z':=(if_pos hb).symm.trans z
        cases z'
        subst hb
        exact ⟨ha,by rw [List.length_map]; exact hl,vs,_,rv,ha⟩
      · have z':=(if_neg hb).symm.trans z
        cases z'
    · by_cases hb:b=a
      · exact hb
      · exact absurd (if_neg hb) z
end L2
namespace L2
open PySem PySem.Spec PyProof.Rows
theorem walk_of {l:PySem.W.OpenLaw} {n k:Nat} {q:Program} {loose:List Str} {XP:(Str->Option Value)->Heap->Prop} {YP:World->Heap->Prop} {d:DefRec} {K:Params->PySem.W.Frag} {CX:World->CXT} {sp:World->Sp} {x:Str}
    (hn:l.most=some n) (hn2:n<=sizeLine) (hdf:d.params.defaults=[]) (hr:Room k callerA)
    (hY:∀ (w:World) (h:Heap),YP w h->(K w.params).In h)
    (F:∀ (w:World) (mg:Str->Option Value) (fa:Addr) (h:Heap),(K w.params).In h->h.Ns mainGlobals mg->mg d.name=some (.ref fa) ->
      ∃ fd:FuncData,(∀ (s:Shared) (u:Value),BindsTo s fd ⟨[u],[]⟩ [(x,u)]) ∧
        ∀ base:Heap,(K w.params).In base->base.Ns mainGlobals mg->FnOk l.prog w (K w.params) mg base (CX w) k fa fd [x] (sp w))
    (hsp:∀ (w:World) (H:Hp) (a:Addr) (ns:List Int),ns.length<=n->Only H->SqL (K w.params) H a (ns.map V.int)->sp w [.ref a] H (fun v _=>v = .bl true) fun _ _ _=>False)
    (hCX:∀ (w:World) (H:Hp) (s:Shared) (e:Value) (s':Shared),CX w [] H s (fun _ _ _=>False) e s'->False) :
    PySem.W.WalkO q loose XP YP l.row.toRowW d [] (fun f vs=>PySem.call f vs):=by
  refine Att.attach_call hn hdf fun w s₀ s₁ mg mb fa o pm cd doc a vs ns G Y ho hd hcd hmg hobj hints hlen hg=>?_
  have KX:=hY w _ Y
  obtain ⟨fd,hb,hF⟩:=F w mg fa _ KX G.T.g hmg
  exact jeg KX G.T.g G.T.b G.T.builtins G.T.nolimit hg hobj hints (Nat.le_trans hlen hn2) hr hF hb (fun H hO hS=>hsp w H a ns hlen hO hS) fun H e s'=>hCX w H s₁ e s'
end L2
namespace L2
open PySem PySem.Spec PyProof.Rows
def yu (s:Stmt) (j:Nat):Stmt:=match s with
  | .ClassDef _ _ _ body _ _ _ _ _ _ _=>body.getD j (.Pass ⟨0,0,0,0⟩)
  | _=>.Pass ⟨0,0,0,0⟩
def jt (s:Stmt):Arguments:=match s with
  | .FunctionDef _ a _ _ _ _ _ _ _ _=>a
  | _=>{ posonlyargs:=[],args:=[],vararg:=none,kwonlyargs:=[],kw_defaults:=[],kwarg:=none,defaults:=[] }
def jn (s:Stmt):List Stmt:=match s with
  | .FunctionDef _ _ b _ _ _ _ _ _ _=>b
  | _=>[]
def jd (s:Stmt):Scope:=match s with
  | .FunctionDef _ _ _ _ _ _ sc _ _ _=>sc
  | _=>{ kind:=.function,names:=[],isGenerator:=false,isCoroutine:=false }
abbrev CX0:CXT:=fun _ _ _ _ _ _=>False
abbrev E0:XK:=fun _ _ _=>False
structure Fun (K:PySem.W.Frag) (x qual:Str) (st:Stmt) (f:Addr) (fd:FuncData):Prop where
  ex:∃ (oc:Value) (od:Option Addr) (kV doc pm:Value) (an:Option Addr) (cdv ct:Value) (osl:Array (Option Value)),
    fd=PySem.W.fnOf x qual (jt st) (jn st) (jd st) .none kV doc pm an cdv ct∧K.lookup f=some ⟨oc,od,.func fd,osl⟩∧PySem.W.codeIn K cdv qual=true
  kp:PySem.W.keepIn K (.ref f)=true
section
variable {P:Program} {w:World} {K:PySem.W.Frag} {mg:Str->Option Value} {base:Heap}
theorem Fun.ok {x qual:Str} {st:Stmt} {f:Addr} {fd:FuncData} {N ps:List Str} {k:Nat} {sp:Sp} (F:Fun K x qual st f fd) (S:FnScope N ps (jd st)) (len:∀ vs H Q E,sp vs H Q E->vs.length=ps.length)
    (hbody:∀ (cdv:Value) (A:Around) (outer:List Env) (s:Shared) (H:Hp) (vs:List V) (Q:VK) (E:XK),Room k (A.deeper (envOfC qual (jd st) s.heap.objs.size f cdv))->sp vs H Q E ->
      ∃ t,PSs (yz CX0 P w K mg base N qual (jd st) f cdv A outer s H E).nox (jn st) t∧t { nx:=fun _ H'=>Q .non H',rt:=Q } (start N vs) H):FnOk P w K mg base CX0 (k + 1) f fd ps sp:=by
  obtain ⟨oc,od,kV,doc,pm,an,cdv,ct,osl,rfl,lk,hcd⟩:=F.ex
  refine jaY lk hcd S len fun A outer s H vs Q E hr hsp=>?_
  obtain ⟨t,h,q⟩:=hbody cdv A outer s H vs Q E hr hsp
  exact ⟨t,h.nox,q⟩
theorem Fun.binds {x qual:Str} {st:Stmt} {f:Addr} {fd:FuncData} {ps:List Str} (F:Fun K x qual st f fd)
    (h:∀ (kV doc pm:Value) (an:Option Addr) (cdv ct:Value) (us:List Value),us.length=ps.length->bindArgs (PySem.W.fnOf x qual (jt st) (jn st) (jd st) .none kV doc pm an cdv ct) ⟨us,[]⟩=pure (ps.zip us)):uN K fd ps []:=by
  obtain ⟨oc,od,kV,doc,pm,an,cdv,ct,osl,rfl,lk,hcd⟩:=F.ex
  exact .all (h kV doc pm an cdv ct)
theorem jG {x qual:Str} {st:Stmt} {f:Addr} {oc:Value} {od an:Option Addr} {osl:Array (Option Value)} {kV doc pm cdv ct:Value} (l:K.lookup f=some ⟨oc,od,.func (PySem.W.fnOf x qual (jt st) (jn st) (jd st) .none kV doc pm an cdv ct),osl⟩)
    (c:PySem.W.codeIn K cdv qual=true) (k:PySem.W.keepIn K (.ref f)=true):Fun K x qual st f (PySem.W.fnOf x qual (jt st) (jn st) (jd st) .none kV doc pm an cdv ct):=⟨⟨oc,od,kV,doc,pm,an,cdv,ct,osl,rfl,l,c⟩,k⟩
end
section
variable {X:Cx}
end
def xo (H H':Hp):Prop:=∀ b o,H b=some o->H' b=some o
theorem xo.refl (H:Hp):xo H H:=fun _ _ h=>h
theorem xo.trans {H H1 H2:Hp} (a:xo H H1) (b:xo H1 H2):xo H H2:=fun c o h=>b c o (a c o h)
theorem xo.free {H H':Hp} (e:xo H H') {l:Addr} (h:H' l=Option.none):H l=Option.none:=by
  cases q:H l with
  | none=>rfl
  | some o =>
    rw [e l o q] at h
    cases h
theorem xo.seq {K:PySem.W.Frag} {H H':Hp} {a:Addr} {xs:List V} (e:xo H H') (h:SqL K H a xs):SqL K H' a xs:=by
  rcases h with (h | ⟨o,h⟩) | h
  · exact .inl (.inl (e _ _ h))
  · exact .inl (.inr ⟨o,e _ _ h⟩)
  · exact .inr h
end L2
namespace L2
open PySem
section
variable {prog:Program} {w:World} {A:Around} {R:Result->Shared->Prop} {s:Shared}
theorem Vg {elt target iter:Expr} {ifs:List Expr} {scope:Scope} {pos:Pos} {it acc:Value} {env:Env} (I:Nat->Shared->Prop)
    (turn:∀ n s,I n s->wpAny (model prog w) A (pyNext it) (fun r s₁=>match r with
      | none=>R (.ok .next) s₁
      | some v=>wpAny (model prog w) A (letOwnedTupleGo target it v) (fun _ s₁'=>wpAny (model prog w) A (assign target env v) (fun _ s₂ =>
          wpAny (model prog w) A (forIn ifs true fun c r=>if r=true then do let ok <- isTrue c env (eval c env); pure (ForInStep.yield ok) else pure (ForInStep.yield r)) (fun ok s₃ =>
            if ok=true then wpAny (model prog w) A (eval elt env) (fun x s₄ =>
              wpAny (model prog w) A (call (.builtin "list.append") [acc,x]) (fun _ s₅=>∃ m,m < n∧I m s₅) (fun _ _=>False) s₄) (fun _ _=>False) s₃
            else ∃ m,m < n∧I m s₃) (fun _ _=>False) s₂) (fun _ _=>False) s₁') (fun _ _=>False) s₁) (fun _ _=>False) s)
    (n:Nat) (h:I n s) :
    codeAny (model prog w) A (.compLoop (.ListComp elt [⟨target,iter,ifs,0⟩] scope pos) 0 it acc env) R s:=by
  refine codeAny_loop rfl I (fun n s hI=>?_) n h
  show wpAny _ A ((compTurn (.ListComp elt [⟨target,iter,ifs,0⟩] scope pos) 0 it acc env).onRaise (fun x=>do noteFrame x env; theTreesLotGoes x)) _ _ s
  refine wpAny_noted ?_
  rw [compTurn_list]
  refine wpAny_bind (wpAny_standAt (wpAny_bind (wpAny_mono (turn n s hI) (fun r s₁ h₁=>?_) fun _ _ h'=>h'.elim)))
  cases r with
  | none=>exact wpAny_pure h₁
  | some v =>
    refine wpAny_bind (wpAny_mono h₁ (fun _ s₁' h₁'=>?_) fun _ _ h'=>h'.elim)
    refine wpAny_bind (wpAny_mono h₁' (fun _ s₂ h₂=>wpAny_bind (wpAny_mono h₂ (fun ok s₃ h₃=>?_) fun _ _ h'=>h'.elim)) fun _ _ h'=>h'.elim)
    cases ok with
    | false=>exact wpAny_pure ⟨rfl,h₃⟩
    | true =>
      exact wpAny_bind (wpAny_bind (wpAny_mono h₃ (fun x s₄ h₄=>wpAny_bind (wpAny_mono h₄ (fun _ s₅ h₅=>wpAny_pure (wpAny_pure ⟨rfl,h₅⟩)) fun _ _ h'=>h'.elim)) fun _ _ h'=>h'.elim))
end
def vz (env:Env):List (Str × NameKind)->List (Str × Addr)->List (Str × Addr)
  | [],cs=>cs
  | (n,k) :: r,cs=>vz env r (if k == .free then (n,(env.cells.lookup n).getD 0) :: cs else cs)
def yS (scope:Scope) (env:Env):List (Str × Addr):=vz env scope.names []
theorem Xm {env:Env}:∀ (ns:List (Str × NameKind)) (cs:List (Str × Addr)),(∀ y ∈ ns,y.2 = .free->∃ c,env.cells.lookup y.1=some c) ->
    (forIn ns cs fun (x:Str × NameKind) (r:List (Str × Addr))=>(if (x.2 == .free)=true then do
      let a <- cellOf env x.1
      pure (ForInStep.yield ((x.1,a) :: r)) else pure (ForInStep.yield r):Sem (ForInStep (List (Str × Addr)))))=pure (vz env ns cs)
  | [],cs,_=>rfl
  | (n,k) :: r,cs,h=>by
    rw [List.forIn_cons]
    have ih:=fun cs=>Xm r cs fun y hy=>h y (List.mem_cons_of_mem _ hy)
    by_cases hk:k = .free
    · subst hk
      obtain ⟨c,e⟩:=h (n,.free) List.mem_cons_self rfl
      have e':cellOf env n=pure c:=by
        unfold cellOf
        have e2:env.cells.lookup n=some c:=e
        rw [e2]
      simp only [beq_self_eq_true,if_true,e',pure_bind,ih]
      have e3:env.cells.lookup n=some c:=e
      simp only [vz,beq_self_eq_true,if_true,e3,Option.getD_some]
    · have hb:(k == NameKind.free)=false:=by simpa using hk
      simp only [hb,Bool.false_eq_true,if_false,pure_bind,ih,vz]
theorem vy {scope:Scope} {env:Env} (h:∀ y ∈ scope.names,y.2 = .free->∃ c,env.cells.lookup y.1=some c):closureFor scope env=pure (yS scope env):=by
  have e:=Xm scope.names [] h
  unfold closureFor yS
  rw [<- e]
  simp only [bind_pure]
theorem JX {env:Env} {x:Str} {c:Addr}:∀ (ns:List (Str × NameKind)) (cs:List (Str × Addr)),(∀ y ∈ ns,y.2 = .free->∃ c,env.cells.lookup y.1=some c) ->
    (cs.lookup x=some c->env.cells.lookup x=some c)->(vz env ns cs).lookup x=some c->env.cells.lookup x=some c
  | [],cs,_,h,e=>h e
  | (n,k) :: r,cs,hf,h,e=>by
    refine JX r _ (fun y hy=>hf y (List.mem_cons_of_mem _ hy)) ?_ e
    by_cases hk:k = .free
    · subst hk
      obtain ⟨c',e'⟩:=hf (n,.free) List.mem_cons_self rfl
      have e':env.cells.lookup n=some c':=e'
      simp only [beq_self_eq_true,if_true,e',Option.getD_some]
      intro z
      rw [List.lookup_cons] at z
      cases hx:x == n with
      | true =>
        rw [hx] at z
        have hx':x=n:=by simpa using hx
        rw [hx',e']
        exact z
      | false =>
        rw [hx] at z
        exact h z
    · have hb:(k == NameKind.free)=false:=by simpa using hk
      simp only [hb,Bool.false_eq_true,if_false]
      exact h
theorem JY {env:Env} {x:Str}:∀ (ns:List (Str × NameKind)) (cs:List (Str × Addr)),((∃ c,cs.lookup x=some c)∨(x,NameKind.free) ∈ ns)->∃ c,(vz env ns cs).lookup x=some c
  | [],cs,h=>by
    rcases h with h | h
    · exact h
    · cases h
  | (n,k) :: r,cs,h=>by
    refine JY r _ ?_
    by_cases hk:k = .free
    · subst hk
      simp only [beq_self_eq_true,if_true]
      by_cases hx:x=n
      · subst hx
        left
        rw [List.lookup_cons]
        simp
      · rcases h with ⟨c,h⟩ | h
        · left
          refine ⟨c,?_⟩
          rw [List.lookup_cons]
          have:(x == n)=false:=by simpa using hx
          rw [this]
          exact h
        · right
          rcases List.mem_cons.mp h with h | h
          · cases h
            exact absurd rfl hx
          · exact h
    · have hb:(k == NameKind.free)=false:=by simpa using hk
      simp only [hb,Bool.false_eq_true,if_false]
      rcases h with h | h
      · exact .inl h
      · right
        rcases List.mem_cons.mp h with h | h
        · cases h
          exact absurd rfl hk
        · exact h
end L2
namespace L2
open PySem PySem.Spec PyProof.Rows
def jp (X:Cx) (N':List Str) (scope:Scope) (s₃:Shared) (H₃:Hp) (fp:List Addr):Cx :=
  { X with N:=N',s₀:=s₃,H₀:=H₃,env:=compEnvC scope (cellsFrom (s₃.heap.objs.size + 1) scope.names (yS scope X.env)) s₃.heap.objs.size X.env,outer:=X.stack,ex:=fp,fn:=fun x=>scope.names.lookup x == some .cell,pn:=[],xe:=fun _ _=>False }
def yB (own:Nat) (js:List Nat) (σ:St):St:=List.replicate own none ++ js.map fun j=>(σ[j]?).getD none
def ua (σ σ':St):Prop:=σ'.length=σ.length∧∀ (k:Nat) (v:V),σ[k]? = some (some v)->σ'[k]? = some (some v)
theorem ua.refl (σ:St):ua σ σ:=⟨rfl,fun _ _ e=>e⟩
theorem ua.trans {a b c:St} (h:ua a b) (k:ua b c):ua a c:=⟨k.1.trans h.1,fun i v e=>k.2 i v (h.2 i v e)⟩
theorem keep1 {r:St} {x:Option V}:ua (none :: r) (x :: r):=⟨rfl,fun k v e=>by
  cases k with
  | zero=>cases e
  | succ k=>exact e⟩
theorem VO {r:St} {x y:Option V}:ua (none :: none :: r) (x :: y :: r):=⟨rfl,fun k v e=>by
  cases k with
  | zero=>cases e
  | succ k=>cases k with
    | zero=>cases e
    | succ k=>exact e⟩
structure CompScope (osc sc:Scope) (own fr:List Str):Prop where
  kind:sc.kind = .function
  cel:∀ y ∈ sc.names,y.2 = .cell->sc.names.lookup y.1=some .cell
  loc:∀ y ∈ sc.names,y.2 = .local->sc.names.lookup y.1=some .local
  free:∀ y ∈ sc.names,y.2 = .free->osc.names.lookup y.1=some .cell∨osc.names.lookup y.1=some .free
  nown:∀ x ∈ own,sc.names.lookup x=some .local∨sc.names.lookup x=some .cell
  nfr:∀ x ∈ fr,(osc.names.lookup x=some .cell∨osc.names.lookup x=some .free)∧sc.names.lookup x=some .free
theorem yY {env:Env} {x:Str} {k:NameKind}:∀ {names:List (Str × NameKind)},
    (names.map fun (n,k)=>if (k == NameKind.free && env.scope.kind == .function && env.kindOf n == some .cell) then (n,NameKind.cell) else (n,k)).lookup x=some k->names.lookup x=some k∨(k = .cell∧names.lookup x=some .free)
  | [],h=>by simp at h
  | (n,k') :: r,h=>by
    have ih:=@yY env x k r
    simp only [List.map_cons] at h
    rw [List.lookup_cons]
    by_cases hc:(k' == NameKind.free && env.scope.kind == .function && env.kindOf n == some .cell)=true
    · rw [if_pos hc,List.lookup_cons] at h
      have hf:k' = .free:=by
        have:=(Bool.and_eq_true_iff.mp (Bool.and_eq_true_iff.mp hc).1).1
        simpa using this
      cases hx:x == n with
      | true =>
        rw [hx] at h
        subst hf
        exact .inr ⟨(Option.some.inj h).symm,rfl⟩
      | false =>
        rw [hx] at h
        exact ih h
    · rw [if_neg hc,List.lookup_cons] at h
      cases hx:x == n with
      | true =>
        rw [hx] at h
        exact .inl h
      | false =>
        rw [hx] at h
        exact ih h
theorem yQ {env:Env} {x:Str}:∀ {names:List (Str × NameKind)},names.lookup x=some .free ->
    (names.map fun (n,k)=>if (k == NameKind.free && env.scope.kind == .function && env.kindOf n == some .cell) then (n,NameKind.cell) else (n,k)).lookup x=some .cell ∨
    (names.map fun (n,k)=>if (k == NameKind.free && env.scope.kind == .function && env.kindOf n == some .cell) then (n,NameKind.cell) else (n,k)).lookup x=some .free
  | [],h=>by simp at h
  | (n,k') :: r,h=>by
    have ih:=@yQ env x r
    rw [List.lookup_cons] at h
    simp only [List.map_cons]
    by_cases hc:(k' == NameKind.free && env.scope.kind == .function && env.kindOf n == some .cell)=true
    · rw [if_pos hc,List.lookup_cons]
      cases hx:x == n with
      | true=>exact .inl rfl
      | false =>
        rw [hx] at h
        exact ih h
    · rw [if_neg hc,List.lookup_cons]
      cases hx:x == n with
      | true =>
        rw [hx] at h
        exact .inr h
      | false =>
        rw [hx] at h
        exact ih h
theorem vW {x:Str}:∀ {names:List (Str × NameKind)} {n:Nat} {acc:List (Str × Addr)},(x,NameKind.cell) ∉ names->(cellsFrom n names acc).lookup x=acc.lookup x
  | [],_,_,_=>rfl
  | (m,k) :: r,n,acc,h=>by
    unfold cellsFrom
    have hr:(x,NameKind.cell) ∉ r:=fun z=>h (List.mem_cons_of_mem _ z)
    split
    · rename_i hk
      rw [vW hr,List.lookup_cons]
      have hk:k = .cell:=by simpa using hk
      have hx:(x == m)=false:=by
        cases e:x == m with
        | false=>rfl
        | true =>
          have:x=m:=by simpa using e
          exact absurd (by rw [this,hk]; exact List.mem_cons_self) h
      rw [hx]
    · exact vW hr
theorem JZ {x:Str}:∀ {names:List (Str × NameKind)} {n:Nat} {acc:List (Str × Addr)},(x,NameKind.cell) ∈ names->∃ c,(cellsFrom n names acc).lookup x=some c∧n<=c
  | (m,k) :: r,n,acc,h=>by
    unfold cellsFrom
    by_cases hr:(x,NameKind.cell) ∈ r
    · split
      · obtain ⟨c,e,l⟩:=JZ (n:=n + 1) (acc:=(m,n) :: acc) hr
        exact ⟨c,e,by omega⟩
      · exact JZ hr
    · rcases List.mem_cons.mp h with h | h
      · cases h
        rw [if_pos (by rfl),vW hr,List.lookup_cons]
        exact ⟨n,by simp,Nat.le_refl _⟩
      · exact absurd h hr
theorem cf_sub {x:Str} {c:Addr} {names:List (Str × NameKind)} {n:Nat} {acc:List (Str × Addr)} (e:(cellsFrom n names acc).lookup x=some c):(acc.lookup x=some c∧(x,NameKind.cell) ∉ names)∨(n<=c∧(x,NameKind.cell) ∈ names):=by
  by_cases h:(x,NameKind.cell) ∈ names
  · obtain ⟨c',e',l⟩:=JZ (n:=n) (acc:=acc) h
    rw [e] at e'
    cases e'
    exact .inr ⟨l,h⟩
  · rw [vW h] at e
    exact .inl ⟨e,h⟩
theorem jah:∀ (names:List (Str × NameKind)) (n:Nat) (acc:List (Str × Addr)),(∀ x c,acc.lookup x=some c->c < n)->(∀ x y c,acc.lookup x=some c->acc.lookup y=some c->x=y)->∀ x y c,(cellsFrom n names acc).lookup x=some c->(cellsFrom n names acc).lookup y=some c->x=y
  | [],_,_,_,h=>h
  | (m,k) :: r,n,acc,hl,h=>by
    unfold cellsFrom
    split
    · refine jah r (n + 1) _ (fun x c e=>?_) fun x y c e1 e2=>?_
      · rw [List.lookup_cons] at e
        split at e
        · cases e; exact Nat.lt_succ_self _
        · exact Nat.lt_succ_of_lt (hl x c e)
      · rw [List.lookup_cons] at e1 e2
        cases hx:x == m <;> cases hy:y == m <;> rw [hx] at e1 <;> rw [hy] at e2
        · exact h x y c e1 e2
        · cases e2
          exact absurd (hl x _ e1) (Nat.lt_irrefl _)
        · cases e1
          exact absurd (hl y _ e2) (Nat.lt_irrefl _)
        · have a:x=m:=by simpa using hx
          have b:y=m:=by simpa using hy
          rw [a,b]
    · exact jah r n acc hl h
theorem vX {x:Str} {c:Addr}:∀ (names:List (Str × NameKind)) (h:Heap) (acc:List (Str × Addr)),(∀ x c,acc.lookup x=some c->∃ v,h.IsCell c v)->(cellsFrom h.objs.size names acc).lookup x=some c->∃ v,(pushCells h names).IsCell c v
  | [],_,_,ha,e=>ha x c e
  | (m,k) :: r,h,acc,ha,e=>by
    unfold pushCells
    unfold cellsFrom at e
    split
    · rename_i hk
      rw [if_pos hk] at e
      refine vX r (h.push { cls:=.type "cell",data:=.cell none }) ((m,h.objs.size) :: acc) (fun y d q=>?_) (by rw [Heap.size_push]; exact e)
      rw [List.lookup_cons] at q
      split at q
      · cases q
        exact ⟨none,_,Heap.get?_push_size _ rfl,rfl⟩
      · obtain ⟨v,hv⟩:=ha y d q
        exact ⟨v,hv.keeps fun b o e=>Heap.get?_push_of_some _ e⟩
    · rename_i hk
      rw [if_neg hk] at e
      exact vX r h acc ha e
theorem yU {M:Model} {A:Around} {E:Value->Shared->Prop} {s:Shared} {scope:Scope} {globals:Addr} {closure:List (Str × Addr)} {qual:Str} {func:Option Addr} {code:Value} {outer:Env} {builtins:Addr} {Q:Env->Shared->Prop}
    (hQ:Q (newEnv scope s.heap.objs.size globals (cellsFrom (s.heap.objs.size + 1) scope.names closure) qual func code (some outer) builtins) { s with heap:=pushCells (s.heap.push { cls:=.type "dict",data:=.dict #[] }) scope.names }) :
    wpAny M A (newFunctionEnv scope globals closure [] qual func code (some outer) builtins) Q E s:=by
  simp only [newFunctionEnv,Option.isSome_some,if_true]
  refine wpAny_bind (wpAny_alloc ?_)
  refine wpAny_bind (wpAny_layCells _ (fun name kind cells=>by cases hkc:kind == NameKind.cell <;> simp [hkc]) _ _ _ _ ?_)
  rw [show ({ s with heap:=s.heap.push { cls:=.type "dict",data:=.dict #[] } }:Shared).heap.objs.size=s.heap.objs.size + 1 from Heap.size_push ..]
  rw [List.forIn_nil]
  exact wpAny_bind (wpAny_pure (wpAny_pure hQ))
theorem XU {h:Heap} {c:Addr} {m:Str->Option Value} (names:List (Str × NameKind)) (n:h.Ns c m):(pushCells h names).Ns c m:=n.keeps (fun b o e=>pushCells_keeps names h b o e)
section
variable {X:Cx} {pins:List (Addr × Obj)} {σ:St} {H:Hp} {s:Shared} {osc sc:Scope} {own fr:List Str} {js:List Nat} {fp:List Addr}
theorem jbh (I:Inv X pins σ H s) (ho:X.env.scope=osc) (S:CompScope osc sc own fr):∀ y ∈ sc.names,y.2 = .free->∃ c,X.env.cells.lookup y.1=some c:=fun y hy e=>by
  refine I.ok.has y.1 ?_
  have h:=S.free y hy e
  rw [<- ho] at h
  exact h
theorem xU (I:Inv X pins σ H s) (ho:X.env.scope=osc) (S:CompScope osc sc own fr) {x:Str} {c:Addr} (e:(yS sc X.env).lookup x=some c):X.env.cells.lookup x=some c :=
  JX sc.names [] (jbh I ho S) (fun z=>by cases z) e
theorem jaf (S:CompScope osc sc own fr) {x:Str} (h:sc.names.lookup x=some .free):∃ c,(yS sc X.env).lookup x=some c :=
  JY sc.names [] (.inr (PySem.mem_of_lookup h))
theorem Yd {n:Nat} (I:Inv X pins σ H s) (ho:X.env.scope=osc) (S:CompScope osc sc own fr) {x:Str} {c:Addr} (e:(cellsFrom n sc.names (yS sc X.env)).lookup x=some c):X.env.cells.lookup x=some c∨n<=c:=by
  rcases cf_sub e with h | h
  · exact .inl (xU I ho S h.1)
  · exact .inr h.1
theorem jgB (I:Inv X pins σ H s) {x:Str} {c:Addr} (e:X.env.cells.lookup x=some c):c < s.heap.objs.size:=by
  obtain ⟨v,hv⟩:=I.cell x c e
  exact hv.lt
theorem UV (S:CompScope osc sc own fr) {x:Str} (h:sc.names.lookup x=some .free):(x,NameKind.cell) ∉ sc.names:=fun z=>by
  have:=S.cel _ z rfl
  rw [h] at this
  cases this
theorem Vm (S:CompScope osc sc own fr) {x:Str} (n:Nat) (h:sc.names.lookup x=some .free):(cellsFrom n sc.names (yS sc X.env)).lookup x=(yS sc X.env).lookup x:=vW (UV S h)
theorem jgA (I:Inv X pins σ H s) (ho:X.env.scope=osc) (S:CompScope osc sc own fr) (hf:∀ b ∈ fp,yA X pins H b) (hlt:∀ b ∈ fp,b < s.heap.objs.size) (N':List Str):(jp X N' sc s H fp).Ok where
  mod:=I.ok.mod
  kind:=S.kind
  glob:=I.ok.glob
  blt:=I.ok.blt
  above:=Nat.le_refl _
  inj:=jah _ _ _ (fun x c e=>Nat.lt_succ_of_lt (jgB I (xU I ho S e))) fun x y c h1 h2=>I.ok.inj x y c (xU I ho S h1) (xU I ho S h2)
  has:=fun x h=>by
    have h:(relabel sc X.env).names.lookup x=some .cell∨(relabel sc X.env).names.lookup x=some .free:=h
    rcases h with h | h
    · rcases yY h with h | ⟨_,h⟩
      · obtain ⟨c,e,_⟩:=JZ (n:=s.heap.objs.size + 1) (acc:=yS sc X.env) (PySem.mem_of_lookup h)
        exact ⟨c,e⟩
      · obtain ⟨c,e⟩:=jaf (X:=X) S h
        exact ⟨c,(Vm S _ h).trans e⟩
    · rcases yY h with h | ⟨e,_⟩
      · obtain ⟨c,e⟩:=jaf (X:=X) S h
        exact ⟨c,(Vm S _ h).trans e⟩
      · cases e
  cab:=fun x c h e=>by
    have h:(sc.names.lookup x == some .cell)=true:=h
    have h:sc.names.lookup x=some .cell:=by simpa using h
    obtain ⟨c',e',l⟩:=JZ (n:=s.heap.objs.size + 1) (acc:=yS sc X.env) (PySem.mem_of_lookup h)
    have e:(cellsFrom (s.heap.objs.size + 1) sc.names (yS sc X.env)).lookup x=some c:=e
    rw [e] at e'
    cases e'
    exact Nat.le_of_succ_le l
  hd:=I.ok.hd
  frames:=I.ok.frames
  stk:=.inl rfl
  exf:=fun b hb=>⟨Nat.ne_of_lt (hlt b hb),fun x c e=>by
    rcases Yd I ho S e with z | z
    · exact (hf b hb).2.2.2.2.1 x c z
    · exact Nat.ne_of_gt (Nat.lt_trans (hlt b hb) z)⟩
  bs:=fun b o e=>I.bs b o e
  bsz:=Nat.le_trans I.ok.bsz I.sz
  noex:=fun b o e hb=>by
    have h:=I.ok.noex b o e
    have h2:=(hf b hb).2.2.2.1
    rcases h2 with h2 | h2
    · exact h h2
    · have hb2:b < X.base.objs.size:=Heap.lt_size e
      exact absurd (Nat.lt_of_lt_of_le hb2 (Nat.le_trans I.ok.bsz h2)) (Nat.lt_irrefl _)
  exfs:=fun b hb hm=>by
    have:=I.stkSub b hm
    rcases List.mem_cons.mp this with z | z
    · exact (hf b hb).2.1 z
    · exact (hf b hb).2.2.1 z
  funs:=I.stack
  frf:=I.stkFree
theorem JI {h':Heap} {tk:Nat} (I:Inv X pins σ H s) (ho:X.env.scope=osc) (S:CompScope osc sc own fr) (hj:js.map (fun j=>X.N[j]?)=fr.map some) (hf:∀ b ∈ fp,yA X pins H b) (hlt:∀ b ∈ fp,b < s.heap.objs.size)
    (hn:h'.Ns s.heap.objs.size fun _=>none) (hk:∀ b o,s.heap.get? b=some o->h'.get? b=some o) (hcl:∀ x c,(cellsFrom (s.heap.objs.size + 1) sc.names (yS sc X.env)).lookup x=some c->∃ v,h'.IsCell c v):Inv (jp X (own ++ fr) sc s H fp) [] (yB own.length js σ) H { s with heap:=h',toks:=tk }:=by
  refine ⟨jgA I ho S hf hlt _,rfl,I.bare,Un.kept hk,⟨_,hn,fun i x v h1 h2 h3=>?_⟩,fun x c e=>?_,I.hok.fresh (Nat.le_refl _),fun x c e=>(Yd I ho S e).elim (fun z=>I.freeC x c z) (fun z=>I.hok.fresh (Nat.le_of_succ_le z)),fun p hp=>absurd (show p ∈ ([]:List (Addr × Obj)) from hp) (by simp),I.hok.kept hk,?_⟩
  · have h1:(own ++ fr)[i]? = some x:=h1
    by_cases hi:i < own.length
    · unfold yB at h2
      rw [List.getElem?_append_left (by simpa using hi),List.getElem?_replicate] at h2
      split at h2 <;> cases h2
    · have hi':own.length<=i:=Nat.le_of_not_lt hi
      rw [List.getElem?_append_right hi'] at h1
      unfold yB at h2
      rw [List.getElem?_append_right (by simpa using hi'),List.length_replicate,List.getElem?_map] at h2
      have hx:=congrArg (fun l:List (Option Str)=>l[i - own.length]?) hj
      simp only [List.getElem?_map,h1,Option.map_some] at hx
      cases ej:js[i - own.length]? with
      | none=>rw [ej] at hx; cases hx
      | some j =>
        rw [ej] at hx h2
        simp only [Option.map_some,Option.some.injEq] at hx h2
        have hsv:σ[j]? = some (some v):=by
          cases es:σ[j]? with
          | none=>rw [es] at h2; cases h2
          | some z=>rw [es] at h2; simp only [Option.getD_some] at h2; rw [h2]
        have hxf:=S.nfr x (List.mem_of_getElem? h1)
        obtain ⟨m,hm,hl⟩:=I.loc
        have hv:Vis X.env.scope x:=by
          rw [ho]
          rcases hxf.1 with z | z
          · exact .inr (.inl z)
          · exact .inr (.inr z)
        obtain ⟨u,ru,lk⟩:=hl j x v hx hsv hv
        refine ⟨u,ru,.inr ⟨yQ hxf.2,?_⟩⟩
        rcases lk with ⟨lk,_⟩ | ⟨_,c,ec,ic⟩
        · have lk:X.env.scope.names.lookup x=some .local:=lk
          rw [ho] at lk
          rcases hxf.1 with z | z <;> (rw [lk] at z; cases z)
        · obtain ⟨c',e'⟩:=jaf (X:=X) S hxf.2
          have e2:=xU I ho S e'
          rw [ec] at e2
          cases e2
          exact ⟨c,(Vm S _ hxf.2).trans e',ic.keeps hk⟩
  · exact hcl x c e
  · have e:=congrArg List.length hj
    simp only [List.length_map] at e
    show (yB own.length js σ).length=(own ++ fr).length
    unfold yB
    simp only [List.length_append,List.length_replicate,List.length_map,e]
end
end L2
namespace L2
open PySem PySem.Spec PyProof.Rows
def jfe (J:It) (acc:Addr) (own:Nat) (js:List Nat) (g:TG) (tt:TT) (te:TE) (σ:St) (Q:VK) (H1:Hp):Prop :=
  ∃ W:Nat->Nat->List V->Hp->Prop,(∃ m,W 0 m [] (upd H1 acc (.lst [])))∧∀ i m xs H2,W i m xs H2->(J.stop i H2∧Q (.ref acc) H2) ∨
    (J.go i H2∧xs.length < sizeLine∧∃ N:List V->Hp->Prop,(∀ ys H',N ys H'->∃ m',m' < m∧W (i + 1) m' ys H')∧∀ x H3,J.yld i H2 x H3->g x (yB own js σ) H3 fun σ4 H4=>ua (yB own js σ) σ4∧tt σ4 H4 fun b H5 =>
      if b=true then te σ4 H5 fun y H6=>H6 acc=some (.lst xs)∧N (xs ++ [y]) (upd H6 acc (.lst (xs ++ [y]))) else N xs H5)
def jcP (wi:TI) (own:Nat) (js:List Nat) (g:TG) (tt:TT) (te:TE):TE:=fun σ H Q=>wi σ H fun J H1=>∀ acc,H1 acc=none->jfe J acc own js g tt te σ Q H1
def PIf (X:Cx) (ifs:List Expr) (tt:TT):Prop :=
  ∀ (pins:List (Addr × Obj)) (s:Shared) (σ:St) (H:Hp) (Q:Bool->Hp->Prop),Inv X pins σ H s->tt σ H Q ->
    wpAny (model X.prog X.w) X.A (forIn ifs true fun c r=>if r=true then do let ok <- isTrue c X.env (eval c X.env); pure (ForInStep.yield ok) else pure (ForInStep.yield r)) (TP X pins σ Q) X.xe s
def tTrue:TT:=fun _ H Q=>Q true H
theorem if_nil {X:Cx}:PIf X [] tTrue:=fun pins s σ H Q I h=>wpAny_tests_nil ⟨H,I,h⟩
theorem if_one {X:Cx} {c:Expr} {tc:TT} (h:PT X c tc):PIf X [c] tc:=fun pins s σ H Q I q=>wpAny_tests_one (h pins s σ H Q I q)
section
variable {X:Cx} {pins:List (Addr × Obj)} {σ:St} {H:Hp} {s:Shared} {osc sc:Scope} {own fr:List Str} {js:List Nat} {fp:List Addr}
theorem Xl {acc:Addr} {s':Shared} {σ':St} {H':Hp} {N':List Str} (I:Inv X pins σ H s) (hacc:acc=s.heap.objs.size) {tk:Nat} (hf:∀ b ∈ fp,yA X pins H b)
    (J:Inv (jp X N' sc { s with heap:=s.heap.push { cls:=.type "list",data:=.seq ([]:List Value).toArray },toks:=tk } (upd H acc (.lst [])) fp) [] σ' H' s'):Inv X pins σ H' s':=by
  subst hacc
  refine I.call' J.os ?_ J.hok J.bare fun b hb=>⟨(hf b hb).2.2.2.1,(hf b hb).2.1,(hf b hb).2.2.2.2.1,(hf b hb).2.2.2.2.2⟩
  exact Un.trans (Un.laid (o:=.lst []) (fun b u e=>Heap.get?_push_of_some _ e) (Nat.le_refl _) (I.hok.fresh (Nat.le_refl _))) J.base
theorem jct {elt target iter:Expr} {ifs:List Expr} {pos:Pos} {it:Addr} {tn:Nat->Heap->Prop} {J:It} {g:TG} {tt:TT} {te:TE} {Q:VK} {RR:Value->Addr->Result->Shared->Prop} {E:Value->Shared->Prop}
    (hc:X.calm=true) (ho:X.env.scope=osc) (S:CompScope osc sc own fr) (hj:js.map (fun j=>X.N[j]?)=fr.map some)
    (hg:∀ s₃ H₃ fp,PG (jp X (own ++ fr) sc s₃ H₃ fp) target g) (ht:∀ s₃ H₃ fp,PIf (jp X (own ++ fr) sc s₃ H₃ fp) ifs tt) (he:∀ s₃ H₃ fp,PE (jp X (own ++ fr) sc s₃ H₃ fp) elt te)
    (I:Inv X pins σ H s) (T:Turn X.prog X.w X.K target J fp it tn) (st:tn 0 s.heap) (hf:∀ b ∈ fp,yA X pins H b)
    (h:∀ acc,H acc=none->jfe J acc own.length js g tt te σ Q H)
    (fin:∀ acc C H' s',Inv X pins σ H' s'->yA X pins H' C->(∃ m,s'.heap.Ns C m)->Q (.ref acc) H'->RR (.ref acc) C (.ok .next) s') :
    wpAny (model X.prog X.w) X.A (newList []) (fun acc s₃=>wpAny (model X.prog X.w) X.A (newFunctionEnv sc X.env.globals (yS sc X.env) [] X.env.qual none .none (some X.env)) (fun cenv s₄ =>
      codeAny (model X.prog X.w) X.A (.compStart (.ListComp elt [⟨target,iter,ifs,0⟩] sc pos) 0 (.ref it) acc { cenv with scope:=relabel sc X.env }) (RR acc cenv.locals) s₄) E s₃) E s:=by
  obtain ⟨W,⟨m0,w0⟩,turn⟩:=h s.heap.objs.size (I.hok.fresh (Nat.le_refl _))
  have hlt:∀ b ∈ fp,b < s.heap.objs.size:=fun b hb=>by
    obtain ⟨o,e,_⟩:=T.obj _ _ st b hb
    exact Heap.lt_size e
  refine wpAny_newList ?_
  have I3:Inv X pins σ (upd H s.heap.objs.size (.lst [])) { s with heap:=s.heap.push { cls:=.type "list",data:=.seq ([]:List Value).toArray } }:=I.lnew (its:=[]) (ys:=[]) (t':=s.toks) .nil (Nat.zero_le _)
  have f3:∀ b ∈ fp,yA X pins (upd H s.heap.objs.size (.lst [])) b:=fun b hb=>⟨by rw [ji (Nat.ne_of_lt (hlt b hb))]; exact (hf b hb).1,(hf b hb).2⟩
  have hsz3:(s.heap.push { cls:=.type "list",data:=.seq ([]:List Value).toArray }).objs.size=s.heap.objs.size + 1:=Heap.size_push ..
  refine yU ?_
  dsimp only
  obtain ⟨h₁,e₁⟩:∃ h₁,h₁=pushCells ((s.heap.push { cls:=.type "list",data:=.seq ([]:List Value).toArray }).push { cls:=.type "dict",data:=.dict #[] }) sc.names:=⟨_,rfl⟩
  rw [<- e₁]
  have hns₁:h₁.Ns (s.heap.push { cls:=.type "list",data:=.seq ([]:List Value).toArray }).objs.size fun _=>none:=by
    rw [e₁]
    exact XU _ (Heap.Ns.new ..)
  have old:∀ b o,(s.heap.push { cls:=.type "list",data:=.seq ([]:List Value).toArray }).get? b=some o->h₁.get? b=some o:=fun b o e=>by
    rw [e₁]
    exact pushCells_keeps _ _ _ _ (Heap.get?_push_of_some _ e)
  have cel₁:∀ x c,(cellsFrom ((s.heap.push { cls:=.type "list",data:=.seq ([]:List Value).toArray }).objs.size + 1) sc.names (yS sc X.env)).lookup x=some c->∃ v,h₁.IsCell c v:=fun x c e=>by
    rw [e₁]
    refine vX sc.names _ (yS sc X.env) (fun y d q=>?_) (by rw [Heap.size_push]; exact e)
    obtain ⟨v,hv⟩:=I3.cell y d (xU I3 ho S q)
    exact ⟨v,hv.keeps fun b o e=>Heap.get?_push_of_some _ e⟩
  have lt3:∀ b ∈ fp,b < (s.heap.push { cls:=.type "list",data:=.seq ([]:List Value).toArray }).objs.size:=fun b hb=>by rw [hsz3]; exact Nat.lt_succ_of_lt (hlt b hb)
  have I4:=JI (own:=own) (fr:=fr) (js:=js) (tk:=s.toks) I3 ho S hj f3 lt3 hns₁ old cel₁
  have st4:tn 0 h₁:=T.keep _ _ _ st fun b _ o e=>old b o (Heap.get?_push_of_some _ e)
  have fpX:∀ {H':Hp},(∀ b ∈ fp,H' b=none)->∀ b ∈ fp,yA (jp X (own ++ fr) sc { s with heap:=s.heap.push { cls:=.type "list",data:=.seq ([]:List Value).toArray } } (upd H s.heap.objs.size (.lst [])) fp) [] H' b:=fun hn b hb =>
    ⟨hn b hb,Nat.ne_of_lt (lt3 b hb),fun hm=>by
      rcases List.mem_cons.mp (I.stkSub b hm) with z | z
      · exact (hf b hb).2.1 z
      · exact (hf b hb).2.2.1 z,.inl hb,fun x c e=>(Yd I3 ho S e).elim (fun z=>(hf b hb).2.2.2.2.1 x c z) (fun z=>Nat.ne_of_gt (Nat.lt_trans (lt3 b hb) z)),fun p hp=>absurd (show p ∈ ([]:List (Addr × Obj)) from hp) (by simp)⟩
  have loop:∀ s₃:Shared,s₃={ s with heap:=h₁ } ->
      codeAny (model X.prog X.w) X.A (.compLoop (.ListComp elt [⟨target,iter,ifs,0⟩] sc pos) 0 (.ref it) (.ref s.heap.objs.size) (compEnvC sc (cellsFrom ((s.heap.push { cls:=.type "list",data:=.seq ([]:List Value).toArray }).objs.size + 1) sc.names (yS sc X.env)) (s.heap.push { cls:=.type "list",data:=.seq ([]:List Value).toArray }).objs.size X.env))
        (RR (.ref s.heap.objs.size) (s.heap.push { cls:=.type "list",data:=.seq ([]:List Value).toArray }).objs.size) s₃:=by
    rintro s₃ rfl
    refine Vg (fun n s'=>∃ i xs σ' H',Inv (jp X (own ++ fr) sc { s with heap:=s.heap.push { cls:=.type "list",data:=.seq ([]:List Value).toArray } } (upd H s.heap.objs.size (.lst [])) fp) [] σ' H' s'∧ua (yB own.length js σ) σ'∧tn i s'.heap∧(∀ b ∈ fp,H' b=none)∧W i n xs H')
      ?_ m0 ⟨0,[],_,_,I4,ua.refl _,st4,fun b hb=>(f3 b hb).1,w0⟩
    rintro n s5 ⟨i,xs,σ5,H5,I5,k5,st5,fr5,w5⟩
    have I5':=I5.weak (σ':=yB own.length js σ) k5.1.symm k5.2
    have hc':(jp X (own ++ fr) sc { s with heap:=s.heap.push { cls:=.type "list",data:=.seq ([]:List Value).toArray } } (upd H s.heap.objs.size (.lst [])) fp).calm=true:=hc
    rcases turn i n xs H5 w5 with ⟨stop,qn⟩ | ⟨go,hz,N,hN,step⟩
    · refine thn (T.done (jp X (own ++ fr) sc { s with heap:=s.heap.push { cls:=.type "list",data:=.seq ([]:List Value).toArray } } (upd H s.heap.objs.size (.lst [])) fp) rfl rfl rfl hc' i [] s5 _ H5 _ I5' (fpX fr5) st5 stop) fun r s6 hQQ=>?_
      obtain ⟨hr,I6⟩:=hQQ
      subst hr
      have B:=Xl I rfl (tk:=s.toks) hf I6
      refine fin _ _ H5 s6 B ?_ ?_ qn
      · refine I.fpOk ?_ I6.free
        show s.heap.objs.size<=(s.heap.push { cls:=.type "list",data:=.seq ([]:List Value).toArray }).objs.size
        rw [hsz3]
        exact Nat.le_succ _
      · obtain ⟨m,hm,_⟩:=I6.loc
        exact ⟨m,hm⟩
    · refine thn (T.item (jp X (own ++ fr) sc { s with heap:=s.heap.push { cls:=.type "list",data:=.seq ([]:List Value).toArray } } (upd H s.heap.objs.size (.lst [])) fp) rfl rfl rfl hc' i [] s5 _ H5 _ I5' (fpX fr5) st5 go) fun r s6 hQQ=>?_
      obtain ⟨u,hr,h6⟩:=hQQ
      subst hr
      refine thn h6 fun _ s7 hQQ=>?_
      obtain ⟨x,H7,I7,r7,y7,st7,fr7⟩:=hQQ
      have I7':=I7.pinned (fpX fr7) (T.obj _ _ st7)
      have again:∀ {s9:Shared} {σ9:St} {H9:Hp} {ys:List V} {m':Nat},Inv (jp X (own ++ fr) sc { s with heap:=s.heap.push { cls:=.type "list",data:=.seq ([]:List Value).toArray } } (upd H s.heap.objs.size (.lst [])) fp) ([] ++ Jv fp s7.heap) σ9 H9 s9 ->
          ua (yB own.length js σ) σ9->m' < n->W (i + 1) m' ys H9->∃ m,m < n∧∃ i xs σ' H',Inv (jp X (own ++ fr) sc { s with heap:=s.heap.push { cls:=.type "list",data:=.seq ([]:List Value).toArray } } (upd H s.heap.objs.size (.lst [])) fp) [] σ' H' s9∧ua (yB own.length js σ) σ'∧tn i s9.heap∧(∀ b ∈ fp,H' b=none)∧W i m xs H':=fun {s9 σ9 H9 ys m'} I9 k9 hm w9=>by
        refine ⟨m',hm,i + 1,ys,σ9,H9,I9.unpinned,k9,T.keep _ _ _ st7 fun b hb o e=>(I9.pin (b,o) (List.mem_append_right _ (List.mem_append_right _ (jR hb e)))).1,fun b hb=>?_,w9⟩
        obtain ⟨o,e,d⟩:=T.obj _ _ st7 b hb
        exact (I9.pin (b,o) (List.mem_append_right _ (List.mem_append_right _ (jR hb e)))).2.1
      refine thn (hg _ _ _ _ s7 _ H7 x u _ I7' r7 (step x H7 y7)) fun _ s8 hQQ=>?_
      obtain ⟨σ8,H8,I8,k8,q8⟩:=hQQ
      refine thn (ht _ _ _ _ s8 σ8 H8 _ I8 q8) fun b s9 hQQ=>?_
      obtain ⟨H9,I9,q9⟩:=hQQ
      cases b with
      | false =>
        rw [if_neg (by simp)]
        rw [if_neg (by simp)] at q9
        obtain ⟨m',hm,w9⟩:=hN _ _ q9
        exact again I9 k8 hm w9
      | true =>
        rw [if_pos rfl]
        rw [if_pos rfl] at q9
        refine thn (he _ _ _ _ s9 σ8 H9 _ I9 q9) fun y s10 hQQ=>?_
        obtain ⟨v,H10,I10,r10,a10,n10⟩:=hQQ
        obtain ⟨m',hm,w10⟩:=hN _ _ n10
        refine thn (Xc _ s10 σ8 H10 (.ref s.heap.objs.size) [v] (.ref s.heap.objs.size) [y] (fun z H11=>z = .non∧H11=upd H10 s.heap.objs.size (.lst (xs ++ [v]))) I10 rfl (.cons r10 .nil) ⟨_,xs,v,rfl,rfl,a10,hz,rfl,rfl⟩) fun z s11 hQQ=>?_
        obtain ⟨z',H11,I11,_,_,e11⟩:=hQQ
        subst e11
        exact again I11 k8 hm w10
  exact codeAny_compStart_list (loop _ rfl) (T.self _ 0 _ _ _ st4 (loop _ rfl))
end
section
variable {X:Cx} {osc sc:Scope} {own fr:List Str} {js:List Nat} {elt target iter:Expr} {ifs:List Expr} {pos:Pos} {wi:TI} {g:TG} {tt:TT} {te:TE}
theorem jfZ (hc:X.calm=true) (ho:X.env.scope=osc) (S:CompScope osc sc own fr) (hj:js.map (fun j=>X.N[j]?)=fr.map some) (hi:PI X target iter wi)
    (hg:∀ s₃ H₃ fp,PG (jp X (own ++ fr) sc s₃ H₃ fp) target g) (ht:∀ s₃ H₃ fp,PIf (jp X (own ++ fr) sc s₃ H₃ fp) ifs tt) (he:∀ s₃ H₃ fp,PE (jp X (own ++ fr) sc s₃ H₃ fp) elt te)
    (hs:∀ x,foldedSetIterable iter X.env x=pure x:=by intro _; rfl):PE X (.ListComp elt [⟨target,iter,ifs,0⟩] sc pos) (jcP wi own.length js g tt te):=by
  intro pins s σ H Q I h
  rw [eval_ListComp]
  refine wpAny_comprehension_free (use:=none) rfl hs (vy (jbh I ho S)) S.kind S.loc (thn (hi pins s σ H _ I h) fun v s1 h1=>thn h1 fun itv s2 h2=>?_)
  obtain ⟨it,fp,tn,J,H2,e,I2,T,st2,f2,q2⟩:=h2
  subst e
  refine jct (RR:=fun acc C=>compPost (model X.prog X.w) X.A X.xe none (EP X pins σ Q) acc C) hc ho S hj hg ht he I2 T st2 f2 q2 fun acc C H' s' J hC hn q=>?_
  obtain ⟨m,hm⟩:=hn
  refine ⟨m,hm,fun h' hs'=>⟨.ref acc,H',?_,rfl,q⟩⟩
  obtain ⟨f0,f1,f2',f3,f4,f5⟩:=hC
  exact J.turned (t':=s'.toks) (fun b o hb e=>hs'.extBut b o hb e) f0 f1 f3 f4 f5
end
end L2
namespace L2
open PySem PySem.Spec PyProof.Rows
section
variable {X:Cx}
theorem vE {ns:List Int} {us:List Value} (h:IntsAre us ns):jq (ns.map V.int) us:=Ys h
theorem uT:∀ {xs:List V} {us:List Value},jq xs us->∀ (j:Nat) (h:j < us.length),jv (xs.getD j .non) us[j]
  | _,_,.nil,j,h=>absurd h (Nat.not_lt_zero _)
  | _ :: _,_ :: _,.cons r t,0,_=>r
  | _ :: _,_ :: _,.cons r t,j + 1,h=>by
    have:=uT t j (Nat.lt_of_succ_lt_succ h)
    simpa using this
theorem Xu {α:Type} (d:α) (f:α->Bool):∀ (bs:List α),((List.range bs.length).all fun i=>f (bs.getD i d))=bs.all f
  | []=>rfl
  | b :: r=>by
    rw [List.length_cons,List.range_succ_eq_map,List.all_cons,List.all_map,List.all_cons]
    have ih:=Xu d f r
    rw [<- ih]
    rfl
theorem jcw (hc:X.calm=true):yf X (.builtin "all") (fun xs H Q=>∃ (p:Addr) (bs:List Bool),xs=[.ref p]∧SqL X.K H p (bs.map V.bl)∧Q (.bl (bs.all id)) H):=by
  intro pins s σ H xs us Q I r h
  obtain ⟨p,bs,rfl,hq,q⟩:=h
  obtain ⟨u,rfl,rx⟩:=Yu r
  cases rx
  obtain ⟨its,r',pl,hz⟩:=I.list hq
  have hlen:=r'.length
  rw [List.length_map] at hlen
  have hlt:p < s.heap.objs.size:=by obtain ⟨_,e,_⟩:=pl.isList; exact Heap.lt_size e
  refine call_all_walk (wpAny_pyIter_list pl.isList ?_)
  refine ⟨_,_,_,_,_,_,fun i=>id (bs.getD i true),rfl,Walks.list (A:=X.A.in1) (I.ok.hd hc) _ p (Nat.ne_of_lt hlt) its.toArray,⟨⟨_,Heap.get?_push_size _ rfl,rfl,rfl⟩,pl.isList.push _⟩,?_,fun h' tk hk=>?_⟩
  · intro i v s' Q' E' hP hQ
    have hi:i < its.length:=by
      have:=(Array.getElem?_eq_some_iff.mp hP).1
      simpa using this
    have hv:v=its[i]:=by
      have:=(Array.getElem?_eq_some_iff.mp hP).2
      simpa using this.symm
    have rv:=uT r' i hi
    have e:(bs.map V.bl).getD i .non=V.bl (bs.getD i true):=by
      rw [List.getD_eq_getElem?_getD,List.getD_eq_getElem?_getD,List.getElem?_map,List.getElem?_eq_getElem (by omega)]
      rfl
    rw [e] at rv
    have rv:its[i]=Value.bool (bs.getD i true):=rv
    rw [hv,rv]
    exact wpAny_truthy_bool hQ
  · have e:((List.range its.toArray.size).all fun i=>id (bs.getD i true))=bs.all id:=by
      rw [List.size_toArray,<- hlen]
      exact Xu true id bs
    rw [e]
    exact ⟨.bl _,H,I.kept (old_kept hk),rfl,q⟩
def VY:List V->List V->Bool
  | [],[]=>true
  | x :: xs,y :: ys=>eqV x y && VY xs ys
  | _,_=>false
theorem VX:∀ {xs ys:List V},xs.length≠ys.length->VY xs ys=false
  | [],[],h=>absurd rfl h
  | [],_ :: _,_=>rfl
  | _ :: _,[],_=>rfl
  | x :: xs,y :: ys,h=>by
    have:VY xs ys=false:=VX fun e=>h (by simp [e])
    simp [VY,this]
theorem JR:∀ {xs ys:List V},xs.length=ys.length->((List.range xs.length).all fun i=>eqV (xs.getD i .non) (ys.getD i .non))=VY xs ys
  | [],[],_=>rfl
  | x :: xs,y :: ys,h=>by
    rw [List.length_cons,List.range_succ_eq_map,List.all_cons,List.all_map]
    have ih:=JR (xs:=xs) (ys:=ys) (by simpa using h)
    show (eqV x y && _)=(eqV x y && VY xs ys)
    rw [<- ih]
    rfl
  | [],_ :: _,h=>by simp at h
  | _ :: _,[],h=>by simp at h
theorem Xi {xs:List V} (h:xs.all yx=true) (i:Nat):yx (xs.getD i .non)=true:=by
  rw [List.getD_eq_getElem?_getD]
  cases e:xs[i]? with
  | none=>rfl
  | some v=>exact List.all_eq_true.mp h v (List.mem_of_getElem? e)
def rEqL (K:PySem.W.Frag) (neg:Bool):R2:=fun x y H Q=>∃ a b xs ys,x = .ref a∧y = .ref b∧SqL K H a xs∧SqL K H b ys∧xs.all yx=true∧ys.all yx=true∧Q (.bl (if neg then !VY xs ys else VY xs ys)) H
theorem jee {pins:List (Addr × Obj)} {s:Shared} {σ:St} {H:Hp} {a b:Addr} {xs ys:List V} (I:Inv X pins σ H s) (ha:SqL X.K H a xs) (hb:SqL X.K H b ys) (fx:xs.all yx=true) (fy:ys.all yx=true) :
    ∃ items items2:Array Value,s.heap.IsList a items∧s.heap.IsList b items2∧items.size=xs.length∧items2.size=ys.length ∧
      ∀ A j (h1:j < items.size) (h2:j < items2.size),SeqAt.EqAt A s items[j] items2[j] (eqV (xs.getD j .non) (ys.getD j .non)):=by
  obtain ⟨its,r,pl,hz⟩:=I.list ha
  obtain ⟨its2,r2,pl2,hz2⟩:=I.list hb
  refine ⟨its.toArray,its2.toArray,pl.isList,pl2.isList,by simp [r.length],by simp [r2.length],fun A j h1 h2=>?_⟩
  have q1:=uT r j (by simpa using h1)
  have q2:=uT r2 j (by simpa using h2)
  have:=jeC (A:=A) (s:=s) q1 q2 (Xi fx j) (Xi fy j)
  simpa using this
theorem op_neL (hu:X.A.units < cLine):OpR X (compareOp .NotEq) (rEqL X.K true):=by
  intro pins s σ H x y v u Q I rx ry h
  obtain ⟨a,b,xs,ys,rfl,rfl,ha,hb,fx,fy,q⟩:=h
  cases rx
  cases ry
  obtain ⟨items,items2,l1,l2,s1,s2,he⟩:=jee I ha hb fx fy
  by_cases hl:xs.length=ys.length
  · refine SeqAt.RcNeAt.lists l1 l2 (by omega) hu (fun j h1 h2=>he _ j h1 h2) _ _ _ _ ⟨.bl _,H,I,rfl,?_⟩
    rw [s1,JR hl]
    exact q
  · refine SeqAt.RcNeAt.lists_lengths l1 l2 (by simp; omega) hu _ _ _ _ ⟨.bl _,H,I,rfl,?_⟩
    rw [VX hl] at q
    exact q
theorem op_isB:OpR X (compareOp .Is) (fun x y H Q=>∃ a b,x = .bl a∧y = .bl b∧Q (.bl (a == b)) H):=by
  intro pins s σ H x y v u Q I rx ry h
  obtain ⟨a,b,rfl,rfl,q⟩:=h
  cases rx
  cases ry
  exact is_bool ⟨.bl _,H,I,rfl,q⟩
end
end L2
namespace L2
open PySem PySem.Spec PyProof.Rows
theorem vA:bootBuiltins "len" = some (.builtin "len"):=by decide +kernel
theorem uC:bootBuiltins "sorted" = some (.builtin "sorted"):=by decide +kernel
theorem jaj:bootBuiltins "all" = some (.builtin "all"):=by decide +kernel
theorem jr:bootBuiltins "isinstance" = some (.builtin "isinstance"):=by decide +kernel
theorem bt_int:bootBuiltins "int" = some (.type "int"):=by decide +kernel
theorem jgG:bootBuiltins "bool" = some (.type "bool"):=by decide +kernel
theorem Vk:bootBuiltins "list" = some (.type "list"):=by decide +kernel
theorem Yb:bootBuiltins "tuple" = some (.type "tuple"):=by decide +kernel
structure Bl (mg:Str->Option Value):Prop where
  no:∀ x ∈ (["len","sorted","min","max","sum","all","isinstance","int","bool","list","tuple","range"]:List Str),mg x=none
namespace Bl
variable {mg:Str->Option Value}
theorem len (B:Bl mg):mg "len" = none:=B.no _ (by simp)
theorem sorted (B:Bl mg):mg "sorted" = none:=B.no _ (by simp)
theorem min (B:Bl mg):mg "min" = none:=B.no _ (by simp)
theorem max (B:Bl mg):mg "max" = none:=B.no _ (by simp)
theorem sum (B:Bl mg):mg "sum" = none:=B.no _ (by simp)
theorem all (B:Bl mg):mg "all" = none:=B.no _ (by simp)
theorem isinstance (B:Bl mg):mg "isinstance" = none:=B.no _ (by simp)
theorem int (B:Bl mg):mg "int" = none:=B.no _ (by simp)
theorem bool (B:Bl mg):mg "bool" = none:=B.no _ (by simp)
theorem list (B:Bl mg):mg "list" = none:=B.no _ (by simp)
theorem tuple (B:Bl mg):mg "tuple" = none:=B.no _ (by simp)
theorem range (B:Bl mg):mg "range" = none:=B.no _ (by simp)
end Bl
structure Cal (P:Program) (w:World) (K:PySem.W.Frag) (mg:Str->Option Value) (base:Heap) (x:Str) (j:Nat) (ps:List Str) (sp:Sp):Prop where
  ex:∃ f fd,FnOk P w K mg base CX0 j f fd ps sp∧mg x=some (.ref f)∧PySem.W.keepIn K (.ref f)=true∧uN K fd ps []
def g11 {α:Type} (us ws:List α):List α:=match us,ws with
  | [a],[b]=>[a,b]
  | _,_=>[]
structure CalK (P:Program) (w:World) (K:PySem.W.Frag) (mg:Str->Option Value) (base:Heap) (x:Str) (j:Nat) (ps ks:List Str) (sp:Sp):Prop where
  ex:∃ f fd,FnOk P w K mg base CX0 j f fd ps sp∧mg x=some (.ref f)∧PySem.W.keepIn K (.ref f)=true∧KBinds K fd ps ks g11 g11
section
variable {X:Cx} {x:Str} {j:Nat} {ps ks:List Str} {sp:Sp} {p pos:Pos} {e:Expr} {es:List Expr} {t tk:TA} {kws:List Keyword}
end
theorem hu0 {A:Around} {k:Nat} (hr:Room k A):A.units < cLine:=hr.units0
def But (bs:List Addr) (H H':Hp):Prop:=∀ b o,H b=some o->b ∉ bs->H' b=some o
theorem xo.but {H H':Hp} (s:xo H H') (bs:List Addr):But bs H H':=fun b o e _=>s b o e
theorem But.trans {bs:List Addr} {H H1 H2:Hp} (a:But bs H H1) (b:But bs H1 H2):But bs H H2:=fun c o e n=>b c o (a c o e n) n
theorem xo.laid {H:Hp} {p:Addr} {o:HO} (h:H p=none):xo H (upd H p o):=fun b u e=>by rw [ji (jB e h)]; exact e
theorem But.upd {bs:List Addr} {H:Hp} {p:Addr} {o:HO} (h:p ∈ bs):But bs H (L2.upd H p o):=fun b u e n=>by
  rw [ji (fun z:b=p=>n (by rw [z]; exact h))]
  exact e
end L2
namespace L2
open PySem PySem.Spec PyProof.Rows
end L2
namespace L2
open PySem PySem.Spec PyProof.Rows
section
variable {X:Cx}
end
end L2
namespace L2
open PySem PySem.Spec PyProof.Rows
theorem jco (o:Obj) (f):(o.mapFields f).dict=o.dict:=by
  obtain ⟨c,d,dt,sl⟩:=o
  cases dt <;> rfl
def TrD (h base:Heap) (e:Addr) (cls:Value) (dd:Option Addr) (fl:Value):Prop :=
  ∃ oe vs T oT ts,h.get? e=some oe∧(oe.cls=cls∧oe.dict=dd)∧oe.data = .fields vs∧vs[1]? = some (.ref T)∧(base.get? T=none∧T≠e)∧h.get? T=some oT∧oT.data = .fields ts∧ts[3]? = some fl
def FlD (base:Heap) (l:List Env) (e:Addr) (cls:Value) (dd:Option Addr) (h:Heap):Prop :=
  base.StaysIn h∧base.get? e=none∧h.FunFrames base l∧TrD h base e cls dd .none
def HdD (base:Heap) (l:List Env) (e:Addr) (cls:Value) (dd:Option Addr) (L:Addr) (h:Heap):Prop :=
  base.StaysIn h∧base.get? e=none∧h.FunFrames base l∧TrD h base e cls dd (rawInt L)
section
variable {M:Model} {A:Around} {E:Value->Shared->Prop} {s:Shared} {base:Heap} {env:Env} {outer l:List Env} {L e:Addr} {cls:Value} {dd:Option Addr} {Q:Unit->Shared->Prop}
theorem jeF {oe:Obj} {vs:Array Value} {head:Value} {hn:Bool} (fr:A.frames=some (env :: outer)) (ff:s.heap.FunFrames base (env :: outer)) (fL:env.frame=some L)
    (he:s.heap.get? e=some oe) (kb:base.StaysIn s.heap) (en:base.get? e=none) (hd:oe.data = .fields vs) (sz:1 < vs.size)
    (q:∀ h',HdD base (env :: outer) e oe.cls oe.dict L h'->s.heap.UpToSlots h'->Q () { s with heap:=h' }) :
    wpAny M A (frameOf env >>= fun a=>entryPlaceOf L hn >>= fun pl=>EntryCells.newEntry head a .none (rawInt L) .none pl >>= fun b=>setField (.ref e) 1 b) Q E s:=by
  have ne:e ∉ (env :: outer).filterMap (·.frame):=fun hm=>by
    obtain ⟨_,o,ho,nf⟩:=ff.mem hm
    rw [he] at ho
    cases ho
    exact nf vs hd
  refine wpAny_bind (wpAny_frameOf_fun fr ff fL fun h1 k1=>?_)
  refine wpAny_bind (wpAny_entryPlaceOf fun pl hpl=>?_)
  unfold EntryCells.newEntry newFields
  refine wpAny_bind (wpAny_newObj_type ?_ (hpl.sizeOk5 _ _ _ _ _))
  have e1:h1.get? e=some oe:=(k1.2.1 e ne).trans he
  have b1:base.StaysIn h1:=fun b o z=>(k1.2.1 b fun hm=>by rw [(ff.mem hm).1] at z; cases z).trans (kb b o z)
  generalize hob:({ cls:=.type "traceback",dict:=none,data:=.fields ([head,.ref L,.none,rawInt L,.none] ++ (if pl.isEmpty then List.replicate 6 Value.none else pl)).toArray }:Obj)=ob
  have nf:ob.isFreed=false:=by rw [<- hob]; rfl
  have e2:=Heap.get?_push_of_some (h:=h1) ob e1
  have tne:h1.objs.size≠e:=Nat.ne_of_gt (Heap.lt_size e1)
  have d3:=Obj.data_mapFields hd (·.setIfInBounds 1 (Value.ref h1.objs.size))
  have e3:=Heap.get?_update_self (Obj.mapFields (·.setIfInBounds 1 (Value.ref h1.objs.size))) e2 (Obj.isFreed_of_fields d3)
  have t3:=(Heap.get?_update_other (h1.push ob) (Obj.mapFields (·.setIfInBounds 1 (Value.ref h1.objs.size))) (Ne.symm tne)).trans (Heap.get?_push_size h1 nf)
  refine wpAny_setField e2 hd sz (q _ ?_ ?_)
  · have kp:∀ b o,b≠e->h1.get? b=some o->((h1.push ob).update e (Obj.mapFields (·.setIfInBounds 1 (Value.ref h1.objs.size)))).get? b=some o:=fun b o z y=>by
      rw [Heap.get?_update_other _ _ (Ne.symm z)]
      exact Heap.get?_push_of_some _ y
    refine ⟨fun b o z=>kp b o (fun y=>by rw [y,en] at z; cases z) (b1 b o z),en,ff.of_keeps fun b o z nf'=>?_,_,_,h1.objs.size,ob,_,e3,⟨Obj.cls_mapFields _ _,jco _ _⟩,d3,by simp [sz],⟨b1.fresh,tne⟩,t3,by rw [<- hob],?_⟩
    · obtain ⟨sl,y⟩:=k1.2.2 b o z
      exact ⟨_,kp b _ (fun w=>by rw [w,he] at z; cases z; exact nf' vs hd) y,rfl⟩
    · rcases hpl with rfl | ⟨_,_,_,_,_,_,_,rfl⟩ <;> simp
  · intro b o z nf'
    obtain ⟨sl,y⟩:=k1.2.2 b o z
    refine ⟨sl,?_⟩
    rw [Heap.get?_update_other _ _ (fun w:e=b=>by rw [<- w,he] at z; cases z; exact nf' vs hd)]
    exact Heap.get?_push_of_some _ y
theorem noteD1 {oe:Obj} {vs:Array Value} (fr:A.frames=some (env :: outer)) (ff:s.heap.FunFrames base (env :: outer)) (fL:env.frame=some L)
    (he:s.heap.get? e=some oe) (kb:base.StaysIn s.heap) (en:base.get? e=none) (hd:oe.data = .fields vs) (h1:vs[1]? = some .none)
    (q:∀ h',HdD base (env :: outer) e oe.cls oe.dict L h'->s.heap.UpToSlots h'->Q () { s with heap:=h' }):wpAny M A (noteFrame (.ref e) env) Q E s:=by
  unfold noteFrame
  simp only [fL]
  refine wpAny_bind (wpAny_field he hd h1 ?_)
  rw [if_neg (by decide)]
  exact jeF fr ff fL he kb en hd (Array.getElem?_eq_some_iff.mp h1).1 q
theorem jdV (fr:A.frames=some (env :: outer)) (fL:env.frame=some L) (fl:FlD base (env :: outer) e cls dd s.heap)
    (q:∀ h',HdD base (env :: outer) e cls dd L h'->s.heap.UpToSlots h'->Q () { s with heap:=h' }):wpAny M A (noteFrame (.ref e) env) Q E s:=by
  obtain ⟨kb,en,ff,oe,vs,T,oT,ts,he,⟨rfl,rfl⟩,hd,h1,⟨nT,Te⟩,hT,dT,h3⟩:=fl
  unfold noteFrame
  simp only [fL]
  refine wpAny_bind (wpAny_field he hd h1 ?_)
  rw [if_pos (show (Value.ref T != Value.none)=true from by simp)]
  refine wpAny_bind (wpAny_field hT dT h3 ?_)
  rw [if_neg (show ¬ ((Value.none == rawInt L)=true) from by simp [rawInt])]
  refine wpAny_bind (wpAny_setField hT dT (Array.getElem?_eq_some_iff.mp h3).1 ?_)
  have ot:∀ b,b≠T->(s.heap.update T (Obj.mapFields (·.setIfInBounds 3 Value.none))).get? b=s.heap.get? b:=fun b z=>Heap.get?_update_other _ _ (Ne.symm z)
  have nr:∀ b o,s.heap.get? b=some o->(∀ ws,o.data≠.fields ws)->b≠T:=fun b o z y w=>by
    rw [w,hT] at z
    cases z
    exact y ts dT
  refine jeF fr (ff.of_keeps fun b o z y=>⟨o,(ot b (nr b o z y)).trans z,rfl⟩) fL ((ot e (Ne.symm Te)).trans he) (fun b o z=>(ot b fun w=>by rw [w,nT] at z; cases z).trans (kb b o z)) en hd (Array.getElem?_eq_some_iff.mp h1).1 fun h' x1 x2=>q h' x1 fun b o z y=>x2 b o ((ot b (nr b o z y)).trans z) y
theorem jaZ {fl:Value} (kb:base.StaysIn s.heap) (en:base.get? e=none) (ff:s.heap.FunFrames base l) (tr:TrD s.heap base e cls dd fl)
    (q:∀ h',FlD base l e cls dd h'->s.heap.UpToSlots h'->Q () { s with heap:=h' }):wpAny M A (setFlight (.ref e) none) Q E s:=by
  obtain ⟨oe,vs,T,oT,ts,he,hc,hd,h1,⟨nT,Te⟩,hT,dT,h3⟩:=tr
  have sz:3 < ts.size:=(Array.getElem?_eq_some_iff.mp h3).1
  have ot:∀ b,b≠T->(s.heap.update T (Obj.mapFields (·.setIfInBounds 3 ((none:Option Addr).elim Value.none fun f=>rawInt f)))).get? b=s.heap.get? b:=fun b z=>Heap.get?_update_other _ _ (Ne.symm z)
  have nr:∀ b o,s.heap.get? b=some o->(∀ ws,o.data≠.fields ws)->b≠T:=fun b o z y w=>by
    rw [w,hT] at z
    cases z
    exact y ts dT
  unfold setFlight
  refine wpAny_bind (wpAny_field he hd h1 ?_)
  rw [if_pos (show (Value.ref T != Value.none)=true from by simp)]
  refine wpAny_setField hT dT sz (q _ ⟨fun b o z=>(ot b fun w=>by rw [w,nT] at z; cases z).trans (kb b o z),en,ff.of_keeps fun b o z y=>⟨o,(ot b (nr b o z y)).trans z,rfl⟩,
    oe,vs,T,_,_,(ot e (Ne.symm Te)).trans he,hc,hd,h1,⟨nT,Te⟩,Heap.get?_update_self _ hT (Obj.isFreed_of_fields (Obj.data_mapFields dT _)),Obj.data_mapFields dT _,by simp [sz]⟩ fun b o z y=>⟨o.slots,(ot b (nr b o z y)).trans z⟩)
theorem jeh (hh:HdD base l e cls dd L s.heap) (q:∀ h',FlD base l e cls dd h'->s.heap.UpToSlots h'->Q () { s with heap:=h' }):wpAny M A (setFlight (.ref e) none) Q E s:=by
  obtain ⟨f1,f2,f3,f4⟩:=hh
  exact jaZ f1 f2 f3 f4 q
theorem landD' (hh:FlD base l e cls dd s.heap) (q:∀ h',FlD base l e cls dd h'->s.heap.UpToSlots h'->Q () { s with heap:=h' }):wpAny M A (setFlight (.ref e) none) Q E s:=by
  obtain ⟨f1,f2,f3,f4⟩:=hh
  exact jaZ f1 f2 f3 f4 q
theorem FlD.pop {h:Heap} (f:FlD base (env :: outer) e cls dd h):FlD base outer e cls dd h:=by
  obtain ⟨f1,f2,⟨_,_,f3⟩,f4⟩:=f
  exact ⟨f1,f2,f3,f4⟩
theorem leaveD (fr:A.frames=some (env :: outer)) (fL:env.frame=some L) (fl:FlD base (env :: outer) e cls dd s.heap)
    (q:∀ h',FlD base outer e cls dd h'->s.heap.UpToSlots h'->Q () { s with heap:=h' }):wpAny M A («leaving» env (.ref e)) Q E s:=by
  unfold «leaving»
  refine wpAny_bind (jdV fr fL fl fun h1 hd1 up1=>jeh (s:={ s with heap:=h1 }) hd1 fun h2 fl2 up2=>q h2 fl2.pop (up1.trans up2))
theorem jaT {oe:Obj} {vs:Array Value} (fr:A.frames=some (env :: outer)) (ff:s.heap.FunFrames base (env :: outer)) (fL:env.frame=some L)
    (he:s.heap.get? e=some oe) (kb:base.StaysIn s.heap) (en:base.get? e=none) (hd:oe.data = .fields vs) (h1:vs[1]? = some .none)
    (q:∀ h',FlD base outer e oe.cls oe.dict h'->s.heap.UpToSlots h'->Q () { s with heap:=h' }):wpAny M A («leaving» env (.ref e)) Q E s:=by
  unfold «leaving»
  refine wpAny_bind (noteD1 fr ff fL he kb en hd h1 fun h1 hd1 up1=>jeh (s:={ s with heap:=h1 }) hd1 fun h2 fl2 up2=>q h2 fl2.pop (up1.trans up2))
end
end L2
namespace L2
open PySem PySem.Spec PyProof.Rows
section
variable {P:Program} {w:World} {H:Hp} {h h':Heap} {a:Addr} {o:HO}
theorem jM.there (x:jM P w H h a o):∃ u,h.get? a=some u:=by
  cases o with
  | lst xs =>
    obtain ⟨_,_,_,_,e⟩:=x
    exact ⟨_,e⟩
  | tup xs =>
    obtain ⟨_,_,_,p⟩:=x
    obtain ⟨ob,e,_⟩:=p
    exact ⟨_,e⟩
  | dK kvs =>
    obtain ⟨_,_,_,_,ob,_,_,e,_⟩:=x
    exact ⟨_,e⟩
  | dT kvs =>
    obtain ⟨_,_,_,_,ob,_,_,e,_⟩:=x
    exact ⟨_,e⟩
  | set S n =>
    obtain ⟨ob,_,_,_,e,_⟩:=x
    exact ⟨_,e⟩
  | ins C dx fs =>
    obtain ⟨_,_,_,e,_⟩:=x
    exact ⟨_,e⟩
  | own y=>exact x
  | xd fs =>
    obtain ⟨_,⟨_,_,_,e,_⟩,_⟩:=x
    exact ⟨_,e⟩
  | rng lo hi =>
    obtain ⟨_,_,_,e⟩:=x
    exact ⟨_,e⟩
  | frz ob u =>
    obtain ⟨e,_⟩:=x
    exact ⟨_,e⟩
  | tbl ps=>exact ⟨_,x⟩
  | met f y=>exact ⟨_,x⟩
  | ext φ=>exact x.2.1
theorem HOk.moved (x:HOk P w H h) (k:∀ b o u,H b=some o->h.get? b=some u->h'.get? b=some u):HOk P w H h':=fun a o e =>
  (x a o e).stay (fun b u hb q=>by
    rcases hb with rfl | hb
    · exact k _ _ u e q
    · exact k _ _ u hb q) (fun _ z=>z) fun _ _ z=>z
end
def CX1 (P:Program) (w:World):CXT:=fun outer H s E e s'=>∃ (ea C:Addr) (dd:Option Addr) (H':Hp) (B:Heap),e = .ref ea∧s'.os=s.os∧AllBare s'.gens∧FlD B outer ea (.ref C) dd s'.heap ∧
  (∀ b o,s.heap.get? b=some o->H b=none->b ∉ frs outer->B.get? b=some o)∧(∀ b o,s.heap.get? b=some o->b ∉ frs outer->∃ o',B.get? b=some o') ∧
  (∀ b o,H' b=some o->∃ u,B.get? b=some u)∧Un (frs outer) [] H H' s.heap s'.heap∧HOk P w H' s'.heap∧E (.ref C) dd H'
theorem CX1.step {P:Program} {w:World} {outer:List Env} {H₀ H':Hp} {s₀ s':Shared} {h h'':Heap} {B:Heap} {ea C:Addr} {dd:Option Addr} {E:XK} (ho:s'.os=s₀.os) (hb:AllBare s'.gens)
    (fl:FlD B outer ea (.ref C) dd h'') (up:h.UpToSlots h'') (st:B.StaysIn h) (hfr:∀ b ∈ frs outer,H₀ b=none) (hff:∀ b ∈ frs outer,∀ o,h.get? b=some o->∀ vs,o.data≠.fields vs)
    (k1:∀ b o,s₀.heap.get? b=some o->H₀ b=none->b ∉ frs outer->B.get? b=some o) (k2:∀ b o,s₀.heap.get? b=some o->b ∉ frs outer->∃ o',B.get? b=some o')
    (k3:∀ b o,H' b=some o->∃ u,B.get? b=some u) (u:Un (frs outer) [] H₀ H' s₀.heap h) (hok:HOk P w H' h) (q:E (.ref C) dd H'):CX1 P w outer H₀ s₀ E (.ref ea) { s' with heap:=h'' }:=by
  have slot:∀ b o,s₀.heap.get? b=some o->H₀ b=none->b ∈ frs outer->∃ sl,h''.get? b=some { o with slots:=sl }:=fun b o e n hm=>by
    obtain ⟨sl,e1⟩:=u.slot b o e n hm (by simp)
    obtain ⟨sl',e2⟩:=up b _ e1 (hff b hm _ e1)
    exact ⟨sl',e2⟩
  refine ⟨ea,C,dd,H',B,rfl,ho,hb,fl,k1,k2,k3,⟨fun b o e n hm _=>fl.1 b o (k1 b o e n hm),fun b o e n hm _=>slot b o e n hm,u.free,fun b o e _=>?_,u.tups,u.frzs,u.tbls⟩,?_,q⟩
  · by_cases hm:b ∈ frs outer
    · obtain ⟨sl,e2⟩:=slot b o e (hfr b hm) hm
      exact ⟨_,e2⟩
    · obtain ⟨o',e2⟩:=k2 b o e hm
      exact ⟨o',fl.1 b o' e2⟩
  · refine hok.moved fun b o u' e q'=>?_
    obtain ⟨u2,e2⟩:=k3 b o e
    have e3:=st b u2 e2
    rw [q'] at e3
    cases e3
    exact fl.1 b _ e2
section
variable {P:Program} {w:World} {K:PySem.W.Frag} {mg:Str->Option Value} {base:Heap} {N:List Str} {qual:Str} {scope:Scope} {f:Addr} {cd:Value} {A:Around} {outer:List Env} {s₀:Shared} {H₀:Hp} {E:XK}
theorem vg {b:Addr} {o:Obj} (e:s₀.heap.get? b=some o) (hm:b ∉ frs outer):b ∉ frs (envOfC qual scope s₀.heap.objs.size f cd :: outer):=fun hb=>by
  have hb:b ∈ s₀.heap.objs.size :: frs outer:=hb
  rcases List.mem_cons.mp hb with rfl | hb
  · exact Nat.lt_irrefl _ (Heap.lt_size e)
  · exact hm hb
theorem jeR {pins:List (Addr × Obj)} {σ:St} {H:Hp} {s:Shared} {e C:Addr} {us:List Value} {h':Heap} (I:Inv (yz (CX1 P w) P w K mg base N qual scope f cd A outer s₀ H₀ E) pins σ H s)
    (hx:Heap.MadeExcOf s.heap h' e (.ref C) us) (q:E (.ref C) none H):(yz (CX1 P w) P w K mg base N qual scope f cd A outer s₀ H₀ E).xe (.ref e) { s with heap:=h' }:=by
  have hst:s.heap.FunFrames base (envOfC qual scope s₀.heap.objs.size f cd :: outer):=I.stack
  have hin:∀ env ∈ (envOfC qual scope s₀.heap.objs.size f cd :: outer),∀ b,env.frame=some b->b ∈ frs (envOfC qual scope s₀.heap.objs.size f cd :: outer):=fun env he b hb=>List.mem_filterMap.mpr ⟨env,he,hb⟩
  have jgq:=PySem.W.funFrames_hide hst hin
  obtain ⟨t,he,htn,ht⟩:=hx.there
  have hn:(PySem.W.hideAll s.heap (frs (envOfC qual scope s₀.heap.objs.size f cd :: outer))).get? e=none:=by
    cases z:(PySem.W.hideAll s.heap (frs (envOfC qual scope s₀.heap.objs.size f cd :: outer))).get? e with
    | none=>rfl
    | some o =>
      have:=PySem.W.of_hideAll _ z
      rw [hx.new] at this
      cases this
  refine jaT (base:=PySem.W.hideAll s.heap (frs (envOfC qual scope s₀.heap.objs.size f cd :: outer))) (s:={ s with heap:=h' }) I.ok.frames (jgq.of_keeps fun b o z _=>⟨o,hx.keeps b o z,rfl⟩) rfl he (fun b o z=>hx.keeps b o (PySem.W.of_hideAll _ z)) hn rfl rfl fun h'' fl up=>?_
  have kB:∀ b o,s.heap.get? b=some o->b ∉ frs (envOfC qual scope s₀.heap.objs.size f cd :: outer)->(PySem.W.hideAll s.heap (frs (envOfC qual scope s₀.heap.objs.size f cd :: outer))).get? b=some o:=fun b o z n=>PySem.W.hideAll_get _ z n
  have ub:Un (frs outer) [] H₀ H s₀.heap s.heap:=I.base
  have bsx:∀ b o,s₀.heap.get? b=some o->H₀ b=none->b ∉ frs outer->s.heap.get? b=some o:=fun b o z n hm=>ub.keep b o z n hm (by simp)
  refine CX1.step (s':=s) (h:=s.heap) I.os I.bare fl (fun b o z nf=>up b o (hx.keeps b o z) nf) (fun b o z=>PySem.W.of_hideAll _ z) I.ok.frf (fun b hb o z=>?_) (fun b o z n hm=>kB b o (bsx b o z n hm) (vg z hm)) (fun b o z hm=>?_) (fun b o z=>?_) ub I.hok q
  · obtain ⟨_,o',e1,e2⟩:=hst.mem (b:=b) (List.mem_cons_of_mem _ hb)
    rw [z] at e1
    cases e1
    exact e2
  · obtain ⟨o',e1⟩:=ub.there b o z (by simp)
    exact ⟨o',kB b o' e1 (vg z hm)⟩
  · obtain ⟨u,e1⟩:=(I.hok b o z).there
    refine ⟨u,kB b u e1 fun hm=>?_⟩
    have:=I.stkFree b hm
    rw [z] at this
    cases this
theorem jgz:Passes (CX1 P w) (yz (CX1 P w) P w K mg base N qual scope f cd A outer s₀ H₀ E) E:=by
  intro pins σ H s e s' I h
  obtain ⟨ea,C,dd,H',B,rfl,ho,hb,fl,k1,k2,k3,u,hok,q⟩:=h
  have ub:Un (frs outer) [] H₀ H s₀.heap s.heap:=I.base
  have fl:FlD B (envOfC qual scope s₀.heap.objs.size f cd :: outer) ea (.ref C) dd s'.heap:=fl
  have u:Un (frs (envOfC qual scope s₀.heap.objs.size f cd :: outer)) [] H H' s.heap s'.heap:=u
  have J:=I.call' ho u hok hb (ch:=[]) (fun b hb=>by simp at hb)
  have uj:Un (frs outer) [] H₀ H' s₀.heap s'.heap:=J.base
  have ofr:∀ b ∈ frs outer,b ∈ frs (envOfC qual scope s₀.heap.objs.size f cd :: outer):=fun b hb=>List.mem_cons_of_mem _ hb
  refine leaveD I.ok.frames rfl fl fun h' fl' up=>?_
  refine CX1.step (s':=s') (h:=s'.heap) (ho.trans I.os) hb fl' up fl.1 I.ok.frf (fun b hb o z=>?_) (fun b o z n hm=>k1 b o (ub.keep b o z n hm (by simp)) (ub.free b o z n (by simp)) (vg z hm)) (fun b o z hm=>?_) k3 uj hok q
  · obtain ⟨_,o',e1,e2⟩:=fl.2.2.1.mem (b:=b) (ofr b hb)
    rw [z] at e1
    cases e1
    exact e2
  · obtain ⟨o',e1⟩:=ub.there b o z (by simp)
    exact k2 b o' e1 (vg z hm)
end
theorem Fun.okX {P:Program} {w:World} {K:PySem.W.Frag} {mg:Str->Option Value} {base:Heap} {x qual:Str} {st:Stmt} {f:Addr} {fd:FuncData} {N ps:List Str} {k:Nat} {sp:Sp} (F:Fun K x qual st f fd) (S:FnScope N ps (jd st)) (len:∀ vs H Q E,sp vs H Q E->vs.length=ps.length)
    (hbody:∀ (cdv:Value) (A:Around) (outer:List Env) (s:Shared) (H:Hp) (vs:List V) (Q:VK) (E:XK),Room k (A.deeper (envOfC qual (jd st) s.heap.objs.size f cdv))->sp vs H Q E ->
      ∃ t,PSs (yz (CX1 P w) P w K mg base N qual (jd st) f cdv A outer s H E) (jn st) t∧t { nx:=fun _ H'=>Q .non H',rt:=Q } (start N vs) H):FnOk P w K mg base (CX1 P w) (k + 1) f fd ps sp:=by
  obtain ⟨oc,od,kV,doc,pm,an,cdv,ct,osl,rfl,lk,hcd⟩:=F.ex
  exact jaY lk hcd S len fun A outer s H vs Q E hr hsp=>hbody cdv A outer s H vs Q E hr hsp
end L2
namespace L2
open PySem PySem.Spec PyProof.Rows
def tFmtI (tv:TE):TE:=fun σ H Q=>tv σ H fun x H1=>∃ i:Int,x = .int i∧i.natAbs.log2 < 1920∧Q (.str (toString i)) H1
abbrev TJ:=St->Hp->Str->(Str->Hp->Prop)->Prop
def PJ (X:Cx) (es:List Expr) (t:TJ):Prop :=
  ∀ (pins:List (Addr × Obj)) (s:Shared) (σ:St) (H:Hp) (out:Str) (Q:Str->Hp->Prop),Inv X pins σ H s->t σ H out Q ->
    wpAny (model X.prog X.w) X.A (joinParts out (evalEach es X.env)) (EP X pins σ fun v H'=>∃ z,v = .str z∧Q z H') X.xe s
def tjNil:TJ:=fun _ H out Q=>out.length<=sizeLine∧Q out H
def jhs (te:TE) (tr:TJ):TJ:=fun σ H out Q=>te σ H fun x H1=>∃ y,x = .str y∧(out ++ y).length<=sizeLine∧tr σ H1 (out ++ y) Q
def tFstr (t:TJ):TE:=fun σ H Q=>t σ H Str.empty fun z H1=>Q (.str z) H1
section
variable {X:Cx} {e e2:Expr} {es:List Expr} {te tv:TE} {t:TJ} {pos:Pos}
theorem jfY (hv:PE X e tv):PE X (.FormattedValue e (-1) none pos) (tFmtI tv):=by
  intro pins s σ H Q I h
  refine FormattedValue_plain (thn (hv pins s σ H _ I h) fun v s1 hQQ=>?_)
  obtain ⟨x,H1,I1,r1,i,ei,hi,q⟩:=hQQ
  subst ei
  obtain ⟨tk,rfl⟩:=(show ∃ tk,v=Value.int i tk from r1)
  exact formatField_int_small hi ⟨.str (toString i),H1,I1.tok _,⟨_,rfl⟩,q⟩
theorem pj_nil:PJ X [] tjNil:=fun pins s σ H out Q I h=>joinParts_nil ⟨.str out,H,I.tok _,⟨_,rfl⟩,out,rfl,h.2⟩ h.1
theorem jaK (he:PE X e te) (hr:PJ X es t) (hs:evalEach (e :: es) X.env=eval e X.env :: evalEach es X.env:=by rfl):PJ X (e :: es) (jhs te t):=by
  intro pins s σ H out Q I h
  rw [hs]
  refine joinParts_cons (thn (he pins s σ H _ I h) fun v s1 hQQ=>?_)
  obtain ⟨x,H1,I1,r1,y,ey,hz,q⟩:=hQQ
  subst ey
  obtain ⟨tk,rfl⟩:=(show ∃ tk,v=Value.str y tk from r1)
  exact ⟨hz,hr pins s1 σ H1 _ Q I1 q⟩
theorem jfX (h:PJ X (e :: e2 :: es) t) (hs:evalEach (e :: e2 :: es) X.env=eval e X.env :: eval e2 X.env :: evalEach es X.env:=by rfl):PE X (.JoinedStr (e :: e2 :: es) pos) (tFstr t):=by
  intro pins s σ H Q I q
  refine JoinedStr_many ?_
  rw [<- hs]
  refine thn (h pins s σ H Str.empty _ I q) fun v s1 hQQ=>?_
  obtain ⟨x,H1,I1,r1,z,ez,q1⟩:=hQQ
  subst ez
  exact ⟨_,H1,I1,r1,q1⟩
end
abbrev vC:List Value:=[.type "ValueError",.type "Exception",.type "BaseException",.type "object"]
theorem jgu {K:PySem.W.Frag} {h:Heap} {C:Addr} {bmB:List Value} {newId:String} (KX:K.In h) (hq:PySem.W.excIn K C bmB newId=true) :
    ∃ (tl:List Value) (Nn:Addr) (n1 n2:Str) (bs:List Value) (b1:Bool) (sn:List Str) (sub:List Value) (b2:Bool) (col:Option Bool) (dd:Option Addr) (j0 j1 j2 j3 j5:Option Value) (mN:Str->Option Value),
      h.get? C=some (excClassObj n1 n2 C Nn bs tl b1 sn sub b2 col dd j0 j1 j2 j3 j5 newId)∧h.Ns Nn mN∧mN "__init__" = none∧OwnTail h bmB tl:=by
  unfold PySem.W.excIn at hq
  split at hq
  case h_2=>cases hq
  case h_1 dd cdat slots look =>
    split at hq
    case h_2=>cases hq
    case h_1 C2 tl j0 j1 j2 j3 idn j5 emro eslots =>
      simp only [Bool.and_eq_true,beq_iff_eq,Bool.not_eq_true'] at hq
      obtain ⟨⟨⟨⟨⟨z1,z2⟩,z3⟩,z4⟩,z5⟩,z6⟩:=hq
      subst z1
      subst z2
      obtain ⟨n1,bs,mr,nsa,n2,b1,sn,sub,b2,col,b3⟩:=cdat
      have z3':b3=false:=z3
      have em:mr = .ref C2 :: tl:=emro
      subst z3'
      subst em
      have es:slots = #[j0,j1,j2,j3,some (.builtin idn),j5]:=by
        cases slots with
        | mk l =>
          have:l=[j0,j1,j2,j3,some (.builtin idn),j5]:=eslots
          rw [this]
      subst es
      refine ⟨tl,nsa,n1,n2,bs,b1,sn,sub,b2,col,dd,j0,j1,j2,j3,j5,h.nsMap nsa,KX _ _ look,?_⟩
      exact ⟨.of_isNs (PySem.W.isNs_of_in KX z5),PySem.W.nsMap_none_of_in KX z5 z6,PySem.W.tail_of_in KX z4⟩
structure Exc (K:PySem.W.Frag) (mg:Str->Option Value) (x:Str) (C:Addr):Prop where
  at_:mg x=some (.ref C)
  ex:PySem.W.excIn K C vC "ValueError.__new__" = true
def jhv (C:Addr) (E:XK) (t:TA):TS:=fun _ σ H=>t σ H fun vs H1=>vs.length<=sizeLine∧E (.ref C) none H1
theorem jdy {P:Program} {w:World} {K:PySem.W.Frag} {mg:Str->Option Value} {base:Heap} {N:List Str} {qual:Str} {scope:Scope} {f:Addr} {cd:Value} {A:Around} {outer:List Env} {s₀:Shared} {H₀:Hp} {E:XK}
    {x:Str} {C:Addr} {np cpos pos:Pos} {e:Expr} {es:List Expr} {t:TA} (hC:Exc K mg x C) (hg:Gl (yz (CX1 P w) P w K mg base N qual scope f cd A outer s₀ H₀ E) x) (ha:PA (yz (CX1 P w) P w K mg base N qual scope f cd A outer s₀ H₀ E) (e :: es) t)
    (hdb:(x == ("__debug__":Str))=false:=by decide)
    (he:starEach (e :: es) (envOfC qual scope s₀.heap.objs.size f cd)=(false,eval e (envOfC qual scope s₀.heap.objs.size f cd)) :: starEach es (envOfC qual scope s₀.heap.objs.size f cd):=by rfl)
    (hpl:(backTo cpos (starEach es (envOfC qual scope s₀.heap.objs.size f cd))).any (·.1)=false:=by rfl) :
    PS (yz (CX1 P w) P w K mg base N qual scope f cd A outer s₀ H₀ E) (.Raise (some (.Call (.Name x np) (e :: es) [] cpos)) none pos) (jhv C E t):=by
  intro pins s σ H D I h
  obtain ⟨tl,Nn,n1,n2,bs,b1,sn,sub,b2,col,dd,j0,j1,j2,j3,j5,mN,o1,o2,o3,o4⟩:=jgu I.ok.mod.kin hC.ex
  refine wpAny_Raise_call_subT (C:=C) (nm:=n1) (q:=n2) (N:=Nn) (bs:=bs) (bm:=tl) (hdct:=b1) (sn:=sn) (sub:=sub) (ab:=b2) (col:=col) (dd:=dd) (k0:=j0) (k1:=j1) (k2:=j2) (k3:=j3) (k5:=j5) PySem.F.excBase_ValueError
    (mN:=mN) (o4.hasType PySem.F.excBase_ValueError.hasBase) (I.ok.hd rfl) (by
      show (backTo cpos (starEach (e :: es) (envOfC qual scope s₀.heap.objs.size f cd))).any (·.1)=false
      rw [he]
      show (false || (backTo cpos (starEach es (envOfC qual scope s₀.heap.objs.size f cd))).any (·.1))=false
      rw [hpl]
      rfl) o3 (vd I hg hC.at_ ⟨rfl,?_⟩ hdb)
  have hp:=ha cpos pins s σ H _ I h
  have hp2:wpAny (model P w) (A.deeper (envOfC qual scope s₀.heap.objs.size f cd)) (spliced (backTo cpos (starEach (e :: es) (envOfC qual scope s₀.heap.objs.size f cd)))) _ _ s:=hp
  show wpAny (model P w) (A.deeper (envOfC qual scope s₀.heap.objs.size f cd)) (evalArgs (.ref C) true (backTo cpos (starEach (e :: es) (envOfC qual scope s₀.heap.objs.size f cd))) []) _ _ s
  rw [he] at hp2 ⊢
  refine Calls.evalArgs_plain (thn hp2 fun us s2 z=>?_)
  obtain ⟨vs,H1,I1,rv,hz,q⟩:=z
  refine ⟨rfl,by rw [<- rv.length]; exact hz,I1.bk _ _ o1,o2.keeps I1.bk,o4.keeps I1.bk,fun h' ea hx=>jeR I1 hx q⟩
end L2
namespace L2
open PySem PySem.Spec PyProof.Rows
def Vb (ea C:Addr) (dd:Option Addr):HO:=.ext fun h=>∃ o vs,h.get? ea=some o∧o.cls = .ref C∧o.data = .fields vs∧o.dict=dd
structure ExcK (K:PySem.W.Frag) (C:Addr):Prop where
  ga:PySem.W.findIn K (.ref C) "__getattribute__" = some (some (.builtin "BaseException.__getattribute__"))
  cl:PySem.W.findIn K (.ref C) "__class__" = some (some (.builtin "object.__class__"))
  ob:PySem.W.mroIn K C (.type "object")=some true
  be:PySem.W.mroIn K C (.type "BaseException")=some true
  isc:(PySem.W.clsIn K C).isSome=true
  gh:PySem.W.findIn K (.ref C) "__getattr__" = some none
section
variable {prog:Program} {w:World} {A:Around} {E:Value->Shared->Prop} {K:PySem.W.Frag} {x C:Addr} {h:Heap} {g:Array GenState} {d:Drawn} {t:Nat} {os:OsState}
open PySem.W PySem.Calls Builtin Builtin.ObjectAttr Builtin.Getset_descriptor in
theorem jhk {R:Result->Shared->Prop} {tp:Value} (KX:K.In h) (L0:Looks (model prog w) h (typeOf (.ref x)) (.ref C)) (hm:mroIn K C (.type "object")=some true)
    (hR:R (.ok (.ret (.ref C))) ⟨h,g,d,t,os⟩):codeAny (model prog w) A (.call (.builtin "getset_descriptor.__get__") ⟨[.builtin "object.__class__",.ref x,tp],[]⟩) R ⟨h,g,d,t,os⟩:=by
  have L1:=looks_mroIn (M:=model prog w) KX hm
  refine codeAny_call_builtin KF.slot_gs.plain
    KF.entry_gs (KF.slot_gs.check _ _ _ _ _ _ _ _
      KF.type_class (KF.args_gs _ _ _) ?_)
  unfold Builtin.«getset_descriptor.__get__»
  unfold descrGet
  rw [dga_obj]
  refine wpAny_bind (wpAny_pure ?_)
  unfold descrGetter descrCheckInstance
  unfold descrNameAndClass isInstance
  simp only [KF.owner_class]
  repeat lk
  refine ⟨Code.quiet_builtin _ (by decide +kernel),
    codeAny_builtin KF.entry_class ?_⟩
  unfold Builtin.«object.__class__»
  unfold shownTypeOf
  repeat lk
  exact hR
open PySem.W PySem.Calls in
theorem jcE {tk:Tok} {Q:PySem.Fin->Shared->Prop} (KX:K.In h) (L0:Looks (model prog w) h (typeOf (.ref x)) (.ref C)) (X:ExcK K C) (hq:Q (.done (.ret (.ref C))) ⟨h,g,d,t,os⟩) :
    wpAny (model prog w) A (Builtin.«object.__getattribute__» ⟨[.ref x,.str "__class__" tk],[]⟩) Q E ⟨h,g,d,t,os⟩:=by
  have L4:=looks_findIn (M:=model prog w) KX X.cl
  have hT5:(⟨h,g,d,t,os⟩:Shared).TypeIs (.builtin "object.__class__") "getset_descriptor":=F.typeOf_object_class
  have g5:=F.typeOf_object_class
  have g6:=F.slot_gs_get.lookup
  have g7:=F.slot_gs_set.lookup
  repeat (any_goals (first
    | assumption
    | with_reducible refine L0.at ?_
    | with_reducible refine L4.at ?_
    | wp_step))
  refine jhk KX L0 X.ob ?_
  repeat (any_goals (first | assumption | wp_step))
open PySem.W PySem.Calls in
theorem jfj {tk:Tok} {R:Result->Shared->Prop} (KX:K.In h) (L0:Looks (model prog w) h (typeOf (.ref x)) (.ref C)) (X:ExcK K C) (hR:R (.ok (.ret (.ref C))) ⟨h,g,d,t,os⟩) :
    codeAny (model prog w) A (.call (.builtin "BaseException.__getattribute__") ⟨[.ref x,.str "__class__" tk],[]⟩) R ⟨h,g,d,t,os⟩:=by
  have L5:=looks_mroIn (M:=model prog w) KX X.be
  refine codeAny_call_builtin F.attrBase_ValueError.ga.plain F.entry_bexc_ga ?_
  have hk:builtinKind "BaseException.__getattribute__" = some .slot:=by decide +kernel
  have hsp:splitId "BaseException.__getattribute__" = some ("BaseException","__getattribute__"):=by decide +kernel
  have ha:=F.args_bexc_ga (.ref x) (.str "__class__" tk)
  simp only [checkBuiltinCall,hk,hsp]
  refine wpAny_bind ?_
  refine wpAny_bind ?_
  refine L0.at ?_
  refine L5.at ?_
  rw [if_neg (by decide)]
  unfold argsOk at ha
  generalize Manifest.signature? "BaseException.__getattribute__" = sg at ha ⊢
  refine Eq.subst (motive:=fun m=>wpAny (model prog w) A.in1 m _ _ _) (a:=pure ()) ?_ (wpAny_pure ?_)
  · cases sg with
    | none=>rfl
    | some sig=>exact ha.symm
  refine jcE KX L0 X ?_
  exact hR
open PySem.W PySem.Calls in
theorem xc_by {tk:Tok} {fill expr:Bool} {Q:Value->Shared->Prop} (KX:K.In h) (L0:Looks (model prog w) h (typeOf (.ref x)) (.ref C)) (X:ExcK K C) (hq:Q (.ref C) ⟨h,g,d,t,os⟩) :
    wpAny (model prog w) A (getAttrBy (.ref x) (.str "__class__" tk) fill expr) Q E ⟨h,g,d,t,os⟩:=by
  have L6:=looks_findIn (M:=model prog w) KX X.ga
  have L7:=looks_findIn (M:=model prog w) KX X.gh
  have f3:=F.attrBase_ValueError.ga.bind (.ref x)
  have y0:(expr && onTheHeap (Value.builtin "BaseException.__getattribute__"))=false:=by cases expr <;> rfl
  have y2:(Value.builtin "BaseException.__getattribute__" == Value.builtin "object.__getattribute__")=false:=by decide +kernel
  have y1:(onTheHeap (Value.ref C) && Value.builtin "BaseException.__getattribute__" == Value.builtin "object.__getattribute__")=false:=by rw [y2]; rfl
  repeat (any_goals (first
    | assumption
    | with_reducible refine L0.at ?_
    | with_reducible refine L6.at ?_
    | with_reducible refine L7.at ?_
    | wp_step))
  refine jfj KX L0 X ?_
  repeat (any_goals (first | assumption | wp_step))
open PySem.W PySem.Calls in
theorem jfk {Q:Option Value->Shared->Prop} {s:Shared} (KX:K.In s.heap) (L0:Looks (model prog w) s.heap (typeOf (.ref x)) (.ref C)) (X:ExcK K C) (hq:Q (some (.ref C)) { s with toks:=s.toks + 1 }) :
    wpAny (model prog w) A (getAttr? (.ref x) "__class__") Q E s:=by
  obtain ⟨h,g,d,t,os⟩:=s
  unfold getAttr? getAttrBy?
  refine wpAny_bind (wpAny_mkText (wpAny_bind (wpAny_attempt ?_)))
  exact xc_by KX L0 X (wpAny_pure hq)
end
end L2
namespace L2
open PySem PySem.Spec PyProof.Rows
theorem jhj {K:PySem.W.Frag} {ea C:Addr} {dd:Option Addr} (X:ExcK K C):PySem.W.KitX K (.ref ea) (.ref C) (fun h=>∃ o vs,h.get? ea=some o∧o.cls = .ref C∧o.data = .fields vs∧o.dict=dd) where
  ty:=fun M h _ hQQ=>by
    obtain ⟨o,vs,e,hc,hd⟩:=hQQ
    intro A' Q' E' s' k q
    unfold typeOf
    refine wpAny_bind (wpAny_loadPart (k _ _ e) ?_)
    rw [<- hc] at q
    exact wpAny_pure q
  it:=fun M h KX _=>by
    obtain ⟨cd,hc⟩:=Option.isSome_iff_exists.mp X.isc
    unfold PySem.W.clsIn at hc
    split at hc
    · rename_i a1 a2 a3 a4 look
      intro A' Q' E' s' k q
      unfold isType loadHead
      exact wpAny_bind (wpAny_loadPart (k _ _
        (KX _ _ look)) (wpAny_pure q))
    · cases hc
  ne:=fun h tp dd its n sl KX htp=>by
    obtain ⟨cd,hc⟩:=Option.isSome_iff_exists.mp X.isc
    refine Bool.eq_false_iff.mpr fun q=>?_
    have e:C=tp:=Value.ref.inj (beq_iff_eq.mp q)
    subst e
    unfold PySem.W.clsIn at hc
    split at hc
    · rename_i a1 a2 a3 a4 look
      have y:=(KX _ _ look).symm.trans htp
      cases y
    · cases hc
  ca:=fun {prog w A E Q s} KX ⟨o,vs,e,hc,hd⟩ hq=>by
    refine jfk KX ?_ X hq
    intro A' Q' E' s' k q
    unfold typeOf
    refine wpAny_bind (wpAny_loadPart (k _ _ e) ?_)
    rw [<- hc] at q
    exact wpAny_pure q
theorem jai {X:Cx}:yf X (.builtin "isinstance") (fun xs H Q=>∃ ea C dd c cv b,xs=[.ref ea,c]∧H ea=some (Vb ea C dd)∧ExcK X.K C∧jv c cv∧((∃ n,c = .ty n)∨∃ a,c = .ref a)∧PySem.W.kitOne X.K (.ref C) cv=some b∧Q (.bl b) H):=by
  intro pins s σ H xs us Q I r h
  obtain ⟨ea,C,dd,c,cv,b,rfl,hH,hX,rc,hcf,e,q⟩:=h
  obtain ⟨u,w',rfl,rx,rw'⟩:=Yt r
  cases rx
  have ew:w'=cv:=by
    rcases hcf with ⟨n,rfl⟩ | ⟨a,rfl⟩
    · exact (show w'=Value.type n from rw').trans (show cv=Value.type n from rc).symm
    · exact (show w'=Value.ref a from rw').trans (show cv=Value.ref a from rc).symm
  subst ew
  obtain ⟨p,_⟩:=(show jM X.prog X.w H s.heap ea (Vb ea C dd) from I.hok ea _ hH)
  exact PySem.W.kia_one (jhj hX) I.kIn p e (fun z=>nomatch z) fun tk=>⟨.bl b,H,I.tok _,rfl,q⟩
end L2
namespace L2
open PySem PySem.Spec PyProof.Rows
def Ul (X:Cx) (pins:List (Addr × Obj)) (H:Hp) (b:Addr):Prop :=
  b=X.env.locals∨(∃ x,X.env.cells.lookup x=some b)∨(∃ p ∈ X.pn ++ pins,p.1=b)∨(∃ o,H b=some o)∨∃ o,X.s₀.heap.get? b=some o∧b ∉ X.ex
structure Fly (X:Cx) (pins:List (Addr × Obj)) (σ:St) (H:Hp) (B:Heap) (ea C:Addr) (dd:Option Addr) (s:Shared):Prop where
  inv:Inv X pins σ H s
  fl:FlD B X.stack ea (.ref C) dd s.heap
  kn:∀ b,Ul X pins H b->b ∉ frs X.stack->∃ o,B.get? b=some o
section
variable {X:Cx} {pins:List (Addr × Obj)} {σ:St} {H:Hp} {s:Shared} {B h':Heap} {ea C a:Addr} {dd:Option Addr} {o:HO}
theorem Inv.flew {t':Nat} (I:Inv X pins σ H s) (st:B.StaysIn s.heap) (st':B.StaysIn h') (up:s.heap.UpToSlots h') (kn:∀ b,Ul X pins H b->b ∉ frs X.stack->∃ o,B.get? b=some o) :
    Inv X pins σ H { s with heap:=h',toks:=t' }:=by
  have got:∀ b o,Ul X pins H b->b ∉ frs X.stack->s.heap.get? b=some o->h'.get? b=some o:=fun b o hp hf e=>by
    obtain ⟨o',q⟩:=kn b hp hf
    have q2:=st b o' q
    rw [e] at q2
    cases q2
    exact st' b _ q
  have slot:∀ b o,b ∈ frs X.stack->s.heap.get? b=some o->∃ sl,h'.get? b=some { o with slots:=sl }:=fun b o hb e=>by
    obtain ⟨_,o',e1,e2⟩:=I.stack.mem hb
    rw [e] at e1
    cases e1
    exact up b o e e2
  have any:∀ b o,Ul X pins H b->s.heap.get? b=some o->∃ sl,h'.get? b=some { o with slots:=sl }:=fun b o hp e=>by
    by_cases hf:b ∈ frs X.stack
    · exact slot b o hf e
    · exact ⟨o.slots,got b o hp hf e⟩
  have neL:∀ b o,X.s₀.heap.get? b=some o->b≠X.env.locals:=fun b o e=>Nat.ne_of_lt (Nat.lt_of_lt_of_le (Heap.lt_size e) I.ok.above)
  have nst:∀ b,b≠X.env.locals->b ∉ X.fs->b ∉ frs X.stack:=fun b hL hb z=>(List.mem_cons.mp (I.stkSub b z)).elim hL hb
  have cellK:∀ x c,X.env.cells.lookup x=some c->∀ v,s.heap.IsCell c v->h'.IsCell c v:=fun x c e v hQQ=>by
    obtain ⟨o,ho,hd⟩:=hQQ
    obtain ⟨sl,q⟩:=any c o (.inr (.inl ⟨x,e⟩)) ho
    exact ⟨_,q,hd⟩
  refine ⟨I.ok,I.os,I.bare,⟨fun b o e n hb hx=>?_,fun b o e n hb hx=>?_,I.base.free,fun b o e hx=>?_,I.base.tups,I.base.frzs,I.base.tbls⟩,?_,fun x c e=>?_,I.free,I.freeC,fun p hp=>?_,?_,I.len⟩
  · exact got b o (.inr (.inr (.inr (.inr ⟨o,e,hx⟩)))) (nst b (neL b o e) hb) (I.base.keep b o e n hb hx)
  · obtain ⟨sl,e1⟩:=I.base.slot b o e n hb hx
    obtain ⟨sl',e2⟩:=any b _ (.inr (.inr (.inr (.inr ⟨o,e,hx⟩)))) e1
    exact ⟨sl',e2⟩
  · obtain ⟨o',e1⟩:=I.base.there b o e hx
    obtain ⟨sl',e2⟩:=any b _ (.inr (.inr (.inr (.inr ⟨o,e,hx⟩)))) e1
    exact ⟨_,e2⟩
  · obtain ⟨m,⟨o,es,ep,ho,r⟩,hl⟩:=I.loc
    obtain ⟨sl,q⟩:=any _ o (.inl rfl) ho
    refine ⟨m,⟨_,es,ep,q,r⟩,fun i x v e1 e2 e3=>?_⟩
    obtain ⟨u,r,l⟩:=hl i x v e1 e2 e3
    refine ⟨u,r,?_⟩
    rcases l with l | ⟨k,c,e,z⟩
    · exact .inl l
    · exact .inr ⟨k,c,e,cellK x c e _ z⟩
  · obtain ⟨v,z⟩:=I.cell x c e
    exact ⟨v,cellK x c e v z⟩
  · obtain ⟨e,n,ne,nf,d⟩:=I.pin p hp
    exact ⟨got p.1 p.2 (.inr (.inr (.inl ⟨p,hp,rfl⟩))) (nst p.1 ne nf) e,n,ne,nf,d⟩
  · refine I.hok.moved fun b o u e q=>got b u (.inr (.inr (.inr (.inl ⟨o,e⟩)))) (fun z=>?_) q
    have:=I.stkFree b z
    rw [e] at this
    cases this
theorem Fly.turn {t':Nat} (F:Fly X pins σ H B ea C dd s) (fl:FlD B X.stack ea (.ref C) dd h') (up:s.heap.UpToSlots h'):Fly X pins σ H B ea C dd { s with heap:=h',toks:=t' } :=
  ⟨F.inv.flew F.fl.1 fl.1 up F.kn,fl,F.kn⟩
theorem Fly.obj (F:Fly X pins σ H B ea C dd s):∃ o vs,s.heap.get? ea=some o∧o.cls = .ref C∧o.data = .fields vs∧o.dict=dd:=by
  obtain ⟨oe,vs,T,oT,ts,e1,e2,e3,_⟩:=F.fl.2.2.2
  exact ⟨oe,vs,e1,e2.1,e3,e2.2⟩
theorem Fly.notp (F:Fly X pins σ H B ea C dd s):¬ Ul X pins H ea:=fun hp=>by
  obtain ⟨o,vs,e1,_,e3,_⟩:=F.obj
  have hf:ea ∉ frs X.stack:=fun z=>by
    obtain ⟨_,o',q1,q2⟩:=F.inv.stack.mem z
    rw [e1] at q1
    cases q1
    exact q2 _ e3
  obtain ⟨o',q⟩:=F.kn ea hp hf
  rw [F.fl.2.1] at q
  cases q
theorem Inv.track (I:Inv X pins σ H s) (np:¬ Ul X pins H a) (new:jM X.prog X.w (upd H a o) s.heap a o):Inv X pins σ (upd H a o) s:=by
  have hn:H a=none:=by
    cases q:H a with
    | none=>rfl
    | some u=>exact absurd (.inr (.inr (.inr (.inl ⟨u,q⟩)))) np
  refine ⟨I.ok,I.os,I.bare,⟨I.base.keep,I.base.slot,fun b ob e n hx=>?_,I.base.there,fun b xs e=>?_,fun b ob xs e=>?_,fun b ps e=>?_⟩,I.loc,I.cell,?_,fun x c e=>?_,fun p hp=>?_,fun b ob e=>?_,I.len⟩
  · rw [ji (fun z:b=a=>np (.inr (.inr (.inr (.inr ⟨ob,z ▸ e,z ▸ hx⟩)))))]
    exact I.base.free b ob e n hx
  · have q:=I.base.tups b xs e
    rw [ji (jB q hn)]
    exact q
  · have q:=I.base.frzs b ob xs e
    rw [ji (jB q hn)]
    exact q
  · obtain ⟨more,q⟩:=I.base.tbls b ps e
    exact ⟨more,by rw [ji (jB q hn)]; exact q⟩
  · rw [ji (fun z=>np (.inl z.symm))]
    exact I.free
  · rw [ji (fun z:c=a=>np (.inr (.inl ⟨x,z ▸ e⟩)))]
    exact I.freeC x c e
  · obtain ⟨q1,q2,q3⟩:=I.pin p hp
    exact ⟨q1,by rw [ji (fun z:p.1=a=>np (.inr (.inr (.inl ⟨p,hp,z⟩))))]; exact q2,q3⟩
  · by_cases hb:b=a
    · subst hb
      rw [jo] at e
      cases e
      exact new
    · rw [ji hb] at e
      exact (I.hok b ob e).stay (fun _ _ _ z=>z) (fun c z=>by rw [ji (jB z hn)]; exact z) fun c xs z=>by rw [ji (jB z hn)]; exact z
end
def Yw (X:Cx) (pins:List (Addr × Obj)) (T:St->Addr->Option Addr->Hp->Prop):Cx :=
  { X with pn:=X.pn ++ pins,xe:=fun e s'=>∃ ea C dd B σ' H',e = .ref ea∧Fly X pins σ' H' B ea C dd s'∧T σ' C dd H' }
def UP (X:Cx) (pins:List (Addr × Obj)) (ea:Addr):Cx :=
  { X with A:=X.A.mark (some (.ref ea)),calm:=false,pn:=X.pn ++ pins,xe:=fun _ _=>False }
section
variable {X:Cx} {pins pins2:List (Addr × Obj)} {σ:St} {H:Hp} {s:Shared} {T:St->Addr->Option Addr->Hp->Prop} {ea:Addr}
theorem Inv.toTry (I:Inv X pins σ H s):Inv (Yw X pins T) [] σ H s :=
  ⟨⟨I.ok.mod,I.ok.kind,I.ok.glob,I.ok.blt,I.ok.above,I.ok.inj,I.ok.has,I.ok.cab,I.ok.hd,I.ok.frames,I.ok.stk,I.ok.exf,I.ok.bs,I.ok.bsz,I.ok.noex,I.ok.exfs,I.ok.funs,I.ok.frf⟩,
   I.os,I.bare,I.base,I.loc,I.cell,I.free,I.freeC,fun p hp=>I.pin p (by simpa [Yw] using hp),I.hok,I.len⟩
theorem Inv.ofTry (I:Inv (Yw X pins T) pins2 σ H s):Inv X pins σ H s :=
  ⟨⟨I.ok.mod,I.ok.kind,I.ok.glob,I.ok.blt,I.ok.above,I.ok.inj,I.ok.has,I.ok.cab,I.ok.hd,I.ok.frames,I.ok.stk,I.ok.exf,I.ok.bs,I.ok.bsz,I.ok.noex,I.ok.exfs,I.ok.funs,I.ok.frf⟩,
   I.os,I.bare,I.base,I.loc,I.cell,I.free,I.freeC,fun p hp=>I.pin p (List.mem_append_left _ hp),I.hok,I.len⟩
theorem Inv.toHd (I:Inv X pins σ H s):Inv (UP X pins ea) [] σ H s :=
  ⟨⟨I.ok.mod,I.ok.kind,I.ok.glob,I.ok.blt,I.ok.above,I.ok.inj,I.ok.has,I.ok.cab,(fun z=>nomatch z),I.ok.frames,I.ok.stk,I.ok.exf,I.ok.bs,I.ok.bsz,I.ok.noex,I.ok.exfs,I.ok.funs,I.ok.frf⟩,
   I.os,I.bare,I.base,I.loc,I.cell,I.free,I.freeC,fun p hp=>I.pin p (by simpa [UP] using hp),I.hok,I.len⟩
theorem Inv.ofHd (ok:X.Ok) (I:Inv (UP X pins ea) pins2 σ H s):Inv X pins σ H s :=
  ⟨ok,I.os,I.bare,I.base,I.loc,I.cell,I.free,I.freeC,fun p hp=>I.pin p (List.mem_append_left _ hp),I.hok,I.len⟩
end
def yT (CX:CXT) (X:Cx) (E:St->XK):Prop:=∀ (pins:List (Addr × Obj)) (σ:St) (H:Hp) (s:Shared) (e:Value) (s':Shared),Inv X pins σ H s->CX X.stack H s (E σ) e s'->X.xe e s'
def ET (T:St->Addr->Option Addr->Hp->Prop):St->XK:=fun σ c dd H=>∃ C,c = .ref C∧T σ C dd H
theorem jcK {X:Cx} {pins:List (Addr × Obj)} {T:St->Addr->Option Addr->Hp->Prop}:yT (CX1 X.prog X.w) (Yw X pins T) (ET T):=by
  intro pins2 σ H s e s' I0 h
  have I:=I0.ofTry
  obtain ⟨ea,C,dd,H',B,rfl,ho,hb,fl,k1,k2,k3,u,hok,C2,eC,q⟩:=h
  cases eC
  have fl:FlD B X.stack ea (.ref C) dd s'.heap:=fl
  have u:Un (frs X.stack) [] H H' s.heap s'.heap:=u
  have k2:∀ b o,s.heap.get? b=some o->b ∉ frs X.stack->∃ o',B.get? b=some o':=k2
  refine ⟨ea,C,dd,B,σ,H',rfl,⟨I.call' ho u hok hb (ch:=[]) (fun b hb=>by simp at hb),fl,fun b hp hf=>?_⟩,q⟩
  rcases hp with z | ⟨x,z⟩ | ⟨p,hp,z⟩ | ⟨o,z⟩ | ⟨o,z,hx⟩
  · obtain ⟨m,⟨o,_,_,e,_⟩,_⟩:=I.loc
    rw [z] at hf ⊢
    exact k2 _ o e hf
  · obtain ⟨v,o,e,_⟩:=I.cell x b z
    exact k2 _ o e hf
  · rw [<- z] at hf ⊢
    exact k2 _ _ (I.pin p hp).1 hf
  · exact k3 b o z
  · obtain ⟨o',e⟩:=I.base.there b o z hx
    exact k2 b o' e hf
def Ends.unset (D:Ends) (i:Nat):Ends:={ nx:=fun σ H=>D.nx (σ.set i none) H,rt:=D.rt,bk:=fun σ H=>D.bk (σ.set i none) H,ct:=fun σ H=>D.ct (σ.set i none) H }
theorem vc {X:Cx} {pins:List (Addr × Obj)} {σ:St} {H:Hp} {s:Shared} {M:Model} {A:Around} {E:Value->Shared->Prop} {Q:Unit->Shared->Prop} {i:Nat} {n:Str} {pos:Pos} (I:Inv X pins σ H s) (hi:X.N[i]? = some n) (hN:X.N.Nodup)
    (hk:X.env.scope.names.lookup n=some .local) (h:∀ s',Inv X pins (σ.set i none) H s'->Q () s') :
    wpAny M A (do
      bindName X.env n Value.none
      unbindBehindTheSuite X.env n pos) Q E s:=by
  obtain ⟨m,hn,hl⟩:=id I.loc
  obtain ⟨oL,_,_,hoL,_⟩:=id hn
  refine wpAny_nameGoes_keeps hk hn (by rw [I.ok.kind]; rfl) fun h' v hn' hs=>h _ ?_
  have ab:∀ b o,X.s₀.heap.get? b=some o->h'.get? b=s.heap.get? b:=fun b o e=>hs.2 b (Nat.ne_of_lt (Nat.lt_of_lt_of_le (Heap.lt_size e) I.ok.above))
  have hiσ:i < σ.length:=by rw [I.len]; exact (List.getElem?_eq_some_iff.mp hi).1
  refine ⟨I.ok,I.os,I.bare,⟨fun b o e n hb hx=>?_,fun b o e n hb hx=>?_,I.base.free,fun b o e hx=>?_,I.base.tups,I.base.frzs,I.base.tbls⟩,⟨_,hn',fun j y v' e1 e2 e3=>?_⟩,fun y c e=>?_,I.free,I.freeC,fun p hp=>?_,?_,by simpa using I.len⟩
  · exact (ab b o e).trans (I.base.keep b o e n hb hx)
  · obtain ⟨sl,e1⟩:=I.base.slot b o e n hb hx
    exact ⟨sl,(ab b o e).trans e1⟩
  · obtain ⟨o',e1⟩:=I.base.there b o e hx
    exact ⟨o',(ab b o e).trans e1⟩
  · have hj:j≠i:=fun z=>by
      subst z
      rw [List.getElem?_set_self hiσ] at e2
      cases e2
    rw [List.getElem?_set_ne (Ne.symm hj)] at e2
    obtain ⟨u',r',q⟩:=hl j y v' e1 e2 e3
    refine ⟨u',r',?_⟩
    rcases q with ⟨k,e⟩ | ⟨k,c,e,z⟩
    · refine .inl ⟨k,?_⟩
      have:y≠n:=fun e=>hj (JB hN e1 (e ▸ hi))
      simp [this,e]
    · exact .inr ⟨k,c,e,z.sameBut hs (I.cne y c e)⟩
  · obtain ⟨w',z⟩:=I.cell y c e
    exact ⟨w',z.sameBut hs (I.cne y c e)⟩
  · obtain ⟨e,n,ne,nf,d⟩:=I.pin p hp
    exact ⟨(hs.2 p.1 ne).trans e,n,ne,nf,d⟩
  · refine I.hok.moved fun b o u e q=>(hs.2 b fun z=>?_).trans q
    rw [z,I.free] at e
    cases e
abbrev TH:=Ends->St->Addr->Option Addr->Hp->Prop
def PH (X:Cx) (hs:List ExceptHandler) (th:TH):Prop:=∀ (pins:List (Addr × Obj)) (B:Heap) (ea C:Addr) (dd:Option Addr) (σ:St) (H:Hp) (s:Shared) (D:Ends),Fly X pins σ H B ea C dd s->th D σ C dd H ->
  wpAny (model X.prog X.w) X.A (handleBy (.ref ea) X.env hs) (SP X pins D) X.xe s
def thNil:TH:=fun _ _ _ _ _=>False
def jht (i:Nat) (K:PySem.W.Frag) (LC:Addr) (ts:TS) (ju:TH):TH:=fun D σ C dd H=>∃ b,PySem.W.exmOne K (.ref C) (.ref LC)=some b ∧
  if b=true then ∀ ea,H ea=none->ts (D.unset i) (σ.set i (some (.ref ea))) (upd H ea (Vb ea C dd)) else ju D σ C dd H
def tTry (tb:(St->Addr->Option Addr->Hp->Prop)->TS) (th:TH):TS:=fun D σ H=>tb (fun σ' C dd H'=>th D σ' C dd H') D σ H
section
variable {X:Cx} {body suite:List Stmt} {b₀:Stmt} {n x:Str} {i:Nat} {LC:Addr} {np hpos pos:Pos} {tb:(St->Addr->Option Addr->Hp->Prop)->TS} {ts:TS} {th:TH} {hs:List ExceptHandler} {h0:ExceptHandler}
theorem ph_nil:PH X [] thNil:=fun _ _ _ _ _ _ _ _ _ _ h=>False.elim h
theorem jfV (hh:∀ pins ea,PSs (UP X pins ea) (b₀ :: suite) ts) (hr:PH X hs th) (hg:Gl X x) (hm:X.mg x=some (.ref LC)) (hN:X.N.Nodup) (hi:X.N[i]? = some n)
    (hn:X.env.scope.names.lookup n=some .local:=by rfl) (hdb:(x == ("__debug__":Str))=false:=by decide) :
    PH X (.ExceptHandler (some (.Name x np)) (some n) (b₀ :: suite) hpos :: hs) (jht i X.K LC ts th):=by
  intro pins B ea C dd σ' H' s1 D F2 hT
  obtain ⟨b,hC,hT⟩:=hT
  have ok:=F2.inv.ok
  refine wpAny_handleBy_cons ?_ (by intro z; unfold byPass at z; cases z)
  refine codeAny_handlers_test ?_
  refine vd (X:=UP X pins ea) F2.inv.toHd hg hm ?_ hdb
  obtain ⟨o,vs,eo,ho,_⟩:=F2.obj
  have L:PySem.W.Looks (model X.prog X.w) s1.heap (typeOf (.ref ea)) (.ref C):=by
    intro A' Q' E' s' k q
    unfold typeOf
    refine wpAny_bind (wpAny_loadPart (k _ _ eo) ?_)
    rw [<- ho] at q
    exact wpAny_pure q
  refine (PySem.W.exm_one F2.inv.kIn L hC).at ?_
  cases b with
  | false=>exact hr pins B ea C dd σ' H' s1 D F2 (by simpa using hT)
  | true =>
    rw [if_pos rfl] at hT
    show codeAny _ _ _ _ _
    refine codeAny_handlers_suite_as ?_
    refine landD' F2.fl fun h3 fl3 up3=>?_
    have F3:=F2.turn (t':=s1.toks) fl3 up3
    have hp:=F3.notp
    have hHn:H' ea=none:=by
      cases q:H' ea with
      | none=>rfl
      | some u=>exact absurd (.inr (.inr (.inr (.inl ⟨u,q⟩)))) hp
    have I3:Inv X pins σ' (upd H' ea (Vb ea C dd)) { s1 with heap:=h3 }:=F3.inv.track hp ⟨F3.obj,by
      obtain ⟨o,vs,e,_⟩:=F3.obj
      exact ⟨o,e⟩,fun g1 g2 ⟨o,vs,e,r⟩ k=>⟨o,vs,k o e,r⟩⟩
    refine Jg (X:=UP X pins ea) I3.toHd hN hi (.inl hn) (v:=.ref ea) rfl (fun s4 I4=>?_) (.inr hn)
    refine wpAny_mono (hh pins ea [] s4 _ _ _ I4 (hT ea hHn)) (fun f s5 hs=>?_) (fun e s5 he=>False.elim he)
    cases f with
    | next =>
      obtain ⟨σ5,H5,I5,q⟩:=hs
      exact vc (I5.ofHd ok) hi hN hn fun s6 I6=>⟨_,_,I6,q⟩
    | brk =>
      obtain ⟨σ5,H5,I5,q⟩:=hs
      exact vc (I5.ofHd ok) hi hN hn fun s6 I6=>⟨_,_,I6,q⟩
    | cont =>
      obtain ⟨σ5,H5,I5,q⟩:=hs
      exact vc (I5.ofHd ok) hi hN hn fun s6 I6=>⟨_,_,I6,q⟩
    | ret u =>
      obtain ⟨v,σ5,H5,I5,r,q⟩:=hs
      exact vc (I5.ofHd ok) hi hN hn fun s6 I6=>⟨v,_,_,I6,r,q⟩
theorem ps_try (hb:∀ pins T,PSs (Yw X pins T) body (tb T)) (hh:PH X (h0 :: hs) th) (hst:X.stack=X.env :: X.outer:=by rfl) (hfr:X.env.frame=some X.env.locals:=by rfl) :
    PS X (.Try body (h0 :: hs) [] [] pos) (tTry tb th):=by
  intro pins s σ H D I h
  refine wpAny_Try_except ?_
  refine wpAny_mono (hb pins _ [] s σ H D I.toTry h) (fun f s1 hs=>?_) (fun e s1 he=>?_)
  · cases f with
    | next =>
      obtain ⟨σ',H',I',q⟩:=hs
      exact jaH pins s1 σ' H' D I'.ofTry q
    | brk =>
      obtain ⟨σ',H',I',q⟩:=hs
      exact ⟨σ',H',I'.ofTry,q⟩
    | cont =>
      obtain ⟨σ',H',I',q⟩:=hs
      exact ⟨σ',H',I'.ofTry,q⟩
    | ret u =>
      obtain ⟨v,σ',H',I',q⟩:=hs
      exact ⟨v,σ',H',I'.ofTry,q⟩
  · obtain ⟨ea,C,dd,B,σ',H',rfl,F,hT⟩:=he
    have hfl:=F.fl
    rw [hst] at hfl
    refine jdV (by rw [<- hst]; exact I.ok.frames) hfr hfl fun h1 held up1=>?_
    have I1:Inv X pins σ' H' { s1 with heap:=h1 }:=F.inv.flew (t':=s1.toks) F.fl.1 held.1 up1 F.kn
    refine jeh held fun h2 fl2 up2=>?_
    rw [<- hst] at fl2
    have F2:Fly X pins σ' H' B ea C dd { s1 with heap:=h2 }:=⟨I1.flew (t':=s1.toks) held.1 fl2.1 up2 F.kn,fl2,F.kn⟩
    exact hh pins B ea C dd σ' H' _ D F2 hT
end
section
variable {X:Cx} {CX:CXT} {k:Nat} {f:Addr} {fd:FuncData} {ps:List Str} {sp:Sp} {dvs:List V} {ds:List Value} {E:St->XK} {x:Str} {p pos:Pos} {e:Expr} {es:List Expr} {t:TA}
end
end L2
namespace L2
open PySem PySem.Spec PyProof.Rows
structure CalX (P:Program) (w:World) (K:PySem.W.Frag) (mg:Str->Option Value) (base:Heap) (x:Str) (j:Nat) (ps:List Str) (sp:Sp):Prop where
  ex:∃ f fd,FnOk P w K mg base (CX1 P w) j f fd ps sp∧mg x=some (.ref f)∧PySem.W.keepIn K (.ref f)=true∧uN K fd ps []
structure CalKX (P:Program) (w:World) (K:PySem.W.Frag) (mg:Str->Option Value) (base:Heap) (x:Str) (j:Nat) (ps ks:List Str) (sp:Sp):Prop where
  ex:∃ f fd,FnOk P w K mg base (CX1 P w) j f fd ps sp∧mg x=some (.ref f)∧PySem.W.keepIn K (.ref f)=true∧KBinds K fd ps ks g11 g11
def sor (a b:Sp):Sp:=fun vs H Q E=>a vs H Q E∨b vs H Q E
section
variable {P:Program} {w:World} {K:PySem.W.Frag} {mg:Str->Option Value} {base:Heap} {CX:CXT} {k:Nat} {f:Addr} {fd:FuncData} {ps ks:List Str} {sp sp':Sp}
theorem FnOk.up (F:FnOk P w K mg base CX0 k f fd ps sp):FnOk P w K mg base CX k f fd ps sp :=
  ⟨F.len,fun A outer s H args us vs Q E hr he hb hv hs=>codeAny_mono (F.run A outer s H args us vs Q E hr he hb hv hs) fun r s' hq=>by
    match r,hq with
    | .ok (.ret u),hq=>exact hq
    | .error e,hq=>exact False.elim hq⟩
theorem FnOk.or (F:FnOk P w K mg base CX k f fd ps sp) (G:FnOk P w K mg base CX k f fd ps sp'):FnOk P w K mg base CX k f fd ps (sor sp sp') :=
  ⟨fun vs H Q E h=>h.elim (F.len vs H Q E) (G.len vs H Q E),fun A outer s H args us vs Q E hr he hb hv hs=>hs.elim (F.run A outer s H args us vs Q E hr he hb hv) (G.run A outer s H args us vs Q E hr he hb hv)⟩
variable {x qual:Str} {st:Stmt}
end
section
variable {X:Cx} {x:Str} {j:Nat} {ps ks:List Str} {sp:Sp} {p pos:Pos} {e:Expr} {es:List Expr} {t tk:TA} {kws:List Keyword} {E:XK} {ES:St->XK}
end
inductive Kn (H:Hp):V->String->Prop where
  | non:Kn H .non "NoneType"
  | bl (x:Bool):Kn H (.bl x) "bool"
  | int (i:Int):Kn H (.int i) "int"
  | str (x:Str):Kn H (.str x) "str"
  | lst {a:Addr} {xs:List V} (e:H a=some (.lst xs)):Kn H (.ref a) "list"
  | tup {a:Addr} {xs:List V} (e:H a=some (.tup xs)):Kn H (.ref a) "tuple"
  | dK {a:Addr} {kvs:List (Key × V)} (e:H a=some (.dK kvs)):Kn H (.ref a) "dict"
def yR:List String:=["NoneType","bool","int","str","list","tuple","dict"]
def sub (n m:String):Bool:=n == m || (n == "bool" && m == "int")
theorem jaU (K:PySem.W.Frag) {n m:String} (hn:n ∈ yR) (hm:m ∈ yR):PySem.W.kitOne K (.type n) (.type m)=some (sub n m):=by
  have tab:∀ n ∈ yR,∀ m ∈ yR,(Value.type n == Value.type m)=false->PySem.W.kitMeta m=true∧(fastBuiltinMro n).map (·.contains (.type m))=some (sub n m):=by decide +kernel
  have tab2:∀ n ∈ yR,∀ m ∈ yR,(Value.type n == Value.type m)=true->sub n m=true:=by decide +kernel
  unfold PySem.W.kitOne
  cases h:(Value.type n == Value.type m) with
  | true=>rw [if_pos rfl,tab2 n hn m hm h]
  | false =>
    obtain ⟨h1,h2⟩:=tab n hn m hm h
    rw [if_neg (by decide)]
    show (if PySem.W.kitMeta m=true then (fastBuiltinMro n).map (·.contains (.type m)) else none)=some (sub n m)
    rw [if_pos h1,h2]
section
variable {H H':Hp} {v:V} {n:String}
theorem Kn.mem (k:Kn H v n):n ∈ yR:=by cases k <;> decide
theorem Kn.ty (k:Kn H v n) (K:PySem.W.Frag):TyOf K H v (.type n):=by
  cases k with
  | non=>exact .non
  | bl x=>exact .bl x
  | int i=>exact .int i
  | str x=>exact .str x
  | lst e=>exact .lst e
  | tup e=>exact .tup e
  | dK e=>exact .dK e
theorem Kn.same (k:Kn H v n) (s:xo H H'):Kn H' v n:=by
  cases k with
  | non=>exact .non
  | bl x=>exact .bl x
  | int i=>exact .int i
  | str x=>exact .str x
  | lst e=>exact .lst (s _ _ e)
  | tup e=>exact .tup (s _ _ e)
  | dK e=>exact .dK (s _ _ e)
end
end L2
namespace L2
open PySem PySem.Spec PyProof.Rows
section
variable {X:Cx} {pos:Pos}
theorem Xj {x:V}:∀ {xs:List V} {us:List Value},jq xs us->xs.all yx=true->us.countP (eqU x)=xs.countP fun y=>eqV y x
  | _,_,.nil,_=>rfl
  | y :: xs,u :: us,.cons r t,f=>by
    rw [List.all_cons,Bool.and_eq_true] at f
    rw [List.countP_cons,List.countP_cons,UX r f.1,Xj t f.2]
theorem jao {x:V}:∀ {xs:List V} {us:List Value},jq xs us->xs.all yx=true->∀ (i:Nat) (u:Value),us[i]? = some u->∃ y,xs[i]? = some y∧eqU x u=eqV y x
  | _,_,.nil,_,i,u,h=>by simp at h
  | y :: xs,u :: us,.cons r t,f,0,u',h=>by
    rw [List.all_cons,Bool.and_eq_true] at f
    simp at h
    subst h
    exact ⟨y,rfl,UX r f.1⟩
  | y :: xs,u :: us,.cons r t,f,i + 1,u',h=>by
    rw [List.all_cons,Bool.and_eq_true] at f
    exact jao t f.2 i u' (by simpa using h)
def rCount:V->List V->Hp->VK->Prop:=fun l vs H Q=>∃ (a:Addr) (xs:List V) (x:V),l = .ref a∧vs=[x]∧H a=some (.lst xs)∧yx x=true∧xs.all yx=true∧Q (.int (xs.countP fun y=>eqV y x:Nat)) H
theorem jdZ:MtR X "list.count" rCount:=by
  intro pins s σ H l vs v us Q I rl rv h
  obtain ⟨a,xs,x,rfl,rfl,hH,fx,fs,q⟩:=h
  cases rl
  obtain ⟨z,its,n,r,hl,e⟩:=I.lstM hH
  cases rv with
  | cons rx t =>
    cases t
    refine call_meets F.slot_list_count ⟨_,e,rfl⟩ F.entry_list_count (F.args_list_count_2 _ _) (SeqAt.list_countAt a its.toArray n none #[] _ (eqU x)) ⟨e,fun w hw=>JC rx fx r fs w (by simpa using hw),?_⟩
    rw [show its.toArray.toList=its by simp,Xj r fs]
    exact ⟨.int _,H,I.tok _,⟨_,rfl⟩,q⟩
def rIndex:V->List V->Hp->VK->Prop:=fun l vs H Q=>∃ (a:Addr) (xs:List V) (x:V) (j:Nat) (y:V),l = .ref a∧vs=[x]∧H a=some (.lst xs)∧yx x=true∧xs.all yx=true ∧
  xs[j]? = some y∧eqV y x=true∧(∀ m u,m < j->xs[m]? = some u->eqV u x=false)∧Q (.int (j:Nat)) H
theorem jdY:MtR X "list.index" rIndex:=by
  intro pins s σ H l vs v us Q I rl rv h
  obtain ⟨a,xs,x,j,y,rfl,rfl,hH,fx,fs,hj,hy,hm,q⟩:=h
  cases rl
  obtain ⟨z,its,n,r,hl,e⟩:=I.lstM hH
  have hj':j < its.length:=by
    rw [<- r.length]
    exact (List.getElem?_eq_some_iff.mp hj).1
  have hz:its.length<=sizeLine:=by
    rw [<- r.length]
    exact z
  cases rv with
  | cons rx t =>
    cases t
    have hs:its.toArray.size=its.length:=by simp
    refine call_meets F.slot_list_index ⟨_,e,rfl⟩ F.entry_list_index (F.args_list_index_2 _ _) (SeqAt.list_indexAt a its.toArray n none #[] _ (eqU x) j (by rw [hs]; exact hj') ?_ ?_ ?_) ⟨e,fun w hw=>JC rx fx r fs w (by simpa using hw),?_⟩
    · have:sizeLine < 2 ^ 63 - 1:=by decide
      omega
    · obtain ⟨y',e1,e2⟩:=jao (x:=x) r fs j its[j] (List.getElem?_eq_getElem hj')
      rw [hj] at e1
      cases e1
      rw [show its.toArray[j]'(by rw [hs]; exact hj')=its[j] by simp,e2]
      exact hy
    · intro m h1 h2
      have h1':m < its.length:=by rw [<- hs]; exact h1
      obtain ⟨y',e1,e2⟩:=jao (x:=x) r fs m its[m] (List.getElem?_eq_getElem h1')
      rw [show its.toArray[m]'h1=its[m] by simp,e2]
      exact hm m y' h2 e1
    · exact ⟨.int _,H,I.tok _,⟨_,rfl⟩,q⟩
end
end L2
namespace L2
open PySem
theorem Jc {K:PySem.W.Frag} {C:Addr} {bmB:List Value} {n:String} (h:PySem.W.excIn K C bmB n=true):(PySem.W.clsIn K C).isSome=true:=by
  unfold PySem.W.excIn at h
  split at h
  case h_2=>cases h
  case h_1 dd cdat slots look =>
    unfold PySem.W.clsIn
    have look:K.lookup C=some _:=look
    rw [look]
    rfl
end L2
namespace L2
open PySem PySem.Spec PyProof.Rows
def excInI (K:PySem.W.Frag) (C:Addr):Bool:=match K.lookup C with
  | some ⟨.type "type",_,.cls cd,sl⟩=>(match cd.mro,sl.toList with
    | .ref D :: bm,[_,_,_,_,some (.builtin n),_]=>D == C && n == "ValueError.__new__" && !cd.hasDel && PySem.W.tailIn K vC bm && cd.hasDict
    | _,_=>false)
  | _=>false
theorem JQ {K:PySem.W.Frag} {C:Addr} (hq:excInI K C=true) :
    ∃ (tl:List Value) (Nn:Addr) (n1 n2:Str) (bs:List Value) (sn:List Str) (sub:List Value) (b2:Bool) (col:Option Bool) (dd:Option Addr) (j0 j1 j2 j3 j5:Option Value),
      K.lookup C=some (excClassObj n1 n2 C Nn bs tl true sn sub b2 col dd j0 j1 j2 j3 j5 "ValueError.__new__")∧∀ h:Heap,K.In h->OwnTail h vC tl:=by
  unfold excInI at hq
  split at hq
  case h_2=>cases hq
  case h_1 dd cdat slots look =>
    split at hq
    case h_2=>cases hq
    case h_1 C2 tl j0 j1 j2 j3 idn j5 emro eslots =>
      simp only [Bool.and_eq_true,beq_iff_eq,Bool.not_eq_true'] at hq
      obtain ⟨⟨⟨⟨z1,z2⟩,z3⟩,z4⟩,z5⟩:=hq
      subst z1
      subst z2
      obtain ⟨n1,bs,mr,nsa,n2,b1,sn,sub,b2,col,b3⟩:=cdat
      have z3':b3=false:=z3
      have z5':b1=true:=z5
      have em:mr = .ref C2 :: tl:=emro
      subst z3'
      subst z5'
      subst em
      have es:slots = #[j0,j1,j2,j3,some (.builtin "ValueError.__new__"),j5]:=by
        cases slots with
        | mk l =>
          have:l=[j0,j1,j2,j3,some (.builtin "ValueError.__new__"),j5]:=eslots
          rw [this]
      subst es
      exact ⟨tl,nsa,n1,n2,bs,sn,sub,b2,col,dd,j0,j1,j2,j3,j5,look,fun h KX=>PySem.W.tail_of_in KX z4⟩
section
variable {prog:Program} {w:World} {A:Around} {E:Value->Shared->Prop} {h:Heap} {g:Array GenState} {d:Drawn} {t:Nat} {os:OsState} {K:PySem.W.Frag}
variable {nm q:Str} {C N fI:Addr} {bs bm:List Value} {hdct:Bool} {sn:List Str} {sub:List Value} {ab:Bool} {col:Option Bool} {dd:Option Addr} {k0 k1 k2 k3 k5:Option Value}
abbrev uy (C:Addr) (dx:Option Addr) (a0:Addr):Obj:={ cls:=.ref C,dict:=dx,data:=.fields #[.ref a0,.none,.none,.none,.bool false,.none] }
abbrev UF (h:Heap) (C:Addr) (ju:List Value):Heap:=(h.push { cls:=.type "tuple",data:=.seq ju.toArray }).push { cls:=.ref C,data:=.fields #[.ref h.objs.size,.none,.none,.none,.bool false,.none] }
theorem mkx_tc {ju:List Value} {Q:PySem.Fin->Shared->Prop} (KX:K.In h) (hC:h.get? C=some (excClassObj nm q C N bs bm hdct sn sub ab col dd k0 k1 k2 k3 k5 "ValueError.__new__")) (T:OwnTail h vC bm)
    (hi:PySem.W.findIn K (.ref C) "__init__" = some (some (.ref fI))) (hf:PySem.W.typeIn K (.ref fI)=some (.type "function"))
    (k:wpAny (model prog w) A (call (.ref fI) (.ref (h.objs.size + 1) :: ju)) (fun r s'=>r = .none∧Q (.done (.ret (.ref (h.objs.size + 1)))) s') E ⟨UF h C ju,g,d,t,os⟩) (hr:ju.length<=sizeLine) :
    wpAny (model prog w) A (Builtin.«type.__call__» ⟨.ref C :: ju,[]⟩) Q E ⟨h,g,d,t,os⟩:=by
  have FB:=PySem.F.excBase_ValueError
  repeat (first
    | with_reducible refine wpAny_loadPart_at hC ?_
    | with_reducible refine wpAny_madeBy_exc hC ?_
    | wp_step)
  refine codeAny_call_builtin_code (Code.quiet_builtin _ FB.quiet) (wpAny_check_new_subT FB T hC ?_)
  refine codeAny_exc_new_subT FB T hC ?_ hr
  show wpAny _ _ _ _ _ _
  have kp:∀ b o,h.get? b=some o->(UF h C ju).get? b=some o:=fun b o z=>Heap.get?_push_of_some _ (Heap.get?_push_of_some _ z)
  have C1:=kp _ _ hC
  have K1:=KX.keeps kp
  have g1:(UF h C ju).get? (h.objs.size + 1)=some { cls:=.ref C,data:=.fields #[.ref h.objs.size,.none,.none,.none,.bool false,.none] }:=by heap_get
  have cc:(Value.ref C :: bm).contains (.ref C)=true:=by simp
  unfold isInstance
  repeat (first
    | with_reducible refine wpAny_loadPart_at g1 ?_
    | (with_reducible refine wpAny_isSubtype_exc C1 ?_; rw [cc])
    | wp_step)
  show wpAny _ _ (typeLookup (.ref C) _) _ _ _
  refine (PySem.W.looks_findIn (M:=model prog w) K1 hi).at ?_
  refine wpAny_holding (wpAny_bind ((PySem.W.bind_fn (M:=model prog w) K1 (.ref (h.objs.size + 1)) hf).at ?_))
  refine wpAny_bind (wpAny_mono k (fun r s' hr=>?_) fun _ _ x=>x)
  obtain ⟨rfl,hQ⟩:=hr
  wp_walk
  exact hQ
theorem jea {ju:List Value} {Q:Value->Shared->Prop} (KX:K.In h) (hC:h.get? C=some (excClassObj nm q C N bs bm hdct sn sub ab col dd k0 k1 k2 k3 k5 "ValueError.__new__")) (T:OwnTail h vC bm)
    (hi:PySem.W.findIn K (.ref C) "__init__" = some (some (.ref fI))) (hf:PySem.W.typeIn K (.ref fI)=some (.type "function"))
    (k:wpAny (model prog w) (A.under (.builtin "type.__call__" ⟨.ref C :: ju,[]⟩)) (call (.ref fI) (.ref (h.objs.size + 1) :: ju)) (fun r s'=>r = .none∧Q (.ref (h.objs.size + 1)) s') E ⟨UF h C ju,g,d,t,os⟩) (hr:ju.length<=sizeLine) :
    wpAny (model prog w) A (call (.ref C) ju) Q E ⟨h,g,d,t,os⟩:=by
  have f1:=tc_lookup
  have f2:=tc_bind (.ref C)
  have hT:(⟨h,g,d,t,os⟩:Shared).TypeIs (.ref C) "type":=⟨_,hC,rfl⟩
  refine wpAny_call (codeAny_of_tree ?_)
  show wpAny _ _ (callAny (.ref C) _) _ _ _
  repeat (any_goals (first
    | assumption
    | with_reducible refine wpAny_loadPart_at hC ?_
    | wp_step))
  refine ⟨rfl,?_⟩
  exact codeAny_call_builtin_at (Code.quiet_builtin _ (by decide +kernel)) entry_typeCall (wpAny_check_type_call_sub hC (mkx_tc KX hC T hi hf k hr))
theorem raiseX {env:Env} {M:Model} {s:Shared} {x:Sem Value} {Q:Flow->Shared->Prop} (hb:bm.contains (.type "BaseException")=true) (hh:A.handled=none)
    (k:wpAny M A x (fun v s1=>∃ e dx a0,v = .ref e∧s1.heap.get? C=some (excClassObj nm q C N bs bm hdct sn sub ab col dd k0 k1 k2 k3 k5 "ValueError.__new__")∧s1.heap.get? e=some (uy C dx a0)∧E (.ref e) s1) E s) :
    wpAny M A (raiseStmt env (some x) none) Q E s:=by
  have cb:(Value.ref C :: bm).contains (.type "BaseException")=true:=by rw [List.contains_cons,hb,Bool.or_true]
  unfold raiseStmt
  refine wpAny_bind (wpAny_mono k (fun v s1 z=>?_) fun _ _ x=>x)
  obtain ⟨e,dx,a0,rfl,hC,he,hE⟩:=z
  obtain ⟨hp,g,d,tk,os⟩:=s1
  repeat (first
    | with_reducible refine wpAny_loadPart_at he ?_
    | with_reducible refine wpAny_loadPart_at hC ?_
    | (with_reducible refine wpAny_isSubtype_exc hC ?_; rw [cb])
    | wp_step)
  exact wpAny_raiseNew_none hh hE
theorem jgN {env:Env} {s:Shared} {x:Str} {np cpos pos:Pos} {args:List Expr} {Q:Flow->Shared->Prop} (hb:bm.contains (.type "BaseException")=true) (hh:A.handled=none) (hpl:(backTo cpos (starEach args env)).any (·.1)=false)
    (k:wpAny (model prog w) A (eval (.Name x np) env) (fun f s1=>f = .ref C∧wpAny (model prog w) A (evalArgs (.ref C) true (backTo cpos (starEach args env)) [])
      (fun a s2=>a.kw=[]∧s2.heap.get? C=some (excClassObj nm q C N bs bm hdct sn sub ab col dd k0 k1 k2 k3 k5 "ValueError.__new__") ∧
        wpAny (model prog w) A (call (.ref C) a.pos) (fun v s3=>∃ e dx a0,v = .ref e∧s3.heap.get? C=some (excClassObj nm q C N bs bm hdct sn sub ab col dd k0 k1 k2 k3 k5 "ValueError.__new__")∧s3.heap.get? e=some (uy C dx a0)∧E (.ref e) s3) E s2) E s1) E s) :
    wpAny (model prog w) A (exec (.Raise (some (.Call (.Name x np) args [] cpos)) none pos) env) Q E s:=by
  rw [arm_exec_Raise]
  refine wpAny_bind (wpAny_standAt (raiseX (C:=C) (nm:=nm) (q:=q) (N:=N) (bs:=bs) (bm:=bm) (hdct:=hdct) (sn:=sn) (sub:=sub) (ab:=ab) (col:=col) (dd:=dd) (k0:=k0) (k1:=k1) (k2:=k2) (k3:=k3) (k5:=k5) hb hh ?_))
  refine wpAny_bind (wpAny_mono (wpAny_Call_ofName (wpAny_mono k (fun f s1 z=>?_) fun _ _ x=>x)) (fun v s3 z=>wpAny_bind (wpAny_standAt (wpAny_pure z))) fun _ _ x=>x)
  obtain ⟨rfl,z⟩:=z
  unfold callWith
  refine wpAny_bind (wpAny_holding (wpAny_mono z (fun a s2 z2=>wpAny_bind (wpAny_standAt ?_)) fun _ _ x=>x))
  obtain ⟨apos,akw⟩:=a
  obtain ⟨kw,hC,z3⟩:=z2
  obtain rfl:akw=[]:=kw
  obtain ⟨hp,g,d,tk,os⟩:=s2
  simp only [hpl]
  refine wpAny_bind (wpAny_keeperOf_exc hC ?_)
  exact wpAny_bind (wpAny_mono z3 (fun v s4 y=>wpAny_bind (wpAny_holding (wpAny_point (wpAny_pure y)))) fun _ _ x=>x)
end
end L2
namespace L2
open PySem PySem.Spec PyProof.Rows
section
variable {prog:Program} {w:World} {A:Around} {E:Value->Shared->Prop} {h:Heap} {g:Array GenState} {d:Drawn} {t:Nat} {os:OsState} {K:PySem.W.Frag}
variable {nm q:Str} {C N x:Addr} {bs bm:List Value} {hdct:Bool} {sn:List Str} {sub:List Value} {ab:Bool} {col:Option Bool} {dd:Option Addr} {k0 k1 k2 k3 k5:Option Value}
theorem xinit {v:Value} {a0:Addr} {dx:Option Addr} {Q:Value->Shared->Prop} (hC:h.get? C=some (excClassObj nm q C N bs bm hdct sn sub ab col dd k0 k1 k2 k3 k5 "ValueError.__new__")) (T:OwnTail h vC bm)
    (he:h.get? x=some (uy C dx a0))
    (k:∀ h',h'.get? x=some (uy C dx h.objs.size)->(∀ b o,b≠x->h.get? b=some o->h'.get? b=some o)->Q .none ⟨h',g,d,t,os⟩) :
    wpAny (model prog w) A (call (.builtin "ValueError.__init__") [.ref x,v]) Q E ⟨h,g,d,t,os⟩:=by
  have FB:=PySem.F.excBase_ValueError
  refine wpAny_call (codeAny_call_builtin FB.init.plain FB.initEntry (wpAny_check_init_subT FB T hC he rfl ?_))
  wp_walk
  have e1:=Heap.get?_push_of_some { cls:=.type "tuple",data:=.seq [v].toArray } he
  refine k _ ?_ fun b o z y=>?_
  · rw [Heap.get?_update_self _ e1 rfl]
    rfl
  · rw [Heap.get?_update_other _ _ (Ne.symm z)]
    exact Heap.get?_push_of_some _ y
structure XCls (K:PySem.W.Frag) (C:Addr) (f:Str):Prop where
  ex:excInI K C=true
  sa:PySem.W.findIn K (.ref C) "__setattr__" = some (some (.builtin "object.__setattr__"))
  na:PySem.W.findIn K (.ref C) f=some none
theorem Vr {h:Heap} {tl:List Value} (T:OwnTail h vC tl) (self:Value):refuseLoop self "__setattr__" tl=pure ():=by
  induction T with
  | base=>exact PySem.F.store_ValueError.passes self
  | own _ _ _ _ ih=>rw [refuseLoop_ref,ih]
theorem jcv {M:Model} {o:Obj} {nameV v:Value} {Q:Unit->Shared->Prop} {sa owner:String} (SF:StoreFacts "ValueError" vC sa owner) (T:OwnTail h vC bm)
    (hC:h.get? C=some (excClassObj nm q C N bs bm hdct sn sub ab col dd k0 k1 k2 k3 k5 "ValueError.__new__")) (hx:h.get? x=some o) (hc:o.cls = .ref C) (k:Q () ⟨h,g,d,t,os⟩) :
    wpAny M A (checkBuiltinCall sa ⟨[.ref x,nameV,v],[]⟩) Q E ⟨h,g,d,t,os⟩:=by
  have cB:(Value.ref C :: bm).contains (.type owner)=true:=by rw [List.contains_cons,T.hasType SF.hasOwner,Bool.or_true]
  have ha:=SF.args (.ref x) nameV v
  simp only [checkBuiltinCall,SF.kind,SF.split]
  refine wpAny_bind ?_
  · unfold isInstance
    repeat (first
      | (with_reducible refine wpAny_loadPart_at hx ?_; rw [hc])
      | (with_reducible refine wpAny_isSubtype_exc hC ?_; rw [cB])
      | wp_step)
    cases sig:Manifest.signature? sa with
    | none=>exact wpAny_pure k
    | some y =>
      simp only [argsOk,sig] at ha
      have h2:Bind.checkArgs sa y ⟨[.ref x,nameV,v],[]⟩=pure ():=ha
      show wpAny M A (Bind.checkArgs sa y ⟨[.ref x,nameV,v],[]⟩) Q E _
      rw [h2]
      exact wpAny_pure k
theorem jfh {f:Str} {v:Value} {tk:Tok} {Q:PySem.Fin->Shared->Prop} (KX:K.In h) (hC:h.get? C=some (excClassObj nm q C N bs bm true sn sub ab col dd k0 k1 k2 k3 k5 "ValueError.__new__")) (T:OwnTail h vC bm)
    (na:PySem.W.findIn K (.ref C) f=some none) {o:Obj} (he:h.get? x=some o) (hc:o.cls = .ref C) (hdn:o.dict=none) (hnc:∀ c,o.data≠.cls c) (hfr:({ o with dict:=some h.objs.size }:Obj).isFreed=false)
    (k:∀ h' tk,h'.get? x=some { o with dict:=some h.objs.size }->h'.Ns1 h.objs.size (fun y=>if y=f then some v else none)->(∀ b o,b≠x->h.get? b=some o->h'.get? b=some o)->Q (.done (.ret .none)) ⟨h',g,d,tk,os⟩) :
    wpAny (model prog w) A (Builtin.«object.__setattr__» ⟨[.ref x,.str f tk,v],[]⟩) Q E ⟨h,g,d,t,os⟩:=by
  have L2:=PySem.W.looks_findIn (M:=model prog w) KX na
  have hpass:=Vr T (.ref x)
  unfold Builtin.«object.__setattr__»
  repeat (first
    | rw [refuse_eq]
    | (rw [refuseLoop_ref,hpass])
    | with_reducible refine L2.at ?_
    | (with_reducible refine wpAny_loadPart_at he ?_; rw [hc])
    | with_reducible refine wpAny_mroOf_exc hC ?_
    | wp_step)
  rw [hdn,if_neg (by simp [typeHasDict])]
  split
  · rename_i z
    cases z
  split
  · rename_i c z
    exact absurd z (hnc c)
  have x1:(h.push { cls:=.type "dict",data:=.dict #[] }).get? x=some o:=Heap.get?_push_of_some _ he
  have xs:x≠h.objs.size:=Nat.ne_of_lt (Heap.lt_size he)
  refine wpAny_bind (wpAny_alloc' ?_)
  refine wpAny_bind (wpAny_update' x1 ?_)
  refine wpAny_pure ?_
  have gd:((h.push { cls:=.type "dict",data:=.dict #[] }).update x fun o=>{ cls:=o.cls,dict:=some h.objs.size,data:=o.data,slots:=o.slots }).get? h.objs.size=some { cls:=.type "dict",data:=.dict #[] } :=
    (Heap.get?_update_ne _ _ _ _ xs.symm).trans (Heap.get?_push_at rfl rfl)
  have nd:((h.push { cls:=.type "dict",data:=.dict #[] }).update x fun o=>{ cls:=o.cls,dict:=some h.objs.size,data:=o.data,slots:=o.slots }).Ns h.objs.size (fun _=>none) :=
    ⟨_,#[],_,gd,rfl,fun e z=>absurd z (by simp),fun _=>rfl⟩
  show wpAny _ _ (Builtin.ObjectAttr.storeInDict h.objs.size (.str f tk) f v) _ _ _
  unfold Builtin.ObjectAttr.storeInDict Builtin.ObjectAttr.newKeyGuard
  refine wpAny_bind (wpAny_pure (wpAny_bind (wpAny_nsSet1 (Heap.Ns1.of_empty nd) fun h' hn hs=>?_)))
  obtain ⟨oD,esD,epD,hoD,hdD,hcD⟩:=hn.count (Within.cons f v Within.nil)
  refine wpAny_bind (wpAny_lookBehind hoD (by rw [hdD]; exact pastItsLine_dict (Nat.le_trans hcD (by rw [List.length_cons,List.length_nil,sizeLine_eq]; omega))) ?_)
  wp_walk
  refine k h' _ ((hs.2 x xs).trans (Heap.get?_update_self _ x1 hfr)) hn fun b o z y=>?_
  exact (hs.2 b (Nat.ne_of_lt (Heap.lt_size y))).trans ((Heap.get?_update_ne _ _ _ _ z).trans (Heap.get?_push_of_some _ y))
theorem jbH {f:Str} {v:Value} {a0:Addr} {tk:Tok} {R:Result->Shared->Prop} (KX:K.In h) (hC:h.get? C=some (excClassObj nm q C N bs bm true sn sub ab col dd k0 k1 k2 k3 k5 "ValueError.__new__")) (T:OwnTail h vC bm)
    (na:PySem.W.findIn K (.ref C) f=some none) (he:h.get? x=some (uy C none a0))
    (k:∀ h' tk,h'.get? x=some (uy C (some h.objs.size) a0)->h'.Ns1 h.objs.size (fun y=>if y=f then some v else none)->(∀ b o,b≠x->h.get? b=some o->h'.get? b=some o)->R (.ok (.ret .none)) ⟨h',g,d,tk,os⟩) :
    codeAny (model prog w) A (.call (.builtin "object.__setattr__") ⟨[.ref x,.str f tk,v],[]⟩) R ⟨h,g,d,t,os⟩:=by
  refine codeAny_call_builtin PySem.F.store_ValueError.slot.plain PySem.F.store_ValueError.entry ?_
  refine jcv (o:=uy C none a0) (sa:="object.__setattr__") (owner:="object") PySem.F.store_ValueError T hC he rfl ?_
  exact jfh KX hC T na he rfl rfl (fun c z=>nomatch z) rfl k
theorem xset {s:Shared} {f:Str} {v:Value} {a0:Addr} {Q:Unit->Shared->Prop} (KX:K.In s.heap) (X:XCls K C f) (he:s.heap.get? x=some (uy C none a0))
    (k:∀ h' tk,h'.get? x=some (uy C (some s.heap.objs.size) a0)->h'.Ns1 s.heap.objs.size (fun y=>if y=f then some v else none)->(∀ b o,b≠x->s.heap.get? b=some o->h'.get? b=some o)->Q () { s with heap:=h',toks:=tk }) :
    wpAny (model prog w) A (setAttr (.ref x) f v) Q E s:=by
  obtain ⟨tl,Nn,n1,n2,bs,sn,sub,b2,col,dd,j0,j1,j2,j3,j5,look,tail⟩:=JQ X.ex
  obtain ⟨h,g,d,t,os⟩:=s
  have hC:=KX _ _ look
  have f3:=PySem.F.store_ValueError.slot.bind (.ref x)
  have L0:PySem.W.Looks (model prog w) h (typeOf (.ref x)) (.ref C):=by
    intro A' Q' E' s' k q
    unfold typeOf
    exact wpAny_bind (wpAny_loadPart (k _ _ he) (wpAny_pure q))
  have L1:=PySem.W.looks_findIn (M:=model prog w) KX X.sa
  unfold setAttr callSpecial? specialOf
  repeat (any_goals (first
    | assumption
    | with_reducible refine L0.at ?_
    | with_reducible refine L1.at ?_
    | wp_step))
  refine jbH KX hC (tail h KX) X.na he fun h' tk' x1 x2 x3=>?_
  repeat (any_goals (first
    | assumption
    | wp_step))
  exact k h' tk' x1 x2 x3
structure XGet (K:PySem.W.Frag) (C:Addr) (f:Str):Prop where
  ga:PySem.W.findIn K (.ref C) "__getattribute__" = some (some (.builtin "BaseException.__getattribute__"))
  na:PySem.W.findIn K (.ref C) f=some none
  be:PySem.W.mroIn K C (.type "BaseException")=some true
  gh:PySem.W.findIn K (.ref C) "__getattr__" = some none
  hd:(PySem.W.clsIn K C).any (·.hasDict)=true
open PySem.W PySem.Calls in
theorem jcD {f:Str} {v:Value} {dx:Addr} {m:Str->Option Value} {o:Obj} {tk:Tok} {Q:PySem.Fin->Shared->Prop} (KX:K.In h) (X:XGet K C f) (he:h.get? x=some o) (hc:o.cls = .ref C) (hd:o.dict=some dx) {vs:Array Value} (hf:o.data = .fields vs) (hn:h.Ns dx m) (hv:m f=some v)
    (k:Q (.done (.ret v)) ⟨h,g,d,t,os⟩):wpAny (model prog w) A (Builtin.«object.__getattribute__» ⟨[.ref x,.str f tk],[]⟩) Q E ⟨h,g,d,t,os⟩:=by
  have L4:=looks_findIn (M:=model prog w) KX X.na
  obtain ⟨cd,c1,c2⟩:=PySem.W.any_some X.hd
  have L5:=looks_clsIn (M:=model prog w) KX c1
  repeat (any_goals (first
    | assumption
    | (with_reducible refine wpAny_loadPart_at he ?_; rw [hc])
    | with_reducible refine L4.at ?_
    | with_reducible refine L5.at ?_
    | wp_step))
  rw [hf]
  show wpAny _ _ (instanceDict x false) _ _ _
  unfold instanceDict
  refine wpAny_bind (wpAny_loadPart he ?_)
  rw [hc]
  refine wpAny_bind (L5.at ?_)
  rw [c2]
  show wpAny _ _ (match o.dict with
    | some d=>pure (some d)
    | none=>_) _ _ _
  rw [hd]
  refine wpAny_pure ?_
  unfold Builtin.ObjectAttr.inDict
  refine wpAny_nsGet hn ?_
  rw [hv]
  repeat (any_goals (first
    | assumption
    | wp_step))
open PySem.W PySem.Calls in
theorem jfi {f:Str} {v:Value} {dx:Addr} {m:Str->Option Value} {o:Obj} {tk:Tok} {R:Result->Shared->Prop} (KX:K.In h) (X:XGet K C f) (he:h.get? x=some o) (hc:o.cls = .ref C) (hd:o.dict=some dx) {vs:Array Value} (hf:o.data = .fields vs) (hn:h.Ns dx m) (hv:m f=some v)
    (k:R (.ok (.ret v)) ⟨h,g,d,t,os⟩):codeAny (model prog w) A (.call (.builtin "BaseException.__getattribute__") ⟨[.ref x,.str f tk],[]⟩) R ⟨h,g,d,t,os⟩:=by
  have L0:Looks (model prog w) h (typeOf (.ref x)) (.ref C):=by
    intro A' Q' E' s' k q
    unfold typeOf
    refine wpAny_bind (wpAny_loadPart (k _ _ he) ?_)
    rw [<- hc] at q
    exact wpAny_pure q
  have L5:=looks_mroIn (M:=model prog w) KX X.be
  refine codeAny_call_builtin F.attrBase_ValueError.ga.plain F.entry_bexc_ga ?_
  have hk:builtinKind "BaseException.__getattribute__" = some .slot:=by decide +kernel
  have hsp:splitId "BaseException.__getattribute__" = some ("BaseException","__getattribute__"):=by decide +kernel
  have ha:=F.args_bexc_ga (.ref x) (.str f tk)
  simp only [checkBuiltinCall,hk,hsp]
  refine wpAny_bind ?_
  refine wpAny_bind ?_
  refine L0.at ?_
  refine L5.at ?_
  rw [if_neg (by decide)]
  unfold argsOk at ha
  generalize Manifest.signature? "BaseException.__getattribute__" = sg at ha ⊢
  refine Eq.subst (motive:=fun m=>wpAny (model prog w) A.in1 m _ _ _) (a:=pure ()) ?_ (wpAny_pure ?_)
  · cases sg with
    | none=>rfl
    | some sig=>exact ha.symm
  refine jcD KX X he hc hd hf hn hv ?_
  exact k
open PySem.W PySem.Calls in
theorem xget {s:Shared} {f:Str} {v:Value} {dx:Addr} {m:Str->Option Value} {o:Obj} {expr:Bool} {Q:Value->Shared->Prop} (KX:K.In s.heap) (X:XGet K C f) (he:s.heap.get? x=some o) (hc:o.cls = .ref C) (hd:o.dict=some dx) {vs:Array Value} (hf:o.data = .fields vs) (hn:s.heap.Ns dx m) (hv:m f=some v)
    (hh:handedIn v=true) (k:Q v { s with toks:=s.toks + 1 }):wpAny (model prog w) A (getAttr (.ref x) f expr) Q E s:=by
  obtain ⟨h,g,d,t,os⟩:=s
  have L0:Looks (model prog w) h (typeOf (.ref x)) (.ref C):=by
    intro A' Q' E' s' k q
    unfold typeOf
    refine wpAny_bind (wpAny_loadPart (k _ _ he) ?_)
    rw [<- hc] at q
    exact wpAny_pure q
  have L6:=looks_findIn (M:=model prog w) KX X.ga
  have L7:=looks_findIn (M:=model prog w) KX X.gh
  have f3:=F.attrBase_ValueError.ga.bind (.ref x)
  have y0:(expr && onTheHeap (Value.builtin "BaseException.__getattribute__"))=false:=by cases expr <;> rfl
  have y2:(Value.builtin "BaseException.__getattribute__" == Value.builtin "object.__getattribute__")=false:=by decide +kernel
  have y1:(onTheHeap (Value.ref C) && Value.builtin "BaseException.__getattribute__" == Value.builtin "object.__getattribute__")=false:=by rw [y2]; rfl
  have y3:=handedOut_of hh
  unfold getAttr
  repeat (any_goals (first
    | assumption
    | with_reducible refine L0.at ?_
    | with_reducible refine L6.at ?_
    | with_reducible refine L7.at ?_
    | wp_step))
  refine jfi KX X he hc hd hf hn hv ?_
  repeat (any_goals (first
    | assumption
    | rw [y3]
    | wp_step))
end
end L2
namespace L2
open PySem PySem.Spec PyProof.Rows
def mkO (ea C:Addr) (dd:Option Addr):HO:=.ext fun h=>∃ a0,h.get? ea=some (uy C dd a0)
theorem UG {P:Program} {w:World} {H:Hp} {h:Heap} {ea C a0:Addr} {dd:Option Addr} (e:h.get? ea=some (uy C dd a0)):jM P w H h ea (mkO ea C dd) :=
  ⟨⟨a0,e⟩,⟨_,e⟩,fun g1 g2 hQQ k=>by
    obtain ⟨b,z⟩:=hQQ
    exact ⟨b,k _ z⟩⟩
theorem jhm {H:Hp} {a:Addr} {o:HO} (e:H a=some o):upd H a o=H:=by
  funext b
  unfold upd
  split
  · rename_i z
    rw [z,e]
  · rfl
section
variable {X:Cx} {pins:List (Addr × Obj)} {σ:St} {H:Hp} {s:Shared} {a:Addr}
theorem Inv.mko {C:Addr} {dd:Option Addr} (I:Inv X pins σ H s) (e:H a=some (mkO a C dd)):∃ a0,s.heap.get? a=some (uy C dd a0):=by
  obtain ⟨p,_⟩:=(show jM X.prog X.w H s.heap a (mkO a C dd) from I.hok a _ e)
  exact p
theorem Inv.behind (I:Inv X pins σ H s) (h:s.heap.objs.size<=a):¬ Ul X pins H a:=fun hp=>by
  have no:∀ u,s.heap.get? a≠some u:=fun u e=>absurd (Heap.lt_size e) (Nat.not_lt.mpr h)
  rcases hp with z | ⟨x,z⟩ | ⟨p,hp,z⟩ | ⟨o,z⟩ | ⟨o,z,hx⟩
  · obtain ⟨m,⟨o,_,_,e,_⟩,_⟩:=I.loc
    rw [<- z] at e
    exact no _ e
  · obtain ⟨v,o,e,_⟩:=I.cell x a z
    exact no _ e
  · have e:=(I.pin p hp).1
    rw [z] at e
    exact no _ e
  · obtain ⟨u,e⟩:=(I.hok a o z).there
    exact no _ e
  · obtain ⟨o',e⟩:=I.base.there a o z hx
    exact no _ e
end
def jhu (C:Addr) (t:TA):TE:=fun σ H Q=>t σ H fun vs H1=>∃ ea u,vs=[.ref ea,u]∧H1 ea=some (mkO ea C none)∧Q .non H1
def sXfld (C:Addr) (f:Str) (ta tv:TE):TS:=fun D σ H=>tv σ H fun y H1=>ta σ H1 fun x H2=>∃ ea,x = .ref ea∧H2 ea=some (mkO ea C none)∧∀ d,H2 d=none->D.nx σ (upd (upd H2 ea (mkO ea C (some d))) d (.xd [(f,y)]))
section
variable {X:Cx} {C LC:Addr} {x f:Str} {e o value:Expr} {es:List Expr} {p pos apos pos':Pos} {t:TA} {ta tv:TE}
theorem jdI {pl:Sem Bool} (hx:excInI X.K C=true) (hg:Gl X x) (hm:X.mg x=some (.ref LC)) (hrd:PySem.W.readsIn X.K LC (.type "type")=true) (hfc:PySem.W.findCls X.K (.ref LC) (.type "type") "__init__" = some (.val (.builtin "ValueError.__init__")))
    (hsp:PySem.W.specialIn X.K (.ref LC) "__getattribute__" = some (some (.builtin "type.__getattribute__"))) (ha:PA X (e :: es) t) (hdb:(x == ("__debug__":Str))=false:=by decide)
    (he:starEach (e :: es) X.env=(false,eval e X.env) :: starEach es X.env:=by rfl) (hpl:(backTo pos (starEach es X.env)).any (·.1)=false:=by rfl)
    (ht:eval (.Call (.Attribute (.Name x p) "__init__" apos) (e :: es) [] pos) X.env=(do
      let ov <- eval (.Name x p) X.env
      standAt apos.atName
      let (f,first) <- holding [ov] (getMethod ov "__init__" pl)
      callWith pos f first (backTo pos (starEach (e :: es) X.env)) (backToKw pos (keywordEach [] X.env))):=by rfl):PE X (.Call (.Attribute (.Name x p) "__init__" apos) (e :: es) [] pos) (jhu C t):=by
  intro pins s0 σ H Q I0 h
  refine PySem.W.methodCall_KW (pl:=pl) (thn (XS (v:=.ref LC) hg hm rfl hdb pins s0 σ H (fun v H1=>v = .ref LC∧H1=H) I0 ⟨rfl,rfl⟩) fun u s1 hQQ=>?_) ht
  obtain ⟨v,H1,I1,rx,rfl,rfl⟩:=hQQ
  obtain rfl:u=Value.ref LC:=rx
  refine PySem.W.method_cls I1.kIn hsp (PySem.W.cls_value I1.kIn hrd hfc rfl ?_)
  have I:=I1.tok (s1.toks + 1)
  refine PyProof.Rows.callWith_builtin1 (thn (ha pos pins _ σ H1 _ I h) fun us s2 hQQ=>?_) he hpl
  obtain ⟨vs,H2,I2,r,ea,y,rfl,e1,q⟩:=hQQ
  obtain ⟨u1,u2,rfl,r1,r2⟩:=Yt r
  cases r1
  obtain ⟨tl,Nn,n1,n2,bs,sn,sub,b2,col,dd,j0,j1,j2,j3,j5,look,tail⟩:=JQ hx
  obtain ⟨a0,g1⟩:=I2.mko e1
  obtain ⟨hh,g,d,tk,os⟩:=s2
  refine xinit (I2.kIn _ _ look) (tail _ I2.kIn) g1 fun h' z1 z2=>⟨.non,H2,?_,rfl,q⟩
  have:=I2.write (x:=ea) (e:=ea) (o:=mkO ea C none) (t':=tk) (h':=h') (by rw [e1]; exact True.intro) (.inl rfl) (fun b u z y=>z2 b u z y) ⟨_,z1⟩ (UG z1)
  rw [jhm e1] at this
  exact this
theorem jfL (hx:XCls X.K C f) (ha:PE X o ta) (hv:PE X value tv) (hs:swapsWith value (some (.Attribute o f pos')) pos.line X.env=pure false):PS X (.Assign [.Attribute o f pos'] value pos) (sXfld C f ta tv):=by
  intro pins s σ H D I h
  refine plainObj_wpAny_Assign_Attribute (thn (hv pins s σ H _ I h) fun u s1 hQQ=>?_) hs
  obtain ⟨y,H1,I1,ry,q⟩:=hQQ
  refine thn (ha pins s1 σ H1 _ I1 q) fun ov s2 hQQ=>?_
  obtain ⟨x,H2,I2,rx,ea,rfl,e1,q2⟩:=hQQ
  obtain rfl:ov=Value.ref ea:=rx
  obtain ⟨a0,g1⟩:=I2.mko e1
  have hd:H2 s2.heap.objs.size=none:=I2.hok.fresh (Nat.le_refl _)
  have ne:s2.heap.objs.size≠ea:=Nat.ne_of_gt (Heap.lt_size g1)
  refine xset I2.kIn hx g1 fun h' tk z1 z2 z3=>⟨σ,_,?_,q2 _ hd⟩
  have I3:=I2.write (x:=ea) (e:=ea) (o:=mkO ea C (some s2.heap.objs.size)) (t':=tk) (h':=h') (by rw [e1]; exact True.intro) (.inl rfl) (fun b u z y=>z3 b u z y) ⟨_,z1⟩ (UG z1)
  refine I3.track (fun hp=>I2.behind (Nat.le_refl _) ?_) ⟨_,z2,fun y'=>?_⟩
  · rcases hp with z | z | z | ⟨o,z⟩ | z
    · exact .inl z
    · exact .inr (.inl z)
    · exact .inr (.inr (.inl z))
    · rw [ji ne] at z
      exact .inr (.inr (.inr (.inl ⟨o,z⟩)))
    · exact .inr (.inr (.inr (.inr z)))
  · show xM (List.lookup y' [(f,y)]) (if y'=f then some u else none)
    by_cases z:y'=f
    · have hb:(y' == f)=true:=beq_iff_eq.mpr z
      simp only [List.lookup,hb,if_pos z]
      exact ry
    · have hb:(y' == f)=false:=beq_eq_false_iff_ne.mpr z
      simp only [List.lookup,hb,if_neg z]
      exact True.intro
end
def spX (C:Addr) (f:Str):Sp:=fun vs H Q _=>∃ ea v,vs=[.ref ea,v]∧H ea=some (mkO ea C none)∧∀ d,H d=none->Q .non (upd (upd H ea (mkO ea C (some d))) d (.xd [(f,v)]))
structure ExcI (P:Program) (w:World) (K:PySem.W.Frag) (mg:Str->Option Value) (base:Heap) (x:Str) (C:Addr) (f:Str) (k:Nat):Prop where
  at_:mg x=some (.ref C)
  ex:excInI K C=true
  fn:∃ fI fd ps,FnOk P w K mg base CX0 k fI fd ps (spX C f)∧PySem.W.findIn K (.ref C) "__init__" = some (some (.ref fI))∧PySem.W.typeIn K (.ref fI)=some (.type "function")∧uN K fd ps []
section
variable {P:Program} {w:World} {K:PySem.W.Frag} {mg:Str->Option Value} {base:Heap} {N:List Str} {qual:Str} {scope:Scope} {f:Addr} {cd:Value} {A:Around} {outer:List Env} {s₀:Shared} {H₀:Hp} {E:XK}
theorem jcq {pins:List (Addr × Obj)} {σ:St} {H:Hp} {s:Shared} {ea C:Addr} {dd:Option Addr} (I:Inv (yz (CX1 P w) P w K mg base N qual scope f cd A outer s₀ H₀ E) pins σ H s) (he:H ea=some (mkO ea C dd)) (hn:s₀.heap.get? ea=none)
    (q:E (.ref C) dd (fun b=>if b=ea then none else H b)):(yz (CX1 P w) P w K mg base N qual scope f cd A outer s₀ H₀ E).xe (.ref ea) s:=by
  obtain ⟨a0,g1⟩:=I.mko he
  have hst:s.heap.FunFrames base (envOfC qual scope s₀.heap.objs.size f cd :: outer):=I.stack
  have hin:∀ env ∈ (envOfC qual scope s₀.heap.objs.size f cd :: outer),∀ b,env.frame=some b->b ∈ ea :: frs (envOfC qual scope s₀.heap.objs.size f cd :: outer):=fun env he b hb=>List.mem_cons_of_mem _ (List.mem_filterMap.mpr ⟨env,he,hb⟩)
  have jgq:=PySem.W.funFrames_hide hst hin
  have hf:ea ∉ frs (envOfC qual scope s₀.heap.objs.size f cd :: outer):=fun z=>by
    have:=I.stkFree ea z
    rw [he] at this
    cases this
  have en:(PySem.W.hideAll s.heap (ea :: frs (envOfC qual scope s₀.heap.objs.size f cd :: outer))).get? ea=none:=PySem.W.hideAll_none _ (List.mem_cons_self)
  refine jaT (base:=PySem.W.hideAll s.heap (ea :: frs (envOfC qual scope s₀.heap.objs.size f cd :: outer))) I.ok.frames jgq rfl g1 (fun b o z=>PySem.W.of_hideAll _ z) en rfl rfl fun h'' fl up=>?_
  have kB:∀ b o,s.heap.get? b=some o->b≠ea->b ∉ frs (envOfC qual scope s₀.heap.objs.size f cd :: outer)->(PySem.W.hideAll s.heap (ea :: frs (envOfC qual scope s₀.heap.objs.size f cd :: outer))).get? b=some o:=fun b o z n1 n2 =>
    PySem.W.hideAll_get _ z fun hm=>(List.mem_cons.mp hm).elim n1 n2
  have ub:Un (frs outer) [] H₀ H s₀.heap s.heap:=I.base
  have nea:∀ b o,s₀.heap.get? b=some o->b≠ea:=fun b o z w=>by rw [w,hn] at z; cases z
  have bsx:∀ b o,s₀.heap.get? b=some o->H₀ b=none->b ∉ frs outer->s.heap.get? b=some o:=fun b o z n hm=>ub.keep b o z n hm (by simp)
  have hd:∀ b o,H b=some o->(∀ φ,o≠.ext φ)->b≠ea:=fun b o z n w=>by
    rw [w,he] at z
    cases z
    exact n _ rfl
  refine CX1.step (s':=s) (h:=s.heap) (H':=fun b=>if b=ea then none else H b) I.os I.bare fl up (fun b o z=>PySem.W.of_hideAll _ z) I.ok.frf (fun b hb o z=>?_) (fun b o z n hm=>kB b o (bsx b o z n hm) (nea b o z) (vg z hm)) (fun b o z hm=>?_) (fun b o z=>?_) ?_ ?_ q
  · obtain ⟨_,o',e1,e2⟩:=hst.mem (b:=b) (List.mem_cons_of_mem _ hb)
    rw [z] at e1
    cases e1
    exact e2
  · obtain ⟨o',e1⟩:=ub.there b o z (by simp)
    exact ⟨o',kB b o' e1 (nea b o z) (vg z hm)⟩
  · have z:(if b=ea then none else H b)=some o:=z
    by_cases w:b=ea
    · rw [if_pos w] at z
      cases z
    · rw [if_neg w] at z
      obtain ⟨u,e1⟩:=(I.hok b o z).there
      refine ⟨u,kB b u e1 w fun hm=>?_⟩
      have:=I.stkFree b hm
      rw [z] at this
      cases this
  · refine ⟨ub.keep,ub.slot,fun b o z n hx=>?_,ub.there,fun b xs z=>?_,fun b o u z=>?_,fun b ps z=>?_⟩
    · show (if b=ea then none else H b)=none
      rw [if_neg (nea b o z)]
      exact ub.free b o z n hx
    · have y:=ub.tups b xs z
      show (if b=ea then none else H b)=_
      rw [if_neg (hd b _ y fun _=>by intro c; cases c)]
      exact y
    · have y:=ub.frzs b o u z
      show (if b=ea then none else H b)=_
      rw [if_neg (hd b _ y fun _=>by intro c; cases c)]
      exact y
    · obtain ⟨more,y⟩:=ub.tbls b ps z
      refine ⟨more,?_⟩
      show (if b=ea then none else H b)=_
      rw [if_neg (hd b _ y fun _=>by intro c; cases c)]
      exact y
  · intro b o z
    have z:(if b=ea then none else H b)=some o:=z
    by_cases w:b=ea
    · rw [if_pos w] at z
      cases z
    · rw [if_neg w] at z
      refine (I.hok b o z).stay (fun _ _ _ y=>y) (fun c y=>?_) fun c xs y=>?_
      · show (if c=ea then none else H c)=_
        rw [if_neg (hd c _ y fun _=>by intro c; cases c)]
        exact y
      · show (if c=ea then none else H c)=_
        rw [if_neg (hd c _ y fun _=>by intro c; cases c)]
        exact y
def jfr (C:Addr) (fn:Str) (E:XK) (t:TA):TS:=fun _ σ H=>t σ H fun vs H1=>∃ v,vs=[v]∧∀ d,H1 d=none->E (.ref C) (some d) (upd H1 d (.xd [(fn,v)]))
theorem jbS {x fn:Str} {C:Addr} {k:Nat} {np cpos pos:Pos} {e:Expr} {es:List Expr} {t:TA} (hC:ExcI P w K mg base x C fn k) (hr:Room (k + 1) (A.deeper (envOfC qual scope s₀.heap.objs.size f cd))) (hg:Gl (yz (CX1 P w) P w K mg base N qual scope f cd A outer s₀ H₀ E) x) (ha:PA (yz (CX1 P w) P w K mg base N qual scope f cd A outer s₀ H₀ E) (e :: es) t)
    (hdb:(x == ("__debug__":Str))=false:=by decide)
    (he:starEach (e :: es) (envOfC qual scope s₀.heap.objs.size f cd)=(false,eval e (envOfC qual scope s₀.heap.objs.size f cd)) :: starEach es (envOfC qual scope s₀.heap.objs.size f cd):=by rfl)
    (hpl:(backTo cpos (starEach es (envOfC qual scope s₀.heap.objs.size f cd))).any (·.1)=false:=by rfl) :
    PS (yz (CX1 P w) P w K mg base N qual scope f cd A outer s₀ H₀ E) (.Raise (some (.Call (.Name x np) (e :: es) [] cpos)) none pos) (jfr C fn E t):=by
  intro pins s σ H D I h
  obtain ⟨fI,fd,ps,F,hi,hf,hb⟩:=hC.fn
  obtain ⟨tl,Nn,n1,n2,bs,sn,sub,b2,col,dd,j0,j1,j2,j3,j5,look,tail⟩:=JQ hC.ex
  refine jgN (C:=C) (nm:=n1) (q:=n2) (N:=Nn) (bs:=bs) (bm:=tl) (hdct:=true) (sn:=sn) (sub:=sub) (ab:=b2) (col:=col) (dd:=dd) (k0:=j0) (k1:=j1) (k2:=j2) (k3:=j3) (k5:=j5)
    ((tail s.heap I.kIn).hasType PySem.F.excBase_ValueError.hasBase) (I.ok.hd rfl) (by
      show (backTo cpos (starEach (e :: es) (envOfC qual scope s₀.heap.objs.size f cd))).any (·.1)=false
      rw [he]
      show (false || (backTo cpos (starEach es (envOfC qual scope s₀.heap.objs.size f cd))).any (·.1))=false
      rw [hpl]
      rfl) (vd I hg hC.at_ ⟨rfl,?_⟩ hdb)
  have hp:=ha cpos pins s σ H _ I h
  have hp2:wpAny (model P w) (A.deeper (envOfC qual scope s₀.heap.objs.size f cd)) (spliced (backTo cpos (starEach (e :: es) (envOfC qual scope s₀.heap.objs.size f cd)))) _ _ s:=hp
  show wpAny (model P w) (A.deeper (envOfC qual scope s₀.heap.objs.size f cd)) (evalArgs (.ref C) true (backTo cpos (starEach (e :: es) (envOfC qual scope s₀.heap.objs.size f cd))) []) _ _ s
  rw [he] at hp2 ⊢
  refine Calls.evalArgs_plain (thn hp2 fun us s2 z=>?_)
  obtain ⟨vs,H1,I1,rv,v,rfl,q⟩:=z
  obtain ⟨u,rfl,ru⟩:=Yu rv
  obtain ⟨hh,g,d,tk,os⟩:=s2
  have KX:K.In hh:=I1.kIn
  refine ⟨rfl,KX _ _ look,?_⟩
  have g1:(UF hh C [u]).get? (hh.objs.size + 1)=some (uy C none hh.objs.size):=by heap_get
  have en:H1 (hh.objs.size + 1)=none:=I1.hok.fresh (Nat.le_succ _)
  have I2:=I1.laid (a:=hh.objs.size + 1) (o:=mkO (hh.objs.size + 1) C none) (h':=UF hh C [u]) (t':=tk) (fun b o z=>Heap.get?_push_of_some _ (Heap.get?_push_of_some _ z)) (Nat.le_succ _) (UG g1)
  have r2:jq [V.ref (hh.objs.size + 1),v] [Value.ref (hh.objs.size + 1),u]:=.cons rfl rv
  have hsp:spX C fn [V.ref (hh.objs.size + 1),v] (upd H1 (hh.objs.size + 1) (mkO (hh.objs.size + 1) C none)) (fun w H2=>w = .non∧∃ d,H1 d=none∧d≠hh.objs.size + 1∧H2=upd (upd H1 (hh.objs.size + 1) (mkO (hh.objs.size + 1) C (some d))) d (.xd [(fn,v)])) E0 :=
    ⟨_,v,rfl,jo,fun d hd=>by
      have ne:d≠hh.objs.size + 1:=fun z=>by
        rw [z,jo] at hd
        cases hd
      rw [ji ne] at hd
      exact ⟨rfl,d,hd,ne,by rw [xX]⟩⟩
  have hl:([Value.ref (hh.objs.size + 1),u] ++ []).length=ps.length:=by
    have:=F.len _ _ _ _ hsp
    simpa using this
  have bind:=hb ⟨UF hh C [u],g,d,tk,os⟩ [Value.ref (hh.objs.size + 1),u] I2.kIn hl
  refine jea (g:=g) (d:=d) (t:=tk) (os:=os) KX (KX _ _ look) (tail hh KX) hi hf ?_ (by show 1<=sizeLine; rw [sizeLine_eq]; decide)
  refine wpAny_call (codeAny_mono (F.run _ (envOfC qual scope s₀.heap.objs.size f cd :: outer) _ _ ⟨[Value.ref (hh.objs.size + 1),u],[]⟩ _ _ _ E0 (hr.make C [u] []) (I2.env0.make C [u] []) bind r2 hsp) fun r s' hq'=>?_)
  match r,hq' with
  | .error e,hq'=>exact False.elim hq'
  | .ok (.ret w),hq' =>
    obtain ⟨y,H',I3,ry,rfl,d',hd',ne,rfl⟩:=I2.after hq'
    have e3:(upd (upd H1 (hh.objs.size + 1) (mkO (hh.objs.size + 1) C (some d'))) d' (.xd [(fn,v)])) (hh.objs.size + 1)=some (mkO (hh.objs.size + 1) C (some d')):=by
      rw [ji (Ne.symm ne),jo]
    obtain ⟨a0,g3⟩:=I3.mko e3
    refine ⟨ry,hh.objs.size + 1,some d',a0,rfl,I3.kIn _ _ look,g3,jcq I3 e3 ?_ ?_⟩
    · exact Heap.get?_none_of_le (Nat.le_succ_of_le (show s₀.heap.objs.size<=hh.objs.size from I1.sz))
    · have:(fun b=>if b=hh.objs.size + 1 then none else (upd (upd H1 (hh.objs.size + 1) (mkO (hh.objs.size + 1) C (some d'))) d' (.xd [(fn,v)])) b)=upd H1 d' (.xd [(fn,v)]):=by
        funext b
        by_cases z:b=hh.objs.size + 1
        · subst z
          rw [if_pos rfl,ji (Ne.symm ne),en]
        · rw [if_neg z]
          by_cases y:b=d'
          · rw [y,jo,jo]
          · rw [ji y,ji y,ji z]
      rw [this]
      exact q d' hd'
end
def tXget (f:Str) (K:PySem.W.Frag) (te:TE):TE:=fun σ H Q=>te σ H fun x H1=>∃ ea C d fs v,x = .ref ea∧H1 ea=some (Vb ea C (some d))∧H1 d=some (.xd fs)∧XGet K C f∧fs.lookup f=some v∧Q v H1
theorem jfW {X:Cx} {e:Expr} {f:Str} {pos:Pos} {te:TE} (he:PE X e te) (hb:attributeBase e f X.env (eval e X.env)=eval e X.env):PE X (.Attribute e f pos) (tXget f X.K te):=by
  intro pins s σ H Q I h
  refine jbk hb (thn (he pins s σ H _ I h) fun u s1 hQQ=>?_)
  obtain ⟨x,H1,I1,rx,ea,C,d,fs,v,rfl,h1,h2,hx,hl,q⟩:=hQQ
  obtain rfl:u=Value.ref ea:=rx
  obtain ⟨⟨o,vs,e1,e2,e3,e4⟩,_⟩:=(show jM X.prog X.w H1 s1.heap ea (Vb ea C (some d)) from I1.hok ea _ h1)
  obtain ⟨mA,n1,r1⟩:=(show jM X.prog X.w H1 s1.heap d (.xd fs) from I1.hok d _ h2)
  obtain ⟨u',hu,ru⟩:=xM.some_of (v:=v) (o:=mA f) (by rw [<- hl]; exact r1 f)
  exact xget I1.kIn hx e1 e2 e4 e3 n1.ns hu (Xg ru) ⟨v,H1,I1.tok _,ru,q⟩
end L2
namespace L2
open PySem PySem.Spec PyProof.Rows
structure FunD (K:PySem.W.Frag) (x qual:Str) (st:Stmt) (f:Addr) (fd:FuncData):Prop where
  ex:∃ (oc:Value) (od:Option Addr) (dV kV doc pm:Value) (an:Option Addr) (cdv ct:Value) (osl:Array (Option Value)),
    fd=PySem.W.fnOf x qual (jt st) (jn st) (jd st) dV kV doc pm an cdv ct∧K.lookup f=some ⟨oc,od,.func fd,osl⟩∧PySem.W.codeIn K cdv qual=true
  kp:PySem.W.keepIn K (.ref f)=true
section
variable {P:Program} {w:World} {K:PySem.W.Frag} {mg:Str->Option Value} {base:Heap} {x qual:Str} {st:Stmt} {f:Addr} {fd:FuncData} {N ps ks:List Str} {k:Nat} {sp sp':Sp}
theorem FunD.ok (F:FunD K x qual st f fd) (S:FnScope N ps (jd st)) (len:∀ vs H Q E,sp vs H Q E->vs.length=ps.length)
    (hbody:∀ (cdv:Value) (A:Around) (outer:List Env) (s:Shared) (H:Hp) (vs:List V) (Q:VK) (E:XK),Room k (A.deeper (envOfC qual (jd st) s.heap.objs.size f cdv))->sp vs H Q E ->
      ∃ t,PSs (yz CX0 P w K mg base N qual (jd st) f cdv A outer s H E).nox (jn st) t∧t { nx:=fun _ H'=>Q .non H',rt:=Q } (start N vs) H):FnOk P w K mg base CX0 (k + 1) f fd ps sp:=by
  obtain ⟨oc,od,dV,kV,doc,pm,an,cdv,ct,osl,rfl,lk,hcd⟩:=F.ex
  refine jaY lk hcd S len fun A outer s H vs Q E hr hsp=>?_
  obtain ⟨t,h,q⟩:=hbody cdv A outer s H vs Q E hr hsp
  exact ⟨t,h.nox,q⟩
theorem FunD.okX (F:FunD K x qual st f fd) (S:FnScope N ps (jd st)) (len:∀ vs H Q E,sp vs H Q E->vs.length=ps.length)
    (hbody:∀ (cdv:Value) (A:Around) (outer:List Env) (s:Shared) (H:Hp) (vs:List V) (Q:VK) (E:XK),Room k (A.deeper (envOfC qual (jd st) s.heap.objs.size f cdv))->sp vs H Q E ->
      ∃ t,PSs (yz (CX1 P w) P w K mg base N qual (jd st) f cdv A outer s H E) (jn st) t∧t { nx:=fun _ H'=>Q .non H',rt:=Q } (start N vs) H):FnOk P w K mg base (CX1 P w) (k + 1) f fd ps sp:=by
  obtain ⟨oc,od,dV,kV,doc,pm,an,cdv,ct,osl,rfl,lk,hcd⟩:=F.ex
  exact jaY lk hcd S len fun A outer s H vs Q E hr hsp=>hbody cdv A outer s H vs Q E hr hsp
end
end L2
namespace L2
open PySem PySem.Spec PyProof.Rows
section
variable {X:Cx} {CX:CXT} {k:Nat} {f C:Addr} {fd:FuncData} {ps ks:List Str} {sp:Sp} {E:XK} {x:Str} {p pos:Pos} {kws:List Keyword} {tk:TA} {g:List Value->List Value->List Value} {gV:List V->List V->List V}
end
structure CalN (P:Program) (w:World) (K:PySem.W.Frag) (mg:Str->Option Value) (base:Heap) (x:Str) (C:Addr) (j:Nat) (ps ks:List Str) (gV:List V->List V->List V) (sp:Sp):Prop where
  ex:∃ (f:Addr) (fd:FuncData) (g:List Value->List Value->List Value),FnOk P w K mg base CX0 j f fd ps sp∧Mk K C f∧KBinds K fd ps ks g gV∧mg x=some (.ref C)
structure CalM (P:Program) (w:World) (K:PySem.W.Frag) (mg:Str->Option Value) (base:Heap) (C:Addr) (m:Str) (j:Nat) (ps:List Str) (sp:Sp):Prop where
  ex:∃ (f:Addr) (fd:FuncData),FnOk P w K mg base CX0 j f fd ps sp∧Meth K C m f∧Cls K C∧uN K fd ps []
section
variable {X:Cx} {C:Addr} {x m:Str} {j:Nat} {ps ks:List Str} {sp:Sp} {p pos apos:Pos} {o e:Expr} {es:List Expr} {ta:TE} {t tk:TA} {kws:List Keyword} {gV:List V->List V->List V}
end
def g12 {α:Type} (us ws:List α):List α:=match us,ws with
  | [s],[a,b]=>[s,a,b]
  | _,_=>[]
def g11d {α:Type} (d:α) (us ws:List α):List α:=match us,ws with
  | [s],[a]=>[s,a,d]
  | _,_=>[]
def g10d {α:Type} (d e:α) (us ws:List α):List α:=match us,ws with
  | [s],[]=>[s,d,e]
  | _,_=>[]
section
variable {K:PySem.W.Frag} {fd:FuncData} {p0 p1 p2:Str} {d e:V} {dv ev:Value}
theorem KB.two (h:∀ u a b:Value,bindArgs fd ⟨[u],[(p1,a),(p2,b)]⟩=pure [(p0,u),(p1,a),(p2,b)]):KBinds K fd [p0,p1,p2] [p1,p2] g12 g12 where
  to:=fun s us ws _ hl=>by
    match us,ws,hl with
    | [u],[a,b],_=>exact .of_eq (h u a b)
  rel:=fun {vs us zs ws} a b=>by
    cases a with
    | nil=>exact .nil
    | cons r t=>cases t with
      | cons _ _=>exact .nil
      | nil=>cases b with
        | nil=>exact .nil
        | cons r2 t2=>cases t2 with
          | nil=>exact .nil
          | cons r3 t3=>cases t3 with
            | nil=>exact .cons r (.cons r2 (.cons r3 .nil))
            | cons _ _=>exact .nil
theorem KB.one (rd:jv d dv) (h:∀ (s:Shared) (u a:Value),K.In s.heap->BindsTo s fd ⟨[u],[(p1,a)]⟩ [(p0,u),(p1,a),(p2,dv)]):KBinds K fd [p0,p1,p2] [p1] (g11d dv) (g11d d) where
  to:=fun s us ws X hl=>by
    match us,ws,hl with
    | [u],[a],_=>exact h s u a X
  rel:=fun {vs us zs ws} a b=>by
    cases a with
    | nil=>exact .nil
    | cons r t=>cases t with
      | cons _ _=>exact .nil
      | nil=>cases b with
        | nil=>exact .nil
        | cons r2 t2=>cases t2 with
          | nil=>exact .cons r (.cons r2 (.cons rd .nil))
          | cons _ _=>exact .nil
theorem KB.zero (rd:jv d dv) (re:jv e ev) (h:∀ (s:Shared) (u:Value),K.In s.heap->BindsTo s fd ⟨[u],[]⟩ [(p0,u),(p1,dv),(p2,ev)]):KBinds K fd [p0,p1,p2] [] (g10d dv ev) (g10d d e) where
  to:=fun s us ws X hl=>by
    match us,ws,hl with
    | [u],[],_=>exact h s u X
  rel:=fun {vs us zs ws} a b=>by
    cases a with
    | nil=>exact .nil
    | cons r t=>cases t with
      | cons _ _=>exact .nil
      | nil=>cases b with
        | nil=>exact .cons r (.cons rd (.cons re .nil))
        | cons _ _=>exact .nil
end
end L2
namespace L2
open PySem PySem.Spec PyProof.Rows
structure CalNX (P:Program) (w:World) (K:PySem.W.Frag) (mg:Str->Option Value) (base:Heap) (x:Str) (C:Addr) (j:Nat) (ps ks:List Str) (gV:List V->List V->List V) (sp:Sp):Prop where
  ex:∃ (f:Addr) (fd:FuncData) (g:List Value->List Value->List Value),FnOk P w K mg base (CX1 P w) j f fd ps sp∧Mk K C f∧KBinds K fd ps ks g gV∧mg x=some (.ref C)
structure CalMX (P:Program) (w:World) (K:PySem.W.Frag) (mg:Str->Option Value) (base:Heap) (C:Addr) (m:Str) (j:Nat) (ps:List Str) (sp:Sp):Prop where
  ex:∃ (f:Addr) (fd:FuncData),FnOk P w K mg base (CX1 P w) j f fd ps sp∧Meth K C m f∧Cls K C∧uN K fd ps []
section
variable {X:Cx} {C:Addr} {x m:Str} {j:Nat} {ps ks:List Str} {sp:Sp} {p pos apos:Pos} {o e:Expr} {es:List Expr} {ta:TE} {t tk:TA} {kws:List Keyword} {gV:List V->List V->List V} {E:XK}
end
end L2
namespace L2
open PySem PySem.Spec PyProof.Rows
structure RA (X:Cx) (es:List Expr) (t:TA):Prop where
  h:PA X es t
structure RE (X:Cx) (e:Expr) (t:TE):Prop where
  h:PE X e t
section
variable {X:Cx} {e:Expr} {es:List Expr} {te:TE} {t:TA} {pos:Pos}
end
end L2
namespace L2
open PySem PySem.Spec PyProof.Rows
theorem yA.np {X:Cx} {pins:List (Addr × Obj)} {H:Hp} {b:Addr} (f:yA X pins H b):¬ Ul X pins H b:=by
  rintro (z | ⟨x,z⟩ | ⟨p,hp,z⟩ | ⟨o,z⟩ | ⟨o,z,hx⟩)
  · exact f.2.1 z
  · exact f.2.2.2.2.1 x b z rfl
  · exact f.2.2.2.2.2 p hp z
  · rw [f.1] at z
    cases z
  · rcases f.2.2.2.1 with y | y
    · exact hx y
    · exact Nat.lt_irrefl _ (Nat.lt_of_lt_of_le (Heap.lt_size z) y)
section
variable {X:Cx} {elts:List Expr} {x1:Nat} {tpos:Pos}
end
end L2
namespace L2
open PySem PySem.Spec PyProof.Rows
def tTru (K:PySem.W.Frag) (t:TE):TT:=fun σ H Q=>t σ H fun x H1=>∃ k,TruV K x H1 k∧Q k H1
theorem pt_tru {X:Cx} {e:Expr} {t:TE} (h:PE X e t) (he:∀ whole,isTrue e X.env whole=(do let v <- whole; standAt e.pos; holding [v] (truthy v)):=by intro _; rfl):PT X e (tTru X.K t):=by
  intro pins s σ H Q I hw
  refine isTrue_plain (thn (h pins s σ H _ I hw) fun v s1 hQQ=>?_) (he _)
  obtain ⟨x,H1,I1,r1,q1⟩:=hQQ
  exact jhp pins s1 σ H1 x v _ I1 r1 q1
end L2
namespace L2
open PySem PySem.Spec PyProof.Rows
section
variable {κ:Type} [DecidableEq κ]
def xq (kvs:List (κ × V)) (k:κ):Option V:=(kvs.find? fun kv=>decide (kv.1=k)).map (·.2)
def vj (kvs:List (κ × V)) (k:κ) (v:V):List (κ × V) :=
  if (kvs.any fun kv=>decide (kv.1=k))=true then kvs.map (fun kv=>if kv.1=k then (kv.1,v) else kv) else kvs ++ [(k,v)]
def jhb (kvs:List (κ × V)) (k:κ):List (κ × V):=kvs.filter fun kv=>decide (kv.1≠k)
theorem vG {p:κ × V} {r:List (κ × V)} {k:κ} (e:p.1=k):xq (p :: r) k=some p.2:=by simp [xq,List.find?_cons,e]
theorem vH {p:κ × V} {r:List (κ × V)} {k:κ} (e:¬ p.1=k):xq (p :: r) k=xq r k:=by simp [xq,List.find?_cons,e]
theorem Vp (k:κ):∀ kvs:List (κ × V),(kvs.any fun kv=>decide (kv.1=k))=(xq kvs k).isSome
  | []=>rfl
  | p :: r=>by
    rw [List.any_cons]
    by_cases e:p.1=k
    · simp only [vG e,decide_eq_true e,Bool.true_or,Option.isSome_some]
    · rw [vH e,decide_eq_false e,Bool.false_or]; exact Vp k r
theorem uF (kvs:List (κ × V)) (k:κ) (v:V):(vj kvs k v).length<=kvs.length + 1:=by
  unfold vj
  split
  · rw [List.length_map]; omega
  · rw [List.length_append,List.length_cons,List.length_nil]; omega
theorem xM.isSome_eq {o:Option V} {u:Option Value} (r:xM o u):o.isSome=u.isSome:=by
  cases o with
  | none=>cases u with
    | none=>rfl
    | some _=>exact (show False from r).elim
  | some _=>cases u with
    | none=>exact (show False from r).elim
    | some _=>rfl
theorem xM.getD {o:Option V} {u:Option Value} {d:V} {d':Value} (r:xM o u) (rd:jv d d'):jv (o.getD d) (u.getD d'):=by
  cases o with
  | none=>cases u with
    | none=>exact rd
    | some _=>exact (show False from r).elim
  | some _=>cases u with
    | none=>exact (show False from r).elim
    | some _=>exact r
theorem KV.val {kvs:List (κ × V)} {vs:List (κ × Value)} (r:KV kvs vs) (k:κ):xM (xq kvs k) (valueAt vs k):=by
  unfold KV at r
  induction r with
  | nil=>exact True.intro
  | @cons p q ps qs h t ih =>
    obtain ⟨h1,h2⟩:=h
    by_cases e:p.1=k
    · have e':q.1=k:=h1.symm.trans e
      have b:valueAt (q :: qs) k=some q.2:=by simp [valueAt,List.find?_cons,e']
      rw [vG e,b]; exact h2
    · have e':¬ q.1=k:=fun z=>e (h1.trans z)
      have b:valueAt (q :: qs) k=valueAt qs k:=by simp [valueAt,List.find?_cons,e']
      rw [vH e,b]; exact ih
theorem KV.any {kvs:List (κ × V)} {vs:List (κ × Value)} (r:KV kvs vs) (k:κ):(kvs.any fun kv=>decide (kv.1=k))=vs.any fun kv=>decide (kv.1=k):=by
  unfold KV at r
  induction r with
  | nil=>rfl
  | cons h t ih=>rw [List.any_cons,List.any_cons,ih,h.1]
theorem KV.repl {kvs:List (κ × V)} {vs:List (κ × Value)} (r:KV kvs vs) (k:κ) {y:V} {u:Value} (ry:jv y u) :
    KV (kvs.map fun kv=>if kv.1=k then (kv.1,y) else kv) (vs.map fun kv=>if kv.1=k then (kv.1,u) else kv):=by
  unfold KV at r ⊢
  induction r with
  | nil=>exact .nil
  | @cons p q ps qs h t ih =>
    rw [List.map_cons,List.map_cons]
    refine .cons ?_ ih
    obtain ⟨h1,h2⟩:=h
    by_cases e:p.1=k
    · rw [if_pos e,if_pos (h1.symm.trans e)]; exact ⟨h1,ry⟩
    · rw [if_neg e,if_neg (fun z=>e (h1.trans z))]; exact ⟨h1,h2⟩
theorem KV.put {kvs:List (κ × V)} {vs:List (κ × Value)} (r:KV kvs vs) (k:κ) {y:V} {u:Value} (ry:jv y u):KV (vj kvs k y) (stored vs k u):=by
  unfold vj stored
  rw [r.any k]
  by_cases e:(vs.any fun kv=>decide (kv.1=k))=true
  · rw [if_pos e,if_pos e]; exact r.repl k ry
  · rw [if_neg e,if_neg e]; exact Paired.snoc r ⟨rfl,ry⟩
theorem KV.drop {kvs:List (κ × V)} {vs:List (κ × Value)} (r:KV kvs vs) (k:κ):KV (jhb kvs k) (without vs k):=by
  unfold KV at r ⊢
  unfold jhb without
  induction r with
  | nil=>exact .nil
  | @cons p q ps qs h t ih =>
    obtain ⟨h1,h2⟩:=h
    rw [List.filter_cons,List.filter_cons]
    by_cases e:p.1=k
    · have a:¬ decide (p.1≠k)=true:=by simp [e]
      have b:¬ decide (q.1≠k)=true:=by simp [h1.symm.trans e]
      rw [if_neg a,if_neg b]; exact ih
    · have e':¬ q.1=k:=fun z=>e (h1.trans z)
      have a:decide (p.1≠k)=true:=by simp [e]
      have b:decide (q.1≠k)=true:=by simp [e']
      rw [if_pos a,if_pos b]; exact .cons ⟨h1,h2⟩ ih
theorem KV.keys {kvs:List (κ × V)} {vs:List (κ × Value)} (r:KV kvs vs):kvs.map (·.1)=vs.map (·.1):=by
  unfold KV at r
  induction r with
  | nil=>rfl
  | cons h t ih=>rw [List.map_cons,List.map_cons,ih,h.1]
theorem KV.length {kvs:List (κ × V)} {vs:List (κ × Value)} (r:KV kvs vs):kvs.length=vs.length:=Paired.length r
end
theorem jei {P:Program} {w:World} {k:Key} {u:Value} (r:jv (kV k) u):(jI P w).is k u=true:=by
  cases k with
  | inl i=>obtain ⟨t,e⟩:=(show ∃ t,u=Value.int i t from r); subst e; exact VJ P w i t
  | inr x=>obtain ⟨t,e⟩:=(show ∃ t,u=Value.str x t from r); subst e; exact VI P w x t
theorem uu {P:Program} {w:World}:∀ {ks:List Key} {us:List Value},jq (ks.map kV) us->ItemsAre (jI P w) ks us
  | [],_,r=>by rw [List.map_nil] at r; cases r; exact .nil
  | k :: ks,_,r=>by
    rw [List.map_cons] at r
    cases r with
    | cons h t=>exact .cons (jei h) (uu t)
abbrev KT (H:Hp):List (List Key × V)->List (List Key × Addr × Value)->Prop:=Paired fun p q=>p.1=q.1∧H q.2.1=some (.tup (p.1.map kV))∧jv p.2 q.2.2
theorem KT.val {H:Hp} {kvs:List (List Key × V)} {xs:List (List Key × Addr × Value)} (r:KT H kvs xs) (k:List Key):xM (xq kvs k) ((atKey xs k).map (·.2)):=by
  induction r with
  | nil=>exact True.intro
  | @cons p q ps qs h t ih =>
    obtain ⟨h1,_,h2⟩:=h
    by_cases e:p.1=k
    · have e':q.1=k:=h1.symm.trans e
      have b:atKey (q :: qs) k=some q.2:=by simp [atKey,List.find?_cons,e']
      rw [vG e,b]; exact h2
    · have e':¬ q.1=k:=fun z=>e (h1.trans z)
      have b:atKey (q :: qs) k=atKey qs k:=by simp [atKey,List.find?_cons,e']
      rw [vH e,b]; exact ih
theorem KT.repl {H:Hp} {kvs:List (List Key × V)} {xs:List (List Key × Addr × Value)} (r:KT H kvs xs) (k:List Key) {y:V} {u:Value} (ry:jv y u) :
    KT H (kvs.map fun kv=>if kv.1=k then (kv.1,y) else kv) (xs.map (putAt k u)):=by
  induction r with
  | nil=>exact .nil
  | @cons p q ps qs h t ih =>
    rw [List.map_cons,List.map_cons]
    refine .cons ?_ ih
    obtain ⟨h1,h2,h3⟩:=h
    unfold putAt
    by_cases e:p.1=k
    · rw [if_pos e,if_pos (h1.symm.trans e)]; exact ⟨h1,h2,ry⟩
    · rw [if_neg e,if_neg (fun z=>e (h1.trans z))]; exact ⟨h1,h2,h3⟩
theorem KT.put {H:Hp} {kvs:List (List Key × V)} {xs:List (List Key × Addr × Value)} (r:KT H kvs xs) (k:List Key) {b:Addr} {y:V} {u:Value} (hb:H b=some (.tup (k.map kV))) (ry:jv y u) :
    KT H (vj kvs k y) (storedH xs k b u):=by
  have e:(kvs.any fun kv=>decide (kv.1=k))=(atKey xs k).isSome:=by
    rw [Vp,(r.val k).isSome_eq,Option.isSome_map]
  unfold vj storedH
  rw [e]
  by_cases q:(atKey xs k).isSome=true
  · rw [if_pos q,if_pos q]; exact r.repl k ry
  · rw [if_neg q,if_neg q]; exact Paired.snoc r ⟨rfl,hb,ry⟩
theorem KT.keeps {H H':Hp} {kvs:List (List Key × V)} {xs:List (List Key × Addr × Value)} (r:KT H kvs xs) (ht:∀ b ys,H b=some (.tup ys)->H' b=some (.tup ys)):KT H' kvs xs :=
  Paired.mapP r fun _ _ z=>⟨z.1,ht _ _ z.2.1,z.2.2⟩
section
variable {P:Program} {w:World} {H:Hp} {h:Heap} {a:Addr}
theorem jgS {u:HO} (ok:HOk P w H h) (e:Rd H a u):jM P w H h a u:=e.ok ok
theorem jeH {kvs:List (Key × V)} (ok:HOk P w H h) (e:Rd H a (.dK kvs)):kvs.length<=sizeLine∧(a == sysModules)=false∧∃ vs,KV kvs vs∧h.DictOf (jI P w) a vs :=
  show jM P w H h a (.dK kvs) from jgS ok e
theorem dk_of {kvs:List (Key × V)} (ok:HOk P w H h) (e:H a=some (.dK kvs)):kvs.length<=sizeLine∧(a == sysModules)=false∧∃ vs,KV kvs vs∧h.DictOf (jI P w) a vs:=jeH ok (.inl e)
theorem UM {ks:List Key} (ok:HOk P w H h) (e:H a=some (.tup (ks.map kV))):(tupleKind (jI P w)).is h ks a:=by
  obtain ⟨_,its,r,o,h1,h2,n,h3⟩:=(show jM P w H h a (.tup (ks.map kV)) from ok a _ e)
  exact ⟨o,its.toArray,n,h1,h2,h3,by simpa using uu r⟩
theorem jbc {kvs:List (List Key × V)} (ok:HOk P w H h) (e:Rd H a (.dT kvs)):kvs.length<=sizeLine∧(a == sysModules)=false ∧
    ∃ xs,KT H kvs xs∧h.DictOfH (tupleKind (jI P w)) a xs:=by
  obtain ⟨z,y,xs,r,o,es,ep,h1,h2,h3,h4,h5⟩:=(show jM P w H h a (.dT kvs) from jgS ok e)
  refine ⟨z,y,xs,r,o,es,ep,h1,h2,h3,h4,fun x hx=>?_,h5⟩
  have all:∀ {l:List (List Key × V)} {m:List (List Key × Addr × Value)},KT H l m->∀ x ∈ m,(tupleKind (jI P w)).is h x.1 x.2.1:=by
    intro l m q
    induction q with
    | nil=>intro x hx; exact nomatch hx
    | @cons p q ps qs hq t ih =>
      intro x hx
      rcases List.mem_cons.mp hx with e | hx
      · subst e
        exact UM ok (by rw [<- hq.1]; exact hq.2.1)
      · exact ih x hx
  exact all r x hx
theorem dt_of {kvs:List (List Key × V)} (ok:HOk P w H h) (e:H a=some (.dT kvs)):kvs.length<=sizeLine∧(a == sysModules)=false ∧
    ∃ xs,KT H kvs xs∧h.DictOfH (tupleKind (jI P w)) a xs:=jbc ok (.inl e)
end
def jar (H:Hp) (a:Addr) (y:V) (r:Option V):Prop :=
  (∃ kvs k,Rd H a (.dK kvs)∧y=kV k∧r=xq kvs k)∨∃ kvs k b,Rd H a (.dT kvs)∧y = .ref b∧H b=some (.tup (k.map kV))∧r=xq kvs k
def Up (H:Hp) (a:Addr) (y v:V) (H':Hp):Prop :=
  (∃ kvs k,H a=some (.dK kvs)∧y=kV k∧kvs.length < sizeLine∧H'=upd H a (.dK (vj kvs k v))) ∨
  ∃ kvs k b,H a=some (.dT kvs)∧y = .ref b∧H b=some (.tup (k.map kV))∧kvs.length < sizeLine∧H'=upd H a (.dT (vj kvs k v))
theorem jar.k {H:Hp} {a:Addr} {kvs:List (Key × V)} {k:Key} (e:H a=some (.dK kvs)):jar H a (kV k) (xq kvs k):=.inl ⟨kvs,k,.inl e,rfl,rfl⟩
theorem jar.t {H:Hp} {a b:Addr} {kvs:List (List Key × V)} {k:List Key} (e:H a=some (.dT kvs)) (eb:H b=some (.tup (k.map kV))):jar H a (.ref b) (xq kvs k):=.inr ⟨kvs,k,b,.inl e,rfl,eb,rfl⟩
theorem Up.k {H:Hp} {a:Addr} {kvs:List (Key × V)} {k:Key} {v:V} (e:H a=some (.dK kvs)) (hl:kvs.length < sizeLine):Up H a (kV k) v (upd H a (.dK (vj kvs k v))):=.inl ⟨kvs,k,e,rfl,hl,rfl⟩
theorem Up.t {H:Hp} {a b:Addr} {kvs:List (List Key × V)} {k:List Key} {v:V} (e:H a=some (.dT kvs)) (eb:H b=some (.tup (k.map kV))) (hl:kvs.length < sizeLine) :
    Up H a (.ref b) v (upd H a (.dT (vj kvs k v))):=.inr ⟨kvs,k,b,e,rfl,eb,hl,rfl⟩
section
variable {X:Cx} {pins:List (Addr × Obj)} {σ:St} {H:Hp} {s:Shared} {a:Addr} {y v:V} {u r:Value} {o:Option V} {A:Around} {E:Value->Shared->Prop}
theorem Inv.big (I:Inv X pins σ H s):sysModules < s.heap.objs.size:=by
  have h:mainGlobals < s.heap.objs.size:=(I.mod.glob.keeps I.bk).lt
  exact Nat.lt_trans (by decide) h
theorem Ve {h':Heap} {t':Nat} {ob:HO} (I:Inv X pins σ H s) (mu:Mut (H a)) (hs:Heap.SameBut a s.heap h') (he:∃ q,h'.get? a=some q) (new:jM X.prog X.w (upd H a ob) h' a ob) :
    Inv X pins σ (upd H a ob) { s with heap:=h',toks:=t' } :=
  I.write (x:=a) (e:=a) mu (.inl rfl) (fun b q hb z=>(hs.2 b hb).trans z) he new
theorem dk_new {P:Program} {w:World} {H':Hp} {h':Heap} {kvs:List (Key × V)} {vs:List (Key × Value)} (z:kvs.length<=sizeLine) (hd:(a == sysModules)=false) (rel:KV kvs vs) (dd:h'.DictOf (jI P w) a vs) :
    jM P w H' h' a (.dK kvs):=⟨z,hd,vs,rel,dd⟩
theorem jcp {H':Hp} {Q:Unit->Shared->Prop} (hu:A.units + 1 < cLine) (I:Inv X pins σ H s) (g:Up H a y v H') (ry:jv y u) (rv:jv v r) (h:∀ s',Inv X pins σ H' s'->Q () s') :
    wpAny (model X.prog X.w) A (setItem (.ref a) u r) Q E s:=by
  rcases g with ⟨kvs,k,e,ey,l,eH⟩ | ⟨kvs,k,b,e,ey,eb,l,eH⟩
  · subst ey eH
    obtain ⟨z,hd,vs,rel,dd⟩:=dk_of I.hok e
    have hz:vs.length<=sizeLine:=by rw [<- rel.length]; exact z
    have hl:(vj kvs k v).length<=sizeLine:=by have:=uF kvs k v; omega
    refine wpAny_setItem_pairs (hsz:=hz) (jei ry) dd fun h' dd' hs=>h _ ?_
    have he:∃ q,h'.get? a=some q:=let ⟨q,_,_,hq,_⟩:=dd'; ⟨q,hq⟩
    exact Ve I (by rw [e]; exact True.intro) hs he (dk_new hl hd (rel.put k rv) dd')
  · subst ey eH
    cases (show u=Value.ref b from ry)
    obtain ⟨z,hd,xs,rel,dd⟩:=dt_of I.hok e
    have hz:xs.length<=sizeLine:=by rw [<- Paired.length rel]; exact z
    have hl:(vj kvs k v).length<=sizeLine:=by have:=uF kvs k v; omega
    refine wpAny_setItem_heap (hsz:=hz) (tupleKind_room_in1 hu) (UM I.hok eb) dd fun h' dd' hs=>h _ ?_
    obtain ⟨q,es,ep,hq,h2,h3,h4,_,h5⟩:=dd'
    refine Ve I (by rw [e]; exact True.intro) hs ⟨q,hq⟩ ⟨hl,hd,_,(rel.put k eb rv).keeps fun c ys ec=>?_,q,es,ep,hq,h2,h3,h4,h5⟩
    rw [ji (ne_of ec e (fun z=>nomatch z))]
    exact ec
end
section
variable {X:Cx} {pins:List (Addr × Obj)} {σ:St} {H:Hp} {s:Shared} {a:Addr} {kvs:List (Key × V)} {k:Key} {u:Value} {A:Around} {E:Value->Shared->Prop}
end
def sDPut (td ty tv:TE):TS:=fun D σ H=>tv σ H fun v H1=>td σ H1 fun x H2=>ty σ H2 fun y H3=>∃ a H4,x = .ref a∧Up H3 a y v H4∧D.nx σ H4
section
variable {X:Cx} {o i e value:Expr} {pos pos' tpos:Pos} {td ty tv:TE}
theorem jaJ (hu:X.A.units + 1 < cLine) (ho:PE X o td) (hi:PE X i ty) (hv:PE X value tv) (hs:swapsWith value (some (.Subscript o i pos')) pos.line X.env=pure false) :
    PS X (.Assign [.Subscript o i pos'] value pos) (sDPut td ty tv):=by
  intro pins s σ H D I h
  refine wpAny_Assign_Subscript (thn (hv pins s σ H _ I h) fun r s1 ⟨v,H1,I1,rv,q1⟩=>thn (ho pins s1 σ H1 _ I1 q1) fun u s2 ⟨x,H2,I2,rx,q2⟩=>thn (hi pins s2 σ H2 _ I2 q2) fun iv s3 hQQ=>?_) hs
  obtain ⟨y,H3,I3,ry,a,H4,ex,g,q3⟩:=hQQ
  subst ex
  obtain rfl:u=Value.ref a:=rx
  exact jcp hu I3 g ry rv fun s4 I4=>⟨σ,H4,I4,q3⟩
end
theorem jeI {P:Program} {w:World} {H:Hp} (h:Heap) (hb:sysModules < h.objs.size):jM P w H (h.push { cls:=.type "dict",data:=.dict #[] }) h.objs.size (.dK []) :=
  ⟨Nat.zero_le _,beq_eq_false_iff_ne.mpr (Ne.symm (Nat.ne_of_lt hb)),[],.nil,Heap.DictOf.new h⟩
theorem jeG {P:Program} {w:World} {H:Hp} (h:Heap) (hb:sysModules < h.objs.size):jM P w H (h.push { cls:=.type "dict",data:=.dict #[] }) h.objs.size (.dT []) :=
  ⟨Nat.zero_le _,beq_eq_false_iff_ne.mpr (Ne.symm (Nat.ne_of_lt hb)),[],.nil,_,#[],0,Heap.get?_push_size _ rfl,⟨rfl,rfl,rfl⟩,rfl,rfl,List.nodup_nil⟩
def jhy:TE:=fun _ H Q=>∀ p,H p=none->Q (.ref p) (upd H p (.dK []))
def jhx:TE:=fun _ H Q=>∀ p,H p=none->Q (.ref p) (upd H p (.dT []))
section
variable {X:Cx} {pos:Pos}
theorem jdN:PE X (.Dict [] [] pos) jhy:=fun pins s σ H Q I h =>
  wpAny_Dict_empty ⟨.ref s.heap.objs.size,_,I.laid (a:=s.heap.objs.size) (o:=.dK []) (t':=s.toks) (fun _ _ q=>Heap.get?_push_of_some _ q) (Nat.le_refl _) (jeI s.heap I.big),rfl,h _ (I.hok.fresh (Nat.le_refl _))⟩
theorem jdM:PE X (.Dict [] [] pos) jhx:=fun pins s σ H Q I h =>
  wpAny_Dict_empty ⟨.ref s.heap.objs.size,_,I.laid (a:=s.heap.objs.size) (o:=.dT []) (t':=s.toks) (fun _ _ q=>Heap.get?_push_of_some _ q) (Nat.le_refl _) (jeG s.heap I.big),rfl,h _ (I.hok.fresh (Nat.le_refl _))⟩
end
structure M1 (X:Cx) (o:Expr) (m:Str) (apos:Pos) (e:Expr) (cpos:Pos):Prop where
  base:attributeBase o m X.env (eval o X.env)=eval o X.env
  few:((backTo cpos (starEach [e] X.env)).all (fun x=>!x.1) && (backToKw cpos (keywordEach [] X.env)).all (fun x=>x.1.isSome)
    && decide (([e]:List Expr).length + ([]:List Keyword).length + (if ([]:List Keyword).isEmpty then 0 else 1) < 30))=true
  line:(apos.endLine == cpos.line)=true
  trees:backTo cpos (starEach [e] X.env)=[(false,eval e X.env)]
structure M2 (X:Cx) (o:Expr) (m:Str) (apos:Pos) (e f:Expr) (cpos:Pos):Prop where
  base:attributeBase o m X.env (eval o X.env)=eval o X.env
  few:((backTo cpos (starEach [e,f] X.env)).all (fun x=>!x.1) && (backToKw cpos (keywordEach [] X.env)).all (fun x=>x.1.isSome)
    && decide (([e,f]:List Expr).length + ([]:List Keyword).length + (if ([]:List Keyword).isEmpty then 0 else 1) < 30))=true
  line:(apos.endLine == cpos.line)=true
  trees:backTo cpos (starEach [e,f] X.env)=[(false,eval e X.env),(false,eval f X.env)]
def IsD (H:Hp) (a:Addr):Prop:=(∃ kvs,Rd H a (.dK kvs))∨∃ kvs,Rd H a (.dT kvs)
theorem jej {X:Cx} {pins:List (Addr × Obj)} {σ:St} {H:Hp} {s:Shared} {a:Addr} (I:Inv X pins σ H s) (d:IsD H a) :
    s.TypeIs (.ref a) "dict"∧(∀ b,Value.ref a = .ref b->∃ ob,s.heap.get? b=some ob∧ob.dict=none)∧(a == sysModules)=false:=by
  rcases d with ⟨kvs,e⟩ | ⟨kvs,e⟩
  · obtain ⟨_,hd,vs,_,dd⟩:=jeH I.hok e
    refine ⟨dd.typeIs,fun b q=>?_,hd⟩
    cases q
    obtain ⟨ob,_,_,h1,h2,_⟩:=dd
    exact ⟨ob,h1,h2.2.1⟩
  · obtain ⟨_,hd,xs,_,dd⟩:=jbc I.hok e
    refine ⟨dd.typeIs,fun b q=>?_,hd⟩
    cases q
    obtain ⟨ob,_,_,h1,h2,_⟩:=dd
    exact ⟨ob,h1,h2.2.1⟩
section
variable {X:Cx} {pins:List (Addr × Obj)} {σ:St} {H:Hp} {s:Shared} {a:Addr} {y d:V} {u r:Value} {o:Option V} {A:Around} {E:Value->Shared->Prop}
theorem d_get2 {Q:Value->Shared->Prop} (hu:A.units + 1 < cLine) (I:Inv X pins σ H s) (g:jar H a y o) (ry:jv y u) (rd:jv d r) (h:∀ w' s',Inv X pins σ H s'->jv (o.getD d) w'->Q w' s') :
    wpAny (model X.prog X.w) A (call (.builtin "dict.get") [.ref a,u,r]) Q E s:=by
  rcases g with ⟨kvs,k,e,ey,l⟩ | ⟨kvs,k,b,e,ey,eb,l⟩
  · subst ey
    obtain ⟨z,hd,vs,rel,dd⟩:=jeH I.hok e
    refine call_meetsIn PySem.F.slot_dict_get dd.typeIs PySem.F.entry_dict_get (PySem.F.args_dict_get_3 _ _ _) (meets_dict_get_default (jI X.prog X.w) a (jei ry) hd r) ⟨_,dd.mapOf,h _ _ (I.tok _) ?_⟩
    rw [l]
    exact (rel.val k).getD rd
  · subst ey
    cases (show u=Value.ref b from ry)
    obtain ⟨z,hd,xs,rel,dd⟩:=jbc I.hok e
    refine call_meetsIn PySem.F.slot_dict_get dd.typeIs PySem.F.entry_dict_get (PySem.F.args_dict_get_3 _ _ _) (meetsH_dict_get_default (tupleKind (jI X.prog X.w)) a b hd r) ⟨tupleKind_room_in1 hu,k,xs,UM I.hok eb,dd,h _ _ (I.tok _) ?_⟩
    rw [l]
    exact (rel.val k).getD rd
end
def jhz (td ty tx:TE):TE:=fun σ H Q=>td σ H fun x H1=>∃ a,x = .ref a∧IsD H1 a∧ty σ H1 fun y H2=>tx σ H2 fun z H3=>∃ o,jar H3 a y o∧Q (o.getD z) H3
section
variable {X:Cx} {o e f:Expr} {apos cpos:Pos} {td ty tx:TE}
theorem jdO (hu:X.A.units + 1 < cLine) (ho:PE X o td) (he:PE X e ty) (hf:PE X f tx) (m:M2 X o "get" apos e f cpos):PE X (.Call (.Attribute o "get" apos) [e,f] [] cpos) (jhz td ty tx):=by
  intro pins s σ H Q I h
  refine wpAny_Call_method m.base m.few m.line PySem.F.plainAttrs_dict PySem.F.slot_dict_get PySem.F.type_dict_get (thn (ho pins s σ H _ I h) fun u s1 hQQ=>?_)
  obtain ⟨x,H1,I1,rx,a,ex,d,q1⟩:=hQQ
  subst ex
  obtain rfl:u=Value.ref a:=rx
  obtain ⟨t1,t2,_⟩:=jej I1 d
  refine ⟨t1,t2,?_⟩
  rw [m.trees]
  refine Calls.callWith_builtin rfl (Calls.evalArgs_plain (Calls.spliced_cons (thn (he pins s1 σ H1 _ I1 q1) fun iv s2 ⟨y,H2,I2,ry,q2⟩ =>
    Calls.spliced_cons (thn (hf pins s2 σ H2 _ I2 q2) fun fv s3 ⟨z,H3,I3,rz,ov,g,q3⟩=>Calls.spliced_nil ?_))))
  exact d_get2 hu I3 g ry rz fun w' s4 I4 rw'=>⟨_,H3,I4,rw',q3⟩
end
section
variable {X:Cx} {pins:List (Addr × Obj)} {σ:St} {H:Hp} {s:Shared} {a:Addr} {kvs:List (Key × V)} {A:Around} {E:Value->Shared->Prop}
end
section
variable {X:Cx} {pins:List (Addr × Obj)} {σ:St} {H:Hp} {s:Shared} {a:Addr} {y:V} {u:Value} {A:Around} {E:Value->Shared->Prop}
end
end L2
namespace L2
open PySem PySem.Spec PyProof.Rows
theorem Inv.turnedL {X:Cx} {pins:List (Addr × Obj)} {σ:St} {H:Hp} {s:Shared} {h':Heap} {t':Nat} {ch:List Addr} (I:Inv X pins σ H s) (k:∀ b o,b ∉ ch->s.heap.get? b=some o->h'.get? b=some o) (f:∀ b ∈ ch,yA X pins H b) :
    Inv X pins σ H { s with heap:=h',toks:=t' }:=by
  have ne:∀ b u c,H b=some u->c ∈ ch->b≠c:=fun b u c q hc z=>by rw [z,(f c hc).1] at q; cases q
  refine I.step (g':=s.gens) (d':=s.drawn) (ch:=ch) (fun b hb=>?_) (fun b o _ _ hc q _=>k b o hc q) (fun b o _ _ hc q _=>⟨o.slots,k b o hc q⟩) (fun _ _ _ _ n=>n)
    (fun b o hc q=>⟨o,k b o hc q⟩) (fun _ _ q=>q) (fun _ _ _ q=>q) (fun b ps q=>⟨#[],by rw [q]; simp⟩) (fun m hm=>?_) (fun b u q=>?_) I.bare
  · exact ⟨(f b hb).2.2.2.1,(f b hb).2.1,(f b hb).2.2.2.2.1,(f b hb).2.2.2.2.2⟩
  · obtain ⟨o,es,ep,ho,r⟩:=hm
    exact ⟨o,es,ep,k _ o (fun hc=>(f _ hc).2.1 rfl) ho,r⟩
  · refine (I.hok b u q).stay (fun c v hc z=>k c v (fun hm=>?_) z) (fun _ z=>z) fun _ _ z=>z
    rcases hc with y | y
    · exact ne b u c q hm y.symm
    · exact ne c _ c y hm rfl
def Itz (K:PySem.W.Frag) (a b:Addr):It :=
  ⟨fun i H=>∃ xs ys x y,SqL K H a xs∧SqL K H b ys∧xs[i]? = some x∧ys[i]? = some y,fun i H x H'=>∃ p u v,x = .ref p∧H p=none∧(∀ xs,SqL K H a xs->xs[i]? = some u)∧(∀ ys,SqL K H b ys->ys[i]? = some v)∧H'=upd H p (.tup [u,v]),
    fun i H=>∃ xs ys,SqL K H a xs∧SqL K H b ys∧(xs.length<=i∨ys.length<=i)⟩
theorem jcJ {P:Program} {w:World} {K:PySem.W.Frag} {elts:List Expr} {x1:Nat} {pos:Pos} (a b z TI TO i1 i2:Addr) (D:ZipApart z TI TO i1 i2 a b) :
    Turn P w K (.Tuple elts x1 pos) (Itz K a b) [z,TO,i1,i2,TI] z (fun i h=>IsZip h z TI TO .none∧IsPair h TI (.ref i1) (.ref i2)∧(∃ u v,IsPair h TO u v)∧h.IsListIter i1 a i∧h.IsListIter i2 b i) where
  mem:=by simp
  obj:=fun i h st c hc=>by
    obtain ⟨hz,ht,⟨u,v,ho⟩,⟨o1,q1,_,d1⟩,⟨o2,q2,_,d2⟩⟩:=st
    simp only [List.mem_cons,List.mem_nil_iff,or_false] at hc
    rcases hc with rfl | rfl | rfl | rfl | rfl
    · exact ⟨_,hz,fun v e=>by have e:Data.fields _=Data.cell v:=e; cases e⟩
    · exact ⟨_,ho,fun v e=>by have e:Data.seq _=Data.cell v:=e; cases e⟩
    · exact ⟨o1,q1,fun v e=>by rw [d1] at e; cases e⟩
    · exact ⟨o2,q2,fun v e=>by rw [d2] at e; cases e⟩
    · exact ⟨_,ht,fun v e=>by have e:Data.seq _=Data.cell v:=e; cases e⟩
  keep:=fun i h h' st k=>by
    obtain ⟨hz,ht,⟨u,v,ho⟩,q1,q2⟩:=st
    exact ⟨k z (by simp) _ hz,k TI (by simp) _ ht,⟨u,v,k TO (by simp) _ ho⟩,q1.at fun o q=>k i1 (by simp) o q,q2.at fun o q=>k i2 (by simp) o q⟩
  item:=by
    intro X hP hw hK hc i pins s σ H E I hf st hg
    subst hP hw hK
    obtain ⟨hz,ht,⟨u0,v0,ho⟩,q1,q2⟩:=st
    obtain ⟨xs,ys,x,y,ha,hb,hx,hy⟩:=hg
    obtain ⟨i1s,r1,p1,_⟩:=I.list ha
    obtain ⟨i2s,r2,p2,_⟩:=I.list hb
    obtain ⟨u,hu,ru⟩:=r1.get hx
    obtain ⟨v,hv,rv⟩:=r2.get hy
    refine wpAny_pyNext_zip_item D hz ht ho q1 q2 p1.isList p2.isList (x:=u) (y:=v) (by simpa using hu) (by simpa using hv) fun h' z1 o1 j1 j2 tup sz keep=>?_
    refine ⟨_,rfl,wpAny_letOwnedTupleGo_zip (s:={ s with heap:=h' }) z1 fun h2 z2 sb=>?_⟩
    have fz:=hf z (by simp)
    have lt:∀ c,(∃ o,s.heap.get? c=some o)->s.heap.objs.size≠c:=fun c hc e=>by
      obtain ⟨o,ho⟩:=hc
      have:=Heap.lt_size ho
      rw [<- e] at this
      exact Nat.lt_irrefl _ this
    have n1:s.heap.objs.size≠z:=lt _ ⟨_,hz⟩
    have VO:∀ c o,c ∉ [z,TO,i1,i2]->s.heap.get? c=some o->h2.get? c=some o:=fun c o hn q=>by
      simp only [List.mem_cons,List.mem_nil_iff,or_false,not_or] at hn
      exact (sb.2 c hn.1).trans (keep c o hn.1 hn.2.1 hn.2.2.1 hn.2.2.2 q)
    have I1:Inv X pins σ H { s with heap:=h2 }:=I.turnedL (t':=s.toks) (ch:=[z,TO,i1,i2]) VO fun c hc=>hf c (by
      simp only [List.mem_cons,List.mem_nil_iff,or_false] at hc ⊢
      rcases hc with h | h | h | h
      · exact .inl h
      · exact .inr (.inl h)
      · exact .inr (.inr (.inl h))
      · exact .inr (.inr (.inr (.inl h))))
    have fresh:H s.heap.objs.size=none:=I.hok.fresh (Nat.le_refl _)
    have fp:=I.fpOk (Nat.le_refl _) fresh
    have tup2:h2.get? s.heap.objs.size=some { cls:=.type "tuple",data:=.seq #[u,v] }:=(sb.2 _ n1).trans tup
    refine ⟨.ref s.heap.objs.size,upd H s.heap.objs.size (.tup [x,y]),I1.track fp.np ⟨by show 2<=sizeLine; decide,[u,v],.cons ru (.cons rv .nil),⟨_,tup2,rfl,_,rfl⟩⟩,rfl,⟨_,x,y,rfl,fresh,fun zs h=>by rw [I.list_inj h ha]; exact hx,fun zs h=>by rw [I.list_inj h hb]; exact hy,rfl⟩,
      ⟨z2,(sb.2 _ D.TIz).trans (keep _ _ D.TIz D.TITO D.TIi1 D.TIi2 ht),⟨u,v,(sb.2 _ D.TOz).trans o1⟩,j1.at fun o q=>(sb.2 _ D.i1z).trans q,j2.at fun o q=>(sb.2 _ D.i2z).trans q⟩,fun c hc=>?_⟩
    have:s.heap.objs.size≠c:=by
      simp only [List.mem_cons,List.mem_nil_iff,or_false] at hc
      rcases hc with rfl | rfl | rfl | rfl | rfl
      · exact n1
      · exact lt _ ⟨_,ho⟩
      · exact lt _ (let ⟨o,q,_⟩:=q1; ⟨o,q⟩)
      · exact lt _ (let ⟨o,q,_⟩:=q2; ⟨o,q⟩)
      · exact lt _ ⟨_,ht⟩
    rw [ji (Ne.symm this)]
    exact (hf c hc).1
  done:=by
    intro X hP hw hK hc i pins s σ H E I hf st hg
    subst hP hw hK
    obtain ⟨hz,ht,⟨u0,v0,ho⟩,q1,q2⟩:=st
    obtain ⟨xs,ys,ha,hb,hx⟩:=hg
    obtain ⟨i1s,r1,p1,_⟩:=I.list ha
    obtain ⟨i2s,r2,p2,_⟩:=I.list hb
    have l1:=r1.length
    have l2:=r2.length
    refine wpAny_pyNext_zip_end (I.ok.hd hc) D hz ht ho q1 q2 p1.isList p2.isList (by
      rcases hx with h | h
      · exact .inl (by simp; omega)
      · exact .inr (by simp; omega)) fun h' keep=>⟨rfl,I.turnedL (t':=s.toks) (ch:=[z,TO,i1,i2]) (fun c o hn q=>?_) fun c hc=>hf c ?_⟩
    · simp only [List.mem_cons,List.mem_nil_iff,or_false,not_or] at hn
      exact keep c o hn.1 hn.2.1 hn.2.2.1 hn.2.2.2 q
    · simp only [List.mem_cons,List.mem_nil_iff,or_false] at hc ⊢
      rcases hc with h | h | h | h
      · exact .inl h
      · exact .inr (.inl h)
      · exact .inr (.inr (.inl h))
      · exact .inr (.inr (.inr (.inl h)))
  self:=fun _ _ _ _ _ st h=>wpAny_pyIter_zip st.1 h
section
variable {X:Cx} {elts:List Expr} {x1:Nat} {tpos:Pos}
theorem Yq (n a b:Nat) (la:a < n) (lb:b < n):ZipApart (n + 4) (n + 2) (n + 3) n (n + 1) a b:=by
  constructor <;> (intro e; have e:(_:Nat)=(_:Nat):=e; omega)
theorem jeT:bootBuiltins "zip" = some (.type "zip"):=by decide +kernel
theorem jbD {pins:List (Addr × Obj)} {σ:St} {H1:Hp} {s1:Shared} {R:It->Hp->Prop} {a b:Addr} {xs ys:List V} (I1:Inv X pins σ H1 s1) (hx:SqL X.K H1 a xs) (hy:SqL X.K H1 b ys) (q:R (Itz X.K a b) H1) :
    wpAny (model X.prog X.w) X.A (call (.type "zip") [.ref a,.ref b]) (fun v s2=>wpAny (model X.prog X.w) X.A (pyIter v) (PIE X pins σ (.Tuple elts x1 tpos) R) X.xe s2) X.xe s1:=by
  obtain ⟨is1,_,p1,_⟩:=I1.list hx
  obtain ⟨is2,_,p2,_⟩:=I1.list hy
  have la:a < s1.heap.objs.size:=let ⟨o,q,_⟩:=p1.isList; Heap.lt_size q
  have lb:b < s1.heap.objs.size:=let ⟨o,q,_⟩:=p2.isList; Heap.lt_size q
  refine call_zip_2 p1.isList p2.isList fun h' z ti to j1 j2 sz keep=>?_
  refine wpAny_pyIter_zip z ?_
  have D:ZipApart (s1.heap.objs.size + 4) (s1.heap.objs.size + 2) (s1.heap.objs.size + 3) s1.heap.objs.size (s1.heap.objs.size + 1) a b:=Yq _ _ _ la lb
  refine ⟨s1.heap.objs.size + 4,_,_,_,H1,rfl,I1.kept (t':=s1.toks) keep,jcJ a b _ _ _ _ _ D,⟨z,ti,⟨_,_,to⟩,j1,j2⟩,fun c hc=>?_,q⟩
  have:s1.heap.objs.size<=c:=by
    simp only [List.mem_cons,List.mem_nil_iff,or_false] at hc
    rcases hc with rfl | rfl | rfl | rfl | rfl
    · exact Nat.le_add_right _ _
    · exact Nat.le_add_right _ _
    · exact Nat.le_refl _
    · exact Nat.le_add_right _ _
    · exact Nat.le_add_right _ _
  exact I1.fpOk this (I1.hok.fresh this)
end
end L2
namespace L2
open PySem PySem.Spec PyProof.Rows
section
variable {prog:Program} {w:World} {A:Around} {E:Value->Shared->Prop} {s:Shared}
theorem ul {it tu:Addr} {i:Nat} {its:Array Value} {Q:Value->Shared->Prop} (nh:A.handled=none) (hI:s.heap.IsTupleIter it tu i) (hU:s.heap.IsTuple tu its) (hn:its[i]? = none)
    (go:∀ h' e,Heap.ExtBut it s.heap h'->(∃ o,h'.get? e=some o∧o.cls = .type "StopIteration")->E (.ref e) { s with heap:=h' }):wpAny (model prog w) A (Builtin.SmallTypes.nextOf (.ref it)) Q E s:=by
  obtain ⟨oi,hoi,hci,hdi⟩:=id hI; obtain ⟨ou,hou,_,nu,hdu⟩:=hU; unfold Builtin.SmallTypes.nextOf
  refine wpAny_bind (wpAny_callSpecial?_slot (name:=Str.ofString "__next__") hI.typeIs F.slot_tuple_iterator_next (wpAny_call_entry F.slot_tuple_iterator_next hI.typeIs F.entry_tuple_iterator_next ?_ (F.args_tuple_iterator_next_1 _)))
  show wpAny _ _ (field (.ref it) 0 >>= _) _ _ s; refine wpAny_bind (wpAny_field hoi hdi (x:=.ref tu) rfl ?_)
  show wpAny _ _ (if (Value.ref tu == Value.none)=true then _ else _) _ _ s; rw [if_neg (show ¬ ((Value.ref tu == Value.none)=true) from Bool.false_ne_true)]
  show wpAny _ _ (field (.ref it) 1 >>= _) _ _ s; refine wpAny_bind (wpAny_field hoi hdi (x:=.int i 0) rfl ?_)
  show wpAny _ _ (seqItems? (.ref tu) >>= _) _ _ s; refine wpAny_bind (wpAny_seqItems hou hdu ?_); simp only [Int.toNat_natCast,hn]
  refine wpAny_bind (wpAny_rule (wpAny_bind (wpAny_setField hoi hdi (by simp) ?_))); show wpAny _ _ (newExc (.type "StopIteration") [] >>= _) _ _ _
  refine wpAny_bind ?_; simp only [newExc,newTuple]; refine wpAny_bind (wpAny_newObj_type ?_ (by size_fits))
  refine wpAny_bind (m:=firstArgMember _ _) (wpAny_of_eq (a:=Value.none) (by first | rfl | (simp only [firstArgMember]; rfl)) ?_); refine wpAny_newObj_type ?_ (by size_fits)
  simp only [raiseNew]; refine wpAny_bind (wpAny_handled ?_); first | rw [show A.in1.handled=none from nh] | rw [nh]
  refine wpAny_bind (wpAny_pure (wpAny_throw ?_)); exact go _ _ (((Heap.SameBut.update ..).extBut.push _).push _) ⟨_,Heap.get?_push_size _ rfl,rfl⟩
theorem jcC {z TI TO i1 i2 t1:Addr} {i:Nat} {a b:Value} {xs:Array Value} {Q:Option Value->Shared->Prop} (nh:A.handled=none) (n1:i1≠z) (n2:t1≠z) (n3:t1≠i1)
    (hz:IsZip s.heap z TI TO .none) (hTI:IsPair s.heap TI (.ref i1) (.ref i2)) (hTO:IsPair s.heap TO a b) (h1:s.heap.IsTupleIter i1 t1 i) (hl1:s.heap.IsTuple t1 xs) (he:xs[i]? = none)
    (go:∀ h',(∀ c o,c≠z->c≠i1->s.heap.get? c=some o->h'.get? c=some o)->Q none { s with heap:=h' }):wpAny (model prog w) A (pyNext (.ref z)) Q E s:=by
  have hT:s.TypeIs (.ref z) "zip":=⟨_,hz,rfl⟩
  unfold pyNext
  refine wpAny_bind (wpAny_attempt (wpAny_callSpecial?_slot (name:=Str.ofString "__next__") hT F.slot_zip_next (wpAny_call_entry F.slot_zip_next hT F.entry_zip_next ?_ (F.args_zip_next_1 _))))
  show wpAny _ _ (field (.ref z) 2 >>= _) _ _ _; refine wpAny_bind (wpAny_field hz rfl (x:=.bool false) rfl ?_)
  show wpAny _ _ (field (.ref z) 3 >>= _) _ _ _; refine wpAny_bind (wpAny_field hz rfl (x:=.ref TI) rfl ?_)
  refine wpAny_bind (wpAny_seqItems hTI rfl ?_); show wpAny _ _ (Builtin.SmallTypes.ownedTupleIsFree (.ref z) >>= _) _ _ _
  refine wpAny_bind ?_; unfold Builtin.SmallTypes.ownedTupleIsFree; refine wpAny_bind (wpAny_field hz rfl (x:=.none) rfl (wpAny_pure ?_))
  simp only [if_true]; refine wpAny_bind (wpAny_rule ?_); refine wpAny_bind (wpAny_field hz rfl (x:=.ref TO) rfl ?_)
  refine wpAny_bind (wpAny_setField_rec hz (by simp) fun hA zA sA=>?_)
  replace zA:IsZip hA z TI TO .ellipsis:=zA
  refine wpAny_bind ?_; simp only [List.zipIdx_cons,List.zipIdx_nil,List.forIn_cons,List.forIn_nil]
  refine wpAny_bind (wpAny_bind (wpAny_onRaise ?_)); show wpAny _ _ (Builtin.SmallTypes.nextOf (.ref i1) >>= _) _ _ _
  refine wpAny_bind (ul (its:=xs) nh (h1.extBut sA.extBut n1) (hl1.extBut sA.extBut n2) he fun hB e sB hex=>?_)
  obtain ⟨oe,hoe,hce⟩:=hex
  have zB:IsZip hB z TI TO .ellipsis:=sB _ _ n1.symm zA
  have hez:e≠z:=fun x=>by subst x; rw [zB] at hoe; cases hoe; simp at hce
  refine wpAny_setField_rec zB (by simp) fun hC _ sC=>?_
  refine wpAny_bind (wpAny_isInstance (T:="StopIteration") (b:=true) ⟨oe,sC.extBut _ _ hez hoe,hce⟩ isSubtype_stop ?_)
  exact wpAny_pure (go _ fun c o c1 c2 q=>sC.extBut _ _ c1 (sB _ _ c2 (sA.extBut _ _ c1 q)))
abbrev zT1 (h:Heap) (t:Addr):Heap:=h.push { cls:=.type "tuple_iterator",data:=.fields #[.ref t,.int 0 0] }
abbrev zT3 (h:Heap) (t u:Addr):Heap:=(zT1 (zT1 h t) u).push { cls:=.type "tuple",data:=.seq #[.ref h.objs.size,.ref (zT1 h t).objs.size] }
abbrev zT4 (h:Heap) (t u:Addr):Heap:=(zT3 h t u).push { cls:=.type "tuple",data:=.seq #[.none,.none] }
abbrev zT5 (h:Heap) (t u:Addr):Heap:=(zT4 h t u).push { cls:=.type "zip",data:=.fields #[.none,.bool false,.bool false,.ref (zT1 (zT1 h t) u).objs.size,.ref (zT3 h t u).objs.size] }
theorem UH (t u:Addr) (xs ys:Array Value) :
    Meets (Builtin.«zip.__new__» ⟨[.type "zip",.ref t,.ref u],[]⟩) (fun _ R s=>s.heap.IsTuple t xs∧s.heap.IsTuple u ys∧R (.ok (.ret (.ref (zT4 s.heap t u).objs.size))) { s with heap:=zT5 s.heap t u }) :=
  .of_wp fun prog w A R s h=>by
    obtain ⟨hp,g,d,tk,os⟩:=s; obtain ⟨q1,q2,h⟩:=h
    have hsub:=sub_zip
    have hL1:Heap.IsTuple (Shared.heap ⟨hp,g,d,tk,os⟩) t xs:=q1
    have hL2:Heap.IsTuple (Shared.heap ⟨hp.push { cls:=.type "tuple_iterator",data:=.fields #[.ref t,.int 0 0] },g,d,tk,os⟩) u ys:=Heap.IsTuple.push q2 _
    wp_walk using wpAny_pyIter_tuple hL1,wpAny_pyIter_tuple hL2
    exact ⟨_,rfl,h⟩
theorem Xn {t u:Addr} {xs ys:Array Value} {Q:Value->Shared->Prop} (q1:s.heap.IsTuple t xs) (q2:s.heap.IsTuple u ys)
    (h:∀ h',IsZip h' (s.heap.objs.size + 4) (s.heap.objs.size + 2) (s.heap.objs.size + 3) .none->IsPair h' (s.heap.objs.size + 2) (.ref s.heap.objs.size) (.ref (s.heap.objs.size + 1))->IsPair h' (s.heap.objs.size + 3) .none .none ->
      h'.IsTupleIter s.heap.objs.size t 0->h'.IsTupleIter (s.heap.objs.size + 1) u 0->(∀ c o,s.heap.get? c=some o->h'.get? c=some o)->Q (.ref (s.heap.objs.size + 4)) { s with heap:=h' }) :
    wpAny (model prog w) A (call (.type "zip") [.ref t,.ref u]) Q E s:=by
  refine callType_new F.called_zip (by decide) (F.typeCall_zip_2 _ _) (F.newCall_zip_2 _ _) (fun obj=>F.args_object_init_3 obj _ _) F.entry_zip_new (UH t u xs ys) ⟨q1,q2,?_⟩
  have z1:(zT1 s.heap t).objs.size=s.heap.objs.size + 1:=Heap.size_push ..
  have z2:(zT1 (zT1 s.heap t) u).objs.size=s.heap.objs.size + 2:=by rw [Heap.size_push,z1]
  have z3:(zT3 s.heap t u).objs.size=s.heap.objs.size + 3:=by rw [Heap.size_push,z2]
  have z4:(zT4 s.heap t u).objs.size=s.heap.objs.size + 4:=by rw [Heap.size_push,z3]
  have up:∀ c o,(zT3 s.heap t u).get? c=some o->(zT5 s.heap t u).get? c=some o:=fun c o q=>Heap.get?_push_of_some _ (Heap.get?_push_of_some _ q)
  have g5:(zT5 s.heap t u).get? (zT4 s.heap t u).objs.size=some _:=Heap.get?_push_size _ rfl
  have g4:(zT5 s.heap t u).get? (zT3 s.heap t u).objs.size=some _:=Heap.get?_push_of_some _ (Heap.get?_push_size _ rfl)
  have g3:(zT5 s.heap t u).get? (zT1 (zT1 s.heap t) u).objs.size=some _:=up _ _ (Heap.get?_push_size _ rfl)
  have g2:(zT5 s.heap t u).get? (zT1 s.heap t).objs.size=some _:=up _ _ (Heap.get?_push_of_some _ (Heap.get?_push_size _ rfl))
  have g1:(zT5 s.heap t u).get? s.heap.objs.size=some _:=up _ _ (Heap.get?_push_of_some _ (Heap.get?_push_of_some _ (Heap.get?_push_size _ rfl)))
  show _∧_
  rw [z2,z3,z4] at g5; rw [z1,z2] at g3; rw [z3] at g4; rw [z1] at g2; rw [z4]
  exact ⟨⟨_,g5,rfl⟩,h _ g5 g3 g4 ⟨_,g1,rfl,rfl⟩ ⟨_,g2,rfl,rfl⟩ fun c o x=>up _ _ (Heap.get?_push_of_some _ (Heap.get?_push_of_some _ (Heap.get?_push_of_some _ x)))⟩
end
def Itz0 (K:PySem.W.Frag) (a:Addr):It:=⟨fun _ _=>False,fun _ _ _ _=>False,fun _ H=>SqT K H a []⟩
theorem jbJ {P:Program} {w:World} {K:PySem.W.Frag} {tg:Expr} (a z TI TO i1 i2:Addr) (n1:i1≠z) (n2:a≠z) (n3:a≠i1) :
    Turn P w K tg (Itz0 K a) [z,TO,i1,TI] z (fun i h=>IsZip h z TI TO .none∧IsPair h TI (.ref i1) (.ref i2)∧IsPair h TO .none .none∧h.IsTupleIter i1 a i) where
  mem:=by simp
  obj:=fun i h st c hc=>by
    obtain ⟨hz,ht,ho,⟨o1,q1,_,d1⟩⟩:=st
    simp only [List.mem_cons,List.mem_nil_iff,or_false] at hc
    rcases hc with rfl | rfl | rfl | rfl
    · exact ⟨_,hz,fun v e=>by have e:Data.fields _=Data.cell v:=e; cases e⟩
    · exact ⟨_,ho,fun v e=>by have e:Data.seq _=Data.cell v:=e; cases e⟩
    · exact ⟨o1,q1,fun v e=>by rw [d1] at e; cases e⟩
    · exact ⟨_,ht,fun v e=>by have e:Data.seq _=Data.cell v:=e; cases e⟩
  keep:=fun i h h' st k=>by
    obtain ⟨hz,ht,ho,⟨o1,q1,r⟩⟩:=st
    exact ⟨k z (by simp) _ hz,k TI (by simp) _ ht,k TO (by simp) _ ho,⟨o1,k i1 (by simp) _ q1,r⟩⟩
  item:=fun _ _ _ _ _ _ _ _ _ _ _ _ _ _ hg=>hg.elim
  done:=by
    intro X hP hw hK hc i pins s σ H E I hf st hg
    subst hP hw hK
    obtain ⟨hz,ht,ho,q1⟩:=st
    obtain ⟨its,r1,p1,_⟩:=I.tuple hg
    have l1:=r1.length
    refine jcC (xs:=its.toArray) (I.ok.hd hc) n1 n2 n3 hz ht ho q1 p1 (by have:its=[]:=List.length_eq_zero_iff.mp l1.symm; subst this; simp) fun h' keep=>⟨rfl,I.turnedL (t':=s.toks) (ch:=[z,i1]) (fun c o hn q=>?_) fun c hc=>hf c ?_⟩
    · simp only [List.mem_cons,List.mem_nil_iff,or_false,not_or] at hn
      exact keep c o hn.1 hn.2 q
    · simp only [List.mem_cons,List.mem_nil_iff,or_false] at hc ⊢
      rcases hc with h | h
      · exact .inl h
      · exact .inr (.inr (.inl h))
  self:=fun _ _ _ _ _ st h=>wpAny_pyIter_zip st.1 h
section
variable {X:Cx} {elts:List Expr} {x1:Nat} {tpos:Pos}
theorem jcB {tg:Expr} {pins:List (Addr × Obj)} {σ:St} {H1:Hp} {s1:Shared} {R:It->Hp->Prop} {a b:Addr} {ys:List V} (I1:Inv X pins σ H1 s1) (hx:SqT X.K H1 a []) (hy:SqT X.K H1 b ys) (q:R (Itz0 X.K a) H1) :
    wpAny (model X.prog X.w) X.A (call (.type "zip") [.ref a,.ref b]) (fun v s2=>wpAny (model X.prog X.w) X.A (pyIter v) (PIE X pins σ tg R) X.xe s2) X.xe s1:=by
  obtain ⟨is1,_,p1,_⟩:=I1.tuple hx
  obtain ⟨is2,_,p2,_⟩:=I1.tuple hy
  have p1:s1.heap.IsTuple a is1.toArray:=p1
  have p2:s1.heap.IsTuple b is2.toArray:=p2
  have la:a < s1.heap.objs.size:=let ⟨o,q,_⟩:=p1; Heap.lt_size q
  refine Xn p1 p2 fun h' z ti to j1 j2 keep=>?_
  refine wpAny_pyIter_zip z ?_
  have n1:s1.heap.objs.size≠s1.heap.objs.size + 4:=Nat.ne_of_lt (Nat.lt_add_of_pos_right (by decide))
  have n2:a≠s1.heap.objs.size + 4:=Nat.ne_of_lt (Nat.lt_of_lt_of_le la (Nat.le_add_right _ _))
  refine ⟨s1.heap.objs.size + 4,_,_,_,H1,rfl,I1.kept (t':=s1.toks) keep,jbJ a _ _ _ s1.heap.objs.size (s1.heap.objs.size + 1) n1 n2 (Nat.ne_of_lt la),⟨z,ti,to,j1⟩,fun c hc=>?_,q⟩
  have:s1.heap.objs.size<=c:=by
    simp only [List.mem_cons,List.mem_nil_iff,or_false] at hc
    rcases hc with rfl | rfl | rfl | rfl
    · exact Nat.le_add_right _ _
    · exact Nat.le_add_right _ _
    · exact Nat.le_refl _
    · exact Nat.le_add_right _ _
  exact I1.fpOk this (I1.hok.fresh this)
def iZip (K:PySem.W.Frag) (ta:TA):TI:=fun σ H R=>ta σ H fun vs H1=>∃ a b,vs=[.ref a,.ref b]∧(((∃ xs,SqL K H1 a xs)∧(∃ ys,SqL K H1 b ys)∧R (Itz K a b) H1)∨(SqT K H1 a []∧(∃ ys,SqT K H1 b ys)∧R (Itz0 K a) H1))
theorem pi_zip {l m:Expr} {ta:TA} {p pos:Pos} (hg:Gl X "zip") (hm:X.mg "zip" = none) (ha:PA X [l,m] ta) (hs:starEach [l,m] X.env=(false,eval l X.env) :: starEach [m] X.env:=by rfl) (hs2:starEach [m] X.env=[(false,eval m X.env)]:=by rfl):PI X (.Tuple elts x1 tpos) (.Call (.Name "zip" p) [l,m] [] pos) (iZip X.K ta):=by
  intro pins s σ H R I h
  refine Call_ (uo I hg hm jeT (PyProof.Rows.callWith_type1 (thn (ha pos pins s σ H _ I h) fun us s1 hQQ=>?_) hs (by rw [hs2]; rfl)))
  obtain ⟨vs,H1,I1,r1,q1⟩:=hQQ
  obtain ⟨a,b,e,q⟩:=q1
  subst e
  obtain ⟨u,v,rfl,ru,rv⟩:=jq.two r1
  cases ru
  cases rv
  rcases q with ⟨⟨xs,hx⟩,⟨ys,hy⟩,q⟩ | ⟨hx,⟨ys,hy⟩,q⟩
  · exact jbD I1 hx hy q
  · exact jcB I1 hx hy q
end
end L2
namespace HT
open PySem PySem.Spec PyProof.Rows
section
variable {prog:Program} {w:World} {A:Around} {E:Value->Shared->Prop} {s:Shared}
theorem getItem_tuple_all {t sl:Addr} {items:Array Value} {vl vu:Value} {lo hi:Option Int} {Q:Value->Shared->Prop} (ht:IsTup s.heap t items) (hs:s.heap.IsSliceOf sl vl vu .none) (pl:IsPart vl lo) (pu:IsPart vu hi)
    (h0:sIx items.size 0 lo=0) (h1:sIx items.size items.size hi=items.size) (h:Q (.ref t) s):wpAny (model prog w) A (getItem (.ref t) (.ref sl)) Q E s:=by
  obtain ⟨os,hos,hcs,hds⟩:=id hs; have hTs:s.TypeIs (.ref sl) "slice":=⟨os,hos,hcs⟩
  unfold getItem; try with_reducible refine wpAny_holding ?_
  (first | refine wpAny_bind (wpAny_pure ?_) | skip); refine wpAny_bind (wpAny_sequenceKey ht.typeIs (by decide) ?_)
  refine wpAny_bind (wpAny_callSpecial?_slot (name:=Str.ofString "__getitem__") ht.typeIs PyProof.Rows.slot_tuple_getitem (wpAny_call_entry PyProof.Rows.slot_tuple_getitem ht.typeIs entry_tuple_getitem ?_ (args_tuple_getitem _ _)))
  show wpAny _ _ (Builtin.Tuple.tupleItemsOf (.ref t) >>= _) _ _ s; refine wpAny_bind (tupleItemsOf_ ht ?_); refine wpAny_bind (wpAny_typeOf hTs ?_)
  rw [if_pos (by decide)]; refine wpAny_bind (xj hs pl pu ?_)
  have hy:((((sIx items.size 0 lo:Nat):Int) == 0 && (1:Int) == 1 && (sIx items.size items.size hi - sIx items.size 0 lo) == items.size)=true):=by rw [h0,h1]; simp
  show wpAny _ _ (if (((sIx items.size 0 lo:Nat):Int) == 0 && (1:Int) == 1 && (sIx items.size items.size hi - sIx items.size 0 lo) == items.size)=true then _ else _) _ _ s
  rw [if_pos hy]
  refine wpAny_bind (m:=Builtin.Tuple.tupleIsExact _) ?_; unfold Builtin.Tuple.tupleIsExact; refine wpAny_bind (wpAny_typeOf ht.typeIs (wpAny_pure ?_)); rw [if_pos (by decide)]
  exact wpAny_bind (wpAny_rule (wpAny_pure ⟨_,rfl,wpAny_pure h⟩))
end
end HT
namespace L2
open PySem PySem.Spec PyProof.Rows
section
variable {X:Cx}
def rSlW (K:PySem.W.Frag):V->Option Int->Option Int->Hp->VK->Prop:=fun x lo hi H Q=>∃ a xs,x = .ref a∧SqT K H a xs∧(HT.sIx xs.length 0 lo=0∧HT.sIx xs.length xs.length hi=xs.length)∧Q (.ref a) H
theorem jfv:SlR X (rSlW X.K):=by
  intro pins s σ H x v vl vu lo hi sl Q I rx hs pl pu h
  obtain ⟨a,xs,rfl,hx,hw,q⟩:=h
  cases rx
  obtain ⟨its,r,ht,hz⟩:=I.tuple hx
  have hlen:its.toArray.size=xs.length:=by rw [List.size_toArray]; exact r.length.symm
  exact ⟨"tuple",_,PyProof.Rows.slot_tuple_getitem.lookup,ht.typeIs,HT.getItem_tuple_all ht hs pl pu (by rw [hlen]; exact hw.1) (by rw [hlen]; exact hw.2) ⟨.ref a,H,I,rfl,q⟩⟩
end
end L2
namespace L2
open PySem PySem.Spec PyProof.Rows
section
variable {prog:Program} {w:World} {A:Around} {E:Value->Shared->Prop} {s:Shared}
end
end L2
namespace L2
open PySem PySem.Spec PyProof.Rows
theorem Paired.at {α β:Type} {F:α->β->Prop} {l₁:List α} {l₂:List β} (h:Paired F l₁ l₂):∀ {i:Nat} {x:α},l₁[i]? = some x->∃ y,l₂[i]? = some y∧F x y:=by
  induction h with
  | nil=>intro i x e; simp at e
  | cons r t ih =>
    intro i x e
    cases i with
    | zero=>cases e; exact ⟨_,rfl,r⟩
    | succ i=>exact ih (i:=i) e
section
variable {X:Cx} {elts:List Expr} {x1:Nat} {tpos:Pos}
end
end L2
namespace L2
open PySem PySem.Spec PyProof.Rows
abbrev NK:=Int × List Key
section
variable {prog:Program} {w:World}
def xW (prog:Program) (w:World) (h:Heap) (k:NK) (a:Addr):Prop :=
  ∃ o items n t c,h.get? a=some o∧o.cls = .type "tuple"∧o.data = .seq items n∧items.toList=[.int k.1 t,.ref c]∧(tupleKind (jI prog w)).is h k.2 c
theorem xW.typeIs {s:Shared} {k:NK} {a:Addr} (x:xW prog w s.heap k a):s.TypeIs (.ref a) "tuple":=by
  obtain ⟨o,_,_,_,_,ho,hc,_⟩:=x
  exact ⟨o,ho,hc⟩
theorem xW.inj {h:Heap} {a:Addr} {x y:NK} (hx:xW prog w h x a) (hy:xW prog w h y a):x=y:=by
  obtain ⟨o,its,n,t,c,ho,_,hd,hi,hk⟩:=hx
  obtain ⟨o',its',n',t',c',ho',_,hd',hi',hk'⟩:=hy
  rw [ho] at ho'
  cases ho'
  rw [hd] at hd'
  injection hd' with h1 _
  subst h1
  rw [hi] at hi'
  injection hi' with h1 h2
  injection h1 with h1 _
  injection h2 with h2 _
  injection h2 with h2
  subst h2
  exact Prod.ext h1 ((tupleKind (jI prog w)).inj hk hk')
theorem xW.keeps {h h':Heap} {k:NK} {a d:Addr} {o:Obj} {es ep} (x:xW prog w h k a) (ho:h.get? d=some o) (hd:o.data = .dict es ep) (hs:Heap.SameBut d h h'):xW prog w h' k a:=by
  obtain ⟨o',its,n,t,c,ho',hc,hd',hi,hk⟩:=x
  have hne:a≠d:=by
    rintro rfl
    rw [ho] at ho'
    cases ho'
    rw [hd] at hd'
    cases hd'
  exact ⟨o',its,n,t,c,(hs.2 a hne).trans ho',hc,hd',hi,(tupleKind (jI prog w)).keeps hk ho hd hs⟩
variable {A:Around} {E:Value->Shared->Prop} {s:Shared}
end
end L2
namespace L2
open PySem PySem.Spec PyProof.Rows
def nHash (w:World) (k:NK):Int:=reduceHash (Builtin.Tuple.tupleHashOf [keyH w (.inl k.1),reduceHash (Builtin.Tuple.tupleHashOf (k.2.map (keyH w)))])
def ndF (w:World) (d:Addr) (xs:List (NK × Addr × Value)):Heap->Prop:=fun h=>(d == sysModules)=false∧xs.length<=sizeLine∧(xs.map (·.1)).Nodup ∧
  ∃ o es ep,h.get? d=some o∧o.ExactDict∧o.data = .dict es ep∧es.toList=xs.map fun x=>⟨nHash w x.1,.ref x.2.1,x.2.2⟩
def ndO (w:World) (d:Addr) (xs:List (NK × Addr × Value)):HO:=.ext (ndF w d xs)
def NKey (K:PySem.W.Frag) (H:Hp) (k:NK) (b:Addr):Prop:=∃ c,H b=some (.tup [.int k.1,.ref c])∧SqT K H c (k.2.map kV)
section
variable {X:Cx} {pins:List (Addr × Obj)} {σ:St} {H:Hp} {s:Shared} {a b:Addr} {k:NK} {xs:List (NK × Addr × Value)}
end
section
variable {prog:Program} {w:World} {A:Around} {E:Value->Shared->Prop} {s:Shared} {xs:List (NK × Addr × Value)}
end
section
variable {X:Cx} {pins:List (Addr × Obj)} {σ:St} {H:Hp} {s:Shared} {a b:Addr} {d:V} {r:Value} {A:Around} {E:Value->Shared->Prop} {xs:List (NK × Addr × Value)} {k:NK}
end
section
variable {X:Cx} {o e f:Expr} {apos cpos:Pos} {td ty tx:TE}
end
end L2
namespace L2
open PySem PySem.Spec PyProof.Rows
def jfa (a:Addr) (o:Obj) (kv vv:V):Prop:=o.ExactDict∧(a == sysModules)=false∧∃ i ku vu ep,o.data = .dict #[⟨i,ku,vu⟩] ep∧jv kv ku∧jv vv vu
def odO (a:Addr) (o:Obj) (kv vv:V):HO:=.ext fun h=>h.get? a=some o∧jfa a o kv vv
theorem Inv.odd {X:Cx} {pins:List (Addr × Obj)} {σ:St} {H:Hp} {s:Shared} {a:Addr} {kv vv:V} {o:Obj} (I:Inv X pins σ H s) (e:H a=some (odO a o kv vv)):s.heap.get? a=some o∧jfa a o kv vv:=by
  obtain ⟨p,_⟩:=(show jM X.prog X.w H s.heap a (odO a o kv vv) from I.hok a _ e)
  exact p
end L2
namespace L2
open PySem PySem.Spec PyProof.Rows
section
variable {prog:Program} {w:World} {s:Shared} {A:Around} {E:Value->Shared->Prop}
theorem vp {it tu:Addr} {i:Nat} {its:Array Value} {x:Value} {Q:Value->Shared->Prop} (hI:s.heap.IsTupleIter it tu i) (hU:s.heap.IsTuple tu its) (hn:its[i]? = some x)
    (go:∀ h',h'.IsTupleIter it tu (i + 1)->Heap.SameBut it s.heap h'->Q x { s with heap:=h' }):wpAny (model prog w) A (Builtin.SmallTypes.nextOf (.ref it)) Q E s:=by
  obtain ⟨oi,hoi,hci,hdi⟩:=id hI; obtain ⟨ou,hou,_,nu,hdu⟩:=hU; unfold Builtin.SmallTypes.nextOf
  refine wpAny_bind (wpAny_callSpecial?_slot (name:=Str.ofString "__next__") hI.typeIs F.slot_tuple_iterator_next (wpAny_call_entry F.slot_tuple_iterator_next hI.typeIs F.entry_tuple_iterator_next ?_ (F.args_tuple_iterator_next_1 _)))
  show wpAny _ _ (field (.ref it) 0 >>= _) _ _ s; refine wpAny_bind (wpAny_field hoi hdi (x:=.ref tu) rfl ?_)
  show wpAny _ _ (if (Value.ref tu == Value.none)=true then _ else _) _ _ s; rw [if_neg (show ¬ ((Value.ref tu == Value.none)=true) from Bool.false_ne_true)]
  show wpAny _ _ (field (.ref it) 1 >>= _) _ _ s; refine wpAny_bind (wpAny_field hoi hdi (x:=.int i 0) rfl ?_)
  show wpAny _ _ (seqItems? (.ref tu) >>= _) _ _ s; refine wpAny_bind (wpAny_seqItems hou hdu ?_); simp only [Int.toNat_natCast,hn]
  refine wpAny_bind (wpAny_setField hoi hdi (by simp) ?_)
  refine wpAny_pure ⟨_,rfl,wpAny_pure (go _ ⟨_,Heap.get?_update_self _ hoi (Obj.isFreed_of_fields (Obj.data_mapFields hdi _)),?_,?_⟩ (Heap.SameBut.update ..))⟩
  · exact (Obj.cls_mapFields _ _).trans hci
  · exact (Obj.data_mapFields hdi _)
theorem jff {z TI TO i1 i2 l1 l2:Addr} {k1 k2:Nat} {xs ys:Array Value} {x y a b:Value} {Q:Value->Shared->Prop} (D:ZipApart z TI TO i1 i2 l1 l2) (hz:IsZip s.heap z TI TO .none) (hTI:IsPair s.heap TI (.ref i1) (.ref i2)) (hTO:IsPair s.heap TO a b) (h1:s.heap.IsTupleIter i1 l1 k1) (h2:s.heap.IsTupleIter i2 l2 k2) (hl1:s.heap.IsTuple l1 xs) (hl2:s.heap.IsTuple l2 ys) (hx:xs[k1]? = some x) (hy:ys[k2]? = some y) (hQ:∀ h',IsZip h' z TI TO (rawInt s.heap.objs.size)->IsPair h' TO x y->h'.IsTupleIter i1 l1 (k1 + 1)->h'.IsTupleIter i2 l2 (k2 + 1)->IsPair h' s.heap.objs.size x y->h'.objs.size=s.heap.objs.size + 1->(∀ c o,c≠z->c≠TO->c≠i1->c≠i2->s.heap.get? c=some o->h'.get? c=some o)->Q (.ref s.heap.objs.size) { s with heap:=h' }):wpAny (model prog w) A (Builtin.«zip.__next__» ⟨[.ref z],[]⟩) (fun fin s'=>∃ v,fin = .done (.ret v)∧Q v s') E s:= by
  show wpAny _ _ (field (.ref z) 2 >>= _) _ _ _; refine wpAny_bind (wpAny_field hz rfl (x:=.bool false) rfl ?_)
  show wpAny _ _ (field (.ref z) 3 >>= _) _ _ _; refine wpAny_bind (wpAny_field hz rfl (x:=.ref TI) rfl ?_)
  refine wpAny_bind (wpAny_seqItems hTI rfl ?_); show wpAny _ _ (Builtin.SmallTypes.ownedTupleIsFree (.ref z) >>= _) _ _ _
  refine wpAny_bind ?_; unfold Builtin.SmallTypes.ownedTupleIsFree
  refine wpAny_bind (wpAny_field hz rfl (x:=.none) rfl (wpAny_pure ?_)); simp only [if_true]
  refine wpAny_bind (wpAny_rule ?_); refine wpAny_bind (wpAny_field hz rfl (x:=.ref TO) rfl ?_)
  refine wpAny_bind (wpAny_setField_rec hz (by simp) fun hA hzA hsA=>?_); replace hzA:IsZip hA z TI TO .ellipsis:=hzA
  refine wpAny_bind ?_; simp only [List.zipIdx_cons,List.zipIdx_nil,List.forIn_cons,List.forIn_nil]
  refine wpAny_bind (wpAny_bind (wpAny_onRaise ?_)); show wpAny _ _ (Builtin.SmallTypes.nextOf (.ref i1) >>= _) _ _ _
  refine wpAny_bind (vp (h1.extBut hsA.extBut D.i1z) (hl1.extBut hsA.extBut D.l1z) hx fun hB h1B hsB=>wpAny_pure ?_); have hTOB:IsPair hB TO a b:=hsB.extBut _ _ D.TOi1 (hsA.extBut _ _ D.TOz hTO)
  refine wpAny_bind (wpAny_seqItems hTOB rfl ?_); refine wpAny_bind (wpAny_updateSeq_pair hTOB fun hC hTOC hsC=>?_)
  replace hTOC:IsPair hC TO x b:=hTOC; refine wpAny_bind (wpAny_letGo (wpAny_pure ?_))
  refine wpAny_bind (wpAny_bind (wpAny_onRaise ?_)); show wpAny _ _ (Builtin.SmallTypes.nextOf (.ref i2) >>= _) _ _ _
  refine wpAny_bind (vp (((h2.extBut hsA.extBut D.i2z).extBut hsB.extBut D.i12.symm).extBut hsC.extBut D.TOi2.symm) (((hl2.extBut hsA.extBut D.l2z).extBut hsB.extBut D.l2i1).extBut hsC.extBut D.l2TO) hy fun hD h2D hsD=>wpAny_pure ?_); have hTOD:IsPair hD TO x b:=hsD.extBut _ _ D.TOi2 hTOC
  refine wpAny_bind (wpAny_seqItems hTOD rfl ?_); refine wpAny_bind (wpAny_updateSeq_pair hTOD fun hF hTOF hsF=>?_)
  replace hTOF:IsPair hF TO x y:=hTOF; refine wpAny_bind (wpAny_letGo (wpAny_pure (wpAny_pure ?_)))
  refine wpAny_bind (wpAny_seqItems hTOF rfl ?_); refine wpAny_bind (wpAny_newTuple ?_)
  have hsz:hF.objs.size=s.heap.objs.size:=by rw [hsF.1,hsD.1,hsC.1,hsB.1,hsA.1]
  have hzF:IsZip hF z TI TO .ellipsis:=hsF.extBut _ _ D.TOz.symm (hsD.extBut _ _ D.i2z.symm (hsC.extBut _ _ D.TOz.symm (hsB.extBut _ _ D.i1z.symm hzA))); have hkF:∀ c o,c≠z->c≠TO->c≠i1->c≠i2->s.heap.get? c=some o->hF.get? c=some o:=fun c o c1 c2 c3 c4 e =>
    hsF.extBut _ _ c2 (hsD.extBut _ _ c4 (hsC.extBut _ _ c2 (hsB.extBut _ _ c3 (hsA.extBut _ _ c1 e))))
  have h1F:hF.IsTupleIter i1 l1 (k1 + 1):=((h1B.extBut hsC.extBut D.TOi1.symm).extBut hsD.extBut D.i12).extBut hsF.extBut D.TOi1.symm; have h2F:hF.IsTupleIter i2 l2 (k2 + 1):=h2D.extBut hsF.extBut D.TOi2.symm
  have hzlt:z < hF.objs.size:=Heap.lt_size hzF; have hTOlt:TO < hF.objs.size:=Heap.lt_size hTOF
  have hi1lt:i1 < hF.objs.size:=by obtain ⟨_,e,_⟩:=h1F; exact Heap.lt_size e
  have hi2lt:i2 < hF.objs.size:=by obtain ⟨_,e,_⟩:=h2F; exact Heap.lt_size e
  show wpAny _ _ (Builtin.SmallTypes.ownedTupleHandOut (.ref z) (.ref hF.objs.size) >>= _) _ _ _; refine wpAny_bind ?_
  unfold Builtin.SmallTypes.ownedTupleHandOut; have hzG:IsZip (hF.push { cls:=.type "tuple",data:=.seq #[x,y] }) z TI TO .ellipsis:=Heap.get?_push_of_some _ hzF
  refine wpAny_bind (wpAny_setField_rec hzG (by simp) fun hJ hzJ hsJ=>?_); replace hzJ:IsZip hJ z TI TO (rawInt hF.objs.size):=hzJ
  refine wpAny_setField_rec hzJ (by simp) fun hK hzK hsK=>?_; replace hzK:IsZip hK z TI TO (rawInt hF.objs.size):=hzK
  have up:∀ c o,c≠z->hF.get? c=some o->hK.get? c=some o:=fun c o c1 e=>hsK.extBut _ _ c1 (hsJ.extBut _ _ c1 (Heap.get?_push_of_some _ e)); have hTK:IsPair hK hF.objs.size x y:=hsK.extBut _ _ (Nat.ne_of_gt hzlt) (hsJ.extBut _ _ (Nat.ne_of_gt hzlt) (Heap.get?_push_size _ rfl))
  have hz8:hK.objs.size=hF.objs.size + 1:=by rw [hsK.1,hsJ.1,Heap.size_push]
  rw [hsz] at hzK hTK hz8; refine wpAny_pure ⟨_,rfl,?_⟩
  show Q (.ref hF.objs.size) _; rw [hsz]
  exact hQ hK hzK (up _ _ D.TOz hTOF) (h1F.at fun o e=>up _ o D.i1z e) (h2F.at fun o e=>up _ o D.i2z e) hTK hz8 fun c o c1 c2 c3 c4 e=>up c o c1 (hkF c o c1 c2 c3 c4 e)
theorem jfg {z TI TO i1 i2 l1 l2:Addr} {k1 k2:Nat} {xs ys:Array Value} {a b:Value} {Q:Fin->Shared->Prop} (hh:A.handled=none) (D:ZipApart z TI TO i1 i2 l1 l2) (hz:IsZip s.heap z TI TO .none) (hTI:IsPair s.heap TI (.ref i1) (.ref i2)) (hTO:IsPair s.heap TO a b) (h1:s.heap.IsTupleIter i1 l1 k1) (h2:s.heap.IsTupleIter i2 l2 k2) (hl1:s.heap.IsTuple l1 xs) (hl2:s.heap.IsTuple l2 ys) (hend:xs[k1]? = none∨ys[k2]? = none) (hE:∀ h' e,(∀ c o,c≠z->c≠TO->c≠i1->c≠i2->s.heap.get? c=some o->h'.get? c=some o)->(∃ o,h'.get? e=some o∧o.cls = .type "StopIteration")->E (.ref e) { s with heap:=h' }):wpAny (model prog w) A (Builtin.«zip.__next__» ⟨[.ref z],[]⟩) Q E s:= by
  show wpAny _ _ (field (.ref z) 2 >>= _) _ _ _; refine wpAny_bind (wpAny_field hz rfl (x:=.bool false) rfl ?_)
  show wpAny _ _ (field (.ref z) 3 >>= _) _ _ _; refine wpAny_bind (wpAny_field hz rfl (x:=.ref TI) rfl ?_)
  refine wpAny_bind (wpAny_seqItems hTI rfl ?_); show wpAny _ _ (Builtin.SmallTypes.ownedTupleIsFree (.ref z) >>= _) _ _ _
  refine wpAny_bind ?_; unfold Builtin.SmallTypes.ownedTupleIsFree
  refine wpAny_bind (wpAny_field hz rfl (x:=.none) rfl (wpAny_pure ?_)); simp only [if_true]
  refine wpAny_bind (wpAny_rule ?_); refine wpAny_bind (wpAny_field hz rfl (x:=.ref TO) rfl ?_)
  refine wpAny_bind (wpAny_setField_rec hz (by simp) fun hA hzA hsA=>?_); replace hzA:IsZip hA z TI TO .ellipsis:=hzA
  refine wpAny_bind ?_; simp only [List.zipIdx_cons,List.zipIdx_nil,List.forIn_cons,List.forIn_nil]
  refine wpAny_bind (wpAny_bind (wpAny_onRaise ?_)); show wpAny _ _ (Builtin.SmallTypes.nextOf (.ref i1) >>= _) _ _ _
  cases hx:xs[k1]? with
  | none =>
    refine wpAny_bind (ul hh (h1.extBut hsA.extBut D.i1z) (hl1.extBut hsA.extBut D.l1z) hx fun hB e hsB he=>?_); obtain ⟨oe,hoe,hce⟩:=he
    have hzB:IsZip hB z TI TO .ellipsis:=hsB _ _ D.i1z.symm hzA; have hez:e≠z:=fun x=>by subst x; rw [hzB] at hoe; cases hoe; simp at hce
    refine wpAny_setField_rec hzB (by simp) fun hC _ hsC=>hE hC e (fun c o c1 _ c3 _ x=>hsC.extBut _ _ c1 (hsB _ _ c3 (hsA.extBut _ _ c1 x))) ⟨oe,hsC.extBut _ _ hez hoe,hce⟩
  | some x =>
    have hy:ys[k2]? = none:=by
      rcases hend with h | h
      · rw [hx] at h; cases h
      · exact h
    refine wpAny_bind (vp (h1.extBut hsA.extBut D.i1z) (hl1.extBut hsA.extBut D.l1z) hx fun hB h1B hsB=>wpAny_pure ?_); have hTOB:IsPair hB TO a b:=hsB.extBut _ _ D.TOi1 (hsA.extBut _ _ D.TOz hTO)
    refine wpAny_bind (wpAny_seqItems hTOB rfl ?_); refine wpAny_bind (wpAny_updateSeq_pair hTOB fun hC hTOC hsC=>?_)
    refine wpAny_bind (wpAny_letGo (wpAny_pure ?_)); refine wpAny_bind (wpAny_bind (wpAny_onRaise ?_))
    show wpAny _ _ (Builtin.SmallTypes.nextOf (.ref i2) >>= _) _ _ _; refine wpAny_bind (ul hh (((h2.extBut hsA.extBut D.i2z).extBut hsB.extBut D.i12.symm).extBut hsC.extBut D.TOi2.symm) (((hl2.extBut hsA.extBut D.l2z).extBut hsB.extBut D.l2i1).extBut hsC.extBut D.l2TO) hy fun hD e hsD he=>?_)
    obtain ⟨oe,hoe,hce⟩:=he; have hzD:IsZip hD z TI TO .ellipsis:=hsD _ _ D.i2z.symm (hsC.extBut _ _ D.TOz.symm (hsB.extBut _ _ D.i1z.symm hzA))
    have hez:e≠z:=fun x=>by subst x; rw [hzD] at hoe; cases hoe; simp at hce
    refine wpAny_setField_rec hzD (by simp) fun hF _ hsF=>hE hF e (fun c o c1 c2 c3 c4 x=>hsF.extBut _ _ c1 (hsD _ _ c4 (hsC.extBut _ _ c2 (hsB.extBut _ _ c3 (hsA.extBut _ _ c1 x))))) ⟨oe,hsF.extBut _ _ hez hoe,hce⟩
end
theorem jcL {h h':Heap} {a t:Addr} {i:Nat} (x:h.IsTupleIter a t i) (k:∀ o,h.get? a=some o->h'.get? a=some o):h'.IsTupleIter a t i:=by
  obtain ⟨o,e,r⟩:=x
  exact ⟨o,k o e,r⟩
section
variable {prog:Program} {w:World} {s:Shared} {A:Around} {E:Value->Shared->Prop}
theorem jbE {z TI TO i1 i2 l1 l2:Addr} {k1 k2:Nat} {xs ys:Array Value} {x y a b:Value} {Q:Option Value->Shared->Prop} (D:ZipApart z TI TO i1 i2 l1 l2) (hz:IsZip s.heap z TI TO .none) (hTI:IsPair s.heap TI (.ref i1) (.ref i2)) (hTO:IsPair s.heap TO a b)
    (h1:s.heap.IsTupleIter i1 l1 k1) (h2:s.heap.IsTupleIter i2 l2 k2) (hl1:s.heap.IsTuple l1 xs) (hl2:s.heap.IsTuple l2 ys) (hx:xs[k1]? = some x) (hy:ys[k2]? = some y)
    (hQ:∀ h',IsZip h' z TI TO (rawInt s.heap.objs.size)->IsPair h' TO x y->h'.IsTupleIter i1 l1 (k1 + 1)->h'.IsTupleIter i2 l2 (k2 + 1)->IsPair h' s.heap.objs.size x y->h'.objs.size=s.heap.objs.size + 1->(∀ c o,c≠z->c≠TO->c≠i1->c≠i2->s.heap.get? c=some o->h'.get? c=some o)->Q (some (.ref s.heap.objs.size)) { s with heap:=h' }) :
    wpAny (model prog w) A (pyNext (.ref z)) Q E s:=by
  have ty:s.TypeIs (.ref z) "zip":=⟨_,hz,rfl⟩
  unfold pyNext
  exact wpAny_bind (wpAny_attempt (wpAny_callSpecial?_slot (name:=Str.ofString "__next__") ty F.slot_zip_next (wpAny_call_entry F.slot_zip_next ty F.entry_zip_next (jff D hz hTI hTO h1 h2 hl1 hl2 hx hy fun h' a1 a2 a3 a4 a5 a6 a7=>wpAny_pure (hQ h' a1 a2 a3 a4 a5 a6 a7)) (F.args_zip_next_1 _))))
theorem jbF {z TI TO i1 i2 l1 l2:Addr} {k1 k2:Nat} {xs ys:Array Value} {a b:Value} {Q:Option Value->Shared->Prop} (nh:A.handled=none) (D:ZipApart z TI TO i1 i2 l1 l2) (hz:IsZip s.heap z TI TO .none) (hTI:IsPair s.heap TI (.ref i1) (.ref i2)) (hTO:IsPair s.heap TO a b)
    (h1:s.heap.IsTupleIter i1 l1 k1) (h2:s.heap.IsTupleIter i2 l2 k2) (hl1:s.heap.IsTuple l1 xs) (hl2:s.heap.IsTuple l2 ys) (hend:xs[k1]? = none∨ys[k2]? = none)
    (hQ:∀ h',(∀ c o,c≠z->c≠TO->c≠i1->c≠i2->s.heap.get? c=some o->h'.get? c=some o)->Q none { s with heap:=h' }):wpAny (model prog w) A (pyNext (.ref z)) Q E s:=by
  have ty:s.TypeIs (.ref z) "zip":=⟨_,hz,rfl⟩
  unfold pyNext
  refine wpAny_bind (wpAny_attempt (wpAny_callSpecial?_slot (name:=Str.ofString "__next__") ty F.slot_zip_next (wpAny_call_entry F.slot_zip_next ty F.entry_zip_next (jfg nh D hz hTI hTO h1 h2 hl1 hl2 hend fun h' e hk he=>?_) (F.args_zip_next_1 _))))
  obtain ⟨o,ho,hc⟩:=he
  refine wpAny_bind (wpAny_isInstance (T:="StopIteration") (b:=true) ⟨o,ho,hc⟩ isSubtype_stop ?_)
  exact wpAny_pure (hQ _ hk)
end
def ItzT (K:PySem.W.Frag) (a b:Addr):It :=
  ⟨fun i H=>∃ xs ys x y,SqT K H a xs∧SqT K H b ys∧xs[i]? = some x∧ys[i]? = some y,fun i H x H'=>∃ p u v,x = .ref p∧H p=none∧(∀ xs,SqT K H a xs->xs[i]? = some u)∧(∀ ys,SqT K H b ys->ys[i]? = some v)∧H'=upd H p (.tup [u,v]),
    fun i H=>∃ xs ys,SqT K H a xs∧SqT K H b ys∧(xs.length<=i∨ys.length<=i)⟩
theorem jbI {P:Program} {w:World} {K:PySem.W.Frag} {elts:List Expr} {x1:Nat} {pos:Pos} (a b z TI TO i1 i2:Addr) (D:ZipApart z TI TO i1 i2 a b) :
    Turn P w K (.Tuple elts x1 pos) (ItzT K a b) [z,TO,i1,i2,TI] z (fun i h=>IsZip h z TI TO .none∧IsPair h TI (.ref i1) (.ref i2)∧(∃ u v,IsPair h TO u v)∧h.IsTupleIter i1 a i∧h.IsTupleIter i2 b i) where
  mem:=by simp
  obj:=fun i h st c hc=>by
    obtain ⟨hz,ht,⟨u,v,ho⟩,⟨o1,q1,_,d1⟩,⟨o2,q2,_,d2⟩⟩:=st
    simp only [List.mem_cons,List.mem_nil_iff,or_false] at hc
    rcases hc with rfl | rfl | rfl | rfl | rfl
    · exact ⟨_,hz,fun v e=>by have e:Data.fields _=Data.cell v:=e; cases e⟩
    · exact ⟨_,ho,fun v e=>by have e:Data.seq _=Data.cell v:=e; cases e⟩
    · exact ⟨o1,q1,fun v e=>by rw [d1] at e; cases e⟩
    · exact ⟨o2,q2,fun v e=>by rw [d2] at e; cases e⟩
    · exact ⟨_,ht,fun v e=>by have e:Data.seq _=Data.cell v:=e; cases e⟩
  keep:=fun i h h' st k=>by
    obtain ⟨hz,ht,⟨u,v,ho⟩,⟨o1,q1,r1⟩,⟨o2,q2,r2⟩⟩:=st
    exact ⟨k z (by simp) _ hz,k TI (by simp) _ ht,⟨u,v,k TO (by simp) _ ho⟩,⟨o1,k i1 (by simp) o1 q1,r1⟩,⟨o2,k i2 (by simp) o2 q2,r2⟩⟩
  item:=by
    intro X hP hw hK hc i pins s σ H E I hf st hg
    subst hP hw hK
    obtain ⟨hz,ht,⟨u0,v0,ho⟩,q1,q2⟩:=st
    obtain ⟨xs,ys,x,y,ha,hb,hx,hy⟩:=hg
    obtain ⟨i1s,r1,p1,_⟩:=I.tuple ha
    obtain ⟨i2s,r2,p2,_⟩:=I.tuple hb
    obtain ⟨u,hu,ru⟩:=r1.get hx
    obtain ⟨v,hv,rv⟩:=r2.get hy
    refine jbE D hz ht ho q1 q2 p1 p2 (x:=u) (y:=v) (by simpa using hu) (by simpa using hv) fun h' z1 o1 j1 j2 tup sz keep=>?_
    refine ⟨_,rfl,wpAny_letOwnedTupleGo_zip (s:={ s with heap:=h' }) z1 fun h2 z2 sb=>?_⟩
    have fz:=hf z (by simp)
    have lt:∀ c,(∃ o,s.heap.get? c=some o)->s.heap.objs.size≠c:=fun c hc e=>by
      obtain ⟨o,ho⟩:=hc
      have:=Heap.lt_size ho
      rw [<- e] at this
      exact Nat.lt_irrefl _ this
    have n1:s.heap.objs.size≠z:=lt _ ⟨_,hz⟩
    have VO:∀ c o,c ∉ [z,TO,i1,i2]->s.heap.get? c=some o->h2.get? c=some o:=fun c o hn q=>by
      simp only [List.mem_cons,List.mem_nil_iff,or_false,not_or] at hn
      exact (sb.2 c hn.1).trans (keep c o hn.1 hn.2.1 hn.2.2.1 hn.2.2.2 q)
    have I1:Inv X pins σ H { s with heap:=h2 }:=I.turnedL (t':=s.toks) (ch:=[z,TO,i1,i2]) VO fun c hc=>hf c (by
      simp only [List.mem_cons,List.mem_nil_iff,or_false] at hc ⊢
      rcases hc with h | h | h | h
      · exact .inl h
      · exact .inr (.inl h)
      · exact .inr (.inr (.inl h))
      · exact .inr (.inr (.inr (.inl h))))
    have fresh:H s.heap.objs.size=none:=I.hok.fresh (Nat.le_refl _)
    have fp:=I.fpOk (Nat.le_refl _) fresh
    have tup2:h2.get? s.heap.objs.size=some { cls:=.type "tuple",data:=.seq #[u,v] }:=(sb.2 _ n1).trans tup
    refine ⟨.ref s.heap.objs.size,upd H s.heap.objs.size (.tup [x,y]),I1.track fp.np ⟨by show 2<=sizeLine; decide,[u,v],.cons ru (.cons rv .nil),⟨_,tup2,rfl,_,rfl⟩⟩,rfl,⟨_,x,y,rfl,fresh,fun zs h=>by rw [I.tuple_inj h ha]; exact hx,fun zs h=>by rw [I.tuple_inj h hb]; exact hy,rfl⟩,
      ⟨z2,(sb.2 _ D.TIz).trans (keep _ _ D.TIz D.TITO D.TIi1 D.TIi2 ht),⟨u,v,(sb.2 _ D.TOz).trans o1⟩,jcL j1 fun o q=>(sb.2 _ D.i1z).trans q,jcL j2 fun o q=>(sb.2 _ D.i2z).trans q⟩,fun c hc=>?_⟩
    have:s.heap.objs.size≠c:=by
      simp only [List.mem_cons,List.mem_nil_iff,or_false] at hc
      rcases hc with rfl | rfl | rfl | rfl | rfl
      · exact n1
      · exact lt _ ⟨_,ho⟩
      · exact lt _ (let ⟨o,q,_⟩:=q1; ⟨o,q⟩)
      · exact lt _ (let ⟨o,q,_⟩:=q2; ⟨o,q⟩)
      · exact lt _ ⟨_,ht⟩
    rw [ji (Ne.symm this)]
    exact (hf c hc).1
  done:=by
    intro X hP hw hK hc i pins s σ H E I hf st hg
    subst hP hw hK
    obtain ⟨hz,ht,⟨u0,v0,ho⟩,q1,q2⟩:=st
    obtain ⟨xs,ys,ha,hb,hx⟩:=hg
    obtain ⟨i1s,r1,p1,_⟩:=I.tuple ha
    obtain ⟨i2s,r2,p2,_⟩:=I.tuple hb
    have l1:=r1.length
    have l2:=r2.length
    refine jbF (I.ok.hd hc) D hz ht ho q1 q2 p1 p2 (by
      rcases hx with h | h
      · exact .inl (by simp; omega)
      · exact .inr (by simp; omega)) fun h' keep=>⟨rfl,I.turnedL (t':=s.toks) (ch:=[z,TO,i1,i2]) (fun c o hn q=>?_) fun c hc=>hf c ?_⟩
    · simp only [List.mem_cons,List.mem_nil_iff,or_false,not_or] at hn
      exact keep c o hn.1 hn.2.1 hn.2.2.1 hn.2.2.2 q
    · simp only [List.mem_cons,List.mem_nil_iff,or_false] at hc ⊢
      rcases hc with h | h | h | h
      · exact .inl h
      · exact .inr (.inl h)
      · exact .inr (.inr (.inl h))
      · exact .inr (.inr (.inr (.inl h)))
  self:=fun _ _ _ _ _ st h=>wpAny_pyIter_zip st.1 h
section
variable {X:Cx} {elts:List Expr} {x1:Nat} {tpos:Pos}
theorem jbC {pins:List (Addr × Obj)} {σ:St} {H1:Hp} {s1:Shared} {R:It->Hp->Prop} {a b:Addr} {xs ys:List V} (I1:Inv X pins σ H1 s1) (hx:SqT X.K H1 a xs) (hy:SqT X.K H1 b ys) (q:R (ItzT X.K a b) H1) :
    wpAny (model X.prog X.w) X.A (call (.type "zip") [.ref a,.ref b]) (fun v s2=>wpAny (model X.prog X.w) X.A (pyIter v) (PIE X pins σ (.Tuple elts x1 tpos) R) X.xe s2) X.xe s1:=by
  obtain ⟨is1,_,p1,_⟩:=I1.tuple hx
  obtain ⟨is2,_,p2,_⟩:=I1.tuple hy
  have p1:s1.heap.IsTuple a is1.toArray:=p1
  have p2:s1.heap.IsTuple b is2.toArray:=p2
  have la:a < s1.heap.objs.size:=let ⟨o,q,_⟩:=p1; Heap.lt_size q
  have lb:b < s1.heap.objs.size:=let ⟨o,q,_⟩:=p2; Heap.lt_size q
  refine Xn p1 p2 fun h' z ti to j1 j2 keep=>?_
  refine wpAny_pyIter_zip z ?_
  have D:ZipApart (s1.heap.objs.size + 4) (s1.heap.objs.size + 2) (s1.heap.objs.size + 3) s1.heap.objs.size (s1.heap.objs.size + 1) a b:=Yq _ _ _ la lb
  refine ⟨s1.heap.objs.size + 4,_,_,_,H1,rfl,I1.kept (t':=s1.toks) keep,jbI a b _ _ _ _ _ D,⟨z,ti,⟨_,_,to⟩,j1,j2⟩,fun c hc=>?_,q⟩
  have:s1.heap.objs.size<=c:=by
    simp only [List.mem_cons,List.mem_nil_iff,or_false] at hc
    rcases hc with rfl | rfl | rfl | rfl | rfl
    · exact Nat.le_add_right _ _
    · exact Nat.le_add_right _ _
    · exact Nat.le_refl _
    · exact Nat.le_add_right _ _
    · exact Nat.le_add_right _ _
  exact I1.fpOk this (I1.hok.fresh this)
def iZipT (K:PySem.W.Frag) (ta:TA):TI:=fun σ H R=>ta σ H fun vs H1=>∃ a b,vs=[.ref a,.ref b]∧(∃ xs,SqT K H1 a xs)∧(∃ ys,SqT K H1 b ys)∧R (ItzT K a b) H1
theorem jfT {l m:Expr} {ta:TA} {p pos:Pos} (hg:Gl X "zip") (hm:X.mg "zip" = none) (ha:PA X [l,m] ta) (hs:starEach [l,m] X.env=(false,eval l X.env) :: starEach [m] X.env:=by rfl) (hs2:starEach [m] X.env=[(false,eval m X.env)]:=by rfl):PI X (.Tuple elts x1 tpos) (.Call (.Name "zip" p) [l,m] [] pos) (iZipT X.K ta):=by
  intro pins s σ H R I h
  refine Call_ (uo I hg hm jeT (PyProof.Rows.callWith_type1 (thn (ha pos pins s σ H _ I h) fun us s1 hQQ=>?_) hs (by rw [hs2]; rfl)))
  obtain ⟨vs,H1,I1,r1,q1⟩:=hQQ
  obtain ⟨a,b,e,⟨xs,hx⟩,⟨ys,hy⟩,q⟩:=q1
  subst e
  obtain ⟨u,v,rfl,ru,rv⟩:=jq.two r1
  cases ru
  cases rv
  exact jbC I1 hx hy q
end
end L2
set_option maxHeartbeats 4000000
namespace L3
open PySem L2
inductive PV where
 | non | bl (b:Bool) | int (i:Int) | str (x:Str) | ty (n:String)
 | tup (xs:List PV) | lst (xs:List PV)
  | scr (ns:List Int)
  | top (k:Nat)
  | exn (k:Nat)
  | dct (kvs:List (List Int × Int))
  | dod (k v:PV)
  | ref (i:Nat)
inductive Cell where
 | lst (xs:List PV)
 | dct (kvs:List (List Int × Int))
 | ins (k:Nat) (fs:List (Str × PV))
 | dtv (l:List (List Int × PV))
 | dkv (l:List (Int × PV))
 | dsv (l:List (List Key × PV))
 | dnv (j:Nat) (l:List (NK × PV))
  | xd (fs:List (Str × PV))
structure Sto where
 n:Nat
 g:Nat->Option Cell
def Sto.set (M:Sto) (i:Nat) (c:Cell):Sto:=⟨M.n,fun j=>if j=i then some c else M.g j⟩
def Sto.new (M:Sto) (c:Cell):Sto:=⟨M.n + 1,fun j=>if j=M.n then some c else M.g j⟩
def Sto.drop (M:Sto) (i:Nat):Sto:=⟨M.n,fun j=>if j=i then none else M.g j⟩
theorem Sto.set_same {M:Sto} {i:Nat} {c:Cell}:(M.set i c).g i=some c:=if_pos rfl
theorem Sto.set_ne {M:Sto} {i j:Nat} {c:Cell} (h:j≠i):(M.set i c).g j=M.g j:=if_neg h
theorem Sto.new_same {M:Sto} {c:Cell}:(M.new c).g M.n=some c:=if_pos rfl
theorem Sto.new_ne {M:Sto} {j:Nat} {c:Cell} (h:j≠M.n):(M.new c).g j=M.g j:=if_neg h
structure Tb where
 K:PySem.W.Frag
 C:Nat->Addr
 w:World
structure Wd where
 T:Tb
 F:Hp
 α:Nat->Option Addr
 G:Hp
structure Wd.le0 (W W':Wd):Prop where
 k:W'.T=W.T
 f:∀ a o,W.F a=some o->W'.F a=some o
 a:∀ i a,W.α i=some a->W'.α i=some a
structure Wd.le (W W':Wd):Prop extends toLe0:Wd.le0 W W' where
 g:W'.G=W.G
theorem Wd.le0.trans {A B C:Wd} (h:A.le0 B) (k:B.le0 C):A.le0 C:=⟨k.k.trans h.k,fun a o e=>k.f a o (h.f a o e),fun i a e=>k.a i a (h.a i a e)⟩
theorem Wd.le.refl (W:Wd):W.le W:=⟨⟨rfl,fun _ _ e=>e,fun _ _ e=>e⟩,rfl⟩
theorem Wd.le.trans {A B C:Wd} (h:A.le B) (k:B.le C):A.le C:=⟨h.toLe0.trans k.toLe0,k.g.trans h.g⟩
def Yh (W:Wd) (k:Nat) (dd:Option Addr):Prop:=if k < 64 then dd=none else ∃ d,dd=some d∧W.α (k / 64 - 1)=some d
theorem Yh.up {W W':Wd} {k:Nat} {dd:Option Addr} (h:W.le0 W') (x:Yh W k dd):Yh W' k dd:=by
 unfold Yh at x ⊢;split at x
 ·rename_i z;rw [if_pos z];exact x
 ·rename_i z;rw [if_neg z];obtain ⟨d,e,q⟩:=x;exact ⟨d,e,h.a _ _ q⟩
def jgx (l:List (List Int × Int)):List (List Key × V):=l.map fun p=>(p.1.map Sum.inl,V.int p.2)
mutual
def Rep (W:Wd):PV->V->Prop
 | .non,v=>v = .non
 | .bl b,v=>v = .bl b
 | .int i,v=>v = .int i
 | .str x,v=>v = .str x
 | .ty n,v=>v = .ty n
 | .top k,v=>v = .ref (W.T.C k)
 | .exn k,v=>∃ a dd,v = .ref a∧W.F a=some (Vb a (W.T.C (k % 64)) dd)∧Yh W k dd
 | .dct l,v=>∃ a o,v = .ref a∧W.F a=some (.frz o (.dT (jgx l)))
 | .dod k x,v=>∃ a o kv vv,v = .ref a∧W.F a=some (odO a o kv vv)∧Rep W k kv∧Rep W x vv
 | .scr ns,v=>∃ a,v = .ref a∧SqL W.T.K W.F a (ns.map V.int)∧ns.length<=63
 | .ref i,v=>∃ a,v = .ref a∧W.α i=some a
 | .tup xs,v=>∃ a vs,v = .ref a∧SqT W.T.K W.F a vs∧jl W xs vs
 | .lst xs,v=>∃ a vs,v = .ref a∧W.F a=some (.lst vs)∧jl W xs vs
def jl (W:Wd):List PV->List V->Prop
 | [],vs=>vs=[]
 | x :: xs,vs=>∃ v r,vs=v :: r∧Rep W x v∧jl W xs r
end
theorem vi {K:PySem.W.Frag} {H H':Hp} {a:Addr} {xs:List V} (e:xo H H') (h:SqT K H a xs):SqT K H' a xs:=by
 rcases h with (h | ⟨o,h⟩) | h
 ·exact .inl (.inl (e _ _ h))
 ·exact .inl (.inr ⟨o,e _ _ h⟩)
 ·exact .inr h
mutual
theorem Rep.up0 {W W':Wd} (h:W.le0 W'):∀ {x:PV} {v:V},Rep W x v->Rep W' x v
 | .non,_,r=>r
 | .bl _,_,r=>r
 | .int _,_,r=>r
 | .str _,_,r=>r
 | .ty _,_,r=>r
 | .top k,_,r=>by
  show _=V.ref (W'.T.C k);rw [h.k];exact r
 | .exn k,_,⟨a,dd,e,q,z⟩=>⟨a,dd,e,by rw [h.k]; exact h.f _ _ q,z.up h⟩
 | .dct _,_,⟨a,o,e,q⟩=>⟨a,o,e,h.f _ _ q⟩
 | .dod _ _,_,⟨a,o,kv,vv,e,q,r1,r2⟩=>⟨a,o,kv,vv,e,h.f _ _ q,Rep.up0 h r1,Rep.up0 h r2⟩
 | .scr _,_,⟨a,e,q,z⟩=>⟨a,e,by rw [h.k]; exact (show xo W.F W'.F from h.f).seq q,z⟩
 | .ref _,_,⟨a,e,q⟩=>⟨a,e,h.a _ _ q⟩
 | .tup _,_,⟨a,vs,e,q,r⟩=>⟨a,vs,e,by rw [h.k]; exact vi h.f q,jl.up0 h r⟩
 | .lst _,_,⟨a,vs,e,q,r⟩=>⟨a,vs,e,h.f _ _ q,jl.up0 h r⟩
theorem jl.up0 {W W':Wd} (h:W.le0 W'):∀ {xs:List PV} {vs:List V},jl W xs vs->jl W' xs vs
 | [],_,r=>r
 | _ :: _,_,⟨v,r,e,a,b⟩=>⟨v,r,e,Rep.up0 h a,jl.up0 h b⟩
end
theorem Rep.up {W W':Wd} (h:W.le W') {x:PV} {v:V} (r:Rep W x v):Rep W' x v:=r.up0 h.toLe0
theorem jl.up {W W':Wd} (h:W.le W') {x:List PV} {v:List V} (r:jl W x v):jl W' x v:=r.up0 h.toLe0
theorem jl.length {W:Wd}:∀ {xs:List PV} {vs:List V},jl W xs vs->vs.length=xs.length
 | [],_,r=>by cases r; rfl
 | _ :: _,_,⟨v,r,e,_,b⟩=>by subst e; simp [jl.length b]
theorem jl.append {W:Wd}:∀ {xs:List PV} {vs:List V} {ys:List PV} {us:List V},jl W xs vs->jl W ys us->jl W (xs ++ ys) (vs ++ us)
 | [],_,_,_,r,q=>by cases r; exact q
 | _ :: _,_,_,_,⟨v,r,e,a,b⟩,q=>by subst e; exact ⟨v,_,rfl,a,jl.append b q⟩
theorem jl.get {W:Wd}:∀ {xs:List PV} {vs:List V} {i:Nat} {x:PV},jl W xs vs->xs[i]? = some x->∃ v,vs[i]? = some v∧Rep W x v
 | [],_,_,_,_,e=>by simp at e
 | _ :: _,_,0,_,⟨v,r,e,a,_⟩,q=>by simp at q; subst q; subst e; exact ⟨v,rfl,a⟩
 | _ :: _,_,i + 1,_,⟨v,r,e,_,b⟩,q=>by
  subst e;obtain ⟨u,h1,h2⟩:=jl.get (i:=i) b (by simpa using q);exact ⟨u,by simpa using h1,h2⟩
theorem jl.drop {W:Wd}:∀ {xs:List PV} {vs:List V} (n:Nat),jl W xs vs->jl W (xs.drop n) (vs.drop n)
 | _,_,0,r=>r
 | [],_,n + 1,r=>by cases r; rfl
 | _ :: _,_,n + 1,⟨v,r,e,_,b⟩=>by subst e; exact jl.drop n b
theorem jl.take {W:Wd}:∀ {xs:List PV} {vs:List V} (n:Nat),jl W xs vs->jl W (xs.take n) (vs.take n)
 | _,_,0,r=>by simp [jl]
 | [],_,n + 1,r=>by cases r; rfl
 | _ :: _,_,n + 1,⟨v,r,e,a,b⟩=>by subst e; exact ⟨v,_,rfl,a,jl.take n b⟩
theorem jl.set {W:Wd} {x:PV} {v:V} (h:Rep W x v):∀ {xs:List PV} {vs:List V} (n:Nat),jl W xs vs->jl W (xs.set n x) (vs.set n v)
 | [],_,n,r=>by cases r; rfl
 | _ :: _,_,0,⟨u,r,e,a,b⟩=>by subst e; exact ⟨v,_,rfl,h,b⟩
 | _ :: _,_,n + 1,⟨u,r,e,a,b⟩=>by subst e; exact ⟨u,_,rfl,a,jl.set h n b⟩
theorem jl.rep {W:Wd} {xs:List PV} {vs:List V} (h:jl W xs vs):∀ n:Nat,jl W (List.replicate n xs).flatten (List.replicate n vs).flatten
 | 0=>rfl
 | n + 1=>by
  rw [List.replicate_succ,List.replicate_succ,List.flatten_cons,List.flatten_cons];exact jl.append h (jl.rep h n)
theorem jl.erase {W:Wd}:∀ {xs:List PV} {vs:List V} (n:Nat),jl W xs vs->jl W (xs.eraseIdx n) (vs.eraseIdx n)
 | [],_,n,r=>by cases r; rfl
 | _ :: _,_,0,⟨u,r,e,a,b⟩=>by subst e; exact b
 | _ :: _,_,n + 1,⟨u,r,e,a,b⟩=>by subst e; exact ⟨u,_,rfl,a,jl.erase n b⟩
theorem jl.ints {W:Wd}:∀ {ns:List Int} {vs:List V},jl W (ns.map PV.int) vs↔vs=ns.map V.int
 | [],_=>Iff.rfl
 | n :: ns,vs=>by
  constructor
  ·rintro ⟨v,r,e,a,b⟩;have a:v = .int n:=a;rw [e,a,jl.ints.mp b];rfl
  ·rintro rfl;exact ⟨_,_,rfl,rfl,jl.ints.mpr rfl⟩
theorem jl.bools {W:Wd}:∀ {ns:List Bool} {vs:List V},jl W (ns.map PV.bl) vs↔vs=ns.map V.bl
 | [],_=>Iff.rfl
 | n :: ns,vs=>by
  constructor
  ·rintro ⟨v,r,e,a,b⟩;have a:v = .bl n:=a;rw [e,a,jl.bools.mp b];rfl
  ·rintro rfl;exact ⟨_,_,rfl,rfl,jl.bools.mpr rfl⟩
def xI (W:Wd):List (Str × PV)->List (Str × V)->Prop
 | [],vs=>vs=[]
 | p :: xs,vs=>∃ v r,vs=(p.1,v) :: r∧Rep W p.2 v∧xI W xs r
theorem xI.up0 {W W':Wd} (h:W.le0 W'):∀ {xs:List (Str × PV)} {vs:List (Str × V)},xI W xs vs->xI W' xs vs
 | [],_,r=>r
 | _ :: _,_,⟨v,r,e,a,b⟩=>⟨v,r,e,a.up0 h,xI.up0 h b⟩
theorem xI.get {W:Wd} {f:Str}:∀ {xs:List (Str × PV)} {vs:List (Str × V)},xI W xs vs->∀ {x:PV},xs.lookup f=some x->∃ v,vs.lookup f=some v∧Rep W x v
 | [],_,_,_,e=>by simp at e
 | p :: xs,_,⟨v,r,e,a,b⟩,x,q=>by
  subst e;rw [List.lookup_cons] at q ⊢
  by_cases h:(f == p.1)=true
  ·rw [h] at q ⊢;cases q;exact ⟨v,rfl,a⟩
  ·rw [Bool.not_eq_true] at h;rw [h] at q ⊢;exact xI.get b q
theorem xI.none {W:Wd} {f:Str}:∀ {xs:List (Str × PV)} {vs:List (Str × V)},xI W xs vs->xs.lookup f=none->vs.lookup f=none
 | [],_,e,_=>by cases e; rfl
 | p :: xs,_,⟨v,r,e,a,b⟩,q=>by
  subst e;rw [List.lookup_cons] at q ⊢
  by_cases h:(f == p.1)=true
  ·rw [h] at q;cases q
  ·rw [Bool.not_eq_true] at h;rw [h] at q ⊢;exact xI.none b q
theorem xI.length {W:Wd}:∀ {xs:List (Str × PV)} {vs:List (Str × V)},xI W xs vs->vs.length=xs.length
 | [],_,e=>by cases e; rfl
 | _ :: _,_,⟨_,_,e,_,b⟩=>by subst e; simp [xI.length b]
def jdv (f:Str) (v:PV):List (Str × PV)->List (Str × PV)
 | []=>[(f,v)]
 | p :: r=>if f == p.1 then (p.1,v) :: r else p :: jdv f v r
def yt {α κ:Type} (W:Wd) (f:α->κ):List (α × PV)->List (κ × V)->Prop
 | [],vs=>vs=[]
 | p :: r,vs=>∃ v rs,vs=(f p.1,v) :: rs∧Rep W p.2 v∧yt W f r rs
theorem yt.up0 {α κ:Type} {W W':Wd} {f:α->κ} (h:W.le0 W'):∀ {l:List (α × PV)} {vs:List (κ × V)},yt W f l vs->yt W' f l vs
 | [],_,e=>e
 | _ :: _,_,⟨v,rs,e,r,t⟩=>⟨v,rs,e,r.up0 h,yt.up0 h t⟩
def JG (k:List Int):List Key:=k.map Sum.inl
def keyI (k:Int):Key:=Sum.inl k
def xH (W:Wd):List (NK × PV)->List (NK × Addr × Value)->Prop
 | [],xs=>xs=[]
 | p :: r,xs=>∃ b u rs v,xs=(p.1,b,u) :: rs∧NKey W.T.K W.F p.1 b∧Rep W p.2 v∧jv v u∧xH W r rs
theorem xH.up0 {W W':Wd} (h:W.le0 W'):∀ {l:List (NK × PV)} {xs:List (NK × Addr × Value)},xH W l xs->xH W' l xs
 | [],_,e=>e
 | _ :: _,_,⟨b,u,rs,v,e,⟨c,k1,k2⟩,r,ru,t⟩=>⟨b,u,rs,v,e,⟨c,h.f _ _ k1,by rw [h.k]; exact vi h.f k2⟩,r.up0 h,ru,xH.up0 h t⟩
def Yg (W:Wd):Cell->HO->Prop
 | .lst xs,o=>∃ vs,o = .lst vs∧jl W xs vs
 | .dct l,o=>o = .dT (jgx l)
 | .ins k fs,o=>∃ dx vs,o = .ins (W.T.C k) dx vs∧xI W fs vs
 | .dtv l,o=>∃ vs,o = .dT vs∧yt W JG l vs
 | .dkv l,o=>∃ vs,o = .dK vs∧yt W keyI l vs
 | .dsv l,o=>∃ vs,o = .dT vs∧yt W id l vs
 | .xd fs,o=>∃ vs,o = .xd vs∧xI W fs vs
 | .dnv j l,o=>(l=[]∧o = .dT [])∨∃ d xs,W.α j=some d∧o=ndO W.T.w d xs∧xH W l xs
theorem Yg.up0 {W W':Wd} (h:W.le0 W'):∀ {c:Cell} {o:HO},Yg W c o->Yg W' c o
 | .lst _,_,⟨vs,e,r⟩=>⟨vs,e,r.up0 h⟩
 | .dct _,_,r=>r
 | .ins _ _,_,⟨dx,vs,e,r⟩=>⟨dx,vs,by rw [h.k]; exact e,r.up0 h⟩
 | .dtv _,_,⟨vs,e,r⟩=>⟨vs,e,r.up0 h⟩
 | .dkv _,_,⟨vs,e,r⟩=>⟨vs,e,r.up0 h⟩
 | .dsv _,_,⟨vs,e,r⟩=>⟨vs,e,r.up0 h⟩
 | .xd _,_,⟨vs,e,r⟩=>⟨vs,e,r.up0 h⟩
 | .dnv _ _,_,.inl r=>.inl r
 | .dnv _ _,_,.inr ⟨d,xs,e1,e2,r⟩=>.inr ⟨d,xs,h.a _ _ e1,by rw [h.k]; exact e2,r.up0 h⟩
theorem Yg.up {W W':Wd} (h:W.le W') {c:Cell} {o:HO} (r:Yg W c o):Yg W' c o:=r.up0 h.toLe0
structure Held (W:Wd) (M:Sto) (H:Hp):Prop where
 f:∀ a o,W.F a=some o->H a=some o
 m:∀ i c,M.g i=some c->∃ a o,W.α i=some a∧W.F a=none∧H a=some o∧Yg W c o
 inj:∀ i j a c c',M.g i=some c->M.g j=some c'->W.α i=some a->W.α j=some a->i=j
 top:∀ i,M.n<=i->W.α i=none
 gd:∀ a o,W.G a=some o->H a=some o∧W.F a=none∧∀ i c,M.g i=some c->W.α i≠some a
 gl:∀ a o,W.G a=some o->∀ vs,o≠.tup vs
theorem Held.same {W:Wd} {M:Sto} {H H':Hp} (h:Held W M H) (s:xo H H'):Held W M H' :=
 ⟨fun a o e=>s a o (h.f a o e),fun i c e=>by
  obtain ⟨a,o,h1,h2,h3,h4⟩:=h.m i c e
  exact ⟨a,o,h1,h2,s a o h3,h4⟩,h.inj,h.top,fun a o e=>⟨s a o (h.gd a o e).1,(h.gd a o e).2⟩,h.gl⟩
def Wd.frz (W:Wd) (l:Addr) (o:HO):Wd:=⟨W.T,L2.upd W.F l o,W.α,W.G⟩
theorem Held.Fnone {W:Wd} {M:Sto} {H:Hp} {l:Addr} (h:Held W M H) (e:H l=none):W.F l=none:=by
 cases q:W.F l with
 | none=>rfl
 | some o =>
  rw [h.f l o q] at e;cases e
theorem Wd.le_frz {W:Wd} {l:Addr} {o:HO} (e:W.F l=none):W.le (W.frz l o) :=
 ⟨⟨rfl,fun a u q=>by
  show L2.upd W.F l o a=some u;rw [ji (fun z:a=l=>by rw [z,e] at q; cases q)]
  exact q,fun _ _ q=>q⟩,rfl⟩
theorem Held.frz {W:Wd} {M:Sto} {H:Hp} {l:Addr} {o:HO} (h:Held W M H) (e:H l=none):W.le (W.frz l o)∧Held (W.frz l o) M (L2.upd H l o)∧(W.frz l o).F l=some o:=by
 have le:=Wd.le_frz (o:=o) (h.Fnone e);refine ⟨le,⟨fun a u q=>?_,fun i c q=>?_,h.inj,h.top,fun a u q=>?_,h.gl⟩,jo⟩
 rotate_left 2
 ·obtain ⟨h1,h2,h3⟩:=h.gd a u q;have z:a≠l:=jB h1 e;refine ⟨by rw [ji z]; exact h1,?_,h3⟩;show L2.upd W.F l o a=none;rw [ji z];exact h2
 ·have q:L2.upd W.F l o a=some u:=q
  by_cases z:a=l
  ·subst z;rw [jo] at q ⊢;exact q
  ·rw [ji z] at q ⊢;exact h.f a u q
 ·obtain ⟨a,u,h1,h2,h3,h4⟩:=h.m i c q;have z:a≠l:=jB h3 e;refine ⟨a,u,h1,?_,by rw [ji z]; exact h3,h4.up le⟩;show L2.upd W.F l o a=none;rw [ji z];exact h2
def Wd.put (W:Wd) (n:Nat) (l:Addr):Wd:=⟨W.T,W.F,fun i=>if i=n then some l else W.α i,W.G⟩
theorem Held.le_put {W:Wd} {M:Sto} {H:Hp} {l:Addr} (h:Held W M H):W.le (W.put M.n l) :=
 ⟨⟨rfl,fun _ _ q=>q,fun i a q=>by
  show (if i=M.n then some l else W.α i)=some a;rw [if_neg (fun z=>by rw [z,h.top _ (Nat.le_refl _)] at q; cases q)]
  exact q⟩,rfl⟩
theorem Held.putW {W:Wd} {M:Sto} {H:Hp} {l:Addr} {o:HO} {c:Cell} (h:Held W M H) (e:H l=none) (r:Yg (W.put M.n l) c o):W.le (W.put M.n l)∧Held (W.put M.n l) (M.new c) (L2.upd H l o)∧(W.put M.n l).α M.n=some l:=by
 have le:=h.le_put (l:=l);have fl:=h.Fnone e;refine ⟨le,⟨fun a u q=>?_,fun i c' q=>?_,fun i j a c1 c2 q1 q2 e1 e2=>?_,fun i hi=>?_,fun a u q=>?_,h.gl⟩,if_pos rfl⟩
 rotate_left 4
 ·obtain ⟨h1,h2,h3⟩:=h.gd a u q;have z:a≠l:=jB h1 e;refine ⟨by rw [ji z]; exact h1,h2,fun i c' qi=>?_⟩;show (if i=M.n then some l else W.α i)≠some a
  by_cases hi:i=M.n
  ·rw [if_pos hi];exact fun w=>z (Option.some.inj w).symm
  ·rw [if_neg hi];rw [Sto.new_ne hi] at qi;exact h3 i c' qi
 ·have q:W.F a=some u:=q;rw [ji (fun z:a=l=>by rw [z,fl] at q; cases q)];exact h.f a u q
 ·by_cases z:i=M.n
  ·subst z;rw [Sto.new_same] at q;cases q;exact ⟨l,o,if_pos rfl,fl,jo,r⟩
  ·rw [Sto.new_ne z] at q;obtain ⟨a,u,h1,h2,h3,h4⟩:=h.m i c' q;exact ⟨a,u,le.a _ _ h1,h2,by rw [ji (jB h3 e)]; exact h3,h4.up le⟩
 ·have e1:(if i=M.n then some l else W.α i)=some a:=e1;have e2:(if j=M.n then some l else W.α j)=some a:=e2
  by_cases z1:i=M.n
  ·by_cases z2:j=M.n
   ·rw [z1,z2]
   ·rw [if_pos z1] at e1;rw [if_neg z2] at e2;rw [Sto.new_ne z2] at q2;obtain ⟨b,u,g1,_,g3,_⟩:=h.m j c2 q2;rw [e2] at g1;cases g1;cases e1;rw [e] at g3;cases g3
  ·rw [if_neg z1] at e1;rw [Sto.new_ne z1] at q1
   by_cases z2:j=M.n
   ·rw [if_pos z2] at e2;obtain ⟨b,u,g1,_,g3,_⟩:=h.m i c1 q1;rw [e1] at g1;cases g1;cases e2;rw [e] at g3;cases g3
   ·rw [if_neg z2] at e2;rw [Sto.new_ne z2] at q2;exact h.inj i j a c1 c2 q1 q2 e1 e2
 ·show (if i=M.n then some l else W.α i)=none;have hi:M.n + 1<=i:=hi;rw [if_neg (by omega)];exact h.top i (by omega)
theorem Held.put {W:Wd} {M:Sto} {H:Hp} {l:Addr} {o:HO} {c:Cell} (h:Held W M H) (e:H l=none) (r:Yg W c o):W.le (W.put M.n l)∧Held (W.put M.n l) (M.new c) (L2.upd H l o)∧(W.put M.n l).α M.n=some l:=h.putW e (r.up h.le_put)
theorem Held.upd {W:Wd} {M:Sto} {H:Hp} {i:Nat} {a:Addr} {c c':Cell} {o:HO} (h:Held W M H) (e:M.g i=some c) (ea:W.α i=some a) (r:Yg W c' o):Held W (M.set i c') (L2.upd H a o):=by
 obtain ⟨b,u,g1,g2,g3,g4⟩:=h.m i c e;rw [ea] at g1;cases g1
 have live:∀ {j c1},(M.set i c').g j=some c1->∃ c2,M.g j=some c2:=fun {j c1} q=>by
  by_cases z:j=i
  ·exact ⟨c,by rw [z]; exact e⟩
  ·rw [Sto.set_ne z] at q;exact ⟨_,q⟩
 refine ⟨fun b u q=>?_,fun j c1 q=>?_,fun j k b c1 c2 q1 q2 e1 e2=>?_,h.top,fun b u q=>?_,h.gl⟩
 rotate_left 3
 ·obtain ⟨h1,h2,h3⟩:=h.gd b u q;refine ⟨?_,h2,fun j c1 qj=>?_⟩
  ·rw [ji (fun z:b=a=>h3 i c e (z ▸ ea))];exact h1
  ·obtain ⟨d1,w1⟩:=live qj;exact h3 j d1 w1
 ·rw [ji (fun z:b=a=>by rw [z,g2] at q; cases q)];exact h.f b u q
 ·by_cases z:j=i
  ·subst z;rw [Sto.set_same] at q;cases q;exact ⟨a,o,ea,g2,jo,r⟩
  ·rw [Sto.set_ne z] at q;obtain ⟨b,u',h1,h2,h3,h4⟩:=h.m j c1 q;refine ⟨b,u',h1,h2,?_,h4⟩;rw [ji (fun zz:b=a=>z (h.inj j i a c1 c q e (zz ▸ h1) ea))];exact h3
 ·obtain ⟨d1,w1⟩:=live q1;obtain ⟨d2,w2⟩:=live q2;exact h.inj j k b d1 d2 w1 w2 e1 e2
theorem Held.drop {W:Wd} {M:Sto} {H:Hp} (h:Held W M H) (i:Nat):Held W (M.drop i) H:=by
 have sub:∀ {j c},(M.drop i).g j=some c->M.g j=some c:=fun {j c} q=>by
  have q:(if j=i then none else M.g j)=some c:=q
  by_cases z:j=i
  ·rw [if_pos z] at q; cases q
  ·rwa [if_neg z] at q
 exact ⟨h.f,fun j c q=>h.m j c (sub q),fun j k b c1 c2 q1 q2=>h.inj j k b c1 c2 (sub q1) (sub q2),h.top,fun a o q=>⟨(h.gd a o q).1,(h.gd a o q).2.1,fun j c qj=>(h.gd a o q).2.2 j c (sub qj)⟩,h.gl⟩
def Wd.gd (W:Wd) (l:Addr) (o:HO):Wd:=⟨W.T,W.F,W.α,L2.upd W.G l o⟩
theorem Wd.le0_gd {W:Wd} {l:Addr} {o:HO}:W.le0 (W.gd l o):=⟨rfl,fun _ _ e=>e,fun _ _ e=>e⟩
theorem Held.guardO {W:Wd} {M:Sto} {H:Hp} {l:Addr} {o':HO} (no:∀ vs,o'≠.tup vs) (h:Held W M H) (e:H l=none):Held (W.gd l o') M (L2.upd H l o'):=by
 have nl:∀ {b u},H b=some u->b≠l:=fun q=>jB q e;refine ⟨fun b u q=>by rw [ji (nl (h.f b u q))]; exact h.f b u q,fun i c q=>?_,h.inj,h.top,fun b u q=>?_,fun b u q=>?_⟩
 rotate_left 2
 ·have q:L2.upd W.G l o' b=some u:=q
  by_cases z:b=l
  ·subst z;rw [jo] at q;cases q;exact no
  ·rw [ji z] at q;exact h.gl b u q
 ·obtain ⟨a,u,h1,h2,h3,h4⟩:=h.m i c q;exact ⟨a,u,h1,h2,by rw [ji (nl h3)]; exact h3,h4.up0 Wd.le0_gd⟩
 ·have q:L2.upd W.G l o' b=some u:=q
  by_cases z:b=l
  ·subst z;rw [jo] at q;cases q;refine ⟨jo,h.Fnone e,fun i c qi w=>?_⟩;obtain ⟨a,u,h1,h2,h3,h4⟩:=h.m i c qi;have w:W.α i=some b:=w;rw [w] at h1;cases h1;rw [e] at h3;cases h3
  ·rw [ji z] at q;obtain ⟨h1,h2,h3⟩:=h.gd b u q;exact ⟨by rw [ji z]; exact h1,h2,h3⟩
theorem Held.guard {W:Wd} {M:Sto} {H:Hp} {l:Addr} {ws:List V} (h:Held W M H) (e:H l=none):Held (W.gd l (.lst ws)) M (L2.upd H l (.lst ws)):=Held.guardO (fun _ z=>nomatch z) h e
theorem Held.reguardO {W:Wd} {M:Sto} {H:Hp} {l:Addr} {o o':HO} (no:∀ vs,o'≠.tup vs) (h:Held W M H) (e:W.G l=some o):Held (W.gd l o') M (L2.upd H l o'):=by
 obtain ⟨g1,g2,g3⟩:=h.gd l o e;refine ⟨fun b w q=>?_,fun i c q=>?_,h.inj,h.top,fun b w q=>?_,fun b w q=>?_⟩
 rotate_left 3
 ·have q:L2.upd W.G l o' b=some w:=q
  by_cases z:b=l
  ·subst z;rw [jo] at q;cases q;exact no
  ·rw [ji z] at q;exact h.gl b w q
 ·rw [ji (fun z:b=l=>by
   have q:W.F b=some w:=q;rw [z,g2] at q
   cases q)]
  exact h.f b w q
 ·obtain ⟨a,w,h1,h2,h3,h4⟩:=h.m i c q;exact ⟨a,w,h1,h2,by rw [ji (fun z:a=l=>g3 i c q (z ▸ h1))]; exact h3,h4.up0 Wd.le0_gd⟩
 ·have q:L2.upd W.G l o' b=some w:=q
  by_cases z:b=l
  ·subst z;rw [jo] at q;cases q;exact ⟨jo,g2,g3⟩
  ·rw [ji z] at q;obtain ⟨h1,h2,h3⟩:=h.gd b w q;exact ⟨by rw [ji z]; exact h1,h2,h3⟩
theorem Held.reguard {W:Wd} {M:Sto} {H:Hp} {l:Addr} {o:HO} {ws:List V} (h:Held W M H) (e:W.G l=some o):Held (W.gd l (.lst ws)) M (L2.upd H l (.lst ws)):=Held.reguardO (fun _ z=>nomatch z) h e
def Wd.out (W:Wd) (G0:Hp) (l:Addr) (o:HO):Wd:=⟨W.T,L2.upd W.F l o,W.α,G0⟩
theorem Held.unguard {W:Wd} {M:Sto} {H G0:Hp} {l:Addr} {o:HO} (h:Held W M H) (e:W.G l=some o) (hg:∀ b u,G0 b=some u->W.G b=some u∧b≠l):W.le0 (W.out G0 l o)∧Held (W.out G0 l o) M H:=by
 obtain ⟨g1,g2,g3⟩:=h.gd l o e
 have le:W.le0 (W.out G0 l o):=⟨rfl,(Wd.le_frz (o:=o) g2).f,fun _ _ e=>e⟩
 refine ⟨le,fun b u q=>?_,fun i c q=>?_,h.inj,h.top,fun b u q=>?_,fun b u q=>h.gl b u (hg b u q).1⟩
 ·have q:L2.upd W.F l o b=some u:=q
  by_cases z:b=l
  ·subst z;rw [jo] at q;cases q;exact g1
  ·rw [ji z] at q;exact h.f b u q
 ·obtain ⟨a,w,h1,h2,h3,h4⟩:=h.m i c q;refine ⟨a,w,h1,?_,h3,h4.up0 le⟩;show L2.upd W.F l o a=none;rw [ji (fun z:a=l=>g3 i c q (z ▸ h1))];exact h2
 ·obtain ⟨q1,z⟩:=hg b u q;obtain ⟨h1,h2,h3⟩:=h.gd b u q1;refine ⟨h1,?_,h3⟩;show L2.upd W.F l o b=none;rw [ji z];exact h2
def Wd.outN (W:Wd) (G0:Hp) (n:Nat) (l:Addr):Wd:=⟨W.T,W.F,fun i=>if i=n then some l else W.α i,G0⟩
end L3
namespace L3
open PySem L2
inductive Res (α:Type) where
 | ok (a:α) (M:Sto) | exc (k:Nat) (M:Sto) | bad
def Res.bind {α β:Type} (r:Res α) (k:α->Sto->Res β):Res β:=match r with
 | .ok a M=>k a M
 | .exc c M=>.exc c M
 | .bad=>.bad
@[simp] theorem Res.bind_ok {α β : Type} {a : α} {M : Sto} {k : α -> Sto -> Res β} : (Res.ok a M).bind k = k a M := rfl
@[simp] theorem Res.bind_exc {α β : Type} {c : Nat} {M : Sto} {k : α -> Sto -> Res β} : (Res.exc c M).bind k = .exc c M := rfl
@[simp] theorem Res.bind_bad {α β : Type} {k : α -> Sto -> Res β} : (Res.bad).bind k = .bad := rfl
def ofO {α:Type} (o:Option α) (M:Sto):Res α:=match o with
 | some z=>.ok z M
 | none=>.bad
@[simp] theorem jdS {α : Type} {z : α} {M : Sto} : ofO (some z) M = .ok z M := rfl
@[simp] theorem ofO_none {α : Type} {M : Sto} : ofO (none : Option α) M = .bad := rfl
abbrev En:=List (Option PV)
abbrev DE:=En->Sto->Res PV
abbrev DT:=En->Sto->Res Bool
abbrev DA:=En->Sto->Res (List PV)
def jJ (W:Wd) (ρ:En) (σ:St):Prop:=σ.length=ρ.length∧∀ (i:Nat) (x:PV),ρ[i]? = some (some x)->∃ v,σ[i]? = some (some v)∧Rep W x v
theorem jJ.up {W W':Wd} {ρ:En} {σ:St} (h:jJ W ρ σ) (le:W.le W'):jJ W' ρ σ:=⟨h.1,fun i x e=>by
 obtain ⟨v,e1,r⟩:=h.2 i x e
 exact ⟨v,e1,r.up le⟩⟩
theorem jJ.set {W:Wd} {ρ:En} {σ:St} {i:Nat} {x:PV} {v:V} (h:jJ W ρ σ) (r:Rep W x v):jJ W (ρ.set i (some x)) (σ.set i (some v)):=by
 refine ⟨by simpa using h.1,fun j y e=>?_⟩
 by_cases hj:i=j
 ·subst hj
  have hi:i < ρ.length:=by
   have:=(List.getElem?_eq_some_iff.mp e).1
   simpa using this
  rw [List.getElem?_set_self hi] at e;cases e;exact ⟨v,List.getElem?_set_self (by rw [h.1]; exact hi),r⟩
 ·rw [List.getElem?_set_ne hj] at e;obtain ⟨u,e1,q⟩:=h.2 j y e;exact ⟨u,by rw [List.getElem?_set_ne hj]; exact e1,q⟩
theorem jJ.unset {W:Wd} {ρ:En} {σ:St} {i:Nat} {o:Option V} (h:jJ W ρ σ):jJ W (ρ.set i none) (σ.set i o):=by
 refine ⟨by simpa using h.1,fun j y e=>?_⟩
 by_cases hj:i=j
 ·subst hj
  have hi:i < ρ.length:=by
   have:=(List.getElem?_eq_some_iff.mp e).1
   simpa using this
  rw [List.getElem?_set_self hi] at e;cases e
 ·rw [List.getElem?_set_ne hj] at e;obtain ⟨u,e1,q⟩:=h.2 j y e;exact ⟨u,by rw [List.getElem?_set_ne hj]; exact e1,q⟩
def jz {α β:Type} (W:Wd) (R:Wd->α->β->Prop) (r:Res α) (Q:β->Hp->Prop) (E:XK):Prop:=match r with
 | .ok a M=>∀ W' H' b,W.le W'->Held W' M H'->R W' a b->Q b H'
 | .exc k M=>∀ W' H' dd,W.le W'->Held W' M H'->Yh W' k dd->E (.ref (W.T.C (k % 64))) dd H'
 | .bad=>False
theorem jz.up {α β:Type} {W W':Wd} {R:Wd->α->β->Prop} {r:Res α} {Q:β->Hp->Prop} {E:XK} (h:jz W R r Q E) (le:W.le W'):jz W' R r Q E:=by
 cases r with
 | ok a M=>exact fun W2 H2 b l2 h2 r2=>h W2 H2 b (le.trans l2) h2 r2
 | exc k M =>
  intro W2 H2 dd l2 h2 z
  have:=h W2 H2 dd (le.trans l2) h2 z
  rw [le.k];exact this
 | bad=>exact h.elim
theorem jz.bind {α β γ δ:Type} {W:Wd} {R1:Wd->α->β->Prop} {R2:Wd->γ->δ->Prop} {r:Res α} {k:α->Sto->Res γ} {Q:δ->Hp->Prop} {Q1:β->Hp->Prop} {E:XK} (h:jz W R2 (r.bind k) Q E)
  (f:∀ W' M a b H1,W.le W'->Held W' M H1->R1 W' a b->jz W' R2 (k a M) Q E->Q1 b H1):jz W R1 r Q1 E:=by
 cases r with
 | ok a M=>exact fun W2 H2 b l2 h2 r2=>f W2 M a b H2 l2 h2 r2 (jz.up (r:=k a M) h l2)
 | exc k M=>exact h
 | bad=>exact h.elim
def lft {α β:Type} (T:Tb) (R:Wd->α->β->Prop) (ES:St->XK) (d:En->Sto->Res α):St->Hp->(β->Hp->Prop)->Prop:=fun σ H Q =>
 ∃ W ρ M,W.T=T∧Held W M H∧jJ W ρ σ∧jz W R (d ρ M) Q (ES σ)
theorem jC {α β:Type} {T:Tb} {R:Wd->α->β->Prop} {ES:St->XK} {d:En->Sto->Res α} {σ:St} {H:Hp} {Q:β->Hp->Prop} {P:Prop} (h:lft T R ES d σ H Q) (k:∀ W ρ M,W.T=T->Held W M H->jJ W ρ σ->jz W R (d ρ M) Q (ES σ)->P):P:=by
 obtain ⟨W,ρ,M,a,b,c,e⟩:=h;exact k W ρ M a b c e
abbrev RB:Wd->Bool->Bool->Prop:=fun _ a b=>b=a
structure QE (X:Cx) (T:Tb) (ES:St->XK) (e:Expr) (d:DE):Prop where
 h:PE X e (lft T Rep ES d)
structure QT (X:Cx) (T:Tb) (ES:St->XK) (e:Expr) (d:DT):Prop where
 h:PT X e (lft T RB ES d)
structure QW (X:Cx) (T:Tb) (ES:St->XK) (e:Expr) (d:DT):Prop where
 h:PW X e (lft T RB ES d)
structure QA (X:Cx) (T:Tb) (ES:St->XK) (es:List Expr) (d:DA):Prop where
 h:PA X es (lft T jl ES d)
structure QK (X:Cx) (T:Tb) (ES:St->XK) (ks:List Keyword) (d:DA):Prop where
 h:PK X ks (lft T jl ES d)
section
variable {X:Cx} {T:Tb} {ES:St->XK} {a b c e:Expr} {es:List Expr} {pos:Pos} {da db dc d:DE} {ds:DA}
theorem jO {t t':TE} (h:PE X e t) (f:∀ σ H Q,t' σ H Q->t σ H Q):PE X e t':=fun pins s σ H Q I q=>h pins s σ H Q I (f σ H Q q)
theorem XO {t t':TT} (h:PT X e t) (f:∀ σ H Q,t' σ H Q->t σ H Q):PT X e t':=fun pins s σ H Q I q=>h pins s σ H Q I (f σ H Q q)
theorem pw_imp {t t':TT} (h:PW X e t) (f:∀ σ H Q,t' σ H Q->t σ H Q):PW X e t':=fun w pins s σ H Q I q=>h w pins s σ H Q I (f σ H Q q)
theorem jdR {t t':TA} (h:PA X es t) (f:∀ σ H Q,t' σ H Q->t σ H Q):PA X es t':=fun pos pins s σ H Q I q=>h pos pins s σ H Q I (f σ H Q q)
theorem jdB {ks:List Keyword} {t t':TA} (h:PK X ks t) (f:∀ σ H Q,t' σ H Q->t σ H Q):PK X ks t':=fun pos pins s σ H Q I q=>h pos pins s σ H Q I (f σ H Q q)
def jf (i:Nat):DE:=fun ρ M=>match ρ[i]? with
 | some (some x)=>.ok x M
 | _=>.bad
theorem qv (i:Nat) {x:Str} (hN:X.N[i]? = some x:=by rfl) (hv:Vis X.env.scope x:=by first | exact Or.inl rfl | exact Or.inr (Or.inl rfl) | exact Or.inr (Or.inr rfl)) (hd:(x == ("__debug__":Str))=false:=by decide)
  (hcd:(x == ("__classdict__":Str))=false:=by decide):QE X T ES (.Name x pos) (jf i):=⟨jO (Jy hN hv hd hcd) fun σ H Q hQQ=>by
 obtain ⟨W,ρ,M,_,hh,hs,p⟩:=hQQ;unfold jf at p;split at p
 ·rename_i y e;obtain ⟨v,e1,r⟩:=hs.2 i y e;exact ⟨v,e1,p W H v (.refl W) hh r⟩
 ·exact p.elim⟩
def dC (x:PV):DE:=fun _ M=>.ok x M
theorem qc {x:PV} {v:V} (h:PE X e (tC v)) (r:∀ W:Wd,W.T=T->Rep W x v):QE X T ES e (dC x):=⟨jO h fun σ H Q hQQ=>jC hQQ fun W ρ M k hh hs p=>p W H v (.refl W) hh (r W k)⟩
theorem jg {i j}:QE X T ES (.Constant (.int i) j pos) (dC (.int i)):=qc pe_int fun _ _=>rfl
theorem xB {b j}:QE X T ES (.Constant (.bool b) j pos) (dC (.bl b)):=qc pe_bl fun _ _=>rfl
theorem xk {j}:QE X T ES (.Constant .none j pos) (dC .non):=qc pe_non fun _ _=>rfl
theorem jT {x j}:QE X T ES (.Constant (.str x) j pos) (dC (.str x)):=qc UC fun _ _=>rfl
theorem XN {x:Str} {i:Int} {t:Tok} (hg:Gl X x) (hm:X.mg x=some (.int i t)) (hd:(x == ("__debug__":Str))=false:=by decide):QE X T ES (.Name x pos) (dC (.int i)):=qc (XS (v:=.int i) hg hm ⟨_,rfl⟩ hd) fun _ _=>rfl
theorem yX {x:Str} {k:Nat} (hg:Gl X x) (hm:X.mg x=some (.ref (T.C k))) (hd:(x == ("__debug__":Str))=false:=by decide):QE X T ES (.Name x pos) (dC (.top k)):=qc (XS (v:=.ref (T.C k)) hg hm rfl hd) fun W h=>by
 show V.ref (T.C k)=V.ref (W.T.C k);rw [h]
theorem Uz {x:Str} {n:String} (hg:Gl X x) (hm:X.mg x=none) (hv:bootBuiltins x=some (.type n)) (hn:x≠"__name__":=by decide) (hd:(x == ("__debug__":Str))=false:=by decide):QE X T ES (.Name x pos) (dC (.ty n)) :=
 qc (jgb (v:=.ty n) hg hm hv rfl hn hd) fun _ _=>rfl
def je:DA:=fun _ M=>.ok [] M
def jb (d:DE) (ds:DA):DA:=fun ρ M=>(d ρ M).bind fun x M1=>(ds ρ M1).bind fun xs M2=>.ok (x :: xs) M2
theorem jc:QA X T ES [] je:=⟨jdR UE fun σ H Q hQQ=>jC hQQ fun W ρ M k hh hs p=>p W H [] (.refl W) hh rfl⟩
theorem Xk {σ:St} {H:Hp} {Q:List V->Hp->Prop} (h:lft T jl ES (jb d ds) σ H Q):jcN (lft T Rep ES d) (lft T jl ES ds) σ H Q:=by
 obtain ⟨W,ρ,M,k,hh,hs,p⟩:=h;refine ⟨W,ρ,M,k,hh,hs,jz.bind p fun W1 M1 x v H1 l1 h1 r1 p1=>⟨W1,ρ,M1,l1.k.trans k,h1,hs.up l1,jz.bind p1 fun W2 M2 xs vs H2 l2 h2 r2 p2=>?_⟩⟩;exact p2 W2 H2 (v :: vs) (.refl W2) h2 ⟨v,vs,rfl,r1.up l2,r2⟩
theorem ja (ha:QE X T ES e d) (hr:QA X T ES es ds) (hs:starEach (e :: es) X.env=(false,eval e X.env) :: starEach es X.env:=by rfl):QA X T ES (e :: es) (jb d ds):=⟨jdR (uZ ha.h hr.h hs) fun _ _ _=>Xk⟩
theorem jk:QK X T ES [] je:=⟨jdB pk_nil fun σ H Q hQQ=>jC hQQ fun W ρ M k hh hs p=>p W H [] (.refl W) hh rfl⟩
theorem jaC {kws:List Keyword} {nm:Option Str} {kpos:Pos} (ha:QE X T ES e d) (hr:QK X T ES kws ds):QK X T ES (⟨nm,e,kpos⟩ :: kws) (jb d ds):=⟨jdB (jfQ ha.h hr.h) fun _ _ _=>Xk⟩
abbrev G2:=Sto->PV->PV->Option PV
def rP (T:Tb) (g:G2):R2:=fun v u H Q=>∃ W M x y z,W.T=T∧Held W M H∧Rep W x v∧Rep W y u∧g M x y=some z∧∀ W' H' v',W.le W'->Held W' M H'->Rep W' z v'->Q v' H'
abbrev OpP (X:Cx) (T:Tb) (f:Value->Value->Sem Value) (g:G2):Prop:=OpR X f (rP T g)
theorem yJ {f:Value->Value->Sem Value} {r r':R2} (h:OpR X f r) (k:∀ x y H Q,r' x y H Q->r x y H Q):OpR X f r':=fun pins s σ H x y v u Q I rx ry q=>h pins s σ H x y v u Q I rx ry (k _ _ _ _ q)
def orG (g g':G2):G2:=fun M x y=>match g M x y with
 | some z=>some z
 | none=>g' M x y
theorem XT {f:Value->Value->Sem Value} {g g':G2} (h:OpP X T f g) (h':OpP X T f g'):OpP X T f (orG g g'):=yJ (OpR.or h h') fun v u H Q hQQ=>by
 obtain ⟨W,M,x,y,z,k,hh,rx,ry,e,q⟩:=hQQ;unfold orG at e;split at e
 ·rename_i z' e';cases e;exact .inl ⟨W,M,x,y,z,k,hh,rx,ry,e',q⟩
 ·exact .inr ⟨W,M,x,y,z,k,hh,rx,ry,e,q⟩
def dOp (g:G2) (da db:DE):DE:=fun ρ M=>(da ρ M).bind fun x M1=>(db ρ M1).bind fun y M2=>ofO (g M2 x y) M2
theorem Ja {g:G2} {σ:St} {H:Hp} {Q:VK} (h:lft T Rep ES (dOp g da db) σ H Q):tOp (rP T g) (lft T Rep ES da) (lft T Rep ES db) σ H Q:=by
 obtain ⟨W,ρ,M,k,hh,hs,p⟩:=h;refine ⟨W,ρ,M,k,hh,hs,jz.bind p fun W1 M1 x v H1 l1 h1 r1 p1=>⟨W1,ρ,M1,l1.k.trans k,h1,hs.up l1,jz.bind p1 fun W2 M2 y u H2 l2 h2 r2 p2=>?_⟩⟩
 cases e:g M2 x y with
 | none=>rw [e] at p2; exact p2.elim
 | some z =>
  rw [e] at p2;exact ⟨W2,M2,x,y,z,l2.k.trans (l1.k.trans k),h2,r1.up l2,r2,e,p2⟩
theorem yn {op:Operator} {g:G2} (ho:OpP X T (binaryOp op) g) (ha:QE X T ES a da) (hb:QE X T ES b db):QE X T ES (.BinOp a op b pos) (dOp g da db):=⟨jO (pe_op ho ha.h hb.h) fun _ _ _=>Ja⟩
theorem vk {op:CmpOp} {g:G2} (ho:OpP X T (compareOp op) g) (ha:QE X T ES a da) (hb:QE X T ES b db) (hm:behindInMarks op b=false):QE X T ES (.Compare a [op] [b] pos) (dOp g da db):=⟨jO (jga ho ha.h hb.h hm) fun _ _ _=>Ja⟩
def asB:PV->Option Bool
 | .bl b=>some b
 | _=>none
def jL (d:DE):DT:=fun ρ M=>(d ρ M).bind fun x M1=>ofO (asB x) M1
theorem jN {op:CmpOp} {g:G2} (ho:OpP X T (compareOp op) g) (ha:QE X T ES a da) (hb:QE X T ES b db) (hm:behindInMarks op b=false):QT X T ES (.Compare a [op] [b] pos) (jL (dOp g da db)) :=
 ⟨XO (jfK ho ha.h hb.h hm) fun σ H Q hQQ=>jC hQQ fun W ρ M k hh hs p=>Ja ⟨W,ρ,M,k,hh,hs,jz.bind (R1:=Rep) p fun W1 M1 x v H1 l1 h1 r1 p1=>by
  cases x with
  | bl b=>exact ⟨b,r1,p1 W1 H1 b (.refl W1) h1 rfl⟩
  | _=>exact p1.elim⟩⟩
def jaa (g g':G2) (da db dc:DE):DE:=fun ρ M=>(da ρ M).bind fun x M1=>(db ρ M1).bind fun y M2=>match g M2 x y with
 | some (.bl true)=>(dc ρ M2).bind fun z M3=>ofO (g' M3 y z) M3
 | some (.bl false)=>.ok (.bl false) M2
 | _=>.bad
theorem jag {g g':G2} {σ:St} {H:Hp} {Q:VK} (h:lft T Rep ES (jaa g g' da db dc) σ H Q):jcQ (rP T g) (rP T g') (lft T Rep ES da) (lft T Rep ES db) (lft T Rep ES dc) σ H Q:=by
 obtain ⟨W,ρ,M,k,hh,hs,p⟩:=h;refine ⟨W,ρ,M,k,hh,hs,jz.bind p fun W1 M1 x v H1 l1 h1 r1 p1=>⟨W1,ρ,M1,l1.k.trans k,h1,hs.up l1,jz.bind p1 fun W2 M2 y u H2 l2 h2 r2 p2=>?_⟩⟩;have k2:=l2.k.trans (l1.k.trans k);split at p2
 ·rename_i e;refine ⟨W2,M2,x,y,_,k2,h2,r1.up l2,r2,e,fun W3 H3 v' l3 h3 r3=>⟨true,r3,?_⟩⟩;rw [if_pos rfl];refine ⟨W3,ρ,M2,l3.k.trans k2,h3,(hs.up (l1.trans l2)).up l3,jz.bind (jz.up p2 l3) fun W4 M4 z w H4 l4 h4 r4 p4=>?_⟩
  cases e':g' M4 y z with
  | none=>rw [e'] at p4; exact p4.elim
  | some z' =>
   rw [e'] at p4;exact ⟨W4,M4,y,z,z',l4.k.trans (l3.k.trans k2),h4,(r2.up l3).up l4,r4,e',p4⟩
 ·rename_i e;refine ⟨W2,M2,x,y,_,k2,h2,r1.up l2,r2,e,fun W3 H3 v' l3 h3 r3=>⟨false,r3,?_⟩⟩;rw [if_neg (by simp)];exact p2 W3 H3 (.bl false) l3 h3 rfl
 ·exact p2.elim
theorem jdu {op op':CmpOp} {g g':G2} (ho:OpP X T (compareOp op) g) (ho':OpP X T (compareOp op') g') (ha:QE X T ES a da) (hb:QE X T ES b db) (hc:QE X T ES c dc)
  (hm:lastMarks [op,op'] [b,c]=false:=by with_unfolding_all rfl):QE X T ES (.Compare a [op,op'] [b,c] pos) (jaa g g' da db dc):=⟨jO (jdQ ho ho' ha.h hb.h hc.h hm) fun _ _ _=>jag⟩
def yE (M:Sto):PV->Option (List PV)
 | .lst xs=>some xs
 | .ref i=>(match M.g i with
  | some (.lst xs)=>some xs
  | _=>none)
 | _=>none
theorem yD {W:Wd} {M:Sto} {H:Hp} {x:PV} {v:V} {xs:List PV} (hh:Held W M H) (r:Rep W x v) (e:yE M x=some xs):∃ a vs,v = .ref a∧H a=some (.lst vs)∧jl W xs vs:=by
 cases x with
 | lst ys =>
  cases e;obtain ⟨a,vs,e1,q,rr⟩:=r;exact ⟨a,vs,e1,hh.f _ _ q,rr⟩
 | ref i =>
  obtain ⟨a,e1,q⟩:=r
  have e:(match M.g i with
   | some (.lst xs)=>some xs
   | _=>none)=some xs:=e
  split at e
  ·rename_i ys e2;cases e;obtain ⟨b,o,h1,h2,h3,vs,rfl,rr⟩:=hh.m i _ e2;rw [q] at h1;cases h1;exact ⟨a,vs,e1,h3,rr⟩
  ·cases e
 | _=>cases e
theorem xg {W:Wd} {M:Sto} {H:Hp} {v:V} {xs:List PV} (hh:Held W M H) (r:Rep W (.tup xs) v):∃ a vs,v = .ref a∧SqT W.T.K H a vs∧jl W xs vs:=by
 obtain ⟨a,vs,e1,q,rr⟩:=r;exact ⟨a,vs,e1,vi hh.f q,rr⟩
def uD (M:Sto):PV->Option (List PV)
 | .tup xs=>some xs
 | x=>yE M x
theorem Vn {W:Wd} {M:Sto} {H:Hp} {x:PV} {v:V} {xs:List PV} (hh:Held W M H) (r:Rep W x v) (e:uD M x=some xs):∃ a vs,v = .ref a∧(SqL W.T.K H a vs∨SqT W.T.K H a vs)∧jl W xs vs:=by
 cases x with
 | tup ys =>
  cases e;obtain ⟨a,vs,h1,h2,h3⟩:=xg hh r;exact ⟨a,vs,h1,.inr h2,h3⟩
 | _ =>
  obtain ⟨a,vs,h1,h2,h3⟩:=yD hh r e;exact ⟨a,vs,h1,.inl (SqL.of h2),h3⟩
theorem xZ {W:Wd} {M:Sto} {H:Hp} {xs:List PV} {vs:List V} {p:Addr} (hh:Held W M H) (r:jl W xs vs) (e:H p=none):∃ W',W.le W'∧Held W' M (L2.upd H p (.lst vs))∧Rep W' (.lst xs) (.ref p):=by
 obtain ⟨le,h1,h2⟩:=hh.frz (o:=.lst vs) e;exact ⟨_,le,h1,p,vs,rfl,h2,r.up le⟩
theorem vO {W:Wd} {M:Sto} {H:Hp} {xs:List PV} {vs:List V} {p:Addr} (hh:Held W M H) (r:jl W xs vs) (e:H p=none):∃ W',W.le W'∧Held W' M (L2.upd H p (.tup vs))∧Rep W' (.tup xs) (.ref p):=by
 obtain ⟨le,h1,h2⟩:=hh.frz (o:=.tup vs) e;exact ⟨_,le,h1,p,vs,rfl,SqT.of h2,r.up le⟩
theorem VH {W:Wd} {M:Sto} {H:Hp} {xs:List PV} {vs:List V} {p:Addr} (hh:Held W M H) (r:jl W xs vs) (e:H p=none):∃ W',W.le W'∧Held W' (M.new (.lst xs)) (L2.upd H p (.lst vs))∧Rep W' (.ref M.n) (.ref p):=by
 obtain ⟨le,h1,h2⟩:=hh.put (l:=p) (o:=.lst vs) (c:=.lst xs) e ⟨vs,rfl,r⟩;exact ⟨_,le,h1,p,rfl,h2⟩
def yN (ds:DA):DE:=fun ρ M=>(ds ρ M).bind fun xs M1=>if xs.length<=sizeLine then .ok (.tup xs) M1 else .bad
def yh (ds:DA):DE:=fun ρ M=>(ds ρ M).bind fun xs M1=>if xs.length<=sizeLine then .ok (.lst xs) M1 else .bad
def jbe (ds:DA):DE:=fun ρ M=>(ds ρ M).bind fun xs M1=>if xs.length<=sizeLine then .ok (.ref M1.n) (M1.new (.lst xs)) else .bad
theorem jV {x1} (h:QA X T ES es ds):QE X T ES (.Tuple es x1 pos) (yN ds):=⟨jO (XR h.h) fun σ H Q hQQ=>jC hQQ fun W ρ M k hh hs p=>⟨W,ρ,M,k,hh,hs,jz.bind p fun W1 M1 xs vs H1 l1 h1 r1 p1=>by
 split at p1
 ·rename_i hz;refine ⟨by rw [r1.length]; exact hz,fun q e=>?_⟩;obtain ⟨W2,l2,h2,r2⟩:=vO h1 r1 e;exact p1 W2 _ _ l2 h2 r2
 ·exact p1.elim⟩⟩
theorem jE (h:QA X T ES es ds):QE X T ES (.List es pos) (yh ds):=⟨jO (jdK h.h) fun σ H Q hQQ=>jC hQQ fun W ρ M k hh hs p=>⟨W,ρ,M,k,hh,hs,jz.bind p fun W1 M1 xs vs H1 l1 h1 r1 p1=>by
 split at p1
 ·rename_i hz;refine ⟨by rw [r1.length]; exact hz,fun q e=>?_⟩;obtain ⟨W2,l2,h2,r2⟩:=xZ h1 r1 e;exact p1 W2 _ _ l2 h2 r2
 ·exact p1.elim⟩⟩
theorem jaE (h:QA X T ES es ds):QE X T ES (.List es pos) (jbe ds):=⟨jO (jdK h.h) fun σ H Q hQQ=>jC hQQ fun W ρ M k hh hs p=>⟨W,ρ,M,k,hh,hs,jz.bind p fun W1 M1 xs vs H1 l1 h1 r1 p1=>by
 split at p1
 ·rename_i hz;refine ⟨by rw [r1.length]; exact hz,fun q e=>?_⟩;obtain ⟨W2,l2,h2,r2⟩:=VH h1 r1 e;exact p1 W2 _ _ l2 h2 r2
 ·exact p1.elim⟩⟩
def dAnd (da db:DT):DT:=fun ρ M=>(da ρ M).bind fun c M1=>if c=true then db ρ M1 else .ok false M1
def dOr (da db:DT):DT:=fun ρ M=>(da ρ M).bind fun c M1=>if c=true then .ok true M1 else db ρ M1
def vt (da:DT):DT:=fun ρ M=>(da ρ M).bind fun c M1=>.ok (!c) M1
variable {ta tb:DT} {ju:List Expr}
theorem QW.qt (h:QW X T ES e ta):QT X T ES e ta:=⟨h.h.pt⟩
theorem xy (ha:QT X T ES a ta):QW X T ES (.BoolOp .Or [a] pos) ta:=⟨pw_or1 ha.h⟩
theorem xO (ha:QT X T ES a ta) (hb:QW X T ES (.BoolOp .Or (b :: ju) pos) tb):QW X T ES (.BoolOp .Or (a :: b :: ju) pos) (dOr ta tb):=⟨pw_imp (pw_or ha.h hb.h) fun σ H Q hQQ=>jC hQQ fun W ρ M k hh hs p =>
 ⟨W,ρ,M,k,hh,hs,jz.bind p fun W1 M1 x v H1 l1 h1 r1 p1=>by
  subst r1
  cases v with
  | false=>rw [if_neg (by simp)]; exact ⟨W1,ρ,M1,l1.k.trans k,h1,hs.up l1,p1⟩
  | true=>rw [if_pos rfl]; exact p1 W1 H1 _ (.refl W1) h1 rfl⟩⟩
theorem yG (ha:QT X T ES a ta):QT X T ES (.UnaryOp .Not a pos) (vt ta):=⟨XO (pt_not ha.h) fun σ H Q hQQ=>jC hQQ fun W ρ M k hh hs p =>
 ⟨W,ρ,M,k,hh,hs,jz.bind p fun W1 M1 x v H1 l1 h1 r1 p1=>by
  subst r1
  exact p1 W1 H1 _ (.refl W1) h1 rfl⟩⟩
def uI (da db:DE):DE:=fun ρ M=>(da ρ M).bind fun x M1=>match x with
 | .bl true=>db ρ M1
 | .bl false=>.ok (.bl false) M1
 | _=>.bad
def jhh (da:DE):DE:=fun ρ M=>(da ρ M).bind fun x M1=>match x with
 | .bl b=>.ok (.bl (!b)) M1
 | _=>.bad
theorem ui {op} (h:QE X T ES a da):QE X T ES (.BoolOp op [a] pos) da:=⟨pe_one h.h⟩
theorem vm (ha:QE X T ES a da) (hb:QE X T ES (.BoolOp .And (b :: ju) pos) db):QE X T ES (.BoolOp .And (a :: b :: ju) pos) (uI da db):=⟨jO (pe_and ha.h hb.h) fun σ H Q hQQ=>jC hQQ fun W ρ M k hh hs p =>
 ⟨W,ρ,M,k,hh,hs,jz.bind p fun W1 M1 x v H1 l1 h1 r1 p1=>by
  split at p1
  ·exact ⟨true,r1,by rw [if_pos rfl]; exact ⟨W1,ρ,M1,l1.k.trans k,h1,hs.up l1,p1⟩⟩
  ·exact ⟨false,r1,by rw [if_neg (by simp)]; exact p1 W1 H1 _ (.refl W1) h1 rfl⟩
  ·exact p1.elim⟩⟩
theorem qe_not (ha:QE X T ES a da):QE X T ES (.UnaryOp .Not a pos) (jhh da):=⟨jO (pe_not ha.h) fun σ H Q hQQ=>jC hQQ fun W ρ M k hh hs p =>
 ⟨W,ρ,M,k,hh,hs,jz.bind p fun W1 M1 x v H1 l1 h1 r1 p1=>by
  split at p1
  ·exact ⟨_,r1,p1 W1 H1 _ (.refl W1) h1 rfl⟩
  ·exact p1.elim⟩⟩
def dIf (t:DT) (da db:DE):DE:=fun ρ M=>(t ρ M).bind fun c M1=>if c=true then da ρ M1 else db ρ M1
theorem jaF (hc:QT X T ES c ta) (ha:QE X T ES a da) (hb:QE X T ES b db):QE X T ES (.IfExp c a b pos) (dIf ta da db):=⟨jO (jdL hc.h ha.h hb.h) fun σ H Q hQQ=>jC hQQ fun W ρ M k hh hs p =>
 ⟨W,ρ,M,k,hh,hs,jz.bind p fun W1 M1 x v H1 l1 h1 r1 p1=>by
  subst r1
  cases v with
  | true=>rw [if_pos rfl] at p1 ⊢; exact ⟨W1,ρ,M1,l1.k.trans k,h1,hs.up l1,p1⟩
  | false=>rw [if_neg (by simp)] at p1 ⊢; exact ⟨W1,ρ,M1,l1.k.trans k,h1,hs.up l1,p1⟩⟩⟩
def jfn (M:Sto):PV->Option Bool
 | .non=>some false
 | .bl b=>some b
 | .int i=>some (i != 0)
 | .tup xs=>some (!xs.isEmpty)
 | x=>(yE M x).map fun xs=>!xs.isEmpty
theorem jl.empty {W:Wd}:∀ {xs:List PV} {vs:List V},jl W xs vs->vs.isEmpty=xs.isEmpty
 | [],_,r=>by cases r; rfl
 | _ :: _,_,⟨_,_,e,_⟩=>by subst e; rfl
def vq (d:DE):DT:=fun ρ M=>(d ρ M).bind fun x M1=>ofO (jfn M1 x) M1
theorem yF (hT:T.K=X.K) (h:QE X T ES e d) (he:∀ whole,isTrue e X.env whole=(do let v <- whole; standAt e.pos; holding [v] (truthy v)):=by intro _; rfl):QT X T ES e (vq d) :=
 ⟨XO (pt_tru h.h he) fun σ H Q hQQ=>jC hQQ fun W ρ M k hh hs p=>⟨W,ρ,M,k,hh,hs,jz.bind p fun W1 M1 x v H1 l1 h1 r1 p1=>by
  cases e1:jfn M1 x with
  | none=>rw [e1] at p1; exact p1.elim
  | some b =>
   rw [e1] at p1;refine ⟨b,?_,p1 W1 H1 b (.refl W1) h1 rfl⟩
   have sq:∀ y,yE M1 y=yE M1 x->(yE M1 x).map (fun xs=>!xs.isEmpty)=some b->TruV X.K v H1 b:=fun y _ q=>by
    cases e2:yE M1 x with
    | none=>rw [e2] at q; cases q
    | some xs =>
     rw [e2] at q;cases q;obtain ⟨a,vs,rfl,e3,rr⟩:=yD h1 r1 e2;exact .inl ⟨vs,SqL.of e3,by rw [rr.empty]⟩
   cases x with
   | non=>cases e1; cases r1; rfl
   | bl c=>cases e1; cases r1; rfl
   | int i=>cases e1; cases r1; rfl
   | tup xs =>
    cases e1;obtain ⟨a,vs,rfl,e3,rr⟩:=xg h1 r1;rw [l1.k.trans k,hT] at e3;exact .inr (.inl ⟨vs,e3,by rw [rr.empty]⟩)
   | lst xs=>exact sq _ rfl e1
   | ref i=>exact sq _ rfl e1
   | _=>cases e1⟩⟩
end
end L3
namespace L3
open PySem L2
mutual
def plain:PV->Bool
 | .non=>true
 | .bl _=>true
 | .int _=>true
 | .str _=>true
 | .tup xs=>yl xs
 | .lst xs=>yl xs
 | _=>false
def yl:List PV->Bool
 | []=>true
 | x :: xs=>plain x && yl xs
end
mutual
def dep:PV->Nat
 | .tup xs=>xS xs + 1
 | .lst xs=>xS xs + 1
 | _=>0
def xS:List PV->Nat
 | []=>0
 | x :: xs=>max (dep x) (xS xs)
end
mutual
def eqB:PV->PV->Bool
 | .non,.non=>true
 | .bl a,.bl b=>a == b
 | .bl a,.int b=>(if a then 1 else 0) == b
 | .int a,.bl b=>a == (if b then 1 else 0)
 | .int a,.int b=>a == b
 | .str a,.str b=>a == b
 | .tup xs,.tup ys=>Yo xs ys
 | .lst xs,.lst ys=>Yo xs ys
 | _,_=>false
def Yo:List PV->List PV->Bool
 | [],[]=>true
 | x :: xs,y :: ys=>eqB x y && Yo xs ys
 | _,_=>false
end
theorem xD:∀ {xs:List PV} {j:Nat} {x:PV},yl xs=true->xs[j]? = some x->plain x=true
 | [],_,_,_,e=>by simp at e
 | y :: ys,0,x,h,e=>by
  simp at e;subst e;unfold yl at h;exact (Bool.and_eq_true_iff.mp h).1
 | y :: ys,j + 1,x,h,e=>by
  unfold yl at h;exact xD (j:=j) (Bool.and_eq_true_iff.mp h).2 (by simpa using e)
theorem jbd:∀ {xs:List PV} {j:Nat} {x:PV},xs[j]? = some x->dep x<=xS xs
 | [],_,_,e=>by simp at e
 | y :: ys,0,x,e=>by
  simp at e;subst e;show dep y<=max (dep y) (xS ys);omega
 | y :: ys,j + 1,x,e=>by
  have:=jbd (j:=j) (xs:=ys) (x:=x) (by simpa using e)
  show dep x<=max (dep y) (xS ys);omega
theorem xR:∀ {xs ys:List PV},xs.length≠ys.length->Yo xs ys=false
 | [],[],h=>absurd rfl h
 | [],_ :: _,_=>rfl
 | _ :: _,[],_=>rfl
 | x :: xs,y :: ys,h=>by
  have:Yo xs ys=false:=xR fun e=>h (by simp [e])
  show (eqB x y && Yo xs ys)=false;rw [this,Bool.and_false]
theorem yZ:∀ {xs ys:List PV},xs.length=ys.length->((List.range xs.length).all fun i=>eqB (xs.getD i .non) (ys.getD i .non))=Yo xs ys
 | [],[],_=>rfl
 | x :: xs,y :: ys,h=>by
  rw [List.length_cons,List.range_succ_eq_map,List.all_cons,List.all_map];have ih:=yZ (xs:=xs) (ys:=ys) (by simpa using h)
  show (eqB x y && _)=(eqB x y && Yo xs ys)
  rw [<- ih];rfl
 | [],_ :: _,h=>by simp at h
 | _ :: _,[],h=>by simp at h
mutual
theorem vT:∀ {x:PV},plain x=true->eqB x x=true
 | .non,_=>rfl
 | .bl b,_=>by show (b == b)=true; simp
 | .int b,_=>by show (b == b)=true; simp
 | .str b,_=>by show (b == b)=true; simp
 | .tup xs,h=>uz (xs:=xs) h
 | .lst xs,h=>uz (xs:=xs) h
theorem uz:∀ {xs:List PV},yl xs=true->Yo xs xs=true
 | [],_=>rfl
 | x :: xs,h=>by
  unfold yl at h;have h:=Bool.and_eq_true_iff.mp h;show (eqB x x && Yo xs xs)=true;rw [vT h.1,uz h.2];rfl
end
def AtH (W:Wd) (s:Shared):PV->Value->Prop
 | .non,u=>u = .none
 | .bl b,u=>u = .bool b
 | .int i,u=>∃ t,u = .int i t
 | .str x,u=>∃ t,u = .str x t
 | .lst xs,u=>∃ a its vs,u = .ref a∧s.heap.IsList a (List.toArray its)∧jq vs its∧jl W xs vs
 | .tup xs,u=>∃ a its vs,u = .ref a∧s.heap.IsTuple a (List.toArray its)∧jq vs its∧jl W xs vs
 | _,_=>False
theorem vF:∀ {xs:List V} {us:List Value} {j:Nat} {u:Value},jq xs us->us[j]? = some u->∃ v,xs[j]? = some v∧jv v u
 | _,_,_,_,.nil,e=>by simp at e
 | _,_,0,_,.cons r _,e=>by simp at e; subst e; exact ⟨_,rfl,r⟩
 | _,_,j + 1,u,.cons _ t,e=>by
  obtain ⟨v,h1,h2⟩:=vF (j:=j) t (by simpa using e);exact ⟨v,by simpa using h1,h2⟩
theorem vJ:∀ {W:Wd} {xs:List PV} {vs:List V} {i:Nat} {v:V},jl W xs vs->vs[i]? = some v->∃ x,xs[i]? = some x∧Rep W x v
 | _,[],_,_,_,r,e=>by cases r; simp at e
 | _,_ :: _,_,0,_,⟨v,r,e,a,_⟩,q=>by subst e; simp at q; subst q; exact ⟨_,rfl,a⟩
 | _,_ :: _,_,i + 1,_,⟨v,r,e,_,b⟩,q=>by
  subst e;obtain ⟨x,h1,h2⟩:=vJ (i:=i) b (by simpa using q);exact ⟨x,by simpa using h1,h2⟩
section
variable {X:Cx} {pins:List (Addr × Obj)} {σ:St} {H:Hp} {s:Shared} {W:Wd} {M:Sto}
theorem atH (I:Inv X pins σ H s) (hh:Held W M H) (hT:W.T.K=X.K) {x:PV} {v:V} {u:Value} (p:plain x=true) (r:Rep W x v) (q:jv v u):AtH W s x u:=by
 cases x with
 | non=>cases r; exact q
 | bl b=>cases r; exact q
 | int b=>cases r; exact q
 | str b=>cases r; exact q
 | lst xs =>
  obtain ⟨a,vs,rfl,e,rr⟩:=r;cases q;obtain ⟨its,rv,pl,_⟩:=I.list (SqL.of (hh.f _ _ e));exact ⟨a,its,vs,rfl,pl.isList,rv,rr⟩
 | tup xs =>
  obtain ⟨a,vs,rfl,e,rr⟩:=r;cases q;obtain ⟨its,rv,pl,_⟩:=I.tuple (show SqT X.K H a vs from hT ▸ vi hh.f e);exact ⟨a,its,vs,rfl,pl,rv,rr⟩
 | _=>cases p
theorem jgW {a:Addr} {its its':Array Value} (h:s.heap.IsList a its) (h':s.heap.IsTuple a its'):False:=SeqAt.ne_of_list_tuple h h' rfl
def back:V->Option PV
 | .non=>some .non
 | .bl b=>some (.bl b)
 | .int i=>some (.int i)
 | .str x=>some (.str x)
 | _=>none
theorem Ju (I:Inv X pins σ H s) (hh:Held W M H) (hT:W.T.K=X.K) {x:PV} {v:V} (p:plain x=true) (r:Rep W x v):back v=some x∨∃ a vs,v = .ref a∧((∃ xs,x = .lst xs∧W.F a=some (.lst vs)∧jl W xs vs∧∃ its,s.heap.IsList a its)∨(∃ xs,x = .tup xs∧SqT X.K H a vs∧jl W xs vs∧∃ its,s.heap.IsTuple a its)):=by
 cases x with
 | non=>cases r; exact .inl rfl
 | bl _=>cases r; exact .inl rfl
 | int _=>cases r; exact .inl rfl
 | str _=>cases r; exact .inl rfl
 | lst xs =>
  obtain ⟨a,vs,rfl,e,rr⟩:=r;obtain ⟨its,_,pl,_⟩:=I.list (SqL.of (hh.f _ _ e));exact .inr ⟨a,vs,rfl,.inl ⟨xs,rfl,e,rr,_,pl.isList⟩⟩
 | tup xs =>
  obtain ⟨a,vs,rfl,e,rr⟩:=r
  have e:=(show SqT X.K H a vs from hT ▸ vi hh.f e)
  obtain ⟨its,_,pl,_⟩:=I.tuple e;exact .inr ⟨a,vs,rfl,.inr ⟨xs,rfl,e,rr,_,pl⟩⟩
 | _=>cases p
theorem Vv {n:Nat} (ih:∀ (x y:PV) (v:V),dep x < n->plain x=true->plain y=true->Rep W x v->Rep W y v->x=y) (xs:List PV):∀ (ys:List PV) (vs:List V),xS xs < n->yl xs=true->yl ys=true->jl W xs vs->jl W ys vs->xs=ys:=by
 induction xs with
 | nil =>
  intro ys vs _ _ _ r q;cases r
  cases ys with
  | nil=>rfl
  | cons y ys=>obtain ⟨_,_,e,_⟩:=q; cases e
 | cons x xs hi =>
  intro ys vs hn p p' r q;obtain ⟨v,r,rfl,a,b⟩:=r
  cases ys with
  | nil=>cases q
  | cons y ys =>
   obtain ⟨v',r',e',a',b'⟩:=q;cases e';unfold yl at p p';have p:=Bool.and_eq_true_iff.mp p;have p':=Bool.and_eq_true_iff.mp p';have hn:max (dep x) (xS xs) < n:=hn;rw [ih x y v (by omega) p.1 p'.1 a a',hi ys r (by omega) p.2 p'.2 b b']
theorem jan (I:Inv X pins σ H s) (hh:Held W M H) (hT:W.T.K=X.K) {x y:PV} {v:V} (px:plain x=true) (py:plain y=true) (rx:Rep W x v) (ry:Rep W y v):x=y:=by
 suffices h:∀ (n:Nat) (x y:PV) (v:V),dep x < n->plain x=true->plain y=true->Rep W x v->Rep W y v->x=y from h _ x y v (Nat.lt_succ_self _) px py rx ry
 intro n
 induction n with
 | zero=>intro x y v h; exact absurd h (Nat.not_lt_zero _)
 | succ n ih =>
 intro x y v hn px py rx ry
 rcases Ju I hh hT px rx with h | ⟨a,vs,rfl,h⟩
 ·rcases Ju I hh hT py ry with h' | ⟨a,vs,rfl,_⟩
  ·rw [h] at h'; exact Option.some.inj h'
  ·cases h
 rcases Ju I hh hT py ry with h' | ⟨a',us,e,h'⟩
 ·cases h'
 cases e
 rcases h with ⟨xs,rfl,f,rr,its,hl⟩ | ⟨xs,rfl,f,rr,its,hl⟩ <;> rcases h' with ⟨ys,rfl,f',rr',its',hl'⟩ | ⟨ys,rfl,f',rr',its',hl'⟩
 ·rw [f] at f';cases f';rw [Vv ih xs ys vs (show xS xs < n from Nat.lt_of_succ_lt_succ hn) px py rr rr']
 ·exact (jgW hl hl').elim
 ·exact (jgW hl' hl).elim
 ·have:=I.tuple_inj f f'
  subst this;rw [Vv ih xs ys vs (show xS xs < n from Nat.lt_of_succ_lt_succ hn) px py rr rr']
theorem uA {I0:Prop} {xs ys:List PV} {vs us:List V} {its its':List Value} {A:Around} (ih:∀ (x y:PV) {v u:V} {v' u':Value},dep x<=xS xs->plain x=true->plain y=true->Rep W x v->Rep W y u->jv v v'->jv u u'->SeqAt.EqAt A s v' u' (eqB x y))
  (px:yl xs=true) (py:yl ys=true) (rx:jl W xs vs) (ry:jl W ys us) (qx:jq vs its) (qy:jq us its') {j:Nat} (h1:j < its.length) (h2:j < its'.length):SeqAt.EqAt A s its[j] its'[j] (eqB (xs.getD j .non) (ys.getD j .non)):=by
 obtain ⟨v,e1,r1⟩:=vF qx (List.getElem?_eq_getElem h1);obtain ⟨u,e2,r2⟩:=vF qy (List.getElem?_eq_getElem h2);obtain ⟨x,e3,r3⟩:=vJ rx e1;obtain ⟨y,e4,r4⟩:=vJ ry e2;rw [List.getD_eq_getElem?_getD,List.getD_eq_getElem?_getD,e3,e4];exact ih x y (jbd e3) (xD px e3) (xD py e4) r3 r4 r1 r2
theorem JS (I:Inv X pins σ H s) (hh:Held W M H) (hT:W.T.K=X.K):∀ (n:Nat) (x y:PV) {v u:V} {v' u':Value} (A:Around),dep x < n->A.units + dep x < cLine->plain x=true->plain y=true->Rep W x v->Rep W y u->jv v v'->jv u u'->SeqAt.EqAt A s v' u' (eqB x y):=by
 intro n
 induction n with
 | zero=>intro x y v u v' u' A h; exact absurd h (Nat.not_lt_zero _)
 | succ n ih =>
 intro x y v u v' u' A hn hu px py rx ry qx qy
 cases x with
 | lst xs =>
  have hn:xS xs + 1 < n + 1:=hn;have hu:A.units + (xS xs + 1) < cLine:=hu
  obtain ⟨a,its,vs,rfl,il,rv,rr⟩:=(show AtH W s (.lst xs) v' from atH I hh hT px rx qx)
  have hy:=atH I hh hT py ry qy
  cases y with
  | lst ys =>
   obtain ⟨b,its',us,rfl,il',rv',rr'⟩:=hy
   by_cases hab:a=b
   ·subst hab;have e:v=u:=qx.inj qy;subst e;have e:=jan I hh hT px py rx ry;cases e;rw [vT px];exact SeqAt.EqAt.same _
   ·refine SeqAt.EqAt.of_refs hab ?_;have l1:=rv.length;have l2:=rv'.length;have l3:=rr.length;have l4:=rr'.length
    by_cases hl:xs.length=ys.length
    ·have:=SeqAt.RcAt.lists (A:=A) (e:=fun j=>eqB (xs.getD j .non) (ys.getD j .non)) il il' (by simp; omega) (by omega) fun j h1 h2=>uA (I0:=True) (fun x y v u v' u' hd=>ih x y A.in1 (by omega) (show A.units + 1 + dep x < cLine by omega)) px py rr rr' rv rv' (j:=j) (by simpa using h1) (by simpa using h2)
     rw [List.size_toArray,show its.length=xs.length by omega,yZ hl] at this;exact this
    ·have:=SeqAt.RcAt.lists_lengths (A:=A) il il' (by simp; omega) (by omega)
     rw [show eqB (.lst xs) (.lst ys)=false from xR hl];exact this
  | tup ys =>
   obtain ⟨b,its',us,rfl,il',rv',rr'⟩:=hy;exact SeqAt.EqAt.list_tuple il il' (by omega)
  | non=>cases hy; exact SeqAt.EqAt.list_none il (by omega)
  | bl b=>cases hy; exact SeqAt.EqAt.list_bool b il (by omega)
  | int b=>obtain ⟨t,rfl⟩:=hy; exact SeqAt.EqAt.list_int b t il (by omega)
  | str b=>obtain ⟨t,rfl⟩:=hy; exact SeqAt.EqAt.list_str b t il (by omega)
  | _=>cases py
 | tup xs =>
  have hn:xS xs + 1 < n + 1:=hn;have hu:A.units + (xS xs + 1) < cLine:=hu
  obtain ⟨a,its,vs,rfl,il,rv,rr⟩:=(show AtH W s (.tup xs) v' from atH I hh hT px rx qx)
  have hy:=atH I hh hT py ry qy
  cases y with
  | tup ys =>
   obtain ⟨b,its',us,rfl,il',rv',rr'⟩:=hy
   by_cases hab:a=b
   ·subst hab;have e:v=u:=qx.inj qy;subst e;have e:=jan I hh hT px py rx ry;cases e;rw [vT px];exact SeqAt.EqAt.same _
   ·refine SeqAt.EqAt.of_refs hab ?_;have l1:=rv.length;have l2:=rv'.length;have l3:=rr.length;have l4:=rr'.length
    have:=SeqAt.RcAt.tuples (A:=A) (e:=fun j=>eqB (xs.getD j .non) (ys.getD j .non)) il il' (by omega) fun j h1 h2=>uA (I0:=True) (fun x y v u v' u' hd=>ih x y A.in1 (by omega) (show A.units + 1 + dep x < cLine by omega)) px py rr rr' rv rv' (j:=j) (by simpa using h1) (by simpa using h2)
    by_cases hl:xs.length=ys.length
    ·rw [List.size_toArray,List.size_toArray,show its.length=xs.length by omega,show its'.length=xs.length by omega,Nat.min_self,yZ hl,beq_self_eq_true,Bool.and_true] at this;exact this
    ·rw [List.size_toArray,List.size_toArray,show its.length=xs.length by omega,show its'.length=ys.length by omega,show (xs.length == ys.length)=false by simpa using hl,Bool.and_false] at this;rw [show eqB (.tup xs) (.tup ys)=false from xR hl];exact this
  | lst ys =>
   obtain ⟨b,its',us,rfl,il',rv',rr'⟩:=hy;exact SeqAt.EqAt.tuple_list il il' (by omega)
  | non=>cases hy; exact SeqAt.EqAt.tuple_none il (by omega)
  | bl b=>cases hy; exact SeqAt.EqAt.tuple_bool b il (by omega)
  | int b=>obtain ⟨t,rfl⟩:=hy; exact SeqAt.EqAt.tuple_int b t il (by omega)
  | str b=>obtain ⟨t,rfl⟩:=hy; exact SeqAt.EqAt.tuple_str b t il (by omega)
  | _=>cases py
 | non =>
  cases rx;cases qx;have hu:A.units < cLine:=hu;have hy:=atH I hh hT py ry qy
  cases y with
  | non=>cases hy; exact SeqAt.EqAt.same _
  | bl b=>cases hy; exact SeqAt.EqAt.none_bool b
  | int b=>obtain ⟨t,rfl⟩:=hy; exact SeqAt.EqAt.none_int b t
  | str b=>obtain ⟨t,rfl⟩:=hy; exact SeqAt.EqAt.none_str b t
  | lst ys=>obtain ⟨b,its',us,rfl,il',_⟩:=hy; exact SeqAt.EqAt.none_list il' hu
  | tup ys=>obtain ⟨b,its',us,rfl,il',_⟩:=hy; exact SeqAt.EqAt.none_tuple il' hu
  | _=>cases py
 | bl a =>
  cases rx;cases qx;have hu:A.units < cLine:=hu;have hy:=atH I hh hT py ry qy
  cases y with
  | non=>cases hy; exact SeqAt.EqAt.bool_none a
  | bl b=>cases hy; exact SeqAt.EqAt.bool_bool a b
  | int b=>obtain ⟨t,rfl⟩:=hy; exact SeqAt.EqAt.bool_int a b t
  | str b=>obtain ⟨t,rfl⟩:=hy; exact SeqAt.EqAt.bool_str a b t
  | lst ys=>obtain ⟨b,its',us,rfl,il',_⟩:=hy; exact SeqAt.EqAt.bool_list a il' hu
  | tup ys=>obtain ⟨b,its',us,rfl,il',_⟩:=hy; exact SeqAt.EqAt.bool_tuple a il' hu
  | _=>cases py
 | int a =>
  cases rx;obtain ⟨t,rfl⟩:=qx;have hu:A.units < cLine:=hu;have hy:=atH I hh hT py ry qy
  cases y with
  | non=>cases hy; exact SeqAt.EqAt.int_none a t
  | bl b=>cases hy; exact SeqAt.EqAt.int_bool a t b
  | int b=>obtain ⟨t',rfl⟩:=hy; exact SeqAt.EqAt.int_int a t b t'
  | str b=>obtain ⟨t',rfl⟩:=hy; exact SeqAt.EqAt.int_str a t b t'
  | lst ys=>obtain ⟨b,its',us,rfl,il',_⟩:=hy; exact SeqAt.EqAt.int_list a t il' hu
  | tup ys=>obtain ⟨b,its',us,rfl,il',_⟩:=hy; exact SeqAt.EqAt.int_tuple a t il' hu
  | _=>cases py
 | str a =>
  cases rx;obtain ⟨t,rfl⟩:=qx;have hu:A.units < cLine:=hu;have hy:=atH I hh hT py ry qy
  cases y with
  | non=>cases hy; exact SeqAt.EqAt.str_none a t
  | bl b=>cases hy; exact SeqAt.EqAt.str_bool a t b
  | int b=>obtain ⟨t',rfl⟩:=hy; exact SeqAt.EqAt.str_int a t b t'
  | str b=>obtain ⟨t',rfl⟩:=hy; exact SeqAt.EqAt.str_str a t b t'
  | lst ys=>obtain ⟨b,its',us,rfl,il',_⟩:=hy; exact SeqAt.EqAt.str_list a t il' hu
  | tup ys=>obtain ⟨b,its',us,rfl,il',_⟩:=hy; exact SeqAt.EqAt.str_tuple a t il' hu
  | _=>cases py
 | _=>cases px
theorem jdi (I:Inv X pins σ H s) (hh:Held W M H) (hT:W.T.K=X.K) {x y:PV} {v u:V} {v' u':Value} {A:Around} (hu:A.units + dep x < cLine) (px:plain x=true) (py:plain y=true) (rx:Rep W x v) (ry:Rep W y u) (qx:jv v v') (qy:jv u u') :
  SeqAt.RcAt A s v' u' (eqB x y)∧SeqAt.RcNeAt A s v' u' (!eqB x y):=by
 have hx:=atH I hh hT px rx qx;have hy:=atH I hh hT py ry qy
 have hu0:A.units < cLine:=by omega
 cases x with
 | non =>
  cases hx
  cases y with
  | non=>cases hy; exact ⟨SeqAt.RcAt.none_none,SeqAt.RcNeAt.none_none⟩
  | bl b=>cases hy; exact ⟨SeqAt.RcAt.none_bool b,SeqAt.RcNeAt.none_bool b⟩
  | int b=>obtain ⟨t,rfl⟩:=hy; exact ⟨SeqAt.RcAt.none_int b t,SeqAt.RcNeAt.none_int b t⟩
  | str b=>obtain ⟨t,rfl⟩:=hy; exact ⟨SeqAt.RcAt.none_str b t,SeqAt.RcNeAt.none_str b t⟩
  | lst ys=>obtain ⟨b,its',us,rfl,il',_⟩:=hy; exact ⟨SeqAt.RcAt.none_list il' hu0,SeqAt.RcNeAt.none_list il' hu0⟩
  | tup ys=>obtain ⟨b,its',us,rfl,il',_⟩:=hy; exact ⟨SeqAt.RcAt.none_tuple il' hu0,SeqAt.RcNeAt.none_tuple il' hu0⟩
  | _=>cases py
 | bl a =>
  cases hx
  cases y with
  | non=>cases hy; exact ⟨SeqAt.RcAt.bool_none a,SeqAt.RcNeAt.bool_none a⟩
  | bl b=>cases hy; exact ⟨SeqAt.RcAt.bool_bool a b,SeqAt.RcNeAt.bool_bool a b⟩
  | int b=>obtain ⟨t,rfl⟩:=hy; exact ⟨SeqAt.RcAt.bool_int a b t,SeqAt.RcNeAt.bool_int a b t⟩
  | str b=>obtain ⟨t,rfl⟩:=hy; exact ⟨SeqAt.RcAt.bool_str a b t,SeqAt.RcNeAt.bool_str a b t⟩
  | lst ys=>obtain ⟨b,its',us,rfl,il',_⟩:=hy; exact ⟨SeqAt.RcAt.bool_list a il' hu0,SeqAt.RcNeAt.bool_list a il' hu0⟩
  | tup ys=>obtain ⟨b,its',us,rfl,il',_⟩:=hy; exact ⟨SeqAt.RcAt.bool_tuple a il' hu0,SeqAt.RcNeAt.bool_tuple a il' hu0⟩
  | _=>cases py
 | int a =>
  obtain ⟨t,rfl⟩:=hx
  cases y with
  | non=>cases hy; exact ⟨SeqAt.RcAt.int_none a t,SeqAt.RcNeAt.int_none a t⟩
  | bl b=>cases hy; exact ⟨SeqAt.RcAt.int_bool a t b,SeqAt.RcNeAt.int_bool a t b⟩
  | int b=>obtain ⟨t',rfl⟩:=hy; exact ⟨SeqAt.RcAt.int_int a t b t',SeqAt.RcNeAt.int_int a t b t'⟩
  | str b=>obtain ⟨t',rfl⟩:=hy; exact ⟨SeqAt.RcAt.int_str a t b t',SeqAt.RcNeAt.int_str a t b t'⟩
  | lst ys=>obtain ⟨b,its',us,rfl,il',_⟩:=hy; exact ⟨SeqAt.RcAt.int_list a t il' hu0,SeqAt.RcNeAt.int_list a t il' hu0⟩
  | tup ys=>obtain ⟨b,its',us,rfl,il',_⟩:=hy; exact ⟨SeqAt.RcAt.int_tuple a t il' hu0,SeqAt.RcNeAt.int_tuple a t il' hu0⟩
  | _=>cases py
 | str a =>
  obtain ⟨t,rfl⟩:=hx
  cases y with
  | non=>cases hy; exact ⟨SeqAt.RcAt.str_none a t,SeqAt.RcNeAt.str_none a t⟩
  | bl b=>cases hy; exact ⟨SeqAt.RcAt.str_bool a t b,SeqAt.RcNeAt.str_bool a t b⟩
  | int b=>obtain ⟨t',rfl⟩:=hy; exact ⟨SeqAt.RcAt.str_int a t b t',SeqAt.RcNeAt.str_int a t b t'⟩
  | str b=>obtain ⟨t',rfl⟩:=hy; exact ⟨SeqAt.RcAt.str_str a t b t',SeqAt.RcNeAt.str_str a t b t'⟩
  | lst ys=>obtain ⟨b,its',us,rfl,il',_⟩:=hy; exact ⟨SeqAt.RcAt.str_list a t il' hu0,SeqAt.RcNeAt.str_list a t il' hu0⟩
  | tup ys=>obtain ⟨b,its',us,rfl,il',_⟩:=hy; exact ⟨SeqAt.RcAt.str_tuple a t il' hu0,SeqAt.RcNeAt.str_tuple a t il' hu0⟩
  | _=>cases py
 | lst xs =>
  obtain ⟨a,its,vs,rfl,il,rv,rr⟩:=hx;have hu:A.units + (xS xs + 1) < cLine:=hu
  cases y with
  | lst ys =>
   obtain ⟨b,its',us,rfl,il',rv',rr'⟩:=hy;have l1:=rv.length;have l2:=rv'.length;have l3:=rr.length;have l4:=rr'.length
   by_cases hl:xs.length=ys.length
   ·have t1:=SeqAt.RcAt.lists (A:=A) (e:=fun j=>eqB (xs.getD j .non) (ys.getD j .non)) il il' (by simp; omega) (by omega) fun j h1 h2=>uA (I0:=True) (fun x y v u v' u' hd=>JS I hh hT (dep x + 1) x y A.in1 (by omega) (show A.units + 1 + dep x < cLine by omega)) px py rr rr' rv rv' (j:=j) (by simpa using h1) (by simpa using h2);have t2:=SeqAt.RcNeAt.lists (A:=A) (e:=fun j=>eqB (xs.getD j .non) (ys.getD j .non)) il il' (by simp; omega) (by omega) fun j h1 h2=>uA (I0:=True) (fun x y v u v' u' hd=>JS I hh hT (dep x + 1) x y A.in1 (by omega) (show A.units + 1 + dep x < cLine by omega)) px py rr rr' rv rv' (j:=j) (by simpa using h1) (by simpa using h2);rw [List.size_toArray,show its.length=xs.length by omega,yZ hl] at t1 t2;exact ⟨t1,t2⟩
   ·rw [show eqB (.lst xs) (.lst ys)=false from xR hl];exact ⟨SeqAt.RcAt.lists_lengths (A:=A) il il' (by simp; omega) (by omega),SeqAt.RcNeAt.lists_lengths (A:=A) il il' (by simp; omega) (by omega)⟩
  | tup ys=>obtain ⟨b,its',us,rfl,il',rv',rr'⟩:=hy; exact ⟨SeqAt.RcAt.list_tuple il il' (by omega),SeqAt.RcNeAt.list_tuple il il' (by omega)⟩
  | non=>cases hy; exact ⟨SeqAt.RcAt.list_none il (by omega),SeqAt.RcNeAt.list_none il (by omega)⟩
  | bl b=>cases hy; exact ⟨SeqAt.RcAt.list_bool b il (by omega),SeqAt.RcNeAt.list_bool b il (by omega)⟩
  | int b=>obtain ⟨t,rfl⟩:=hy; exact ⟨SeqAt.RcAt.list_int b t il (by omega),SeqAt.RcNeAt.list_int b t il (by omega)⟩
  | str b=>obtain ⟨t,rfl⟩:=hy; exact ⟨SeqAt.RcAt.list_str b t il (by omega),SeqAt.RcNeAt.list_str b t il (by omega)⟩
  | _=>cases py
 | tup xs =>
  obtain ⟨a,its,vs,rfl,il,rv,rr⟩:=hx;have hu:A.units + (xS xs + 1) < cLine:=hu
  cases y with
  | tup ys =>
   obtain ⟨b,its',us,rfl,il',rv',rr'⟩:=hy;have l1:=rv.length;have l2:=rv'.length;have l3:=rr.length;have l4:=rr'.length;have t1:=SeqAt.RcAt.tuples (A:=A) (e:=fun j=>eqB (xs.getD j .non) (ys.getD j .non)) il il' (by omega) fun j h1 h2=>uA (I0:=True) (fun x y v u v' u' hd=>JS I hh hT (dep x + 1) x y A.in1 (by omega) (show A.units + 1 + dep x < cLine by omega)) px py rr rr' rv rv' (j:=j) (by simpa using h1) (by simpa using h2);have t2:=SeqAt.RcNeAt.tuples (A:=A) (e:=fun j=>eqB (xs.getD j .non) (ys.getD j .non)) il il' (by omega) fun j h1 h2=>uA (I0:=True) (fun x y v u v' u' hd=>JS I hh hT (dep x + 1) x y A.in1 (by omega) (show A.units + 1 + dep x < cLine by omega)) px py rr rr' rv rv' (j:=j) (by simpa using h1) (by simpa using h2)
   by_cases hl:xs.length=ys.length
   ·rw [List.size_toArray,List.size_toArray,show its.length=xs.length by omega,show its'.length=xs.length by omega,Nat.min_self,yZ hl,beq_self_eq_true,Bool.and_true] at t1 t2;exact ⟨t1,t2⟩
   ·rw [List.size_toArray,List.size_toArray,show its.length=xs.length by omega,show its'.length=ys.length by omega,show (xs.length == ys.length)=false by simpa using hl,Bool.and_false] at t1 t2;rw [show eqB (.tup xs) (.tup ys)=false from xR hl];exact ⟨t1,t2⟩
  | lst ys=>obtain ⟨b,its',us,rfl,il',rv',rr'⟩:=hy; exact ⟨SeqAt.RcAt.tuple_list il il' (by omega),SeqAt.RcNeAt.tuple_list il il' (by omega)⟩
  | non=>cases hy; exact ⟨SeqAt.RcAt.tuple_none il (by omega),SeqAt.RcNeAt.tuple_none il (by omega)⟩
  | bl b=>cases hy; exact ⟨SeqAt.RcAt.tuple_bool b il (by omega),SeqAt.RcNeAt.tuple_bool b il (by omega)⟩
  | int b=>obtain ⟨t,rfl⟩:=hy; exact ⟨SeqAt.RcAt.tuple_int b t il (by omega),SeqAt.RcNeAt.tuple_int b t il (by omega)⟩
  | str b=>obtain ⟨t,rfl⟩:=hy; exact ⟨SeqAt.RcAt.tuple_str b t il (by omega),SeqAt.RcNeAt.tuple_str b t il (by omega)⟩
  | _=>cases py
 | _=>cases px
end
end L3
namespace L3
open PySem L2
section
variable {X:Cx} {T:Tb} {f:Value->Value->Sem Value}
def gI (C:Int->Int->Bool) (z:Int->Int->PV):G2:=fun _ x y=>match x,y with
 | .int i,.int j=>if C i j=true then some (z i j) else none
 | _,_=>none
theorem jaX {C:Int->Int->Bool} {z:Int->Int->PV} {M:Sto} {x y w:PV} (e:gI C z M x y=some w):∃ i j,x = .int i∧y = .int j∧C i j=true∧w=z i j:=by
 unfold gI at e;split at e
 ·split at e
  ·rename_i h;cases e;exact ⟨_,_,rfl,rfl,h,rfl⟩
  ·cases e
 ·cases e
theorem jaO {C:Int->Int->Bool} {z:Int->Int->PV} {D:Int->Int->Prop} {zv:Int->Int->V} (h:OpR X f (rI D zv)) (hD:∀ i j,C i j=true->D i j) (hz:∀ W i j,Rep W (z i j) (zv i j)):OpP X T f (gI C z) :=
 yJ h fun v u H Q hQQ=>by
  obtain ⟨W,M,x,y,w,k,hh,rx,ry,e,q⟩:=hQQ;obtain ⟨i,j,rfl,rfl,hc,rfl⟩:=jaX e;exact ⟨i,j,rx,ry,hD i j hc,q W H _ (.refl W) hh (hz W i j)⟩
theorem uk {z:Int->Int->PV} {zv:Int->Int->V} (h:OpR X f (rI0 zv)) (hz:∀ W i j,Rep W (z i j) (zv i j)):OpP X T f (gI (fun _ _=>true) z) :=
 yJ h fun v u H Q hQQ=>by
  obtain ⟨W,M,x,y,w,k,hh,rx,ry,e,q⟩:=hQQ;obtain ⟨i,j,rfl,rfl,hc,rfl⟩:=jaX e;exact ⟨i,j,rx,ry,q W H _ (.refl W) hh (hz W i j)⟩
abbrev jbG:Int->Int->Bool:=fun _ _=>true
def jha:G2:=gI jbG fun i j=>.int (i + j)
def VS:G2:=gI jbG fun i j=>.int (i - j)
def jgF (i j:Int):Bool:=(decide (-(2 ^ 64) < i) && decide (i < 2 ^ 64)) || (decide (-(2 ^ 64) < j) && decide (j < 2 ^ 64))
def jaW:G2:=gI jgF fun i j=>.int (i * j)
def jev:G2:=gI (fun _ j=>decide (0 < j) && decide (j < 1073741824)) fun i j=>.int (i / j)
def VU:G2:=gI (fun _ j=>decide (0 < j)) fun i j=>.int (i % j)
def gPow:G2:=gI (fun i j=>decide (0<=j) && decide (j<=1000000) && decide (i.natAbs < 2 ^ 64)) fun i j=>.int (i ^ j.toNat)
def gLt:G2:=gI jbG fun i j=>.bl (decide (i < j))
def gLe:G2:=gI jbG fun i j=>.bl (decide (i<=j))
def gGt:G2:=gI jbG fun i j=>.bl (decide (j < i))
def gGe:G2:=gI jbG fun i j=>.bl (decide (j<=i))
theorem o_addI:OpP X T (binaryOp .Add) jha:=uk op_add fun _ _ _=>rfl
theorem jaP:OpP X T (binaryOp .Sub) VS:=uk op_sub fun _ _ _=>rfl
theorem o_mulI:OpP X T (binaryOp .Mult) jaW:=jaO op_mul (fun i j h=>by
 unfold jgF at h;simp only [Bool.or_eq_true,Bool.and_eq_true,decide_eq_true_eq] at h
 exact h) fun _ _ _=>rfl
theorem jdU:OpP X T (binaryOp .FloorDiv) jev:=jaO jgd (fun i j h=>by
 simp only [Bool.and_eq_true,decide_eq_true_eq] at h
 exact h) fun _ _ _=>rfl
theorem Xb:OpP X T (binaryOp .Mod) VU:=jaO op_mod (fun i j h=>of_decide_eq_true h) fun _ _ _=>rfl
theorem o_pow:OpP X T (binaryOp .Pow) gPow:=jaO op_pow (fun i j h=>by
 simp only [Bool.and_eq_true,decide_eq_true_eq] at h
 exact ⟨h.1.1,h.1.2,h.2⟩) fun _ _ _=>rfl
theorem o_lt:OpP X T (compareOp .Lt) gLt:=uk op_lt fun _ _ _=>rfl
theorem o_le:OpP X T (compareOp .LtE) gLe:=uk op_le fun _ _ _=>rfl
theorem o_gt:OpP X T (compareOp .Gt) gGt:=uk op_gt fun _ _ _=>rfl
theorem o_ge:OpP X T (compareOp .GtE) gGe:=uk op_ge fun _ _ _=>rfl
def gCat:G2:=fun M x y=>match yE M x,yE M y with
 | some xs,some ys=>if xs.length + ys.length<=sizeLine then some (.lst (xs ++ ys)) else none
 | _,_=>none
theorem o_cat:OpP X T (binaryOp .Add) gCat:=yJ op_cat fun v u H Q hQQ=>by
 obtain ⟨W,M,x,y,w,k,hh,rx,ry,e,q⟩:=hQQ;unfold gCat at e;split at e
 ·rename_i xs ys e1 e2;split at e
  ·rename_i hz;cases e;obtain ⟨a,vs,rfl,ha,rv⟩:=yD hh rx e1;obtain ⟨b,us,rfl,hb,ru⟩:=yD hh ry e2;refine ⟨a,b,vs,us,rfl,rfl,ha,hb,by rw [rv.length,ru.length]; exact hz,fun p hp=>?_⟩;obtain ⟨W2,l2,h2,r2⟩:=xZ hh (rv.append ru) hp;exact q W2 _ _ l2 h2 r2
  ·cases e
 ·cases e
def jew:G2:=fun _ x y=>match x,y with
 | .tup xs,.tup ys=>if xs≠[]∧xs.length + ys.length<=sizeLine then some (.tup (xs ++ ys)) else none
 | _,_=>none
theorem jl.nil_iff {W:Wd} {xs:List PV} {vs:List V} (r:jl W xs vs):vs=[]↔xs=[]:=by
 have:=r.length
 constructor
 ·rintro rfl;exact List.eq_nil_of_length_eq_zero (by simpa using this.symm)
 ·rintro rfl;exact List.eq_nil_of_length_eq_zero (by simpa using this)
theorem o_catT (hT:T.K=X.K):OpP X T (binaryOp .Add) jew:=yJ jge fun v u H Q hQQ=>by
 obtain ⟨W,M,x,y,w,k,hh,rx,ry,e,q⟩:=hQQ;unfold jew at e;split at e
 ·rename_i xs ys;split at e
  ·rename_i hz;cases e;obtain ⟨a,vs,rfl,ha,rv⟩:=xg hh rx;obtain ⟨b,us,rfl,hb,ru⟩:=xg hh ry;rw [k,hT] at ha hb;refine ⟨a,b,vs,us,rfl,rfl,ha,hb,fun z=>hz.1 (rv.nil_iff.mp z),by rw [rv.length,ru.length]; exact hz.2,fun z=>?_,fun z p hp=>?_⟩
   ·have z:=ru.nil_iff.mp z;subst z;rw [List.append_nil] at q;exact q W H _ (.refl W) hh rx
   ·obtain ⟨W2,l2,h2,r2⟩:=vO hh (rv.append ru) hp;exact q W2 _ _ l2 h2 r2
  ·cases e
 ·cases e
def JN:G2:=orG jha (orG gCat jew)
theorem Jz (hT:T.K=X.K):OpP X T (binaryOp .Add) JN:=XT o_addI (XT o_cat (o_catT hT))
def jgt:G2:=fun M x y=>match y with
 | .int k=>(match yE M x with
  | some xs=>if -(2 ^ 63)<=k∧k < 2 ^ 63∧xs.length * k.toNat<=sizeLine then some (.lst (List.replicate k.toNat xs).flatten) else none
  | none=>none)
 | _=>none
theorem o_rep:OpP X T (binaryOp .Mult) jgt:=yJ op_rep fun v u H Q hQQ=>by
 obtain ⟨W,M,x,y,w,k,hh,rx,ry,e,q⟩:=hQQ;unfold jgt at e;split at e
 ·rename_i i;split at e
  ·rename_i xs e1;split at e
   ·rename_i hz;cases e;obtain ⟨a,vs,rfl,ha,rv⟩:=yD hh rx e1;refine ⟨a,i,vs,rfl,ry,ha,hz.1,hz.2.1,by rw [rv.length]; exact hz.2.2,fun p hp=>?_⟩;obtain ⟨W2,l2,h2,r2⟩:=xZ hh (rv.rep i.toNat) hp;exact q W2 _ _ l2 h2 r2
   ·cases e
  ·cases e
 ·cases e
def jcl:G2:=orG jaW jgt
theorem jdT:OpP X T (binaryOp .Mult) jcl:=XT o_mulI o_rep
def jgX:PV->Bool
 | .non=>true
 | _=>false
theorem jch {W:Wd} {x:PV} {v:V} (r:Rep W x v):decide (v = .non)=jgX x:=by
 cases x with
 | non=>cases r; rfl
 | bl _=>cases r; rfl
 | int _=>cases r; rfl
 | str _=>cases r; rfl
 | ty _=>cases r; rfl
 | top _=>cases r; rfl
 | exn _=>obtain ⟨_,_,rfl,_⟩:=r; rfl
 | dct _=>obtain ⟨_,_,rfl,_⟩:=r; rfl
 | dod _ _=>obtain ⟨_,_,_,_,rfl,_⟩:=r; rfl
 | scr _=>obtain ⟨_,rfl,_⟩:=r; rfl
 | ref _=>obtain ⟨_,rfl,_⟩:=r; rfl
 | tup _=>obtain ⟨_,_,rfl,_⟩:=r; rfl
 | lst _=>obtain ⟨_,_,rfl,_⟩:=r; rfl
def gIsN:G2:=fun _ x y=>match y with
 | .non=>some (.bl (jgX x))
 | _=>none
theorem o_isN:OpP X T (compareOp .Is) gIsN:=yJ op_isN fun v u H Q hQQ=>by
 obtain ⟨W,M,x,y,w,k,hh,rx,ry,e,q⟩:=hQQ;unfold gIsN at e;split at e
 ·cases e;exact ⟨ry,q W H _ (.refl W) hh (by rw [jch rx]; rfl)⟩
 ·cases e
def gIsB:G2:=fun _ x y=>match x,y with
 | .bl a,.bl b=>some (.bl (a == b))
 | _,_=>none
theorem o_isB:OpP X T (compareOp .Is) gIsB:=yJ op_isB fun v u H Q hQQ=>by
 obtain ⟨W,M,x,y,w,k,hh,rx,ry,e,q⟩:=hQQ;unfold gIsB at e;split at e
 ·cases e;exact ⟨_,_,rx,ry,q W H _ (.refl W) hh rfl⟩
 ·cases e
def gIs:G2:=orG gIsN gIsB
theorem o_is:OpP X T (compareOp .Is) gIs:=XT o_isN o_isB
def look (M:Sto):PV->PV
 | .ref i=>(match M.g i with
  | some (.lst xs)=>.lst xs
  | _=>.ref i)
 | x=>x
theorem jcd {M:Sto} {i:Nat} (h:∀ xs,M.g i≠some (.lst xs)):look M (.ref i) = .ref i:=by
 show (match M.g i with
  | some (.lst xs)=>PV.lst xs
  | _=>.ref i)=_
 split
 ·rename_i xs e;exact absurd e (h xs)
 ·rfl
theorem jed {M:Sto} {i:Nat} {xs:List PV} (h:M.g i=some (.lst xs)):look M (.ref i) = .lst xs:=by
 show (match M.g i with
  | some (.lst xs)=>PV.lst xs
  | _=>.ref i)=_
 rw [h]
def Wd.all (W:Wd) (H:Hp):Wd:=⟨W.T,H,W.α,fun _=>none⟩
theorem Held.le_all {W:Wd} {M:Sto} {H:Hp} (hh:Held W M H):W.le0 (W.all H):=⟨rfl,hh.f,fun _ _ e=>e⟩
theorem Held.all {W:Wd} {M:Sto} {H:Hp} (hh:Held W M H):Held (W.all H) ⟨M.n,fun _=>none⟩ H:=⟨fun _ _ e=>e,fun _ _ e=>(by cases e),fun _ _ _ _ _ e=>(by cases e),hh.top,fun _ _ e=>(by cases e),fun _ _ e=>(by cases e)⟩
theorem xP {W:Wd} {M:Sto} {H:Hp} {x:PV} {v:V} (hh:Held W M H) (r:Rep W x v):Rep (W.all H) (look M x) v:=by
 cases x with
 | ref i =>
  by_cases h:∃ xs,M.g i=some (.lst xs)
  ·obtain ⟨xs,e⟩:=h;rw [jed e];obtain ⟨a,rfl,ea⟩:=r;obtain ⟨b,o,h1,h2,h3,vs,rfl,rr⟩:=hh.m i _ e;rw [ea] at h1;cases h1;exact ⟨a,vs,rfl,h3,rr.up0 hh.le_all⟩
  ·rw [jcd fun xs e=>h ⟨xs,e⟩];exact r.up0 hh.le_all
 | _=>exact r.up0 hh.le_all
def eqG (neg:Bool):G2:=fun M x y=>if plain (look M x)=true∧plain (look M y)=true∧dep (look M x)<=60 then some (.bl (if neg then !eqB (look M x) (look M y) else eqB (look M x) (look M y))) else none
theorem Ym (hT:T.K=X.K) (hu:X.A.units + 64 < cLine):OpP X T (compareOp .Eq) (eqG false):=by
 intro pins s σ H v u v' u' Q I rv ru h;obtain ⟨W,M,x,y,w,k,hh,rx,ry,e,q⟩:=h;unfold eqG at e;split at e
 ·rename_i hp;cases e;have t:=(jdi I hh.all (show W.T.K=X.K by rw [k]; exact hT) (A:=X.A) (by omega) hp.1 hp.2.1 (xP hh rx) (xP hh ry) rv ru).1;exact t X.prog X.w X.xe _ ⟨.bl _,H,I,rfl,q W H _ (.refl W) hh rfl⟩
 ·cases e
theorem vM (hT:T.K=X.K) (hu:X.A.units + 64 < cLine):OpP X T (compareOp .NotEq) (eqG true):=by
 intro pins s σ H v u v' u' Q I rv ru h;obtain ⟨W,M,x,y,w,k,hh,rx,ry,e,q⟩:=h;unfold eqG at e;split at e
 ·rename_i hp;cases e;have t:=(jdi I hh.all (show W.T.K=X.K by rw [k]; exact hT) (A:=X.A) (by omega) hp.1 hp.2.1 (xP hh rx) (xP hh ry) rv ru).2;exact t X.prog X.w X.xe _ ⟨.bl _,H,I,rfl,q W H _ (.refl W) hh rfl⟩
 ·cases e
theorem jgK {W:Wd} {xs:List PV} {vs:List V} {i:Int} {x:PV} (r:jl W xs vs) (e:atI xs i=some x):∃ v,atI vs i=some v∧Rep W x v:=by
 unfold atI at e ⊢;rw [r.length]
 cases h:ixN xs.length i with
 | none=>rw [h] at e; cases e
 | some j =>
  rw [h] at e;exact r.get e
def gIx:G2:=fun M x y=>match y with
 | .int i=>(uD M x).bind fun xs=>atI xs i
 | _=>none
abbrev IxP (X:Cx) (T:Tb) (g:G2):Prop:=IxR X (rP T g)
theorem xN (hT:T.K=X.K):IxP X T gIx:=by
 intro value slice pins s σ H v u v' u' Q I rv ru h hs;refine (jgo.or ix_tup) value slice pins s σ H v u v' u' Q I rv ru ?_ hs;obtain ⟨W,M,x,y,w,k,hh,rx,ry,e,q⟩:=h;unfold gIx at e;split at e
 ·rename_i i
  cases e1:uD M x with
  | none=>rw [e1] at e; cases e
  | some xs =>
   rw [e1] at e;obtain ⟨a,vs,rfl,hq,rr⟩:=Vn hh rx e1;obtain ⟨z,e2,rz⟩:=jgK rr e;rw [k,hT] at hq
   rcases hq with hq | hq
   ·exact .inl ⟨a,vs,i,z,rfl,ry,hq,e2,q W H z (.refl W) hh rz⟩
   ·exact .inr ⟨a,vs,i,z,rfl,ry,hq,e2,q W H z (.refl W) hh rz⟩
 ·cases e
variable {ES:St->XK} {a b:Expr} {pos:Pos} {da db:DE}
theorem yL {g:G2} (hr:IxP X T g) (ha:QE X T ES a da) (hb:QE X T ES b db) (hs:jbn b):QE X T ES (.Subscript a b pos) (dOp g da db):=⟨jO (pe_ix hr ha.h hb.h hs) fun _ _ _=>Ja⟩
structure QO (X:Cx) (T:Tb) (ES:St->XK) (e:Option Expr) (d:En->Sto->Res (Option Int)):Prop where
 h:PO X e (lft T (fun _ a b=>b=a) ES d)
def dON:En->Sto->Res (Option Int):=fun _ M=>.ok none M
def dOS (d:DE):En->Sto->Res (Option Int):=fun ρ M=>(d ρ M).bind fun x M1=>match x with
 | .int i=>.ok (some i) M1
 | _=>.bad
theorem jdA {e:Option Expr} {t t':TO} (h:PO X e t) (f:∀ σ H Q,t' σ H Q->t σ H Q):PO X e t':=fun pins s σ H Q I q=>h pins s σ H Q I (f σ H Q q)
theorem uX:QO X T ES none dON:=⟨jdA jfO fun σ H Q hQQ=>jC hQQ fun W ρ M k hh hs p=>p W H none (.refl W) hh rfl⟩
theorem uW (h:QE X T ES a da):QO X T ES (some a) (dOS da):=⟨jdA (jfN h.h) fun σ H Q hQQ=>jC hQQ fun W ρ M k hh hs p=>⟨W,ρ,M,k,hh,hs,jz.bind p fun W1 M1 x v H1 l1 h1 r1 p1=>by
 split at p1
 ·rename_i i;exact ⟨i,r1,p1 W1 H1 _ (.refl W1) h1 rfl⟩
 ·exact p1.elim⟩⟩
def jcr (xs:List PV) (lo hi:Option Int):List PV:=(xs.drop (HT.sIx xs.length 0 lo)).take (HT.sIx xs.length xs.length hi - HT.sIx xs.length 0 lo)
theorem jbf {W:Wd} {xs:List PV} {vs:List V} (r:jl W xs vs) (lo hi:Option Int):jl W (jcr xs lo hi) (Ud vs lo hi):=by
 unfold jcr Ud;rw [r.length];exact (r.drop _).take _
def gSl (M:Sto) (x:PV) (lo hi:Option Int):Option PV:=match x with
 | .tup xs=>if ¬ (HT.sIx xs.length 0 lo=0∧HT.sIx xs.length xs.length hi=xs.length) then some (.tup (jcr xs lo hi)) else some (.tup xs)
 | x=>(yE M x).map fun xs=>.lst (jcr xs lo hi)
def dSl (d:DE) (dl dh:En->Sto->Res (Option Int)):DE:=fun ρ M=>(d ρ M).bind fun x M1=>(dl ρ M1).bind fun lo M2=>(dh ρ M2).bind fun hi M3=>ofO (gSl M3 x lo hi) M3
theorem vK (hT:T.K=X.K) {lo hi:Option Expr} {p2:Pos} {dl dh:En->Sto->Res (Option Int)} (he:QE X T ES a da) (hl:QO X T ES lo dl) (hu:QO X T ES hi dh):QE X T ES (.Subscript a (.Slice lo hi none p2) pos) (dSl da dl dh) :=
 ⟨jO (jdJ (SlR.or (SlR.or jfw jhG) jfv) he.h hl.h hu.h) fun σ H Q hQQ=>jC hQQ fun W ρ M k hh hs p=>⟨W,ρ,M,k,hh,hs,jz.bind p fun W1 M1 x v H1 l1 h1 r1 p1 =>
  ⟨W1,ρ,M1,l1.k.trans k,h1,hs.up l1,jz.bind p1 fun W2 M2 lo' l' H2 l2 h2 r2 p2=>⟨W2,ρ,M2,l2.k.trans (l1.k.trans k),h2,hs.up (l1.trans l2),jz.bind p2 fun W3 M3 hi' u' H3 l3 h3 r3 p3=>by
   subst r2;subst r3;have r1:=(r1.up l2).up l3;have k3:W3.T=T:=l3.k.trans (l2.k.trans (l1.k.trans k))
   have lists:∀ e:Option (List PV),yE M3 x=e->jz W3 Rep (ofO (e.map fun xs=>PV.lst (jcr xs l' u')) M3) Q (ES σ)->rSlL X.K v l' u' H3 Q:=fun e he q=>by
    cases e with
    | none=>exact q.elim
    | some xs =>
     obtain ⟨a,vs,rfl,ha,rv⟩:=yD h3 r1 he;refine ⟨a,vs,rfl,SqL.of ha,fun p hp=>?_⟩;obtain ⟨W4,l4,h4,r4⟩:=xZ h3 (jbf rv l' u') hp;exact q W4 _ _ l4 h4 r4
   cases x with
   | tup xs =>
    have p3:jz W3 Rep (ofO (if ¬ (HT.sIx xs.length 0 l'=0∧HT.sIx xs.length xs.length u'=xs.length) then some (PV.tup (jcr xs l' u')) else some (.tup xs)) M3) Q (ES σ):=p3
    by_cases hz:¬ (HT.sIx xs.length 0 l'=0∧HT.sIx xs.length xs.length u'=xs.length)
    ·rw [if_pos hz] at p3;obtain ⟨a,vs,rfl,ha,rv⟩:=xg h3 r1;rw [k3,hT] at ha;refine .inl (.inr ⟨a,vs,rfl,ha,by rw [rv.length]; exact hz,fun p hp=>?_⟩);obtain ⟨W4,l4,h4,r4⟩:=vO h3 (jbf rv l' u') hp;exact p3 W4 _ _ l4 h4 r4
    ·rw [if_neg hz] at p3;have r0:=r1;obtain ⟨a,vs,rfl,ha,rv⟩:=xg h3 r1;rw [k3,hT] at ha;exact .inr ⟨a,vs,rfl,ha,by rw [rv.length]; exact Classical.not_not.mp hz,p3 W3 H3 _ (.refl W3) h3 r0⟩
   | lst xs=>exact .inl (.inl (lists _ rfl p3))
   | ref i=>exact .inl (.inl (lists _ rfl p3))
   | _=>exact p3.elim⟩⟩⟩⟩
def gNeg (_:Sto):PV->Option PV
 | .int i=>some (.int (-i))
 | _=>none
def dUn (g:Sto->PV->Option PV) (d:DE):DE:=fun ρ M=>(d ρ M).bind fun x M1=>ofO (g M1 x) M1
theorem qe_neg (ha:QE X T ES a da):QE X T ES (.UnaryOp .USub a pos) (dUn gNeg da):=⟨jO (pe_un jhn ha.h) fun σ H Q hQQ=>jC hQQ fun W ρ M k hh hs p=>⟨W,ρ,M,k,hh,hs,jz.bind p fun W1 M1 x v H1 l1 h1 r1 p1=>by
 cases x with
 | int i=>exact ⟨i,r1,p1 W1 H1 _ (.refl W1) h1 rfl⟩
 | _=>exact p1.elim⟩⟩
end
end L3
namespace L3
open PySem L2
open Classical in
noncomputable def eqW (W:Wd) (y:PV) (ys:List PV) (u:Value):Bool:=decide (∃ z ∈ ys,∃ v,Rep W z v∧jv v u∧eqB z y=true)
section
variable {X:Cx} {T:Tb} {pins:List (Addr × Obj)} {σ:St} {H:Hp} {s:Shared} {W:Wd} {M:Sto}
theorem vn:∀ {xs:List PV} {x:PV},yl xs=true->x ∈ xs->plain x=true:=fun {xs x} h hm=>by
 obtain ⟨j,e⟩:=List.mem_iff_getElem?.mp hm;exact xD h e
open Classical in
theorem jeA (I:Inv X pins σ H s) (hh:Held W M H) (hT:W.T.K=X.K) {y:PV} {ys:List PV} {z:PV} {v:V} {u:Value} (hz:z ∈ ys) (p:yl ys=true) (r:Rep W z v) (q:jv v u):eqW W y ys u=eqB z y:=by
 unfold eqW
 cases e:eqB z y with
 | true=>exact decide_eq_true ⟨z,hz,v,r,q,e⟩
 | false =>
  refine decide_eq_false fun hQQ=>?_;obtain ⟨z',hz',v',r',q',e'⟩:=hQQ;cases q'.inj q
  have:=jan I hh hT (vn p hz') (vn p hz) r' r
  subst this;rw [e] at e';cases e'
theorem jbm (I:Inv X pins σ H s) (hh:Held W M H) (hT:W.T.K=X.K) {y:PV} {ys:List PV} (p:yl ys=true):∀ {zs:List PV} {vs:List V} {us:List Value},(∀ z ∈ zs,z ∈ ys)->jl W zs vs->jq vs us->us.any (eqW W y ys)=zs.any fun z=>eqB z y
 | [],_,_,_,r,q=>by cases r; cases q; rfl
 | z :: zs,_,_,hm,⟨v,r,e,a,b⟩,q=>by
  subst e
  cases q with
  | cons q1 q2 =>
   rw [List.any_cons,List.any_cons,jeA I hh hT (hm z List.mem_cons_self) p a q1,jbm I hh hT p (fun w hw=>hm w (List.mem_cons_of_mem _ hw)) b q2]
theorem in_ok (hT:T.K=X.K) (hu:X.A.units + 100 < cLine) (I:Inv X pins σ H s) (hh:Held W M H) (k:W.T=T) {x y:PV} {v u:V} {v' u':Value} {ys:List PV} (rx:Rep W x v) (ry:Rep W y u) (qx:jv v v') (qy:jv u u') (e:uD M y=some ys) (px:plain (look M x)=true)
  (py:yl ys=true) (pd:∀ z ∈ ys,dep z<=60) {Q:Value->Shared->Prop} {E:Value->Shared->Prop}:(Q (.bool (ys.any fun z=>eqB z (look M x))) s->wpAny (model X.prog X.w) X.A (compareOp .In v' u') Q E s) ∧
   (Q (.bool (!(ys.any fun z=>eqB z (look M x)))) s->wpAny (model X.prog X.w) X.A (compareOp .NotIn v' u') Q E s):=by
 have kk:(W.all H).T.K=X.K:=by
  show W.T.K=X.K;rw [k];exact hT
 obtain ⟨a,vs,rfl,hq,rr⟩:=Vn hh ry e;cases qy;rw [k,hT] at hq;have rr:=rr.up0 hh.le_all;have rx:=xP hh rx
 have tests:∀ {its:List Value},jq vs its->(∀ w,w ∈ its.toArray->SeqAt.EqAt X.A.in1 s w v' (eqW (W.all H) (look M x) ys w))∧its.toArray.any (eqW (W.all H) (look M x) ys)=ys.any fun z=>eqB z (look M x):=fun {its} rv=>by
  refine ⟨fun w hw=>?_,?_⟩
  ·obtain ⟨j,ej⟩:=List.mem_iff_getElem?.mp (show w ∈ its by simpa using hw);obtain ⟨v2,e1,r1⟩:=vF rv ej;obtain ⟨z,e2,r2⟩:=vJ rr e1;have hz:=List.mem_of_getElem? e2;rw [jeA I hh.all kk hz py r2 r1]
   have:=pd z hz
   exact JS I hh.all kk (dep z + 1) z (look M x) X.A.in1 (Nat.lt_succ_self _) (show X.A.units + 1 + dep z < cLine by omega) (vn py hz) px r2 rx r1 qx
  ·rw [List.any_toArray];exact jbm I hh.all kk py (fun _ z=>z) rr rv
 rcases hq with hq | hq
 ·obtain ⟨its,rv,pl,hz⟩:=I.list hq;obtain ⟨t1,t2⟩:=tests rv;exact ⟨fun q=>SeqAt.in_listAt _ pl.isList t1 (by rw [t2]; exact q),fun q=>SeqAt.notIn_listAt _ pl.isList t1 (by rw [t2]; exact q)⟩
 ·obtain ⟨its,rv,pl,hz⟩:=I.tuple hq;obtain ⟨t1,t2⟩:=tests rv;exact ⟨fun q=>SeqAt.in_tupleAt _ pl t1 (by rw [t2]; exact q),fun q=>SeqAt.notIn_tupleAt _ pl t1 (by rw [t2]; exact q)⟩
def Vd:List PV->Bool
 | []=>true
 | z :: zs=>decide (dep z<=60) && Vd zs
theorem JT:∀ {zs:List PV} {z:PV},Vd zs=true->z ∈ zs->dep z<=60
 | [],_,_,h=>by cases h
 | w :: ws,z,e,h=>by
  unfold Vd at e;have e:=Bool.and_eq_true_iff.mp e
  rcases List.mem_cons.mp h with rfl | h
  ·exact of_decide_eq_true e.1
  ·exact JT e.2 h
def gIn (neg:Bool):G2:=fun M x y=>match uD M y with
 | some ys=>if plain (look M x)=true∧yl ys=true∧Vd ys=true then some (.bl (if neg then !(ys.any fun z=>eqB z (look M x)) else ys.any fun z=>eqB z (look M x))) else none
 | none=>none
theorem jaQ (hT:T.K=X.K) (hu:X.A.units + 100 < cLine):OpP X T (compareOp .NotIn) (gIn true):=by
 intro pins s σ H v u v' u' Q I rv ru h;obtain ⟨W,M,x,y,w,k,hh,rx,ry,e,q⟩:=h;unfold gIn at e;split at e
 ·rename_i ys e1;split at e
  ·rename_i hp;cases e;exact (in_ok hT hu I hh k rx ry rv ru e1 hp.1 hp.2.1 (fun z hz=>JT hp.2.2 hz)).2 ⟨.bl _,H,I,rfl,q W H _ (.refl W) hh rfl⟩
  ·cases e
 ·cases e
end
abbrev G1:=Sto->List PV->Option (PV × Sto)
def rC (T:Tb) (g:G1):List V->Hp->VK->Prop:=fun vs H Q=>∃ W M xs z M',W.T=T∧Held W M H∧jl W xs vs∧g M xs=some (z,M')∧∀ W' H' v',W.le W'->Held W' M' H'->Rep W' z v'->Q v' H'
def dCB (g:G1) (ds:DA):DE:=fun ρ M=>(ds ρ M).bind fun xs M1=>match g M1 xs with
 | some (z,M2)=>.ok z M2
 | none=>.bad
section
variable {X:Cx} {T:Tb} {ES:St->XK} {e:Expr} {es:List Expr} {p pos:Pos} {ds:DA} {g g':G1} {x:Str} {bid:String}
theorem uB {f:Value} {r r':List V->Hp->VK->Prop} (h:yf X f r) (k:∀ xs H Q,r' xs H Q->r xs H Q):yf X f r':=fun pins s σ H xs us Q I rs q=>h pins s σ H xs us Q I rs (k _ _ _ q)
theorem jbi {σ:St} {H:Hp} {Q:VK} (h:lft T Rep ES (dCB g ds) σ H Q):tCB (rC T g) (lft T jl ES ds) σ H Q:=by
 obtain ⟨W,ρ,M,k,hh,hs,p⟩:=h;refine ⟨W,ρ,M,k,hh,hs,jz.bind p fun W1 M1 xs vs H1 l1 h1 r1 p1=>?_⟩;split at p1
 ·rename_i z M2 e;exact ⟨W1,M1,xs,z,M2,l1.k.trans k,h1,r1,e,p1⟩
 ·exact p1.elim
theorem jx (hc:yf X (.builtin bid) (rC T g)) (hg:Gl X x) (hm:X.mg x=none) (hv:bootBuiltins x=some (.builtin bid)) (ha:QA X T ES (e :: es) ds) (hn:x≠"__name__":=by decide) (hdb:(x == ("__debug__":Str))=false:=by decide)
  (he:starEach (e :: es) X.env=(false,eval e X.env) :: starEach es X.env:=by rfl) (hpl:(backTo pos (starEach es X.env)).any (·.1)=false:=by rfl):QE X T ES (.Call (.Name x p) (e :: es) [] pos) (dCB g ds):=⟨jO (VC hc hg hm hv ha.h hn hdb he hpl) fun _ _ _=>jbi⟩
theorem YY (hc:yf X (.type bid) (rC T g)) (hg:Gl X x) (hm:X.mg x=none) (hv:bootBuiltins x=some (.type bid)) (ha:QA X T ES (e :: es) ds) (hn:x≠"__name__":=by decide) (hdb:(x == ("__debug__":Str))=false:=by decide)
  (he:starEach (e :: es) X.env=(false,eval e X.env) :: starEach es X.env:=by rfl) (hpl:(backTo pos (starEach es X.env)).any (·.1)=false:=by rfl):QE X T ES (.Call (.Name x p) (e :: es) [] pos) (dCB g ds):=⟨jO (jbZ hc hg hm hv ha.h hn hdb he hpl) fun _ _ _=>jbi⟩
theorem xE {W:Wd} {x:PV} {vs:List V} (r:jl W [x] vs):∃ v,vs=[v]∧Rep W x v:=by
 obtain ⟨v,r,e,a,b⟩:=r;cases b;exact ⟨v,e,a⟩
theorem yI {W:Wd} {x y:PV} {vs:List V} (r:jl W [x,y] vs):∃ v u,vs=[v,u]∧Rep W x v∧Rep W y u:=by
 obtain ⟨v,r,e,a,b⟩:=r;obtain ⟨u,rfl,q⟩:=xE b;exact ⟨v,u,e,a,q⟩
def one (f:Sto->PV->Option PV):G1:=fun M xs=>match xs with
 | [x]=>(match f M x with
  | some z=>some (z,M)
  | none=>none)
 | _=>none
theorem vh {f:Value} {fn:Sto->PV->Option PV} {r:List V->Hp->VK->Prop} (h:yf X f r)
  (k:∀ W M H x v z Q,W.T=T->Held W M H->Rep W x v->fn M x=some z->(∀ W' H' v',W.le W'->Held W' M H'->Rep W' z v'->Q v' H')->r [v] H Q):yf X f (rC T (one fn)) :=
 uB h fun vs H Q hQQ=>by
  obtain ⟨W,M,xs,z,M',kk,hh,rx,e,q⟩:=hQQ;unfold one at e;split at e
  ·rename_i x;split at e
   ·rename_i z' e';cases e;obtain ⟨v,rfl,rv⟩:=xE rx;exact k W M H x v z Q kk hh rv e' q
   ·cases e
  ·cases e
def JP (M:Sto) (x:PV):Option PV:=match uD M x with
 | some xs=>some (.int xs.length)
 | none=>none
theorem Ye (hT:T.K=X.K):yf X (.builtin "len") (rC T (one JP)):=vh Vj fun W M H x v z Q k hh r e q=>by
 unfold JP at e;split at e
 ·rename_i xs e1;cases e;obtain ⟨a,vs,rfl,hq,rr⟩:=Vn hh r e1;rw [k,hT] at hq;exact ⟨a,vs,rfl,hq,q W H _ (.refl W) hh (by rw [rr.length]; rfl)⟩
 ·cases e
def vR:List PV->Option (List Int)
 | []=>some []
 | .int i :: xs=>(vR xs).map fun ns=>i :: ns
 | _ :: _=>none
theorem xQ:∀ {xs:List PV} {ns:List Int},vR xs=some ns->xs=ns.map PV.int
 | [],ns,e=>by cases e; rfl
 | .int i :: xs,ns,e=>by
  have e:(vR xs).map (fun ns=>i :: ns)=some ns:=e
  cases h:vR xs with
  | none=>rw [h] at e; cases e
  | some ms =>
   rw [h] at e;cases e;rw [xQ h];rfl
 | .non :: _,_,e=>by cases e
 | .bl _ :: _,_,e=>by cases e
 | .str _ :: _,_,e=>by cases e
 | .ty _ :: _,_,e=>by cases e
 | .tup _ :: _,_,e=>by cases e
 | .lst _ :: _,_,e=>by cases e
 | .scr _ :: _,_,e=>by cases e
 | .top _ :: _,_,e=>by cases e
 | .exn _ :: _,_,e=>by cases e
 | .dct _ :: _,_,e=>by cases e
 | .dod _ _ :: _,_,e=>by cases e
 | .ref _ :: _,_,e=>by cases e
@[simp] theorem jcj : ∀ (ns : List Int), vR (ns.map PV.int) = some ns
 | []=>rfl
 | n :: ns=>by
  show (vR (ns.map PV.int)).map (fun ms=>n :: ms)=_;rw [jcj ns];rfl
def vB:List PV->Option (List Bool)
 | []=>some []
 | .bl i :: xs=>(vB xs).map fun ns=>i :: ns
 | _ :: _=>none
theorem Xo:∀ {xs:List PV} {ns:List Bool},vB xs=some ns->xs=ns.map PV.bl
 | [],ns,e=>by cases e; rfl
 | .bl i :: xs,ns,e=>by
  have e:(vB xs).map (fun ns=>i :: ns)=some ns:=e
  cases h:vB xs with
  | none=>rw [h] at e; cases e
  | some ms =>
   rw [h] at e;cases e;rw [Xo h];rfl
 | .non :: _,_,e=>by cases e
 | .int _ :: _,_,e=>by cases e
 | .str _ :: _,_,e=>by cases e
 | .ty _ :: _,_,e=>by cases e
 | .tup _ :: _,_,e=>by cases e
 | .lst _ :: _,_,e=>by cases e
 | .scr _ :: _,_,e=>by cases e
 | .top _ :: _,_,e=>by cases e
 | .exn _ :: _,_,e=>by cases e
 | .dct _ :: _,_,e=>by cases e
 | .dod _ _ :: _,_,e=>by cases e
 | .ref _ :: _,_,e=>by cases e
@[simp] theorem jak : ∀ (ns : List Bool), vB (ns.map PV.bl) = some ns
 | []=>rfl
 | n :: ns=>by
  show (vB (ns.map PV.bl)).map (fun ms=>n :: ms)=_;rw [jak ns];rfl
def bseq (M:Sto) (x:PV):Option (List Bool):=(yE M x).bind vB
theorem jgH {W:Wd} {M:Sto} {H:Hp} {x:PV} {v:V} {ns:List Bool} (hh:Held W M H) (r:Rep W x v) (e:bseq M x=some ns):∃ a,v = .ref a∧H a=some (.lst (ns.map V.bl)):=by
 unfold bseq at e
 cases h:yE M x with
 | none=>rw [h] at e; cases e
 | some xs =>
  rw [h] at e;obtain ⟨a,vs,rfl,ha,rr⟩:=yD hh r h;rw [Xo e] at rr;rw [jl.bools.mp rr] at ha;exact ⟨a,rfl,ha⟩
def jez (M:Sto) (x:PV):Option PV:=match bseq M x with
 | some ns=>some (.bl (ns.all id))
 | none=>none
theorem jeV (hc:X.calm=true):yf X (.builtin "all") (rC T (one jez)):=vh (jcw hc) fun W M H x v z Q k hh r e q=>by
 unfold jez at e;split at e
 ·rename_i ns e1;cases e;obtain ⟨a,rfl,ha⟩:=jgH hh r e1;exact ⟨a,ns,rfl,SqL.of ha,q W H _ (.refl W) hh rfl⟩
 ·cases e
def two (f:Int->Int->PV):G1:=fun M xs=>match xs with
 | [.int i,.int j]=>some (f i j,M)
 | _=>none
def jey (M:Sto) (x:PV):Option PV:=match uD M x with
 | some xs=>some (.lst xs)
 | none=>none
theorem b_list (hT:T.K=X.K):yf X (.type "list") (rC T (one jey)):=vh vY fun W M H x v z Q k hh r e q=>by
 unfold jey at e;split at e
 ·rename_i xs e1;cases e;obtain ⟨a,vs,rfl,hq,rr⟩:=Vn hh r e1;rw [k,hT] at hq;refine ⟨a,vs,rfl,hq,fun l hl=>?_⟩;obtain ⟨W2,l2,h2,r2⟩:=xZ hh rr hl;exact q W2 _ _ l2 h2 r2
 ·cases e
def Xe (M:Sto):PV->Option String
 | .non=>some "NoneType"
 | .bl _=>some "bool"
 | .int _=>some "int"
 | .str _=>some "str"
 | .tup _=>some "tuple"
 | .lst _=>some "list"
 | .dct _=>some "dict"
 | .dod _ _=>some "dict"
 | .ref i=>(match M.g i with
  | some (.lst _)=>some "list"
  | _=>none)
 | _=>none
theorem uq {M:Sto} {x:PV} {n:String} (e:Xe M x=some n):n ∈ yR:=by
 cases x with
 | ref i =>
  have e:(match M.g i with
   | some (.lst _)=>some "list"
   | _=>none)=some n:=e
  split at e
  ·cases e; decide
  ·cases e
 | non=>cases e; decide
 | bl _=>cases e; decide
 | int _=>cases e; decide
 | str _=>cases e; decide
 | tup _=>cases e; decide
 | lst _=>cases e; decide
 | dct _=>cases e; decide
 | dod _ _=>cases e; decide
 | _=>cases e
theorem XV {pins:List (Addr × Obj)} {σ:St} {H:Hp} {s:Shared} {W:Wd} {M:Sto} (I:Inv X pins σ H s) (hh:Held W M H) (hT:W.T.K=X.K) {x:PV} {n:String} {v:V} {u:Value} (e:Xe M x=some n) (r:Rep W x v) (q:jv v u) :
  ∃ P,PySem.W.KitX X.K u (.type n) P∧P s.heap∧u≠.builtin "__main__.__loader__#opaque":=by
 have lists:∀ a vs,H a=some (.lst vs)->∃ P,PySem.W.KitX X.K (.ref a) (.type "list") P∧P s.heap∧Value.ref a≠.builtin "__main__.__loader__#opaque":=fun a vs ea=>by
  obtain ⟨_,_,_,_,h1⟩:=(show jM X.prog X.w H s.heap a (.lst vs) from I.hok a _ ea)
  exact ⟨_,PySem.W.kitx_list,⟨_,h1,rfl⟩,fun z=>nomatch z⟩
 cases x with
 | ref i =>
  have e:(match M.g i with
   | some (.lst _)=>some "list"
   | _=>none)=some n:=e
  split at e
  ·rename_i xs e1;cases e
   obtain ⟨a,vs,rfl,ha,_⟩:=yD (xs:=xs) hh r (by
    show (match M.g i with
     | some (.lst xs)=>some xs
     | _=>none)=some xs
    rw [e1])
   cases q;exact lists a vs ha
  ·cases e
 | non=>cases e; cases r; cases q; exact ⟨_,PySem.W.kitx_none,True.intro,fun z=>nomatch z⟩
 | bl _=>cases e; cases r; cases q; exact ⟨_,PySem.W.kitx_bool,True.intro,fun z=>nomatch z⟩
 | int _=>cases e; cases r; obtain ⟨t,rfl⟩:=q; exact ⟨_,PySem.W.kitx_int,True.intro,fun z=>nomatch z⟩
 | str _=>cases e; cases r; obtain ⟨t,rfl⟩:=q; exact ⟨_,PySem.W.kitx_str,True.intro,fun z=>nomatch z⟩
 | tup _ =>
  cases e;obtain ⟨a,vs,rfl,ha,_⟩:=xg hh r;cases q;rw [hT] at ha;obtain ⟨its,_,p,_⟩:=I.tuple ha;obtain ⟨o,h1,h2,_⟩:=p;exact ⟨_,PySem.W.kitx_tuple,⟨o,h1,h2⟩,fun z=>nomatch z⟩
 | lst _ =>
  cases e;obtain ⟨a,vs,rfl,ha,_⟩:=r;cases q;exact lists a vs (hh.f _ _ ha)
 | dod _ _ =>
  cases e;obtain ⟨a,o,kv,vv,rfl,ha,_⟩:=r;cases q;obtain ⟨e1,hx,_⟩:=I.odd (hh.f _ _ ha);exact ⟨_,PySem.W.kitx_dict,⟨o,e1,hx.1⟩,fun z=>nomatch z⟩
 | dct _ =>
  cases e;obtain ⟨a,o,rfl,ha⟩:=r;cases q;exact ⟨_,PySem.W.kitx_dict,(jej I (.inr ⟨_,.inr ⟨o,hh.f _ _ ha⟩⟩)).1,fun z=>nomatch z⟩
 | _=>cases e
def jcG:List PV->Option (List String)
 | []=>some []
 | .ty n :: r=>if n ∈ yR then (jcG r).map fun ns=>n :: ns else none
 | _ :: _=>none
theorem Vq {W:Wd}:∀ {xs:List PV} {ns:List String} {vs:List V} {us:List Value},jcG xs=some ns->jl W xs vs->jq vs us->us=ns.map Value.type∧∀ n ∈ ns,n ∈ yR
 | [],_,_,_,e,r,q=>by cases e; cases r; cases q; exact ⟨rfl,by simp⟩
 | .ty n :: xs,ns,_,_,e,⟨v,r,e1,a,b⟩,q=>by
  subst e1;have e:(if n ∈ yR then (jcG xs).map (fun ns=>n :: ns) else none)=some ns:=e;split at e
  ·rename_i hn
   cases h:jcG xs with
   | none=>rw [h] at e; cases e
   | some ms =>
    rw [h] at e;cases e
    cases q with
    | cons q1 q2 =>
     obtain ⟨h1,h2⟩:=Vq h b q2;have a:v = .ty n:=a;subst a;cases q1;rw [h1];refine ⟨rfl,fun m hm=>?_⟩
     rcases List.mem_cons.mp hm with rfl | hm
     ·exact hn
     ·exact h2 m hm
  ·cases e
 | .non :: _,_,_,_,e,_,_=>by cases e
 | .bl _ :: _,_,_,_,e,_,_=>by cases e
 | .int _ :: _,_,_,_,e,_,_=>by cases e
 | .str _ :: _,_,_,_,e,_,_=>by cases e
 | .tup _ :: _,_,_,_,e,_,_=>by cases e
 | .lst _ :: _,_,_,_,e,_,_=>by cases e
 | .scr _ :: _,_,_,_,e,_,_=>by cases e
 | .top _ :: _,_,_,_,e,_,_=>by cases e
 | .exn _ :: _,_,_,_,e,_,_=>by cases e
 | .dct _ :: _,_,_,_,e,_,_=>by cases e
 | .dod _ _ :: _,_,_,_,e,_,_=>by cases e
 | .ref _ :: _,_,_,_,e,_,_=>by cases e
theorem JF (K:PySem.W.Frag) {n:String} (hn:n ∈ yR):∀ {ns:List String},(∀ m ∈ ns,m ∈ yR)->PySem.W.kitAny K (.type n) (ns.map Value.type)=some (ns.any fun m=>sub n m)
 | [],_=>rfl
 | m :: ms,h=>by
  show (match PySem.W.kitOne K (.type n) (.type m) with
   | some true=>some true
   | some false=>PySem.W.kitAny K (.type n) (ms.map Value.type)
   | none=>none)=_
  rw [jaU K hn (h m List.mem_cons_self),List.any_cons]
  cases sub n m with
  | true=>rfl
  | false=>exact JF K hn fun m' hm=>h m' (List.mem_cons_of_mem _ hm)
def US:G1:=fun M xs=>match xs with
 | [x,.ty m]=>(match Xe M x with
  | some n=>if m ∈ yR then some (.bl (sub n m),M) else none
  | none=>none)
 | [x,.tup ts]=>(match Xe M x,jcG ts with
  | some n,some ns=>some (.bl (ns.any fun m=>sub n m),M)
  | _,_=>none)
 | _=>none
theorem Uk (hT:T.K=X.K):yf X (.builtin "isinstance") (rC T US):=by
 intro pins s σ H vs us Q I rv h;obtain ⟨W,M,xs,z,M',k,hh,rx,e,q⟩:=h
 have kk:W.T.K=X.K:=by rw [k]; exact hT
 unfold US at e;split at e
 ·rename_i x m;split at e
  ·rename_i n e1;split at e
   ·rename_i hm;cases e;obtain ⟨v,u,rfl,r1,r2⟩:=yI rx;obtain ⟨v',u',rfl,q1,q2⟩:=Yt rv;have r2:u = .ty m:=r2;subst r2;cases q2;obtain ⟨P,Z,hP,hne⟩:=XV I hh kk e1 r1 q1
    exact PySem.W.kia_one Z I.kIn hP (jaU X.K (uq e1) hm) hne fun tk=>⟨.bl _,H,I.tok _,rfl,q W H _ (.refl W) hh rfl⟩
   ·cases e
  ·cases e
 ·rename_i x ts;split at e
  ·rename_i n ns e1 e2;cases e;obtain ⟨v,u,rfl,r1,r2⟩:=yI rx;obtain ⟨v',u',rfl,q1,q2⟩:=Yt rv;obtain ⟨a,ws,rfl,ha,rr⟩:=xg hh r2;cases q2;rw [kk] at ha;obtain ⟨its,rs,p,_⟩:=I.tuple ha;obtain ⟨⟨cl,dd,dt,sl⟩,h1,h2,nn,h3⟩:=p;simp only at h2 h3;subst h2;subst h3;obtain ⟨e3,hk⟩:=Vq e2 rr rs;obtain ⟨P,Z,hP,hne⟩:=XV I hh kk e1 r1 q1
   exact PySem.W.kia_tup Z I.kIn hP h1 (by rw [e3]; exact JF X.K (uq e1) hk) hne fun tk=>⟨.bl _,H,I.tok _,rfl,q W H _ (.refl W) hh rfl⟩
  ·cases e
 ·cases e
end
end L3
namespace L3
open PySem L2
inductive ItP where
 | fix (xs:List PV) | live (i:Nat) | gen (f:Sto->Option (List PV))
def nxt (p:ItP) (M:Sto) (i:Nat):Option (Option PV):=match p with
 | .fix xs=>some (xs[i]?)
 | .live j=>(yE M (.ref j)).map fun xs=>xs[i]?
 | .gen f=>(f M).map fun xs=>xs[i]?
theorem vN {j i:Nat} {M:Sto} {xs:List PV} (e:yE M (.ref j)=some xs):nxt (.live j) M i=some (xs[i]?):=by
 unfold nxt;simp only [e];rfl
theorem yK {j i:Nat} {M:Sto} (e:yE M (.ref j)=none):nxt (.live j) M i=none:=by
 unfold nxt;simp only [e];rfl
def RI (W:Wd) (p:ItP) (J:It):Prop:=∀ W' M' H',W.le0 W'->Held W' M' H'->∀ i,(∀ x,nxt p M' i=some (some x)->J.go i H'∧∀ v H'',J.yld i H' v H''->∃ W'',W'.le W''∧Held W'' M' H''∧Rep W'' x v)∧(nxt p M' i=some none->J.stop i H')
structure QI (X:Cx) (T:Tb) (ES:St->XK) (tg iter:Expr) (d:En->Sto->Res ItP):Prop where
 h:PI X tg iter (lft T RI ES d)
section
variable {X:Cx} {T:Tb} {ES:St->XK} {a b e tg iter:Expr} {es:List Expr} {p pos:Pos} {d:DE} {ds:DA}
theorem vo {t t':TI} (h:PI X tg iter t) (f:∀ σ H R,t' σ H R->t σ H R):PI X tg iter t':=fun pins s σ H R I q=>h pins s σ H R I (f σ H R q)
def itOf (M:Sto):PV->Option ItP
 | .lst xs=>some (.fix xs)
 | .ref i=>(match M.g i with
  | some (.lst _)=>some (.live i)
  | _=>none)
 | _=>none
def dIt (d:DE):En->Sto->Res ItP:=fun ρ M=>(d ρ M).bind fun x M1=>ofO (itOf M1 x) M1
theorem uV {K:PySem.W.Frag} {W:Wd} {J:It} {x:ItP} {a:Addr} (hJ:J=Itl K a) (h:∀ W' M' H',W.le0 W'->Held W' M' H'->∀ ys,(∀ i,nxt x M' i=some (ys[i]?))->∃ vs,H' a=some (.lst vs)∧jl W' ys vs) (hn:∀ M,(∃ ys:List PV,∀ i,nxt x M i=some (ys[i]?))∨∀ i,nxt x M i=none):RI W x J:=by
 subst hJ;intro W' M' H' le hh i
 rcases hn M' with ⟨ys,hy⟩ | hy
 ·obtain ⟨vs,ha,rr⟩:=h W' M' H' le hh ys hy;refine ⟨fun z e=>?_,fun e=>?_⟩
  ·rw [hy] at e
   cases e1:ys[i]? with
   | none=>rw [e1] at e; cases e
   | some z' =>
    rw [e1] at e;cases e;obtain ⟨v,e2,r2⟩:=rr.get e1;refine ⟨⟨vs,v,SqL.of ha,e2⟩,fun u H'' hQQ=>?_⟩;obtain ⟨eH,q⟩:=hQQ;subst eH
    have:=q vs (SqL.of ha)
    rw [e2] at this;cases this;exact ⟨W',.refl W',hh,r2⟩
  ·rw [hy] at e;have e:ys[i]? = none:=Option.some.inj e;exact ⟨vs,SqL.of ha,by rw [rr.length]; exact List.getElem?_eq_none_iff.mp e⟩
 ·refine ⟨fun z e=>?_,fun e=>?_⟩
  ·rw [hy] at e; cases e
  ·rw [hy] at e; cases e
theorem xb (h:QE X T ES e d):QI X T ES tg e (dIt d):=⟨vo (jfU h.h) fun σ H R hQQ=>jC hQQ fun W ρ M k hh hs q=>⟨W,ρ,M,k,hh,hs,jz.bind q fun W1 M1 x v H1 l1 h1 r1 p1=>by
 cases x with
 | lst xs =>
  obtain ⟨a,vs,rfl,ha,rr⟩:=r1;refine ⟨a,rfl,⟨vs,SqL.of (h1.f _ _ ha)⟩,p1 W1 H1 _ (.refl W1) h1 (uV rfl (fun W' M' H' le hh' ys hy=>?_) fun M=>.inl ⟨xs,fun i=>rfl⟩)⟩
  have:ys=xs:=List.ext_getElem? (fun i=>(Option.some.inj (hy i)).symm)
  subst this;exact ⟨vs,hh'.f _ _ (le.f _ _ ha),rr.up0 le⟩
 | ref j =>
  have p1:jz W1 RI (ofO (match M1.g j with
   | some (.lst _)=>some (ItP.live j)
   | _=>none) M1) R (ES σ):=p1
  split at p1
  ·rename_i xs e1;obtain ⟨a,rfl,ea⟩:=r1;obtain ⟨b,o,h2,h3,h4,vs,rfl,rr⟩:=h1.m j _ e1;rw [ea] at h2;cases h2;refine ⟨a,rfl,⟨vs,SqL.of h4⟩,p1 W1 H1 _ (.refl W1) h1 (uV rfl (fun W' M' H' le hh' ys hy=>?_) fun M=>?_)⟩
   ·cases e2:yE M' (.ref j) with
    | none =>
     have:=hy 0
     rw [yK e2] at this;cases this
    | some zs =>
     have:ys=zs:=List.ext_getElem? (fun i=>by
      have:=hy i
      rw [vN e2] at this
      exact (Option.some.inj this).symm)
     subst this;obtain ⟨a',vs',e3,h5,r5⟩:=yD (v:=.ref a) hh' (show Rep W' (.ref j) (.ref a) from ⟨a,rfl,le.a _ _ ea⟩) e2;cases e3;exact ⟨vs',h5,r5⟩
   ·cases e2:yE M (.ref j) with
    | none=>exact .inr fun i=>yK e2
    | some zs=>exact .inl ⟨zs,fun i=>vN e2⟩
  ·exact p1.elim
 | _=>exact p1.elim⟩⟩
def dItT (d:DE):En->Sto->Res ItP:=fun ρ M=>(d ρ M).bind fun x M1=>match x with
 | .tup xs=>.ok (.fix xs) M1
 | _=>.bad
theorem qi_tup (hT:T.K=X.K) (h:QE X T ES e d):QI X T ES tg e (dItT d):=⟨vo (pi_tup h.h) fun σ H R hQQ=>jC hQQ fun W ρ M k hh hs q=>⟨W,ρ,M,k,hh,hs,jz.bind q fun W1 M1 x v H1 l1 h1 r1 p1=>by
 split at p1
 ·rename_i xs;obtain ⟨a,vs,rfl,ha,rr⟩:=r1
  have kk:W1.T.K=X.K:=by rw [l1.k,k]; exact hT
  have ha1:SqT X.K H1 a vs:=kk ▸ vi h1.f ha;refine ⟨a,rfl,⟨vs,ha1⟩,p1 W1 H1 _ (.refl W1) h1 fun W' M' H' le hh' i=>?_⟩;have hq:SqT X.K H' a vs:=kk ▸ vi (fun b o q=>hh'.f b o (le.f b o q)) ha;refine ⟨fun z e=>?_,fun e=>?_⟩
  ·have e:xs[i]? = some z:=Option.some.inj e;obtain ⟨u,e2,r2⟩:=rr.get e;refine ⟨⟨vs,u,hq,e2⟩,fun w H'' hQQ=>?_⟩;obtain ⟨eH,q⟩:=hQQ;subst eH
   have:=q vs hq
   rw [e2] at this;cases this;exact ⟨W',.refl W',hh',r2.up0 le⟩
  ·have e:xs[i]? = none:=Option.some.inj e;exact ⟨vs,hq,by rw [rr.length]; exact List.getElem?_eq_none_iff.mp e⟩
 ·exact p1.elim⟩⟩
def jbP (lo:Int) (n:Nat):List PV:=(List.range n).map fun (i:Nat)=>PV.int (lo + i)
theorem Vu {lo:Int} {n i:Nat}:(jbP lo n)[i]? = if i < n then some (PV.int (lo + i)) else none:=by
 unfold jbP;rw [List.getElem?_map]
 by_cases h:i < n
 ·rw [if_pos h,List.getElem?_range h]; rfl
 ·rw [if_neg h,List.getElem?_eq_none_iff.mpr (by simpa using h)]; rfl
theorem ri_rng {W:Wd} {lo:Int} {n:Nat}:RI W (.fix (jbP lo n)) (Itr lo n):=by
 intro W' M' H' le hh i;refine ⟨fun x e=>?_,fun e=>?_⟩
 ·have e:(jbP lo n)[i]? = some x:=Option.some.inj e;rw [Vu] at e;split at e
  ·rename_i hi;cases e;refine ⟨hi,fun v H'' hQQ=>?_⟩;obtain ⟨eH,ev⟩:=hQQ;subst eH;subst ev;exact ⟨W',.refl W',hh,rfl⟩
  ·cases e
 ·have e:(jbP lo n)[i]? = none:=Option.some.inj e;rw [Vu] at e;split at e
  ·cases e
  ·rename_i hi;exact Nat.le_of_not_lt hi
def small (i:Int):Bool:=Nat.blt i.natAbs 4611686018427387904
theorem ue {i:Int}:small i=true↔-(2 ^ 62) < i∧i < 2 ^ 62:=by
 unfold small;rw [Nat.blt_eq];omega
def Uc (ds:DA):En->Sto->Res ItP:=fun ρ M=>(ds ρ M).bind fun xs M1=>match xs with
 | [.int j]=>if small j=true then .ok (.fix (jbP 0 j.toNat)) M1 else .bad
 | _=>.bad
theorem uY (hg:Gl X "range") (hm:X.mg "range" = none) (ha:QA X T ES [a] ds) (hs:starEach [a] X.env=[(false,eval a X.env)]:=by rfl):QI X T ES tg (.Call (.Name "range" p) [a] [] pos) (Uc ds) :=
 ⟨vo (jbX hg hm ha.h hs) fun σ H R hQQ=>jC hQQ fun W ρ M k hh hs q=>⟨W,ρ,M,k,hh,hs,jz.bind q fun W1 M1 xs vs H1 l1 h1 r1 p1=>by
  split at p1
  ·rename_i j;split at p1
   ·rename_i hj;obtain ⟨v,rfl,r⟩:=xE r1;have r:v = .int j:=r;subst r;exact ⟨j,rfl,Int.le_of_lt (ue.mp hj).1,(ue.mp hj).2,p1 W1 H1 _ (.refl W1) h1 ri_rng⟩
   ·exact p1.elim
  ·exact p1.elim⟩⟩
end
def Res.noX {α:Type}:Res α->Res α
 | .exc _ _=>.bad
 | r=>r
def Vl (x:PV) (r:En):Option En:=some (some x :: r)
def bnd2 (x:PV) (r:En):Option En:=match x with
 | .tup [a,b]=>some (some a :: some b :: r)
 | _=>none
def yC (p:ItP) (bnd:PV->En->Option En) (r:En) (dt:DT) (de:DE):Nat->Nat->Sto->Res (List PV)
 | 0,_,_=>.bad
 | n + 1,i,M=>match nxt p M i with
  | none=>.bad
  | some none=>.ok [] M
  | some (some x)=>match bnd x r with
   | none=>.bad
   | some ρ=>(dt ρ M).noX.bind fun b M1=>if b=true then (de ρ M1).noX.bind fun y M2=>(yC p bnd r dt de n (i + 1) M2).bind fun ys M3=>.ok (y :: ys) M3 else yC p bnd r dt de n (i + 1) M1
def jX (p:ItP) (M:Sto):Nat:=match p with
 | .fix xs=>xs.length + 1
 | .live i=>((yE M (.ref i)).getD []).length + 1
 | .gen f=>((f M).getD []).length + 1
def ju (js:List Nat) (ρ:En):En:=js.map fun j=>(ρ[j]?).getD none
def xT (di:En->Sto->Res ItP) (bnd:PV->En->Option En) (js:List Nat) (dt:DT) (de:DE):DE:=fun ρ M=>(di ρ M).bind fun p M1 =>
 if jX p M1<=sizeLine then (yC p bnd (ju js ρ) dt de (jX p M1) 0 M1).bind fun ys M2=>.ok (.lst ys) M2 else .bad
def dCompG (fv:List PV->Sto->PV) (fm:List PV->Sto->Sto) (di:En->Sto->Res ItP) (bnd:PV->En->Option En) (js:List Nat) (dt:DT) (de:DE):DE:=fun ρ M=>(di ρ M).bind fun p M1 =>
 if jX p M1<=sizeLine then (yC p bnd (ju js ρ) dt de (jX p M1) 0 M1).bind fun ys M2=>.ok (fv ys M2) (fm ys M2) else .bad
def vV:DT:=fun _ M=>.ok true M
structure QIf (X:Cx) (T:Tb) (ES:St->XK) (ifs:List Expr) (d:DT):Prop where
 h:PIf X ifs (lft T RB ES d)
theorem xz {X:Cx} {T:Tb} {ES:St->XK}:QIf X T ES [] vV:=⟨fun pins s σ H Q I hQQ=>jC hQQ fun W ρ M k hh hs p=>if_nil pins s σ H Q I (p W H true (.refl W) hh rfl)⟩
theorem jfD {X:Cx} {T:Tb} {ES:St->XK} {c:Expr} {d:DT} (h:QT X T ES c d):QIf X T ES [c] d:=⟨if_one h.h⟩
abbrev ES0:St->XK:=fun _=>E0
theorem Jt {W:Wd} {ρ:En} {σ:St} {js:List Nat} (h:jJ W ρ σ):jJ W (ju js ρ) (js.map fun j=>(σ[j]?).getD none):=by
 refine ⟨by simp [ju],fun i x e=>?_⟩;unfold ju at e;rw [List.getElem?_map] at e;rw [List.getElem?_map]
 cases hj:js[i]? with
 | none=>rw [hj] at e; cases e
 | some j =>
  rw [hj] at e;have e:(ρ[j]?).getD none=some x:=Option.some.inj e
  cases e1:ρ[j]? with
  | none=>rw [e1] at e; cases e
  | some o =>
   rw [e1] at e;cases e;obtain ⟨v,e2,r⟩:=h.2 j x e1;refine ⟨v,?_,r⟩;show some ((σ[j]?).getD none)=_;rw [e2];rfl
theorem uh {W:Wd} {ρ:En} {σ:St} {x:PV} {v:V} (h:jJ W ρ σ) (r:Rep W x v):jJ W (some x :: ρ) (some v :: σ):=by
 refine ⟨by simp [h.1],fun i y e=>?_⟩
 cases i with
 | zero =>
  cases e;exact ⟨v,rfl,r⟩
 | succ i=>exact h.2 i y e
structure Bnd (T:Tb) (own:Nat) (g:TG) (bnd:PV->En->Option En):Prop where
 go:∀ (W:Wd) (M:Sto) (H:Hp) (js:List Nat) (ρ:En) (σ:St) (x:PV) (v:V) (ρ':En) (Q:St->Hp->Prop),W.T=T->Held W M H->jJ W ρ σ->Rep W x v->bnd x (ju js ρ)=some ρ' ->
  (∀ σ',jJ W ρ' σ'->ua (yB own js σ) σ'->Q σ' H)->g v (yB own js σ) H Q
theorem Yc {T:Tb}:Bnd T 1 (xL 0) Vl:=⟨fun W M H js ρ σ x v ρ' Q k hh hs r e q=>by
 cases e
 exact q _ (uh (Jt hs) r) keep1⟩
theorem bnd_2 {T:Tb}:Bnd T 2 (gTup T.K 2 (VV (xL 0) (VV (xL 1) gNil))) bnd2:=⟨fun W M H js ρ σ x v ρ' Q k hh hs r e q=>by
 unfold bnd2 at e;split at e
 ·rename_i a b;cases e;obtain ⟨p,vs,rfl,ha,rr⟩:=xg hh r;obtain ⟨va,vb,rfl,ra,rb⟩:=yI rr;rw [k] at ha;refine ⟨p,_,rfl,ha,rfl,va,[vb],rfl,vb,[],rfl,rfl,?_⟩;exact q _ (uh (uh (Jt hs) rb) ra) VO
 ·cases e⟩
theorem jcu {it:ItP} {bnd:PV->En->Option En} {r:En} {dt:DT} {de:DE}:∀ (n i:Nat) (M:Sto) (c:Nat) (M':Sto),yC it bnd r dt de n i M≠.exc c M':=by
 intro n
 induction n with
 | zero=>intro i M c M' z; cases z
 | succ n ih =>
  intro i M c M' z;unfold yC at z;split at z
  ·cases z
  ·cases z
  ·split at z
   ·cases z
   ·rename_i ρ' _
    cases e1:dt ρ' M with
    | bad=>rw [e1] at z; cases z
    | exc _ _=>rw [e1] at z; cases z
    | ok b M1 =>
     rw [e1] at z
     cases b with
     | false=>exact ih _ _ _ _ z
     | true =>
      have z:(de ρ' M1).noX.bind (fun y M2=>(yC it bnd r dt de n (i + 1) M2).bind fun ys M3=>.ok (y :: ys) M3) = .exc c M':=z
      cases e2:de ρ' M1 with
      | bad=>rw [e2] at z; cases z
      | exc _ _=>rw [e2] at z; cases z
      | ok y M2 =>
       rw [e2] at z;have z:(yC it bnd r dt de n (i + 1) M2).bind (fun ys M3=>Res.ok (y :: ys) M3) = .exc c M':=z
       cases e3:yC it bnd r dt de n (i + 1) M2 with
       | bad=>rw [e3] at z; cases z
       | exc _ _=>exact ih _ _ _ _ e3
       | ok _ _=>rw [e3] at z; cases z
section
variable {X:Cx} {T:Tb} {ES:St->XK} {osc sc:Scope} {own fr:List Str} {js:List Nat} {elt target iter:Expr} {ifs:List Expr} {pos:Pos} {di:En->Sto->Res ItP} {g:TG} {bnd:PV->En->Option En} {dt:DT} {de:DE}
def RIg (W:Wd) (p:ItP) (J:It):Prop:=∀ W' M' H',W.le0 W'->(∀ b u,W.G b=some u->W'.G b=some u)->Held W' M' H'->∀ i,(∀ x,nxt p M' i=some (some x)->J.go i H'∧∀ v H'',J.yld i H' v H''->∃ W'',W'.le W''∧Held W'' M' H''∧Rep W'' x v)∧(nxt p M' i=some none->J.stop i H')
theorem jeS {on:Nat} {σ:St} {Q:VK} {E:XK} (B:Bnd T on g bnd) (fv:List PV->Sto->PV) (fm:List PV->Sto->Sto) (fin1:∀ {W:Wd} {M:Sto} {H G0:Hp} {l:Addr} {ys:List PV} {vs:List V},Held W M H->W.G l=some (.lst vs)->(∀ b u,G0 b=some u->W.G b=some u∧b≠l)->jl W ys vs->∃ W',W.le0 W'∧W'.G=G0∧Held W' (fm ys M) H∧Rep W' (fv ys M) (.ref l))
  {W0:Wd} {ρ:En} {M0:Sto} {it:ItP} {J:It} {H0:Hp} (k0:W0.T=T) (hs0:jJ W0 ρ σ) (h0:Held W0 M0 H0) (ri:RIg W0 it J) (p0:jz W0 Rep (if jX it M0<=sizeLine then (yC it bnd (ju js ρ) dt de (jX it M0) 0 M0).bind fun ys M2=>.ok (fv ys M2) (fm ys M2) else .bad) Q E) (acc:Addr) (hacc:H0 acc=none):jfe J acc on js g (lft T RB ES0 dt) (lft T Rep ES0 de) σ Q H0:=by
 by_cases hf:jX it M0<=sizeLine
 rotate_left
 ·rw [if_neg hf] at p0; exact p0.elim
 rw [if_pos hf] at p0
 have gacc:W0.G acc=none:=by
  cases q:W0.G acc with
  | none=>rfl
  | some o =>
   rw [(h0.gd acc o q).1] at hacc;cases hacc
 -- what is wanted of the ju
 let Fin:Wd->List PV->Res (List PV)->Prop:=fun W ys r=>match r with
  | .ok zs M'=>∀ W' H' v,W0.le W'->Held W' (fm (ys ++ zs) M') H'->Rep W' (fv (ys ++ zs) M') v->Q v H'
  | _=>False
 have fin0:Fin W0 [] (yC it bnd (ju js ρ) dt de (jX it M0) 0 M0):=by
  cases e:yC it bnd (ju js ρ) dt de (jX it M0) 0 M0 with
  | ok zs M'=>rw [e] at p0; exact fun W' H' v le hh' r=>p0 W' H' v le hh' r
  | exc c M' =>
   exfalso
   exact jcu _ _ _ _ _ e
  | bad=>rw [e] at p0; exact p0.elim
 refine ⟨fun i m vs H2=>i + m=jX it M0∧vs.length<=i∧∃ W M ys,W0.le0 W∧W.G=L2.upd W0.G acc (.lst vs)∧Held W M H2∧jl W ys vs∧Fin W ys (yC it bnd (ju js ρ) dt de m i M),
  ⟨jX it M0,by simp,by simp,W0.gd acc (.lst []),M0,[],Wd.le0_gd,rfl,h0.guard hacc,rfl,fin0⟩,?_⟩
 rintro i m vs H2 ⟨hi,hl,W1,M1,ys,le1,g1,h1,r1,f1⟩;have k1:W1.T=T:=le1.k.trans k0
 have hs1:jJ W1 ρ σ:=⟨hs0.1,fun i x e=>by
  obtain ⟨v,e1,r⟩:=hs0.2 i x e
  exact ⟨v,e1,r.up0 le1⟩⟩
 have ga1:W1.G acc=some (.lst vs):=by rw [g1,jo]
 cases m with
 | zero=>exact f1.elim
 | succ m =>
  unfold yC at f1
  obtain ⟨goes,stops⟩:=ri W1 M1 H2 le1 (fun b u q=>by
   have z:b≠acc:=fun z=>by rw [z,gacc] at q; cases q
   rw [g1,ji z]
   exact q) h1 i
  split at f1
  ·exact f1.elim
  ·rename_i en;refine .inl ⟨stops en,?_⟩
   obtain ⟨W5,l5,g5,h5,r5⟩:=fin1 (G0:=W0.G) h1 ga1 (fun b u q=>by
    have z:b≠acc:=fun z=>by rw [z,gacc] at q; cases q
    exact ⟨by rw [g1,ji z]; exact q,z⟩) r1
   have f1:∀ W' H' v,W0.le W'->Held W' (fm (ys ++ []) M1) H'->Rep W' (fv (ys ++ []) M1) v->Q v H':=f1;rw [List.append_nil] at f1;exact f1 W5 H2 (.ref acc) ⟨le1.trans l5,g5⟩ h5 r5
  ·rename_i x en;split at f1
   ·exact f1.elim
   ·rename_i ρ' eb;obtain ⟨go,yld⟩:=goes x en
    have hlen:vs.length < sizeLine:=by omega
    refine .inr ⟨go,hlen,fun vs' H'=>i + 1 + m=jX it M0∧vs'.length<=i + 1∧∃ W M ys,W0.le0 W∧W.G=L2.upd W0.G acc (.lst vs')∧Held W M H'∧jl W ys vs'∧Fin W ys (yC it bnd (ju js ρ) dt de m (i + 1) M),
     fun vs' H' q=>⟨m,Nat.lt_succ_self _,q⟩,fun v H3 hy=>?_⟩
    obtain ⟨W2,l2,h2,r2⟩:=yld v H3 hy;have k2:W2.T=T:=l2.k.trans k1
    refine B.go W2 M1 H3 js ρ σ x v ρ' _ k2 h2 (hs1.up l2) r2 eb fun σ4 rs4 kp=>⟨kp,?_⟩
    cases e1:dt ρ' M1 with
    | bad=>rw [e1] at f1; exact f1.elim
    | exc _ _=>rw [e1] at f1; exact f1.elim
    | ok b M2 =>
     rw [e1] at f1;refine ⟨W2,ρ',M1,k2,h2,rs4,?_⟩;rw [e1];intro W3 H5 b' l3 h3 eb';subst eb'
     have g3:W3.G=L2.upd W0.G acc (.lst vs):=by rw [l3.g,l2.g,g1]
     have le3:W0.le0 W3:=(le1.trans l2.toLe0).trans l3.toLe0;have r3:jl W3 ys vs:=(r1.up l2).up l3
     cases b' with
     | false =>
      rw [if_neg (by simp)];exact ⟨by omega,by omega,W3,M2,ys,le3,g3,h3,r3,f1⟩
     | true =>
      rw [if_pos rfl];have f1:Fin W1 ys ((de ρ' M2).noX.bind fun y M2=>(yC it bnd (ju js ρ) dt de m (i + 1) M2).bind fun zs M3=>.ok (y :: zs) M3):=f1;refine ⟨W3,ρ',M2,l3.k.trans k2,h3,rs4.up l3,?_⟩
      cases e2:de ρ' M2 with
      | bad=>rw [e2] at f1; exact f1.elim
      | exc _ _=>rw [e2] at f1; exact f1.elim
      | ok y M3 =>
       rw [e2] at f1;intro W4 H6 w l4 h4 r4
       have g4:W4.G=L2.upd W0.G acc (.lst vs):=by rw [l4.g,g3]
       have ga4:W4.G acc=some (.lst vs):=by rw [g4,jo]
       refine ⟨(h4.gd _ _ ga4).1,by omega,by simp; omega,W4.gd acc (.lst (vs ++ [w])),M3,ys ++ [y],(le3.trans l4.toLe0).trans Wd.le0_gd,?_,h4.reguard ga4,?_,?_⟩
       ·show L2.upd W4.G acc (.lst (vs ++ [w]))=_;rw [g4,xX]
       ·exact jl.up0 Wd.le0_gd ((r3.up l4).append (show jl W4 [y] [w] from ⟨w,[],rfl,r4,rfl⟩))
       ·have f1:Fin W1 ys ((yC it bnd (ju js ρ) dt de m (i + 1) M3).bind fun zs M3=>.ok (y :: zs) M3):=f1
        cases e3:yC it bnd (ju js ρ) dt de m (i + 1) M3 with
        | bad=>rw [e3] at f1; exact f1.elim
        | exc _ _=>rw [e3] at f1; exact f1.elim
        | ok zs M4 =>
         rw [e3] at f1;have f1:∀ W' H' v,W0.le W'->Held W' (fm (ys ++ (y :: zs)) M4) H'->Rep W' (fv (ys ++ (y :: zs)) M4) v->Q v H':=f1;show ∀ W' H' v,W0.le W'->Held W' (fm ((ys ++ [y]) ++ zs) M4) H'->Rep W' (fv ((ys ++ [y]) ++ zs) M4) v->Q v H';rw [List.append_assoc];exact f1
theorem jad {on:Nat} {σ:St} {H:Hp} {Q:VK} (B:Bnd T on g bnd) (fv:List PV->Sto->PV) (fm:List PV->Sto->Sto) (fin1:∀ {W:Wd} {M:Sto} {H G0:Hp} {l:Addr} {ys:List PV} {vs:List V},Held W M H->W.G l=some (.lst vs)->(∀ b u,G0 b=some u->W.G b=some u∧b≠l)->jl W ys vs->∃ W',W.le0 W'∧W'.G=G0∧Held W' (fm ys M) H∧Rep W' (fv ys M) (.ref l)) (h:lft T Rep ES (dCompG fv fm di bnd js dt de) σ H Q):jcP (lft T RI ES di) on js g (lft T RB ES0 dt) (lft T Rep ES0 de) σ H Q:=by
 obtain ⟨W,ρ,M,k,hh,hs,p⟩:=h;exact ⟨W,ρ,M,k,hh,hs,jz.bind p fun W0 M0 it J H0 l0 h0 ri p0=>fun acc hacc=>jeS B fv fm fin1 (l0.k.trans k) (hs.up l0) h0 (fun W' M' H' le _ hh' i=>ri W' M' H' le hh' i) p0 acc hacc⟩
theorem jcs {on:Nat} {σ:St} {H:Hp} {Q:VK} (B:Bnd T on g bnd) (h:lft T Rep ES (xT di bnd js dt de) σ H Q):jcP (lft T RI ES di) on js g (lft T RB ES0 dt) (lft T Rep ES0 de) σ H Q :=
 jad B (fun ys _=>.lst ys) (fun _ M=>M) (fun {W M H G0 l ys vs} h e hg r=>by
  obtain ⟨l2,h2⟩:=h.unguard e hg
  exact ⟨W.out G0 l (.lst vs),l2,rfl,h2,l,vs,rfl,jo,r.up0 l2⟩) h
theorem xc (B:Bnd T own.length g bnd) (hc:X.calm=true) (ho:X.env.scope=osc) (S:CompScope osc sc own fr) (hj:js.map (fun j=>X.N[j]?)=fr.map some) (hi:QI X T ES target iter di)
  (hg:∀ s₃ H₃ fp,PG (jp X (own ++ fr) sc s₃ H₃ fp) target g) (ht:∀ s₃ H₃ fp,QIf (jp X (own ++ fr) sc s₃ H₃ fp) T ES0 ifs dt) (he:∀ s₃ H₃ fp,QE (jp X (own ++ fr) sc s₃ H₃ fp) T ES0 elt de)
  (hs:∀ x,foldedSetIterable iter X.env x=pure x:=by intro _; rfl):QE X T ES (.ListComp elt [⟨target,iter,ifs,0⟩] sc pos) (xT di bnd js dt de) :=
 ⟨jO (jfZ hc ho S hj hi.h hg (fun a b c=>(ht a b c).h) (fun a b c=>(he a b c).h) hs) fun _ _ _=>jcs B⟩
end
end L3
namespace L3
open PySem L2
inductive RS where
 | nx (ρ:En) (M:Sto) | rt (v:PV) (M:Sto) | bk (ρ:En) (M:Sto) | ct (ρ:En) (M:Sto) | exc (k:Nat) (ρ:En) (M:Sto) | bad
abbrev DS:=En->Sto->RS
def RS.then (r:RS) (k:En->Sto->RS):RS:=match r with
 | .nx ρ M=>k ρ M
 | r=>r
@[simp] theorem RS.then_nx {ρ : En} {M : Sto} {k : En -> Sto -> RS} : (RS.nx ρ M).then k = k ρ M := rfl
@[simp] theorem RS.then_rt {v : PV} {M : Sto} {k : En -> Sto -> RS} : (RS.rt v M).then k = .rt v M := rfl
@[simp] theorem RS.then_exc {c : Nat} {ρ : En} {M : Sto} {k : En -> Sto -> RS} : (RS.exc c ρ M).then k = .exc c ρ M := rfl
def Res.st {α:Type} (r:Res α) (ρ:En) (k:α->Sto->RS):RS:=match r with
 | .ok a M=>k a M
 | .exc c M=>.exc c ρ M
 | .bad=>.bad
@[simp] theorem Res.st_ok {α : Type} {a : α} {M : Sto} {ρ : En} {k : α -> Sto -> RS} : (Res.ok a M).st ρ k = k a M := rfl
@[simp] theorem Res.st_exc {α : Type} {c : Nat} {M : Sto} {ρ : En} {k : α -> Sto -> RS} : (Res.exc c M).st ρ k = .exc c ρ M := rfl
@[simp] theorem Res.st_bad {α : Type} {ρ : En} {k : α -> Sto -> RS} : (Res.bad).st ρ k = .bad := rfl
def jK (W:Wd) (r:RS) (D:Ends) (ES:St->XK):Prop:=match r with
 | .nx ρ M=>∀ W' σ' H',W.le W'->Held W' M H'->jJ W' ρ σ'->D.nx σ' H'
 | .rt v M=>∀ W' H' u,W.le W'->Held W' M H'->Rep W' v u->D.rt u H'
 | .bk ρ M=>∀ W' σ' H',W.le W'->Held W' M H'->jJ W' ρ σ'->D.bk σ' H'
 | .ct ρ M=>∀ W' σ' H',W.le W'->Held W' M H'->jJ W' ρ σ'->D.ct σ' H'
 | .exc k ρ M=>∀ W' σ' H' dd,W.le W'->Held W' M H'->jJ W' ρ σ'->Yh W' k dd->ES σ' (.ref (W.T.C (k % 64))) dd H'
 | .bad=>False
theorem jK.up {W W':Wd} {r:RS} {D:Ends} {ES:St->XK} (h:jK W r D ES) (le:W.le W'):jK W' r D ES:=by
 cases r with
 | nx ρ M=>exact fun W2 σ2 H2 l2 h2 r2=>h W2 σ2 H2 (le.trans l2) h2 r2
 | rt v M=>exact fun W2 H2 u l2 h2 r2=>h W2 H2 u (le.trans l2) h2 r2
 | bk ρ M=>exact fun W2 σ2 H2 l2 h2 r2=>h W2 σ2 H2 (le.trans l2) h2 r2
 | ct ρ M=>exact fun W2 σ2 H2 l2 h2 r2=>h W2 σ2 H2 (le.trans l2) h2 r2
 | exc k ρ M =>
  intro W2 σ2 H2 dd l2 h2 r2 z
  have:=h W2 σ2 H2 dd (le.trans l2) h2 r2 z
  rw [le.k];exact this
 | bad=>exact h.elim
def jef (T:Tb) (ES:St->XK) (d:DS):TS:=fun D σ H=>∃ W ρ M,W.T=T∧Held W M H∧jJ W ρ σ∧jK W (d ρ M) D ES
theorem yj {T:Tb} {ES:St->XK} {d:DS} {D:Ends} {σ:St} {H:Hp} {P:Prop} (h:jef T ES d D σ H) (k:∀ W ρ M,W.T=T->Held W M H->jJ W ρ σ->jK W (d ρ M) D ES->P):P:=by
 obtain ⟨W,ρ,M,a,b,c,e⟩:=h;exact k W ρ M a b c e
structure QS (X:Cx) (T:Tb) (ES:St->XK) (st:Stmt) (d:DS):Prop where
 h:PS X st (jef T ES d)
structure QSs (X:Cx) (T:Tb) (ES:St->XK) (st:List Stmt) (d:DS):Prop where
 h:PSs X st (jef T ES d)
theorem jK.bind {α β:Type} {W:Wd} {R1:Wd->α->β->Prop} {r:Res α} {ρ:En} {σ:St} {k:α->Sto->RS} {D:Ends} {ES:St->XK} {Q1:β->Hp->Prop} (hs:jJ W ρ σ) (h:jK W (r.st ρ k) D ES)
  (f:∀ W' M a b H1,W.le W'->Held W' M H1->R1 W' a b->jK W' (k a M) D ES->Q1 b H1):jz W R1 r Q1 (ES σ):=by
 cases r with
 | ok a M=>exact fun W2 H2 b l2 h2 r2=>f W2 M a b H2 l2 h2 r2 (jK.up (r:=k a M) h l2)
 | exc k M=>exact fun W2 H2 dd l2 h2 z=>h W2 σ H2 dd l2 h2 (hs.up l2) z
 | bad=>exact h.elim
section
variable {X:Cx} {T:Tb} {ES:St->XK} {e a b c o:Expr} {es:List Expr} {pos p:Pos} {st:Stmt} {sts ju:List Stmt} {d de da db do_ di:DE} {d1 d2:DS} {ta:DT} {ds:DA}
theorem yH {t t':TS} (h:PS X st t) (f:∀ D σ H,t' D σ H->t D σ H):PS X st t':=fun pins s σ H D I q=>h pins s σ H D I (f D σ H q)
theorem XQ {t t':TS} (h:PSs X sts t) (f:∀ D σ H,t' D σ H->t D σ H):PSs X sts t':=fun pins s σ H D I q=>h pins s σ H D I (f D σ H q)
def jU:DS:=fun ρ M=>.nx ρ M
def jy (d1 d2:DS):DS:=fun ρ M=>(d1 ρ M).then d2
theorem jH:QSs X T ES [] jU:=⟨XQ jaH fun D σ H hQQ=>yj hQQ fun W ρ M k hh hs q=>q W σ H (.refl W) hh hs⟩
theorem jj (h:QS X T ES st d1):QSs X T ES [st] d1:=⟨jaG h.h⟩
theorem jh (h1:QS X T ES st d1) (h2:QSs X T ES ju d2):QSs X T ES (st :: ju) (jy d1 d2):=⟨XQ (vL h1.h h2.h) fun D σ H hQQ=>yj hQQ fun W ρ M k hh hs q=>⟨W,ρ,M,k,hh,hs,by
 unfold jy at q
 cases e:d1 ρ M with
 | nx ρ1 M1 =>
  rw [e] at q
  exact fun W1 σ1 H1 l1 h1 r1=>⟨W1,ρ1,M1,l1.k.trans k,h1,r1,jK.up (r:=d2 ρ1 M1) q l1⟩
 | rt v M1=>rw [e] at q; exact q
 | bk ρ1 M1=>rw [e] at q; exact q
 | ct ρ1 M1=>rw [e] at q; exact q
 | exc c ρ1 M1=>rw [e] at q; exact q
 | bad=>rw [e] at q; exact q⟩⟩
def uQ:DS:=fun _ _=>.bad
theorem yp:QS X T ES st uQ:=⟨yH jdz fun D σ H hQQ=>yj hQQ fun _ _ _ _ _ _ q=>q⟩
def yP (d:DE):DS:=fun ρ M=>(d ρ M).st ρ fun _ M1=>.nx ρ M1
theorem ym (he:QE X T ES e d) (hs:swapsWith e none pos.line X.env=pure false:=by rfl):QS X T ES (.Expr e pos) (yP d):=⟨yH (jaI he.h hs) fun D σ H hQQ=>yj hQQ fun W ρ M k hh hs q=>⟨W,ρ,M,k,hh,hs,jK.bind hs q fun W1 M1 x v H1 l1 h1 r1 q1=>q1 W1 σ H1 (.refl W1) h1 (hs.up l1)⟩⟩
def yb (d:DE):DS:=fun ρ M=>(d ρ M).st ρ fun v M1=>.rt v M1
theorem jA (he:QE X T ES e d):QS X T ES (.Return (some e) pos) (yb d):=⟨yH (ps_ret he.h) fun D σ H hQQ=>yj hQQ fun W ρ M k hh hs q=>⟨W,ρ,M,k,hh,hs,jK.bind hs q fun W1 M1 x v H1 l1 h1 r1 q1=>q1 W1 H1 v (.refl W1) h1 r1⟩⟩
def sIf (t:DT) (d1 d2:DS):DS:=fun ρ M=>(t ρ M).st ρ fun c M1=>if c=true then d1 ρ M1 else d2 ρ M1
theorem yk {sa sb:List Stmt} (hc:QT X T ES c ta) (ha:QSs X T ES sa d1) (hb:QSs X T ES sb d2):QS X T ES (.If c sa sb pos) (sIf ta d1 d2):=⟨yH (ps_if hc.h ha.h hb.h) fun D σ H hQQ=>yj hQQ fun W ρ M k hh hs q =>
 ⟨W,ρ,M,k,hh,hs,jK.bind hs q fun W1 M1 x v H1 l1 h1 r1 q1=>by
  subst r1
  cases v with
  | true=>rw [if_pos rfl] at q1 ⊢; exact ⟨W1,ρ,M1,l1.k.trans k,h1,hs.up l1,q1⟩
  | false=>rw [if_neg (by simp)] at q1 ⊢; exact ⟨W1,ρ,M1,l1.k.trans k,h1,hs.up l1,q1⟩⟩⟩
def yo (i:Nat) (d:DE):DS:=fun ρ M=>(d ρ M).st ρ fun v M1=>.nx (ρ.set i (some v)) M1
theorem jcY {i:Nat} {D:Ends} {σ:St} {H:Hp} (h:jef T ES (yo i d) D σ H):jhA (lft T Rep ES d) (xL i) D σ H:=by
 obtain ⟨W,ρ,M,k,hh,hs,q⟩:=h;exact ⟨W,ρ,M,k,hh,hs,jK.bind hs q fun W1 M1 x v H1 l1 h1 r1 q1=>q1 W1 _ H1 (.refl W1) h1 ((hs.up l1).set r1)⟩
theorem jQ {i:Nat} {x:Str} {pos':Pos} (hN:X.N.Nodup) (hi:X.N[i]? = some x) (hx:Loc X.env.scope x) (he:QE X T ES e d) (hs:swapsWith e (some (.Name x pos')) pos.line X.env=pure false:=by rfl) (hf:X.fn x=true∨X.env.scope.names.lookup x=some .local:=by first | exact .inl rfl | exact .inr rfl | assumption) :
  QS X T ES (.Assign [.Name x pos'] e pos) (yo i d):=⟨yH (jdx hN hi hx he.h hs hf) fun _ _ _=>jcY⟩
abbrev DG:=PV->En->Option En
abbrev DGs:=List PV->En->Option En
def lftG (T:Tb) (g:DG):TG:=fun v σ H Q=>∃ W ρ M x ρ',W.T=T∧Held W M H∧jJ W ρ σ∧Rep W x v∧g x ρ=some ρ'∧∀ σ',jJ W ρ' σ'->Q σ' H
def lftGs (T:Tb) (g:DGs):TGs:=fun vs σ H Q=>∃ W ρ M xs ρ',W.T=T∧Held W M H∧jJ W ρ σ∧jl W xs vs∧g xs ρ=some ρ'∧∀ σ',jJ W ρ' σ'->Q σ' H
structure QG (X:Cx) (T:Tb) (tg:Expr) (g:DG):Prop where
 h:PG X tg (lftG T g)
structure QGs (X:Cx) (T:Tb) (tgs:List Expr) (g:DGs):Prop where
 h:PGs X tgs (lftGs T g)
variable {tg:Expr} {tgs:List Expr}
theorem jdH {t t':TG} (h:PG X tg t) (f:∀ v σ H Q,t' v σ H Q->t v σ H Q):PG X tg t':=fun pins s σ H v u Q I r q=>h pins s σ H v u Q I r (f v σ H Q q)
theorem jaN {t t':TGs} (h:PGs X tgs t) (f:∀ v σ H Q,t' v σ H Q->t v σ H Q):PGs X tgs t':=fun pins s σ H v u Q I r q=>h pins s σ H v u Q I r (f v σ H Q q)
def gN (i:Nat):DG:=fun x ρ=>some (ρ.set i (some x))
theorem xY {i:Nat} {x:Str} (hN:X.N.Nodup) (hi:X.N[i]? = some x) (hx:Loc X.env.scope x) (hf:X.fn x=true∨X.env.scope.names.lookup x=some .local:=by first | exact .inl rfl | exact .inr rfl | assumption):QG X T (.Name x pos) (gN i) :=
 ⟨jdH (yr hN hi hx hf) fun v σ H Q hQQ=>by
  obtain ⟨W,ρ,M,x,ρ',k,hh,hs,r,e,q⟩:=hQQ;cases e
  exact q _ (hs.set r)⟩
def jeq:DGs:=fun xs ρ=>match xs with
 | []=>some ρ
 | _=>none
def JK (g:DG) (gs:DGs):DGs:=fun xs ρ=>match xs with
 | x :: r=>(g x ρ).bind fun ρ1=>gs r ρ1
 | _=>none
theorem jfF:QGs X T [] jeq:=⟨jaN jaM fun v σ H Q hQQ=>by
 obtain ⟨W,ρ,M,xs,ρ',k,hh,hs,r,e,q⟩:=hQQ
 cases xs with
 | nil=>cases e; cases r; exact ⟨rfl,q σ hs⟩
 | cons _ _=>cases e⟩
theorem Vy {g:DG} {gs:DGs} (h1:QG X T tg g) (h2:QGs X T tgs gs) (hs:(assignEach (tg :: tgs) X.env).map (·.2)=assign tg X.env :: (assignEach tgs X.env).map (·.2):=by rfl):QGs X T (tg :: tgs) (JK g gs) :=
 ⟨jaN (Jx h1.h h2.h hs) fun v σ H Q hQQ=>by
  obtain ⟨W,ρ,M,xs,ρ',k,hh,hs,r,e,q⟩:=hQQ
  cases xs with
  | nil=>cases e
  | cons x xr =>
   obtain ⟨u,ur,rfl,ra,rb⟩:=r;have e:(g x ρ).bind (fun ρ1=>gs xr ρ1)=some ρ':=e
   cases e1:g x ρ with
   | none=>rw [e1] at e; cases e
   | some ρ1 =>
    rw [e1] at e
    exact ⟨u,ur,rfl,W,ρ,M,x,ρ1,k,hh,hs,ra,e1,fun σ1 r1=>⟨W,ρ1,M,xr,ρ',k,hh,r1,rb,e,q⟩⟩⟩
def gT (n:Nat) (gs:DGs):DG:=fun x ρ=>match x with
 | .tup xs=>if xs.length=n then gs xs ρ else none
 | _=>none
theorem qg_tup {k:Nat} {gs:DGs} {n:Nat} (hT:T.K=X.K) (hc:X.calm=true) (h:QGs X T tgs gs) (hn:(assignEach tgs X.env).length=n:=by rfl) (hst:(assignEach tgs X.env).findIdx? (·.1)=none:=by rfl):QG X T (.Tuple tgs k pos) (gT n gs) :=
 ⟨jdH (jdG hc h.h hn hst) fun v σ H Q hQQ=>by
  obtain ⟨W,ρ,M,x,ρ',k,hh,hs,r,e,q⟩:=hQQ;unfold gT at e;split at e
  ·rename_i xs;split at e
   ·rename_i hl;obtain ⟨a,vs,rfl,ha,rr⟩:=xg hh r;rw [k,hT] at ha;exact ⟨a,vs,rfl,ha,by rw [rr.length]; exact hl,W,ρ,M,xs,ρ',k,hh,hs,rr,e,q⟩
   ·cases e
  ·cases e⟩
def jfJ (M:Sto) (o i x:PV):Option Sto:=match o,i with
 | .ref j,.int k=>(match M.g j with
  | some (.lst xs)=>(ixN xs.length k).map fun n=>M.set j (.lst (xs.set n x))
  | _=>none)
 | _,_=>none
def jaz (d do_ di:DE):DS:=fun ρ M=>(d ρ M).st ρ fun x M1=>(do_ ρ M1).st ρ fun o M2=>(di ρ M2).st ρ fun i M3=>match jfJ M3 o i x with
 | some M4=>.nx ρ M4
 | none=>.bad
theorem jaB {ip:Expr} {p2:Pos} (he:QE X T ES e d) (ho:QE X T ES o do_) (hi:QE X T ES ip di)
  (ha:∀ v,assign (.Subscript o ip p2) X.env v=(do
   let ov <- holding [v] (eval o X.env)
   let iv <- holding [v,ov] (eval ip X.env)
   standAt p2
   holding [v,ov,iv] (setItem ov iv v)
   release [v,ov,iv] []):=by intro _; rfl)
  (hs:swapsWithSole [.Subscript o ip p2] e pos.line X.env=pure false:=by rfl) (hw:swappedStores [.Subscript o ip p2] e X.env=pure none:=by rfl)
  (h1:(assignEach [.Subscript o ip p2] X.env).map (·.2)=[assign (.Subscript o ip p2) X.env]:=by rfl):QS X T ES (.Assign [.Subscript o ip p2] e pos) (jaz d do_ di) :=
 ⟨yH (ps_asg he.h (pg_sub ho.h hi.h jcX ha) hs hw h1) fun D σ H hQQ=>yj hQQ fun W ρ M k hh hs q=>⟨W,ρ,M,k,hh,hs,jK.bind hs q fun W1 M1 x v H1 l1 h1 r1 q1=>by
  have hs1:=hs.up l1;refine ⟨W1,ρ,M1,l1.k.trans k,h1,hs1,jK.bind hs1 q1 fun W2 M2 o' ov H2 l2 h2 r2 q2=>?_⟩;have hs2:=hs1.up l2;refine ⟨W2,ρ,M2,l2.k.trans (l1.k.trans k),h2,hs2,jK.bind hs2 q2 fun W3 M3 i' iv H3 l3 h3 r3 q3=>?_⟩;split at q3
  ·rename_i M4 e4;unfold jfJ at e4;split at e4
   ·rename_i j kk;split at e4
    ·rename_i xs e5
     cases e6:ixN xs.length kk with
     | none=>rw [e6] at e4; cases e4
     | some n =>
      rw [e6] at e4;cases e4;obtain ⟨a,rfl,ea⟩:=r2.up l3;obtain ⟨b',ob,g1,g2,g3,vs,rfl,rr⟩:=h3.m j _ e5;rw [ea] at g1;cases g1;have rx:=(r1.up l2).up l3;exact ⟨a,vs,kk,n,rfl,r3,g3,by rw [rr.length]; exact e6,q3 W3 σ _ (.refl W3) (h3.upd e5 ea ⟨_,rfl,rr.set rx n⟩) (hs2.up l3)⟩
    ·cases e4
   ·cases e4
  ·exact q3.elim⟩⟩
def xK (p:ItP) (g:DG) (db:DS):Nat->Nat->En->Sto->RS
 | 0,_,_,_=>.bad
 | n + 1,i,ρ,M=>match nxt p M i with
  | none=>.bad
  | some none=>.nx ρ M
  | some (some x)=>match g x ρ with
   | none=>.bad
   | some ρ1=>match db ρ1 M with
    | .nx ρ2 M2=>xK p g db n (i + 1) ρ2 M2
    | .ct ρ2 M2=>xK p g db n (i + 1) ρ2 M2
    | .bk ρ2 M2=>.nx ρ2 M2
    | r=>r
def vP (g:DG) (db:DS):List PV->En->Sto->RS
 | [],ρ,M=>.nx ρ M
 | x :: xs,ρ,M=>match g x ρ with
  | none=>.bad
  | some ρ1=>match db ρ1 M with
   | .nx ρ2 M2=>vP g db xs ρ2 M2
   | .ct ρ2 M2=>vP g db xs ρ2 M2
   | .bk ρ2 M2=>.nx ρ2 M2
   | r=>r
theorem Xd {all:List PV} {g:DG} {db:DS}:∀ {xs:List PV} {n i:Nat} {ρ:En} {M:Sto},all.drop i=xs->xs.length < n->xK (.fix all) g db n i ρ M=vP g db xs ρ M
 | xs,0,i,ρ,M,e,h=>absurd h (Nat.not_lt_zero _)
 | [],n + 1,i,ρ,M,e,h=>by
  have:all[i]? = none:=List.getElem?_eq_none_iff.mpr (by
   have:=congrArg List.length e
   simp at this
   omega)
  unfold xK;rw [show nxt (.fix all) M i=some (all[i]?) from rfl,this];rfl
 | x :: xs,n + 1,i,ρ,M,e,h=>by
  have e1:all[i]? = some x:=by
   have:=congrArg (fun l=>l[0]?) e
   simpa [List.getElem?_drop] using this
  have e2:all.drop (i + 1)=xs:=by
   have:=congrArg (List.drop 1) e
   simpa [List.drop_drop] using this
  have ih:∀ ρ M,xK (.fix all) g db n (i + 1) ρ M=vP g db xs ρ M:=fun ρ M=>Xd e2 (by simpa using h);unfold xK;rw [show nxt (.fix all) M i=some (all[i]?) from rfl,e1];simp only [ih];rfl
def jbO (F:Nat) (dit:En->Sto->Res ItP) (g:DG) (db:DS):DS:=fun ρ M=>(dit ρ M).st ρ fun p M1=>xK p g db (match p with
 | .fix xs=>xs.length + 1
 | _=>F) 0 ρ M1
theorem jdf {F:Nat} {dit:En->Sto->Res ItP} {g:DG} {db:DS} {ρ:En} {M M1:Sto} {xs:List PV} (h:dit ρ M = .ok (.fix xs) M1):jbO F dit g db ρ M=vP g db xs ρ M1:=by
 unfold jbO;rw [h];exact Xd rfl (Nat.lt_succ_self _)
theorem jdl {iter:Expr} {body:List Stmt} {dit:En->Sto->Res ItP} {g:DG} {db:DS} (F:Nat) (hp:PassesOwn (model X.prog X.w) X.A X.env X.xe) (hc:X.calm=true) (hi:QI X T ES tg iter dit) (hg:QG X T tg g) (hb:QSs X T ES body db) (hs:∀ x,foldedSetIterable iter X.env x=pure x:=by intro _; rfl) :
  QS X T ES (.For tg iter body [] pos) (jbO F dit g db):=⟨yH (ps_for hp hc hi.h hg.h hb.h hs) fun D σ H hQQ=>yj hQQ fun W ρ M k hh hs q=>⟨W,ρ,M,k,hh,hs,jK.bind hs q fun W0 M0 it J H0 l0 h0 ri q0=>by
 refine ⟨fun i m σ H=>∃ W ρ M,W0.le W∧Held W M H∧jJ W ρ σ∧jK W (xK it g db m i ρ M) D ES,⟨_,W0,ρ,M0,.refl W0,h0,hs.up l0,q0⟩,?_⟩;rintro i m σ1 H1 ⟨W1,ρ1,M1,l1,h1,r1,q1⟩;have k1:W1.T=T:=l1.k.trans (l0.k.trans k)
 cases m with
 | zero=>exact q1.elim
 | succ m =>
  unfold xK at q1;obtain ⟨goes,stops⟩:=ri W1 M1 H1 l1.toLe0 h1 i;split at q1
  ·exact q1.elim
  ·rename_i en;exact .inl ⟨stops en,q1 W1 σ1 H1 (.refl W1) h1 r1⟩
  ·rename_i x en;obtain ⟨go,yld⟩:=goes x en;split at q1
   ·exact q1.elim
   ·rename_i ρ2 eg;refine .inr ⟨go,fun σ' H'=>∃ W ρ M,W0.le W∧Held W M H'∧jJ W ρ σ'∧jK W (xK it g db m (i + 1) ρ M) D ES,fun σ' H' n=>⟨m,Nat.lt_succ_self _,n⟩,fun v H2 hy=>?_⟩;obtain ⟨W2,l2,h2,rx⟩:=yld v H2 hy;refine ⟨W2,ρ1,M1,x,ρ2,l2.k.trans k1,h2,r1.up l2,rx,eg,fun σ2 r2=>⟨W2,ρ2,M1,l2.k.trans k1,h2,r2,?_⟩⟩;have l12:=l1.trans l2
    cases e:db ρ2 M1 with
    | nx ρ3 M3=>rw [e] at q1; exact fun W3 σ3 H3 l3 h3 r3=>⟨W3,ρ3,M3,l12.trans l3,h3,r3,jK.up (r:=xK it g db m (i + 1) ρ3 M3) q1 (l2.trans l3)⟩
    | ct ρ3 M3=>rw [e] at q1; exact fun W3 σ3 H3 l3 h3 r3=>⟨W3,ρ3,M3,l12.trans l3,h3,r3,jK.up (r:=xK it g db m (i + 1) ρ3 M3) q1 (l2.trans l3)⟩
    | bk ρ3 M3=>rw [e] at q1; exact fun W3 σ3 H3 l3 h3 r3=>q1 W3 σ3 H3 (l2.trans l3) h3 r3
    | rt v3 M3=>rw [e] at q1; exact fun W3 H3 u l3 h3 r3=>q1 W3 H3 u (l2.trans l3) h3 r3
    | exc c ρ3 M3 =>
     rw [e] at q1;intro W3 σ3 H3 dd l3 h3 r3 dx
     have:=q1 W3 σ3 H3 dd (l2.trans l3) h3 r3 dx
     rw [l2.k];exact this
    | bad=>rw [e] at q1; exact q1.elim⟩⟩
end
end L3
namespace L3
open PySem L2
open PyProof.Rows (envOfC int_text_len_1921)
def spD (T:Tb) (D:List PV->Sto->Res PV):Sp:=fun vs H Q E=>∃ W pvs M,W.T=T∧Held W M H∧jl W pvs vs∧jz W Rep (D pvs M) Q E
def jcT (T:Tb) (D:List PV->Sto->Res PV):Sp:=fun vs H Q _=>∃ W pvs M v M',W.T=T∧Held W M H∧jl W pvs vs∧D pvs M = .ok v M'∧∀ W' H' u,W.le W'->Held W' M' H'->Rep W' v u->Q u H'
def fin:RS->Res PV
 | .rt v M=>.ok v M
 | .nx _ M=>.ok .non M
 | .exc k _ M=>.exc k M
 | _=>.bad
def yg (n N:Nat) (d:DS):List PV->Sto->Res PV:=fun pvs M=>if pvs.length=n then fin (d (pvs.map some ++ List.replicate (N - n) none) M) else .bad
def onlyOk (D:List PV->Sto->Res PV):List PV->Sto->Res PV:=fun pvs M=>(D pvs M).noX
def both (D0 D1:List PV->Sto->Res PV):List PV->Sto->Res PV:=fun pvs M=>match D0 pvs M with
 | .ok v M'=>.ok v M'
 | _=>match D1 pvs M with
  | .exc k M'=>.exc k M'
  | _=>.bad
theorem jbL {W:Wd} {N:List Str} {n:Nat} {pvs:List PV} {vs:List V} (r:jl W pvs vs) (hn:pvs.length=n):jJ W (pvs.map some ++ List.replicate (N.length - n) none) (L2.start N vs):=by
 unfold L2.start;have hl:=r.length;refine ⟨by simp; omega,fun i x e=>?_⟩
 by_cases hi:i < pvs.length
 ·rw [List.getElem?_append_left (by simpa using hi),List.getElem?_map] at e
  cases e1:pvs[i]? with
  | none=>rw [e1] at e; cases e
  | some y =>
   rw [e1] at e;cases e;obtain ⟨v,e2,r2⟩:=r.get e1;exact ⟨v,by rw [List.getElem?_append_left (by simp; omega),List.getElem?_map,e2]; rfl,r2⟩
 ·rw [List.getElem?_append_right (by simp; omega)] at e
  have:=List.mem_of_getElem? e
  have:=List.eq_of_mem_replicate this
  cases this
section
variable {P:Program} {w:World} {K:PySem.W.Frag} {mg:Str->Option Value} {base:Heap} {x qual:Str} {st:Stmt} {f:Addr} {fd:FuncData} {N ps:List Str} {k:Nat} {T:Tb} {d:DS} {D D0 D1:List PV->Sto->Res PV}
theorem Ua {n:Nat} {pvs:List PV} {M:Sto} (h:yg n k d pvs M≠.bad):pvs.length=n:=by
 unfold yg at h;split at h
 ·assumption
 ·exact absurd rfl h
theorem jex {W:Wd} {r:RS} {Q:VK} {E:XK} (h:jz W Rep (fin r) Q E):jK W r { nx:=fun _ H'=>Q .non H',rt:=Q } fun _=>E:=by
 cases r with
 | nx ρ M=>exact fun W' σ' H' le hh _=>h W' H' .non le hh rfl
 | rt v M=>exact h
 | bk ρ M=>exact h.elim
 | ct ρ M=>exact h.elim
 | exc c ρ M=>exact fun W' σ' H' dd le hh _ z=>h W' H' dd le hh z
 | bad=>exact h.elim
theorem VZ {n:Nat} {vs:List V} {H:Hp} {Q:VK} {E:XK} (h:spD T (yg n N.length d) vs H Q E):jef T (fun _=>E) d { nx:=fun _ H'=>Q .non H',rt:=Q } (L2.start N vs) H:=by
 obtain ⟨W,pvs,M,kT,hh,r,p⟩:=h
 have hn:pvs.length=n:=Ua (M:=M) (d:=d) (k:=N.length) fun z=>by rw [z] at p; exact p
 have p:jz W Rep (if pvs.length=n then fin (d (pvs.map some ++ List.replicate (N.length - n) none) M) else .bad) Q E:=p;rw [if_pos hn] at p;exact ⟨W,_,M,kT,hh,jbL r hn,jex p⟩
theorem jaw {n:Nat} {vs:List V} {H:Hp} {Q:VK} {E:XK} (h:spD T (yg n N.length d) vs H Q E):vs.length=n:=by
 obtain ⟨W,pvs,M,kT,hh,r,p⟩:=h
 have hn:pvs.length=n:=Ua (M:=M) (d:=d) (k:=N.length) fun z=>by rw [z] at p; exact p
 rw [r.length,hn]
theorem jhF {D:List PV->Sto->Res PV} {vs:List V} {H:Hp} {Q:VK} {E:XK} (h:jcT T D vs H Q E):spD T D vs H Q E:=by
 obtain ⟨W,pvs,M,v,M',kT,hh,r,e,q⟩:=h;exact ⟨W,pvs,M,kT,hh,r,by rw [e]; exact q⟩
theorem jY (F:Fun K x qual st f fd) (S:FnScope N ps (jd st)) (hb:∀ (cdv:Value) (A:Around) (outer:List Env) (s:Shared) (H:Hp) (E:XK),Room k (A.deeper (envOfC qual (jd st) s.heap.objs.size f cdv)) ->
  QSs (yz (CX1 P w) P w K mg base N qual (jd st) f cdv A outer s H E) T (fun _=>E) (jn st) d):FnOk P w K mg base (CX1 P w) (k + 1) f fd ps (spD T (yg ps.length N.length d)) :=
 F.okX S (fun _ _ _ _ h=>jaw h) fun cdv A outer s H vs Q E hr h=>⟨_,(hb cdv A outer s H E hr).h,VZ h⟩
theorem jhe (F:Fun K x qual st f fd) (S:FnScope N ps (jd st)) (hb:∀ (cdv:Value) (A:Around) (outer:List Env) (s:Shared) (H:Hp) (E:XK),Room k (A.deeper (envOfC qual (jd st) s.heap.objs.size f cdv)) ->
  QSs (yz CX0 P w K mg base N qual (jd st) f cdv A outer s H E).nox T ES0 (jn st) d):FnOk P w K mg base CX0 (k + 1) f fd ps (jcT T (yg ps.length N.length d)) :=
 F.ok S (fun _ _ _ _ h=>jaw (jhF h)) fun cdv A outer s H vs Q E hr h=>⟨_,(hb cdv A outer s H E hr).h,by
  obtain ⟨W,pvs,M,v,M',kT,hh,r,e,q⟩:=h
  exact VZ (E:=E0) ⟨W,pvs,M,kT,hh,r,by rw [e]; exact q⟩⟩
theorem jeJ (F:FnOk P w K mg base CX0 k f fd ps (jcT T D0)) (G:FnOk P w K mg base (CX1 P w) k f fd ps (spD T D1)):FnOk P w K mg base (CX1 P w) k f fd ps (spD T (both D0 D1)):=(F.up.or G).imp fun vs H Q E hQQ=>by
 obtain ⟨W,pvs,M,kT,hh,r,p⟩:=hQQ;unfold both at p
 cases e:D0 pvs M with
 | ok v M'=>rw [e] at p; exact .inl ⟨W,pvs,M,v,M',kT,hh,r,e,p⟩
 | exc c M' =>
  rw [e] at p
  cases e1:D1 pvs M with
  | exc c' M1=>rw [e1] at p; exact .inr ⟨W,pvs,M,kT,hh,r,by rw [e1]; exact p⟩
  | ok _ _=>rw [e1] at p; exact p.elim
  | bad=>rw [e1] at p; exact p.elim
 | bad =>
  rw [e] at p
  cases e1:D1 pvs M with
  | exc c' M1=>rw [e1] at p; exact .inr ⟨W,pvs,M,kT,hh,r,by rw [e1]; exact p⟩
  | ok _ _=>rw [e1] at p; exact p.elim
  | bad=>rw [e1] at p; exact p.elim
end
inductive Sl where
 | p (i:Nat) | k (j:Nat) | d (n:Nat)
def gen {α:Type} (sp:List Sl) (ds us ws:List α):List α:=sp.filterMap fun
 | .p i=>us[i]?
 | .k j=>ws[j]?
 | .d n=>ds[n]?
def ya {α:Type} (a b:Nat) (sp:List Sl) (ds us ws:List α):List α:=if us.length=a∧ws.length=b then gen sp ds us ws else []
theorem VQ {dV:List V} {ds:List Value} {vs:List V} {us:List Value} {zs:List V} {ws:List Value} (hd:jq dV ds) (hu:jq vs us) (hw:jq zs ws):∀ (sp:List Sl),jq (gen sp dV vs zs) (gen sp ds us ws)
 | []=>.nil
 | c :: r=>by
  have ih:=VQ hd hu hw r
  have get:∀ {xs:List V} {ys:List Value} (i:Nat),jq xs ys->(∃ x y,xs[i]? = some x∧ys[i]? = some y∧jv x y)∨(xs[i]? = none∧ys[i]? = none):=fun {xs ys} i h=>by
   cases e:xs[i]? with
   | none=>exact .inr ⟨rfl,h.none_of e⟩
   | some x =>
    obtain ⟨y,e2,r2⟩:=h.get e;exact .inl ⟨x,y,rfl,e2,r2⟩
  unfold gen;rw [List.filterMap_cons,List.filterMap_cons]
  cases c with
  | p i =>
   rcases get i hu with ⟨x,y,e1,e2,r2⟩ | ⟨e1,e2⟩
   ·simp only [e1,e2]; exact .cons r2 ih
   ·simp only [e1,e2]; exact ih
  | k i =>
   rcases get i hw with ⟨x,y,e1,e2,r2⟩ | ⟨e1,e2⟩
   ·simp only [e1,e2]; exact .cons r2 ih
   ·simp only [e1,e2]; exact ih
  | d i =>
   rcases get i hd with ⟨x,y,e1,e2,r2⟩ | ⟨e1,e2⟩
   ·simp only [e1,e2]; exact .cons r2 ih
   ·simp only [e1,e2]; exact ih
theorem VR {W:Wd} {dP:List PV} {dV:List V} {pus:List PV} {vs:List V} {pws:List PV} {zs:List V} (hd:jl W dP dV) (hu:jl W pus vs) (hw:jl W pws zs):∀ (sp:List Sl),jl W (gen sp dP pus pws) (gen sp dV vs zs)
 | []=>rfl
 | c :: r=>by
  have ih:=VR hd hu hw r
  have get:∀ {xs:List PV} {ys:List V} (i:Nat),jl W xs ys->(∃ x y,xs[i]? = some x∧ys[i]? = some y∧Rep W x y)∨(xs[i]? = none∧ys[i]? = none):=fun {xs ys} i h=>by
   cases e:xs[i]? with
   | none =>
    refine .inr ⟨rfl,List.getElem?_eq_none_iff.mpr ?_⟩;rw [h.length];exact List.getElem?_eq_none_iff.mp e
   | some x =>
    obtain ⟨y,e2,r2⟩:=h.get e;exact .inl ⟨x,y,rfl,e2,r2⟩
  unfold gen;rw [List.filterMap_cons,List.filterMap_cons]
  cases c with
  | p i =>
   rcases get i hu with ⟨x,y,e1,e2,r2⟩ | ⟨e1,e2⟩
   ·simp only [e1,e2]; exact ⟨y,_,rfl,r2,ih⟩
   ·simp only [e1,e2]; exact ih
  | k i =>
   rcases get i hw with ⟨x,y,e1,e2,r2⟩ | ⟨e1,e2⟩
   ·simp only [e1,e2]; exact ⟨y,_,rfl,r2,ih⟩
   ·simp only [e1,e2]; exact ih
  | d i =>
   rcases get i hd with ⟨x,y,e1,e2,r2⟩ | ⟨e1,e2⟩
   ·simp only [e1,e2]; exact ⟨y,_,rfl,r2,ih⟩
   ·simp only [e1,e2]; exact ih
theorem jW {K:PySem.W.Frag} {fd:FuncData} {p0:Str} {pr ks:List Str} {a b:Nat} {sp:List Sl} {dV:List V} {ds:List Value} (hd:jq dV ds)
  (h:∀ (s:Shared) (us ws:List Value),K.In s.heap->us.length=a->ws.length=b->BindsTo s fd ⟨us,ks.zip ws⟩ ((p0 :: pr).zip (gen sp ds us ws))):KBinds K fd (p0 :: pr) ks (ya a b sp ds) (ya a b sp dV) where
 to:=fun s us ws KX hl=>by
  unfold ya at hl ⊢
  by_cases hc:us.length=a∧ws.length=b
  ·rw [if_pos hc] at hl ⊢;exact h s us ws KX hc.1 hc.2
  ·rw [if_neg hc] at hl;cases hl
 rel:=fun {vs us zs ws} hu hw=>by
  unfold ya;rw [hu.length,hw.length];split
  ·exact VQ hd hu hw sp
  ·exact .nil
structure CalD (P:Program) (w:World) (K:PySem.W.Frag) (mg:Str->Option Value) (base:Heap) (T:Tb) (x:Str) (j:Nat) (ps ks:List Str) (a b:Nat) (sl:List Sl) (dP:List PV) (D:List PV->Sto->Res PV):Prop where
 ex:∃ f fd dV ds,FnOk P w K mg base (CX1 P w) j f fd ps (spD T D)∧mg x=some (.ref f)∧PySem.W.keepIn K (.ref f)=true∧KBinds K fd ps ks (ya a b sl ds) (ya a b sl dV)∧∀ W:Wd,W.T=T->jl W dP dV
def jw (D:List PV->Sto->Res PV) (a b:Nat) (sl:List Sl) (dP:List PV) (da dk:DA):DE:=fun ρ M=>(da ρ M).bind fun xs M1=>(dk ρ M1).bind fun zs M2=>D (ya a b sl dP xs zs) M2
section
variable {X:Cx} {T:Tb} {ES:St->XK} {x:Str} {j:Nat} {ps ks:List Str} {a b:Nat} {sl:List Sl} {dP:List PV} {D:List PV->Sto->Res PV} {p pos:Pos} {e:Expr} {es:List Expr} {kws:List Keyword} {da dk:DA}
theorem ve {W:Wd} {dV:List V} {pus:List PV} {vs:List V} {pws:List PV} {zs:List V} (hd:jl W dP dV) (hu:jl W pus vs) (hw:jl W pws zs):jl W (ya a b sl dP pus pws) (ya a b sl dV vs zs):=by
 unfold ya;rw [hu.length,hw.length];split
 ·exact VR hd hu hw sl
 ·rfl
theorem jD:yT (CX1 X.prog X.w) X ES0:=fun pins σ H s e s' I h=>by
 obtain ⟨_,_,_,_,_,_,_,_,_,_,_,_,_,_,q⟩:=h;exact q.elim
theorem jP {P:Program} {w:World} {K:PySem.W.Frag} {mg:Str->Option Value} {base:Heap} {N:List Str} {qual:Str} {scope:Scope} {f:Addr} {cd:Value} {A:Around} {outer:List Env} {s₀:Shared} {H₀:Hp} {E:XK} :
  yT (CX1 P w) (yz (CX1 P w) P w K mg base N qual scope f cd A outer s₀ H₀ E) fun _=>E:=fun pins σ H s e s' I h=>jgz pins σ H s e s' I h
theorem jdg {f:Addr} {fd:FuncData} {dV:List V} {ds:List Value} {pins:List (Addr × Obj)} {σ:St} {H:Hp} {s:Shared} {Q:VK} {us ws:List Value} {vs zs:List V} {sp:Sp} (F:FnOk X.prog X.w X.K X.mg X.base (CX1 X.prog X.w) j f fd ps sp) (hr:Room j X.A) (hb:KBinds X.K fd ps ks (ya a b sl ds) (ya a b sl dV)) (hx:yT (CX1 X.prog X.w) X ES)
  (I:Inv X pins σ H s) (r:jq vs us) (rz:jq zs ws) (h:sp (ya a b sl dV vs zs) H Q (ES σ)):wpAny (model X.prog X.w) X.A (call (.ref f) us (ks.zip ws)) (EP X pins σ Q) X.xe s:=by
 have r2:=hb.rel r rz
 have hl:(ya a b sl ds us ws).length=ps.length:=by rw [<- r2.length]; exact F.len _ _ _ _ h
 refine wpAny_call (codeAny_mono (F.run X.A X.stack s H ⟨us,ks.zip ws⟩ (ya a b sl ds us ws) (ya a b sl dV vs zs) Q (ES σ) hr I.env0 (hb.to s us ws I.kIn hl) r2 h) fun r s' hq=>?_)
 match r,hq with
 | .error e,hq=>exact hx pins σ H s e s' I hq
 | .ok (.ret u),hq=>exact I.after hq
theorem jm (C:CalD X.prog X.w X.K X.mg X.base T x j ps ks a b sl dP D) (hr:Room j X.A) (hg:Gl X x) (hx:yT (CX1 X.prog X.w) X ES) (ha:QA X T ES (e :: es) da) (hkw:QK X T ES kws dk)
  (hall:(backToKw pos (keywordEach kws X.env)).all (·.1.isSome)=true:=by rfl) (hks:(backToKw pos (keywordEach kws X.env)).filterMap (·.1)=ks:=by rfl)
  (hdb:(x == ("__debug__":Str))=false:=by decide) (he:starEach (e :: es) X.env=(false,eval e X.env) :: starEach es X.env:=by rfl)
  (hpl:((backTo pos (starEach (e :: es) X.env)).any (·.1) || (backToKw pos (keywordEach kws X.env)).any (·.1.isNone))=false:=by rfl):QE X T ES (.Call (.Name x p) (e :: es) kws pos) (jw D a b sl dP da dk):=⟨by
 obtain ⟨f,fd,dV,ds,F,hm,hk,hb,hdV⟩:=C.ex;rintro pins s σ H Q I ⟨W,ρ,M,k,hh,hs,q⟩;refine wpAny_Call_Name_kw (vd I hg hm ?_ hdb)
 refine PySem.W.callWith_KW (h₀:=X.base) I.ok.mod.kin hk hall (thn (ha.h pos pins s σ H _ I ⟨W,ρ,M,k,hh,hs,jz.bind (Q1:=fun vs H1=>∃ W1 M1 xs,W1.T=T∧Held W1 M1 H1∧jJ W1 ρ σ∧jl W1 xs vs∧jz W1 Rep ((dk ρ M1).bind fun zs M2=>D (ya a b sl dP xs zs) M2) Q (ES σ)) q
   fun W1 M1 xs vs H1 l1 h1 r1 q1=>⟨W1,M1,xs,l1.k.trans k,h1,hs.up l1,r1,q1⟩⟩) fun us s1 hQQ=>?_) hpl he
 obtain ⟨vs,H1,I1,r,W1,M1,xs,k1,h1,hs1,r1,q1⟩:=hQQ;refine thn (hkw.h pos pins s1 σ H1 (fun zs H2=>spD T D (ya a b sl dV vs zs) H2 Q (ES σ)) I1 ⟨W1,ρ,M1,k1,h1,hs1,jz.bind q1 fun W2 M2 zs' zs H2 l2 h2 r2 q2=>⟨W2,_,M2,l2.k.trans k1,h2,ve (hdV W2 (l2.k.trans k1)) (r1.up l2) r2,q2⟩⟩) fun ws s2 hQQ=>?_;obtain ⟨zs,H2,I2,rz,q2⟩:=hQQ;refine ⟨I2.kIn,?_⟩;rw [hks]
 exact jdg F hr hb hx I2 r rz q2⟩
def xu (c:Nat) (ds:DA):DS:=fun ρ M=>(ds ρ M).st ρ fun vs M1=>if vs.length<=sizeLine then .exc c ρ M1 else .bad
theorem yW {P:Program} {w:World} {K:PySem.W.Frag} {mg:Str->Option Value} {base:Heap} {N:List Str} {qual:Str} {scope:Scope} {f:Addr} {cd:Value} {A:Around} {outer:List Env} {s₀:Shared} {H₀:Hp} {E:XK}
  {x:Str} {c:Nat} {np cpos pos:Pos} {e:Expr} {es:List Expr} {ds:DA} (hC:Exc K mg x (T.C c)) (hc:c < 64) (hg:Gl (yz (CX1 P w) P w K mg base N qual scope f cd A outer s₀ H₀ E) x) (ha:QA (yz (CX1 P w) P w K mg base N qual scope f cd A outer s₀ H₀ E) T (fun _=>E) (e :: es) ds)
  (hdb:(x == ("__debug__":Str))=false:=by decide)
  (he:starEach (e :: es) (envOfC qual scope s₀.heap.objs.size f cd)=(false,eval e (envOfC qual scope s₀.heap.objs.size f cd)) :: starEach es (envOfC qual scope s₀.heap.objs.size f cd):=by rfl)
  (hpl:(backTo cpos (starEach es (envOfC qual scope s₀.heap.objs.size f cd))).any (·.1)=false:=by rfl) :
  QS (yz (CX1 P w) P w K mg base N qual scope f cd A outer s₀ H₀ E) T (fun _=>E) (.Raise (some (.Call (.Name x np) (e :: es) [] cpos)) none pos) (xu c ds) :=
 ⟨yH (jdy hC hg ha.h hdb he hpl) fun D σ H hQQ=>yj hQQ fun W ρ M k hh hs q=>⟨W,ρ,M,k,hh,hs,jK.bind hs q fun W1 M1 xs vs H1 l1 h1 r1 q1=>by
  split at q1
  ·rename_i hz
   have:=q1 W1 σ H1 none (.refl W1) h1 (hs.up l1) (by unfold Yh; rw [if_pos hc])
   rw [l1.k,k,Nat.mod_eq_of_lt hc] at this;exact ⟨by rw [r1.length]; exact hz,this⟩
  ·exact q1.elim⟩⟩
def jaA (c:Nat) (fn:Str) (ds:DA):DS:=fun ρ M=>(ds ρ M).st ρ fun vs M1=>match vs with
 | [v]=>.exc (c + 64 * (M1.n + 1)) ρ (M1.new (.xd [(fn,v)]))
 | _=>.bad
theorem jbQ {P:Program} {w:World} {K:PySem.W.Frag} {mg:Str->Option Value} {base:Heap} {N:List Str} {qual:Str} {scope:Scope} {f:Addr} {cd:Value} {A:Around} {outer:List Env} {s₀:Shared} {H₀:Hp} {E:XK}
  {x fn:Str} {c k:Nat} {np cpos pos:Pos} {e:Expr} {es:List Expr} {ds:DA} (hC:ExcI P w K mg base x (T.C c) fn k) (hc:c < 64) (hr:Room (k + 1) (A.deeper (envOfC qual scope s₀.heap.objs.size f cd))) (hg:Gl (yz (CX1 P w) P w K mg base N qual scope f cd A outer s₀ H₀ E) x) (ha:QA (yz (CX1 P w) P w K mg base N qual scope f cd A outer s₀ H₀ E) T (fun _=>E) (e :: es) ds)
  (hdb:(x == ("__debug__":Str))=false:=by decide)
  (he:starEach (e :: es) (envOfC qual scope s₀.heap.objs.size f cd)=(false,eval e (envOfC qual scope s₀.heap.objs.size f cd)) :: starEach es (envOfC qual scope s₀.heap.objs.size f cd):=by rfl)
  (hpl:(backTo cpos (starEach es (envOfC qual scope s₀.heap.objs.size f cd))).any (·.1)=false:=by rfl) :
  QS (yz (CX1 P w) P w K mg base N qual scope f cd A outer s₀ H₀ E) T (fun _=>E) (.Raise (some (.Call (.Name x np) (e :: es) [] cpos)) none pos) (jaA c fn ds) :=
 ⟨yH (jbS hC hr hg ha.h hdb he hpl) fun D σ H hQQ=>yj hQQ fun W ρ M k hh hs q=>⟨W,ρ,M,k,hh,hs,jK.bind hs q fun W1 M1 xs vs H1 l1 h1 r1 q1=>by
  cases xs with
  | nil=>exact q1.elim
  | cons v r =>
   cases r with
   | cons _ _=>exact q1.elim
   | nil =>
    obtain ⟨v',rfl,rv⟩:=xE r1;refine ⟨v',rfl,fun d hd=>?_⟩;obtain ⟨l2,h2,a2⟩:=h1.put (c:=.xd [(fn,v)]) (o:=.xd [(fn,v')]) hd ⟨_,rfl,v',[],rfl,rv,rfl⟩
    have e1:(c + 64 * (M1.n + 1)) % 64=c:=by omega
    have e2:(c + 64 * (M1.n + 1)) / 64 - 1=M1.n:=by omega
    have:=q1 (W1.put M1.n d) σ _ (some d) l2 h2 ((hs.up l1).up l2) (by
     unfold Yh;rw [if_neg (by omega),e2]
     exact ⟨d,rfl,a2⟩)
    rw [e1,l1.k,k] at this
    exact this⟩⟩
abbrev DHn:=Nat->En->Sto->RS
def jhd:DHn:=fun _ _ _=>.bad
def Vc (U:Nat->Option Bool) (i:Nat) (dh:DS) (ju:DHn):DHn:=fun c ρ1 M1=>match U (c % 64) with
 | some true=>(match dh (ρ1.set i (some (.exn c))) M1 with
   | .nx ρ2 M2=>.nx (ρ2.set i none) M2
   | .bk ρ2 M2=>.bk (ρ2.set i none) M2
   | .ct ρ2 M2=>.ct (ρ2.set i none) M2
   | .exc _ _ _=>.bad
   | r=>r)
 | some false=>ju c ρ1 M1
 | none=>.bad
def sTry (db:DS) (dh:DHn):DS:=fun ρ M=>match db ρ M with
 | .exc c ρ1 M1=>dh c ρ1 M1
 | r=>r
structure QH (X:Cx) (T:Tb) (hs:List ExceptHandler) (d:DHn):Prop where
 h:PH X hs fun D σ C dd H=>∃ W ρ M c ES',W.T=T∧Held W M H∧jJ W ρ σ∧C=W.T.C (c % 64)∧Yh W c dd∧jK W (d c ρ M) D ES'
theorem jdF {X:Cx} {hs:List ExceptHandler} {t t':TH} (h:PH X hs t) (f:∀ D σ C dd H,t' D σ C dd H->t D σ C dd H):PH X hs t':=fun pins B ea C dd σ H s D F q=>h pins B ea C dd σ H s D F (f D σ C dd H q)
theorem qh_nil:QH X T [] jhd:=⟨jdF ph_nil fun D σ C dd H hQQ=>by
 obtain ⟨_,_,_,_,_,_,_,_,_,_,q⟩:=hQQ
 exact q⟩
theorem jaD {U:Nat->Option Bool} {suite:List Stmt} {b₀:Stmt} {n x:Str} {i:Nat} {LC:Addr} {np hpos:Pos} {dh:DS} {dr:DHn} {hs:List ExceptHandler} (hT:T.K=X.K) (hU:∀ c b,U c=some b->PySem.W.exmOne X.K (.ref (T.C c)) (.ref LC)=some b)
  (hh:∀ pins ea,QSs (UP X pins ea) T ES0 (b₀ :: suite) dh) (hr:QH X T hs dr) (hg:Gl X x) (hm:X.mg x=some (.ref LC)) (hN:X.N.Nodup) (hi:X.N[i]? = some n)
  (hn:X.env.scope.names.lookup n=some .local:=by rfl) (hdb:(x == ("__debug__":Str))=false:=by decide) :
  QH X T (.ExceptHandler (some (.Name x np)) (some n) (b₀ :: suite) hpos :: hs) (Vc U i dh dr) :=
 ⟨jdF (jfV (fun pins ea=>(hh pins ea).h) hr.h hg hm hN hi hn hdb) fun D σ C dd H hQQ=>by
  obtain ⟨W1,ρ1,M1,c,ES',k,h1,r1,rfl,dx,q⟩:=hQQ;unfold Vc at q
  cases hc:U (c % 64) with
  | none=>rw [hc] at q; exact q.elim
  | some b =>
   refine ⟨b,by rw [k]; exact hU _ _ hc,?_⟩
   cases b with
   | false =>
    rw [hc] at q;rw [if_neg (by decide)];exact ⟨W1,ρ1,M1,c,ES',k,h1,r1,rfl,dx,q⟩
   | true =>
    rw [hc] at q;rw [if_pos rfl];intro ea hea;obtain ⟨l2,h2,f2⟩:=h1.frz (o:=Vb ea (W1.T.C (c % 64)) dd) hea
    have rx:Rep (W1.frz ea (Vb ea (W1.T.C (c % 64)) dd)) (.exn c) (.ref ea):=⟨ea,dd,rfl,f2,dx.up l2.toLe0⟩
    refine ⟨_,_,M1,l2.k.trans k,h2,(r1.up l2).set (i:=i) rx,?_⟩
    cases e2:dh (ρ1.set i (some (.exn c))) M1 with
    | nx ρ2 M2=>rw [e2] at q; exact fun W3 σ3 H3 l3 h3 r3=>q W3 _ H3 (l2.trans l3) h3 r3.unset
    | bk ρ2 M2=>rw [e2] at q; exact fun W3 σ3 H3 l3 h3 r3=>q W3 _ H3 (l2.trans l3) h3 r3.unset
    | ct ρ2 M2=>rw [e2] at q; exact fun W3 σ3 H3 l3 h3 r3=>q W3 _ H3 (l2.trans l3) h3 r3.unset
    | rt v2 M2=>rw [e2] at q; exact fun W3 H3 u l3 h3 r3=>q W3 H3 u (l2.trans l3) h3 r3
    | exc c2 ρ2 M2=>rw [e2] at q; exact q.elim
    | bad=>rw [e2] at q; exact q.elim⟩
theorem qs_try {body:List Stmt} {pos:Pos} {db:DS} {dh:DHn} {h0:ExceptHandler} {hs:List ExceptHandler} (hb:∀ pins TT,QSs (Yw X pins TT) T (ET TT) body db) (hh:QH X T (h0 :: hs) dh)
  (hst:X.stack=X.env :: X.outer:=by rfl) (hfr:X.env.frame=some X.env.locals:=by rfl):QS X T ES (.Try body (h0 :: hs) [] [] pos) (sTry db dh) :=
 ⟨yH (ps_try (fun pins TT=>(hb pins TT).h) hh.h hst hfr) fun D σ H hQQ=>yj hQQ fun W ρ M k hd hs q=>⟨W,ρ,M,k,hd,hs,by
  unfold sTry at q
  cases e:db ρ M with
  | nx ρ1 M1=>rw [e] at q; exact q
  | rt v1 M1=>rw [e] at q; exact q
  | bk ρ1 M1=>rw [e] at q; exact q
  | ct ρ1 M1=>rw [e] at q; exact q
  | bad=>rw [e] at q; exact q.elim
  | exc c ρ1 M1 =>
   rw [e] at q;intro W1 σ1 H1 dd l1 h1 r1 dx
   exact ⟨_,rfl,W1,ρ1,M1,c,ES,l1.k.trans k,h1,r1,by rw [l1.k],dx,jK.up (r:=dh c ρ1 M1) q l1⟩⟩⟩
structure QJ (X:Cx) (T:Tb) (ES:St->XK) (n:Nat) (es:List Expr) (d:En->Sto->Str->Res Str):Prop where
 h:∀ (out:Str),out.length<=n->PJ X es fun σ H o Q=>o=out∧lft T (fun _ a b=>b=a) ES (fun ρ M=>d ρ M out) σ H Q
theorem jdC {t t':TJ} (h:PJ X es t) (f:∀ σ H o Q,t' σ H o Q->t σ H o Q):PJ X es t':=fun pins s σ H o Q I q=>h pins s σ H o Q I (f σ H o Q q)
def jNil:En->Sto->Str->Res Str:=fun _ M out=>.ok out M
def jTxt (x:Str) (d:En->Sto->Str->Res Str):En->Sto->Str->Res Str:=fun ρ M out=>d ρ M (out ++ x)
def jInt (de:DE) (d:En->Sto->Str->Res Str):En->Sto->Str->Res Str:=fun ρ M out=>(de ρ M).bind fun v M1=>match v with
 | .int i=>if small i=true then d ρ M1 (out ++ Str.ofString (toString i)) else .bad
 | _=>.bad
theorem qj_nil {n:Nat} (hn:n<=sizeLine):QJ X T ES n [] jNil:=⟨fun out ho=>jdC pj_nil fun σ H o Q hQQ=>by
 obtain ⟨e,W,ρ,M,k,hh,hs,q⟩:=hQQ;subst e
 exact ⟨Nat.le_trans ho hn,q W H _ (.refl W) hh rfl⟩⟩
theorem XG (a b:Str):(a ++ b).length=a.length + b.length:=by
 show (a.cps ++ b.cps).size=a.cps.size + b.cps.size;exact Array.size_append
theorem jdm {n:Nat} {x:Str} {c:Nat} {cp:Pos} {d:En->Sto->Str->Res Str} (hx:x.length<=2000) (hn:n + 2000<=sizeLine) (hr:QJ X T ES (n + 2000) es d) (hs:evalEach (.Constant (.str x) c cp :: es) X.env=eval (.Constant (.str x) c cp) X.env :: evalEach es X.env:=by rfl):QJ X T ES n (.Constant (.str x) c cp :: es) (jTxt x d) :=
 ⟨fun out ho=>by
  have hl:(out ++ x).length<=n + 2000:=by rw [XG]; omega
  exact jdC (jaK (UC (X:=X)) (hr.h (out ++ x) hl) hs) fun σ H o Q hQQ=>by
   obtain ⟨e,W,ρ,M,k,hh,hs,q⟩:=hQQ;subst e
   exact ⟨x,rfl,Nat.le_trans hl hn,rfl,W,ρ,M,k,hh,hs,q⟩⟩
theorem ud {i:Int} (h:small i=true):i.natAbs.log2 < 1920:=by
 obtain ⟨h1,h2⟩:=ue.mp h
 by_cases h0:i.natAbs=0
 ·rw [h0]; decide
 ·have:i.natAbs < 2 ^ 1920:=Nat.lt_of_le_of_lt (show i.natAbs<=2 ^ 62 by omega) (Nat.pow_lt_pow_right (by decide) (by decide))
  exact (Nat.log2_lt h0).mpr this
theorem jdn {n:Nat} {de:DE} {cp:Pos} {d:En->Sto->Str->Res Str} (he:QE X T ES e de) (hn:n + 2000<=sizeLine) (hr:QJ X T ES (n + 2000) es d) (hs:evalEach (.FormattedValue e (-1) none cp :: es) X.env=eval (.FormattedValue e (-1) none cp) X.env :: evalEach es X.env:=by rfl):QJ X T ES n (.FormattedValue e (-1) none cp :: es) (jInt de d) :=
 ⟨fun out ho=>fun pins s σ H o Q I hQQ=>by
  obtain ⟨eo,W,ρ,M,k,hh,hsρ,q⟩:=hQQ;subst eo;refine jaK (t:=fun σ H o' Q=>∃ (i:Int),small i=true∧o'=o ++ Str.ofString (toString i)∧lft T (fun _ a b=>b=a) ES (fun ρ M=>d ρ M (o ++ Str.ofString (toString i))) σ H Q) (jfY he.h) (fun pins s σ H o' Q I ⟨i,hi,eo,hq⟩=>?_) hs pins s σ H o Q I ?_
  ·have hl:(o ++ Str.ofString (toString i)).length<=n + 2000:=by
    rw [XG]
    have:=int_text_len_1921 (ud hi)
    omega
   exact (hr.h _ hl) pins s σ H o' Q I ⟨eo,hq⟩
  ·refine ⟨W,ρ,M,k,hh,hsρ,jz.bind q fun W1 M1 v u H1 l1 h1 r1 q1=>?_⟩;split at q1
   ·rename_i i;split at q1
    ·rename_i hi;refine ⟨i,r1,ud hi,_,rfl,?_,i,hi,rfl,W1,ρ,M1,l1.k.trans k,h1,hsρ.up l1,q1⟩;rw [XG]
     have:=int_text_len_1921 (ud hi)
     show o.length + (Str.ofString (toString i)).length<=sizeLine;omega
    ·exact q1.elim
   ·exact q1.elim⟩
def jhi (d:En->Sto->Str->Res Str):DE:=fun ρ M=>(d ρ M Str.empty).bind fun z M1=>.ok (.str z) M1
theorem jfI {e2:Expr} {d:En->Sto->Str->Res Str} (h:QJ X T ES 0 (e :: e2 :: es) d) (hs:evalEach (e :: e2 :: es) X.env=eval e X.env :: eval e2 X.env :: evalEach es X.env:=by rfl):QE X T ES (.JoinedStr (e :: e2 :: es) pos) (jhi d) :=
 ⟨jO (jfX (h.h Str.empty (by decide)) hs) fun σ H Q hQQ=>jC hQQ fun W ρ M k hh hs q=>⟨rfl,W,ρ,M,k,hh,hs,jz.bind q fun W1 M1 z u H1 l1 h1 r1 q1=>by
  subst r1
  exact q1 W1 H1 _ (.refl W1) h1 rfl⟩⟩
end
end L3
namespace L3
open PySem L2
abbrev GM:=Sto->PV->List PV->Option (PV × Sto)
def rM (T:Tb) (g:GM):V->List V->Hp->VK->Prop:=fun v vs H Q=>∃ W M x xs z M',W.T=T∧Held W M H∧Rep W x v∧jl W xs vs∧g M x xs=some (z,M')∧∀ W' H' v',W.le W'->Held W' M' H'->Rep W' z v'->Q v' H'
def dMt (g:GM) (do_:DE) (da:DA):DE:=fun ρ M=>(do_ ρ M).bind fun x M1=>match yE M1 x with
 | none=>.bad
 | some _=>(da ρ M1).bind fun xs M2=>match g M2 x xs with
  | some (z,M3)=>.ok z M3
  | none=>.bad
section
variable {X:Cx} {T:Tb} {ES:St->XK} {o e:Expr} {es:List Expr} {name:Str} {apos cpos:Pos} {mid:String} {g:GM} {do_:DE} {da:DA}
theorem jaS {r r':V->List V->Hp->VK->Prop} (h:MtR X mid r) (k:∀ x xs H Q,r' x xs H Q->r x xs H Q):MtR X mid r':=fun pins s σ H x xs v us Q I rx rs q=>h pins s σ H x xs v us Q I rx rs (k _ _ _ _ q)
theorem jgT (slot:Slot "list" name mid) (hty:typeOf (.builtin mid)=pure (.type "method_descriptor")) (hm:MtR X mid (rM T g)) (ho:QE X T ES o do_) (ha:QA X T ES (e :: es) da)
  (hbase:attributeBase o name X.env (eval o X.env)=eval o X.env:=by rfl)
  (hfew:((backTo cpos (starEach (e :: es) X.env)).all (fun x=>!x.1) && (backToKw cpos (keywordEach [] X.env)).all (fun x=>x.1.isSome)
   && decide ((e :: es).length + ([]:List Keyword).length + (if ([]:List Keyword).isEmpty then 0 else 1) < 30))=true:=by rfl)
  (hline:(apos.endLine == cpos.line)=true:=by rfl) (hs:starEach (e :: es) X.env=(false,eval e X.env) :: starEach es X.env:=by rfl) (hplain:(backTo cpos (starEach es X.env)).any (·.1)=false:=by rfl) :
  QE X T ES (.Call (.Attribute o name apos) (e :: es) [] cpos) (dMt g do_ da) :=
 ⟨jO (pe_bm PySem.F.plainAttrs_list slot hty hm ho.h ha.h hbase hfew hline hs hplain) fun σ H Q hQQ=>jC hQQ fun W ρ M k hh hs q=>⟨W,ρ,M,k,hh,hs,jz.bind q fun W1 M1 x v H1 l1 h1 r1 q1=>by
  split at q1
  ·exact q1.elim
  ·rename_i ys e1;obtain ⟨a,vs,rfl,ha,_⟩:=yD h1 r1 e1;refine ⟨.inl ⟨rfl,vs,SqL.of ha⟩,W1,ρ,M1,l1.k.trans k,h1,hs.up l1,jz.bind q1 fun W2 M2 xs us H2 l2 h2 r2 q2=>?_⟩;split at q2
   ·rename_i z M3 e2;exact ⟨W2,M2,x,xs,z,M3,l2.k.trans (l1.k.trans k),h2,r1.up l2,r2,e2,q2⟩
   ·exact q2.elim⟩⟩
def uH:PV->Bool
 | .non=>true
 | .bl _=>true
 | .int _=>true
 | .str _=>true
 | _=>false
def yw:PV->V
 | .non=>.non
 | .bl b=>.bl b
 | .int i=>.int i
 | .str x=>.str x
 | _=>.non
theorem JO {W:Wd} {x:PV} {v:V} (h:uH x=true) (r:Rep W x v):v=yw x∧yx v=true:=by
 cases x with
 | non=>cases r; exact ⟨rfl,rfl⟩
 | bl _=>cases r; exact ⟨rfl,rfl⟩
 | int _=>cases r; exact ⟨rfl,rfl⟩
 | str _=>cases r; exact ⟨rfl,rfl⟩
 | _=>cases h
theorem ux {W:Wd}:∀ {xs:List PV} {vs:List V},xs.all uH=true->jl W xs vs->vs=xs.map yw∧vs.all yx=true
 | [],_,_,r=>by cases r; exact ⟨rfl,rfl⟩
 | x :: xs,_,h,⟨v,r,e,a,b⟩=>by
  subst e;rw [List.all_cons,Bool.and_eq_true] at h;obtain ⟨h1,h2⟩:=JO h.1 a;obtain ⟨h3,h4⟩:=ux h.2 b;rw [List.all_cons,h2,h4];exact ⟨by rw [h1,h3]; rfl,rfl⟩
theorem jba {x y:PV} (hx:uH x=true) (hy:uH y=true):eqV (yw x) (yw y)=eqB x y:=by
 cases x <;> cases y <;> first | rfl | exact absurd hx Bool.false_ne_true | exact absurd hy Bool.false_ne_true
def UU:GM:=fun M x ys=>match yE M x,ys with
 | some xs,[y]=>if uH y=true∧xs.all uH=true then some (.int (xs.countP fun z=>eqB z y:Nat),M) else none
 | _,_=>none
theorem jgk:MtR X "list.count" (rM T UU):=jaS jdZ fun v vs H Q hQQ=>by
 obtain ⟨W,M,x,ys,z,M',k,hh,rx,ry,e,q⟩:=hQQ;unfold UU at e;split at e
 ·rename_i xs y e1;split at e
  ·rename_i hf;cases e;obtain ⟨a,ws,rfl,ha,rr⟩:=yD hh rx e1;obtain ⟨n,rfl,rn⟩:=xE ry;obtain ⟨n1,n2⟩:=JO hf.1 rn;obtain ⟨w1,w2⟩:=ux hf.2 rr;refine ⟨a,ws,n,rfl,rfl,ha,n2,w2,q W H _ (.refl W) hh ?_⟩;show V.int _=V.int _;rw [w1,List.countP_map,n1];congr 2;refine List.countP_congr fun z hz=>?_;show eqV (yw z) (yw y)=true↔_;rw [jba (List.all_eq_true.mp hf.2 z hz) hf.1]
  ·cases e
 ·cases e
def UT:GM:=fun M x ys=>match yE M x,ys with
 | some xs,[y]=>if uH y=true∧xs.all uH=true then (match xs.findIdx? fun z=>eqB z y with
  | some j=>some (.int (j:Nat),M)
  | none=>none) else none
 | _,_=>none
theorem jgj:MtR X "list.index" (rM T UT):=jaS jdY fun v vs H Q hQQ=>by
 obtain ⟨W,M,x,ys,z,M',k,hh,rx,ry,e,q⟩:=hQQ;unfold UT at e;split at e
 ·rename_i xs y e1;split at e
  ·rename_i hf;split at e
   ·rename_i j e2;cases e;obtain ⟨a,ws,rfl,ha,rr⟩:=yD hh rx e1;obtain ⟨n,rfl,rn⟩:=xE ry;obtain ⟨n1,n2⟩:=JO hf.1 rn;obtain ⟨w1,w2⟩:=ux hf.2 rr;obtain ⟨hj,p1,p2⟩:=List.findIdx?_eq_some_iff_getElem.mp e2;have fl:∀ m (hm:m < xs.length),eqV (yw xs[m]) (yw y)=eqB xs[m] y:=fun m hm=>jba (List.all_eq_true.mp hf.2 _ (List.getElem_mem hm)) hf.1;refine ⟨a,ws,n,j,yw xs[j],rfl,rfl,ha,n2,w2,?_,?_,fun m u hm hu=>?_,q W H _ (.refl W) hh rfl⟩
    ·rw [w1,List.getElem?_map,List.getElem?_eq_getElem hj];rfl
    ·rw [n1,fl j hj];exact p1
    ·rw [w1,List.getElem?_map,List.getElem?_eq_getElem (by omega)] at hu;cases hu;rw [n1,fl m (by omega)]
     have:=p2 m hm
     simpa using this
   ·cases e
  ·cases e
 ·cases e
def gScr:G2:=fun _ x y=>match x,y with
 | .scr ns,.lst []=>some (.bl (!ns.isEmpty))
 | _,_=>none
theorem o_scr (hT:T.K=X.K) (hu:X.A.units < cLine):OpP X T (compareOp .NotEq) gScr:=yJ (op_neL hu) fun v u H Q hQQ=>by
 obtain ⟨W,M,x,y,w,k,hh,rx,ry,e,q⟩:=hQQ;unfold gScr at e;split at e
 ·rename_i ns;cases e;obtain ⟨a,rfl,hq,_⟩:=rx;obtain ⟨b,us,rfl,hb,rr⟩:=ry;cases rr
  have hq:SqL X.K H a (ns.map V.int):=by
   have:=(show xo W.F H from hh.f).seq hq
   rw [k,hT] at this;exact this
  refine ⟨a,b,ns.map V.int,[],rfl,rfl,hq,SqL.of (hh.f _ _ hb),?_,rfl,q W H _ (.refl W) hh ?_⟩
  ·rw [List.all_map];exact List.all_eq_true.mpr fun _ _=>rfl
  ·cases ns with
   | nil=>rfl
   | cons _ _=>rfl
 ·cases e
def UR:G1:=fun M xs=>match xs with
 | [.scr ns]=>some (.ref M.n,M.new (.lst (ns.map PV.int)))
 | _=>none
theorem jgJ (hT:T.K=X.K):yf X (.type "list") (rC T UR):=uB vY fun vs H Q hQQ=>by
 obtain ⟨W,M,xs,z,M',k,hh,rx,e,q⟩:=hQQ;unfold UR at e;split at e
 ·rename_i ns;cases e;obtain ⟨v,rfl,a,rfl,hq,_⟩:=xE rx
  have hq:SqL X.K H a (ns.map V.int):=by
   have:=(show xo W.F H from hh.f).seq hq
   rw [k,hT] at this;exact this
  refine ⟨a,_,rfl,.inl hq,fun l hl=>?_⟩;obtain ⟨W2,l2,h2,r2⟩:=VH (xs:=ns.map PV.int) hh (jl.ints.mpr rfl) hl;exact q W2 _ _ l2 h2 r2
 ·cases e
structure XRow (T:Tb) (ks:List Nat) (LE k:Nat):Prop where
 x:ExcK T.K (T.C k)
 kk:∀ j ∈ ks,PySem.W.kitOne T.K (.ref (T.C k)) (.ref (T.C j))=some (k == j)
 l:PySem.W.kitOne T.K (.ref (T.C k)) (.ref (T.C LE))=some true
 v:PySem.W.kitOne T.K (.ref (T.C k)) (.type "ValueError")=some true
 m:PySem.W.exmOne T.K (.ref (T.C k)) (.ref (T.C LE))=some true
def uw (us ks:List Nat) (LE:Nat):G1:=fun M xs=>match xs with
 | [.exn k,.top j]=>if k % 64 ∈ us then (if j=LE then some (.bl true,M) else if j ∈ ks then some (.bl (k % 64 == j),M) else none) else none
 | [.exn k,.ty n]=>if k % 64 ∈ us∧n = "ValueError" then some (.bl true,M) else none
 | _=>none
theorem xV {us ks:List Nat} {LE:Nat} (hT:T.K=X.K) (hX:∀ k ∈ us,XRow T ks LE k):yf X (.builtin "isinstance") (rC T (uw us ks LE)):=uB jai fun vs H Q hQQ=>by
 obtain ⟨W,M,xs,z,M',kT,hh,rx,e,q⟩:=hQQ;unfold uw at e;split at e
 ·rename_i k j;split at e
  ·rename_i hk;obtain ⟨v,u,rfl,rv,ru⟩:=yI rx;obtain ⟨a,dd,rfl,ha,_⟩:=rv;have ru:u = .ref (W.T.C j):=ru;subst ru;rw [kT] at ha ⊢;have hX:=hX (k % 64) hk;split at e
   ·rename_i hj;cases e;exact ⟨a,T.C (k % 64),dd,_,.ref (T.C j),true,rfl,hh.f _ _ ha,hT ▸ hX.x,rfl,.inr ⟨_,rfl⟩,by rw [hj,<- hT]; exact hX.l,q W H _ (.refl W) hh rfl⟩
   ·split at e
    ·rename_i hj;cases e;exact ⟨a,T.C (k % 64),dd,_,.ref (T.C j),k % 64 == j,rfl,hh.f _ _ ha,hT ▸ hX.x,rfl,.inr ⟨_,rfl⟩,by rw [<- hT]; exact hX.kk j hj,q W H _ (.refl W) hh rfl⟩
    ·cases e
  ·cases e
 ·rename_i k n;split at e
  ·rename_i hk;cases e;obtain ⟨hk,rfl⟩:=hk;obtain ⟨v,u,rfl,rv,ru⟩:=yI rx;obtain ⟨a,dd,rfl,ha,_⟩:=rv;have ru:u = .ty "ValueError":=ru;subst ru;rw [kT] at ha;have hX:=hX (k % 64) hk;exact ⟨a,T.C (k % 64),dd,_,.type "ValueError",true,rfl,hh.f _ _ ha,hT ▸ hX.x,rfl,.inl ⟨_,rfl⟩,by rw [<- hT]; exact hX.v,q W H _ (.refl W) hh rfl⟩
  ·cases e
 ·cases e
theorem jen {A:Around} {k:Nat} (hr:Room k A):A.units + 100 < cLine:=by have:=hr.un; omega
theorem bt_VE:bootBuiltins "ValueError" = some (.type "ValueError"):=by decide +kernel
end
end L3
namespace L3
open PySem L2
@[simp] theorem noX_ok {α : Type} {a : α} {M : Sto} : (Res.ok a M).noX = .ok a M := rfl
@[simp] theorem noX_bad {α : Type} : (Res.bad : Res α).noX = .bad := rfl
@[simp] theorem dC_eq {x : PV} {ρ : En} {M : Sto} : dC x ρ M = .ok x M := rfl
@[simp] theorem dVar_0 {x : PV} {r : En} {M : Sto} : jf 0 (some x :: r) M = .ok x M := rfl
@[simp] theorem dVar_s {i : Nat} {o : Option PV} {r : En} {M : Sto} : jf (i + 1) (o :: r) M = jf i r M := rfl
@[simp] theorem Jd {ρ : En} {M : Sto} : je ρ M = .ok [] M := rfl
@[simp] theorem JV {d : DE} {ds : DA} {ρ : En} {M : Sto} : jb d ds ρ M = (d ρ M).bind fun x M1 => (ds ρ M1).bind fun xs M2 => .ok (x :: xs) M2 := rfl
@[simp] theorem dOp_eq {g : G2} {da db : DE} {ρ : En} {M : Sto} : dOp g da db ρ M = (da ρ M).bind fun x M1 => (db ρ M1).bind fun y M2 => ofO (g M2 x y) M2 := rfl
@[simp] theorem jeO {d : DE} {ρ : En} {M : Sto} : jL d ρ M = (d ρ M).bind fun x M1 => ofO (asB x) M1 := rfl
@[simp] theorem asB_bl {b : Bool} : asB (.bl b) = some b := rfl
@[simp] theorem dCB_eq {g : G1} {ds : DA} {ρ : En} {M : Sto} : dCB g ds ρ M = (ds ρ M).bind fun xs M1 => match g M1 xs with
 | some (z,M2)=>.ok z M2
 | none=>.bad:=rfl
@[simp] theorem dIf_eq {t : DT} {da db : DE} {ρ : En} {M : Sto} : dIf t da db ρ M = (t ρ M).bind fun c M1 => if c = true then da ρ M1 else db ρ M1 := rfl
@[simp] theorem dAnd_eq {da db : DT} {ρ : En} {M : Sto} : dAnd da db ρ M = (da ρ M).bind fun c M1 => if c = true then db ρ M1 else .ok false M1 := rfl
@[simp] theorem dOr_eq {da db : DT} {ρ : En} {M : Sto} : dOr da db ρ M = (da ρ M).bind fun c M1 => if c = true then .ok true M1 else db ρ M1 := rfl
@[simp] theorem dNot_eq {da : DT} {ρ : En} {M : Sto} : vt da ρ M = (da ρ M).bind fun c M1 => .ok (!c) M1 := rfl
@[simp] theorem dTru_eq {d : DE} {ρ : En} {M : Sto} : vq d ρ M = (d ρ M).bind fun x M1 => ofO (jfn M1 x) M1 := rfl
@[simp] theorem truP_bl {b : Bool} {M : Sto} : jfn M (.bl b) = some b := rfl
@[simp] theorem dUn_eq {g : Sto -> PV -> Option PV} {d : DE} {ρ : En} {M : Sto} : dUn g d ρ M = (d ρ M).bind fun x M1 => ofO (g M1 x) M1 := rfl
@[simp] theorem gNeg_int {M : Sto} {i : Int} : gNeg M (.int i) = some (.int (-i)) := rfl
@[simp] theorem JW {D : List PV -> Sto -> Res PV} {a b : Nat} {sl : List Sl} {dP : List PV} {da dk : DA} {ρ : En} {M : Sto} : jw D a b sl dP da dk ρ M = (da ρ M).bind fun xs M1 => (dk ρ M1).bind fun zs M2 => D (ya a b sl dP xs zs) M2 := rfl
@[simp] theorem dTup_eq {ds : DA} {ρ : En} {M : Sto} : yN ds ρ M = (ds ρ M).bind fun xs M1 => if xs.length <= sizeLine then .ok (.tup xs) M1 else .bad := rfl
@[simp] theorem dLst_eq {ds : DA} {ρ : En} {M : Sto} : yh ds ρ M = (ds ρ M).bind fun xs M1 => if xs.length <= sizeLine then .ok (.lst xs) M1 else .bad := rfl
@[simp] theorem dLstN_eq {ds : DA} {ρ : En} {M : Sto} : jbe ds ρ M = (ds ρ M).bind fun xs M1 => if xs.length <= sizeLine then .ok (.ref M1.n) (M1.new (.lst xs)) else .bad := rfl
@[simp] theorem sNext_eq {ρ : En} {M : Sto} : jU ρ M = .nx ρ M := rfl
@[simp] theorem sSeq_eq {d1 d2 : DS} {ρ : En} {M : Sto} : jy d1 d2 ρ M = (d1 ρ M).then d2 := rfl
@[simp] theorem sSet_eq {i : Nat} {d : DE} {ρ : En} {M : Sto} : yo i d ρ M = (d ρ M).st ρ fun v M1 => .nx (ρ.set i (some v)) M1 := rfl
@[simp] theorem sRet_eq {d : DE} {ρ : En} {M : Sto} : yb d ρ M = (d ρ M).st ρ fun v M1 => .rt v M1 := rfl
@[simp] theorem sExpr_eq {d : DE} {ρ : En} {M : Sto} : yP d ρ M = (d ρ M).st ρ fun _ M1 => .nx ρ M1 := rfl
@[simp] theorem sIf_eq {t : DT} {d1 d2 : DS} {ρ : En} {M : Sto} : sIf t d1 d2 ρ M = (t ρ M).st ρ fun c M1 => if c = true then d1 ρ M1 else d2 ρ M1 := rfl
@[simp] theorem sRaise_eq {c : Nat} {ds : DA} {ρ : En} {M : Sto} : xu c ds ρ M = (ds ρ M).st ρ fun vs M1 => if vs.length <= sizeLine then .exc c ρ M1 else .bad := rfl
@[simp] theorem fin_rt {v : PV} {M : Sto} : fin (.rt v M) = .ok v M := rfl
@[simp] theorem fin_nx {ρ : En} {M : Sto} : fin (.nx ρ M) = .ok .non M := rfl
@[simp] theorem fin_exc {c : Nat} {ρ : En} {M : Sto} : fin (.exc c ρ M) = .exc c M := rfl
@[simp] theorem gAddI_int {M : Sto} {i j : Int} : JN M (.int i) (.int j) = some (.int (i + j)) := rfl
@[simp] theorem gSub_int {M : Sto} {i j : Int} : VS M (.int i) (.int j) = some (.int (i - j)) := rfl
@[simp] theorem gLt_int {M : Sto} {i j : Int} : gLt M (.int i) (.int j) = some (.bl (decide (i < j))) := rfl
@[simp] theorem gLe_int {M : Sto} {i j : Int} : gLe M (.int i) (.int j) = some (.bl (decide (i <= j))) := rfl
@[simp] theorem gGt_int {M : Sto} {i j : Int} : gGt M (.int i) (.int j) = some (.bl (decide (j < i))) := rfl
@[simp] theorem gGe_int {M : Sto} {i j : Int} : gGe M (.int i) (.int j) = some (.bl (decide (j <= i))) := rfl
theorem VT {M:Sto} {i j:Int} (h:(-(2 ^ 64) < i∧i < 2 ^ 64)∨(-(2 ^ 64) < j∧j < 2 ^ 64)):jcl M (.int i) (.int j)=some (.int (i * j)):=by
 show orG jaW jgt M (.int i) (.int j)=_;unfold orG
 have:jaW M (.int i) (.int j)=some (.int (i * j)):=by
  show (if jgF i j=true then _ else _)=_;rw [if_pos];unfold jgF;simp only [Bool.or_eq_true,Bool.and_eq_true,decide_eq_true_eq];exact h
 rw [this]
theorem JM {M:Sto} {i j:Int} (h:0 < j) (h2:j < 1073741824):jev M (.int i) (.int j)=some (.int (i / j)):=by
 show (if (decide (0 < j) && decide (j < 1073741824))=true then _ else _)=_;rw [if_pos (by simp only [Bool.and_eq_true,decide_eq_true_eq]; exact ⟨h,h2⟩)]
theorem xn {M:Sto} {i j:Int} (h:0 < j):VU M (.int i) (.int j)=some (.int (i % j)):=by
 show (if decide (0 < j)=true then _ else _)=_;rw [if_pos (decide_eq_true h)]
theorem jet {M:Sto} {i j:Int} (h:0<=j) (h2:j<=1000000) (h3:i.natAbs < 2 ^ 64):gPow M (.int i) (.int j)=some (.int (i ^ j.toNat)):=by
 show (if (decide (0<=j) && decide (j<=1000000) && decide (i.natAbs < 2 ^ 64))=true then _ else _)=_;rw [if_pos (by simp only [Bool.and_eq_true,decide_eq_true_eq]; exact ⟨⟨h,h2⟩,h3⟩)]
structure Town (M:Sto) (ns:List Int) (c:Int):Prop where
 row:M.g 0=some (.lst (ns.map PV.int))
 tw:M.g 1=some (.lst [.ref 0,.int c])
 ne:ns≠[]
 n:2<=M.n
structure Off (M M':Sto):Prop where
 n:M.n<=M'.n
 g:∀ i,2<=i->i < M.n->M'.g i=M.g i
theorem Off.refl (M:Sto):Off M M:=⟨Nat.le_refl _,fun _ _ _=>rfl⟩
theorem Off.trans {A B C:Sto} (h:Off A B) (k:Off B C):Off A C:=⟨Nat.le_trans h.n k.n,fun i hi hn=>(k.g i hi (Nat.lt_of_lt_of_le hn h.n)).trans (h.g i hi hn)⟩
theorem jcZ {M:Sto} {i:Nat} {xs:List PV} (h:M.g i=some (.lst xs)):yE M (.ref i)=some xs:=by
 show (match M.g i with
  | some (.lst xs)=>some xs
  | _=>none)=some xs
 rw [h]
theorem vZ {M:Sto} {i:Nat} {xs:List PV} (h:M.g i=some (.lst xs)):uD M (.ref i)=some xs:=jcZ h
@[simp] theorem anyP_lst {M : Sto} {xs : List PV} : uD M (.lst xs) = some xs := rfl
@[simp] theorem anyP_tup {M : Sto} {xs : List PV} : uD M (.tup xs) = some xs := rfl
@[simp] theorem seqP_lst {M : Sto} {xs : List PV} : yE M (.lst xs) = some xs := rfl
theorem uv {M:Sto} {x:PV} {xs:List PV} {i:Int} (h:uD M x=some xs):gIx M x (.int i)=atI xs i:=by
 show (uD M x).bind _=_;rw [h];rfl
theorem jap {α:Type} {xs:List α} {i:Int} (h:0<=i) (h2:i < xs.length):atI xs i=xs[i.toNat]?:=by
 unfold atI ixN;rw [if_pos h,if_pos h2];rfl
theorem jbb {M:Sto} {x:PV} {xs:List PV} (h:uD M x=some xs):JP M x=some (.int xs.length):=by
 unfold JP;rw [h]
@[simp] theorem one_eq {f : Sto -> PV -> Option PV} {M : Sto} {x : PV} : one f M [x] = match f M x with
  | some z=>some (z,M)
  | none=>none:=rfl
@[simp] theorem dIt_lst {d : DE} {ρ : En} {M M1 : Sto} {xs : List PV} (h : d ρ M = .ok (.lst xs) M1) : dIt d ρ M = .ok (.fix xs) M1 := by
 unfold dIt;rw [h];rfl
def Tru (r:RS):Prop:=∃ M',fin r = .ok (.bl true) M'
section
variable {i:Nat} {d:DE} {c d1:DS} {t:DT} {ρ ρ':En} {M M1:Sto} {v:PV} {g:DG} {F:Nat} {dit:En->Sto->Res ItP} {xs:List PV}
theorem go_set (h:d ρ M = .ok v M1) (k:Tru (c (ρ.set i (some v)) M1)):Tru (jy (yo i d) c ρ M):=by
 unfold jy yo;rw [h];exact k
theorem go_for (h:dit ρ M = .ok (.fix xs) M1) {M2:Sto} (hl:vP g d1 xs ρ M1 = .nx ρ' M2) (k:Tru (c ρ' M2)):Tru (jy (jbO F dit g d1) c ρ M):=by
 unfold jy;rw [jdf h,hl];exact k
theorem JA {r:RS} (h:d ρ M = .ok v M1) (k:c (ρ.set i (some v)) M1=r):jy (yo i d) c ρ M=r:=by
 unfold jy yo;rw [h];exact k
theorem jaR (h:t ρ M = .ok false M1):sIf t d1 jU ρ M = .nx ρ M1:=by
 unfold sIf;rw [h];rfl
end
@[simp] theorem dSl_eq {d : DE} {dl dh : En -> Sto -> Res (Option Int)} {ρ : En} {M : Sto} : dSl d dl dh ρ M = (d ρ M).bind fun x M1 => (dl ρ M1).bind fun lo M2 => (dh ρ M2).bind fun hi M3 => ofO (gSl M3 x lo hi) M3 := rfl
@[simp] theorem dON_eq {ρ : En} {M : Sto} : dON ρ M = .ok none M := rfl
@[simp] theorem dOS_eq {d : DE} {ρ : En} {M : Sto} : dOS d ρ M = (d ρ M).bind fun x M1 => match x with
 | .int i=>.ok (some i) M1
 | _=>.bad:=rfl
end L3
namespace Srt
open PySem PySem.W PyProof.Rows
def run {α:Type} (lt:Nat->Nat->Bool):KasT α->α
 | .ret a=>a
 | .ask i j k=>run lt (k (lt i j))
section
variable {r:Nat->Int}
abbrev lo (r:Nat->Int):Nat->Nat->Bool:=fun i j=>decide (r i < r j)
end
end Srt
namespace Srt
open PySem PySem.W PyProof.Rows
def jcA {α:Type} (n:Nat) (R:α->Prop):KasT α->Prop
 | .ret a=>R a
 | .ask i j k=>i < n∧j < n∧∀ b,jcA n R (k b)
theorem jcA.bind {α β:Type} {n:Nat} {R:α->Prop} {S:β->Prop} {f:α->KasT β} (hf:∀ a,R a->jcA n S (f a)):∀ {t:KasT α},jcA n R t->jcA n S (t.bind f)
 | .ret a,h=>hf a h
 | .ask _ _ k,h=>⟨h.1,h.2.1,fun b=>jcA.bind hf (h.2.2 b)⟩
section
variable {n:Nat} (h0:0 < n)
include h0
end
end Srt
namespace Srt
open PySem PySem.W PyProof.Rows
def T2 (h:Heap) (v:Value) (k:Int × Int):Prop:=∃ a o t u n,v = .ref a∧h.get? a=some o∧o.cls = .type "tuple"∧o.data = .seq #[.int k.1 t,.int k.2 u] n
theorem T2.mono {h h':Heap} {v:Value} {k:Int × Int} (q:T2 h v k) (e:∀ b o,v = .ref b->h.get? b=some o->h'.get? b=some o):T2 h' v k:=by
 obtain ⟨a,o,t,u,n,rfl,h1,h2,h3⟩:=q;exact ⟨a,o,t,u,n,rfl,e a o rfl h1,h2,h3⟩
def Ur (h:Heap):List Value->List (Int × Int)->Prop
 | [],[]=>True
 | v :: vs,k :: ks=>T2 h v k∧Ur h vs ks
 | _,_=>False
theorem Ur.mono {h h':Heap}:∀ {vs:List Value} {ks:List (Int × Int)},Ur h vs ks->(∀ b o,.ref b ∈ vs->h.get? b=some o->h'.get? b=some o)->Ur h' vs ks
 | [],[],_,_=>trivial
 | v :: vs,k :: ks,q,e=>⟨q.1.mono fun b o z=>e b o (by rw [z]; exact List.mem_cons_self),q.2.mono fun b o z=>e b o (List.mem_cons_of_mem _ z)⟩
 | [],_ :: _,q,_=>q.elim
 | _ :: _,[],q,_=>q.elim
theorem Ur.length {h:Heap}:∀ {vs:List Value} {ks:List (Int × Int)},Ur h vs ks->vs.length=ks.length
 | [],[],_=>rfl
 | _ :: _,_ :: _,q=>by simp [q.2.length]
 | [],_ :: _,q=>q.elim
 | _ :: _,[],q=>q.elim
theorem Ur.at {h:Heap}:∀ {vs:List Value} {ks:List (Int × Int)} {i:Nat},Ur h vs ks->i < vs.length->T2 h (vs.getD i .none) (ks.getD i (0,0))
 | _ :: _,_ :: _,0,q,_=>q.1
 | _ :: _,_ :: _,i + 1,q,hi=>q.2.at (i:=i) (by simpa using hi)
 | [],[],i,_,hi=>absurd hi (Nat.not_lt_zero _)
 | [],_ :: _,_,q,_=>q.elim
 | _ :: _,[],_,q,_=>q.elim
section
variable {prog:Program} {w:World} {A:Around} {E:Value->Shared->Prop} {s:Shared}
end
end Srt
namespace L2
open PySem PySem.Spec PyProof.Rows
section
variable {X:Cx}
variable {e st:Expr} {te:TE} {ts:TO} {pos p2:Pos}
end
end L2
namespace L3
open PySem L2
section
variable {X:Cx} {T:Tb} {ES:St->XK} {a st:Expr} {pos p2:Pos} {da ds:DE}
end
end L3
namespace L3
open PySem L2
open PyProof.Rows (envOfC)
theorem VA {W:Wd} {f:Str} {x:PV} {v:V} (r:Rep W x v):∀ {fs:List (Str × PV)} {vs:List (Str × V)},xI W fs vs->xI W (jdv f x fs) (xC f v vs)
 | [],_,e=>by cases e; exact ⟨v,[],rfl,r,rfl⟩
 | p :: fs,_,⟨u,t,e,a,b⟩=>by
  subst e;unfold jdv xC
  by_cases h:p.1=f
  ·rw [if_pos (by rw [h]; exact beq_self_eq_true f),if_pos h];exact ⟨v,t,rfl,r,b⟩
  ·rw [if_neg (by simpa using fun z:f=p.1=>h z.symm),if_neg h];exact ⟨u,_,rfl,a,VA r b⟩
def vS (M:Sto) (k:Nat):PV->Option (Nat × List (Str × PV))
 | .ref i=>(match M.g i with
  | some (.ins c fs)=>if c=k then some (i,fs) else none
  | _=>none)
 | _=>none
theorem JJ {W:Wd} {M:Sto} {H:Hp} {k i:Nat} {x:PV} {v:V} {fs:List (Str × PV)} (hh:Held W M H) (r:Rep W x v) (e:vS M k x=some (i,fs)):∃ a dx vs,v = .ref a∧W.α i=some a∧M.g i=some (.ins k fs)∧H a=some (.ins (W.T.C k) dx vs)∧xI W fs vs:=by
 cases x with
 | ref j =>
  have e:(match M.g j with
   | some (.ins c fs)=>if c=k then some (j,fs) else none
   | _=>none)=some (i,fs):=e
  split at e
  ·rename_i c gs hg;split at e
   ·rename_i hc;cases e;subst hc;obtain ⟨a,rfl,ha⟩:=r;obtain ⟨b,o,h1,h2,h3,dx,vs,rfl,rf⟩:=hh.m _ _ hg;rw [ha] at h1;cases h1;exact ⟨a,dx,vs,rfl,ha,hg,h3,rf⟩
   ·cases e
  ·cases e
 | _=>cases e
def Yp (k:Nat) (f:Str) (d:DE):DE:=fun ρ M=>(d ρ M).bind fun x M1=>match vS M1 k x with
 | some (_,fs)=>ofO (fs.lookup f) M1
 | none=>.bad
def Vt (k:Nat) (f:Str) (d do_:DE):DS:=fun ρ M=>(d ρ M).st ρ fun y M1=>(do_ ρ M1).st ρ fun x M2=>match vS M2 k x with
 | some (i,fs)=>if fs.length < 1000 then .nx ρ (M2.set i (.ins k (jdv f y fs))) else .bad
 | none=>.bad
section
variable {X:Cx} {T:Tb} {ES:St->XK} {o e:Expr} {es:List Expr} {f m x:Str} {k j:Nat} {pos pos' apos p:Pos} {d do_:DE} {da dk:DA} {ps ks:List Str} {a b:Nat} {sl:List Sl} {dP:List PV} {D:List PV->Sto->Res PV} {kws:List Keyword}
theorem xA (hT:T.K=X.K) (c:Cls X.K (T.C k)) (n:jS X.K (T.C k) f) (he:QE X T ES o d) (hb:attributeBase o f X.env (eval o X.env)=eval o X.env:=by rfl):QE X T ES (.Attribute o f pos) (Yp k f d) :=
 ⟨jO (pe_fld he.h hb) fun σ H Q hQQ=>jC hQQ fun W ρ M kT hh hs p=>⟨W,ρ,M,kT,hh,hs,jz.bind p fun W1 M1 x v H1 l1 h1 r1 p1=>by
  split at p1
  ·rename_i i fs e1;obtain ⟨ad,dx,vs,rfl,_,_,h3,rf⟩:=JJ h1 r1 e1;rw [l1.k,kT] at h3
   cases e2:fs.lookup f with
   | none=>rw [e2] at p1; exact p1.elim
   | some y =>
    rw [e2] at p1;obtain ⟨u,e3,r3⟩:=rf.get e2;exact ⟨ad,T.C k,dx,vs,u,rfl,h3,c,n,e3,p1 W1 H1 u (.refl W1) h1 r3⟩
  ·exact p1.elim⟩⟩
theorem XM (hT:T.K=X.K) (c:Cls X.K (T.C k)) (n:jS X.K (T.C k) f) (ho:QE X T ES o do_) (he:QE X T ES e d) (hsw:swapsWith e (some (.Attribute o f pos')) pos.line X.env=pure false:=by rfl):QS X T ES (.Assign [.Attribute o f pos'] e pos) (Vt k f d do_) :=
 ⟨yH (ps_fld ho.h he.h hsw) fun D σ H hQQ=>yj hQQ fun W ρ M kT hh hs q=>⟨W,ρ,M,kT,hh,hs,jK.bind hs q fun W1 M1 y v H1 l1 h1 r1 q1=>⟨W1,ρ,M1,l1.k.trans kT,h1,hs.up l1,jK.bind (hs.up l1) q1 fun W2 M2 x u H2 l2 h2 r2 q2=>by
  split at q2
  ·rename_i i fs e1;split at q2
   ·rename_i hz;obtain ⟨ad,dx,vs,rfl,ha,hg,h3,rf⟩:=JJ h2 r2 e1;have kk:=l2.k.trans (l1.k.trans kT);have h3':=h3;rw [kk] at h3';refine ⟨ad,T.C k,dx,vs,rfl,h3',c,n,by rw [rf.length]; exact hz,?_⟩;have hu:=h2.upd (c':=.ins k (jdv f y fs)) (o:=.ins (T.C k) dx (xC f v vs)) hg ha ⟨dx,_,by rw [kk],VA (r1.up l2) rf⟩;exact q2 W2 σ _ (.refl W2) hu ((hs.up l1).up l2)
   ·exact q2.elim
  ·exact q2.elim⟩⟩⟩
structure MetD (P:Program) (w:World) (K:PySem.W.Frag) (mg:Str->Option Value) (base:Heap) (T:Tb) (k:Nat) (m:Str) (j:Nat) (ps ks:List Str) (a b:Nat) (sl:List Sl) (dP:List PV) (D:List PV->Sto->Res PV):Prop where
 ex:∃ f fd dV ds,FnOk P w K mg base (CX1 P w) j f fd ps (spD T D)∧Meth K (T.C k) m f∧Cls K (T.C k)∧KBinds K fd ps ks (ya a b sl ds) (ya a b sl dV)∧∀ W:Wd,W.T=T->jl W dP dV
def xa (k:Nat) (m:Str) (D:List PV->Sto->Res PV) (a b:Nat) (sl:List Sl) (dP:List PV) (do_:DE) (da dk:DA):DE:=fun ρ M=>(do_ ρ M).bind fun x M0=>match vS M0 k x with
 | some (_,fs)=>if fs.lookup m=none then (da ρ M0).bind fun xs M1=>(dk ρ M1).bind fun zs M2=>D (ya a b sl dP (x :: xs) zs) M2 else .bad
 | none=>.bad
theorem yi {pl:Sem Bool} (N:MetD X.prog X.w X.K X.mg X.base T k m j ps ks a b sl dP D) (hr:Room j X.A) (hx:yT (CX1 X.prog X.w) X ES) (ho:QE X T ES o do_) (ha:QA X T ES (e :: es) da) (hkw:QK X T ES kws dk)
  (hall:(backToKw pos (keywordEach kws X.env)).all (·.1.isSome)=true:=by rfl) (hks:(backToKw pos (keywordEach kws X.env)).filterMap (·.1)=ks:=by rfl)
  (he:starEach (e :: es) X.env=(false,eval e X.env) :: starEach es X.env:=by rfl)
  (hpl:((backTo pos (starEach (e :: es) X.env)).any (·.1) || (backToKw pos (keywordEach kws X.env)).any (·.1.isNone))=false:=by rfl)
  (ht:eval (.Call (.Attribute o m apos) (e :: es) kws pos) X.env=(do
   let ov <- eval o X.env
   standAt apos.atName
   let (f,first) <- holding [ov] (getMethod ov m pl)
   callWith pos f first (backTo pos (starEach (e :: es) X.env)) (backToKw pos (keywordEach kws X.env))):=by rfl):QE X T ES (.Call (.Attribute o m apos) (e :: es) kws pos) (xa k m D a b sl dP do_ da dk):=⟨by
 obtain ⟨f,fd,dV,ds,F,hm,c,hb,hdV⟩:=N.ex;rintro pins s σ H Q I ⟨W,ρ,M,kT,hh,hs,q⟩
 refine PySem.W.methodCall_KW (pl:=pl) (thn (ho.h pins s σ H (fun v H1=>∃ W1 M1 x i fs,W1.T=T∧Held W1 M1 H1∧jJ W1 ρ σ∧Rep W1 x v∧vS M1 k x=some (i,fs)∧fs.lookup m=none∧jz W1 Rep ((da ρ M1).bind fun xs M1=>(dk ρ M1).bind fun zs M2=>D (ya a b sl dP (x :: xs) zs) M2) Q (ES σ)) I ⟨W,ρ,M,kT,hh,hs,jz.bind q
   fun W1 M1 x v H1 l1 h1 r1 q1=>by
    split at q1
    ·rename_i i fs e1;split at q1
     ·rename_i e2;exact ⟨W1,M1,x,i,fs,l1.k.trans kT,h1,hs.up l1,r1,e1,e2,q1⟩
     ·exact q1.elim
    ·exact q1.elim⟩) fun u s1 hQQ=>?_) ht
 obtain ⟨v,H1,I1,rx,W1,M1,x,i,fs,k1,h1,hs1,r1,e1,e2,q1⟩:=hQQ;obtain ⟨ad,dx,vf,rfl,ha1,hg,h3,rf⟩:=JJ h1 r1 e1;obtain rfl:u=Value.ref ad:=rx;rw [k1] at h3;refine JL I1 h3 c hm (rf.none e2) ?_
 refine PySem.W.callWith_KW (first:=[.ref ad]) (h₀:=X.base) I.ok.mod.kin hm.kp hall (thn (ha.h pos pins s1 σ H1 (fun vs H2=>∃ W2 M2 xs,W2.T=T∧Held W2 M2 H2∧jJ W2 ρ σ∧Rep W2 x (.ref ad)∧jl W2 xs vs∧jz W2 Rep ((dk ρ M2).bind fun zs M3=>D (ya a b sl dP (x :: xs) zs) M3) Q (ES σ)) I1 ⟨W1,ρ,M1,k1,h1,hs1,jz.bind q1
   fun W2 M2 xs vs H2 l2 h2 r2 q2=>⟨W2,M2,xs,l2.k.trans k1,h2,hs1.up l2,r1.up l2,r2,q2⟩⟩) fun us s2 hQQ=>?_) hpl he
 obtain ⟨vs,H2,I2,r,W2,M2,xs,k2,h2,hs2,rx2,r2,q2⟩:=hQQ;refine thn (hkw.h pos pins s2 σ H2 (fun zs H3=>spD T D (ya a b sl dV (.ref ad :: vs) zs) H3 Q (ES σ)) I2 ⟨W2,ρ,M2,k2,h2,hs2,jz.bind q2 fun W3 M3 zs' zs H3 l3 h3 r3 q3=>⟨W3,_,M3,l3.k.trans k2,h3,ve (hdV W3 (l3.k.trans k2)) (show jl W3 (x :: xs) (.ref ad :: vs) from ⟨_,_,rfl,rx2.up l3,r2.up l3⟩) r3,q3⟩⟩) fun ws s3 hQQ=>?_;obtain ⟨zs,H3,I3,rz,q3⟩:=hQQ;refine ⟨I3.kIn,?_⟩;rw [hks]
 exact jdg (us:=.ref ad :: us) (vs:=.ref ad :: vs) F hr hb hx I3 (.cons rfl r) rz q3⟩
theorem jfH {pl:Sem Bool} (N:MetD X.prog X.w X.K X.mg X.base T k m j ps ks a b sl dP D) (hr:Room j X.A) (hx:yT (CX1 X.prog X.w) X ES) (ho:QE X T ES o do_) (hkw:QK X T ES kws dk)
  (hall:(backToKw pos (keywordEach kws X.env)).all (·.1.isSome)=true:=by rfl) (hks:(backToKw pos (keywordEach kws X.env)).filterMap (·.1)=ks:=by rfl)
  (hpl:((backTo pos (starEach [] X.env)).any (·.1) || (backToKw pos (keywordEach kws X.env)).any (·.1.isNone))=false:=by rfl)
  (ht:eval (.Call (.Attribute o m apos) [] kws pos) X.env=(do
   let ov <- eval o X.env
   standAt apos.atName
   let (f,first) <- holding [ov] (getMethod ov m pl)
   callWith pos f first (backTo pos (starEach [] X.env)) (backToKw pos (keywordEach kws X.env))):=by rfl):QE X T ES (.Call (.Attribute o m apos) [] kws pos) (xa k m D a b sl dP do_ je dk):=⟨by
 obtain ⟨f,fd,dV,ds,F,hm,c,hb,hdV⟩:=N.ex;rintro pins s σ H Q I ⟨W,ρ,M,kT,hh,hs,q⟩
 refine PySem.W.methodCall_KW (pl:=pl) (thn (ho.h pins s σ H (fun v H1=>∃ W1 M1 x i fs,W1.T=T∧Held W1 M1 H1∧jJ W1 ρ σ∧Rep W1 x v∧vS M1 k x=some (i,fs)∧fs.lookup m=none∧jz W1 Rep ((dk ρ M1).bind fun zs M2=>D (ya a b sl dP [x] zs) M2) Q (ES σ)) I ⟨W,ρ,M,kT,hh,hs,jz.bind q
   fun W1 M1 x v H1 l1 h1 r1 q1=>by
    split at q1
    ·rename_i i fs e1;split at q1
     ·rename_i e2;exact ⟨W1,M1,x,i,fs,l1.k.trans kT,h1,hs.up l1,r1,e1,e2,q1⟩
     ·exact q1.elim
    ·exact q1.elim⟩) fun u s1 hQQ=>?_) ht
 obtain ⟨v,H1,I1,rx,W1,M1,x,i,fs,k1,h1,hs1,r1,e1,e2,q1⟩:=hQQ;obtain ⟨ad,dx,vf,rfl,ha1,hg,h3,rf⟩:=JJ h1 r1 e1;obtain rfl:u=Value.ref ad:=rx;rw [k1] at h3;refine JL I1 h3 c hm (rf.none e2) ?_;refine PySem.W.callWith_KW0 (first:=[.ref ad]) (h₀:=X.base) I.ok.mod.kin hm.kp hall (thn (hkw.h pos pins s1 σ H1 (fun zs H3=>spD T D (ya a b sl dV [.ref ad] zs) H3 Q (ES σ)) I1 ⟨W1,ρ,M1,k1,h1,hs1,jz.bind q1 fun W3 M3 zs' zs H3 l3 h3 r3 q3=>⟨W3,_,M3,l3.k.trans k1,h3,ve (hdV W3 (l3.k.trans k1)) (show jl W3 [x] [.ref ad] from ⟨_,_,rfl,r1.up l3,rfl⟩) r3,q3⟩⟩) fun ws s3 hQQ=>?_) hpl;obtain ⟨zs,H3,I3,rz,q3⟩:=hQQ;refine ⟨I3.kIn,?_⟩;rw [hks]
 exact jdg (us:=[.ref ad]) (vs:=[.ref ad]) F hr hb hx I3 (.cons rfl .nil) rz q3⟩
structure NewD (P:Program) (w:World) (K:PySem.W.Frag) (mg:Str->Option Value) (base:Heap) (T:Tb) (k:Nat) (x:Str) (j:Nat) (ps ks:List Str) (a b:Nat) (sl:List Sl) (dP:List PV) (D:List PV->Sto->Res PV):Prop where
 ex:∃ f fd dV ds,FnOk P w K mg base (CX1 P w) j f fd ps (spD T D)∧Mk K (T.C k) f∧mg x=some (.ref (T.C k))∧KBinds K fd ps ks (ya a b sl ds) (ya a b sl dV)∧∀ W:Wd,W.T=T->jl W dP dV
def made (k:Nat) (D:List PV->Sto->Res PV) (vs:PV->List PV) (M:Sto):Res PV:=match D (vs (.ref M.n)) (M.new (.ins k [])) with
 | .ok .non M3=>.ok (.ref M.n) M3
 | .ok _ _=>.bad
 | .exc c M3=>.exc c M3
 | .bad=>.bad
def jgy (k:Nat) (D:List PV->Sto->Res PV) (a b:Nat) (sl:List Sl) (dP:List PV) (da dk:DA):DE:=fun ρ M=>(da ρ M).bind fun xs M1=>(dk ρ M1).bind fun zs M2=>made k D (fun x=>ya a b sl dP (x :: xs) zs) M2
theorem Ux {f C:Addr} {fd:FuncData} {dV:List V} {ds:List Value} {pins:List (Addr × Obj)} {σ:St} {H:Hp} {s:Shared} {Q:VK} {us ws:List Value} {vs zs:List V} {sp:Sp} (M:Mk X.K C f) (F:FnOk X.prog X.w X.K X.mg X.base (CX1 X.prog X.w) j f fd ps sp) (hr:Room (j + 1) X.A) (hb:KBinds X.K fd ps ks (ya a b sl ds) (ya a b sl dV)) (hx:yT (CX1 X.prog X.w) X ES)
  (I:Inv X pins σ H s) (r:jq vs us) (rz:jq zs ws) (h:∀ x dx,H x=none->H dx=none->dx≠x->sp (ya a b sl dV (.ref x :: vs) zs) (L2.upd (L2.upd H dx (.own x)) x (.ins C dx [])) (fun v H2=>v = .non∧Q (.ref x) H2) (ES σ)) :
  wpAny (model X.prog X.w) X.A (call (.ref C) us (ks.zip ws)) (EP X pins σ Q) X.xe s:=by
 have hq:=h (s.heap.objs.size + 1) s.heap.objs.size (I.hok.fresh (Nat.le_succ _)) (I.hok.fresh (Nat.le_refl _)) (Nat.ne_of_lt (Nat.lt_succ_self _));have I2:=Inv.made (C:=C) I;have r2:=hb.rel (vs:=V.ref (s.heap.objs.size + 1) :: vs) (us:=Value.ref (s.heap.objs.size + 1) :: us) (.cons rfl r) rz
 have hl:(ya a b sl ds (Value.ref (s.heap.objs.size + 1) :: us) ws).length=ps.length:=by
  rw [<- r2.length];exact F.len _ _ _ _ hq
 refine wpAny_call (jeb (f:=f) I.kIn M.makes M.init (beq_iff_eq.mp M.fn) (codeAny_mono (F.run _ X.stack _ _ ⟨Value.ref (s.heap.objs.size + 1) :: us,ks.zip ws⟩ _ _ _ (ES σ) (hr.make C us (ks.zip ws)) (I2.env0.make C us (ks.zip ws)) (hb.to _ (Value.ref (s.heap.objs.size + 1) :: us) ws I2.kIn hl) r2 hq) fun r s' hq'=>?_))
 match r,hq' with
 | .error e,hq'=>exact hx pins σ _ _ e s' I2 hq'
 | .ok (.ret u),hq' =>
  obtain ⟨v,H',I3,rv,ev,q3⟩:=I2.after hq';subst ev;exact ⟨rv,⟨V.ref (s.heap.objs.size + 1),H',I3,rfl,q3⟩⟩
theorem jcb {W:Wd} {M:Sto} {H:Hp} {Q:VK} {E:XK} {xs zs:List PV} {vs us:List V} {dV:List V} (kT:W.T=T) (hh:Held W M H) (hd:∀ W:Wd,W.T=T->jl W dP dV) (rx:jl W xs vs) (rz:jl W zs us) (q:jz W Rep (made k D (fun x=>ya a b sl dP (x :: xs) zs) M) Q E) :
  ∀ x dx,H x=none->H dx=none->dx≠x->spD T D (ya a b sl dV (.ref x :: vs) us) (L2.upd (L2.upd H dx (.own x)) x (.ins (T.C k) dx [])) (fun v H2=>v = .non∧Q (.ref x) H2) E:=by
 intro x dx hx hdx hne;obtain ⟨l1,h1,f1⟩:=hh.frz (l:=dx) (o:=.own x) hdx
 have e2:L2.upd H dx (.own x) x=none:=by rw [ji (fun z=>hne z.symm)]; exact hx
 obtain ⟨l2,h2,a2⟩:=h1.put (l:=x) (o:=.ins (T.C k) dx []) (c:=.ins k []) e2 ⟨dx,[],by rw [l1.k,kT],rfl⟩;have l12:=l1.trans l2;refine ⟨_,ya a b sl dP (.ref M.n :: xs) zs,M.new (.ins k []),l12.k.trans kT,h2,ve (hd _ (l12.k.trans kT)) ⟨_,_,rfl,⟨x,rfl,a2⟩,rx.up l12⟩ (rz.up l12),?_⟩;unfold made at q
 cases e:D (ya a b sl dP (.ref M.n :: xs) zs) (M.new (.ins k [])) with
 | ok v M3 =>
  simp only [e] at q
  cases v with
  | non=>exact fun W3 H3 u l3 h3 r3=>⟨r3,q W3 H3 (.ref x) (l12.trans l3) h3 ⟨x,rfl,l3.a _ _ a2⟩⟩
  | _=>exact q.elim
 | exc c M3 =>
  simp only [e] at q;intro W3 H3 dd l3 h3 dx
  have:=q W3 H3 dd (l12.trans l3) h3 dx
  rw [<- l12.k] at this;exact this
 | bad =>
  simp only [e] at q;exact q.elim
theorem jdp (N:NewD X.prog X.w X.K X.mg X.base T k x j ps ks a b sl dP D) (hr:Room (j + 1) X.A) (hg:Gl X x) (hx:yT (CX1 X.prog X.w) X ES) (ha:QA X T ES (e :: es) da) (hkw:QK X T ES kws dk)
  (hall:(backToKw pos (keywordEach kws X.env)).all (·.1.isSome)=true:=by rfl) (hks:(backToKw pos (keywordEach kws X.env)).filterMap (·.1)=ks:=by rfl)
  (hdb:(x == ("__debug__":Str))=false:=by decide) (he:starEach (e :: es) X.env=(false,eval e X.env) :: starEach es X.env:=by rfl)
  (hpl:((backTo pos (starEach (e :: es) X.env)).any (·.1) || (backToKw pos (keywordEach kws X.env)).any (·.1.isNone))=false:=by rfl):QE X T ES (.Call (.Name x p) (e :: es) kws pos) (jgy k D a b sl dP da dk):=⟨by
 obtain ⟨f,fd,dV,ds,F,mk,hm,hb,hdV⟩:=N.ex;rintro pins s σ H Q I ⟨W,ρ,M,kT,hh,hs,q⟩;refine wpAny_Call_Name_kw (vd I hg hm ?_ hdb)
 refine PySem.W.callWith_KW (h₀:=X.base) I.ok.mod.kin mk.kp hall (thn (ha.h pos pins s σ H (fun vs H1=>∃ W1 M1 xs,W1.T=T∧Held W1 M1 H1∧jJ W1 ρ σ∧jl W1 xs vs∧jz W1 Rep ((dk ρ M1).bind fun zs M2=>made k D (fun x=>ya a b sl dP (x :: xs) zs) M2) Q (ES σ)) I ⟨W,ρ,M,kT,hh,hs,jz.bind q
   fun W1 M1 xs vs H1 l1 h1 r1 q1=>⟨W1,M1,xs,l1.k.trans kT,h1,hs.up l1,r1,q1⟩⟩) fun us s1 hQQ=>?_) hpl he
 obtain ⟨vs,H1,I1,r,W1,M1,xs,k1,h1,hs1,r1,q1⟩:=hQQ;refine thn (hkw.h pos pins s1 σ H1 (fun zs H2=>∀ x dx,H2 x=none->H2 dx=none->dx≠x->spD T D (ya a b sl dV (.ref x :: vs) zs) (L2.upd (L2.upd H2 dx (.own x)) x (.ins (T.C k) dx [])) (fun v H2=>v = .non∧Q (.ref x) H2) (ES σ)) I1 ⟨W1,ρ,M1,k1,h1,hs1,jz.bind q1 fun W2 M2 zs' zs H2 l2 h2 r2 q2=>jcb (l2.k.trans k1) h2 hdV (r1.up l2) r2 q2⟩) fun ws s2 hQQ=>?_;obtain ⟨zs,H2,I2,rz,q2⟩:=hQQ;refine ⟨I2.kIn,?_⟩;rw [hks]
 exact Ux mk F hr hb hx I2 r rz q2⟩
end
end L3
namespace L3
open PySem L2
end L3
namespace L3
open PySem L2
open PyProof.Rows (tail_any)
def jgQ:List DictEntry->List (Int × Int)->Bool
 | [],[]=>true
 | e :: es,p :: kvs=>Value.isInt p.1 e.key && (e.hash == hashInt p.1) && Value.isInt p.2 e.val && jgQ es kvs
 | _,_=>false
structure TabI (K:PySem.W.Frag) (mg:Str->Option Value) (x:Str) (kvs:List (Int × Int)):Prop where
 ex:∃ a es ep,mg x=some (.ref a)∧K.lookup a=some ⟨.type "dict",none,.dict es ep,#[]⟩∧jgQ es.toList kvs=true
section
variable {X:Cx} {T:Tb} {ES:St->XK} {e:Expr} {x:Str} {k:Nat} {pos p:Pos} {d:DE} {kvs:List (Int × Int)}
def gIsO:G1:=fun M xs=>match xs with
 | [x,.top k]=>(match vS M k x with
  | some _=>some (.bl true,M)
  | none=>none)
 | _=>none
theorem b_isO (hT:T.K=X.K):yf X (.builtin "isinstance") (rC T gIsO):=by
 intro pins s σ H vs us Q I rv h;obtain ⟨W,M,xs,z,M',k,hh,rx,e,q⟩:=h;unfold gIsO at e;split at e
 ·rename_i x j;split at e
  ·rename_i r e1;cases e;obtain ⟨i,fs⟩:=r;obtain ⟨v,u,rfl,r1,r2⟩:=yI rx;obtain ⟨v',u',rfl,q1,q2⟩:=Yt rv;have r2:u = .ref (W.T.C j):=r2;subst r2;cases q2;obtain ⟨a,dx,vs,rfl,_,_,h3,_⟩:=JJ hh r1 e1;cases q1;obtain ⟨h2,_,_,ho,_⟩:=I.hok _ _ h3;refine PySem.W.isi_call (K:=X.K) (t:=.ref (W.T.C j)) I.kIn (fun M=>?_) (by simp [PySem.W.isIn]) (by intro z; cases z) ⟨.bl _,H,I,rfl,q W H _ (.refl W) hh rfl⟩;obtain ⟨od,hod⟩:=I.hok _ _ h2;exact PySem.W.InstAt.type (od:=some od) ⟨ho,rfl,rfl,hod⟩
  ·cases e
 ·cases e
end
end L3
namespace L3
open PySem L2
def gIsW (c:Nat):G1:=fun M xs=>match xs with
 | [x,.top k]=>if k=c then (match vS M k x with
  | some _=>some (.bl true,M)
  | none=>(match Xe M x with
   | some _=>some (.bl false,M)
   | none=>none)) else none
 | _=>none
structure NoKit (K:PySem.W.Frag) (C:Addr):Prop where
 h:∀ n ∈ yR,PySem.W.kitOne K (.type n) (.ref C)=some false
section
variable {X:Cx} {T:Tb}
theorem b_isW {c:Nat} (hT:T.K=X.K) (hk:NoKit X.K (T.C c)):yf X (.builtin "isinstance") (rC T (gIsW c)):=by
 intro pins s σ H vs us Q I rv h;obtain ⟨W,M,xs,z,M',k,hh,rx,e,q⟩:=h
 have kk:W.T.K=X.K:=by rw [k]; exact hT
 unfold gIsW at e;split at e
 ·rename_i x j;split at e
  ·rename_i hj;subst hj
   cases e1:vS M j x with
   | some r =>
    refine b_isO hT pins s σ H vs us Q I rv ⟨W,M,[x,.top j],z,M',k,hh,rx,?_,q⟩;unfold gIsO;rw [e1] at e;simp only [e1];exact e
   | none =>
    rw [e1] at e;dsimp only at e
    cases e2:Xe M x with
    | none=>rw [e2] at e; cases e
    | some n =>
     rw [e2] at e;cases e;obtain ⟨v,u,rfl,r1,r2⟩:=yI rx;obtain ⟨v',u',rfl,q1,q2⟩:=Yt rv;have r2:u = .ref (W.T.C j):=r2;subst r2;cases q2;obtain ⟨P,Z,hP,hne⟩:=XV I hh kk e2 r1 q1;have hK:=hk.h n (uq e2);rw [<- k] at hK
     exact PySem.W.kia_one Z I.kIn hP hK hne fun tk=>⟨.bl _,H,I.tok _,rfl,q W H _ (.refl W) hh rfl⟩
  ·cases e
 ·cases e
end
end L3
namespace L3
open PySem L2
def Yk (xs ys:List PV):List PV:=List.zipWith (fun x y=>PV.tup [x,y]) xs ys
theorem Vo {xs ys:List PV} {i:Nat} {z:PV} (h:(Yk xs ys)[i]? = some z):∃ x y,xs[i]? = some x∧ys[i]? = some y∧z = .tup [x,y]:=by
 unfold Yk at h;rw [List.getElem?_zipWith] at h
 cases e1:xs[i]? with
 | none=>rw [e1] at h; cases h
 | some x =>
  cases e2:ys[i]? with
  | none=>rw [e1,e2] at h; cases h
  | some y =>
   rw [e1,e2] at h;cases h;exact ⟨x,y,rfl,rfl,rfl⟩
theorem Yr {xs ys:List PV} {i:Nat} (h:(Yk xs ys)[i]? = none):xs.length<=i∨ys.length<=i:=by
 unfold Yk at h;rw [List.getElem?_eq_none_iff,List.length_zipWith] at h;omega
def dZip (ds:DA):En->Sto->Res ItP:=fun ρ M=>(ds ρ M).bind fun xs M1=>match xs with
 | [.lst xs,.lst ys]=>.ok (.fix (Yk xs ys)) M1
 | [.tup [],.tup _]=>.ok (.fix []) M1
 | _=>.bad
section
variable {X:Cx} {T:Tb} {ES:St->XK} {p pos:Pos} {ds:DA}
theorem qi_zip {l m:Expr} {elts:List Expr} {x1:Nat} {tpos:Pos} (hT:T.K=X.K) (hg:Gl X "zip") (hm:X.mg "zip" = none) (ha:QA X T ES [l,m] ds) (hs:starEach [l,m] X.env=(false,eval l X.env) :: starEach [m] X.env:=by rfl) (hs2:starEach [m] X.env=[(false,eval m X.env)]:=by rfl) :
  QI X T ES (.Tuple elts x1 tpos) (.Call (.Name "zip" p) [l,m] [] pos) (dZip ds) :=
 ⟨vo (pi_zip hg hm ha.h hs hs2) fun σ H R hQQ=>jC hQQ fun W ρ M k hh hs q=>⟨W,ρ,M,k,hh,hs,jz.bind q fun W1 M1 xs vs H1 l1 h1 r1 p1=>by
  split at p1
  ·rename_i xs ys;obtain ⟨u,v,rfl,ru,rv⟩:=yI r1;obtain ⟨a,us,rfl,ha,ra⟩:=ru;obtain ⟨b,ws,rfl,hb,rb⟩:=rv;refine ⟨a,b,rfl,.inl ⟨⟨us,SqL.of (h1.f _ _ ha)⟩,⟨ws,SqL.of (h1.f _ _ hb)⟩,p1 W1 H1 _ (.refl W1) h1 fun W' M' H' le hh' i=>?_⟩⟩;have qa:H' a=some (.lst us):=hh'.f _ _ (le.f _ _ ha);have qb:H' b=some (.lst ws):=hh'.f _ _ (le.f _ _ hb);refine ⟨fun z e=>?_,fun e=>?_⟩
   ·have e:(Yk xs ys)[i]? = some z:=Option.some.inj e;obtain ⟨x,y,ex,ey,rfl⟩:=Vo e;obtain ⟨u,eu,ru⟩:=ra.get ex;obtain ⟨v,ev,rv⟩:=rb.get ey;refine ⟨⟨us,ws,u,v,SqL.of qa,SqL.of qb,eu,ev⟩,fun t H'' hQQ=>?_⟩;obtain ⟨c,u',v',et,hc,hu,hv,eH⟩:=hQQ;subst et;subst eH;have hu:=hu us (SqL.of qa);have hv:=hv ws (SqL.of qb);rw [eu] at hu;rw [ev] at hv;cases hu;cases hv;exact vO (xs:=[x,y]) hh' (show jl W' _ [u,v] from ⟨_,_,rfl,ru.up0 le,_,_,rfl,rv.up0 le,rfl⟩) hc
   ·have e:(Yk xs ys)[i]? = none:=Option.some.inj e;exact ⟨us,ws,SqL.of qa,SqL.of qb,by rw [ra.length,rb.length]; exact Yr e⟩
  ·rename_i ys;obtain ⟨u,v,rfl,ru,rv⟩:=yI r1;obtain ⟨a,us,rfl,ha,ra⟩:=ru;obtain ⟨b,ws,rfl,hb,rb⟩:=rv;cases ra
   have kk:W1.T.K=X.K:=by rw [l1.k,k]; exact hT
   refine ⟨a,b,rfl,.inr ⟨kk ▸ vi h1.f ha,⟨ws,kk ▸ vi h1.f hb⟩,p1 W1 H1 _ (.refl W1) h1 fun W' M' H' le hh' i=>?_⟩⟩;refine ⟨fun z e=>?_,fun e=>?_⟩
   ·have e:([]:List PV)[i]? = some z:=Option.some.inj e;simp at e
   ·have:SqT X.K H' a []:=kk ▸ vi (fun b o q=>hh'.f b o (le.f b o q)) ha
    exact this
  ·exact p1.elim⟩⟩
end
structure ClsD (P:Program) (w:World) (K:PySem.W.Frag) (mg:Str->Option Value) (base:Heap) (T:Tb) (k:Nat) (x m:Str) (j:Nat) (ps ks:List Str) (a b:Nat) (sl:List Sl) (dP:List PV) (D:List PV->Sto->Res PV):Prop where
 ex:∃ f fd dV ds,FnOk P w K mg base (CX1 P w) j f fd ps (spD T D)∧mg x=some (.ref (T.C k))∧PySem.W.readsIn K (T.C k) (.type "type")=true∧PySem.W.findCls K (.ref (T.C k)) (.type "type") m=some (.val (.ref f)) ∧
  PySem.W.specialIn K (.ref (T.C k)) "__getattribute__" = some (some (.builtin "type.__getattribute__"))∧PySem.W.keepIn K (.ref f)=true∧KBinds K fd ps ks (ya a b sl ds) (ya a b sl dV)∧∀ W:Wd,W.T=T->jl W dP dV
section
variable {X:Cx} {T:Tb} {ES:St->XK} {x m:Str} {k j:Nat} {ps ks:List Str} {a b:Nat} {sl:List Sl} {dP:List PV} {D:List PV->Sto->Res PV} {p apos pos:Pos} {e:Expr} {es:List Expr} {kws:List Keyword} {da dk:DA}
end
def tabS (w:World):List DictEntry->List (Str × Int)->Prop
 | [],[]=>True
 | e :: es,p :: kvs=>Value.isStrOf p.1 e.key=true∧e.hash=hashStr w p.1∧Value.isInt p.2 e.val=true∧tabS w es kvs
 | _,_=>False
structure TabS (w:World) (K:PySem.W.Frag) (mg:Str->Option Value) (x:Str) (kvs:List (Str × Int)):Prop where
 ex:∃ a es ep,mg x=some (.ref a)∧K.lookup a=some ⟨.type "dict",none,.dict es ep,#[]⟩∧(a == sysModules)=false∧tabS w es.toList kvs
section
variable {X:Cx} {T:Tb} {ES:St->XK} {e:Expr} {x:Str} {p apos cpos:Pos} {d:DE} {kvs:List (Str × Int)} {te:TE}
end
end L3
namespace L3
open PySem L2
def putL (l:List (List Int × Int)) (k:List Int) (v:Int):List (List Int × Int) :=
 if (l.any fun p=>decide (p.1=k))=true then l.map (fun p=>if p.1=k then (p.1,v) else p) else l ++ [(k,v)]
theorem jgp {a b:List Int}:(a.map (Sum.inl:Int->Key)=b.map Sum.inl)↔a=b:=by
 constructor
 ·intro h
  induction a generalizing b with
  | nil=>cases b with
   | nil=>rfl
   | cons _ _=>cases h
  | cons x a ih=>cases b with
   | nil=>cases h
   | cons y b =>
    rw [List.map_cons,List.map_cons] at h
    injection h with h1 h2
    rw [Sum.inl.inj h1,ih h2]
 ·rintro rfl; rfl
theorem jgn (ns:List Int):(ns.map (Sum.inl:Int->Key)).map kV=ns.map V.int:=by
 rw [List.map_map];rfl
section
variable {X:Cx} {T:Tb} {ES:St->XK} {e o:Expr} {es:List Expr} {pos p2 kp:Pos} {x1:Nat} {d do_ dz:DE} {dk:DA}
theorem hu1 {A:Around} {k:Nat} (hr:Room k A):A.units + 1 < cLine:=by have:=jen hr; omega
end
end L3
namespace L2
open PySem PySem.Spec PyProof.Rows
section
variable {X:Cx} {tg:Expr} {pins:List (Addr × Obj)} {σ:St} {H:Hp} {s:Shared}
def iSeq (K:PySem.W.Frag) (tl:TE):TI:=fun σ H R=>tl σ H fun x H1=>∃ a,x = .ref a∧(((∃ xs,SqL K H1 a xs)∧R (Itl K a) H1)∨((∃ xs,SqT K H1 a xs)∧R (Itt K a) H1))
theorem pi_seq {l:Expr} {tl:TE} (hl:PE X l tl):PI X tg l (iSeq X.K tl):=by
 intro pins s σ H R I h;refine thn (hl pins s σ H _ I h) fun v s1 hS=>?_;obtain ⟨x,H1,I1,r1,a,e,q1⟩:=hS;subst e;cases r1
 have fp:∀ b ∈ [s1.heap.objs.size],yA X pins H1 b:=fun b hb=>by
  cases (List.mem_singleton.mp hb);exact I1.fpOk (Nat.le_refl _) (I1.hok.fresh (Nat.le_refl _))
 rcases q1 with ⟨⟨xs,hq⟩,q⟩ | ⟨⟨xs,hq⟩,q⟩
 ·obtain ⟨its,_,p,_⟩:=I1.list hq;exact wpAny_pyIter_list p.isList ⟨_,_,_,_,H1,rfl,I1.kept (t':=s1.toks) fun b o e=>Heap.get?_push_of_some _ e,Yv a _,⟨_,Heap.get?_push_size _ rfl,rfl,rfl⟩,fp,q⟩
 ·obtain ⟨its,_,p,_⟩:=I1.tuple hq;exact wpAny_pyIter_tuple (show s1.heap.IsTuple a its.toArray from p) ⟨_,_,_,_,H1,rfl,I1.kept (t':=s1.toks) fun b o e=>Heap.get?_push_of_some _ e,Je a _,⟨_,Heap.get?_push_size _ rfl,rfl,rfl⟩,fp,q⟩
end
end L2
namespace L3
open PySem L2
section
variable {X:Cx} {T:Tb} {ES:St->XK} {a b e tg iter:Expr} {es:List Expr} {p pos:Pos} {d:DE} {ds:DA}
def dItS (d:DE):En->Sto->Res ItP:=fun ρ M=>(d ρ M).bind fun x M1=>match x with
 | .tup xs=>.ok (.fix xs) M1
 | x=>ofO (itOf M1 x) M1
theorem qi_seq (hT:T.K=X.K) (h:QE X T ES e d):QI X T ES tg e (dItS d):=⟨vo (pi_seq h.h) fun σ H R hS=>jC hS fun W ρ M k hh hs q=>⟨W,ρ,M,k,hh,hs,jz.bind q fun W1 M1 x v H1 l1 h1 r1 p1=>by
 cases x with
 | tup xs =>
  obtain ⟨a,vs,rfl,ha,rr⟩:=r1
  have kk:W1.T.K=X.K:=by rw [l1.k,k]; exact hT
  have ha1:SqT X.K H1 a vs:=kk ▸ vi h1.f ha;refine ⟨a,rfl,.inr ⟨⟨vs,ha1⟩,p1 W1 H1 _ (.refl W1) h1 fun W' M' H' le hh' i=>?_⟩⟩;have hq:SqT X.K H' a vs:=kk ▸ vi (fun b o q=>hh'.f b o (le.f b o q)) ha;refine ⟨fun z e=>?_,fun e=>?_⟩
  ·obtain ⟨u,e2,r2⟩:=rr.get (show xs[i]? = some z from Option.some.inj e);refine ⟨⟨vs,u,hq,e2⟩,fun w H'' hS=>?_⟩;obtain ⟨eH,q⟩:=hS;subst eH
   have:=q vs hq
   rw [e2] at this;cases this;exact ⟨W',.refl W',hh',r2.up0 le⟩
  ·exact ⟨vs,hq,by rw [rr.length]; exact List.getElem?_eq_none_iff.mp (show xs[i]? = none from Option.some.inj e)⟩
 | lst xs =>
  obtain ⟨a,vs,rfl,ha,rr⟩:=r1;refine ⟨a,rfl,.inl ⟨⟨vs,SqL.of (h1.f _ _ ha)⟩,p1 W1 H1 _ (.refl W1) h1 (uV rfl (fun W' M' H' le hh' ys hy=>?_) fun M=>.inl ⟨xs,fun i=>rfl⟩)⟩⟩
  have:ys=xs:=List.ext_getElem? (fun i=>(Option.some.inj (hy i)).symm)
  subst this;exact ⟨vs,hh'.f _ _ (le.f _ _ ha),rr.up0 le⟩
 | ref j =>
  have p1:jz W1 RI (ofO (match M1.g j with
   | some (.lst _)=>some (ItP.live j)
   | _=>none) M1) R (ES σ):=p1
  split at p1
  ·rename_i xs e1;obtain ⟨a,rfl,ea⟩:=r1;obtain ⟨b,o,h2,h3,h4,vs,rfl,rr⟩:=h1.m j _ e1;rw [ea] at h2;cases h2;refine ⟨a,rfl,.inl ⟨⟨vs,SqL.of h4⟩,p1 W1 H1 _ (.refl W1) h1 (uV rfl (fun W' M' H' le hh' ys hy=>?_) fun M=>?_)⟩⟩
   ·cases e2:yE M' (.ref j) with
    | none =>
     have:=hy 0
     rw [yK e2] at this;cases this
    | some zs =>
     have:ys=zs:=List.ext_getElem? (fun i=>by
      have:=hy i
      rw [vN e2] at this
      exact (Option.some.inj this).symm)
     subst this;obtain ⟨a',vs',e3,h5,r5⟩:=yD (v:=.ref a) hh' (show Rep W' (.ref j) (.ref a) from ⟨a,rfl,le.a _ _ ea⟩) e2;cases e3;exact ⟨vs',h5,r5⟩
   ·cases e2:yE M (.ref j) with
    | none=>exact .inr fun i=>yK e2
    | some zs=>exact .inl ⟨zs,fun i=>vN e2⟩
  ·exact p1.elim
 | _=>exact p1.elim⟩⟩
end
end L3
namespace L3
open PySem L2
theorem Held.release {W:Wd} {M:Sto} {H G0:Hp} {l:Addr} {ys:List PV} {vs:List V} (h:Held W M H) (e:W.G l=some (.lst vs)) (hg:∀ b u,G0 b=some u->W.G b=some u∧b≠l) (r:jl W ys vs):W.le0 (W.outN G0 M.n l)∧Held (W.outN G0 M.n l) (M.new (.lst ys)) H∧(W.outN G0 M.n l).α M.n=some l:=by
 obtain ⟨g1,g2,g3⟩:=h.gd l _ e;have at_:∀ i,i≠M.n->(W.outN G0 M.n l).α i=W.α i:=fun i z=>if_neg z;have here:(W.outN G0 M.n l).α M.n=some l:=if_pos rfl
 have le:W.le0 (W.outN G0 M.n l):=⟨rfl,fun _ _ e=>e,fun i a q=>by
  have z:i≠M.n:=fun z=>by
   have:=h.top i (by omega)
   rw [this] at q;cases q
  rw [at_ i z]
  exact q⟩
 refine ⟨le,⟨h.f,fun i c q=>?_,fun i j a c c' q1 q2 e1 e2=>?_,fun i hi=>?_,fun b u q=>?_,fun b u q=>h.gl b u (hg b u q).1⟩,here⟩
 ·by_cases z:i=M.n
  ·subst z;rw [Sto.new_same] at q;cases q;exact ⟨l,.lst vs,here,g2,g1,vs,rfl,r.up0 le⟩
  ·rw [Sto.new_ne z] at q;obtain ⟨a,o,h1,h2,h3,h4⟩:=h.m i c q;exact ⟨a,o,by rw [at_ i z]; exact h1,h2,h3,h4.up0 le⟩
 ·by_cases z:i=M.n
  ·by_cases y:j=M.n
   ·rw [z,y]
   ·subst z;rw [here] at e1;cases e1;rw [Sto.new_ne y] at q2;rw [at_ j y] at e2;exact absurd e2 (g3 j c' q2)
  ·by_cases y:j=M.n
   ·subst y;rw [here] at e2;cases e2;rw [Sto.new_ne z] at q1;rw [at_ i z] at e1;exact absurd e1 (g3 i c q1)
   ·rw [Sto.new_ne z] at q1;rw [Sto.new_ne y] at q2;rw [at_ i z] at e1;rw [at_ j y] at e2;exact h.inj i j a c c' q1 q2 e1 e2
 ·have hi:M.n + 1<=i:=hi;rw [at_ i (by omega)];exact h.top i (by omega)
 ·obtain ⟨q1,z⟩:=hg b u q;obtain ⟨h1,h2,h3⟩:=h.gd b u q1;refine ⟨h1,h2,fun i c qc w=>?_⟩
  by_cases y:i=M.n
  ·subst y;rw [here] at w;cases w;exact z rfl
  ·rw [Sto.new_ne y] at qc;rw [at_ i y] at w;exact h3 i c qc w
section
variable {X:Cx} {T:Tb} {ES:St->XK} {osc sc:Scope} {own fr:List Str} {js:List Nat} {elt target iter a b:Expr} {ifs:List Expr} {pos:Pos} {di:En->Sto->Res ItP} {g:TG} {bnd:PV->En->Option En} {dt:DT} {de da db:DE}
end
end L3
namespace L2
open PySem PySem.Spec PyProof.Rows
section
variable {prog:Program} {w:World} {A:Around} {E:Value->Shared->Prop} {s:Shared} {xs:List (List Key × Addr × Value)}
end
section
variable {X:Cx}
end
end L2
namespace L3
open PySem L2
section
variable {X:Cx} {T:Tb}
end
end L3
namespace L2
open PySem PySem.Spec PyProof.Rows
section
variable {prog:Program} {w:World} {A:Around} {R:Result->Shared->Prop} {s:Shared}
theorem jcS {elt:Expr} {gens:List Comprehension} {scope:Scope} {pos:Pos} {d:Nat} {it acc:Value} {env:Env} {target iter:Expr} (h0:gens[d]? = some ⟨target,iter,[],0⟩)
  (h:codeAny (model prog w) A (.compLoop (.ListComp elt gens scope pos) d it acc env) R s)
  (hi:∀ E,wpAny (model prog w) A (pyIter it) (fun it' s'=>codeAny (model prog w) A (.compLoop (.ListComp elt gens scope pos) d it' acc env) R s') E s) :
  codeAny (model prog w) A (.compStart (.ListComp elt gens scope pos) d it acc env) R s:=by
 refine codeAny_of_tree ?_;show wpAny _ A ((compStart (.ListComp elt gens scope pos) d it acc env).onRaise (fun x=>do noteFrame x env; standAt theWindowsPlace)) _ _ s;refine wpAny_onRaise ?_;unfold compStart;have hc:(clausesOf (.ListComp elt gens scope pos))[d]? = some ⟨target,iter,[],0⟩:=h0;rw [hc];rw [if_neg (by simp)];refine wpAny_bind (wpAny_askSetting ?_);split
 ·exact wpAny_pure ⟨rfl,h⟩
 ·refine wpAny_bind (wpAny_rule ?_);refine wpAny_bind (wpAny_standAt ?_);exact wpAny_bind (wpAny_mono (hi _) (fun it' s' h'=>wpAny_pure ⟨rfl,h'⟩) fun _ _ z=>z)
theorem jec {elt:Expr} {gens:List Comprehension} {scope:Scope} {pos:Pos} {d:Nat} {it acc:Value} {env:Env} {target iter target' iter':Expr} (h0:gens[d]? = some ⟨target,iter,[],0⟩) (h1:gens[d + 1]? = some ⟨target',iter',[],0⟩)
  (hs:∀ x,foldedSetIterable iter' env x=pure x) (I:Nat->Shared->Prop)
  (turn:∀ n s,I n s->wpAny (model prog w) A (pyNext it) (fun r s₁=>match r with
   | none=>R (.ok .next) s₁
   | some v=>wpAny (model prog w) A (letOwnedTupleGo target it v) (fun _ s₁'=>wpAny (model prog w) A (assign target env v) (fun _ s₂ =>
     wpAny (model prog w) A (eval iter' env) (fun x s₃=>wpAny (model prog w) A (pyIter x) (fun it' s₄ =>
      codeAny (model prog w) A (.compStart (.ListComp elt gens scope pos) (d + 1) it' acc env) (fun r s₅=>match r with
       | .ok _=>∃ m,m < n∧I m s₅
       | .error _=>False) s₄) (fun _ _=>False) s₃) (fun _ _=>False) s₂) (fun _ _=>False) s₁') (fun _ _=>False) s₁) (fun _ _=>False) s)
  (n:Nat) (h:I n s):codeAny (model prog w) A (.compLoop (.ListComp elt gens scope pos) d it acc env) R s:=by
 refine codeAny_loop rfl I (fun n s hI=>?_) n h;show wpAny _ A ((compTurn (.ListComp elt gens scope pos) d it acc env).onRaise (fun x=>do noteFrame x env; theTreesLotGoes x)) _ _ s;refine wpAny_noted ?_;unfold compTurn;simp only [h0,h1,hs];refine wpAny_bind (wpAny_standAt ?_);rw [if_neg (by simp)];refine wpAny_bind (wpAny_mono (turn n s hI) (fun r s₁ h₁=>?_) fun _ _ h'=>h'.elim)
 cases r with
 | none=>exact wpAny_pure h₁
 | some v =>
  refine wpAny_bind (wpAny_mono h₁ (fun _ s₁' h₁'=>?_) fun _ _ h'=>h'.elim);refine wpAny_bind (wpAny_mono h₁' (fun _ s₂ h₂=>?_) fun _ _ h'=>h'.elim);refine wpAny_bind (wpAny_tests_nil ?_);rw [if_pos rfl];refine wpAny_bind (wpAny_mono h₂ (fun x s₃ h₃=>?_) fun _ _ h'=>h'.elim);refine wpAny_bind (wpAny_standAt ?_);rw [if_neg (by simp)];refine wpAny_bind (wpAny_pure ?_);rw [if_neg (by simp)];refine wpAny_bind (wpAny_holding (wpAny_mono h₃ (fun it' s₄ h₄=>?_) fun _ _ h'=>h'.elim));refine wpAny_bind (wpAny_runOwn (codeAny_mono h₄ fun r s₅ h₅=>?_))
  cases r with
  | ok f=>exact wpAny_pure ⟨rfl,h₅⟩
  | error e=>exact h₅.elim
theorem jcc {elt:Expr} {gens:List Comprehension} {scope:Scope} {pos:Pos} {d:Nat} {it acc:Value} {env:Env} {target iter:Expr} (h0:gens[d]? = some ⟨target,iter,[],0⟩) (h1:gens[d + 1]? = none) (I:Nat->Shared->Prop)
  (turn:∀ n s,I n s->wpAny (model prog w) A (pyNext it) (fun r s₁=>match r with
   | none=>R (.ok .next) s₁
   | some v=>wpAny (model prog w) A (letOwnedTupleGo target it v) (fun _ s₁'=>wpAny (model prog w) A (assign target env v) (fun _ s₂ =>
     wpAny (model prog w) A (eval elt env) (fun x s₄ =>
       wpAny (model prog w) A (call (.builtin "list.append") [acc,x]) (fun _ s₅=>∃ m,m < n∧I m s₅) (fun _ _=>False) s₄) (fun _ _=>False) s₂) (fun _ _=>False) s₁') (fun _ _=>False) s₁) (fun _ _=>False) s)
  (n:Nat) (h:I n s):codeAny (model prog w) A (.compLoop (.ListComp elt gens scope pos) d it acc env) R s:=by
 refine codeAny_loop rfl I (fun n s hI=>?_) n h;show wpAny _ A ((compTurn (.ListComp elt gens scope pos) d it acc env).onRaise (fun x=>do noteFrame x env; theTreesLotGoes x)) _ _ s;refine wpAny_noted ?_;unfold compTurn;simp only [h0,h1];refine wpAny_bind (wpAny_standAt ?_);rw [if_neg (by simp)];refine wpAny_bind (wpAny_mono (turn n s hI) (fun r s₁ h₁=>?_) fun _ _ h'=>h'.elim)
 cases r with
 | none=>exact wpAny_pure h₁
 | some v =>
  refine wpAny_bind (wpAny_mono h₁ (fun _ s₁' h₁'=>?_) fun _ _ h'=>h'.elim);refine wpAny_bind (wpAny_mono h₁' (fun _ s₂ h₂=>?_) fun _ _ h'=>h'.elim);refine wpAny_bind (wpAny_tests_nil ?_);rw [if_pos rfl];exact wpAny_bind (wpAny_bind (wpAny_mono h₂ (fun x s₄ h₄=>wpAny_bind (wpAny_mono h₄ (fun _ s₅ h₅=>wpAny_pure (wpAny_pure ⟨rfl,h₅⟩)) fun _ _ h'=>h'.elim)) fun _ _ h'=>h'.elim))
end
def xi (X:Cx) (elt:Expr) (gens:List Comprehension) (scope:Scope) (pos:Pos) (d:Nat) (acc:Addr) (s:Shared) (Po:Shared->Prop):Prop:=match gens[d + 1]? with
 | none=>wpAny (model X.prog X.w) X.A (eval elt X.env) (fun x s₄=>wpAny (model X.prog X.w) X.A (call (.builtin "list.append") [.ref acc,x]) (fun _ s₅=>Po s₅) (fun _ _=>False) s₄) (fun _ _=>False) s
 | some g=>wpAny (model X.prog X.w) X.A (eval g.iter X.env) (fun x s₃=>wpAny (model X.prog X.w) X.A (pyIter x) (fun it' s₄ =>
   codeAny (model X.prog X.w) X.A (.compStart (.ListComp elt gens scope pos) (d + 1) it' (.ref acc) X.env) (fun r s₅=>match r with
    | .ok _=>Po s₅
    | .error _=>False) s₄) (fun _ _=>False) s₃) (fun _ _=>False) s
theorem xi.mono {X:Cx} {elt:Expr} {gens:List Comprehension} {scope:Scope} {pos:Pos} {d:Nat} {acc:Addr} {s:Shared} {Po Po':Shared->Prop} (h:xi X elt gens scope pos d acc s Po) (k:∀ s,Po s->Po' s):xi X elt gens scope pos d acc s Po':=by
 unfold xi at h ⊢;split
 ·rename_i e;rw [e] at h;exact wpAny_mono h (fun x s₄ h₄=>wpAny_mono h₄ (fun _ s₅ h₅=>k s₅ h₅) fun _ _ z=>z) fun _ _ z=>z
 ·rename_i g e;rw [e] at h;refine wpAny_mono h (fun x s₄ h₄=>wpAny_mono h₄ (fun _ s₅ h₅=>codeAny_mono h₅ fun r s h=>?_) fun _ _ z=>z) fun _ _ z=>z
  cases r with
  | ok f=>exact k s h
  | error e=>exact h
structure Plainly (env:Env) (gens:List Comprehension) (d:Nat):Prop where
 h:∀ g,gens[d + 1]? = some g->g.ifs=[]∧g.is_async=0∧∀ x,foldedSetIterable g.iter env x=pure x
theorem VM {X:Cx} {R:Result->Shared->Prop} {s:Shared} {elt:Expr} {gens:List Comprehension} {scope:Scope} {pos:Pos} {d:Nat} {it:Value} {acc:Addr} {target iter:Expr} (h0:gens[d]? = some ⟨target,iter,[],0⟩) (h1:Plainly X.env gens d) (I:Nat->Shared->Prop)
  (turn:∀ n s,I n s->wpAny (model X.prog X.w) X.A (pyNext it) (fun r s₁=>match r with
   | none=>R (.ok .next) s₁
   | some v=>wpAny (model X.prog X.w) X.A (letOwnedTupleGo target it v) (fun _ s₁'=>wpAny (model X.prog X.w) X.A (assign target X.env v) (fun _ s₂ =>
     xi X elt gens scope pos d acc s₂ fun s₅=>∃ m,m < n∧I m s₅) (fun _ _=>False) s₁') (fun _ _=>False) s₁) (fun _ _=>False) s)
  (n:Nat) (h:I n s):codeAny (model X.prog X.w) X.A (.compLoop (.ListComp elt gens scope pos) d it (.ref acc) X.env) R s:=by
 cases e:gens[d + 1]? with
 | none =>
  refine jcc h0 e I (fun n s hI=>wpAny_mono (turn n s hI) (fun r s₁ h₁=>?_) fun _ _ z=>z) n h
  cases r with
  | none=>exact h₁
  | some v =>
   refine wpAny_mono h₁ (fun _ s₁' h₁'=>wpAny_mono h₁' (fun _ s₂ h₂=>?_) fun _ _ z=>z) fun _ _ z=>z;unfold xi at h₂;rw [e] at h₂;exact h₂
 | some g =>
  obtain ⟨target',iter',ifs',as'⟩:=g;obtain ⟨a,b,c⟩:=h1.h _ e;dsimp only at a b c;subst a;subst b;refine jec h0 e c I (fun n s hI=>wpAny_mono (turn n s hI) (fun r s₁ h₁=>?_) fun _ _ z=>z) n h
  cases r with
  | none=>exact h₁
  | some v =>
   refine wpAny_mono h₁ (fun _ s₁' h₁'=>wpAny_mono h₁' (fun _ s₂ h₂=>?_) fun _ _ z=>z) fun _ _ z=>z;unfold xi at h₂;rw [e] at h₂;exact h₂
abbrev TB:=Addr->St->Hp->(St->Hp->Prop)->Prop
def PMb (X:Cx) (elt:Expr) (gens:List Comprehension) (scope:Scope) (pos:Pos) (d:Nat) (tb:TB):Prop :=
 ∀ (acc:Addr) (pins:List (Addr × Obj)) (s:Shared) (σ:St) (H:Hp) (N:St->Hp->Prop),Inv X pins σ H s->tb acc σ H N->xi X elt gens scope pos d acc s fun s'=>∃ σ' H',Inv X pins σ' H' s'∧N σ' H'
def jfd (J:It) (acc:Addr) (own:Nat) (js:List Nat) (g:TG) (tb:TB) (σ:St) (Q:VK) (H1:Hp):Prop :=
 ∃ W:Nat->Nat->St->Hp->Prop,(∃ m,W 0 m (yB own js σ) (upd H1 acc (.lst [])))∧∀ i m σ2 H2,W i m σ2 H2->(J.stop i H2∧Q (.ref acc) H2) ∨
  (J.go i H2∧∃ N:St->Hp->Prop,(∀ σ' H',N σ' H'->∃ m',m' < m∧W (i + 1) m' σ' H')∧∀ x H3,J.yld i H2 x H3->g x σ2 H3 fun σ4 H4=>tb acc σ4 H4 N)
def jcO (wi:TI) (own:Nat) (js:List Nat) (g:TG) (tb:TB):TE:=fun σ H Q=>wi σ H fun J H1=>∀ acc,H1 acc=none->jfd J acc own js g tb σ Q H1
def jau (wi:TI) (g:TG) (tb:TB):TB:=fun acc σ H N=>wi σ H fun J H1=>∃ W:Nat->Nat->St->Hp->Prop,(∃ m,W 0 m σ H1)∧∀ i m σ2 H2,W i m σ2 H2->(J.stop i H2∧N σ2 H2) ∨
  (J.go i H2∧∃ N':St->Hp->Prop,(∀ σ' H',N' σ' H'->∃ m',m' < m∧W (i + 1) m' σ' H')∧∀ x H3,J.yld i H2 x H3->g x σ2 H3 fun σ4 H4=>tb acc σ4 H4 N')
theorem jbV {X:Cx} {elt:Expr} {gens:List Comprehension} {scope:Scope} {pos:Pos} {d:Nat} {target iter:Expr} {wi:TI} {g:TG} {tb:TB} (hxe:X.xe=fun _ _=>False) (hc:X.calm=true) (h1:gens[d + 1]? = some ⟨target,iter,[],0⟩) (h2:Plainly X.env gens (d + 1)) (hi:PI X target iter wi) (hg:PG X target g) (hb:PMb X elt gens scope pos (d + 1) tb):PMb X elt gens scope pos d (jau wi g tb):=by
 intro acc pins s σ H N I h;unfold xi;rw [h1];have hi':=hi pins s σ H _ I h;rw [hxe] at hi';refine thn hi' fun v s1 h1'=>thn h1' fun itv s2 h2'=>?_;obtain ⟨it,fp,tn,J,H2,e,I2,T,st2,f2,W,⟨m0,w0⟩,turn⟩:=h2';subst e
 have stat:∀ {H':Hp},(∀ b ∈ fp,H' b=none)->∀ b ∈ fp,yA X pins H' b:=fun hn b hb=>⟨hn b hb,(f2 b hb).2⟩
 have loop:codeAny (model X.prog X.w) X.A (.compLoop (.ListComp elt gens scope pos) (d + 1) (.ref it) (.ref acc) X.env) (fun r s₅=>match r with
    | .ok _=>∃ σ' H',Inv X pins σ' H' s₅∧N σ' H'
    | .error _=>False) s2:=by
  refine VM h1 h2 (fun n s'=>∃ i σ' H',Inv X pins σ' H' s'∧tn i s'.heap∧(∀ b ∈ fp,H' b=none)∧W i n σ' H') ?_ m0 ⟨0,σ,H2,I2,st2,fun b hb=>(f2 b hb).1,w0⟩;rintro n s3 ⟨i,σ3,H3,I3,st3,fr3,w3⟩
  rcases turn i n σ3 H3 w3 with ⟨stop,qn⟩ | ⟨go,N',hN,step⟩
  ·refine thn (T.done X rfl rfl rfl hc i pins s3 σ3 H3 _ I3 (stat fr3) st3 stop) fun r s4 hQQ=>?_;obtain ⟨hr,I4⟩:=hQQ;subst hr;exact ⟨σ3,H3,I4,qn⟩
  ·refine thn (T.item X rfl rfl rfl hc i pins s3 σ3 H3 _ I3 (stat fr3) st3 go) fun r s4 hQQ=>?_;obtain ⟨u,hr,h4⟩:=hQQ;subst hr;refine thn h4 fun _ s5 hQQ=>?_;obtain ⟨x,H5,I5,r5,y5,st5,fr5⟩:=hQQ;have I5':=I5.pinned (stat fr5) (T.obj _ _ st5);have hg':=hg _ s5 σ3 H5 x u _ I5' r5 (step x H5 y5);rw [hxe] at hg';refine thn hg' fun _ s6 hQQ=>?_;obtain ⟨σ6,H6,I6,q6⟩:=hQQ;refine (hb acc _ s6 σ6 H6 N' I6 q6).mono fun s7 hQQ=>?_;obtain ⟨σ7,H7,I7,n7⟩:=hQQ;obtain ⟨m',hm,w7⟩:=hN σ7 H7 n7;refine ⟨m',hm,i + 1,σ7,H7,I7.unpinned,T.keep _ _ _ st5 fun b hb o e=>(I7.pin (b,o) (List.mem_append_right _ (List.mem_append_right _ (jR hb e)))).1,fun b hb=>?_,w7⟩;obtain ⟨o,e,d⟩:=T.obj _ _ st5 b hb;exact (I7.pin (b,o) (List.mem_append_right _ (List.mem_append_right _ (jR hb e)))).2.1
 exact jcS h1 loop fun E=>T.self _ 0 _ _ _ st2 loop
def tLast (te:TE):TB:=fun acc σ H N=>te σ H fun y H6=>∃ xs,H6 acc=some (.lst xs)∧xs.length < sizeLine∧N σ (upd H6 acc (.lst (xs ++ [y])))
theorem jfP {X:Cx} {elt:Expr} {gens:List Comprehension} {scope:Scope} {pos:Pos} {d:Nat} {te:TE} (hxe:X.xe=fun _ _=>False) (h1:gens[d + 1]? = none) (he:PE X elt te):PMb X elt gens scope pos d (tLast te):=by
 intro acc pins s σ H N I h;unfold xi;rw [h1];have he':=he pins s σ H _ I h;rw [hxe] at he';refine thn he' fun y s10 hQQ=>?_;obtain ⟨v,H10,I10,r10,xs,a10,hz,n10⟩:=hQQ;have ap:=Xc _ s10 σ H10 (.ref acc) [v] (.ref acc) [y] (fun z H11=>z = .non∧H11=upd H10 acc (.lst (xs ++ [v]))) I10 rfl (.cons r10 .nil) ⟨_,xs,v,rfl,rfl,a10,hz,rfl,rfl⟩;rw [hxe] at ap;refine thn ap fun z s11 hQQ=>?_;obtain ⟨z',H11,I11,_,_,e11⟩:=hQQ;subst e11;exact ⟨σ,_,I11,n10⟩
section
variable {X:Cx} {pins:List (Addr × Obj)} {σ:St} {H:Hp} {s:Shared} {osc sc:Scope} {own fr:List Str} {js:List Nat} {fp:List Addr}
theorem jae {elt target iter:Expr} {ju:List Comprehension} {pos:Pos} {it:Addr} {tn:Nat->Heap->Prop} {J:It} {g:TG} {tb:TB} {Q:VK} {RR:Value->Addr->Result->Shared->Prop} {E:Value->Shared->Prop}
  (hc:X.calm=true) (ho:X.env.scope=osc) (S:CompScope osc sc own fr) (hj:js.map (fun j=>X.N[j]?)=fr.map some)
  (hg:∀ s₃ H₃ fp,PG (jp X (own ++ fr) sc s₃ H₃ fp) target g) (hpl:∀ s₃ H₃ fp,Plainly (jp X (own ++ fr) sc s₃ H₃ fp).env (⟨target,iter,[],0⟩ :: ju) 0) (hb:∀ s₃ H₃ fp,PMb (jp X (own ++ fr) sc s₃ H₃ fp) elt (⟨target,iter,[],0⟩ :: ju) sc pos 0 tb)
  (I:Inv X pins σ H s) (T:Turn X.prog X.w X.K target J fp it tn) (st:tn 0 s.heap) (hf:∀ b ∈ fp,yA X pins H b)
  (h:∀ acc,H acc=none->jfd J acc own.length js g tb σ Q H)
  (fin:∀ acc C H' s',Inv X pins σ H' s'->yA X pins H' C->(∃ m,s'.heap.Ns C m)->Q (.ref acc) H'->RR (.ref acc) C (.ok .next) s') :
  wpAny (model X.prog X.w) X.A (newList []) (fun acc s₃=>wpAny (model X.prog X.w) X.A (newFunctionEnv sc X.env.globals (yS sc X.env) [] X.env.qual none .none (some X.env)) (fun cenv s₄ =>
   codeAny (model X.prog X.w) X.A (.compStart (.ListComp elt (⟨target,iter,[],0⟩ :: ju) sc pos) 0 (.ref it) acc { cenv with scope:=relabel sc X.env }) (RR acc cenv.locals) s₄) E s₃) E s:=by
 obtain ⟨W,⟨m0,w0⟩,turn⟩:=h s.heap.objs.size (I.hok.fresh (Nat.le_refl _))
 have hlt:∀ b ∈ fp,b < s.heap.objs.size:=fun b hb=>by
  obtain ⟨o,e,_⟩:=T.obj _ _ st b hb;exact Heap.lt_size e
 refine wpAny_newList ?_;have I3:Inv X pins σ (upd H s.heap.objs.size (.lst [])) { s with heap:=s.heap.push { cls:=.type "list",data:=.seq ([]:List Value).toArray } }:=I.lnew (its:=[]) (ys:=[]) (t':=s.toks) .nil (Nat.zero_le _)
 have f3:∀ b ∈ fp,yA X pins (upd H s.heap.objs.size (.lst [])) b:=fun b hb=>⟨by rw [ji (Nat.ne_of_lt (hlt b hb))]; exact (hf b hb).1,(hf b hb).2⟩
 have hsz3:(s.heap.push { cls:=.type "list",data:=.seq ([]:List Value).toArray }).objs.size=s.heap.objs.size + 1:=Heap.size_push ..;refine yU ?_;dsimp only
 obtain ⟨h₁,e₁⟩:∃ h₁,h₁=pushCells ((s.heap.push { cls:=.type "list",data:=.seq ([]:List Value).toArray }).push { cls:=.type "dict",data:=.dict #[] }) sc.names:=⟨_,rfl⟩
 rw [<- e₁]
 have hns₁:h₁.Ns (s.heap.push { cls:=.type "list",data:=.seq ([]:List Value).toArray }).objs.size fun _=>none:=by
  rw [e₁];exact XU _ (Heap.Ns.new ..)
 have old:∀ b o,(s.heap.push { cls:=.type "list",data:=.seq ([]:List Value).toArray }).get? b=some o->h₁.get? b=some o:=fun b o e=>by
  rw [e₁];exact pushCells_keeps _ _ _ _ (Heap.get?_push_of_some _ e)
 have cel₁:∀ x c,(cellsFrom ((s.heap.push { cls:=.type "list",data:=.seq ([]:List Value).toArray }).objs.size + 1) sc.names (yS sc X.env)).lookup x=some c->∃ v,h₁.IsCell c v:=fun x c e=>by
  rw [e₁];refine vX sc.names _ (yS sc X.env) (fun y d q=>?_) (by rw [Heap.size_push]; exact e);obtain ⟨v,hv⟩:=I3.cell y d (xU I3 ho S q);exact ⟨v,hv.keeps fun b o e=>Heap.get?_push_of_some _ e⟩
 have lt3:∀ b ∈ fp,b < (s.heap.push { cls:=.type "list",data:=.seq ([]:List Value).toArray }).objs.size:=fun b hb=>by rw [hsz3]; exact Nat.lt_succ_of_lt (hlt b hb)
 have I4:=JI (own:=own) (fr:=fr) (js:=js) (tk:=s.toks) I3 ho S hj f3 lt3 hns₁ old cel₁;have st4:tn 0 h₁:=T.keep _ _ _ st fun b _ o e=>old b o (Heap.get?_push_of_some _ e)
 have fpX:∀ {H':Hp},(∀ b ∈ fp,H' b=none)->∀ b ∈ fp,yA (jp X (own ++ fr) sc { s with heap:=s.heap.push { cls:=.type "list",data:=.seq ([]:List Value).toArray } } (upd H s.heap.objs.size (.lst [])) fp) [] H' b:=fun hn b hb =>
  ⟨hn b hb,Nat.ne_of_lt (lt3 b hb),fun hm=>by
   rcases List.mem_cons.mp (I.stkSub b hm) with z | z
   ·exact (hf b hb).2.1 z
   ·exact (hf b hb).2.2.1 z,.inl hb,fun x c e=>(Yd I3 ho S e).elim (fun z=>(hf b hb).2.2.2.2.1 x c z) (fun z=>Nat.ne_of_gt (Nat.lt_trans (lt3 b hb) z)),fun p hp=>absurd (show p ∈ ([]:List (Addr × Obj)) from hp) (by simp)⟩
 have loop:∀ s₃:Shared,s₃={ s with heap:=h₁ } ->
   codeAny (model X.prog X.w) X.A (.compLoop (.ListComp elt (⟨target,iter,[],0⟩ :: ju) sc pos) 0 (.ref it) (.ref s.heap.objs.size) (compEnvC sc (cellsFrom ((s.heap.push { cls:=.type "list",data:=.seq ([]:List Value).toArray }).objs.size + 1) sc.names (yS sc X.env)) (s.heap.push { cls:=.type "list",data:=.seq ([]:List Value).toArray }).objs.size X.env))
    (RR (.ref s.heap.objs.size) (s.heap.push { cls:=.type "list",data:=.seq ([]:List Value).toArray }).objs.size) s₃:=by
  rintro s₃ rfl
  refine VM (X:=jp X (own ++ fr) sc { s with heap:=s.heap.push { cls:=.type "list",data:=.seq ([]:List Value).toArray } } (upd H s.heap.objs.size (.lst [])) fp) rfl (hpl _ _ _) (fun n s'=>∃ i σ' H',Inv (jp X (own ++ fr) sc { s with heap:=s.heap.push { cls:=.type "list",data:=.seq ([]:List Value).toArray } } (upd H s.heap.objs.size (.lst [])) fp) [] σ' H' s'∧tn i s'.heap∧(∀ b ∈ fp,H' b=none)∧W i n σ' H')
   ?_ m0 ⟨0,_,_,I4,st4,fun b hb=>(f3 b hb).1,w0⟩
  rintro n s5 ⟨i,σ5,H5,I5,st5,fr5,w5⟩;have hc':(jp X (own ++ fr) sc { s with heap:=s.heap.push { cls:=.type "list",data:=.seq ([]:List Value).toArray } } (upd H s.heap.objs.size (.lst [])) fp).calm=true:=hc
  rcases turn i n σ5 H5 w5 with ⟨stop,qn⟩ | ⟨go,N,hN,step⟩
  ·refine thn (T.done (jp X (own ++ fr) sc { s with heap:=s.heap.push { cls:=.type "list",data:=.seq ([]:List Value).toArray } } (upd H s.heap.objs.size (.lst [])) fp) rfl rfl rfl hc' i [] s5 _ H5 _ I5 (fpX fr5) st5 stop) fun r s6 hQQ=>?_;obtain ⟨hr,I6⟩:=hQQ;subst hr;have B:=Xl I rfl (tk:=s.toks) hf I6;refine fin _ _ H5 s6 B ?_ ?_ qn
   ·refine I.fpOk ?_ I6.free;show s.heap.objs.size<=(s.heap.push { cls:=.type "list",data:=.seq ([]:List Value).toArray }).objs.size;rw [hsz3];exact Nat.le_succ _
   ·obtain ⟨m,hm,_⟩:=I6.loc;exact ⟨m,hm⟩
  ·refine thn (T.item (jp X (own ++ fr) sc { s with heap:=s.heap.push { cls:=.type "list",data:=.seq ([]:List Value).toArray } } (upd H s.heap.objs.size (.lst [])) fp) rfl rfl rfl hc' i [] s5 _ H5 _ I5 (fpX fr5) st5 go) fun r s6 hQQ=>?_;obtain ⟨u,hr,h6⟩:=hQQ;subst hr;refine thn h6 fun _ s7 hQQ=>?_;obtain ⟨x,H7,I7,r7,y7,st7,fr7⟩:=hQQ;have I7':=I7.pinned (fpX fr7) (T.obj _ _ st7);refine thn (hg _ _ _ _ s7 _ H7 x u _ I7' r7 (step x H7 y7)) fun _ s8 hQQ=>?_;obtain ⟨σ8,H8,I8,q8⟩:=hQQ;refine (hb _ _ _ _ _ s8 σ8 H8 N I8 q8).mono fun s9 hQQ=>?_;obtain ⟨σ9,H9,I9,n9⟩:=hQQ;obtain ⟨m',hm,w9⟩:=hN σ9 H9 n9;refine ⟨m',hm,i + 1,σ9,H9,I9.unpinned,T.keep _ _ _ st7 fun b hb o e=>(I9.pin (b,o) (List.mem_append_right _ (List.mem_append_right _ (jR hb e)))).1,fun b hb=>?_,w9⟩;obtain ⟨o,e,d⟩:=T.obj _ _ st7 b hb;exact (I9.pin (b,o) (List.mem_append_right _ (List.mem_append_right _ (jR hb e)))).2.1
 exact codeAny_compStart_list (loop _ rfl) (T.self _ 0 _ _ _ st4 (loop _ rfl))
end
section
variable {X:Cx} {osc sc:Scope} {own fr:List Str} {js:List Nat} {elt target iter:Expr} {ju:List Comprehension} {pos:Pos} {wi:TI} {g:TG} {tb:TB}
theorem jdP (hc:X.calm=true) (ho:X.env.scope=osc) (S:CompScope osc sc own fr) (hj:js.map (fun j=>X.N[j]?)=fr.map some) (hi:PI X target iter wi)
  (hg:∀ s₃ H₃ fp,PG (jp X (own ++ fr) sc s₃ H₃ fp) target g) (hpl:∀ s₃ H₃ fp,Plainly (jp X (own ++ fr) sc s₃ H₃ fp).env (⟨target,iter,[],0⟩ :: ju) 0) (hb:∀ s₃ H₃ fp,PMb (jp X (own ++ fr) sc s₃ H₃ fp) elt (⟨target,iter,[],0⟩ :: ju) sc pos 0 tb)
  (hs:∀ x,foldedSetIterable iter X.env x=pure x:=by intro _; rfl):PE X (.ListComp elt (⟨target,iter,[],0⟩ :: ju) sc pos) (jcO wi own.length js g tb):=by
 intro pins s σ H Q I h;rw [eval_ListComp];refine wpAny_comprehension_free (use:=none) rfl hs (vy (jbh I ho S)) S.kind S.loc (thn (hi pins s σ H _ I h) fun v s1 h1=>thn h1 fun itv s2 h2=>?_);obtain ⟨it,fp,tn,J,H2,e,I2,T,st2,f2,q2⟩:=h2;subst e;refine jae (RR:=fun acc C=>compPost (model X.prog X.w) X.A X.xe none (EP X pins σ Q) acc C) hc ho S hj hg hpl hb I2 T st2 f2 q2 fun acc C H' s' J hC hn q=>?_;obtain ⟨m,hm⟩:=hn;refine ⟨m,hm,fun h' hs'=>⟨.ref acc,H',?_,rfl,q⟩⟩;obtain ⟨f0,f1,f2',f3,f4,f5⟩:=hC;exact J.turned (t':=s'.toks) (fun b o hb e=>hs'.extBut b o hb e) f0 f1 f3 f4 f5
end
end L2
namespace L3
open PySem L2
abbrev EM:=En->Sto->Res (List PV)
def emE (de:DE):EM:=fun ρ M=>(de ρ M).noX.bind fun y M1=>.ok [y] M1
def emN (p:ItP) (i:Nat) (em:EM) (ρ:En):Nat->Nat->Sto->Res (List PV)
 | 0,_,_=>.bad
 | n + 1,k,M=>match nxt p M k with
  | none=>.bad
  | some none=>.ok [] M
  | some (some x)=>(em (ρ.set i (some x)) M).noX.bind fun ys M2=>(emN p i em ρ n (k + 1) M2).noX.bind fun zs M3=>.ok (ys ++ zs) M3
def emC (i:Nat) (di:En->Sto->Res ItP) (em:EM):EM:=fun ρ M=>(di ρ M).noX.bind fun p M1=>emN p i em ρ (jX p M1) 0 M1
def UZ (di:En->Sto->Res ItP) (own:Nat) (js:List Nat) (em:EM):DE:=fun ρ M=>(di ρ M).bind fun p M1=>(emN p 0 em (List.replicate own none ++ ju js ρ) (jX p M1) 0 M1).noX.bind fun ys M2=>if ys.length<=sizeLine then .ok (.lst ys) M2 else .bad
def jfc (W:Wd) (acc:Addr) (ρ:En) (vs:List V) (N:St->Hp->Prop) (r:Res (List PV)):Prop:=match r with
 | .ok zs M'=>vs.length + zs.length<=sizeLine∧∀ W' σ' H' ws,W.le0 W'->W'.G=L2.upd W.G acc (.lst (vs ++ ws))->Held W' M' H'->jl W' zs ws->jJ W' ρ σ'->N σ' H'
 | _=>False
def lfM (T:Tb) (own d:Nat) (em:EM):TB:=fun acc σ H N=>∃ W ρ M vs,W.T=T∧Held W M H∧jJ W ρ σ∧W.G acc=some (.lst vs)∧(∀ j,d < j->j < own->ρ[j]? = some none)∧jfc W acc ρ vs N (em ρ M)
structure QM (X:Cx) (T:Tb) (own:Nat) (elt:Expr) (gens:List Comprehension) (sc:Scope) (pos:Pos) (d:Nat) (em:EM):Prop where
 h:PMb X elt gens sc pos d (lfM T own d em)
theorem jJ.up0 {W W':Wd} {ρ:En} {σ:St} (l:W.le0 W') (h:jJ W ρ σ):jJ W' ρ σ:=⟨h.1,fun i x e=>by
 obtain ⟨v,e1,r⟩:=h.2 i x e
 exact ⟨v,e1,r.up0 l⟩⟩
section
variable {X:Cx} {T:Tb} {ES:St->XK} {own d:Nat} {elt target iter:Expr} {gens:List Comprehension} {sc:Scope} {pos:Pos} {di:En->Sto->Res ItP} {em:EM} {de:DE}
theorem jfC (hxe:X.xe=fun _ _=>False) (h1:gens[d + 1]? = none) (he:QE X T ES0 elt de):QM X T own elt gens sc pos d (emE de):=by
 refine ⟨fun acc pins s σ H N I hQ=>jfP hxe h1 he.h acc pins s σ H N I ?_⟩;obtain ⟨W,ρ,M,vs,k,hh,hs,ga,hN,f⟩:=hQ;refine ⟨W,ρ,M,k,hh,hs,?_⟩;unfold emE at f
 cases e:de ρ M with
 | bad=>rw [e] at f; exact f.elim
 | exc _ _=>rw [e] at f; exact f.elim
 | ok y M1 =>
  rw [e] at f;have f:jfc W acc ρ vs N (.ok [y] M1):=f;obtain ⟨hz,f⟩:=f;intro W' H' v l h' r
  have ga':W'.G acc=some (.lst vs):=by rw [l.g]; exact ga
  refine ⟨vs,(h'.gd _ _ ga').1,hz,?_⟩;refine f (W'.gd acc (.lst (vs ++ [v]))) σ _ [v] (l.toLe0.trans Wd.le0_gd) ?_ (h'.reguard ga') ⟨v,[],rfl,r.up0 Wd.le0_gd,rfl⟩ ((hs.up l).up0 Wd.le0_gd);show L2.upd W'.G acc _=_;rw [l.g]
theorem xw {W:Wd} {ρ:En} {σ:St} {i:Nat} {x:PV} (hn:ρ[i]? = some none) (h:jJ W (ρ.set i (some x)) σ):jJ W ρ σ:=by
 refine ⟨by rw [h.1,List.length_set],fun j y e=>h.2 j y ?_⟩
 have hj:j≠i:=fun z=>by rw [z,hn] at e; cases e
 rw [List.getElem?_set_ne (fun z=>hj z.symm)];exact e
theorem jcF {G:Hp} {a:Addr} {o:HO} (h:G a=some o):L2.upd G a o=G:=by
 funext b
 by_cases e:b=a
 ·subst e; rw [jo,h]
 ·rw [ji e]
theorem turns {W0:Wd} {it:ItP} {J:It} {acc:Addr} {ρ:En} {vs:List V} {N:St->Hp->Prop} {i0:Nat} {M0:Sto} {σ:St} {H0:Hp} {tb:TB} (k0:W0.T=T) (ri:RI W0 it J) (g0:W0.G acc=some (.lst vs)) (hn:ρ[i0]? = some none) (h0:Held W0 M0 H0) (hs:jJ W0 ρ σ)
  (f:jfc W0 acc ρ vs N (emN it i0 em ρ (jX it M0) 0 M0))
  (body:∀ (W:Wd) (M:Sto) (x:PV) (us:List V) (N':St->Hp->Prop) (σ4:St) (H4:Hp),W.T=T->Held W M H4->jJ W (ρ.set i0 (some x)) σ4->W.G acc=some (.lst us)->jfc W acc (ρ.set i0 (some x)) us N' (em (ρ.set i0 (some x)) M)->tb acc σ4 H4 N') :
  ∃ Wk:Nat->Nat->St->Hp->Prop,(∃ m,Wk 0 m σ H0)∧∀ i m σ2 H2,Wk i m σ2 H2->(J.stop i H2∧N σ2 H2) ∨
   (J.go i H2∧∃ N':St->Hp->Prop,(∀ σ' H',N' σ' H'->∃ m',m' < m∧Wk (i + 1) m' σ' H')∧∀ v H3,J.yld i H2 v H3->xL i0 v σ2 H3 fun σ4 H4=>tb acc σ4 H4 N'):=by
 let Inn:Nat->Nat->St->Hp->Prop:=fun i m σ2 H2=>∃ W1 M1 us ys,W0.le0 W1∧W1.G=L2.upd W0.G acc (.lst (vs ++ us))∧Held W1 M1 H2∧jl W1 ys us∧jJ W1 ρ σ2∧(match emN it i0 em ρ m i M1 with
  | .ok zs M'=>vs.length + (ys.length + zs.length)<=sizeLine∧∀ W' σ' H' ws,W0.le0 W'->W'.G=L2.upd W0.G acc (.lst (vs ++ ws))->Held W' M' H'->jl W' (ys ++ zs) ws->jJ W' ρ σ'->N σ' H'
  | _=>False)
 refine ⟨Inn,⟨jX it M0,W0,M0,[],[],(Wd.le.refl W0).toLe0,by rw [List.append_nil,jcF g0],h0,rfl,hs,?_⟩,?_⟩
 ·cases e:emN it i0 em ρ (jX it M0) 0 M0 with
  | bad=>rw [e] at f; exact f.elim
  | exc _ _=>rw [e] at f; exact f.elim
  | ok zs M' =>
   rw [e] at f;refine ⟨by simpa using f.1,fun W' σ' H' ws le g h r s=>f.2 W' σ' H' ws le g h (by simpa using r) s⟩
 rintro i m σ2 H2 ⟨W1,M1,us,ys,le1,g1,h1,r1,s1,f1⟩;have k1:W1.T=T:=le1.k.trans k0;have rl:=r1.length
 cases m with
 | zero=>exact f1.elim
 | succ m =>
  unfold emN at f1;obtain ⟨goes,stops⟩:=ri W1 M1 H2 le1 h1 i;split at f1
  rotate_left
  ·exact f1.elim
  rename_i zs M' ef;split at ef
  ·cases ef
  ·rename_i en;cases ef;exact .inl ⟨stops en,f1.2 W1 σ2 H2 us le1 g1 h1 (by simpa using r1) s1⟩
  ·rename_i x en;obtain ⟨go,yld⟩:=goes x en;refine .inr ⟨go,Inn (i + 1) m,fun σ' H' q=>⟨m,Nat.lt_succ_self _,q⟩,fun v H3 hy=>?_⟩;obtain ⟨W2,l2,h2,r2⟩:=yld v H3 hy
   have ga:W2.G acc=some (.lst (vs ++ us)):=by rw [l2.g,g1,jo]
   show tb acc (σ2.set i0 (some v)) H3 _;refine body W2 M1 x (vs ++ us) _ _ _ (l2.k.trans k1) h2 ((s1.up l2).set r2) ga ?_
   cases e1:em (ρ.set i0 (some x)) M1 with
   | bad=>rw [e1] at ef; cases ef
   | exc _ _=>rw [e1] at ef; cases ef
   | ok ys1 M2 =>
    rw [e1] at ef;have ef:((emN it i0 em ρ m (i + 1) M2).noX.bind fun zs M3=>Res.ok (ys1 ++ zs) M3) = .ok zs M':=ef
    cases e2:emN it i0 em ρ m (i + 1) M2 with
    | bad=>rw [e2] at ef; cases ef
    | exc _ _=>rw [e2] at ef; cases ef
    | ok zs1 M3 =>
     rw [e2] at ef;cases ef;obtain ⟨hz,f1⟩:=f1;simp only [List.length_append] at hz;refine ⟨by simp only [List.length_append]; omega,fun W' σ' H' ws le g h r s=>?_⟩;refine ⟨W',M2,us ++ ws,ys ++ ys1,(le1.trans l2.toLe0).trans le,?_,h,((r1.up l2).up0 le).append r,xw hn s,?_⟩
     ·rw [g,l2.g,g1,xX,List.append_assoc]
     ·rw [e2];refine ⟨by simp only [List.length_append]; omega,fun W' σ' H' ws' le g h r s=>f1 W' σ' H' ws' le g h (by simpa [List.append_assoc] using r) s⟩
theorem jbR (hxe:X.xe=fun _ _=>False) (hc:X.calm=true) (h1:gens[d + 1]? = some ⟨target,iter,[],0⟩) (hd:d + 1 < own) (h2:Plainly X.env gens (d + 1)) (hi:QI X T ES0 target iter di) (hg:PG X target (xL (d + 1))) (hb:QM X T own elt gens sc pos (d + 1) em):QM X T own elt gens sc pos d (emC (d + 1) di em):=by
 refine ⟨fun acc pins s σ H N I hQ=>jbV hxe hc h1 h2 hi.h hg hb.h acc pins s σ H N I ?_⟩;obtain ⟨W,ρ,M,vs,k,hh,hs,ga,hN,f⟩:=hQ;refine ⟨W,ρ,M,k,hh,hs,?_⟩;unfold emC at f
 cases e:di ρ M with
 | bad=>rw [e] at f; exact f.elim
 | exc _ _=>rw [e] at f; exact f.elim
 | ok it M0 =>
  rw [e] at f;have f:jfc W acc ρ vs N (emN it (d + 1) em ρ (jX it M0) 0 M0):=f;intro W0 H0 J l0 h0 ri
  have g0:W0.G acc=some (.lst vs):=by rw [l0.g]; exact ga
  refine turns (T:=T) (em:=em) (M0:=M0) (l0.k.trans k) ri g0 (hN _ (Nat.lt_succ_self _) hd) h0 (hs.up l0) ?_ ?_
  ·cases e2:emN it (d + 1) em ρ (jX it M0) 0 M0 with
   | bad=>rw [e2] at f; exact f.elim
   | exc _ _=>rw [e2] at f; exact f.elim
   | ok zs M' =>
    rw [e2] at f;exact ⟨f.1,fun W' σ' H' ws le g h r s=>f.2 W' σ' H' ws (l0.toLe0.trans le) (by rw [g,l0.g]) h r s⟩
  ·intro W1 M1 x us N' σ4 H4 k1 h1 s1 g1 f1;refine ⟨W1,ρ.set (d + 1) (some x),M1,us,k1,h1,s1,g1,fun j h1 h2=>?_,f1⟩;rw [List.getElem?_set_ne (by omega)];exact hN j (by omega) h2
theorem YW {W:Wd} {ρ:En} {σ:St} {js:List Nat} (own:Nat) (h:jJ W ρ σ):jJ W (List.replicate own none ++ ju js ρ) (yB own js σ):=by
 have r:=Jt (js:=js) h;refine ⟨by unfold yB; simp [ju],fun i x e=>?_⟩;unfold yB
 by_cases hi:i < own
 ·rw [List.getElem?_append_left (by simpa using hi),List.getElem?_replicate] at e;split at e <;> cases e
 ·rw [List.getElem?_append_right (by simpa using Nat.le_of_not_lt hi),List.length_replicate] at e;rw [List.getElem?_append_right (by simpa using Nat.le_of_not_lt hi),List.length_replicate];exact r.2 _ x e
theorem jac {js:List Nat} {σ:St} {H:Hp} {Q:VK} (ho:0 < own) (h:lft T Rep ES (UZ di own js em) σ H Q):jcO (lft T RI ES di) own js (xL 0) (lfM T own 0 em) σ H Q:=by
 obtain ⟨W,ρ,M,k,hh,hs,p⟩:=h;refine ⟨W,ρ,M,k,hh,hs,jz.bind p fun W0 M0 it J H0 l0 h0 ri p0=>fun acc hacc=>?_⟩;have k0:W0.T=T:=l0.k.trans k;have hs0:=hs.up l0
 have gacc:W0.G acc=none:=by
  cases q:W0.G acc with
  | none=>rfl
  | some o =>
   rw [(h0.gd acc o q).1] at hacc;cases hacc
 have p0:jz W0 Rep ((emN it 0 em (List.replicate own none ++ ju js ρ) (jX it M0) 0 M0).noX.bind fun ys M2=>if ys.length<=sizeLine then .ok (.lst ys) M2 else .bad) Q (ES σ):=p0
 cases e:emN it 0 em (List.replicate own none ++ ju js ρ) (jX it M0) 0 M0 with
 | bad=>rw [e] at p0; exact p0.elim
 | exc _ _=>rw [e] at p0; exact p0.elim
 | ok zs M' =>
 rw [e] at p0;have p0:jz W0 Rep (if zs.length<=sizeLine then .ok (.lst zs) M' else .bad) Q (ES σ):=p0
 by_cases hz:zs.length<=sizeLine
 rotate_left
 ·rw [if_neg hz] at p0; exact p0.elim
 rw [if_pos hz] at p0;have p0:∀ W' H' v,W0.le W'->Held W' M' H'->Rep W' (.lst zs) v->Q v H':=p0
 have hn:(List.replicate own none ++ ju js ρ)[0]? = some none:=by
  rw [List.getElem?_append_left (by simpa using ho),List.getElem?_replicate,if_pos ho]
 have gn:(W0.gd acc (.lst [])).G acc=some (.lst []):=jo;refine turns (T:=T) (em:=em) (M0:=M0) (W0:=W0.gd acc (.lst [])) (vs:=[]) (N:=fun _ H2=>Q (.ref acc) H2) (ρ:=List.replicate own none ++ ju js ρ) k0 (fun W' M' H' le=>ri W' M' H' (Wd.le0_gd.trans le)) gn hn (h0.guard hacc) ((YW own hs0).up0 Wd.le0_gd) ?_ ?_
 ·rw [e];refine ⟨by simpa using hz,fun W' σ' H' ws le g h r s=>?_⟩;rw [List.nil_append] at g
  have g':W'.G=L2.upd W0.G acc (.lst ws):=by
   rw [g];show L2.upd (L2.upd W0.G acc (.lst [])) acc _=_;rw [xX]
  have ga1:W'.G acc=some (.lst ws):=by rw [g',jo]
  obtain ⟨l2,h2⟩:=h.unguard (G0:=W0.G) ga1 fun b u q=>by
   have z:b≠acc:=fun z=>by rw [z,gacc] at q; cases q
   exact ⟨by rw [g',ji z]; exact q,z⟩
  exact p0 (W'.out W0.G acc (.lst ws)) H' (.ref acc) ⟨(Wd.le0_gd.trans le).trans l2,rfl⟩ h2 ⟨acc,ws,rfl,jo,r.up0 l2⟩
 ·intro W1 M1 x us N' σ4 H4 k1 h1 s1 g1 f1;refine ⟨W1,_,M1,us,k1,h1,s1,g1,fun j h1 h2=>?_,f1⟩;rw [List.getElem?_set_ne (by omega),List.getElem?_append_left (by simpa using h2),List.getElem?_replicate,if_pos h2]
end
section
variable {X:Cx} {T:Tb} {ES:St->XK} {osc sc:Scope} {own fr:List Str} {js:List Nat} {elt target iter:Expr} {ju:List Comprehension} {pos:Pos} {di:En->Sto->Res ItP} {em:EM}
theorem jdt (ho0:0 < own.length) (hc:X.calm=true) (ho:X.env.scope=osc) (S:CompScope osc sc own fr) (hj:js.map (fun j=>X.N[j]?)=fr.map some) (hi:QI X T ES target iter di)
  (hg:∀ s₃ H₃ fp,PG (jp X (own ++ fr) sc s₃ H₃ fp) target (xL 0)) (hpl:∀ s₃ H₃ fp,Plainly (jp X (own ++ fr) sc s₃ H₃ fp).env (⟨target,iter,[],0⟩ :: ju) 0) (hb:∀ s₃ H₃ fp,QM (jp X (own ++ fr) sc s₃ H₃ fp) T own.length elt (⟨target,iter,[],0⟩ :: ju) sc pos 0 em)
  (hs:∀ x,foldedSetIterable iter X.env x=pure x:=by intro _; rfl):QE X T ES (.ListComp elt (⟨target,iter,[],0⟩ :: ju) sc pos) (UZ di own.length js em) :=
 ⟨jO (jdP hc ho S hj hi.h hg hpl (fun a b c=>(hb a b c).h) hs) fun _ _ _=>jac ho0⟩
end
theorem jgU {env:Env} {gens:List Comprehension} {d:Nat} {g:Comprehension} (h:gens[d + 1]? = some g) (h1:g.ifs=[]) (h2:g.is_async=0) (h3:∀ x,foldedSetIterable g.iter env x=pure x):Plainly env gens d:=⟨fun g' e=>by
 rw [h] at e;cases e
 exact ⟨h1,h2,h3⟩⟩
theorem UB {env:Env} {gens:List Comprehension} {d:Nat} (h:gens[d + 1]? = none):Plainly env gens d:=⟨fun g' e=>by
 rw [h] at e
 cases e⟩
structure CalZ (P:Program) (w:World) (K:PySem.W.Frag) (mg:Str->Option Value) (base:Heap) (T:Tb) (x:Str) (j:Nat) (D:List PV->Sto->Res PV):Prop where
 ex:∃ f fd,FnOk P w K mg base (CX1 P w) j f fd [] (spD T D)∧mg x=some (.ref f)∧PySem.W.keepIn K (.ref f)=true∧∀ s:Shared,K.In s.heap->BindsTo s fd ⟨[],[]⟩ []
end L3
namespace L2
open PySem PySem.Spec PyProof.Rows
section
variable {prog:Program} {w:World} {A:Around} {R:Result->Shared->Prop} {s:Shared}
end
def uc (X:Cx) (kx vx:Expr) (gens:List Comprehension) (scope:Scope) (pos:Pos) (d:Nat) (acc:Addr) (s:Shared) (Po:Shared->Prop):Prop:=match gens[d + 1]? with
 | none=>wpAny (model X.prog X.w) X.A (eval kx X.env) (fun kv s₃=>wpAny (model X.prog X.w) X.A (eval vx X.env) (fun vv s₄=>wpAny (model X.prog X.w) X.A (dictSet acc kv vv) (fun _ s₅=>Po s₅) (fun _ _=>False) s₄) (fun _ _=>False) s₃) (fun _ _=>False) s
 | some g=>wpAny (model X.prog X.w) X.A (eval g.iter X.env) (fun x s₃=>wpAny (model X.prog X.w) X.A (pyIter x) (fun it' s₄ =>
   codeAny (model X.prog X.w) X.A (.compStart (.DictComp kx vx gens scope pos) (d + 1) it' (.ref acc) X.env) (fun r s₅=>match r with
    | .ok _=>Po s₅
    | .error _=>False) s₄) (fun _ _=>False) s₃) (fun _ _=>False) s
theorem uc.mono {X:Cx} {kx vx:Expr} {gens:List Comprehension} {scope:Scope} {pos:Pos} {d:Nat} {acc:Addr} {s:Shared} {Po Po':Shared->Prop} (h:uc X kx vx gens scope pos d acc s Po) (k:∀ s,Po s->Po' s):uc X kx vx gens scope pos d acc s Po':=by
 unfold uc at h ⊢;split
 ·rename_i e;rw [e] at h;exact wpAny_mono h (fun x s₃ h₃=>wpAny_mono h₃ (fun x s₄ h₄=>wpAny_mono h₄ (fun _ s₅ h₅=>k s₅ h₅) fun _ _ z=>z) fun _ _ z=>z) fun _ _ z=>z
 ·rename_i g e;rw [e] at h;refine wpAny_mono h (fun x s₄ h₄=>wpAny_mono h₄ (fun _ s₅ h₅=>codeAny_mono h₅ fun r s h=>?_) fun _ _ z=>z) fun _ _ z=>z
  cases r with
  | ok f=>exact k s h
  | error e=>exact h
def PMbD (X:Cx) (kx vx:Expr) (gens:List Comprehension) (scope:Scope) (pos:Pos) (d:Nat) (tb:TB):Prop :=
 ∀ (acc:Addr) (pins:List (Addr × Obj)) (s:Shared) (σ:St) (H:Hp) (N:St->Hp->Prop),Inv X pins σ H s->tb acc σ H N->uc X kx vx gens scope pos d acc s fun s'=>∃ σ' H',Inv X pins σ' H' s'∧N σ' H'
section
variable {X:Cx} {pins:List (Addr × Obj)} {σ:St} {H:Hp} {s:Shared} {osc sc:Scope} {own fr:List Str} {js:List Nat} {fp:List Addr}
end
section
variable {X:Cx} {osc sc:Scope} {own fr:List Str} {js:List Nat} {kx vx target iter:Expr} {ju:List Comprehension} {pos:Pos} {wi:TI} {g:TG} {tb:TB}
end
section
variable {prog:Program} {w:World} {A:Around} {E:Value->Shared->Prop} {s:Shared} {xs:List (List Key × Addr × Value)}
end
end L2
namespace L3
open PySem L2
abbrev Pr:=List Int × Int
abbrev EMD:=En->Sto->Res (List Pr)
def putAll (l zs:List Pr):List Pr:=zs.foldl (fun l p=>putL l p.1 p.2) l
def FinD (W:Wd) (acc:Addr) (ρ:En) (l:List Pr) (m:Nat) (N:St->Hp->Prop) (r:Res (List Pr)):Prop:=match r with
 | .ok zs M'=>m + zs.length<=sizeLine∧∀ W' σ' H',W.le0 W'->W'.G=L2.upd W.G acc (.dT (jgx (putAll l zs)))->Held W' M' H'->jJ W' ρ σ'->N σ' H'
 | _=>False
def lfD (T:Tb) (own d:Nat) (em:EMD):TB:=fun acc σ H N=>∃ W ρ M l m,W.T=T∧Held W M H∧jJ W ρ σ∧W.G acc=some (.dT (jgx l))∧l.length<=m∧(∀ j,d < j->j < own->ρ[j]? = some none)∧FinD W acc ρ l m N (em ρ M)
structure QMD (X:Cx) (T:Tb) (own:Nat) (kx vx:Expr) (gens:List Comprehension) (sc:Scope) (pos:Pos) (d:Nat) (em:EMD):Prop where
 h:PMbD X kx vx gens sc pos d (lfD T own d em)
section
variable {X:Cx} {T:Tb} {ES:St->XK} {own d:Nat} {kx vx target iter:Expr} {gens:List Comprehension} {sc:Scope} {pos:Pos} {di:En->Sto->Res ItP} {em:EMD} {dk:DA} {dv:DE}
end
section
variable {X:Cx} {T:Tb} {ES:St->XK} {osc sc:Scope} {own fr:List Str} {js:List Nat} {kx vx target iter:Expr} {ju:List Comprehension} {pos:Pos} {di:En->Sto->Res ItP} {em:EMD}
end
end L3
namespace L3
open PySem L2
section
variable {X:Cx} {T:Tb} {ES:St->XK} {a:Expr} {es:List Expr} {p pos:Pos} {ds:DA}
end
end L3
namespace L2
open PySem PySem.Spec PyProof.Rows
section
variable {prog:Program} {w:World} {A:Around} {E:Value->Shared->Prop} {s:Shared} {xs:List (List Key × Addr × Value)}
end
section
variable {X:Cx} {pins:List (Addr × Obj)} {σ:St} {H:Hp} {s:Shared} {a b:Addr} {d:V} {r:Value} {A:Around} {E:Value->Shared->Prop} {kvs:List (List Key × V)} {k:List Key}
end
section
variable {X:Cx} {o e f:Expr} {apos cpos:Pos} {td ty tx:TE}
end
end L2
namespace L2
open PySem PySem.Spec PyProof.Rows PySem.W
section
variable {prog:Program} {w:World} {A:Around} {E:Value->Shared->Prop} {s:Shared}
end
section
variable {X:Cx}
end
end L2
namespace L3
open PySem L2
section
variable {α κ:Type} [DecidableEq α] [DecidableEq κ]
def Yn (l:List (α × PV)) (k:α):Option PV:=(l.find? fun p=>decide (p.1=k)).map (·.2)
def jdw (l:List (α × PV)) (k:α) (x:PV):List (α × PV) :=
 if (l.any fun p=>decide (p.1=k))=true then l.map (fun p=>if p.1=k then (p.1,x) else p) else l ++ [(k,x)]
variable {W:Wd} {f:α->κ}
theorem yt.length:∀ {l:List (α × PV)} {vs:List (κ × V)},yt W f l vs->vs.length=l.length
 | [],_,e=>by cases e; rfl
 | _ :: _,_,⟨_,_,e,_,t⟩=>by subst e; rw [List.length_cons,List.length_cons,yt.length t]
theorem yt.any (hf:∀ a b,f a=f b->a=b) (k:α):∀ {l:List (α × PV)} {vs:List (κ × V)},yt W f l vs->(vs.any fun p=>decide (p.1=f k))=l.any fun p=>decide (p.1=k)
 | [],_,e=>by cases e; rfl
 | p :: _,_,⟨_,_,e,_,t⟩=>by
  subst e;rw [List.any_cons,List.any_cons,yt.any hf k t];congr 1;exact decide_eq_decide.mpr ⟨hf _ _,fun z=>by rw [z]⟩
theorem yt.get (hf:∀ a b,f a=f b->a=b) (k:α):∀ {l:List (α × PV)} {vs:List (κ × V)},yt W f l vs->(Yn l k=none∧xq vs (f k)=none)∨∃ x v,Yn l k=some x∧xq vs (f k)=some v∧Rep W x v
 | [],_,e=>by cases e; exact .inl ⟨rfl,rfl⟩
 | p :: r,_,⟨v,rs,e,rv,t⟩=>by
  subst e;unfold Yn;rw [List.find?_cons]
  by_cases h:p.1=k
  ·rw [decide_eq_true h];exact .inr ⟨p.2,v,rfl,vG (by rw [h]),rv⟩
  ·rw [decide_eq_false h];have hv:xq ((f p.1,v) :: rs) (f k)=xq rs (f k):=vH (fun z=>h (hf _ _ z));rw [hv];exact yt.get hf k t
theorem yt.snoc {k:α} {x:PV} {v:V} (rv:Rep W x v):∀ {l:List (α × PV)} {vs:List (κ × V)},yt W f l vs->yt W f (l ++ [(k,x)]) (vs ++ [(f k,v)])
 | [],_,e=>by cases e; exact ⟨v,[],rfl,rv,rfl⟩
 | _ :: _,_,⟨u,rs,e,r,t⟩=>by subst e; exact ⟨u,_,rfl,r,yt.snoc rv t⟩
theorem yt.repl (hf:∀ a b,f a=f b->a=b) {k:α} {x:PV} {v:V} (rv:Rep W x v):∀ {l:List (α × PV)} {vs:List (κ × V)},yt W f l vs->yt W f (l.map fun p=>if p.1=k then (p.1,x) else p) (vs.map fun p=>if p.1=f k then (p.1,v) else p)
 | [],_,e=>by cases e; exact rfl
 | p :: _,_,⟨u,rs,e,r,t⟩=>by
  subst e;rw [List.map_cons,List.map_cons]
  by_cases h:p.1=k
  ·rw [if_pos h,if_pos (by rw [h])];exact ⟨v,_,rfl,rv,yt.repl hf rv t⟩
  ·rw [if_neg h,if_neg (fun z=>h (hf _ _ z))];exact ⟨u,_,rfl,r,yt.repl hf rv t⟩
theorem yt.put (hf:∀ a b,f a=f b->a=b) {k:α} {x:PV} {v:V} {l:List (α × PV)} {vs:List (κ × V)} (r:yt W f l vs) (rv:Rep W x v):yt W f (jdw l k x) (vj vs (f k) v):=by
 unfold jdw vj;rw [r.any hf k];split
 ·exact r.repl hf rv
 ·exact r.snoc rv
end
theorem vQ (a b:List Int) (h:JG a=JG b):a=b:=jgp.mp h
theorem Jb (ns:List Int):(JG ns).map kV=ns.map V.int:=jgn ns
def dDtN:DE:=fun _ M=>.ok (.ref M.n) (M.new (.dtv []))
def dDkN:DE:=fun _ M=>.ok (.ref M.n) (M.new (.dkv []))
def YZ (M:Sto) (o:PV) (ks:List PV) (x:PV):Option Sto:=match o with
 | .ref i=>(match M.g i with
  | some (.dtv l)=>(match vR ks with
   | some ns=>if ns.length<=sizeLine∧l.length < sizeLine then some (M.set i (.dtv (jdw l ns x))) else none
   | none=>none)
  | _=>none)
 | _=>none
def jde (d do_:DE) (dk:DA):DS:=fun ρ M=>(d ρ M).st ρ fun x M1=>(do_ ρ M1).st ρ fun o M2=>(dk ρ M2).st ρ fun ks M3=>match YZ M3 o ks x with
 | some M4=>.nx ρ M4
 | none=>.bad
def inTv (neg:Bool) (M:Sto) (ks:List PV) (o:PV):Option PV:=match o with
 | .ref i=>(match M.g i with
  | some (.dtv l)=>(match vR ks with
   | some ns=>if ns.length<=sizeLine then some (.bl (if neg then !(Yn l ns).isSome else (Yn l ns).isSome)) else none
   | none=>none)
  | _=>none)
 | _=>none
def jeP (do_:DE) (dk:DA) (dz:DE):DE:=fun ρ M=>(do_ ρ M).bind fun o M1=>match o with
 | .ref i=>(match M1.g i with
  | some (.dtv _)=>(dk ρ M1).bind fun ks M2=>(match vR ks with
   | some ns=>if ns.length<=sizeLine then (dz ρ M2).bind fun z M3=>(match M3.g i with
    | some (.dtv l)=>.ok ((Yn l ns).getD z) M3
    | _=>.bad) else .bad
   | none=>.bad)
  | _=>.bad)
 | _=>.bad
section
variable {X:Cx} {T:Tb} {ES:St->XK} {e o f:Expr} {es:List Expr} {pos p2 kp:Pos} {x1:Nat} {d do_ dz dk1:DE} {dk:DA}
theorem jdr:QE X T ES (.Dict [] [] pos) dDtN:=⟨jO jdM fun σ H Q hQQ=>jC hQQ fun W ρ M k hh hs q=>fun p hp=>by
 obtain ⟨le,h1,h2⟩:=hh.put (l:=p) (o:=.dT []) (c:=.dtv []) hp ⟨[],rfl,rfl⟩
 exact q _ _ _ le h1 ⟨p,rfl,h2⟩⟩
theorem jds:QE X T ES (.Dict [] [] pos) dDkN:=⟨jO jdN fun σ H Q hQQ=>jC hQQ fun W ρ M k hh hs q=>fun p hp=>by
 obtain ⟨le,h1,h2⟩:=hh.put (l:=p) (o:=.dK []) (c:=.dkv []) hp ⟨[],rfl,rfl⟩
 exact q _ _ _ le h1 ⟨p,rfl,h2⟩⟩
theorem jdk (hu:X.A.units + 1 < cLine) (he:QE X T ES e d) (ho:QE X T ES o do_) (hk:QA X T ES es dk) (hw:swapsWith e (some (.Subscript o (.Tuple es x1 kp) p2)) pos.line X.env=pure false:=by rfl) :
  QS X T ES (.Assign [.Subscript o (.Tuple es x1 kp) p2] e pos) (jde d do_ dk) :=
 ⟨yH (jaJ hu ho.h (XR hk.h) he.h hw) fun D σ H hQQ=>yj hQQ fun W ρ M k hh hs q=>⟨W,ρ,M,k,hh,hs,jK.bind hs q fun W1 M1 x v H1 l1 h1 r1 q1=>by
  have hs1:=hs.up l1;refine ⟨W1,ρ,M1,l1.k.trans k,h1,hs1,jK.bind hs1 q1 fun W2 M2 o' ov H2 l2 h2 r2 q2=>?_⟩;have hs2:=hs1.up l2;refine ⟨W2,ρ,M2,l2.k.trans (l1.k.trans k),h2,hs2,jK.bind hs2 q2 fun W3 M3 ks kv H3 l3 h3 r3 q3=>?_⟩;split at q3
  rotate_left
  ·exact q3.elim
  rename_i M4 e4;unfold YZ at e4;split at e4
  rotate_left
  ·cases e4
  rename_i i;split at e4
  rotate_left
  ·cases e4
  rename_i l e5;split at e4
  rotate_left
  ·cases e4
  rename_i ns e6;split at e4
  rotate_left
  ·cases e4
  rename_i hc;cases e4;have ek:=xQ e6;subst ek;have ev:kv=ns.map V.int:=jl.ints.mp r3;subst ev;obtain ⟨a,rfl,ea⟩:=r2.up l3;obtain ⟨b,ob,g1,g2,g3,vs,rfl,ra⟩:=h3.m i _ e5;rw [ea] at g1;cases g1;refine ⟨by rw [List.length_map]; exact hc.1,fun p hp=>?_⟩;obtain ⟨l4,h4,f4⟩:=h3.frz (o:=.tup (ns.map V.int)) hp;have na:a≠p:=jB g3 hp;refine ⟨a,_,rfl,Up.t (k:=JG ns) (kvs:=vs) (by rw [ji na]; exact g3) (by rw [jo,Jb]) (by rw [ra.length]; exact hc.2),?_⟩
  exact q3 _ σ _ l4 (h4.upd e5 (l4.a _ _ ea) (c':=.dtv (jdw l ns x)) (o:=.dT (vj vs (JG ns) v)) ⟨_,rfl,(ra.up0 l4.toLe0).put vQ (((r1.up l2).up l3).up l4)⟩) ((hs2.up l3).up l4)⟩⟩
theorem jdq {apos cpos:Pos} (hu:X.A.units + 1 < cLine) (ho:QE X T ES o do_) (hk:QA X T ES es dk) (hz:QE X T ES f dz) (m:M2 X o "get" apos (.Tuple es x1 kp) f cpos):QE X T ES (.Call (.Attribute o "get" apos) [.Tuple es x1 kp,f] [] cpos) (jeP do_ dk dz) :=
 ⟨jO (jdO hu ho.h (XR hk.h) hz.h m) fun σ H Q hQQ=>jC hQQ fun W ρ M k hh hs q=>⟨W,ρ,M,k,hh,hs,jz.bind q fun W1 M1 x v H1 l1 h1 r1 q1=>by
  split at q1
  rotate_left
  ·exact q1.elim
  rename_i i;split at q1
  rotate_left
  ·exact q1.elim
  rename_i l0 e0;obtain ⟨a,rfl,ea⟩:=r1;obtain ⟨b,ob,g1,g2,g3,vs0,rfl,ra0⟩:=h1.m i _ e0;rw [ea] at g1;cases g1;refine ⟨a,rfl,.inr ⟨vs0,.inl g3⟩,W1,ρ,M1,l1.k.trans k,h1,hs.up l1,jz.bind q1 fun W2 M2 ks kv H2 l2 h2 r2 q2=>?_⟩;split at q2
  rotate_left
  ·exact q2.elim
  rename_i ns e6;split at q2
  rotate_left
  ·exact q2.elim
  rename_i hzz;have ek:=xQ e6;subst ek;have ev:kv=ns.map V.int:=jl.ints.mp r2;subst ev;refine ⟨by rw [List.length_map]; exact hzz,fun p hp=>?_⟩;obtain ⟨l4,h4,f4⟩:=h2.frz (o:=.tup (ns.map V.int)) hp;refine ⟨_,ρ,M2,l4.k.trans (l2.k.trans (l1.k.trans k)),h4,((hs.up l1).up l2).up l4,jz.bind (q2.up l4) fun W3 M3 z zv H3 l3 h3 r3 q3=>?_⟩;split at q3
  rotate_left
  ·exact q3.elim
  rename_i l e5;have ea3:W3.α i=some a:=l3.a _ _ (l4.a _ _ (l2.a _ _ ea));obtain ⟨b,ob,g1,g2',g3',vs,rfl,ra⟩:=h3.m i _ e5;rw [ea3] at g1;cases g1;refine ⟨_,jar.t (k:=JG ns) g3' (by rw [Jb]; exact h3.f _ _ (l3.f _ _ f4)),?_⟩
  rcases ra.get vQ ns with ⟨a1,a2⟩ | ⟨x,v',a1,a2,rv⟩
  ·rw [a2];rw [a1] at q3;exact q3 W3 H3 _ (.refl W3) h3 r3
  ·rw [a2];rw [a1] at q3
   exact q3 W3 H3 _ (.refl W3) h3 rv⟩⟩
end
end L3
namespace L2
open PySem PySem.Spec PyProof.Rows PySem.W
section
variable {X:Cx} {pins:List (Addr × Obj)} {σ:St} {H:Hp} {s:Shared} {a:Addr} {o:Obj} {kvs:List (List Key × V)}
end
section
variable {X:Cx} {tg l e:Expr} {te:TE}
end
end L2
namespace L3
open PySem L2
theorem Held.back {W:Wd} {M:Sto} {H G0:Hp} {j:Nat} {a:Addr} {c:Cell} {o' u:HO} (h:Held W M H) (e:W.G a=some o') (ea:W.α j=some a) (r:Yg W c u) (hg:∀ b u,G0 b=some u->W.G b=some u∧b≠a):Held ⟨W.T,W.F,W.α,G0⟩ (M.set j c) (L2.upd H a u):=by
 obtain ⟨g1,g2,g3⟩:=h.gd a o' e
 have le:W.le0 ⟨W.T,W.F,W.α,G0⟩:=⟨rfl,fun _ _ e=>e,fun _ _ e=>e⟩
 refine ⟨fun b w q=>?_,fun i c' q=>?_,fun i k b c1 c2 q1 q2 e1 e2=>?_,h.top,fun b w q=>?_,fun b w q=>h.gl b w (hg b w q).1⟩
 ·rw [ji (fun z:b=a=>by
   have q:W.F b=some w:=q;rw [z,g2] at q
   cases q)]
  exact h.f b w q
 ·by_cases z:i=j
  ·subst z;rw [Sto.set_same] at q;cases q;exact ⟨a,u,ea,g2,jo,r.up0 le⟩
  ·rw [Sto.set_ne z] at q;obtain ⟨a',u',h1,h2,h3,h4⟩:=h.m i c' q;exact ⟨a',u',h1,h2,by rw [ji (fun zz:a'=a=>g3 i c' q (zz ▸ h1))]; exact h3,h4.up0 le⟩
 ·have e1:W.α i=some b:=e1;have e2:W.α k=some b:=e2
  by_cases z1:i=j
  ·by_cases z2:k=j
   ·rw [z1,z2]
   ·rw [Sto.set_ne z2] at q2;rw [z1,ea] at e1;cases e1;exact absurd e2 (g3 k c2 q2)
  ·rw [Sto.set_ne z1] at q1
   by_cases z2:k=j
   ·rw [z2,ea] at e2;cases e2;exact absurd e1 (g3 i c1 q1)
   ·rw [Sto.set_ne z2] at q2;exact h.inj i k b c1 c2 q1 q2 e1 e2
 ·obtain ⟨q1,z⟩:=hg b w q;obtain ⟨h1,h2,h3⟩:=h.gd b w q1;refine ⟨by rw [ji z]; exact h1,h2,fun i c' qi w'=>?_⟩;have w':W.α i=some b:=w'
  by_cases zi:i=j
  ·rw [zi,ea] at w';cases w';exact z rfl
  ·rw [Sto.set_ne zi] at qi;exact h3 i c' qi w'
section
variable {X:Cx} {T:Tb} {ES:St->XK} {osc sc:Scope} {own fr:List Str} {js:List Nat} {elt target iter:Expr} {ifs:List Expr} {pos:Pos} {d:DE} {g:TG} {bnd:PV->En->Option En} {dt:DT} {de:DE}
end
end L3
namespace L2
open PySem PySem.Spec PyProof.Rows PySem.W
section
variable {X:Cx}
end
end L2
namespace L3
open PySem L2
section
variable {X:Cx} {T:Tb} {ES:St->XK} {e:Expr} {p p2 pos pos2:Pos} {d:DE}
end
end L3
namespace L3
open PySem L2
section
variable {X:Cx} {T:Tb} {ES:St->XK} {e o:Expr} {es:List Expr} {pos p2 kp:Pos} {x1:Nat} {d do_ dz dk1:DE} {dk:DA}
end
end L3
namespace L2
open PySem PySem.Spec PyProof.Rows
section
variable {X:Cx} {pins:List (Addr × Obj)} {σ:St} {H:Hp} {s:Shared} {a:Addr} {d:V} {u r:Value} {A:Around} {E:Value->Shared->Prop} {kvs:List (Key × V)} {k:Key}
end
section
variable {X:Cx} {o e f:Expr} {apos cpos:Pos} {td ty tx:TE}
end
end L2
namespace L3
open PySem L2
theorem xH.length {W:Wd}:∀ {l:List (NK × PV)} {xs:List (NK × Addr × Value)},xH W l xs->xs.length=l.length
 | [],_,e=>by cases e; rfl
 | _ :: _,_,⟨_,_,_,_,e,_,_,_,t⟩=>by subst e; rw [List.length_cons,List.length_cons,xH.length t]
theorem xH.keys {W:Wd}:∀ {l:List (NK × PV)} {xs:List (NK × Addr × Value)},xH W l xs->∀ x ∈ xs,NKey W.T.K W.F x.1 x.2.1
 | [],_,e,x,hx=>by cases e; cases hx
 | _ :: _,_,⟨b,u,rs,v,e,k,_,_,t⟩,x,hx=>by
  subst e
  rcases List.mem_cons.mp hx with rfl | hx
  ·exact k
  ·exact xH.keys t x hx
theorem xH.get {W:Wd} (k:NK):∀ {l:List (NK × PV)} {xs:List (NK × Addr × Value)},xH W l xs->(Yn l k=none∧atKey xs k=none)∨∃ x b u v,Yn l k=some x∧atKey xs k=some (b,u)∧Rep W x v∧jv v u
 | [],_,e=>by cases e; exact .inl ⟨rfl,rfl⟩
 | p :: r,_,⟨b,u,rs,v,e,_,rv,ru,t⟩=>by
  subst e;unfold Yn atKey;rw [List.find?_cons,List.find?_cons]
  by_cases h:p.1=k
  ·rw [decide_eq_true h];exact .inr ⟨p.2,b,u,v,rfl,rfl,rv,ru⟩
  ·rw [decide_eq_false h];exact xH.get k t
theorem xH.snoc {W:Wd} {k:NK} {x:PV} {b:Addr} {u:Value} {v:V} (hk:NKey W.T.K W.F k b) (rv:Rep W x v) (ru:jv v u):∀ {l:List (NK × PV)} {xs:List (NK × Addr × Value)},xH W l xs->xH W (l ++ [(k,x)]) (xs ++ [(k,b,u)])
 | [],_,e=>by cases e; exact ⟨b,u,[],v,rfl,hk,rv,ru,rfl⟩
 | _ :: _,_,⟨b',u',rs,v',e,k',r,ru',t⟩=>by subst e; exact ⟨b',u',_,v',rfl,k',r,ru',xH.snoc hk rv ru t⟩
section
variable {X:Cx} {T:Tb} {ES:St->XK} {e o f:Expr} {es:List Expr} {pos p2 kp:Pos} {x1:Nat} {d do_ dz dk1:DE} {dk:DA}
end
def jcH:List Value->List Str->Bool
 | [],[]=>true
 | u :: us,x :: xs=>Value.isStrOf x u && jcH us xs
 | _,_=>false
structure TupS (K:PySem.W.Frag) (mg:Str->Option Value) (x:Str) (xs:List Str):Prop where
 ex:∃ a q its n ts,mg x=some (.ref a)∧K.lookup a=some ⟨.type "tuple",q,.seq its n,ts⟩∧its.size<=sizeLine∧jcH its.toList xs=true
end L3
namespace L2
open PySem PySem.Spec PyProof.Rows PySem.W
section
variable {X:Cx} {pins:List (Addr × Obj)} {σ:St} {H:Hp} {s:Shared} {a:Addr} {o:Obj} {kvs:List (Key × V)}
theorem Inv.freezeK (I:Inv X pins σ H s) (e:H a=some (.dK kvs)):∃ o,Inv X pins σ (upd H a (.frz o (.dK kvs))) s:=by
 obtain ⟨hl,hd,vs,rel,o,es,ep,ho,hr⟩:=(show jM X.prog X.w H s.heap a (.dK kvs) from I.hok a _ e)
 exact ⟨o,Ve (h':=s.heap) (t':=s.toks) (ob:=.frz o (.dK kvs)) I (by rw [e]; exact True.intro) ⟨rfl,fun _ _=>rfl⟩ ⟨o,ho⟩ ⟨ho,hl,hd,vs,rel,o,es,ep,ho,hr⟩⟩
end
section
variable {X:Cx} {tg l e:Expr} {te:TE}
end
end L2
namespace L3
open PySem L2
section
variable {X:Cx} {T:Tb} {ES:St->XK} {o e:Expr} {do_ dk1:DE} {pos:Pos}
variable {osc sc:Scope} {xd xh:Str} {i:Nat} {p1 p2 p3 p4 p5:Pos}
end
end L3
namespace Srt
open PySem PySem.W PyProof.Rows
section
variable {prog:Program} {w:World} {A:Around} {E:Value->Shared->Prop} {s:Shared}
theorem Ug {T:String} {r d:Addr} {n:Nat} {P:Nat->Value->Prop} {OK:Heap->Prop} {Q:List Value->Shared->Prop} (K:KdlSrc prog w T r d n P OK) (hh:A.handled=none) (hok:OK s.heap) (hn:n<=sizeLine)
  (hQ:∀ h' tk (vs:List Value),(∀ b o,s.heap.get? b=some o->h'.get? b=some o)->s.heap.objs.size<=h'.objs.size->vs.length=n->(∀ j v,vs[j]? = some v->P j v)->Q vs { s with heap:=h',toks:=tk }):wpAny (model prog w) A (collect (.ref r)) Q E s:=by
 have hlt:=K.there _ hok;unfold collect;refine wpAny_bind (wpAny_runValue (codeAny_builtin PySem.F.entry_proto_collect ?_));rw [Around.under_plainId PySem.F.plain_proto_collect _];show wpAny _ A.in1 (newList [] >>= fun l=>again (.builtin "list.__iadd__" ⟨[l,.ref r],[]⟩)) _ _ s;refine wpAny_bind (wpAny_newObj_type (wpAny_pure ⟨plainId_quiet PySem.F.plain_list_iadd _,codeAny_builtin PySem.F.entry_list_iadd ?_⟩));rw [Around.under_plainId PySem.F.plain_list_iadd _];have hS:(s.heap.push { cls:=.type "list",data:=.seq ([]:List Value).toArray }).get? s.heap.objs.size=some { cls:=.type "list",data:=.seq #[] }:=Heap.get?_push_size _ rfl;show wpAny _ A.in1 (Builtin.List.listExtendWith (.ref s.heap.objs.size) (.ref r) (.ref s.heap.objs.size)) _ _ _
 refine kdl_extend (A:=A) (R:=fun r s'=>match r with
  | .ok (.ret v)=>wpAny (model prog w) A (match v with
   | .ref a=>(do
    let o <- load a
    match o.data with
    | .seq xs _=>pure xs.toList
    | _=>unsupported "internal:collect")
   | _=>unsupported "internal:collect") Q E s'
  | .ok _=>False
  | .error e=>E e s') (s:={ s with heap:=s.heap.push { cls:=.type "list",data:=.seq ([]:List Value).toArray } }) K hh (K.keep _ _ hok fun b _ o e=>Heap.get?_push_of_some _ e) s.heap.objs.size (Nat.ne_of_gt hlt.1) (Nat.ne_of_gt hlt.2) _ _ hS (fun h' tk acc' c' hk hS' hacc=>?_) hn
 show wpAny _ A (load s.heap.objs.size >>= _) _ _ _;refine wpAny_bind (wpAny_load hS' (wpAny_pure (hQ h' tk acc'.toList (fun b o e=>hk b o (Nat.ne_of_lt (Heap.lt_size e)) (Heap.get?_push_of_some _ e)) (Nat.le_of_lt (Heap.lt_size hS')) (by rw [Array.length_toList]; exact hacc.1) fun j v e=>hacc.2 j v (by rw [<- Array.getElem?_toList]; exact e))))
theorem sorted_src {T:String} {r d:Addr} {n:Nat} {P:Nat->Value->Prop} {OK:Heap->Prop} {ns:List Int} {Q:Value->Shared->Prop} (K:KdlSrc prog w T r d n P OK) (hh:A.handled=none) (hok:OK s.heap) (h64:n < 64) (hi:∀ vs:List Value,vs.length=n->(∀ j v,vs[j]? = some v->P j v)->IntsAre vs ns)
  (h:∀ h' tk a e (out:Array Value) (ns':List Int),(∀ b o,s.heap.get? b=some o->h'.get? b=some o)->s.heap.objs.size<=a->h'.get? a=some (seqObj "list" out e)->IntsAre out.toList ns'->ns'.Perm ns->ns'.Pairwise (·<=·)->Q (.ref a) { s with heap:=h',toks:=tk }):wpAny (model prog w) A (call (.builtin "sorted") [.ref r]) Q E s:=by
 refine Calls.call_function_entry kind_sorted plain_sorted entry_sorted (args_sorted1 _) ?_;unfold Builtin.«sorted»;refine wpAny_bind (m:=checkCount "sorted" 1 1 _) (wpAny_pure (wpAny_bind (Ug K hh hok (by rw [sizeLine_eq]; omega) fun h1 tk vs k1 z1 hl hp=>?_)));have hI:=hi vs hl hp;refine wpAny_bind (wpAny_newList ?_ (by show vs.length<=_; rw [sizeLine_eq]; omega));show wpAny _ _ _ _ _ { s with heap:=h1.push (seqObj "list" vs.toArray 0),toks:=tk };have g2:(h1.push (seqObj "list" vs.toArray 0)).get? h1.objs.size=some (seqObj "list" vs.toArray 0):=Heap.get?_push_size _ rfl;refine wpAny_bind (wpAny_holding (wpAny_call_entry slot_list_sort ⟨_,g2,rfl⟩ entry_list_sort (list_sort_tree (s:={ s with heap:=h1.push (seqObj "list" vs.toArray 0),toks:=tk }) g2 hI (by omega) fun out ns' a1 a2 a3=>⟨_,rfl,?_⟩) (args_list_sort _)));refine wpAny_pure ⟨_,rfl,?_⟩;unfold sortedHeap
 obtain ⟨e1,g3⟩:∃ e,((h1.push (seqObj "list" vs.toArray 0)).update h1.objs.size (Obj.mapSeq fun _=>#[])).get? h1.objs.size=some (seqObj "list" #[] e):=⟨_,get?_update_seq g2 fun _=>#[]⟩
 have g4:((((h1.push (seqObj "list" vs.toArray 0)).update h1.objs.size (Obj.mapSeq fun _=>#[])).push (seqObj "tuple" vs.toArray 0)).push (seqObj "list" #[] 0)).get? h1.objs.size=some (seqObj "list" #[] e1):=Heap.get?_push_of_some _ (Heap.get?_push_of_some _ g3);refine h _ tk h1.objs.size _ out ns' (fun b o q=>?_) z1 (get?_update_seq g4 fun _=>out) a1 a2 a3;have hb:b < h1.objs.size:=Heap.lt_size (k1 b o q);rw [Heap.get?_update_ne _ _ _ _ (Nat.ne_of_lt hb)];refine Heap.get?_push_of_some _ (Heap.get?_push_of_some _ ?_);rw [Heap.get?_update_ne _ _ _ _ (Nat.ne_of_lt hb)];exact Heap.get?_push_of_some _ (k1 b o q)
end
end Srt
namespace L2
open PySem PySem.Spec PyProof.Rows PySem.W
section
variable {X:Cx}
theorem Vi (hc:X.calm=true):yf X (.builtin "sorted") (fun xs H Q=>∃ (p:Addr) (kvs:List (Int × V)),xs=[.ref p]∧H p=some (.dK (kvs.map fun k=>(Sum.inl k.1,k.2)))∧kvs.length < 64∧∀ (l:Addr) (ms:List Int),H l=none->ms.Perm (kvs.map Prod.fst)->ms.Pairwise (·<=·)->Q (.ref l) (upd H l (.lst (ms.map V.int)))):=by
 intro pins s σ H xs us Q I r h;obtain ⟨p,kvs,rfl,hq,h64,q⟩:=h;obtain ⟨u,rfl,rx⟩:=Yu r;cases rx
 obtain ⟨_,hsys,ws,hkv,hd⟩:=(show jM X.prog X.w H s.heap p (.dK (kvs.map fun k=>(Sum.inl k.1,k.2))) from I.hok p _ hq)
 obtain ⟨o,es,ep,d1,d2,d3,d4,d5,d6⟩:=hd
 have hd':s.heap.DictAt (jI X.prog X.w) p ws ep:=⟨o,es,d1,d2,d3,d4,d5,d6⟩
 have hl:ws.length=kvs.length:=by
  have:=Paired.length hkv
  rw [List.length_map] at this;exact this.symm
 have keys:∀ (kvs:List (Int × V)) (ws:List (Key × Value)),KV (kvs.map fun k=>(Sum.inl k.1,k.2)) ws->∀ (j:Nat) (k:Key) (x:Value),ws[j]? = some (k,x)->∃ n,(kvs.map Prod.fst)[j]? = some n∧k=Sum.inl n:=by
  intro kvs
  induction kvs with
  | nil=>intro ws h j k x e; cases h; cases e
  | cons z kvs ih =>
   intro ws h j k x e
   cases h with
   | cons a b =>
    cases j with
    | zero =>
     simp at e
     have:=a.1
     rw [e] at this;exact ⟨z.1,rfl,this.symm⟩
    | succ j=>exact ih _ b j k x (by simpa using e)
 have intsI:∀ (ms:List Int) (vs:List Value),vs.length=ms.length->(∀ (j:Nat) (v:Value),vs[j]? = some v->∃ n t,ms[j]? = some n∧v=Value.int n t)->IntsAre vs ms:=by
  intro ms
  induction ms with
  | nil=>intro vs h _; cases vs with | nil=>exact .nil | cons _ _=>cases h
  | cons m ms ih =>
   intro vs h hp
   cases vs with
   | nil=>cases h
   | cons v vs =>
    obtain ⟨n,t,e1,e2⟩:=hp 0 v rfl;cases e1;subst e2;exact .cons _ _ (ih vs (by simpa using h) fun j v e=>hp (j + 1) v (by simpa using e))
 refine Srt.sorted_src (ns:=kvs.map Prod.fst) (kdl_dict (knd:=jI X.prog X.w) (kvs:=ws) (ep:=ep) hsys) (I.ok.hd hc) hd' (by omega) (fun vs hv hp=>intsI _ _ (by rw [List.length_map]; omega) fun j v e=>?_) fun h' tk a e out ns' k1 z1 g a1 a2 a3=>?_
 ·obtain ⟨k,x,e1,e2⟩:=hp j v e;obtain ⟨n,e3,rfl⟩:=keys kvs ws hkv j k x e1;obtain ⟨t,e4⟩:=Value.isInt_shape (k:=n) (v:=v) e2;exact ⟨n,t,e3,e4⟩
 ·have hl':ns'.length=kvs.length:=by rw [a2.length_eq,List.length_map]
  refine ⟨.ref a,_,I.laid (a:=a) (o:=.lst (ns'.map V.int)) (h':=h') (t':=tk) k1 z1 ?_,rfl,q a ns' (I.hok.fresh z1) a2 a3⟩;refine ⟨by rw [List.length_map,sizeLine_eq]; omega,out.toList,e,vE a1,?_⟩;rw [g]
end
end L2
namespace Sml
open PySem
def jfu:Nat->List (List Nat)
 | 0=>[[]]
 | n + 1=>jfu n ++ (jfu n).map (· ++ [n])
def tb (mask:Nat) (p:List Nat):SetTable:=⟨mask,p.toArray,#[],0,true,0,true⟩
def chk7:Bool:=(jfu 8).all fun p=>decide (4 < p.length) || (List.range 16).all fun n=>match (tb 7 p).freeSlot (n:Int) with
 | some (j,false)=>decide (j < 8) && !p.contains j
 | _=>false
theorem chk7_t:chk7=true:=by decide +kernel
theorem Jf:∀ (n:Nat) (l:List Nat),l.Pairwise (· < ·)->(∀ x ∈ l,x < n)->l ∈ jfu n
 | 0,l,_,h=>by
  cases l with
  | nil=>exact List.mem_singleton.mpr rfl
  | cons a l=>exact absurd (h a List.mem_cons_self) (Nat.not_lt_zero _)
 | n + 1,l,pw,h=>by
  by_cases hn:n ∈ l
  ·-- it stands last
   have key:∀ l:List Nat,l.Pairwise (· < ·)->(∀ x ∈ l,x < n + 1)->n ∈ l->∃ l',l=l' ++ [n]∧l'.Pairwise (· < ·)∧∀ x ∈ l',x < n:=by
    intro l
    induction l with
    | nil=>intro _ _ h; cases h
    | cons a l ih =>
     intro pw h hm;obtain ⟨p1,p2⟩:=List.pairwise_cons.mp pw
     rcases List.mem_cons.mp hm with e | hm
     ·subst e
      cases l with
      | nil=>exact ⟨[],rfl,.nil,fun x hx=>(by cases hx)⟩
      | cons b l =>
       have h1:=p1 b List.mem_cons_self;have h2:=h b (List.mem_cons_of_mem _ List.mem_cons_self);omega
     ·obtain ⟨l',e,q1,q2⟩:=ih p2 (fun x hx=>h x (List.mem_cons_of_mem _ hx)) hm;subst e;have ha:a < n:=p1 n (List.mem_append_right _ (List.mem_singleton.mpr rfl));refine ⟨a :: l',rfl,List.pairwise_cons.mpr ⟨fun x hx=>p1 x (List.mem_append_left _ hx),q1⟩,fun x hx=>?_⟩
      rcases List.mem_cons.mp hx with rfl | hx
      ·exact ha
      ·exact q2 x hx
   obtain ⟨l',e,q1,q2⟩:=key l pw h hn;subst e;exact List.mem_append_right _ (List.mem_map.mpr ⟨l',Jf n l' q1 q2,rfl⟩)
  ·exact List.mem_append_left _ (Jf n l pw fun x hx=>by
    have:=h x hx
    have:x≠n:=fun z=>hn (z ▸ hx)
    omega)
theorem free7 {p:List Nat} (pw:p.Pairwise (· < ·)) (h:∀ x ∈ p,x < 8) (hl:p.length<=4) {n:Nat} (hn:n < 16):∃ j,(tb 7 p).freeSlot (n:Int)=some (j,false)∧j < 8∧j ∉ p:=by
 have h1:=List.all_eq_true.mp chk7_t p (Jf 8 p pw h);rw [decide_eq_false (by omega),Bool.false_or] at h1;have h2:=List.all_eq_true.mp h1 n (List.mem_range.mpr hn);split at h2
 ·rename_i j e;rw [Bool.and_eq_true,decide_eq_true_eq,Bool.not_eq_true',<- Bool.not_eq_true,List.contains_iff_mem] at h2;exact ⟨j,e,h2.1,h2.2⟩
 ·cases h2
theorem XY (xs:Array Nat) (j:Nat) (pw:xs.toList.Pairwise (· < ·)):∀ (fuel lo hi:Nat),hi - lo<=fuel->hi<=xs.size->lo<=hi->(∀ i,i < lo->xs.getD i j < j)->(∀ i,hi<=i->i < xs.size->j<=xs.getD i j) ->
  (∀ i,i < SetTable.below.go xs j fuel lo hi->xs.getD i j < j)∧(∀ i,SetTable.below.go xs j fuel lo hi<=i->i < xs.size->j<=xs.getD i j)∧SetTable.below.go xs j fuel lo hi<=xs.size
 | 0,lo,hi,hf,hs,hl,h1,h2=>by
  have:lo=hi:=by omega
  subst this;unfold SetTable.below.go;exact ⟨h1,h2,hs⟩
 | fuel + 1,lo,hi,hf,hs,hl,h1,h2=>by
  have rise:∀ a b,a < b->b < xs.size->xs.getD a j < xs.getD b j:=fun a b hab hb=>by
   have:=List.pairwise_iff_getElem.mp pw a b (by rw [Array.length_toList]; omega) (by rw [Array.length_toList]; exact hb) hab
   rw [Array.getElem_toList,Array.getElem_toList] at this;rw [Array.getD_eq_getD_getElem?,Array.getD_eq_getD_getElem?,Array.getElem?_eq_getElem (by omega),Array.getElem?_eq_getElem hb];exact this
  unfold SetTable.below.go
  by_cases hlt:lo < hi
  ·rw [if_pos hlt];dsimp only
   by_cases hm:xs.getD ((lo + hi) / 2) j < j
   ·rw [if_pos hm];refine XY xs j pw fuel _ hi (by omega) hs (by omega) (fun i hi'=>?_) h2
    by_cases he:i=(lo + hi) / 2
    ·rw [he]; exact hm
    ·exact Nat.lt_trans (rise i ((lo + hi) / 2) (by omega) (by omega)) hm
   ·rw [if_neg hm];refine XY xs j pw fuel lo _ (by omega) (by omega) (by omega) h1 fun i hi' hs'=>?_
    by_cases he:i=(lo + hi) / 2
    ·rw [he]; omega
    ·exact Nat.le_of_lt (Nat.lt_of_le_of_lt (by omega) (rise ((lo + hi) / 2) i (by omega) hs'))
  ·rw [if_neg hlt]
   have:lo=hi:=by omega
   subst this;exact ⟨h1,h2,hs⟩
theorem vD {p:List Nat} (pw:p.Pairwise (· < ·)) (j:Nat):SetTable.below p.toArray j<=p.length∧(∀ x ∈ p.take (SetTable.below p.toArray j),x < j)∧(∀ x ∈ p.drop (SetTable.below p.toArray j),j<=x):=by
 obtain ⟨h1,h2,h3⟩:=XY p.toArray j pw p.toArray.size 0 p.toArray.size (by omega) (Nat.le_refl _) (Nat.zero_le _) (fun i hi=>absurd hi (Nat.not_lt_zero _)) (fun i a b=>by omega);have hs:p.toArray.size=p.length:=List.size_toArray;unfold SetTable.below;generalize SetTable.below.go p.toArray j p.toArray.size 0 p.toArray.size=b at h1 h2 h3 ⊢;refine ⟨by omega,fun x hx=>?_,fun x hx=>?_⟩
 ·obtain ⟨i,hi,e⟩:=List.getElem_of_mem hx;rw [List.length_take] at hi;rw [List.getElem_take] at e
  have:=h1 i (by omega)
  rw [Array.getD_eq_getD_getElem?,List.getElem?_toArray,List.getElem?_eq_getElem (by omega)] at this;rw [<- e];exact this
 ·obtain ⟨i,hi,e⟩:=List.getElem_of_mem hx;rw [List.length_drop] at hi;rw [List.getElem_drop] at e
  have:=h2 (b + i) (by omega) (by omega)
  rw [Array.getD_eq_getD_getElem?,List.getElem?_toArray,List.getElem?_eq_getElem (by omega)] at this;rw [<- e];exact this
theorem jek {p:List Nat} (pw:p.Pairwise (· < ·)) {j:Nat} (hj:j ∉ p):(p.take (SetTable.below p.toArray j) ++ j :: p.drop (SetTable.below p.toArray j)).Pairwise (· < ·):=by
 obtain ⟨_,h1,h2⟩:=vD pw j;generalize SetTable.below p.toArray j=b at h1 h2;have e:p.take b ++ p.drop b=p:=List.take_append_drop b p;have pw':=pw;rw [<- e] at pw';obtain ⟨q1,q2,q3⟩:=List.pairwise_append.mp pw';refine List.pairwise_append.mpr ⟨q1,List.pairwise_cons.mpr ⟨fun x hx=>?_,q2⟩,fun a ha x hx=>?_⟩
 ·have:=h2 x hx
  have:x≠j:=fun z=>hj (z ▸ List.mem_of_mem_drop hx)
  omega
 ·rcases List.mem_cons.mp hx with rfl | hx
  ·exact h1 a ha
  ·exact q3 a ha x hx
end Sml
namespace Sml
open PySem
theorem XZ {t u:SetTable} (hs:∀ j,t.slot j=u.slot j) (ha:∀ p,t.advance p=u.advance p) (f:Nat->Int) (h:Int):∀ (fuel:Nat) (p:SetTable.Probe),SetTable.probe.go t f h fuel p=SetTable.probe.go u f h fuel p
 | 0,p=>rfl
 | fuel + 1,p=>by
  unfold SetTable.probe.go;rw [hs,ha,XZ hs ha f h fuel,ha p,XZ hs ha f h fuel]
theorem jcm {t:SetTable} {p:List Nat} (hp:t.place=p.toArray) (hd:t.dummies = #[]) (h:Int):t.freeSlot h=(tb t.mask p).freeSlot h:=by
 obtain ⟨mask,place,dummies,finger,led,moves,plain⟩:=t;have hp:place=p.toArray:=hp;have hd:dummies = #[]:=hd;subst hp hd;unfold SetTable.freeSlot SetTable.probe;rw [XZ (t:=⟨mask,p.toArray,#[],finger,led,moves,plain⟩) (u:=tb mask p) (fun _=>rfl) (fun _=>rfl)];rfl
theorem jeU {n:Nat} (h:n < 16):SetTable.bits (n:Int)=n:=by
 have:((List.range 16).all fun n=>decide (SetTable.bits (n:Int)=n))=true:=by decide +kernel
 exact of_decide_eq_true (List.all_eq_true.mp this n (List.mem_range.mpr h))
theorem free31 {p:List Nat} {n:Nat} (hn:n < 16) (hm:n ∉ p):(tb 31 p).freeSlot (n:Int)=some (n,false):=by
 have hs:(tb 31 p).slot n = .empty:=by
  unfold SetTable.slot
  have:(tb 31 p).place[SetTable.below (tb 31 p).place n]?≠some n:=fun z=>by
   have:p.toArray[SetTable.below p.toArray n]? = some n:=z
   rw [List.getElem?_toArray] at this;exact hm (List.mem_of_getElem? this)
  dsimp only;rw [if_neg (by rw [beq_iff_eq]; exact this)];rfl
 unfold SetTable.freeSlot SetTable.probe
 have hj:((tb 31 p).probeStart (n:Int)).j=n:=by
  show SetTable.bits (n:Int) % 32=n;rw [jeU hn];omega
 have hd:((tb 31 p).probeStart (n:Int)).dummy=none:=rfl
 show (match SetTable.probe.go (tb 31 p) _ _ (459 + 1) ((tb 31 p).probeStart (n:Int)) with
  | some (.empty j dummy)=>some (dummy.getD j,dummy.isSome)
  | _=>none)=_
 unfold SetTable.probe.go;rw [hj,hs,hd];rfl
theorem vI:∀ (l:List Nat) (lo n:Nat),l.Pairwise (· < ·)->(∀ x ∈ l,lo<=x∧x < n)->l.length<=n - lo
 | [],_,_,_,_=>Nat.zero_le _
 | a :: l,lo,n,pw,h=>by
  obtain ⟨p1,p2⟩:=List.pairwise_cons.mp pw
  have:=vI l (a + 1) n p2 fun x hx=>⟨p1 x hx,(h x (List.mem_cons_of_mem _ hx)).2⟩
  have:=h a List.mem_cons_self
  rw [List.length_cons];omega
structure Sm (es:Array (Int × Value)) (t:SetTable) (p:List Nat):Prop where
 pl:t.place=p.toArray
 du:t.dummies = #[]
 pn:t.plain=true
 pw:p.Pairwise (· < ·)
 sz:p.length=es.size
 el:∀ e ∈ es.toList,∃ (n:Nat) (k:Tok),n < 16∧e=((n:Int),Value.int n k)
 nd:(es.toList.map (·.1)).Nodup
 mx:(t.mask=7∧p.length<=4∧∀ x ∈ p,x < 8)∨(t.mask=31∧es.toList.map (·.1)=p.map fun x:Nat=>(x:Int))
theorem put_eq {t:SetTable} {p:List Nat} (hp:t.place=p.toArray) (hd:t.dummies = #[]) (j:Nat):t.put j=({ t with place:=(p.take (SetTable.below p.toArray j) ++ j :: p.drop (SetTable.below p.toArray j)).toArray,dummies:=#[] },SetTable.below p.toArray j):=by
 unfold SetTable.put
 have hh:SetTable.has t.dummies j=false:=by rw [hd]; rfl
 rw [hh,hp];dsimp only
 have:SetTable.insertAt p.toArray (SetTable.below p.toArray j) j=(p.take (SetTable.below p.toArray j) ++ j :: p.drop (SetTable.below p.toArray j)).toArray:=by
  apply Array.toList_inj.mp;rw [SetTable.toList_insertAt]
 rw [this,hd];rfl
theorem Va {t:SetTable} {p:List Nat} (hp:t.place=p.toArray) (hd:t.dummies = #[]) {n:Nat} (h1:p.length=n) (h2:p.length<=t.mask):t.fits n=true:=by
 unfold SetTable.fits SetTable.fill;rw [hp,hd];simp [h1];omega
theorem lay_sm {es:Array (Int × Value)} {t:SetTable} {p:List Nat} (S:Sm es t p) {n:Nat} {k:Tok} (hn:n < 16) (hm:(n:Int) ∉ es.toList.map (·.1)) :
  ∃ (es':Array (Int × Value)) (t':SetTable) (p':List Nat),layNew t es (n:Int) (.int n k)=(es',t',false,false)∧t'.led=t.led∧t'.moves=t.moves∧t'.plain=true∧t'.place=p'.toArray∧t'.dummies = #[]∧p'.Pairwise (· < ·)∧p'.length=es'.size∧es'.size=es.size + 1 ∧
   ((t'.mask=7∧p'.length<=5∧(∀ x ∈ p',x < 8))∨(t'.mask=31∧es'.toList.map (·.1)=p'.map (fun x:Nat=>(x:Int))∧p'.length<=16)):=by
 obtain ⟨j,hj,hjp,hjm⟩:∃ j,t.freeSlot (n:Int)=some (j,false)∧j ∉ p∧((t.mask=7∧p.length<=4∧(∀ x ∈ p,x < 8)∧j < 8)∨(t.mask=31∧es.toList.map (·.1)=p.map (fun x:Nat=>(x:Int))∧j=n)):=by
  rw [jcm S.pl S.du]
  rcases S.mx with ⟨h1,h2,h3⟩ | ⟨h1,h2⟩
  ·rw [h1];obtain ⟨j,a,b,c⟩:=free7 S.pw h3 h2 hn;exact ⟨j,a,c,.inl ⟨rfl,h2,h3,b⟩⟩
  ·rw [h1];have hnp:n ∉ p:=fun z=>hm (by rw [h2]; exact List.mem_map.mpr ⟨n,z,rfl⟩);exact ⟨n,free31 hn hnp,hnp,.inr ⟨rfl,h2,rfl⟩⟩
 obtain ⟨b,hb⟩:∃ b,b=SetTable.below p.toArray j:=⟨_,rfl⟩
 obtain ⟨p',hp'⟩:∃ p',p'=p.take b ++ j :: p.drop b:=⟨_,rfl⟩
 have pw':p'.Pairwise (· < ·):=by rw [hp',hb]; exact jek S.pw hjp
 have hlen:p'.length=p.length + 1:=by
  rw [hp',List.length_append,List.length_cons]
  have:=congrArg List.length (List.take_append_drop b p)
  rw [List.length_append] at this;omega
 have hes:(SetTable.insertAt es b ((n:Int),Value.int n k)).size=es.size + 1:=by
  rw [<- Array.length_toList,(SetTable.insertAt_perm es b _).length_eq,Array.toList_push,List.length_append,Array.length_toList];rfl
 have hput:=put_eq S.pl S.du j;rw [<- hb,<- hp'] at hput
 obtain ⟨t',ht'⟩:∃ t':SetTable,t'={ t with place:=p'.toArray,dummies:=#[] }:=⟨_,rfl⟩
 rw [<- ht'] at hput
 have e1:t'.place=p'.toArray:=by rw [ht']
 have e2:t'.dummies = #[]:=by rw [ht']
 have e3:t'.mask=t.mask:=by rw [ht']
 have mem':∀ x,x ∈ p'->x ∈ p∨x=j:=fun x hx=>by
  rw [hp'] at hx
  rcases List.mem_append.mp hx with hx | hx
  ·exact .inl (List.mem_of_mem_take hx)
  ·rcases List.mem_cons.mp hx with hx | hx
   ·exact .inr hx
   ·exact .inl (List.mem_of_mem_drop hx)
 have main:((t'.mask=7∧p'.length<=5∧(∀ x ∈ p',x < 8))∨(t'.mask=31∧(SetTable.insertAt es b ((n:Int),Value.int n k)).toList.map (·.1)=p'.map (fun x:Nat=>(x:Int))∧p'.length<=16)):=by
  rcases hjm with ⟨h1,h2,h3,h4⟩ | ⟨h1,h2,h3⟩
  ·refine .inl ⟨by rw [e3,h1],by omega,fun x hx=>?_⟩
   rcases mem' x hx with hx | rfl
   ·exact h3 x hx
   ·exact h4
  ·refine .inr ⟨by rw [e3,h1],?_,?_⟩
   ·rw [SetTable.toList_insertAt,hp',List.map_append,List.map_append,List.map_cons,List.map_cons,List.map_take,List.map_drop,h2,List.map_take,List.map_drop,h3]
   ·have:=vI p' 0 16 pw' fun x hx=>⟨Nat.zero_le _,?_⟩
    ·omega
    rcases mem' x hx with hx | rfl
    ·have:((x:Nat):Int) ∈ es.toList.map (·.1):=by rw [h2]; exact List.mem_map.mpr ⟨x,hx,rfl⟩
     obtain ⟨e,he,ee⟩:=List.mem_map.mp this;obtain ⟨m,_,hm',rfl⟩:=S.el e he;have ee:(m:Int)=(x:Int):=ee;omega
    ·omega
 have fit:t'.fits (es.size + 1)=true:=Va e1 e2 (by rw [hlen,S.sz]) (by
  rcases main with ⟨h1,h2,_⟩ | ⟨h1,_,h2⟩
  ·rw [h1]; omega
  ·rw [h1]; omega)
 refine ⟨SetTable.insertAt es b ((n:Int),.int n k),t',p',?_,by rw [ht'],by rw [ht'],by rw [ht']; exact S.pn,e1,e2,pw',by rw [hes,hlen,S.sz],hes,main⟩;unfold layNew;rw [hj];dsimp only;rw [hput];dsimp only;rw [hes,fit];unfold SetTable.orStandIn;rw [if_pos fit];rfl
end Sml
namespace Sml
open PySem
def idx (hs:List Int) (j:Nat):Option Nat:=hs.findIdx? fun h=>decide (h=(j:Int))
theorem jel (hs:List Int) (n j:Nat):idx (hs ++ [(n:Int)]) j=(match idx hs j with
  | some k=>some k
  | none=>if j=n then some hs.length else none):=by
 unfold idx;rw [List.findIdx?_append]
 cases hs.findIdx? fun h=>decide (h=(j:Int)) with
 | some k=>rfl
 | none =>
  rw [List.findIdx?_cons]
  by_cases h:j=n
  ·subst h;simp
  ·have h':¬ ((n:Int)=(j:Int)):=fun z=>h (by omega);simp [h,h']
theorem VP {hs:List Int} {n:Nat} (h:(n:Int) ∉ hs):idx hs n=none:=by
 unfold idx;rw [List.findIdx?_eq_none_iff];intro x hx;rw [decide_eq_false];exact fun z=>h (z ▸ hx)
theorem xm {hs:List Int} {j k:Nat} (h:idx hs j=some k):hs[k]? = some (j:Int):=by
 unfold idx at h;obtain ⟨hk,h1,_⟩:=List.findIdx?_eq_some_iff_getElem.mp h;rw [List.getElem?_eq_getElem hk,of_decide_eq_true h1]
theorem jem {hs:List Int} (nd:hs.Nodup) {j k:Nat} (h:hs[k]? = some (j:Int)):idx hs j=some k:=by
 obtain ⟨hk,e⟩:=List.getElem?_eq_some_iff.mp h;unfold idx;refine List.findIdx?_eq_some_iff_getElem.mpr ⟨hk,decide_eq_true e,fun i hi=>?_⟩
 have:=List.pairwise_iff_getElem.mp nd i k (by omega) hk hi
 rw [e] at this;simpa using this
def jav (acc:Option (Array (Option Nat) × Nat)) (h:Int):Option (Array (Option Nat) × Nat):=do
 let (owner,k) <- acc
 let j <- SetTable.layClean.free 31 owner (SetTable.turns 31) (SetTable.bits h % (31 + 1)) (SetTable.bits h)
 pure (owner.setIfInBounds j (some k),k + 1)
theorem VN:∀ (hs pre:List Int) (owner:Array (Option Nat)),owner.size=32->(∀ j,j < 32->owner[j]? = some (idx pre j))->(∀ h ∈ hs,∃ n:Nat,n < 16∧h=n)->(pre ++ hs).Nodup ->
  ∃ owner',hs.foldl jav (some (owner,pre.length))=some (owner',(pre ++ hs).length)∧owner'.size=32∧∀ j,j < 32->owner'[j]? = some (idx (pre ++ hs) j)
 | [],pre,owner,h1,h2,_,_=>⟨owner,by rw [List.append_nil]; rfl,h1,by rw [List.append_nil]; exact h2⟩
 | h :: hs,pre,owner,h1,h2,h3,nd=>by
  obtain ⟨n,hn,rfl⟩:=h3 h List.mem_cons_self
  have hnp:(n:Int) ∉ pre:=fun z=>by
   have:=(List.nodup_append.mp nd).2.2 _ z _ List.mem_cons_self
   exact this rfl
  have hfree:SetTable.layClean.free 31 owner (SetTable.turns 31) (SetTable.bits (n:Int) % (31 + 1)) (SetTable.bits (n:Int))=some n:=by
   rw [jeU hn,show n % (31 + 1)=n by omega];show SetTable.layClean.free 31 owner (45 + 1) n n=_;unfold SetTable.layClean.free
   have hr:SetTable.runEnd 31 n + 1 - n=9 + 1:=by
    unfold SetTable.runEnd;rw [if_pos (by omega)];omega
   rw [hr,List.range_succ_eq_map,List.find?_cons]
   have:(owner.getD (n + 0) (some 0)).isNone=true:=by
    rw [Array.getD_eq_getD_getElem?,h2 (n + 0) (by omega),show n + 0=n from rfl,VP hnp];rfl
   rw [this];rfl
  have hstep:jav (some (owner,pre.length)) (n:Int)=some (owner.setIfInBounds n (some pre.length),pre.length + 1):=by
   unfold jav;show (SetTable.layClean.free 31 owner (SetTable.turns 31) (SetTable.bits (n:Int) % (31 + 1)) (SetTable.bits (n:Int))).bind _=_;rw [hfree];rfl
  have e:pre ++ (n:Int) :: hs=(pre ++ [(n:Int)]) ++ hs:=by simp
  obtain ⟨owner',g1,g2,g3⟩:=VN hs (pre ++ [(n:Int)]) (owner.setIfInBounds n (some pre.length)) (by rw [Array.size_setIfInBounds]; exact h1) (fun j hj=>by
   rw [jel]
   by_cases hjn:j=n
   ·subst hjn;rw [VP hnp,if_pos rfl,Array.getElem?_setIfInBounds_self_of_lt (by omega)]
   ·rw [Array.getElem?_setIfInBounds_ne (Ne.symm hjn),h2 j hj]
    cases idx pre j with
    | some k=>rfl
    | none=>rw [if_neg hjn]) (fun x hx=>h3 x (List.mem_cons_of_mem _ hx)) (by rw [<- e]; exact nd)
  refine ⟨owner',?_,g2,by rw [e]; exact g3⟩;rw [List.foldl_cons,hstep,e];rw [List.length_append] at g1;exact g1
theorem Uh {hs:Array Int} (h3:∀ h ∈ hs.toList,∃ n:Nat,n < 16∧h=n) (nd:hs.toList.Nodup):∃ owner,SetTable.layClean 31 hs=some owner∧∀ j,j < 32->owner[j]? = some (idx hs.toList j):=by
 obtain ⟨owner,g1,g2,g3⟩:=VN hs.toList [] (Array.replicate 32 none) (by simp) (fun j hj=>by
  rw [Array.getElem?_replicate,if_pos hj]
  rfl) h3 (by simpa using nd)
 refine ⟨owner,?_,by simpa using g3⟩;unfold SetTable.layClean;rw [<- Array.foldl_toList];show (hs.toList.foldl jav (some (Array.replicate 32 none,0))).map (·.1)=_;rw [show (some (Array.replicate 32 (none:Option Nat),0))=some (Array.replicate 32 none,([]:List Int).length) from rfl,g1];rfl
theorem VW {α β:Type} {f g:α->Option β}:∀ {l:List α},(∀ x ∈ l,f x=g x)->l.filterMap f=l.filterMap g
 | [],_=>rfl
 | a :: l,h=>by
  rw [List.filterMap_cons,List.filterMap_cons,h a List.mem_cons_self,VW fun x hx=>h x (List.mem_cons_of_mem _ hx)]
def xl (hs:List Int):List (Nat × Nat):=(List.range 32).filterMap fun j=>(idx hs j).map (j,·)
theorem yM {hs:List Int} {x:Nat × Nat}:x ∈ xl hs↔x.1 < 32∧idx hs x.1=some x.2:=by
 unfold xl;rw [List.mem_filterMap];constructor
 ·rintro ⟨j,hj,e⟩;obtain ⟨k,hk,rfl⟩:=Option.map_eq_some_iff.mp e;exact ⟨List.mem_range.mp hj,hk⟩
 ·rintro ⟨h1,h2⟩;exact ⟨x.1,List.mem_range.mpr h1,by rw [h2]; rfl⟩
theorem um (hs:List Int):(xl hs).Pairwise (fun a b=>a.1 < b.1):=by
 unfold xl;refine List.Pairwise.filterMap _ (fun a a' h b hb b' hb'=>?_) List.pairwise_lt_range;obtain ⟨_,_,rfl⟩:=Option.map_eq_some_iff.mp hb;obtain ⟨_,_,rfl⟩:=Option.map_eq_some_iff.mp hb';exact h
theorem jdh {es:Array (Int × Value)} {t:SetTable} (el:∀ e ∈ es.toList,∃ (n:Nat) (k:Tok),n < 16∧e=((n:Int),Value.int n k)) (nd:(es.toList.map (·.1)).Nodup) (pn:t.plain=true) :
  ∃ (es':Array (Int × Value)) (t':SetTable) (p':List Nat),relayAll t es 20=(es',t',false)∧t'.led=t.led∧Sm es' t' p':=by
 obtain ⟨hs,hhs⟩:∃ hs,hs=es.toList.map (·.1):=⟨_,rfl⟩
 have hmap:(es.map (·.1)).toList=hs:=by rw [Array.toList_map,hhs]
 have small:∀ h ∈ hs,∃ n:Nat,n < 16∧h=n:=fun h hh=>by
  rw [hhs] at hh;obtain ⟨e,he,rfl⟩:=List.mem_map.mp hh;obtain ⟨n,_,hn,rfl⟩:=el e he;exact ⟨n,hn,rfl⟩
 rw [<- hhs] at nd;obtain ⟨owner,c1,c2⟩:=Uh (hs:=es.map (·.1)) (by rw [hmap]; exact small) (by rw [hmap]; exact nd);rw [hmap] at c2
 have hlive:((List.range (31 + 1)).filterMap fun j=>(owner.getD j none).map (j,·))=xl hs:=by
  unfold xl;refine VW fun j hj=>?_;rw [Array.getD_eq_getD_getElem?,c2 j (List.mem_range.mp hj)];rfl
 obtain ⟨p',hp'⟩:∃ p',p'=(xl hs).map (·.1):=⟨_,rfl⟩
 obtain ⟨order,hord⟩:∃ o,o=(xl hs).map (·.2):=⟨_,rfl⟩
 obtain ⟨t',ht'⟩:∃ t':SetTable,t'=⟨31,p'.toArray,#[],t.finger,t.led,t.movedTo 31,t.plain⟩:=⟨_,rfl⟩
 have hrel:t.relaid (es.map (·.1)) 20=some (t',order.toArray):=by
  unfold SetTable.relaid;rw [show SetTable.sizeAbove 20 - 1=31 by decide];unfold SetTable.laid;rw [c1];show some ((⟨31,(((List.range (31 + 1)).filterMap fun j=>(owner.getD j none).map (j,·)).map (·.1)).toArray,#[],t.finger,t.led,t.movedTo 31,t.plain⟩:SetTable),(((List.range (31 + 1)).filterMap fun j=>(owner.getD j none).map (j,·)).map (·.2)).toArray)=_;rw [hlive,ht',hp',hord]
 have hlen:hs.length=es.size:=by rw [hhs,List.length_map,Array.length_toList]
 have nd2:order.Nodup:=by
  rw [hord];refine List.pairwise_map.mpr (List.Pairwise.imp_of_mem (fun {a b} ha hb h z=>?_) (um hs));have h1:=xm (yM.mp ha).2;have h2:=xm (yM.mp hb).2;rw [z,h2] at h1
  have:=Option.some.inj h1
  omega
 have perm:order.Perm (List.range es.size):=by
  refine (List.perm_ext_iff_of_nodup nd2 List.nodup_range).mpr fun k=>?_;rw [hord,List.mem_map,List.mem_range];constructor
  ·rintro ⟨x,hx,rfl⟩
   have:=(List.getElem?_eq_some_iff.mp (xm (yM.mp hx).2)).1
   omega
  ·intro hk
   have hk:k < hs.length:=by omega
   obtain ⟨n,hn,e⟩:=small hs[k] (List.getElem_mem hk);exact ⟨(n,k),yM.mpr ⟨by show n < 32; omega,jem nd (by rw [List.getElem?_eq_getElem hk,e])⟩,rfl⟩
 obtain ⟨es',hes'⟩:∃ es':Array (Int × Value),es'=order.toArray.filterMap (es[·]?):=⟨_,rfl⟩
 have hperm:es'.toList.Perm es.toList:=by
  rw [hes',Array.toList_filterMap];exact (perm.filterMap _).trans (by rw [filterMap_getElem?_range])
 have hsz:es'.size=es.size:=by rw [<- Array.length_toList,hperm.length_eq,Array.length_toList]
 have hp5:p'.length=es.size:=by
  have:=perm.length_eq
  rw [hord,List.length_map,List.length_range] at this;rw [hp',List.length_map,this]
 have pw:p'.Pairwise (· < ·):=by
  rw [hp'];exact List.pairwise_map.mpr (um hs)
 have ple:p'.length<=16:=by
  have:=vI p' 0 16 pw fun x hx=>⟨Nat.zero_le _,by
   rw [hp'] at hx;obtain ⟨y,hy,rfl⟩:=List.mem_map.mp hx;have h1:=List.mem_of_getElem? (xm (yM.mp hy).2);obtain ⟨n,hn,e⟩:=small _ h1
   omega⟩
  omega
 have fit:t'.fits es'.size=true:=Va (p:=p') (by rw [ht']) (by rw [ht']) (by rw [hsz,hp5]) (by rw [ht']; show p'.length<=31; omega)
 have hkeys:es'.toList.map (·.1)=p'.map fun x:Nat=>(x:Int):=by
  rw [hes',Array.toList_filterMap,hord,hp']
  have key:∀ l:List (Nat × Nat),(∀ x ∈ l,x ∈ xl hs)->((l.map (·.2)).filterMap (es[·]?)).map (·.1)=(l.map (·.1)).map fun x:Nat=>(x:Int):=by
   intro l
   induction l with
   | nil=>intro _; rfl
   | cons x l ih =>
    intro h;have h1:=xm (yM.mp (h x List.mem_cons_self)).2;rw [hhs,List.getElem?_map] at h1;obtain ⟨e,he,h2⟩:=Option.map_eq_some_iff.mp h1;rw [Array.getElem?_toList] at he;rw [List.map_cons,List.map_cons,List.map_cons,List.filterMap_cons_some (b:=e) he,List.map_cons,ih fun y hy=>h y (List.mem_cons_of_mem _ hy),h2]
  exact key (xl hs) fun x hx=>hx
 refine ⟨es',t',p',?_,by rw [ht'],⟨by rw [ht'],by rw [ht'],by rw [ht']; exact pn,pw,by rw [hp5,hsz],fun e he=>el e (hperm.mem_iff.mp he),?_,.inr ⟨by rw [ht'],hkeys⟩⟩⟩
 ·unfold relayAll;rw [hrel];dsimp only;rw [<- hes',fit]
  have:coversAll order.toArray es.size=true:=by
   unfold coversAll;exact List.isPerm_iff.mpr perm
  rw [this];rfl
 ·rw [hkeys];exact List.pairwise_map.mpr (pw.imp fun h z=>by omega)
end Sml
namespace Sml
open PySem PySem.Spec PyProof.Rows
section
variable {prog:Program} {w:World} {A:Around} {E:Value->Shared->Prop} {s:Shared}
theorem jcR {α:Type} [DecidableEq α]:∀ (l m:List α),l.Nodup->(∀ x ∈ l,x ∈ m)->l.length<=m.length
 | [],_,_,_=>Nat.zero_le _
 | a :: l,m,hn,h=>by
  obtain ⟨h1,h2⟩:=List.nodup_cons.mp hn;have ha:=h a List.mem_cons_self
  have:=jcR l (m.erase a) h2 fun x hx=>(List.mem_erase_of_ne (fun z:x=a=>h1 (by rw [<- z]; exact hx))).mpr (h x (List.mem_cons_of_mem _ hx))
  rw [List.length_erase_of_mem ha] at this
  have:m.length≠0:=fun z=>by rw [List.eq_nil_of_length_eq_zero z] at ha; cases ha
  rw [List.length_cons];omega
def SetS (h:Heap) (a:Addr) (es:Array (Int × Value)) (L:Bool):Prop:=∃ o ep t p,h.get? a=some o∧o.ExactSet∧o.data = .set es ep t∧Sm es t p∧t.led=L
theorem Sm.small {es:Array (Int × Value)} {t:SetTable} {p:List Nat} (S:Sm es t p):es.size<=16:=by
 have key:∀ hs:List Int,hs.Nodup->(∀ h ∈ hs,∃ n:Nat,n < 16∧h=n)->hs.length<=16:=fun hs nd h=>by
  obtain ⟨owner,_,c2⟩:=Uh (hs:=hs.toArray) (by simpa using h) (by simpa using nd)
  have h1:∀ x ∈ (xl hs).map (·.1),x < 16:=fun x hx=>by
   obtain ⟨y,hy,rfl⟩:=List.mem_map.mp hx;obtain ⟨n,hn,e⟩:=h _ (List.mem_of_getElem? (xm (yM.mp hy).2));omega
  have h2:=vI ((xl hs).map (·.1)) 0 16 (List.pairwise_map.mpr (um hs)) fun x hx=>⟨Nat.zero_le _,h1 x hx⟩
  have h4:=jcR (List.range hs.length) ((xl hs).map (·.2)) List.nodup_range fun k hk=>by
   have hk:=List.mem_range.mp hk;obtain ⟨n,hn,e⟩:=h hs[k] (List.getElem_mem hk);exact List.mem_map.mpr ⟨(n,k),yM.mpr ⟨by show n < 32; omega,jem nd (by rw [List.getElem?_eq_getElem hk,e])⟩,rfl⟩
  rw [List.length_range,List.length_map] at h4;rw [List.length_map] at h2;omega
 have:=key (es.toList.map (·.1)) S.nd fun h hh=>by
  obtain ⟨e,he,rfl⟩:=List.mem_map.mp hh;obtain ⟨n,_,hn,rfl⟩:=S.el e he;exact ⟨n,hn,rfl⟩
 rw [List.length_map,Array.length_toList] at this;exact this
theorem Sm.fit {es:Array (Int × Value)} {t:SetTable} {p:List Nat} (S:Sm es t p):t.fits es.size=true:=Va S.pl S.du S.sz (by
 have:=S.small
 have:=S.sz
 rcases S.mx with ⟨h1,h2,_⟩ | ⟨h1,_⟩
 ·rw [h1]; omega
 ·rw [h1]; omega)
theorem jep {n:Nat} (h:n < 16):(intKind prog w).hash (n:Int)=(n:Int):=by
 have:((List.range 16).all fun n=>decide (hashInt (n:Int)=(n:Int)))=true:=by decide +kernel
 exact of_decide_eq_true (List.all_eq_true.mp this n (List.mem_range.mpr h))
theorem Sm.elems {es:Array (Int × Value)} {t:SetTable} {p:List Nat} (S:Sm es t p):ElemsOf (intKind prog w) es.toList:=fun e he=>by
 obtain ⟨n,k,hn,rfl⟩:=S.el e he;exact ⟨⟨(n:Int),intKind_is _ _ _ _,(jep hn).symm⟩,rfl⟩
theorem jcz {a:Addr} {es:Array (Int × Value)} {L:Bool} {n:Nat} {k:Tok} {Q:Bool->Shared->Prop} (S:SetS s.heap a es L) (hn:n < 16) (hQ1:(n:Int) ∈ es.toList.map (·.1)->Q false s)
  (hQ2:(n:Int) ∉ es.toList.map (·.1)->∀ h' es',Heap.SameBut a s.heap h'->SetS h' a es' L->(es'.toList.map (·.1)).Perm (es.toList.map (·.1) ++ [(n:Int)])->Q true { s with heap:=h' }) :
  wpAny (model prog w) A (setAddHashed a (.int n k) ((intKind prog w).hash (n:Int))) Q E s:=by
 obtain ⟨o,ep,t,p,ho,hex,hd,S,hL⟩:=S;have hel:=S.elems (prog:=prog) (w:=w);have hf:=S.fit
 have hb:es.size < scanBound:=by have:=S.small; unfold scanBound; omega
 have hkey:(intKind prog w).is (n:Int) (.int n k)=true:=intKind_is _ _ _ _;unfold setAddHashed setAddHashedIn;refine wpAny_holding (wpAny_bind (wpAny_setState_of ho hd hf ?_));dsimp only;rw [byScan_of (knd:=intKind prog w) rfl hb hel];simp only [↓reduceIte];unfold setAddByScan;refine wpAny_bind (wpAny_bind (wpAny_rule (wpAny_bind (wpAny_setScan_of hkey ho hd hf hel ?_))))
 cases hr:List.findIdx? (fun e=>(intKind prog w).is (n:Int) e.2) es.toList with
 | some j =>
  dsimp only;obtain ⟨hj,hpj,_⟩:=List.findIdx?_eq_some_iff_getElem.mp hr;refine wpAny_pure (wpAny_pure (hQ1 ?_));obtain ⟨m,k',hm,e⟩:=S.el es.toList[j] (List.getElem_mem hj);rw [e] at hpj
  have:(n:Int)=(m:Int):=(intKind prog w).inj (.int m k') _ _ hpj (intKind_is _ _ _ _)
  exact List.mem_map.mpr ⟨es.toList[j],List.getElem_mem hj,by rw [e,this]⟩
 | none =>
  dsimp only
  have hm:(n:Int) ∉ es.toList.map (·.1):=fun z=>by
   obtain ⟨e,he,ee⟩:=List.mem_map.mp z
   have:=List.findIdx?_eq_none_iff.mp hr e he
   obtain ⟨m,k',hm,rfl⟩:=S.el e he;have ee:(m:Int)=(n:Int):=ee;rw [ee,intKind_is] at this;cases this
  rw [jep hn];obtain ⟨es1,t1,p1,hlay,l1,_,pn1,pl1,du1,pw1,sz1,es1s,mx1⟩:=lay_sm S (k:=k) hn hm;have perm1:=layNew_perm t es (n:Int) (.int n k);rw [hlay] at perm1 ⊢;dsimp only at perm1 ⊢;rw [Array.toList_push] at perm1
  have el1:∀ e ∈ es1.toList,∃ (n:Nat) (k:Tok),n < 16∧e=((n:Int),Value.int n k):=fun e he=>by
   rcases List.mem_append.mp (perm1.mem_iff.mp he) with he | he
   ·exact S.el e he
   ·rw [List.mem_singleton.mp he];exact ⟨n,k,hn,rfl⟩
  have keys1:(es1.toList.map (·.1)).Perm (es.toList.map (·.1) ++ [(n:Int)]):=by
   have:=perm1.map (·.1)
   rw [List.map_append] at this;exact this
  have nd1:(es1.toList.map (·.1)).Nodup:=keys1.nodup_iff.mpr (List.nodup_append.mpr ⟨S.nd,List.nodup_cons.mpr ⟨fun z=>(by cases z),.nil⟩,fun x hx y hy e=>hm (by rw [List.mem_singleton.mp hy] at e; exact e ▸ hx)⟩);refine wpAny_bind (wpAny_pure ?_);rw [pn1];simp only [↓reduceIte];refine wpAny_bind ?_;rw [hashByValue_scannable 8 (x:=.int n k) rfl];refine wpAny_pure ?_;simp only [plainKind,↓reduceIte];have z16:es.size<=16:=S.small;refine wpAny_bind (wpAny_storeSet_of ho hd ?_ (by rw [es1s,sizeLine_eq]; omega))
  have g1:(s.heap.update a (Obj.putSet es1 t1)).get? a=some { o with data:=.set es1 (ep + 1) t1 }:=by
   have:=Heap.get?_update_self (Obj.putSet es1 t1) ho (by rw [putSet_of es1 t1 hd]; rfl)
   rw [putSet_of es1 t1 hd] at this;exact this
  have hsb1:=Heap.SameBut.update s.heap a (Obj.putSet es1 t1)
  by_cases hfull:t1.tooFull=true
  ·have h5:t1.mask=7∧es1.size=5:=by
    unfold SetTable.tooFull SetTable.fill at hfull;rw [pl1,du1] at hfull;simp only [List.size_toArray,List.length_nil,Array.size_empty,Nat.add_zero,decide_eq_true_eq] at hfull
    rcases mx1 with ⟨h1,h2,_⟩ | ⟨h1,_,h2⟩
    ·rw [h1] at hfull;exact ⟨h1,by omega⟩
    ·rw [h1] at hfull;omega
   obtain ⟨es2,t2,p2,hrel,l2,S2⟩:=jdh (t:=t1) el1 nd1 pn1;have perm2:=relayAll_perm t1 es1 20;rw [hrel] at perm2;rw [if_pos (by rw [hfull]; rfl),h5.2,show SetTable.grown 5=20 by decide,hrel];dsimp only;refine wpAny_bind (wpAny_pure ?_);have z2:=S2.small;refine wpAny_bind (wpAny_storeSet_of g1 rfl ?_ (by rw [sizeLine_eq]; omega))
   have g2:((s.heap.update a (Obj.putSet es1 t1)).update a (Obj.putSet es2 t2)).get? a=some { o with data:=.set es2 (ep + 1 + 1) t2 }:=by
    have:=Heap.get?_update_self (Obj.putSet es2 t2) g1 (by rw [putSet_of es2 t2 rfl]; rfl)
    rw [putSet_of es2 t2 rfl] at this;exact this
   exact wpAny_pure (wpAny_pure (hQ2 hm _ es2 (hsb1.trans (Heap.SameBut.update _ a _)) ⟨_,_,t2,p2,g2,hex,rfl,S2,by rw [l2,l1,hL]⟩ ((perm2.map (·.1)).trans keys1)))
  ·rw [if_neg (by simpa using hfull)];refine wpAny_pure (wpAny_pure (hQ2 hm _ es1 hsb1 ⟨_,_,t1,p1,g1,hex,rfl,⟨pl1,du1,pn1,pw1,sz1,el1,nd1,?_⟩,by rw [l1,hL]⟩ keys1));unfold SetTable.tooFull SetTable.fill at hfull;rw [pl1,du1] at hfull;simp only [List.size_toArray,List.length_nil,Array.size_empty,Nat.add_zero,decide_eq_true_eq] at hfull
   rcases mx1 with ⟨h1,h2,h3⟩ | ⟨h1,h2,_⟩
   ·rw [h1] at hfull;exact .inl ⟨h1,by omega,h3⟩
   ·exact .inr ⟨h1,h2⟩
end
end Sml
namespace Sml
open PySem PySem.Spec PyProof.Rows
section
variable {prog:Program} {w:World} {A:Around} {E:Value->Shared->Prop} {s:Shared}
def Got (h:Heap) (a:Addr) (val:Nat->Nat) (i:Nat) (L:Bool):Prop:=∃ es,SetS h a es L∧∀ x:Int,x ∈ es.toList.map (·.1)↔∃ j,j < i∧x=val j
theorem Got.keep {h h':Heap} {a:Addr} {val:Nat->Nat} {i:Nat} {L:Bool} (g:Got h a val i L) (k:∀ o,h.get? a=some o->h'.get? a=some o):Got h' a val i L:=by
 obtain ⟨es,⟨o,ep,t,p,ho,r⟩,m⟩:=g;exact ⟨es,⟨o,ep,t,p,k o ho,r⟩,m⟩
theorem add_got {a:Addr} {val:Nat->Nat} {i:Nat} {L:Bool} {k:Tok} {Q:Bool->Shared->Prop} (g:Got s.heap a val i L) (hv:val i < 16) (h:∀ b h',Heap.SameBut a s.heap h'->Got h' a val (i + 1) L->Q b { s with heap:=h' }) :
  wpAny (model prog w) A (setAddHashed a (.int (val i) k) ((intKind prog w).hash (val i:Int))) Q E s:=by
 obtain ⟨es,S,m⟩:=g;refine jcz S hv (fun hm=>?_) fun hm h' es' same S' perm=>h true h' same ⟨es',S',fun x=>?_⟩
 ·have:=h false s.heap (Heap.SameBut.refl a s.heap) ⟨es,S,fun x=>?_⟩
  ·exact this
  rw [m];constructor
  ·rintro ⟨j,hj,e⟩;exact ⟨j,by omega,e⟩
  ·rintro ⟨j,hj,e⟩
   by_cases hji:j=i
   ·subst hji;rw [e];exact (m _).mp hm
   ·exact ⟨j,by omega,e⟩
 ·rw [perm.mem_iff,List.mem_append,List.mem_singleton,m];constructor
  ·rintro (⟨j,hj,e⟩ | e)
   ·exact ⟨j,by omega,e⟩
   ·exact ⟨i,by omega,e⟩
  ·rintro ⟨j,hj,e⟩
   by_cases hji:j=i
   ·subst hji;exact .inr e
   ·exact .inl ⟨j,by omega,e⟩
end
end Sml
namespace Sml
open PySem PySem.Spec PyProof.Rows
section
variable {prog:Program} {w:World} {A:Around} {E:Value->Shared->Prop} {s:Shared}
abbrev byT (w:World):Bool:=w.params.followText "set-order"
abbrev set0 (w:World):Obj:={ cls:=.type "set",dict:=none,data:=.set #[] 0 (.fresh 0 0 (!byT w)) }
theorem sm0 (b:Bool):Sm #[] (.fresh 0 0 b) []:=⟨rfl,rfl,rfl,.nil,rfl,fun e he=>by simp at he,by simp,.inl ⟨rfl,by decide,fun x hx=>(by cases hx)⟩⟩
theorem got0 {h:Heap} {a:Addr} (e:h.get? a=some (set0 w)) (val:Nat->Nat):Got h a val 0 (!byT w) :=
 ⟨#[],⟨_,_,_,[],e,⟨rfl,rfl,rfl⟩,rfl,sm0 _,rfl⟩,fun x=>⟨fun z=>by simp at z,fun ⟨_,h,_⟩=>absurd h (Nat.not_lt_zero _)⟩⟩
end
end Sml
namespace Sml
open PySem PySem.Spec PyProof.Rows
theorem uU:Slot "set_iterator" "__next__" "set_iterator.__next__" :=
 .of (owner:="set_iterator") (n:="__next__") (by rw [typeLookup_type,builtinLookup_eq_fast]; kernel_rfl) (by decide +kernel) (by decide +kernel) (by decide +kernel) (by first | exact .inl (by decide +kernel) | exact .inr (by decide +kernel)) (by rw [isSubtype_type]; kernel_rfl)
theorem jeD:entryFor table "set_iterator.__next__" = some Builtin.«set_iterator.__next__»:=entryFor_of_tree (by kernel_rfl)
theorem jeE:entryFor table "set.__iter__" = some Builtin.«frozenset.__iter__»:=entryFor_alias (id':="frozenset.__iter__") (by kernel_rfl) (by first | rfl | decide +kernel) (by decide +kernel) (by kernel_rfl)
theorem VE:Manifest.owners.lookup (String.ofList ['r','o','t','a','r','e','t','i','_','t','e','s'].reverse)=some Manifest.sig_set_iterator:=by kernel_rfl
theorem jgL (a:Value):argsOk "set_iterator.__next__" ⟨[a],[]⟩:=by
 unfold argsOk;rw [signature?_of (id:="set_iterator.__next__") (n:=['_','_','t','x','e','n','_','_']) (o:=['r','o','t','a','r','e','t','i','_','t','e','s']) (by kernel_rfl) VE]
 kernel_rfl
theorem jgI {p:List Nat} (pw:p.Pairwise (· < ·)):SetTable.below p.toArray 0=0:=by
 obtain ⟨h1,h2,_⟩:=vD pw 0;generalize SetTable.below p.toArray 0=b at h1 h2
 cases b with
 | zero=>rfl
 | succ b =>
  cases p with
  | nil=>exact absurd h1 (by simp)
  | cons x p=>exact absurd (h2 x (by simp)) (Nat.not_lt_zero _)
theorem jal {p:List Nat} (pw:p.Pairwise (· < ·)) {i j:Nat} (e:p[i]? = some j):SetTable.below p.toArray (j + 1)=i + 1:=by
 obtain ⟨h1,h2,h3⟩:=vD pw (j + 1);generalize SetTable.below p.toArray (j + 1)=b at h1 h2 h3;obtain ⟨hi,e⟩:=List.getElem?_eq_some_iff.mp e
 have a:i < b:=by
  refine Nat.lt_of_not_le fun hb=>?_
  have:=h3 j (by rw [<- e]; exact List.mem_iff_getElem.mpr ⟨i - b,by rw [List.length_drop]; omega,by rw [List.getElem_drop]; congr 1; omega⟩)
  omega
 have c:b<=i + 1:=by
  refine Nat.le_of_not_lt fun hb=>?_
  have hlt:i + 1 < p.length:=by omega
  have h4:=h2 p[i + 1] (List.mem_iff_getElem.mpr ⟨i + 1,by rw [List.length_take]; omega,by rw [List.getElem_take]⟩);have h5:=List.pairwise_iff_getElem.mp pw i (i + 1) hi hlt (Nat.lt_succ_self _);omega
 omega
section
variable {prog:Program} {w:World} {A:Around} {E:Value->Shared->Prop} {s:Shared}
def Um (h:Heap) (it a:Addr) (slot i n ep:Nat):Prop:=∃ o,h.get? it=some o∧o.cls = .type "set_iterator"∧o.data = .fields #[rawInt slot,rawInt i,.ref a,rawInt n,rawInt ep]
theorem iterS {a:Addr} {o:Obj} {es:Array (Int × Value)} {ep:Nat} {t:SetTable} {p:List Nat} {Q:Value->Shared->Prop} (ho:s.heap.get? a=some o) (hx:o.ExactSet) (hd:o.data = .set es ep t) (S:Sm es t p)
  (hQ:Q (.ref s.heap.objs.size) { s with heap:=s.heap.push { cls:=.type "set_iterator",data:=.fields #[rawInt 0,rawInt 0,.ref a,rawInt es.size,rawInt ep] } }):wpAny (model prog w) A (pyIter (.ref a)) Q E s:=by
 have hT:s.TypeIs (.ref a) "set":=⟨o,ho,hx.1⟩
 have hf:=S.fit;refine wpAny_pyIter_slot hT F.slot_set_iter (wpAny_call_entry F.slot_set_iter hT jeE ?_ (F.args_set_iter_1 _));unfold Builtin.«frozenset.__iter__» Builtin.Frozenset.slot0 slotArgs;simp only [List.isEmpty_nil,Bool.not_true,Bool.false_eq_true,↓reduceIte,bind_assoc,List.length_nil,bne_self_eq_false];unfold Builtin.Frozenset.addrOf Builtin.Frozenset.sizeOf;refine wpAny_bind (wpAny_pure ?_)
 try dsimp only
 refine wpAny_bind (wpAny_pure ?_);refine wpAny_bind (wpAny_bind (wpAny_setEntries_of ho hd hf (wpAny_pure ?_)))
 have hdr:wpAny (model prog w) A.in1 (setDrawn a) (fun b s'=>b=false∧s'=s) E s:=by
  unfold setDrawn setsByText;refine wpAny_bind (wpAny_setState_of ho hd hf (wpAny_bind (wpAny_bind (wpAny_askSetting (wpAny_pure (wpAny_pure ⟨?_,rfl⟩))))));show (_ && (!t.plain && _))=false;rw [S.pn];simp
 refine wpAny_bind (wpAny_mono hdr (fun b s' hb=>?_) fun _ _ h=>h);obtain ⟨rfl,rfl⟩:=hb;simp only [Bool.false_eq_true,↓reduceIte];refine wpAny_bind (wpAny_pure (wpAny_bind (wpAny_setEpoch_of ho hd hf ?_)));unfold newFields;exact wpAny_bind (wpAny_newObj_type (wpAny_pure ⟨_,rfl,"set_iterator",_,⟨_,Heap.get?_push_size _ rfl,rfl⟩,uU.lookup,hQ⟩))
theorem Um.ty {it a:Addr} {slot i n ep:Nat} (h:Um s.heap it a slot i n ep):s.TypeIs (.ref it) "set_iterator":=by
 obtain ⟨o,ho,hc,_⟩:=h;exact ⟨o,ho,hc⟩
theorem Um.at {h h':Heap} {it a:Addr} {slot i n ep:Nat} (x:Um h it a slot i n ep) (k:∀ o,h.get? it=some o->h'.get? it=some o):Um h' it a slot i n ep:=by
 obtain ⟨o,ho,r⟩:=x;exact ⟨o,k o ho,r⟩
def ord (w:World) (a:Addr) (ep:Nat) (es:Array (Int × Value)):Array (Int × Value):=if byT w=true then pickOrder (w.params.setOrder a ep) es else es
def Us (w:World) (t:SetTable) (slot i:Nat):Prop:=byT w=true∨SetTable.below t.place slot=i
theorem jgh {a:Addr} {o:Obj} {es:Array (Int × Value)} {ep:Nat} {t:SetTable} {p:List Nat} {slot i:Nat} {Q:Option (Value × Nat)->Shared->Prop} (ho:s.heap.get? a=some o) (hd:o.data = .set es ep t) (S:Sm es t p) (hL:t.led = !byT w) (hA:Us w t slot i)
  (h1:∀ e nx,(ord w a ep es)[i]? = some e->Us w t nx (i + 1)->Q (some (e.2,nx)) s) (h2:(ord w a ep es)[i]? = none->Q none s):wpAny (model prog w) A (setNext a slot i ep) Q E s:=by
 have hf:=S.fit;unfold setNext;refine wpAny_bind (wpAny_setState_of ho hd hf ?_);dsimp only;unfold setsByText;refine wpAny_bind (wpAny_bind (wpAny_askSetting (wpAny_pure ?_)));dsimp only
 by_cases hb:byT w=true
 ·rw [if_pos (show (model prog w).w.params.followText "set-order" = true from hb),if_neg (by simp)];have ho2:ord w a ep es=pickOrder (w.params.setOrder a ep) es:=if_pos hb;rw [ho2] at h1 h2;unfold setWalk setsByText;refine wpAny_bind (wpAny_bind (wpAny_setState_of ho hd hf ?_));dsimp only;refine wpAny_bind (wpAny_bind (wpAny_askSetting (wpAny_pure ?_)));dsimp only;rw [if_pos (show (model prog w).w.params.followText "set-order" = true from hb)];refine wpAny_bind (wpAny_askSetting (wpAny_pure (wpAny_pure ?_)));show Q (Option.map (fun e=>(e.2,slot)) (pickOrder (w.params.setOrder a ep) es)[i]?) s
  cases e:(pickOrder (w.params.setOrder a ep) es)[i]? with
  | none=>exact h2 e
  | some x=>exact h1 x slot e (.inl hb)
 ·rw [if_neg (show ¬ (model prog w).w.params.followText "set-order" = true from hb)];have ho2:ord w a ep es=es:=if_neg hb;rw [ho2] at h1 h2;split
  ·rename_i h
   exact absurd h (by
    show ¬ ((!t.plain && _)=true);rw [S.pn]
    simp)
  ·refine wpAny_bind (show wpAny _ _ (if (!t.led && !es.isEmpty)=true then unsupported "set:maker-not-led" else pure ()) _ _ _ from ?_)
   have:byT w=false:=by simpa using hb
   rw [hL,this,if_neg (by simp)];refine wpAny_pure (wpAny_pure ?_);have hbl:SetTable.below t.place slot=i:=hA.resolve_left hb;rw [hbl,S.pl]
   by_cases hi:i < es.size
   ·have hp:i < p.length:=by rw [S.sz]; exact hi
    have e1:es[i]? = some es[i]:=Array.getElem?_eq_getElem hi
    have e2:p.toArray[i]? = some p[i]:=by rw [List.getElem?_toArray]; exact List.getElem?_eq_getElem hp
    rw [e1,e2];exact h1 es[i] (p[i] + 1) (Array.getElem?_eq_getElem hi) (.inr (by rw [S.pl]; exact jal S.pw (List.getElem?_eq_getElem hp)))
   ·have e1:es[i]? = none:=Array.getElem?_eq_none (by omega);rw [e1];exact h2 e1
theorem jgV {it a:Addr} {o:Obj} {es:Array (Int × Value)} {ep:Nat} {t:SetTable} {p:List Nat} {slot i:Nat} {Q:Option Value->Shared->Prop} (hh:A.handled=none) (hit:Um s.heap it a slot i es.size ep) (ho:s.heap.get? a=some o) (hd:o.data = .set es ep t) (S:Sm es t p) (hL:t.led = !byT w) (hA:Us w t slot i)
  (h1:∀ e nx h',(ord w a ep es)[i]? = some e->Us w t nx (i + 1)->Um h' it a nx (i + 1) es.size ep->Heap.SameBut it s.heap h'->Q (some e.2) { s with heap:=h' }) (h2:(ord w a ep es)[i]? = none->∀ h',Heap.ExtBut it s.heap h'->Q none { s with heap:=h' }) :
  wpAny (model prog w) A (pyNext (.ref it)) Q E s:=by
 have hf:=S.fit;obtain ⟨oi,hoi,hc,hdi⟩:=id hit;unfold pyNext;refine wpAny_bind (wpAny_attempt (wpAny_callSpecial?_slot (name:=Str.ofString "__next__") hit.ty uU (wpAny_call_entry uU hit.ty jeD ?_ (jgL _))));unfold Builtin.«set_iterator.__next__» slotArgs;simp only [List.isEmpty_nil,Bool.not_true,Bool.false_eq_true,↓reduceIte,bind_assoc,List.length_nil,bne_self_eq_false];refine wpAny_bind (wpAny_pure ?_);dsimp only;refine wpAny_bind (wpAny_fieldsOf hoi hdi ?_);simp only [rawInt] at hdi ⊢;refine wpAny_bind (wpAny_setEntries_of ho hd hf ?_);rw [if_neg (by simp)];simp only [Int.toNat_natCast];refine wpAny_bind (jgh ho hd S hL hA (fun e nx he ha=>?_) fun he=>?_)
 ·dsimp only;have d1:=Obj.data_mapFields hdi (·.setIfInBounds 0 (Value.int nx 0));have g1:=Heap.get?_update_self (Obj.mapFields (·.setIfInBounds 0 (Value.int nx 0))) hoi (Obj.isFreed_of_fields d1);refine wpAny_bind (wpAny_setField hoi hdi (by simp) ?_);have d2:=Obj.data_mapFields d1 (·.setIfInBounds 1 (Value.int ((i:Int) + 1) 0));have g2:=Heap.get?_update_self (Obj.mapFields (·.setIfInBounds 1 (Value.int ((i:Int) + 1) 0))) g1 (Obj.isFreed_of_fields d2);refine wpAny_bind (wpAny_setField g1 d1 (by simp) ?_);refine wpAny_pure ⟨_,rfl,wpAny_pure (h1 e nx _ he ha ⟨_,g2,?_,?_⟩ ((Heap.SameBut.update ..).trans (Heap.SameBut.update ..)))⟩
  ·rw [Obj.cls_mapFields,Obj.cls_mapFields];exact hc
  ·rw [d2];simp [rawInt]
 ·dsimp only;refine wpAny_bind (wpAny_setField hoi hdi (by simp) ?_);simp only [newExc,newTuple];refine wpAny_bind (wpAny_bind (wpAny_newObj_type ?_ (by size_fits)));refine wpAny_bind (m:=firstArgMember _ _) (wpAny_of_eq (a:=Value.none) (by first | rfl | (simp only [firstArgMember]; rfl)) ?_);refine wpAny_newObj_type ?_ (by size_fits);simp only [raiseNew];refine wpAny_bind (wpAny_handled ?_);rw [show A.in1.handled=none from hh];refine wpAny_bind (wpAny_pure (wpAny_throw ?_));refine wpAny_bind (wpAny_isInstance (T:="StopIteration") (b:=true) ⟨_,Heap.get?_push_size _ rfl,rfl⟩ isSubtype_stop ?_);exact wpAny_pure (h2 he _ (((Heap.SameBut.update ..).extBut.push _).push _))
end
end Sml
namespace Sml
open PySem PySem.Spec PyProof.Rows PySem.W
theorem Vs:Slot "set_iterator" "__iter__" "set_iterator.__iter__" :=
 .of (owner:="set_iterator") (n:="__iter__") (by rw [typeLookup_type,builtinLookup_eq_fast]; kernel_rfl) (by decide +kernel) (by decide +kernel) (by decide +kernel) (by first | exact .inl (by decide +kernel) | exact .inr (by decide +kernel)) (by rw [isSubtype_type]; kernel_rfl)
theorem jcn:entryFor table "set_iterator.__iter__" = some Builtin.«dict_keyiterator.__iter__»:=entryFor_alias (id':="dict_keyiterator.__iter__") (by kernel_rfl) (by first | rfl | decide +kernel) (by decide +kernel) (by kernel_rfl)
theorem jeW (a:Value):argsOk "set_iterator.__iter__" ⟨[a],[]⟩:=by
 unfold argsOk;rw [signature?_of (id:="set_iterator.__iter__") (n:=['_','_','r','e','t','i','_','_']) (o:=['r','o','t','a','r','e','t','i','_','t','e','s']) (by kernel_rfl) VE]
 kernel_rfl
theorem jaL {α:Type} (next:Nat->Nat):∀ (n k:Nat) (left:List α) (out:Array α),left.length=n->(pickOrder.go next n k left out).toList.Perm (out.toList ++ left)
 | 0,k,left,out,h=>by
  rw [List.eq_nil_of_length_eq_zero h,List.append_nil];unfold pickOrder.go;exact .rfl
 | n + 1,k,left,out,h=>by
  have hl:next k % left.length < left.length:=Nat.mod_lt _ (by omega);unfold pickOrder.go;rw [List.getElem?_eq_getElem hl];dsimp only;refine (jaL next n (k + 1) _ _ (by rw [List.length_eraseIdx_of_lt hl]; omega)).trans ?_;rw [Array.toList_push,List.append_assoc];refine List.Perm.append_left _ ?_;rw [List.eraseIdx_eq_take_drop_succ]
  conv=>rhs; rw [<- List.take_append_drop (next k % left.length) left,List.drop_eq_getElem_cons hl]
  exact (List.perm_middle (a:=left[next k % left.length]) (l₁:=left.take (next k % left.length)) (l₂:=left.drop (next k % left.length + 1))).symm
theorem jbW {α:Type} (next:Nat->Nat) (xs:Array α):(pickOrder next xs).toList.Perm xs.toList:=by
 have:=jaL next xs.size 0 xs.toList #[] (by rw [Array.length_toList])
 unfold pickOrder;simpa using this
theorem ord_perm (w:World) (a:Addr) (ep:Nat) (es:Array (Int × Value)):(ord w a ep es).toList.Perm es.toList:=by
 unfold ord;split
 ·exact jbW _ _
 ·exact .rfl
section
variable {prog:Program} {w:World} {A:Around} {E:Value->Shared->Prop} {s:Shared}
theorem hintS {r:Addr} {Q:Bool->Shared->Prop} (hT:s.TypeIs (.ref r) "set") (h:Q false s):wpAny (model prog w) A (Builtin.List.listLengthHint (.ref r)) Q E s:=by
 unfold Builtin.List.listLengthHint;refine wpAny_bind (wpAny_specialOf hT F.slot_set_len.lookup ?_);generalize hid:("set.__len__":String)=id0
 wp_delta
 rw [show splitId id0=some ("set","__len__") from by subst hid; decide +kernel];subst hid;refine wpAny_bind (wpAny_isInstance (T:="set") (b:=true) hT (by rw [isSubtype_type]; kernel_rfl) ?_);refine wpAny_ite_split (fun hab=>absurd hab (by decide)) (fun _=>?_);refine wpAny_ite_split (fun _=>?_) (fun hab=>absurd (by decide +kernel) hab);exact wpAny_bind (wpAny_typeOf hT (wpAny_pure h))
theorem VF {a:Addr} {ep:Nat} {es:Array (Int × Value)}:(ord w a ep es).size=es.size:=by
 rw [<- Array.length_toList,(ord_perm w a ep es).length_eq,Array.length_toList]
theorem jhl (hh:A.handled=none) {I a:Addr} (hne:a≠I) {o:Obj} {es:Array (Int × Value)} {ep:Nat} {t:SetTable} {p:List Nat} (hd:o.data = .set es ep t) (S:Sm es t p) (hL:t.led = !byT w) :
  Walks prog w A I [I,a] [I] es.size (fun i v=>∃ e,(ord w a ep es)[i]? = some e∧v=e.2) (fun i h=>∃ slot,Um h I a slot i es.size ep∧h.get? a=some o∧Us w t slot i) where
 sub:=fun b hb=>by simp at hb; simp [hb]
 frame:=fun _ _ _ st hk=>by
  obtain ⟨slot,h1,h2,h3⟩:=st;exact ⟨slot,h1.at fun o e=>hk I (by simp) o e,hk a (by simp) _ h2,h3⟩
 item:=fun i s Q E hi st hQ=>by
  obtain ⟨slot,h1,h2,h3⟩:=st;refine jgV hh h1 h2 hd S hL h3 (fun e nx h' he ha hit same=>?_) fun he=>?_
  ·exact hQ _ h' s.toks ⟨e,he,rfl⟩ ⟨nx,hit,(same.2 a hne).trans h2,ha⟩ fun b o hb e=>same.extBut b o (fun h=>hb (by simp [h])) e
  ·have:=Array.getElem?_eq_none_iff.mp he
   rw [VF] at this;omega
 done:=fun s Q E st hQ=>by
  obtain ⟨slot,h1,h2,h3⟩:=st;refine jgV hh h1 h2 hd S hL h3 (fun e nx h' he ha hit same=>?_) fun he h' ext=>hQ h' s.toks fun b o hb e=>ext b o (fun h=>hb (by simp [h])) e
  have:=(Array.getElem?_eq_some_iff.mp he).1
  rw [VF] at this;omega
 self:=fun _ _ _ _ st hQ=>by
  obtain ⟨slot,h1,h2,h3⟩:=st;exact wpAny_pyIter_slot h1.ty Vs (wpAny_call_entry Vs h1.ty jcn (wpAny_pure ⟨_,rfl,"set_iterator",_,h1.ty,uU.lookup,hQ⟩) (jeW _))
theorem srcS {a:Addr} {o:Obj} {es:Array (Int × Value)} {ep:Nat} {t:SetTable} {p:List Nat} (hx:o.ExactSet) (hd:o.data = .set es ep t) (S:Sm es t p) (hL:t.led = !byT w):KdlSrc prog w "set" a a es.size (fun i v=>∃ e,(ord w a ep es)[i]? = some e∧v=e.2) (fun h=>h.get? a=some o) where
 type:=fun _ ho=>⟨o,ho,hx.1⟩
 there:=fun _ ho=>⟨Heap.lt_size ho,Heap.lt_size ho⟩
 keep:=fun _ _ ho hk=>hk a (.inl rfl) _ ho
 notList:=by decide
 notTuple:=by decide
 hint:=fun _ _ _ _ ho hq=>hintS ⟨o,ho,hx.1⟩ hq
 iter:=fun _ _ hh ho=>⟨_,_,(fun _ _ hq=>iterS ho hx hd S hq),jhl hh (Nat.ne_of_lt (Heap.lt_size ho)) hd S hL,⟨0,⟨_,Heap.get?_push_size _ rfl,rfl,rfl⟩,Heap.get?_push_of_some _ ho,.inr (by rw [S.pl]; exact jgI S.pw)⟩⟩
end
end Sml
namespace L2
open PySem PySem.Spec PyProof.Rows PySem.W
def uO (ns:List Int) (i:Nat):Nat:=(ns.getD i 0).toNat
def yc (w:World) (a:Addr) (ns:List Int):HO:=.ext fun h=>Sml.Got h a (uO ns) ns.length (!Sml.byT w)
def yV (ns:List Int):List Int:=((List.range 16).map fun k:Nat=>(k:Int)).filter fun x=>decide (x ∈ ns)
theorem XJ:∀ (l m:List Int),l.Pairwise (· < ·)->m.Pairwise (· < ·)->(∀ x,x ∈ l↔x ∈ m)->l=m
 | [],[],_,_,_=>rfl
 | [],b :: m,_,_,h=>by cases (h b).mpr List.mem_cons_self
 | a :: l,[],_,_,h=>by cases (h a).mp List.mem_cons_self
 | a :: l,b :: m,pl,pm,h=>by
  obtain ⟨l1,l2⟩:=List.pairwise_cons.mp pl;obtain ⟨m1,m2⟩:=List.pairwise_cons.mp pm
  have e:a=b:=by
   rcases List.mem_cons.mp ((h a).mp List.mem_cons_self) with e | e
   ·exact e
   ·rcases List.mem_cons.mp ((h b).mpr List.mem_cons_self) with e' | e'
    ·exact e'.symm
    ·have h1:=m1 a e;have h2:=l1 b e';omega
  subst e;rw [XJ l m l2 m2 fun x=>?_];constructor
  ·intro hx
   have:=l1 x hx
   rcases List.mem_cons.mp ((h x).mp (List.mem_cons_of_mem _ hx)) with e | e
   ·omega
   ·exact e
  ·intro hx
   have:=m1 x hx
   rcases List.mem_cons.mp ((h x).mpr (List.mem_cons_of_mem _ hx)) with e | e
   ·omega
   ·exact e
theorem Ji (ns:List Int):(yV ns).Pairwise (· < ·):=List.Pairwise.filter _ (List.pairwise_map.mpr (List.pairwise_lt_range.imp fun h=>by omega))
theorem Yx {ns:List Int} (h:∀ n ∈ ns,0<=n∧n < 16) (x:Int):x ∈ yV ns↔x ∈ ns:=by
 unfold yV;rw [List.mem_filter,decide_eq_true_eq];refine ⟨fun z=>z.2,fun z=>⟨List.mem_map.mpr ⟨x.toNat,List.mem_range.mpr ?_,?_⟩,z⟩⟩
 ·have:=h x z; omega
 ·have:=h x z; omega
theorem jfl {ns:List Int} (h:∀ n ∈ ns,0<=n∧n < 16) (x:Int):(∃ j,j < ns.length∧x=(uO ns j:Int))↔x ∈ ns:=by
 have g:∀ j (hj:j < ns.length),(uO ns j:Int)=ns[j]:=fun j hj=>by
  unfold uO;rw [List.getD_eq_getElem?_getD,List.getElem?_eq_getElem hj]
  have:=h ns[j] (List.getElem_mem hj)
  show ((ns[j].toNat:Nat):Int)=_;omega
 constructor
 ·rintro ⟨j,hj,e⟩;rw [e,g j hj];exact List.getElem_mem hj
 ·intro hx;obtain ⟨j,hj,e⟩:=List.getElem_of_mem hx;exact ⟨j,hj,by rw [g j hj,e]⟩
section
variable {X:Cx}
theorem jax {P:Program} {w:World} {H:Hp} {h:Heap} {a:Addr} {ns:List Int} (g:Sml.Got h a (uO ns) ns.length (!Sml.byT w)):jM P w H h a (yc w a ns):=by
 refine ⟨g,?_,fun h1 h2 g1 k=>g1.keep k⟩;obtain ⟨es,⟨o,ep,t,p,ho,_⟩,_⟩:=g;exact ⟨o,ho⟩
theorem Vh (hc:X.calm=true):yf X (.builtin "sorted") (fun xs H Q=>∃ (p:Addr) (ns:List Int),xs=[.ref p]∧H p=some (yc X.w p ns)∧(∀ n ∈ ns,0<=n∧n < 16)∧∀ l:Addr,H l=none->Q (.ref l) (upd H l (.lst ((yV ns).map V.int)))):=by
 intro pins s σ H xs us Q I r h;obtain ⟨p,ns,rfl,hq,hb,q⟩:=h;obtain ⟨u,rfl,rx⟩:=Yu r;cases rx
 obtain ⟨⟨es,⟨o,ep,t,pl,ho,hx,hd,S,hL⟩,hm⟩,_⟩:=(show jM X.prog X.w H s.heap p (yc X.w p ns) from I.hok p _ hq)
 obtain ⟨ks,hks⟩:∃ ks,ks=(Sml.ord X.w p ep es).toList.map (·.1):=⟨_,rfl⟩
 have hperm:ks.Perm (es.toList.map (·.1)):=by rw [hks]; exact (Sml.ord_perm X.w p ep es).map _
 have hsz:=S.small
 have hlen:ks.length=es.size:=by rw [hperm.length_eq,List.length_map,Array.length_toList]
 have intsI:∀ (ms:List Int) (vs:List Value),vs.length=ms.length->(∀ (j:Nat) (v:Value),vs[j]? = some v->∃ n t,ms[j]? = some n∧v=Value.int n t)->IntsAre vs ms:=by
  intro ms
  induction ms with
  | nil=>intro vs h _; cases vs with | nil=>exact .nil | cons _ _=>cases h
  | cons m ms ih =>
   intro vs h hp
   cases vs with
   | nil=>cases h
   | cons v vs =>
    obtain ⟨n,t,e1,e2⟩:=hp 0 v rfl;cases e1;subst e2;exact .cons _ _ (ih vs (by simpa using h) fun j v e=>hp (j + 1) v (by simpa using e))
 refine Srt.sorted_src (ns:=ks) (Sml.srcS hx hd S hL) (I.ok.hd hc) ho (by omega) (fun vs hv hp=>intsI _ _ (by omega) fun j v e=>?_) fun h' tk a e out ns' k1 z1 g a1 a2 a3=>?_
 ·obtain ⟨x,e1,e2⟩:=hp j v e;have hx:x ∈ es.toList:=(Sml.ord_perm X.w p ep es).mem_iff.mp (List.mem_of_getElem? (by rw [Array.getElem?_toList]; exact e1));obtain ⟨n,k,_,rfl⟩:=S.el x hx;exact ⟨(n:Int),k,by rw [hks,List.getElem?_map,Array.getElem?_toList,e1]; rfl,e2⟩
 ·have nd:ns'.Nodup:=(a2.trans hperm).nodup_iff.mpr S.nd
  have rise:ns'.Pairwise (· < ·):=by
   have:=List.pairwise_iff_getElem.mp a3
   refine List.pairwise_iff_getElem.mpr fun i j hi hj hij=>?_;have h1:=this i j hi hj hij;have h2:=List.pairwise_iff_getElem.mp nd i j hi hj hij;omega
  have es':ns'=yV ns:=XJ _ _ rise (Ji ns) fun x=>by rw [(a2.trans hperm).mem_iff,hm,jfl hb,Yx hb]
  subst es'
  have hl':(yV ns).length=es.size:=by rw [a2.length_eq,hlen]
  refine ⟨.ref a,_,I.laid (a:=a) (o:=.lst ((yV ns).map V.int)) (h':=h') (t':=tk) k1 z1 ?_,rfl,q a (I.hok.fresh z1)⟩;refine ⟨by rw [List.length_map,sizeLine_eq]; omega,out.toList,e,vE a1,?_⟩;rw [g]
end
end L2
namespace L3
open PySem L2
def uf (ns:List Int):Bool:=ns.all fun n=>decide (0<=n) && decide (n < 16)
theorem Yy {ns:List Int} (h:uf ns=true):∀ n ∈ ns,0<=n∧n < 16:=fun n hn=>by
 have:=List.all_eq_true.mp h n hn
 rw [Bool.and_eq_true,decide_eq_true_eq,decide_eq_true_eq] at this;exact this
def jcV (M:Sto) (x:PV):Option (List Int):=match x with
 | .ref j=>(match M.g j with
  | some (.dkv l)=>if uf (l.map (·.1))=true∧(l.map (·.1)).Nodup∧l.length < 64 then some (yV (l.map (·.1))) else none
  | _=>none)
 | _=>none
def UW (M:Sto) (x:PV):Option PV:=(jcV M x).map fun ns=>.lst (ns.map PV.int)
section
variable {X:Cx} {T:Tb} {ES:St->XK} {e:Expr} {d:DE} {p p2 pos pos2:Pos}
theorem YX {W:Wd}:∀ {l:List (Int × PV)} {vs:List (Key × V)},yt W keyI l vs->∃ kvs:List (Int × V),vs=kvs.map (fun k=>(Sum.inl k.1,k.2))∧kvs.map Prod.fst=l.map (·.1)
 | [],_,e=>by
  have e:_=[]:=e;subst e;exact ⟨[],rfl,rfl⟩
 | p :: l,_,⟨v,rs,e,_,t⟩=>by
  subst e;obtain ⟨kvs,h1,h2⟩:=YX t;exact ⟨(p.1,v) :: kvs,by rw [List.map_cons,<- h1]; rfl,by rw [List.map_cons,List.map_cons,h2]⟩
theorem jcU {W:Wd} {M:Sto} {H:Hp} {x:PV} {v:V} {ns:List Int} (hh:Held W M H) (r:Rep W x v) (e:jcV M x=some ns):∃ (a:Addr) (kvs:List (Int × V)),v = .ref a∧H a=some (.dK (kvs.map fun k=>(Sum.inl k.1,k.2)))∧kvs.length < 64∧∀ ms:List Int,ms.Perm (kvs.map Prod.fst)->ms.Pairwise (·<=·)->ms=ns:=by
 unfold jcV at e;split at e
 rotate_left
 ·cases e
 rename_i j;split at e
 rotate_left
 ·cases e
 rename_i l e5;split at e
 rotate_left
 ·cases e
 rename_i hz;cases e;obtain ⟨a,rfl,ea⟩:=r;obtain ⟨b,ob,g1,g2,g3,vs,rfl,ra⟩:=hh.m j _ e5;rw [ea] at g1;cases g1;obtain ⟨kvs,h1,h2⟩:=YX ra;subst h1;refine ⟨a,kvs,rfl,g3,?_,fun ms hp hs=>?_⟩
 ·have:=congrArg List.length h2
  rw [List.length_map,List.length_map] at this;omega
 ·rw [h2] at hp;have nd:ms.Nodup:=hp.nodup_iff.mpr hz.2.1
  refine XJ _ _ (List.pairwise_iff_getElem.mpr fun i j hi hj hij=>?_) (Ji _) fun x=>by rw [hp.mem_iff,Yx (Yy hz.1)]
  have z1:=List.pairwise_iff_getElem.mp hs i j hi hj hij;have z2:=List.pairwise_iff_getElem.mp nd i j hi hj hij;omega
theorem jcy (hc:X.calm=true):yf X (.builtin "sorted") (rC T (one UW)):=vh (Vi hc) fun W M H x v z Q k hh r e q=>by
 unfold UW at e;obtain ⟨ns,e1,rfl⟩:=Option.map_eq_some_iff.mp e;obtain ⟨a,kvs,rfl,ha,hl,hu⟩:=jcU hh r e1;refine ⟨a,kvs,rfl,ha,hl,fun l ms hl hp hs=>?_⟩;rw [hu ms hp hs];obtain ⟨W2,l2,h2,r2⟩:=xZ (xs:=ns.map PV.int) hh (jl.ints.mpr rfl) hl;exact q W2 _ _ l2 h2 r2
end
end L3
namespace L2
open PySem
end L2
namespace L3
open PySem L2
theorem U_all {us:List Nat} {c:Nat} {b:Bool} (h:(if c ∈ us then some true else none)=some b):c ∈ us∧b=true:=by
 split at h
 ·rename_i hc;cases h;exact ⟨hc,rfl⟩
 ·cases h
theorem U_4 {us:List Nat} {c:Nat} {b:Bool} (h:(if c ∈ us then some (c == 4) else none)=some b):c ∈ us∧b=(c == 4):=by
 split at h
 ·rename_i hc;cases h;exact ⟨hc,rfl⟩
 ·cases h
def jhg (c:Nat) (f:Str) (d:DE):DE:=fun ρ M=>(d ρ M).bind fun x M1=>match x with
 | .exn k=>if k % 64=c∧64<=k then (match M1.g (k / 64 - 1) with
   | some (.xd fs)=>(match fs.lookup f with
     | some v=>.ok v M1
     | none=>.bad)
   | _=>.bad) else .bad
 | _=>.bad
section
variable {X:Cx} {T:Tb} {ES:St->XK} {e:Expr} {f:Str} {pos:Pos} {d:DE} {c:Nat}
theorem jfG (hT:T.K=X.K) (hx:XGet X.K (T.C c) f) (he:QE X T ES e d) (hb:attributeBase e f X.env (eval e X.env)=eval e X.env):QE X T ES (.Attribute e f pos) (jhg c f d) :=
 ⟨jO (jfW he.h hb) fun σ H Q hQQ=>jC hQQ fun W ρ M k hh hs q=>⟨W,ρ,M,k,hh,hs,jz.bind q fun W1 M1 x v H1 l1 h1 r1 q1=>by
  cases x with
  | exn n =>
   obtain ⟨a,dd,rfl,ha,dx⟩:=r1
   by_cases hc:n % 64=c∧64<=n
   rotate_left
   ·simp only [if_neg hc] at q1;exact q1.elim
   simp only [if_pos hc] at q1;unfold Yh at dx;rw [if_neg (Nat.not_lt.mpr hc.2)] at dx;obtain ⟨dp,rfl,al⟩:=dx
   cases hg:M1.g (n / 64 - 1) with
   | none=>rw [hg] at q1; exact q1.elim
   | some cell =>
    rw [hg] at q1
    cases cell with
    | xd fs =>
     obtain ⟨b,o,b1,b2,b3,vs,rfl,rv⟩:=h1.m _ _ hg;rw [al] at b1;cases b1
     cases hl:fs.lookup f with
     | none=>simp only [hl] at q1; exact q1.elim
     | some v =>
      simp only [hl] at q1;obtain ⟨u,hu,ru⟩:=rv.get hl;refine ⟨a,_,_,vs,u,rfl,h1.f _ _ ha,b3,?_,hu,q1 W1 H1 u (.refl W1) h1 ru⟩;rw [l1.k,k,hc.1];exact hx
    | _=>exact q1.elim
  | _=>exact q1.elim⟩⟩
end
end L3
namespace L3
open PySem L2
structure NotIs (K:PySem.W.Frag) (D C:Addr):Prop where
 cl:Cls K D
 ha:PySem.W.findIn K (.ref D) "__class__" = some (some (.builtin "object.__class__"))
 hn:PySem.W.specialIn K (.builtin "object.__class__") "__get__" = some (some (.builtin "getset_descriptor.__get__"))
 ht:PySem.W.takesIn K (.builtin "object.__class__")=some true
 hm:PySem.W.mroIn K D (.type "object")=some true
 no:PySem.W.kitOne K (.ref D) (.ref C)=some false
end L3
namespace L3
open PySem L2
section
variable {X:Cx} {T:Tb} {ES:St->XK} {kx vx e:Expr} {pos:Pos} {k c:PV} {cv:V} {d:DE}
def jeQ (d1 d2:En->Sto->Res ItP):En->Sto->Res ItP:=fun ρ M=>match d1 ρ M with
 | .bad=>d2 ρ M
 | r=>r
theorem qi_alt {tg iter:Expr} {d1 d2:En->Sto->Res ItP} (h1:QI X T ES tg iter d1) (h2:QI X T ES tg iter d2):QI X T ES tg iter (jeQ d1 d2):=⟨fun pins s σ H Q I hQQ=>jC hQQ fun W ρ M k hh hs q=>by
 unfold jeQ at q
 cases e1:d1 ρ M with
 | bad =>
  rw [e1] at q;exact h2.h pins s σ H Q I ⟨W,ρ,M,k,hh,hs,q⟩
 | ok a M1 =>
  rw [e1] at q;exact h1.h pins s σ H Q I ⟨W,ρ,M,k,hh,hs,by rw [e1]; exact q⟩
 | exc c M1 =>
  rw [e1] at q
  exact h1.h pins s σ H Q I ⟨W,ρ,M,k,hh,hs,by rw [e1]; exact q⟩⟩
def jhf (ds:DA):En->Sto->Res ItP:=fun ρ M=>(ds ρ M).bind fun xs M1=>match xs with
 | [.tup xs,.tup ys]=>.ok (.fix (Yk xs ys)) M1
 | _=>.bad
theorem jfE {l m:Expr} {elts:List Expr} {x1:Nat} {tpos p:Pos} {ds:DA} (hT:T.K=X.K) (hg:Gl X "zip") (hm:X.mg "zip" = none) (ha:QA X T ES [l,m] ds) (hs:starEach [l,m] X.env=(false,eval l X.env) :: starEach [m] X.env:=by rfl) (hs2:starEach [m] X.env=[(false,eval m X.env)]:=by rfl) :
  QI X T ES (.Tuple elts x1 tpos) (.Call (.Name "zip" p) [l,m] [] pos) (jhf ds) :=
 ⟨vo (jfT hg hm ha.h hs hs2) fun σ H R hQQ=>jC hQQ fun W ρ M k hh hs q=>⟨W,ρ,M,k,hh,hs,jz.bind q fun W1 M1 xs vs H1 l1 h1 r1 p1=>by
  split at p1
  ·rename_i xs ys;obtain ⟨u,v,rfl,ru,rv⟩:=yI r1;obtain ⟨a,us,rfl,ha,ra⟩:=ru;obtain ⟨b,ws,rfl,hb,rb⟩:=rv
   have kk:W1.T.K=X.K:=by rw [l1.k,k]; exact hT
   refine ⟨a,b,rfl,⟨us,kk ▸ vi h1.f ha⟩,⟨ws,kk ▸ vi h1.f hb⟩,p1 W1 H1 _ (.refl W1) h1 fun W' M' H' le hh' i=>?_⟩;have qa:SqT X.K H' a us:=kk ▸ vi (fun b o q=>hh'.f b o (le.f b o q)) ha;have qb:SqT X.K H' b ws:=kk ▸ vi (fun b o q=>hh'.f b o (le.f b o q)) hb;refine ⟨fun z e=>?_,fun e=>?_⟩
   ·have e:(Yk xs ys)[i]? = some z:=Option.some.inj e;obtain ⟨x,y,ex,ey,rfl⟩:=Vo e;obtain ⟨u,eu,ru⟩:=ra.get ex;obtain ⟨v,ev,rv⟩:=rb.get ey;refine ⟨⟨us,ws,u,v,qa,qb,eu,ev⟩,fun t H'' hQQ=>?_⟩;obtain ⟨c,u',v',et,hc,hu,hv,eH⟩:=hQQ;subst et;subst eH;have hu:=hu us qa;have hv:=hv ws qb;rw [eu] at hu;rw [ev] at hv;cases hu;cases hv;exact vO (xs:=[x,y]) hh' (show jl W' _ [u,v] from ⟨_,_,rfl,ru.up0 le,_,_,rfl,rv.up0 le,rfl⟩) hc
   ·have e:(Yk xs ys)[i]? = none:=Option.some.inj e;exact ⟨us,ws,qa,qb,by rw [ra.length,rb.length]; exact Yr e⟩
  ·exact p1.elim⟩⟩
end
end L3
namespace L2
open PySem PySem.Spec PyProof.Rows
end L2
namespace L3
open PySem L2
end L3
namespace L2
open PySem PySem.Spec PyProof.Rows
section
variable {prog:Program} {w:World} {A:Around} {R:Result->Shared->Prop} {s:Shared}
theorem Jh {kx:Expr} {gens:List Comprehension} {scope:Scope} {pos:Pos} {d:Nat} {it acc:Value} {env:Env} {target iter:Expr} (h0:gens[d]? = some ⟨target,iter,[],0⟩)
  (h:codeAny (model prog w) A (.compLoop (.SetComp kx gens scope pos) d it acc env) R s)
  (hi:∀ E,wpAny (model prog w) A (pyIter it) (fun it' s'=>codeAny (model prog w) A (.compLoop (.SetComp kx gens scope pos) d it' acc env) R s') E s) :
  codeAny (model prog w) A (.compStart (.SetComp kx gens scope pos) d it acc env) R s:=by
 refine codeAny_of_tree ?_;show wpAny _ A ((compStart (.SetComp kx gens scope pos) d it acc env).onRaise (fun x=>do noteFrame x env; standAt theWindowsPlace)) _ _ s;refine wpAny_onRaise ?_;unfold compStart;have hc:(clausesOf (.SetComp kx gens scope pos))[d]? = some ⟨target,iter,[],0⟩:=h0;rw [hc];rw [if_neg (by simp)];refine wpAny_bind (wpAny_askSetting ?_);split
 ·exact wpAny_pure ⟨rfl,h⟩
 ·refine wpAny_bind (wpAny_rule ?_);refine wpAny_bind (wpAny_standAt ?_);exact wpAny_bind (wpAny_mono (hi _) (fun it' s' h'=>wpAny_pure ⟨rfl,h'⟩) fun _ _ z=>z)
theorem UL {kx:Expr} {gens:List Comprehension} {scope:Scope} {pos:Pos} {d:Nat} {it acc:Value} {env:Env} {target iter target' iter':Expr} (h0:gens[d]? = some ⟨target,iter,[],0⟩) (h1:gens[d + 1]? = some ⟨target',iter',[],0⟩)
  (hs:∀ x,foldedSetIterable iter' env x=pure x) (I:Nat->Shared->Prop)
  (turn:∀ n s,I n s->wpAny (model prog w) A (pyNext it) (fun r s₁=>match r with
   | none=>R (.ok .next) s₁
   | some v=>wpAny (model prog w) A (letOwnedTupleGo target it v) (fun _ s₁'=>wpAny (model prog w) A (assign target env v) (fun _ s₂ =>
     wpAny (model prog w) A (eval iter' env) (fun x s₃=>wpAny (model prog w) A (pyIter x) (fun it' s₄ =>
      codeAny (model prog w) A (.compStart (.SetComp kx gens scope pos) (d + 1) it' acc env) (fun r s₅=>match r with
       | .ok _=>∃ m,m < n∧I m s₅
       | .error _=>False) s₄) (fun _ _=>False) s₃) (fun _ _=>False) s₂) (fun _ _=>False) s₁') (fun _ _=>False) s₁) (fun _ _=>False) s)
  (n:Nat) (h:I n s):codeAny (model prog w) A (.compLoop (.SetComp kx gens scope pos) d it acc env) R s:=by
 refine codeAny_loop rfl I (fun n s hI=>?_) n h;show wpAny _ A ((compTurn (.SetComp kx gens scope pos) d it acc env).onRaise (fun x=>do noteFrame x env; theTreesLotGoes x)) _ _ s;refine wpAny_noted ?_;unfold compTurn;simp only [h0,h1,hs];refine wpAny_bind (wpAny_standAt ?_);rw [if_neg (by simp)];refine wpAny_bind (wpAny_mono (turn n s hI) (fun r s₁ h₁=>?_) fun _ _ h'=>h'.elim)
 cases r with
 | none=>exact wpAny_pure h₁
 | some v =>
  refine wpAny_bind (wpAny_mono h₁ (fun _ s₁' h₁'=>?_) fun _ _ h'=>h'.elim);refine wpAny_bind (wpAny_mono h₁' (fun _ s₂ h₂=>?_) fun _ _ h'=>h'.elim);refine wpAny_bind (wpAny_tests_nil ?_);rw [if_pos rfl];refine wpAny_bind (wpAny_mono h₂ (fun x s₃ h₃=>?_) fun _ _ h'=>h'.elim);refine wpAny_bind (wpAny_standAt ?_);rw [if_neg (by simp)];refine wpAny_bind (wpAny_pure ?_);rw [if_neg (by simp)];refine wpAny_bind (wpAny_holding (wpAny_mono h₃ (fun it' s₄ h₄=>?_) fun _ _ h'=>h'.elim));refine wpAny_bind (wpAny_runOwn (codeAny_mono h₄ fun r s₅ h₅=>?_))
  cases r with
  | ok f=>exact wpAny_pure ⟨rfl,h₅⟩
  | error e=>exact h₅.elim
theorem VL {kx:Expr} {gens:List Comprehension} {scope:Scope} {pos:Pos} {d:Nat} {it:Value} {acc:Addr} {env:Env} {target iter:Expr} (h0:gens[d]? = some ⟨target,iter,[],0⟩) (h1:gens[d + 1]? = none) (I:Nat->Shared->Prop)
  (turn:∀ n s,I n s->wpAny (model prog w) A (pyNext it) (fun r s₁=>match r with
   | none=>R (.ok .next) s₁
   | some v=>wpAny (model prog w) A (letOwnedTupleGo target it v) (fun _ s₁'=>wpAny (model prog w) A (assign target env v) (fun _ s₂ =>
     wpAny (model prog w) A (eval kx env) (fun kv s₃=>wpAny (model prog w) A (call (.builtin "set.add") [.ref acc,kv]) (fun _ s₅=>∃ m,m < n∧I m s₅) (fun _ _=>False) s₃) (fun _ _=>False) s₂) (fun _ _=>False) s₁') (fun _ _=>False) s₁) (fun _ _=>False) s)
  (n:Nat) (h:I n s):codeAny (model prog w) A (.compLoop (.SetComp kx gens scope pos) d it (.ref acc) env) R s:=by
 refine codeAny_loop rfl I (fun n s hI=>?_) n h;show wpAny _ A ((compTurn (.SetComp kx gens scope pos) d it (.ref acc) env).onRaise (fun x=>do noteFrame x env; theTreesLotGoes x)) _ _ s;refine wpAny_noted ?_;unfold compTurn;simp only [h0,h1];refine wpAny_bind (wpAny_standAt ?_);rw [if_neg (by simp)];refine wpAny_bind (wpAny_mono (turn n s hI) (fun r s₁ h₁=>?_) fun _ _ h'=>h'.elim)
 cases r with
 | none=>exact wpAny_pure h₁
 | some v =>
  refine wpAny_bind (wpAny_mono h₁ (fun _ s₁' h₁'=>?_) fun _ _ h'=>h'.elim);refine wpAny_bind (wpAny_mono h₁' (fun _ s₂ h₂=>?_) fun _ _ h'=>h'.elim);refine wpAny_bind (wpAny_tests_nil ?_);rw [if_pos rfl];exact wpAny_bind (wpAny_bind (wpAny_mono h₂ (fun kv s₃ h₃=>wpAny_bind (wpAny_standAt (wpAny_bind (wpAny_mono h₃ (fun _ s₅ h₅=>wpAny_pure (wpAny_pure ⟨rfl,h₅⟩)) fun _ _ h'=>h'.elim)))) fun _ _ h'=>h'.elim))
end
def yq (X:Cx) (kx:Expr) (gens:List Comprehension) (scope:Scope) (pos:Pos) (d:Nat) (acc:Addr) (s:Shared) (Po:Shared->Prop):Prop:=match gens[d + 1]? with
 | none=>wpAny (model X.prog X.w) X.A (eval kx X.env) (fun kv s₃=>wpAny (model X.prog X.w) X.A (call (.builtin "set.add") [.ref acc,kv]) (fun _ s₅=>Po s₅) (fun _ _=>False) s₃) (fun _ _=>False) s
 | some g=>wpAny (model X.prog X.w) X.A (eval g.iter X.env) (fun x s₃=>wpAny (model X.prog X.w) X.A (pyIter x) (fun it' s₄ =>
   codeAny (model X.prog X.w) X.A (.compStart (.SetComp kx gens scope pos) (d + 1) it' (.ref acc) X.env) (fun r s₅=>match r with
    | .ok _=>Po s₅
    | .error _=>False) s₄) (fun _ _=>False) s₃) (fun _ _=>False) s
theorem yq.mono {X:Cx} {kx:Expr} {gens:List Comprehension} {scope:Scope} {pos:Pos} {d:Nat} {acc:Addr} {s:Shared} {Po Po':Shared->Prop} (h:yq X kx gens scope pos d acc s Po) (k:∀ s,Po s->Po' s):yq X kx gens scope pos d acc s Po':=by
 unfold yq at h ⊢;split
 ·rename_i e;rw [e] at h;exact wpAny_mono h (fun x s₃ h₃=>wpAny_mono h₃ (fun _ s₅ h₅=>k s₅ h₅) fun _ _ z=>z) fun _ _ z=>z
 ·rename_i g e;rw [e] at h;refine wpAny_mono h (fun x s₄ h₄=>wpAny_mono h₄ (fun _ s₅ h₅=>codeAny_mono h₅ fun r s h=>?_) fun _ _ z=>z) fun _ _ z=>z
  cases r with
  | ok f=>exact k s h
  | error e=>exact h
theorem JD {X:Cx} {R:Result->Shared->Prop} {s:Shared} {kx:Expr} {gens:List Comprehension} {scope:Scope} {pos:Pos} {d:Nat} {it:Value} {acc:Addr} {target iter:Expr} (h0:gens[d]? = some ⟨target,iter,[],0⟩) (h1:Plainly X.env gens d) (I:Nat->Shared->Prop)
  (turn:∀ n s,I n s->wpAny (model X.prog X.w) X.A (pyNext it) (fun r s₁=>match r with
   | none=>R (.ok .next) s₁
   | some v=>wpAny (model X.prog X.w) X.A (letOwnedTupleGo target it v) (fun _ s₁'=>wpAny (model X.prog X.w) X.A (assign target X.env v) (fun _ s₂ =>
     yq X kx gens scope pos d acc s₂ fun s₅=>∃ m,m < n∧I m s₅) (fun _ _=>False) s₁') (fun _ _=>False) s₁) (fun _ _=>False) s)
  (n:Nat) (h:I n s):codeAny (model X.prog X.w) X.A (.compLoop (.SetComp kx gens scope pos) d it (.ref acc) X.env) R s:=by
 cases e:gens[d + 1]? with
 | none =>
  refine VL h0 e I (fun n s hI=>wpAny_mono (turn n s hI) (fun r s₁ h₁=>?_) fun _ _ z=>z) n h
  cases r with
  | none=>exact h₁
  | some v =>
   refine wpAny_mono h₁ (fun _ s₁' h₁'=>wpAny_mono h₁' (fun _ s₂ h₂=>?_) fun _ _ z=>z) fun _ _ z=>z;unfold yq at h₂;rw [e] at h₂;exact h₂
 | some g =>
  obtain ⟨target',iter',ifs',as'⟩:=g;obtain ⟨a,b,c⟩:=h1.h _ e;dsimp only at a b c;subst a;subst b;refine UL h0 e c I (fun n s hI=>wpAny_mono (turn n s hI) (fun r s₁ h₁=>?_) fun _ _ z=>z) n h
  cases r with
  | none=>exact h₁
  | some v =>
   refine wpAny_mono h₁ (fun _ s₁' h₁'=>wpAny_mono h₁' (fun _ s₂ h₂=>?_) fun _ _ z=>z) fun _ _ z=>z;unfold yq at h₂;rw [e] at h₂;exact h₂
def Xw (X:Cx) (kx:Expr) (gens:List Comprehension) (scope:Scope) (pos:Pos) (d:Nat) (tb:TB):Prop :=
 ∀ (acc:Addr) (pins:List (Addr × Obj)) (s:Shared) (σ:St) (H:Hp) (N:St->Hp->Prop),Inv X pins σ H s->tb acc σ H N->yq X kx gens scope pos d acc s fun s'=>∃ σ' H',Inv X pins σ' H' s'∧N σ' H'
def Uq (w:World) (J:It) (acc:Addr) (own:Nat) (js:List Nat) (g:TG) (tb:TB) (σ:St) (Q:VK) (H1:Hp):Prop :=
 ∃ W:Nat->Nat->St->Hp->Prop,(∃ m,W 0 m (yB own js σ) (upd H1 acc (yc w acc [])))∧∀ i m σ2 H2,W i m σ2 H2->(J.stop i H2∧Q (.ref acc) H2) ∨
  (J.go i H2∧∃ N:St->Hp->Prop,(∀ σ' H',N σ' H'->∃ m',m' < m∧W (i + 1) m' σ' H')∧∀ x H3,J.yld i H2 x H3->g x σ2 H3 fun σ4 H4=>tb acc σ4 H4 N)
def jat (w:World) (wi:TI) (own:Nat) (js:List Nat) (g:TG) (tb:TB):TE:=fun σ H Q=>wi σ H fun J H1=>∀ acc,H1 acc=none->Uq w J acc own js g tb σ Q H1
theorem VB {X:Cx} {kx:Expr} {gens:List Comprehension} {scope:Scope} {pos:Pos} {d:Nat} {target iter:Expr} {wi:TI} {g:TG} {tb:TB} (hxe:X.xe=fun _ _=>False) (hc:X.calm=true) (h1:gens[d + 1]? = some ⟨target,iter,[],0⟩) (h2:Plainly X.env gens (d + 1)) (hi:PI X target iter wi) (hg:PG X target g) (hb:Xw X kx gens scope pos (d + 1) tb):Xw X kx gens scope pos d (jau wi g tb):=by
 intro acc pins s σ H N I h;unfold yq;rw [h1];have hi':=hi pins s σ H _ I h;rw [hxe] at hi';refine thn hi' fun v s1 h1'=>thn h1' fun itv s2 h2'=>?_;obtain ⟨it,fp,tn,J,H2,e,I2,T,st2,f2,W,⟨m0,w0⟩,turn⟩:=h2';subst e
 have stat:∀ {H':Hp},(∀ b ∈ fp,H' b=none)->∀ b ∈ fp,yA X pins H' b:=fun hn b hb=>⟨hn b hb,(f2 b hb).2⟩
 have loop:codeAny (model X.prog X.w) X.A (.compLoop (.SetComp kx gens scope pos) (d + 1) (.ref it) (.ref acc) X.env) (fun r s₅=>match r with
    | .ok _=>∃ σ' H',Inv X pins σ' H' s₅∧N σ' H'
    | .error _=>False) s2:=by
  refine JD h1 h2 (fun n s'=>∃ i σ' H',Inv X pins σ' H' s'∧tn i s'.heap∧(∀ b ∈ fp,H' b=none)∧W i n σ' H') ?_ m0 ⟨0,σ,H2,I2,st2,fun b hb=>(f2 b hb).1,w0⟩;rintro n s3 ⟨i,σ3,H3,I3,st3,fr3,w3⟩
  rcases turn i n σ3 H3 w3 with ⟨stop,qn⟩ | ⟨go,N',hN,step⟩
  ·refine thn (T.done X rfl rfl rfl hc i pins s3 σ3 H3 _ I3 (stat fr3) st3 stop) fun r s4 hQQ=>?_;obtain ⟨hr,I4⟩:=hQQ;subst hr;exact ⟨σ3,H3,I4,qn⟩
  ·refine thn (T.item X rfl rfl rfl hc i pins s3 σ3 H3 _ I3 (stat fr3) st3 go) fun r s4 hQQ=>?_;obtain ⟨u,hr,h4⟩:=hQQ;subst hr;refine thn h4 fun _ s5 hQQ=>?_;obtain ⟨x,H5,I5,r5,y5,st5,fr5⟩:=hQQ;have I5':=I5.pinned (stat fr5) (T.obj _ _ st5);have hg':=hg _ s5 σ3 H5 x u _ I5' r5 (step x H5 y5);rw [hxe] at hg';refine thn hg' fun _ s6 hQQ=>?_;obtain ⟨σ6,H6,I6,q6⟩:=hQQ;refine (hb acc _ s6 σ6 H6 N' I6 q6).mono fun s7 hQQ=>?_;obtain ⟨σ7,H7,I7,n7⟩:=hQQ;obtain ⟨m',hm,w7⟩:=hN σ7 H7 n7;refine ⟨m',hm,i + 1,σ7,H7,I7.unpinned,T.keep _ _ _ st5 fun b hb o e=>(I7.pin (b,o) (List.mem_append_right _ (List.mem_append_right _ (jR hb e)))).1,fun b hb=>?_,w7⟩;obtain ⟨o,e,d⟩:=T.obj _ _ st5 b hb;exact (I7.pin (b,o) (List.mem_append_right _ (List.mem_append_right _ (jR hb e)))).2.1
 exact Jh h1 loop fun E=>T.self _ 0 _ _ _ st2 loop
theorem jgO {h:Heap} {a:Addr} {v v':Nat->Nat} {i:Nat} {L:Bool} (g:Sml.Got h a v i L) (e:∀ j,j < i->v j=v' j):Sml.Got h a v' i L:=by
 obtain ⟨es,S,m⟩:=g;refine ⟨es,S,fun x=>(m x).trans ⟨fun ⟨j,hj,q⟩=>⟨j,hj,by rw [q,e j hj]⟩,fun ⟨j,hj,q⟩=>⟨j,hj,by rw [q,e j hj]⟩⟩⟩
theorem jeY {prog:Program} {w:World} {A:Around} {E:Value->Shared->Prop} {s:Shared} {a:Addr} {val:Nat->Nat} {i:Nat} {L:Bool} {k:Tok} {Q:Value->Shared->Prop} (g:Sml.Got s.heap a val i L) (hv:val i < 16) (h:∀ h',Heap.SameBut a s.heap h'->Sml.Got h' a val (i + 1) L->Q .none { s with heap:=h',toks:=s.toks + 1 }) :
  wpAny (model prog w) A (call (.builtin "set.add") [.ref a,.int (val i) k]) Q E s:=by
 have hT:s.TypeIs (.ref a) "set":=by
  obtain ⟨es,⟨o,ep,t,p,ho,hx,_⟩,_⟩:=g;exact ⟨o,ho,hx.1⟩
 refine wpAny_call_entry F.slot_set_add hT F.entry_set_add ?_ (F.args_set_add_2 _ _);unfold Builtin.«set.add» Builtin.Frozenset.oneOther;simp only [List.isEmpty_nil,bind_assoc];unfold Builtin.Frozenset.addrOf setAdd;refine wpAny_bind (wpAny_pure ?_)
 try dsimp only
 refine wpAny_bind (wpAny_pure ?_)
 try dsimp only
 refine wpAny_bind ?_;refine wpAny_holding ?_;refine wpAny_bind ((intKind prog w).pyHash (k:=(val i:Int)) (intKind_is _ _ _ _) ?_);refine Sml.add_got (s:={ s with toks:=s.toks + 1 }) g hv fun b h' hsb hS'=>?_;show wpAny _ _ (ret Value.none) _ _ _;exact wpAny_pure ⟨_,rfl,h h' hsb hS'⟩
theorem jfy {X:Cx} {pins:List (Addr × Obj)} {σ:St} {H:Hp} {s:Shared} {a:Addr} {A:Around} {E:Value->Shared->Prop} {ns:List Int} {n:Int} {r:Value} {Q:Value->Shared->Prop} (I:Inv X pins σ H s) (e:H a=some (yc X.w a ns)) (h0:0<=n∧n < 16) (rv:jv (.int n) r) (h:∀ s',Inv X pins σ (upd H a (yc X.w a (ns ++ [n]))) s'->Q .none s') :
  wpAny (model X.prog X.w) A (call (.builtin "set.add") [.ref a,r]) Q E s:=by
 obtain ⟨t,rfl⟩:=rv
 obtain ⟨p,_⟩:=(show jM X.prog X.w H s.heap a (yc X.w a ns) from I.hok a _ e)
 have p:Sml.Got s.heap a (uO ns) ns.length (!Sml.byT X.w):=p
 have hv:uO (ns ++ [n]) ns.length=n.toNat:=by
  unfold uO;rw [List.getD_eq_getElem?_getD,List.getElem?_append_right (Nat.le_refl _),Nat.sub_self];rfl
 have g:Sml.Got s.heap a (uO (ns ++ [n])) ns.length (!Sml.byT X.w):=jgO p fun j hj=>by
  unfold uO;rw [List.getD_eq_getElem?_getD,List.getD_eq_getElem?_getD,List.getElem?_append_left hj]
 have hn:n=((uO (ns ++ [n]) ns.length:Nat):Int):=by rw [hv]; omega
 have:=jeY (prog:=X.prog) (w:=X.w) (A:=A) (E:=E) (s:=s) (k:=t) (Q:=Q) g (by rw [hv]; omega) fun h' hsb g'=>h _ ?_
 ·rw [<- hn] at this;exact this
 ·have g'':Sml.Got h' a (uO (ns ++ [n])) (ns ++ [n]).length (!Sml.byT X.w):=by
   rw [List.length_append];exact g'
  have ho:∃ o,h'.get? a=some o:=by
   obtain ⟨es,⟨o,_,_,_,q,_⟩,_⟩:=g'';exact ⟨o,q⟩
  exact I.write (x:=a) (e:=a) (t':=s.toks + 1) (h':=h') (by rw [e]; exact True.intro) (.inl rfl) (fun b z hb q=>(hsb.2 b hb).trans q) ho (jax g'')
def jft (w:World) (tk:TE):TB:=fun acc σ H N=>tk σ H fun y H6=>∃ ns n,y = .int n∧(0<=n∧n < 16)∧H6 acc=some (yc w acc ns)∧N σ (upd H6 acc (yc w acc (ns ++ [n])))
theorem jbU {X:Cx} {kx:Expr} {gens:List Comprehension} {scope:Scope} {pos:Pos} {d:Nat} {tk:TE} (hxe:X.xe=fun _ _=>False) (h1:gens[d + 1]? = none) (hk:PE X kx tk):Xw X kx gens scope pos d (jft X.w tk):=by
 intro acc pins s σ H N I h;unfold yq;rw [h1];have hk':=hk pins s σ H _ I h;rw [hxe] at hk';refine thn hk' fun y s10 hQQ=>?_;obtain ⟨ky,H10,I10,r10,ns,n,rfl,hn,ha,n11⟩:=hQQ
 exact jfy I10 ha hn r10 fun s12 I12=>⟨σ,_,I12,n11⟩
theorem jgi {prog:Program} {w:World} {A:Around} {E:Value->Shared->Prop} {s:Shared} {Q:Value->Shared->Prop} (h:Q (.ref s.heap.objs.size) { s with heap:=s.heap.push (Sml.set0 w) }):wpAny (model prog w) A (newSet (.type "set")) Q E s:=by
 unfold newSet;unfold setsByText;refine wpAny_bind (wpAny_bind (wpAny_askSetting (wpAny_pure ?_)));dsimp only;simp only [newObj];exact wpAny_bind (wpAny_alloc (wpAny_pure h))
section
variable {X:Cx} {pins:List (Addr × Obj)} {σ:St} {H:Hp} {s:Shared} {osc sc:Scope} {own fr:List Str} {js:List Nat} {fp:List Addr}
theorem Uf {acc:Addr} {s':Shared} {σ':St} {H':Hp} {N':List Str} (I:Inv X pins σ H s) (hacc:acc=s.heap.objs.size) {tk:Nat} (hf:∀ b ∈ fp,yA X pins H b)
  (J:Inv (jp X N' sc { s with heap:=s.heap.push (Sml.set0 X.w),toks:=tk } (upd H acc (yc X.w acc [])) fp) [] σ' H' s'):Inv X pins σ H' s':=by
 subst hacc
 refine I.call' J.os ?_ J.hok J.bare fun b hb=>⟨(hf b hb).2.2.2.1,(hf b hb).2.1,(hf b hb).2.2.2.2.1,(hf b hb).2.2.2.2.2⟩
 exact Un.trans (Un.laid (o:=yc X.w s.heap.objs.size []) (fun b u e=>Heap.get?_push_of_some _ e) (Nat.le_refl _) (I.hok.fresh (Nat.le_refl _))) J.base
theorem Ue {kx target iter:Expr} {ju:List Comprehension} {pos:Pos} {it:Addr} {tn:Nat->Heap->Prop} {J:It} {g:TG} {tb:TB} {Q:VK} {RR:Value->Addr->Result->Shared->Prop} {E:Value->Shared->Prop}
  (hc:X.calm=true) (ho:X.env.scope=osc) (S:CompScope osc sc own fr) (hj:js.map (fun j=>X.N[j]?)=fr.map some)
  (hg:∀ s₃ H₃ fp,PG (jp X (own ++ fr) sc s₃ H₃ fp) target g) (hpl:∀ s₃ H₃ fp,Plainly (jp X (own ++ fr) sc s₃ H₃ fp).env (⟨target,iter,[],0⟩ :: ju) 0) (hb:∀ s₃ H₃ fp,Xw (jp X (own ++ fr) sc s₃ H₃ fp) kx (⟨target,iter,[],0⟩ :: ju) sc pos 0 tb)
  (I:Inv X pins σ H s) (T:Turn X.prog X.w X.K target J fp it tn) (st:tn 0 s.heap) (hf:∀ b ∈ fp,yA X pins H b)
  (h:∀ acc,H acc=none->Uq X.w J acc own.length js g tb σ Q H)
  (fin:∀ acc C H' s',Inv X pins σ H' s'->yA X pins H' C->(∃ m,s'.heap.Ns C m)->Q (.ref acc) H'->RR (.ref acc) C (.ok .next) s') :
  wpAny (model X.prog X.w) X.A (newSet (.type "set")) (fun acc s₃=>wpAny (model X.prog X.w) X.A (newFunctionEnv sc X.env.globals (yS sc X.env) [] X.env.qual none .none (some X.env)) (fun cenv s₄ =>
   codeAny (model X.prog X.w) X.A (.compStart (.SetComp kx (⟨target,iter,[],0⟩ :: ju) sc pos) 0 (.ref it) acc { cenv with scope:=relabel sc X.env }) (RR acc cenv.locals) s₄) E s₃) E s:=by
 obtain ⟨W,⟨m0,w0⟩,turn⟩:=h s.heap.objs.size (I.hok.fresh (Nat.le_refl _))
 have hlt:∀ b ∈ fp,b < s.heap.objs.size:=fun b hb=>by
  obtain ⟨o,e,_⟩:=T.obj _ _ st b hb;exact Heap.lt_size e
 refine jgi ?_;have I3:Inv X pins σ (upd H s.heap.objs.size (yc X.w s.heap.objs.size [])) { s with heap:=s.heap.push (Sml.set0 X.w) }:=I.laid (a:=s.heap.objs.size) (o:=yc X.w s.heap.objs.size []) (t':=s.toks) (fun _ _ q=>Heap.get?_push_of_some _ q) (Nat.le_refl _) (jax (Sml.got0 (Heap.get?_push_size _ rfl) _))
 have f3:∀ b ∈ fp,yA X pins (upd H s.heap.objs.size (yc X.w s.heap.objs.size [])) b:=fun b hb=>⟨by rw [ji (Nat.ne_of_lt (hlt b hb))]; exact (hf b hb).1,(hf b hb).2⟩
 have hsz3:(s.heap.push (Sml.set0 X.w)).objs.size=s.heap.objs.size + 1:=Heap.size_push ..;refine yU ?_;dsimp only
 obtain ⟨h₁,e₁⟩:∃ h₁,h₁=pushCells ((s.heap.push (Sml.set0 X.w)).push { cls:=.type "dict",data:=.dict #[] }) sc.names:=⟨_,rfl⟩
 rw [<- e₁]
 have hns₁:h₁.Ns (s.heap.push (Sml.set0 X.w)).objs.size fun _=>none:=by
  rw [e₁];exact XU _ (Heap.Ns.new ..)
 have old:∀ b o,(s.heap.push (Sml.set0 X.w)).get? b=some o->h₁.get? b=some o:=fun b o e=>by
  rw [e₁];exact pushCells_keeps _ _ _ _ (Heap.get?_push_of_some _ e)
 have cel₁:∀ x c,(cellsFrom ((s.heap.push (Sml.set0 X.w)).objs.size + 1) sc.names (yS sc X.env)).lookup x=some c->∃ v,h₁.IsCell c v:=fun x c e=>by
  rw [e₁];refine vX sc.names _ (yS sc X.env) (fun y d q=>?_) (by rw [Heap.size_push]; exact e);obtain ⟨v,hv⟩:=I3.cell y d (xU I3 ho S q);exact ⟨v,hv.keeps fun b o e=>Heap.get?_push_of_some _ e⟩
 have lt3:∀ b ∈ fp,b < (s.heap.push (Sml.set0 X.w)).objs.size:=fun b hb=>by rw [hsz3]; exact Nat.lt_succ_of_lt (hlt b hb)
 have I4:=JI (own:=own) (fr:=fr) (js:=js) (tk:=s.toks) I3 ho S hj f3 lt3 hns₁ old cel₁;have st4:tn 0 h₁:=T.keep _ _ _ st fun b _ o e=>old b o (Heap.get?_push_of_some _ e)
 have fpX:∀ {H':Hp},(∀ b ∈ fp,H' b=none)->∀ b ∈ fp,yA (jp X (own ++ fr) sc { s with heap:=s.heap.push (Sml.set0 X.w) } (upd H s.heap.objs.size (yc X.w s.heap.objs.size [])) fp) [] H' b:=fun hn b hb =>
  ⟨hn b hb,Nat.ne_of_lt (lt3 b hb),fun hm=>by
   rcases List.mem_cons.mp (I.stkSub b hm) with z | z
   ·exact (hf b hb).2.1 z
   ·exact (hf b hb).2.2.1 z,.inl hb,fun x c e=>(Yd I3 ho S e).elim (fun z=>(hf b hb).2.2.2.2.1 x c z) (fun z=>Nat.ne_of_gt (Nat.lt_trans (lt3 b hb) z)),fun p hp=>absurd (show p ∈ ([]:List (Addr × Obj)) from hp) (by simp)⟩
 have loop:∀ s₃:Shared,s₃={ s with heap:=h₁ } ->
   codeAny (model X.prog X.w) X.A (.compLoop (.SetComp kx (⟨target,iter,[],0⟩ :: ju) sc pos) 0 (.ref it) (.ref s.heap.objs.size) (compEnvC sc (cellsFrom ((s.heap.push (Sml.set0 X.w)).objs.size + 1) sc.names (yS sc X.env)) (s.heap.push (Sml.set0 X.w)).objs.size X.env))
    (RR (.ref s.heap.objs.size) (s.heap.push (Sml.set0 X.w)).objs.size) s₃:=by
  rintro s₃ rfl
  refine JD (X:=jp X (own ++ fr) sc { s with heap:=s.heap.push (Sml.set0 X.w) } (upd H s.heap.objs.size (yc X.w s.heap.objs.size [])) fp) rfl (hpl _ _ _) (fun n s'=>∃ i σ' H',Inv (jp X (own ++ fr) sc { s with heap:=s.heap.push (Sml.set0 X.w) } (upd H s.heap.objs.size (yc X.w s.heap.objs.size [])) fp) [] σ' H' s'∧tn i s'.heap∧(∀ b ∈ fp,H' b=none)∧W i n σ' H')
   ?_ m0 ⟨0,_,_,I4,st4,fun b hb=>(f3 b hb).1,w0⟩
  rintro n s5 ⟨i,σ5,H5,I5,st5,fr5,w5⟩;have hc':(jp X (own ++ fr) sc { s with heap:=s.heap.push (Sml.set0 X.w) } (upd H s.heap.objs.size (yc X.w s.heap.objs.size [])) fp).calm=true:=hc
  rcases turn i n σ5 H5 w5 with ⟨stop,qn⟩ | ⟨go,N,hN,step⟩
  ·refine thn (T.done (jp X (own ++ fr) sc { s with heap:=s.heap.push (Sml.set0 X.w) } (upd H s.heap.objs.size (yc X.w s.heap.objs.size [])) fp) rfl rfl rfl hc' i [] s5 _ H5 _ I5 (fpX fr5) st5 stop) fun r s6 hQQ=>?_;obtain ⟨hr,I6⟩:=hQQ;subst hr;have B:=Uf I rfl (tk:=s.toks) hf I6;refine fin _ _ _ s6 B ?_ ?_ qn
   ·refine I.fpOk ?_ I6.free;show s.heap.objs.size<=(s.heap.push (Sml.set0 X.w)).objs.size;rw [hsz3];exact Nat.le_succ _
   ·obtain ⟨m,hm,_⟩:=I6.loc;exact ⟨m,hm⟩
  ·refine thn (T.item (jp X (own ++ fr) sc { s with heap:=s.heap.push (Sml.set0 X.w) } (upd H s.heap.objs.size (yc X.w s.heap.objs.size [])) fp) rfl rfl rfl hc' i [] s5 _ H5 _ I5 (fpX fr5) st5 go) fun r s6 hQQ=>?_;obtain ⟨u,hr,h6⟩:=hQQ;subst hr;refine thn h6 fun _ s7 hQQ=>?_;obtain ⟨x,H7,I7,r7,y7,st7,fr7⟩:=hQQ;have I7':=I7.pinned (fpX fr7) (T.obj _ _ st7);refine thn (hg _ _ _ _ s7 _ H7 x u _ I7' r7 (step x H7 y7)) fun _ s8 hQQ=>?_;obtain ⟨σ8,H8,I8,q8⟩:=hQQ;refine (hb _ _ _ _ _ s8 σ8 H8 N I8 q8).mono fun s9 hQQ=>?_;obtain ⟨σ9,H9,I9,n9⟩:=hQQ;obtain ⟨m',hm,w9⟩:=hN σ9 H9 n9;refine ⟨m',hm,i + 1,σ9,H9,I9.unpinned,T.keep _ _ _ st7 fun b hb o e=>(I9.pin (b,o) (List.mem_append_right _ (List.mem_append_right _ (jR hb e)))).1,fun b hb=>?_,w9⟩;obtain ⟨o,e,d⟩:=T.obj _ _ st7 b hb;exact (I9.pin (b,o) (List.mem_append_right _ (List.mem_append_right _ (jR hb e)))).2.1
 exact Jh rfl (loop _ rfl) fun E=>T.self _ 0 _ _ _ st4 (loop _ rfl)
end
section
variable {X:Cx} {osc sc:Scope} {own fr:List Str} {js:List Nat} {kx target iter:Expr} {ju:List Comprehension} {pos:Pos} {wi:TI} {g:TG} {tb:TB}
theorem jbY (hc:X.calm=true) (ho:X.env.scope=osc) (S:CompScope osc sc own fr) (hj:js.map (fun j=>X.N[j]?)=fr.map some) (hi:PI X target iter wi)
  (hg:∀ s₃ H₃ fp,PG (jp X (own ++ fr) sc s₃ H₃ fp) target g) (hpl:∀ s₃ H₃ fp,Plainly (jp X (own ++ fr) sc s₃ H₃ fp).env (⟨target,iter,[],0⟩ :: ju) 0) (hb:∀ s₃ H₃ fp,Xw (jp X (own ++ fr) sc s₃ H₃ fp) kx (⟨target,iter,[],0⟩ :: ju) sc pos 0 tb)
  (hs:∀ x,foldedSetIterable iter X.env x=pure x:=by intro _; rfl):PE X (.SetComp kx (⟨target,iter,[],0⟩ :: ju) sc pos) (jat X.w wi own.length js g tb):=by
 intro pins s σ H Q I h;rw [arm_eval_SetComp];refine wpAny_comprehension_free (use:=none) rfl hs (vy (jbh I ho S)) S.kind S.loc (thn (hi pins s σ H _ I h) fun v s1 h1=>thn h1 fun itv s2 h2=>?_);obtain ⟨it,fp,tn,J,H2,e,I2,T,st2,f2,q2⟩:=h2;subst e;refine Ue (RR:=fun acc C=>compPost (model X.prog X.w) X.A X.xe none (EP X pins σ Q) acc C) hc ho S hj hg hpl hb I2 T st2 f2 q2 fun acc C H' s' J hC hn q=>?_;obtain ⟨m,hm⟩:=hn;refine ⟨m,hm,fun h' hs'=>⟨.ref acc,H',?_,rfl,q⟩⟩;obtain ⟨f0,f1,f2',f3,f4,f5⟩:=hC;exact J.turned (t':=s'.toks) (fun b o hb e=>hs'.extBut b o hb e) f0 f1 f3 f4 f5
end
end L2
namespace L3
open PySem L2
abbrev EMS:=En->Sto->Res (List Int)
def jgv (dv:DE):EMS:=fun ρ M=>(dv ρ M).noX.bind fun y M1=>match y with
 | .int n=>if 0<=n∧n < 16 then .ok [n] M1 else .bad
 | _=>.bad
def vU (p:ItP) (g:DG) (em:EMS) (ρ:En):Nat->Nat->Sto->Res (List Int)
 | 0,_,_=>.bad
 | n + 1,k,M=>match nxt p M k with
  | none=>.bad
  | some none=>.ok [] M
  | some (some x)=>match g x ρ with
   | none=>.bad
   | some ρ'=>(em ρ' M).noX.bind fun ys M2=>(vU p g em ρ n (k + 1) M2).noX.bind fun zs M3=>.ok (ys ++ zs) M3
def emSC (g:DG) (di:En->Sto->Res ItP) (em:EMS):EMS:=fun ρ M=>(di ρ M).noX.bind fun p M1=>vU p g em ρ (jX p M1) 0 M1
def Vf (di:En->Sto->Res ItP) (g:DG) (own:Nat) (js:List Nat) (em:EMS):DE:=fun ρ M=>(di ρ M).bind fun p M1=>(vU p g em (List.replicate own none ++ ju js ρ) (jX p M1) 0 M1).noX.bind fun ys M2=>if uf ys=true then .ok (.lst ((yV ys).map PV.int)) M2 else .bad
def jfb (w:World) (W:Wd) (acc:Addr) (ρ:En) (l:List Int) (N:St->Hp->Prop) (r:Res (List Int)):Prop:=match r with
 | .ok zs M'=>∀ W' σ' H',W.le0 W'->W'.G=L2.upd W.G acc (yc w acc (l ++ zs))->Held W' M' H'->jJ W' ρ σ'->N σ' H'
 | _=>False
def lfS (w:World) (T:Tb) (own d:Nat) (em:EMS):TB:=fun acc σ H N=>∃ W ρ M l,W.T=T∧Held W M H∧jJ W ρ σ∧W.G acc=some (yc w acc l)∧(∀ j,d < j->j < own->ρ[j]? = some none)∧jfb w W acc ρ l N (em ρ M)
structure QMS (X:Cx) (T:Tb) (own:Nat) (kx:Expr) (gens:List Comprehension) (sc:Scope) (pos:Pos) (d e:Nat) (em:EMS):Prop where
 h:Xw X kx gens sc pos d (lfS X.w T own e em)
def Xv (g:DG) (own i e:Nat):Prop:=∀ (x:PV) (ρ ρ':En),g x ρ=some ρ'->(∀ j,i<=j->j < own->ρ[j]? = some none)->(∀ (W:Wd) (σ:St),jJ W ρ' σ->jJ W ρ σ)∧∀ j,e < j->j < own->ρ'[j]? = some none
theorem jas {own i:Nat} (hi:i < own):Xv (gN i) own i i:=fun x ρ ρ' h hn=>by
 cases h;refine ⟨fun W σ s=>xw (hn i (Nat.le_refl _) hi) s,fun j h1 h2=>?_⟩;rw [List.getElem?_set_ne (by omega)];exact hn j (by omega) h2
theorem jfm {own i:Nat} (hi:i + 1 < own):Xv (gT 2 (JK (gN i) (JK (gN (i + 1)) jeq))) own i (i + 1):=fun x ρ ρ' h hn=>by
 unfold gT at h;split at h
 rotate_left
 ·cases h
 rename_i xs;split at h
 rotate_left
 ·cases h
 rename_i hl
 match xs,hl with
 | [a,b],_ =>
  cases h
  have h1:(ρ.set i (some a))[i + 1]? = some none:=by
   rw [List.getElem?_set_ne (by omega)];exact hn _ (Nat.le_succ _) hi
  refine ⟨fun W σ s=>xw (hn i (Nat.le_refl _) (by omega)) (xw h1 s),fun j h1 h2=>?_⟩;rw [List.getElem?_set_ne (by omega),List.getElem?_set_ne (by omega)];exact hn j (by omega) h2
theorem jay {w:World} {a:Addr} {ns:List Int}:∀ vs,yc w a ns≠.tup vs:=fun vs z=>by
 unfold yc at z;cases z
section
variable {X:Cx} {T:Tb} {ES:St->XK} {own d:Nat} {kx target iter:Expr} {gens:List Comprehension} {sc:Scope} {pos:Pos} {di:En->Sto->Res ItP} {em:EMS} {dv:DE} {w:World}
theorem Vx {e:Nat} (hxe:X.xe=fun _ _=>False) (h1:gens[d + 1]? = none) (hv:QE X T ES0 kx dv):QMS X T own kx gens sc pos d e (jgv dv):=by
 refine ⟨fun acc pins s σ H N I hQ=>jbU hxe h1 hv.h acc pins s σ H N I ?_⟩;obtain ⟨W,ρ,M,l,k,hh,hs,ga,hN,f⟩:=hQ;refine ⟨W,ρ,M,k,hh,hs,?_⟩;unfold jgv at f
 cases e2:dv ρ M with
 | bad=>rw [e2] at f; exact f.elim
 | exc _ _=>rw [e2] at f; exact f.elim
 | ok y M2 =>
  rw [e2] at f;intro W5 H5 u l5 h5 r5
  obtain ⟨n,rfl⟩:∃ n,y = .int n:=by
   cases y with
   | int n=>exact ⟨n,rfl⟩
   | _=>exact f.elim
  have f:jfb X.w W acc ρ l N (if 0<=n∧n < 16 then .ok [n] M2 else .bad):=f
  by_cases hn:0<=n∧n < 16
  rotate_left
  ·rw [if_neg hn] at f; exact f.elim
  rw [if_pos hn] at f;cases (show u = .int n from r5)
  have ga5:W5.G acc=some (yc X.w acc l):=by rw [l5.g]; exact ga
  refine ⟨l,n,rfl,hn,(h5.gd _ _ ga5).1,?_⟩;refine f (W5.gd acc (yc X.w acc (l ++ [n]))) σ _ (l5.toLe0.trans Wd.le0_gd) ?_ (h5.reguardO jay ga5) ((hs.up l5).up0 Wd.le0_gd);show L2.upd W5.G acc _=L2.upd W.G acc _;rw [l5.g]
theorem jcI {W0:Wd} {it:ItP} {J:It} {acc:Addr} {ρ:En} {l:List Int} {N:St->Hp->Prop} {g:DG} {i0 e0:Nat} {M0:Sto} {σ:St} {H0:Hp} {tb:TB} (k0:W0.T=T) (ri:RI W0 it J) (g0:W0.G acc=some (yc w acc l)) (un:Xv g own i0 e0) (hn:∀ j,i0<=j->j < own->ρ[j]? = some none) (h0:Held W0 M0 H0) (hs:jJ W0 ρ σ)
  (f:jfb w W0 acc ρ l N (vU it g em ρ (jX it M0) 0 M0))
  (body:∀ (W:Wd) (M:Sto) (ρ':En) (l':List Int) (N':St->Hp->Prop) (σ4:St) (H4:Hp),W.T=T->Held W M H4->jJ W ρ' σ4->(∀ j,e0 < j->j < own->ρ'[j]? = some none)->W.G acc=some (yc w acc l')->jfb w W acc ρ' l' N' (em ρ' M)->tb acc σ4 H4 N') :
  ∃ Wk:Nat->Nat->St->Hp->Prop,(∃ m,Wk 0 m σ H0)∧∀ i m σ2 H2,Wk i m σ2 H2->(J.stop i H2∧N σ2 H2) ∨
   (J.go i H2∧∃ N':St->Hp->Prop,(∀ σ' H',N' σ' H'->∃ m',m' < m∧Wk (i + 1) m' σ' H')∧∀ v H3,J.yld i H2 v H3->lftG T g v σ2 H3 fun σ4 H4=>tb acc σ4 H4 N'):=by
 let Inn:Nat->Nat->St->Hp->Prop:=fun i m σ2 H2=>∃ W1 M1 ys,W0.le0 W1∧W1.G=L2.upd W0.G acc (yc w acc (l ++ ys))∧Held W1 M1 H2∧jJ W1 ρ σ2∧(match vU it g em ρ m i M1 with
  | .ok zs M'=>∀ W' σ' H',W0.le0 W'->W'.G=L2.upd W0.G acc (yc w acc (l ++ (ys ++ zs)))->Held W' M' H'->jJ W' ρ σ'->N σ' H'
  | _=>False)
 refine ⟨Inn,⟨jX it M0,W0,M0,[],(Wd.le.refl W0).toLe0,by rw [List.append_nil]; exact (jcF g0).symm,h0,hs,?_⟩,?_⟩
 ·cases e:vU it g em ρ (jX it M0) 0 M0 with
  | bad=>rw [e] at f; exact f.elim
  | exc _ _=>rw [e] at f; exact f.elim
  | ok zs M' =>
   rw [e] at f;exact fun W' σ' H' le g h s=>f W' σ' H' le g h s
 intro i m σ2 H2 hI;obtain ⟨W1,M1,ys,le1,g1,h1,s1,f1⟩:=hI;have k1:W1.T=T:=le1.k.trans k0
 cases m with
 | zero=>exact f1.elim
 | succ m =>
  unfold vU at f1;obtain ⟨goes,stops⟩:=ri W1 M1 H2 le1 h1 i;split at f1
  rotate_left
  ·exact f1.elim
  rename_i zs M' ef;split at ef
  ·cases ef
  ·rename_i en;cases ef;exact .inl ⟨stops en,f1 W1 σ2 H2 le1 (by rw [List.append_nil]; exact g1) h1 s1⟩
  ·rename_i x en;obtain ⟨go,yld⟩:=goes x en;refine .inr ⟨go,Inn (i + 1) m,fun σ' H' q=>⟨m,Nat.lt_succ_self _,q⟩,fun v H3 hy=>?_⟩;obtain ⟨W2,l2,h2,r2⟩:=yld v H3 hy
   have ga:W2.G acc=some (yc w acc (l ++ ys)):=by rw [l2.g,g1,jo]
   cases eg:g x ρ with
   | none=>rw [eg] at ef; cases ef
   | some ρ' =>
   rw [eg] at ef;have ef:((em ρ' M1).noX.bind fun ys M2=>(vU it g em ρ m (i + 1) M2).noX.bind fun zs M3=>Res.ok (ys ++ zs) M3) = .ok zs M':=ef;obtain ⟨back,fr⟩:=un x ρ ρ' eg hn;refine ⟨W2,ρ,M1,x,ρ',l2.k.trans k1,h2,s1.up l2,r2,eg,fun σ4 s4=>?_⟩;refine body W2 M1 ρ' (l ++ ys) _ σ4 H3 (l2.k.trans k1) h2 s4 fr ga ?_
   cases e1:em ρ' M1 with
   | bad=>rw [e1] at ef; cases ef
   | exc _ _=>rw [e1] at ef; cases ef
   | ok ys1 M2 =>
    rw [e1] at ef;have ef:((vU it g em ρ m (i + 1) M2).noX.bind fun zs M3=>Res.ok (ys1 ++ zs) M3) = .ok zs M':=ef
    cases e2:vU it g em ρ m (i + 1) M2 with
    | bad=>rw [e2] at ef; cases ef
    | exc _ _=>rw [e2] at ef; cases ef
    | ok zs1 M3 =>
     rw [e2] at ef;cases ef;intro W' σ' H' le gg h s;refine ⟨W',M2,ys ++ ys1,(le1.trans l2.toLe0).trans le,?_,h,back W' σ' s,?_⟩
     ·rw [gg,l2.g,g1,xX,List.append_assoc]
     ·rw [e2];exact fun W' σ' H' le g h s=>f1 W' σ' H' le (by rw [<- List.append_assoc ys]; exact g) h s
theorem Uy {e i e':Nat} {g:DG} (hxe:X.xe=fun _ _=>False) (hc:X.calm=true) (h1:gens[d + 1]? = some ⟨target,iter,[],0⟩) (h2:Plainly X.env gens (d + 1)) (hi:QI X T ES0 target iter di) (hg:QG X T target g) (un:Xv g own i e') (hei:e < i) (hb:QMS X T own kx gens sc pos (d + 1) e' em):QMS X T own kx gens sc pos d e (emSC g di em):=by
 refine ⟨fun acc pins s σ H N I hQ=>VB hxe hc h1 h2 hi.h hg.h hb.h acc pins s σ H N I ?_⟩;obtain ⟨W,ρ,M,l,k,hh,hs,ga,hN,f⟩:=hQ;refine ⟨W,ρ,M,k,hh,hs,?_⟩;unfold emSC at f
 cases e:di ρ M with
 | bad=>rw [e] at f; exact f.elim
 | exc _ _=>rw [e] at f; exact f.elim
 | ok it M0 =>
  rw [e] at f;have f:jfb X.w W acc ρ l N (vU it g em ρ (jX it M0) 0 M0):=f;intro W0 H0 J l0 h0 ri
  have g0:W0.G acc=some (yc X.w acc l):=by rw [l0.g]; exact ga
  refine jcI (T:=T) (em:=em) (M0:=M0) (l0.k.trans k) ri g0 un (fun j h1 h2=>hN j (by omega) h2) h0 (hs.up l0) ?_ ?_
  ·cases e2:vU it g em ρ (jX it M0) 0 M0 with
   | bad=>rw [e2] at f; exact f.elim
   | exc _ _=>rw [e2] at f; exact f.elim
   | ok zs M' =>
    rw [e2] at f;exact fun W' σ' H' le g h s=>f W' σ' H' (l0.toLe0.trans le) (by rw [g,l0.g]) h s
  ·intro W1 M1 ρ' us N' σ4 H4 k1 h1 s1 fr g1 f1;exact ⟨W1,ρ',M1,us,k1,h1,s1,g1,fr,f1⟩
theorem jab {js:List Nat} {σ:St} {H:Hp} {Q:VK} {g:DG} {e:Nat} (un:Xv g own 0 e) (h:lft T Rep ES (Vf di g own js em) σ H Q) :
  jat w (lft T RI ES di) own js (lftG T g) (lfS w T own e em) σ H fun x H1=>∃ (p:Addr) (ns:List Int),[x]=[.ref p]∧H1 p=some (yc w p ns)∧(∀ n ∈ ns,0<=n∧n < 16)∧∀ l:Addr,H1 l=none->Q (.ref l) (L2.upd H1 l (.lst ((yV ns).map V.int))):=by
 obtain ⟨W,ρ,M,k,hh,hs,p⟩:=h;refine ⟨W,ρ,M,k,hh,hs,jz.bind p fun W0 M0 it J H0 l0 h0 ri p0=>fun acc hacc=>?_⟩;have k0:W0.T=T:=l0.k.trans k;have hs0:=hs.up l0
 have gacc:W0.G acc=none:=by
  cases q:W0.G acc with
  | none=>rfl
  | some o =>
   rw [(h0.gd acc o q).1] at hacc;cases hacc
 have p0:jz W0 Rep ((vU it g em (List.replicate own none ++ ju js ρ) (jX it M0) 0 M0).noX.bind fun ys M2=>if uf ys=true then .ok (.lst ((yV ys).map PV.int)) M2 else .bad) Q (ES σ):=p0
 cases e:vU it g em (List.replicate own none ++ ju js ρ) (jX it M0) 0 M0 with
 | bad=>rw [e] at p0; exact p0.elim
 | exc _ _=>rw [e] at p0; exact p0.elim
 | ok zs M' =>
 rw [e] at p0;have p0:jz W0 Rep (if uf zs=true then .ok (.lst ((yV zs).map PV.int)) M' else .bad) Q (ES σ):=p0
 by_cases hz:uf zs=true
 rotate_left
 ·rw [if_neg hz] at p0; exact p0.elim
 rw [if_pos hz] at p0;have p0:∀ W' H' v,W0.le W'->Held W' M' H'->Rep W' (.lst ((yV zs).map PV.int)) v->Q v H':=p0
 have hn:∀ j,0<=j->j < own->(List.replicate own none ++ ju js ρ)[j]? = some none:=fun j _ hj=>by
  rw [List.getElem?_append_left (by simpa using hj),List.getElem?_replicate,if_pos hj]
 have gn:(W0.gd acc (yc w acc [])).G acc=some (yc w acc []):=jo;refine jcI (T:=T) (em:=em) (M0:=M0) (W0:=W0.gd acc (yc w acc [])) (l:=[]) (N:=fun _ H1=>∃ (p:Addr) (ns:List Int),[V.ref acc]=[.ref p]∧H1 p=some (yc w p ns)∧(∀ n ∈ ns,0<=n∧n < 16)∧∀ l:Addr,H1 l=none->Q (.ref l) (L2.upd H1 l (.lst ((yV ns).map V.int)))) (ρ:=List.replicate own none ++ ju js ρ) k0 (fun W' M' H' le=>ri W' M' H' (Wd.le0_gd.trans le)) gn un hn (h0.guardO jay hacc) ((YW own hs0).up0 Wd.le0_gd) ?_ ?_
 ·rw [e];intro W' σ' H' le gg h s
  have g':W'.G=L2.upd W0.G acc (yc w acc zs):=by
   rw [gg];show L2.upd (L2.upd W0.G acc (yc w acc [])) acc _=_;rw [xX];rfl
  have ga1:W'.G acc=some (yc w acc zs):=by rw [g',jo]
  obtain ⟨ha,_,_⟩:=h.gd acc _ ga1
  obtain ⟨l2,h2⟩:=h.unguard (G0:=W0.G) ga1 fun b u q=>by
   have z:b≠acc:=fun z=>by rw [z,gacc] at q; cases q
   refine ⟨?_,z⟩;rw [g',ji z];exact q
  refine ⟨acc,zs,rfl,ha,Yy hz,fun l hl=>?_⟩;obtain ⟨l3,h3,f3⟩:=h2.frz (o:=.lst ((yV zs).map V.int)) hl
  have l4:W0.le (W'.out W0.G acc (yc w acc zs)):=⟨(Wd.le0_gd.trans le).trans l2,rfl⟩
  exact p0 _ _ (.ref l) (l4.trans l3) h3 ⟨l,_,rfl,f3,jl.ints.mpr rfl⟩
 ·intro W1 M1 ρ' us N' σ4 H4 k1 h1 s1 fr g1 f1;exact ⟨W1,ρ',M1,us,k1,h1,s1,g1,fr,f1⟩
end
section
variable {X:Cx} {T:Tb} {ES:St->XK} {osc sc:Scope} {own fr:List Str} {js:List Nat} {kx target iter:Expr} {ju:List Comprehension} {pos p pos1:Pos} {di:En->Sto->Res ItP} {em:EMS} {g:DG} {e:Nat}
theorem Vz (un:Xv g own.length 0 e) (hc:X.calm=true) (ho:X.env.scope=osc) (S:CompScope osc sc own fr) (hj:js.map (fun j=>X.N[j]?)=fr.map some) (hgl:Gl X "sorted") (hm:X.mg "sorted" = none) (hv:bootBuiltins "sorted" = some (.builtin "sorted")) (hi:QI X T ES target iter di)
  (hg:∀ s₃ H₃ fp,QG (jp X (own ++ fr) sc s₃ H₃ fp) T target g) (hpl:∀ s₃ H₃ fp,Plainly (jp X (own ++ fr) sc s₃ H₃ fp).env (⟨target,iter,[],0⟩ :: ju) 0) (hb:∀ s₃ H₃ fp,QMS (jp X (own ++ fr) sc s₃ H₃ fp) T own.length kx (⟨target,iter,[],0⟩ :: ju) sc pos 0 e em)
  (hs:∀ x,foldedSetIterable iter X.env x=pure x:=by intro _; rfl) (hs1:starEach [.SetComp kx (⟨target,iter,[],0⟩ :: ju) sc pos] X.env=[(false,eval (.SetComp kx (⟨target,iter,[],0⟩ :: ju) sc pos) X.env)]:=by rfl) :
  QE X T ES (.Call (.Name "sorted" p) [.SetComp kx (⟨target,iter,[],0⟩ :: ju) sc pos] [] pos1) (Vf di g own.length js em) :=
 ⟨jO (VC (Vh hc) hgl hm hv (uZ (jbY hc ho S hj hi.h (fun a b c=>(hg a b c).h) hpl (fun a b c=>(hb a b c).h) hs) UE (by rw [hs1]; rfl)) (by decide) (by decide) (by rw [hs1]; rfl) (by rfl)) fun σ H Q hQQ=>jab un hQQ⟩
end
end L3
namespace L2
open PySem PySem.Spec PyProof.Rows PySem.W
def ItE (a:Addr) (o:Obj):It:=⟨fun _ _=>False,fun _ _ _ _=>False,fun _ H=>H a=some (.frz o (.dK []))⟩
theorem jhc {X:Cx} {pins:List (Addr × Obj)} {σ:St} {H:Hp} {s:Shared} {a:Addr} {o:Obj} (I:Inv X pins σ H s) (e:H a=some (.frz o (.dK []))):s.heap.get? a=some o∧(a == sysModules)=false∧o.ExactDict∧∃ ep,o.data = .dict #[] ep∧s.heap.DictAt (jI X.prog X.w) a [] ep:=by
 obtain ⟨ho,hl,hd,vs,rel,o',es,ep,ho',hx,hdat,he,hp,nd⟩:=(show jM X.prog X.w H s.heap a (.frz o (.dK [])) from I.hok a _ e)
 rw [ho] at ho';cases ho';cases rel
 have h0:es = #[]:=by
  cases es with
  | mk l =>
   cases hp;rfl
 subst h0;exact ⟨ho,hd,hx,ep,hdat,o,#[],ho,hx,hdat,he,hp,nd⟩
theorem Ut {P:Program} {w:World} {K:PySem.W.Frag} {tg:Expr} {a it:Addr} {o:Obj} {ep:Nat} (hd:o.data = .dict #[] ep) :
  Turn P w K tg (ItE a o) [it] it (fun i h=>h.IsValIter it a i 0 ep) where
 mem:=by simp
 obj:=fun i h st c hc=>by
  obtain ⟨oi,h1,h2,h3⟩:=st
  have hc:c=it:=by simpa using hc
  subst hc;exact ⟨_,h1,fun v e=>by rw [h3] at e; cases e⟩
 keep:=fun i h h' st k=>st.at fun o e=>k it (by simp) _ e
 item:=by
  intro X hP hw hK hc i pins s σ H E I hf st hg;exact hg.elim
 done:=by
  intro X hP hw hK hc i pins s σ H E I hf st hg;subst hP hw hK;have ha:H a=some (.frz o (.dK [])):=hg;obtain ⟨ho,hs,hx,ep',hd',hat⟩:=jhc I ha;rw [hd] at hd';cases hd';obtain ⟨f0,f1,f2,f3,f4,f5⟩:=hf it (by simp)
  exact wpAny_pyNext_values_end (I.ok.hd hc) st hat (by simp) fun h' eb=>⟨rfl,I.turned (t':=s.toks) (fun b o hb q=>eb b o hb q) f0 f1 f3 f4 f5⟩
 self:=fun A i s Q E st h=>wpAny_pyIter_valiter st h
def iValsE (te:TE):TI:=fun σ H R=>te σ H fun x H1=>∃ a,x = .ref a∧H1 a=some (.dK [])∧∀ o,R (ItE a o) (upd H1 a (.frz o (.dK [])))
theorem jdE {X:Cx} {tg l:Expr} {te:TE} {apos cpos:Pos} (he:PE X l te) (hbase:attributeBase l "values" X.env (eval l X.env)=eval l X.env:=by rfl) (hline:(apos.endLine == cpos.line)=true:=by rfl) :
  PI X tg (.Call (.Attribute l "values" apos) [] [] cpos) (iValsE te):=by
 intro pins s σ H R I h;refine wpAny_Call_method0_late hbase hline (thn (he pins s σ H _ I h) fun v s1 hQQ=>?_);obtain ⟨x,H1,I1,rx,a,rfl,ha,q⟩:=hQQ;obtain rfl:v=Value.ref a:=rx;obtain ⟨o,I2⟩:=I1.freezeK ha;obtain ⟨ho,hs,hx,ep,hd,hat⟩:=jhc I2 jo
 have t1:s1.TypeIs (.ref a) "dict":=⟨o,ho,hx.1⟩
 have t2:∀ b,Value.ref a = .ref b->∃ ob,s1.heap.get? b=some ob∧ob.dict=none:=fun b q=>by
  cases q;exact ⟨o,ho,hx.2.1⟩
 refine ⟨"dict","dict.values",PySem.F.plainAttrs_dict,PySem.F.slot_dict_values,PySem.F.type_dict_values,t1,t2,Calls.callWith_builtin rfl (PySem.evalArgs_none ?_)⟩;refine call_meetsIn PySem.F.slot_dict_values t1 PySem.F.entry_dict_values (PySem.F.args_dict_values_1 _) (meets_dict_values (jI X.prog X.w) a hs) ⟨⟨_,hat.dictOf⟩,?_⟩;refine wpAny_pyIter_values (knd:=jI X.prog X.w) (kvs:=[]) (ep:=ep) ⟨_,Heap.get?_push_size _ rfl,rfl,rfl⟩ (hat.push _) ?_;have sz:(s1.heap.push { cls:=.type "dict_values",data:=.fields #[.ref a] }).objs.size=s1.heap.objs.size + 1:=Heap.size_push ..;refine ⟨_,[_],_,_,upd H1 a (.frz o (.dK [])),rfl,I2.kept (t':=s1.toks) (fun b ob e=>Heap.get?_push_of_some _ (Heap.get?_push_of_some _ e)),Ut hd,⟨_,Heap.get?_push_size _ rfl,rfl,rfl⟩,fun c hc=>?_,q o⟩
 have hc:c=(s1.heap.push { cls:=.type "dict_values",data:=.fields #[.ref a] }).objs.size:=by simpa using hc
 have le:s1.heap.objs.size<=c:=by rw [hc,sz]; exact Nat.le_succ _
 exact I2.fpOk le (I2.hok.fresh le)
def tForE (wi:TI):TS:=fun D σ H=>wi σ H fun J H1=>J.stop 0 H1∧D.nx σ H1
theorem jfM {X:Cx} {tg iter:Expr} {body:List Stmt} {wi:TI} {pos:Pos} (hc:X.calm=true) (hi:PI X tg iter wi) (hs:∀ x,foldedSetIterable iter X.env x=pure x:=by intro _; rfl):PS X (.For tg iter body [] pos) (tForE wi):=by
 intro pins s σ H D I h;refine wpAny_For (thn (hi pins s σ H _ I h) fun v s1 h1=>thn h1 fun itv s2 h2=>?_) hs;obtain ⟨it,fp,tn,J,H2,e,I2,T,st2,f2,stop,qn⟩:=h2;subst e;refine codeAny_forLoop_any (fun n s'=>n=0∧Inv X pins σ H2 s'∧tn 0 s'.heap) ?_ 0 ⟨rfl,I2,st2⟩;rintro n s3 ⟨rfl,I3,st3⟩;refine wpAny_noRaise (thn (T.done X rfl rfl rfl hc 0 pins s3 σ H2 (fun _ _=>False) I3 f2 st3 stop) fun r s4 hQQ=>?_);obtain ⟨hr,I4⟩:=hQQ;subst hr;exact wpAny_execs_nil ⟨σ,H2,I4,qn⟩
theorem jgc {X:Cx}:OpR X (compareOp .IsNot) (fun x y H Q=>∃ a b,x = .bl a∧y = .bl b∧Q (.bl (a != b)) H):=by
 intro pins s σ H x y v u Q I rx ry h;obtain ⟨a,b,rfl,rfl,q⟩:=h;cases rx;cases ry;exact isnot_bool ⟨.bl _,H,I,rfl,q⟩
end L2
namespace L2
open PySem PySem.Spec PyProof.Rows
theorem jgm {X:Cx} {pins:List (Addr × Obj)} {σ:St} {H:Hp} {s:Shared} {b:Addr} {ks:List Key} (I:Inv X pins σ H s) (e:SqT X.K H b (ks.map kV)):(tupleKind (jI X.prog X.w)).is s.heap ks b:=by
 obtain ⟨its,r,⟨o,h1,h2,n,h3⟩,_⟩:=I.tuple e;exact ⟨o,its.toArray,n,h1,h2,h3,by simpa using uu r⟩
def jcM (K:PySem.W.Frag) (neg:Bool) (ty td:TE):TE:=fun σ H Q=>ty σ H fun y H1=>td σ H1 fun x H2=>∃ a kvs k b,x = .ref a∧y = .ref b∧H2 a=some (.dT kvs)∧SqT K H2 b (k.map kV)∧Q (.bl (if neg then !(xq kvs k).isSome else (xq kvs k).isSome)) H2
section
variable {X:Cx} {o i:Expr} {td ty:TE}
theorem UD (hu:X.A.units + 1 < cLine) (hi:PE X i ty) (ho:PE X o td):PC X .NotIn i o (jcM X.K true ty td):=by
 intro pins s σ H Q I h;refine thn (hi pins s σ H _ I h) fun iv s1 ⟨y,H1,I1,ry,q1⟩=>thn (ho pins s1 σ H1 _ I1 q1) fun u s2 hQQ=>?_;obtain ⟨x,H2,I2,rx,a,kvs,k,b,rfl,rfl,ha,hb,q2⟩:=hQQ;obtain rfl:u=Value.ref a:=rx;cases (show iv=Value.ref b from ry);obtain ⟨z,hd,xs,rel,dd⟩:=jbc I2.hok (.inl ha);refine wpAny_notIn_heap (tupleKind_room_in1 hu) (jgm I2 hb) hd dd ?_;have q:=(rel.val k).isSome_eq;rw [Option.isSome_map] at q;rw [<- q];exact ⟨.bl _,H2,I2.tok _,rfl,q2⟩
end
end L2
namespace L3
open PySem L2
theorem Held.freezeU {W:Wd} {M:Sto} {H:Hp} {i:Nat} {a:Addr} {c0:Cell} {v:HO} (h:Held W M H) (e:M.g i=some c0) (ea:W.α i=some a) (o:Obj) :
  W.le (W.frz a (.frz o v))∧Held (W.frz a (.frz o v)) (M.drop i) (L2.upd H a (.frz o v)):=by
 obtain ⟨b,u,g1,g2,g3,g4⟩:=h.m i _ e;rw [ea] at g1;cases g1;have le:=Wd.le_frz (o:=.frz o v) g2;have hd:=h.drop i;refine ⟨le,⟨fun b u q=>?_,fun j c q=>?_,fun j k b c1 c2 q1 q2 e1 e2=>hd.inj j k b c1 c2 q1 q2 e1 e2,h.top,fun b u q=>?_,h.gl⟩⟩
 ·have q:L2.upd W.F a (.frz o v) b=some u:=q
  by_cases z:b=a
  ·subst z;rw [jo] at q ⊢;exact q
  ·rw [ji z] at q ⊢;exact h.f b u q
 ·have q:(if j=i then none else M.g j)=some c:=q
  by_cases z:j=i
  ·rw [if_pos z] at q; cases q
  ·rw [if_neg z] at q;obtain ⟨b,u',h1,h2,h3,h4⟩:=h.m j c q;have nb:b≠a:=fun zz=>z (h.inj j i a c _ q e (zz ▸ h1) ea);refine ⟨b,u',h1,?_,by rw [ji nb]; exact h3,h4.up le⟩;show L2.upd W.F a _ b=none;rw [ji nb];exact h2
 ·obtain ⟨h1,h2,h3⟩:=hd.gd b u q;have nb:b≠a:=fun z:b=a=>(h.gd b u q).2.2 i _ e (z ▸ ea);refine ⟨by rw [ji nb]; exact h1,?_,h3⟩;show L2.upd W.F a _ b=none;rw [ji nb];exact h2
def jgP (M:Sto) (x:PV):Option Sto:=match x with
 | .ref j=>(match M.g j with
  | some (.dkv [])=>some (M.drop j)
  | _=>none)
 | _=>none
def jeN (d:DE):En->Sto->Res ItP:=fun ρ M=>(d ρ M).bind fun x M1=>match jgP M1 x with
 | some M2=>.ok (.fix []) M2
 | none=>.bad
def jgY (neg:Bool) (M:Sto) (y o:PV):Option PV:=match y with
 | .tup ks=>inTv neg M ks o
 | _=>none
def UY (neg:Bool) (dy do_:DE):DE:=fun ρ M=>(dy ρ M).bind fun y M1=>(do_ ρ M1).bind fun o M2=>match jgY neg M2 y o with
 | some z=>.ok z M2
 | none=>.bad
def sRow (i:Nat) (dk:DA) (d do_:DE):DS:=fun ρ M=>(dk ρ M).st ρ fun ks M0=>if ks.length<=sizeLine∧i < ρ.length then (d (ρ.set i (some (.tup ks))) M0).st (ρ.set i (some (.tup ks))) fun x M1=>(do_ (ρ.set i (some (.tup ks))) M1).st (ρ.set i (some (.tup ks))) fun o M2=>(match YZ M2 o ks x with
 | some M4=>.nx (ρ.set i (some (.tup ks))) M4
 | none=>.bad) else .bad
section
variable {X:Cx} {T:Tb} {ES:St->XK} {e o y:Expr} {d do_ dy:DE} {dk:DA} {pos:Pos}
theorem jdo {tg:Expr} {apos cpos:Pos} (h:QE X T ES e d) (hbase:attributeBase e "values" X.env (eval e X.env)=eval e X.env:=by rfl) (hline:(apos.endLine == cpos.line)=true:=by rfl) :
  QI X T ES tg (.Call (.Attribute e "values" apos) [] [] cpos) (jeN d) :=
 ⟨vo (jdE h.h hbase hline) fun σ H R hQQ=>jC hQQ fun W ρ M k hh hs q=>⟨W,ρ,M,k,hh,hs,jz.bind q fun W1 M1 x v H1 l1 h1 r1 p1=>by
  split at p1
  rotate_left
  ·exact p1.elim
  rename_i M2 e2;unfold jgP at e2;split at e2
  rotate_left
  ·cases e2
  rename_i j;split at e2
  rotate_left
  ·cases e2
  rename_i e5;cases e2;obtain ⟨a,rfl,ea⟩:=r1;obtain ⟨b,u,g1,g2,g3,vs,rfl,ra⟩:=h1.m j _ e5;rw [ea] at g1;cases g1;have hv:vs=[]:=ra;subst hv;refine ⟨a,rfl,g3,fun ob=>?_⟩;obtain ⟨le,h2⟩:=h1.freezeU (v:=.dK []) e5 ea ob
  refine p1 _ _ _ le h2 fun W' M' H' le' hh' i=>⟨fun z e=>?_,fun _=>hh'.f _ _ (le'.f _ _ (show L2.upd W1.F a _ a=_ from jo))⟩
  have e:([]:List PV)[i]? = some z:=Option.some.inj e
  cases i <;> cases e⟩⟩
theorem jhE {K K':PySem.W.Frag} {F H:Hp} {b:Addr} {xs:List V} (e:K=K') (h:SqT K F b xs) (f:∀ a o,F a=some o->H a=some o):SqT K' H b xs:=by
 subst e
 rcases h with (h | ⟨o,h⟩) | h
 ·exact .inl (.inl (f _ _ h))
 ·exact .inl (.inr ⟨o,f _ _ h⟩)
 ·exact .inr h
theorem UO {neg:Bool} {σ:St} {H:Hp} {Q:VK} (hT:T.K=X.K) (h:lft T Rep ES (UY neg dy do_) σ H Q):jcM X.K neg (lft T Rep ES dy) (lft T Rep ES do_) σ H Q:=by
 refine jC h fun W ρ M k hh hs q=>⟨W,ρ,M,k,hh,hs,jz.bind q fun W1 M1 yy yv H1 l1 h1 r1 q1=>⟨W1,ρ,M1,l1.k.trans k,h1,hs.up l1,jz.bind q1 fun W2 M2 o' ov H2 l2 h2 r2 q2=>?_⟩⟩
 split at q2
 rotate_left
 ·exact q2.elim
 rename_i z e4;unfold jgY at e4;split at e4
 rotate_left
 ·cases e4
 rename_i ks;unfold inTv at e4;split at e4
 rotate_left
 ·cases e4
 rename_i i;split at e4
 rotate_left
 ·cases e4
 rename_i l e5;split at e4
 rotate_left
 ·cases e4
 rename_i ns e6;split at e4
 rotate_left
 ·cases e4
 cases e4;have ek:=xQ e6;subst ek;obtain ⟨b,kv,rfl,hb,rk⟩:=r1.up l2;have ev:kv=ns.map V.int:=jl.ints.mp rk;subst ev;obtain ⟨a,rfl,ea⟩:=r2;obtain ⟨b',ob,g1,g2,g3,vs,rfl,ra⟩:=h2.m i _ e5;rw [ea] at g1;cases g1
 have kT:W2.T.K=X.K:=by rw [l2.k,l1.k,k,hT]
 refine ⟨a,vs,JG ns,b,rfl,rfl,g3,by rw [Jb]; exact jhE kT hb fun a o e=>h2.f a o e,?_⟩
 have hv:(xq vs (JG ns)).isSome=(Yn l ns).isSome:=by
  rcases ra.get vQ ns with ⟨a1,a2⟩ | ⟨x,v,a1,a2,_⟩
  ·rw [a1,a2]; rfl
  ·rw [a1,a2]; rfl
 rw [hv];exact q2 W2 H2 _ (.refl W2) h2 rfl
theorem Vw (hT:T.K=X.K) (hu:X.A.units + 1 < cLine) (hy:QE X T ES y dy) (ho:QE X T ES o do_) (hm:behindInMarks .NotIn o=false):QT X T ES (.Compare y [.NotIn] [o] pos) (jL (UY true dy do_)) :=
 ⟨XO (pt_cmp (UD hu hy.h ho.h) hm) fun σ H Q hQQ=>jC hQQ fun W ρ M k hh hs p=>show jcM X.K true _ _ σ H (fun v H'=>∃ b,v=V.bl b∧Q b H') from UO (Q:=fun v H'=>∃ b,v=V.bl b∧Q b H') (neg:=true) (dy:=dy) (do_:=do_) (T:=T) (ES:=ES) hT ⟨W,ρ,M,k,hh,hs,jz.bind (R1:=Rep) p fun W1 M1 x v H1 l1 h1 r1 p1=>by
  cases x with
  | bl b=>exact ⟨b,r1,p1 W1 H1 b (.refl W1) h1 rfl⟩
  | _=>exact p1.elim⟩⟩
def jeu:G2:=fun _ x y=>match x,y with
 | .bl a,.bl b=>some (.bl (a != b))
 | _,_=>none
theorem o_notB:OpP X T (compareOp .IsNot) jeu:=yJ jgc fun v u H Q hQQ=>by
 obtain ⟨W,M,x,y,w,k,hh,rx,ry,e,q⟩:=hQQ;unfold jeu at e;split at e
 ·cases e;exact ⟨_,_,rx,ry,q W H _ (.refl W) hh rfl⟩
 ·cases e
def jgR (dit:En->Sto->Res ItP):DS:=fun ρ M=>(dit ρ M).st ρ fun p M1=>match nxt p M1 0 with
 | some none=>.nx ρ M1
 | _=>.bad
theorem jfB {tg iter:Expr} {body:List Stmt} {dit:En->Sto->Res ItP} (hc:X.calm=true) (hi:QI X T ES tg iter dit) (hs:∀ x,foldedSetIterable iter X.env x=pure x:=by intro _; rfl):QS X T ES (.For tg iter body [] pos) (jgR dit) :=
 ⟨yH (jfM hc hi.h hs) fun D σ H hQQ=>yj hQQ fun W ρ M k hh hs q=>⟨W,ρ,M,k,hh,hs,jK.bind hs q fun W0 M0 it J H0 l0 h0 ri q0=>by
  obtain ⟨goes,stops⟩:=ri W0 M0 H0 (Wd.le.refl W0).toLe0 h0 0;split at q0
  rotate_left
  ·exact q0.elim
  rename_i en
  exact ⟨stops en,q0 W0 σ H0 (.refl W0) h0 (hs.up l0)⟩⟩⟩
theorem Uw {α:Type} {r:Res α} {ρ:En} {k:α->Sto->RS} {d2:DS}:(r.st ρ k).then d2=r.st ρ fun a M=>(k a M).then d2:=by
 cases r <;> rfl
theorem jfA {i:Nat} {x:Str} {es:List Expr} {x1:Nat} {kp px pn p2 pos1 pos2:Pos} {ju:List Stmt} {d2:DS} (hu:X.A.units + 1 < cLine) (hN:X.N.Nodup) (hi:X.N[i]? = some x) (hx:Loc X.env.scope x) (hk:QA X T ES es dk) (hn:PE X (.Name x pn) (tVar i)) (he:QE X T ES e d) (ho:QE X T ES o do_) (hr:QSs X T ES ju d2)
  (hs:swapsWith (.Tuple es x1 kp) (some (.Name x px)) pos1.line X.env=pure false:=by rfl) (hf:X.fn x=true∨X.env.scope.names.lookup x=some .local:=by first | exact .inl rfl | exact .inr rfl | assumption)
  (hw:swapsWith e (some (.Subscript o (.Name x pn) p2)) pos2.line X.env=pure false:=by rfl) :
  QSs X T ES (.Assign [.Name x px] (.Tuple es x1 kp) pos1 :: .Assign [.Subscript o (.Name x pn) p2] e pos2 :: ju) (jy (sRow i dk d do_) d2) :=
 ⟨XQ (vL (jdx hN hi hx (XR hk.h) hs hf) (vL (jaJ hu ho.h hn he.h hw) hr.h)) fun D σ H hQQ=>yj hQQ fun W ρ M k hh hs q=>by
  unfold jy sRow at q;rw [Uw] at q;refine ⟨W,ρ,M,k,hh,hs,jK.bind hs q fun W1 M1 ks kv H1 l1 h1 r1 q1=>?_⟩
  by_cases hz:ks.length<=sizeLine∧i < ρ.length
  rotate_left
  ·rw [if_neg hz] at q1; exact q1.elim
  rw [if_pos hz,Uw] at q1;refine ⟨by rw [r1.length]; exact hz.1,fun p hp=>?_⟩;obtain ⟨l4,h4,f4⟩:=h1.frz (o:=.tup kv) hp
  have rp:Rep (W1.frz p (.tup kv)) (.tup ks) (.ref p):=⟨p,kv,rfl,SqT.of f4,r1.up l4⟩
  have hs4:=((hs.up l1).up l4).set (i:=i) rp;have q4:=jK.up q1 l4;refine ⟨_,ρ.set i (some (.tup ks)),M1,l4.k.trans (l1.k.trans k),h4,hs4,jK.bind hs4 q4 fun W5 M5 xx xv H5 l5 h5 r5 q5=>?_⟩;rw [Uw] at q5;have hs5:=hs4.up l5;refine ⟨W5,_,M5,l5.k.trans (l4.k.trans (l1.k.trans k)),h5,hs5,jK.bind hs5 q5 fun W6 M6 o' ov H6 l6 h6 r6 q6=>?_⟩;have hs6:=hs5.up l6
  have q6:jK W6 ((match YZ M6 o' ks xx with
   | some M4=>RS.nx (ρ.set i (some (.tup ks))) M4
   | none=>.bad).then d2) D ES:=q6
  cases e4:YZ M6 o' ks xx with
  | none=>rw [e4] at q6; exact q6.elim
  | some M4 =>
  rw [e4] at q6;have q6:jK W6 (d2 (ρ.set i (some (.tup ks))) M4) D ES:=q6;unfold YZ at e4;split at e4
  rotate_left
  ·cases e4
  rename_i j;split at e4
  rotate_left
  ·cases e4
  rename_i l e5;split at e4
  rotate_left
  ·cases e4
  rename_i ns e6;split at e4
  rotate_left
  ·cases e4
  rename_i hc;cases e4;have ek:=xQ e6;subst ek;have ev:kv=ns.map V.int:=jl.ints.mp r1;subst ev;obtain ⟨a,rfl,ea⟩:=r6;obtain ⟨b,ob,g1,g2,g3,vs,rfl,ra⟩:=h6.m j _ e5;rw [ea] at g1;cases g1
  have hσ:(σ.set i (some (.ref p)))[i]? = some (some (.ref p)):=by
   rw [List.getElem?_set_self (by rw [hs.1]; exact hz.2)]
  refine ⟨.ref p,hσ,a,_,rfl,Up.t (k:=JG ns) (kvs:=vs) g3 (by rw [Jb]; exact h6.f _ _ (l6.f _ _ (l5.f _ _ f4))) (by rw [ra.length]; exact hc.2),?_⟩
  exact ⟨W6,_,_,l6.k.trans (l5.k.trans (l4.k.trans (l1.k.trans k))),h6.upd e5 ea (c':=.dtv (jdw l ns xx)) (o:=.dT (vj vs (JG ns) xv)) ⟨_,rfl,ra.put vQ (r5.up l6)⟩,hs6,q6⟩⟩
end
end L3
set_option maxHeartbeats 4000000
namespace My
open PySem L2 L3
def top (i:Nat):Stmt:=PySem.Challenge.pw_liarclocks_k29_books_refused.main.body.getD i (.Pass ⟨0,0,0,0⟩)
abbrev tb (w:World) (K:PySem.W.Frag) (C:Nat->Addr):Tb:=⟨K,C,w⟩
abbrev YN:Stmt:=top 32
abbrev YF:Stmt:=top 14
abbrev YM:Stmt:=top 15
abbrev YU:Stmt:=top 20
abbrev YT:Stmt:=top 21
abbrev YE:Stmt:=top 18
abbrev Jm:Stmt:=top 19
abbrev Js:Stmt:=top 22
abbrev Jq:Stmt:=yu (top 29) 0
abbrev YQ:Stmt:=top 23
abbrev YV:Stmt:=yu (top 29) 2
abbrev YL:Stmt:=top 16
abbrev YK:Stmt:=yu (top 29) 4
abbrev YD:Stmt:=yu (top 29) 3
abbrev YJ:Stmt:=top 33
abbrev YI:Stmt:=top 34
abbrev Jl:Stmt:=top 26
abbrev YH:Stmt:=yu (top 29) 5
abbrev YS:Stmt:=yu (top 29) 6
abbrev YO:Stmt:=yu (top 29) 7
abbrev YC:Stmt:=top 28
abbrev Jo:Stmt:=yu (top 29) 8
abbrev Jr:Stmt:=yu (top 29) 9
abbrev Jn:Stmt:=yu (top 29) 1
abbrev Jp:Stmt:=top 30
abbrev YB:Stmt:=top 36
abbrev YR:Stmt:=top 35
abbrev YG:Stmt:=top 37
abbrev Yz:Stmt:=top 17
abbrev YA:Stmt:=top 27
abbrev xJ:Stmt:=top 38
theorem jhU:FnScope ["_law_script"] ["_law_script"] (jd YN):=⟨rfl,rfl,rfl,by decide +kernel,rfl,by decide +kernel,by decide +kernel⟩
theorem jhM:FnScope ["thing"] ["thing"] (jd YF):=⟨rfl,rfl,rfl,by decide +kernel,rfl,by decide +kernel,by decide +kernel⟩
theorem jhT:FnScope ["thing","least","most"] ["thing","least","most"] (jd YM):=⟨rfl,rfl,rfl,by decide +kernel,rfl,by decide +kernel,by decide +kernel⟩
theorem sc_zaf:FnScope ["thing","least","most"] ["thing","least","most"] (jd YU):=⟨rfl,rfl,rfl,by decide +kernel,rfl,by decide +kernel,by decide +kernel⟩
theorem sc_zag:FnScope ["houses"] ["houses"] (jd YT):=⟨rfl,rfl,rfl,by decide +kernel,rfl,by decide +kernel,by decide +kernel⟩
theorem jhL:FnScope ["thing","houses"] ["thing","houses"] (jd YE):=⟨rfl,rfl,rfl,by decide +kernel,rfl,by decide +kernel,by decide +kernel⟩
theorem jhS:FnScope ["numbers"] ["numbers"] (jd Jm):=⟨rfl,rfl,rfl,by decide +kernel,rfl,by decide +kernel,by decide +kernel⟩
theorem sc_zab:FnScope ["some","houses","most"] ["some","houses","most"] (jd Js):=⟨rfl,rfl,rfl,by decide +kernel,rfl,by decide +kernel,by decide +kernel⟩
theorem sc_zad:FnScope ["self","houses","liars"] ["self","houses","liars"] (jd Jq):=⟨rfl,rfl,rfl,by decide +kernel,rfl,by decide +kernel,by decide +kernel⟩
theorem jhX:FnScope ["house","houses"] ["house","houses"] (jd YQ):=⟨rfl,rfl,rfl,by decide +kernel,rfl,by decide +kernel,by decide +kernel⟩
theorem sc_zaa:FnScope ["self","house"] ["self","house"] (jd YV):=⟨rfl,rfl,rfl,by decide +kernel,rfl,by decide +kernel,by decide +kernel⟩
theorem jhR:FnScope ["thing"] ["thing"] (jd YL):=⟨rfl,rfl,rfl,by decide +kernel,rfl,by decide +kernel,by decide +kernel⟩
theorem jhQ:FnScope ["self","house","place","number"] ["self","house","place","number"] (jd YK):=⟨rfl,rfl,rfl,by decide +kernel,rfl,by decide +kernel,by decide +kernel⟩
theorem jdb:FnScope ["self","house","place","number","row"] ["self","house","place","number"] (jd YD):=⟨rfl,rfl,rfl,by decide +kernel,rfl,by decide +kernel,by decide +kernel⟩
theorem ug:FnScope ["_law_town_here","_law_many","_law_row","_law_at","_law_cell","_law_mixed"] ["_law_town_here","_law_many"] (jd YJ):=⟨rfl,rfl,rfl,by decide +kernel,rfl,by decide +kernel,by decide +kernel⟩
theorem jhP:FnScope ["_law_town_here","_law_some"] ["_law_town_here","_law_some"] (jd YI):=⟨rfl,rfl,rfl,by decide +kernel,rfl,by decide +kernel,by decide +kernel⟩
theorem jhO:FnScope ["thing"] ["thing"] (jd Jl):=⟨rfl,rfl,rfl,by decide +kernel,rfl,by decide +kernel,by decide +kernel⟩
theorem jhN:FnScope ["self","house","row","seen"] ["self","house","row"] (jd YH):=⟨rfl,rfl,rfl,by decide +kernel,rfl,by decide +kernel,by decide +kernel⟩
theorem jdd:FnScope ["self","house","other","seen","new","row"] ["self","house","other"] (jd YS):=⟨rfl,rfl,rfl,by decide +kernel,rfl,by decide +kernel,by decide +kernel⟩
theorem jhV:FnScope ["self","house"] ["self","house"] (jd YO):=⟨rfl,rfl,rfl,by decide +kernel,rfl,by decide +kernel,by decide +kernel⟩
theorem jhK:FnScope ["rows"] ["rows"] (jd YC):=⟨rfl,rfl,rfl,by decide +kernel,rfl,by decide +kernel,by decide +kernel⟩
theorem jdc:FnScope ["self","house","groups","row"] ["self","house"] (jd Jo):=⟨rfl,rfl,rfl,by decide +kernel,rfl,by decide +kernel,by decide +kernel⟩
theorem sc_zac:FnScope ["self","house"] ["self","house"] (jd Jr):=⟨rfl,rfl,rfl,by decide +kernel,rfl,by decide +kernel,by decide +kernel⟩
theorem jhW:FnScope ["self"] ["self"] (jd Jn):=⟨rfl,rfl,rfl,by decide +kernel,rfl,by decide +kernel,by decide +kernel⟩
theorem sc_zae:FnScope ["book"] ["book"] (jd Jp):=⟨rfl,rfl,rfl,by decide +kernel,rfl,by decide +kernel,by decide +kernel⟩
theorem jhJ:FnScope ["_law_book","_law_kind","_law_one","_law_two","_law_three"] ["_law_book","_law_kind","_law_one","_law_two","_law_three"] (jd YB):=⟨rfl,rfl,rfl,by decide +kernel,rfl,by decide +kernel,by decide +kernel⟩
theorem Jk:FnScope ["_law_caught","_law_kinds","_law_words"] ["_law_caught"] (jd YR):=⟨rfl,rfl,rfl,by decide +kernel,rfl,by decide +kernel,by decide +kernel⟩
theorem xt:FnScope ["_law_book","_law_kind","_law_one","_law_two","_law_three","_law_caught","_law_found","e"] ["_law_book","_law_kind","_law_one","_law_two","_law_three"] (jd YG):=⟨rfl,rfl,rfl,by decide +kernel,rfl,by decide +kernel,by decide +kernel⟩
theorem jhH:FnScope ["thing"] ["thing"] (jd Yz):=⟨rfl,rfl,rfl,by decide +kernel,rfl,by decide +kernel,by decide +kernel⟩
theorem jhI:FnScope ["pair"] ["pair"] (jd YA):=⟨rfl,rfl,rfl,by decide +kernel,rfl,by decide +kernel,by decide +kernel⟩
theorem yO:FnScope ["_law_script","_law_town_here","_law_book","_law_row","_law_turn","_law_wrong","_law_house","_law_place","_law_number","_law_found","_law_bad","_law_pair"] ["_law_script"] (jd xJ):=⟨rfl,rfl,rfl,by decide +kernel,rfl,by decide +kernel,by decide +kernel⟩
def d_zan:DS:=(yb (jbe (jb (dIf (jL (dOp gScr (jf 0) (yh je))) (dCB (UR) (jb (jf 0) je)) (jbe (jb (dC (.int 0)) je))) (jb (dC (.int 0)) je))))
def XA:List PV->Sto->Res PV:=yg 1 1 d_zan
def d_zax:DS:=(yb (uI (dCB (US) (jb (jf 0) (jb (dC (.ty "int")) je))) (jhh (dCB (US) (jb (jf 0) (jb (dC (.ty "bool")) je))))))
def Xy:List PV->Sto->Res PV:=yg 1 1 d_zax
def d_zao:DS:=(yb (uI (jw Xy 1 0 [.p 0] [] (jb (jf 0) je) je) (jaa gLe gLe (jf 1) (jf 0) (jf 2))))
def uL:List PV->Sto->Res PV:=yg 3 3 d_zao
def d_zaf:DS:=(sIf (vt (vq (jw uL 3 0 [.p 0,.p 1,.p 2] [] (jb (jf 0) (jb (jf 1) (jb (jf 2) je))) je))) (xu 0 (jb (jhi (jTxt "not a whole number from " (jInt (jf 1) (jTxt " to " (jInt (jf 2) jNil))))) je)) jU)
def XB:List PV->Sto->Res PV:=yg 3 3 d_zaf
def d_zag:DS:=(yP (jw XB 3 0 [.p 0,.p 1,.p 2] [] (jb (jf 0) (jb (dC (.int 1)) (jb (dC (.int 16)) je))) je))
def jbA:List PV->Sto->Res PV:=yg 1 1 d_zag
def d_zay:DS:=(yb (jw uL 3 0 [.p 0,.p 1,.p 2] [] (jb (jf 0) (jb (dC (.int 0)) (jb (dOp VS (jf 1) (dC (.int 1))) je))) je))
def Xx:List PV->Sto->Res PV:=yg 2 2 d_zay
def d_zap:DS:=(yb (dCB (one jez) (jb (xT (jeQ (dZip (jb (jf 0) (jb (dSl (jf 0) (dOS (dC (.int 1))) dON) je))) (jhf (jb (jf 0) (jb (dSl (jf 0) (dOS (dC (.int 1))) dON) je)))) bnd2 [] vV (dOp gLt (jf 0) (jf 1))) je)))
def jbu:List PV->Sto->Res PV:=yg 1 1 d_zap
def jgD:DE:=(jw Xx 2 0 [.p 0,.p 1] [] (jb (jf 0) (jb (jf 1) je)) je)
def d_zab:DS:=(jy (sIf (dOr (vt (vq (dCB (US) (jb (jf 0) (jb (yN (jb (dC (.ty "list")) (jb (dC (.ty "tuple")) je))) je))))) (jL (dOp gGt (dCB (one JP) (jb (jf 0) je)) (jf 2)))) (xu 3 (jb (dC (.str "not a list or tuple of houses, or too many of them")) je)) jU)
 (sIf (dOr (vt (vq (dCB (one jez) (jb (xT (dItS (jf 0)) Vl [1] vV jgD) je)))) (vt (vq (jw jbu 1 0 [.p 0] [] (jb (jf 0) je) je)))) (xu 3 (jb (dC (.str "not houses, rising, each once")) je)) jU))
def jbB:List PV->Sto->Res PV:=yg 3 3 d_zab
def d_zad:DS:=(jy (yP (jw jbA 1 0 [.p 0] [] (jb (jf 1) je) je))
 (jy (yP (jw jbB 3 0 [.p 0,.p 1,.p 2] [] (jb (jf 2) (jb (jf 1) (jb (jf 1) je))) je))
 (jy (Vt 10 "liars" (dCB (one jey) (jb (jf 2) je)) (jf 0))
 (jy (Vt 10 "said" dDtN (jf 0))
 (jy (Vt 10 "bound" dDtN (jf 0))
 (Vt 10 "seen" (xT (Uc (jb (jf 1) je)) Vl [] vV dDkN) (jf 0)))))))
def Yj:List PV->Sto->Res PV:=yg 3 3 d_zad
def d_zak:DS:=(sIf (vt (vq (jw Xx 2 0 [.p 0,.p 1] [] (jb (jf 0) (jb (jf 1) je)) je))) (jaA 4 "house" (jb (jf 0) je)) jU)
def jbw:List PV->Sto->Res PV:=yg 2 2 d_zak
def d_zaa:DS:=(yP (jw jbw 2 0 [.p 0,.p 1] [] (jb (jf 1) (jb (dCB (one JP) (jb (Yp 10 "seen" (jf 0)) je)) je)) je))
def xp:List PV->Sto->Res PV:=yg 2 2 d_zaa
def d_zaq:DS:=(yb (jw uL 3 0 [.p 0,.p 1,.p 2] [] (jb (jf 0) (jb (dUn gNeg (dC (.int 1000000))) (jb (dC (.int 1000000)) je))) je))
def jbt:List PV->Sto->Res PV:=yg 1 1 d_zaq
def d_zar:DS:=(jy (sIf (jL (dOp (eqG true) (jeP (Yp 10 "bound" (jf 0)) (jb (jf 1) (jb (jf 2) je)) (jf 3)) (jf 3))) (xu 6 (jb (dC (.str "an honest house says one number for each place")) je)) jU)
 (jde (jf 3) (Yp 10 "bound" (jf 0)) (jb (jf 1) (jb (jf 2) je))))
def jbs:List PV->Sto->Res PV:=yg 4 4 d_zar
def d_zaz:DS:=(jy (yP (xa 10 "check_is_house" xp 2 0 [.p 0,.p 1] [] (jf 0) (jb (jf 1) je) je))
 (jy (yP (jw XB 3 0 [.p 0,.p 1,.p 2] [] (jb (jf 2) (jb (dC (.int 0)) (jb (dC (.int 99)) je))) je))
 (jy (sIf (vt (vq (jw jbt 1 0 [.p 0] [] (jb (jf 3) je) je))) (xu 8 (jb (dC (.str "not a number")) je)) jU)
 (jy (sIf (jL (dOp (gIn true) (jf 1) (Yp 10 "liars" (jf 0)))) (yP (xa 10 "bind" jbs 4 0 [.p 0,.p 1,.p 2,.p 3] [] (jf 0) (jb (jf 1) (jb (jf 2) (jb (jf 3) je))) je)) jU)
 (jy (sRow 4 (jb (jf 1) (jb (jf 2) (jb (jf 3) je))) (dC (.bl true)) (Yp 10 "said" (jf 0)))
 (yb (jf 4)))))))
def uK:List PV->Sto->Res PV:=yg 4 5 d_zaz
def jeL:DS:=(jy (yo 2 (dOp gIx (jf 0) (dC (.int 0))))
 (jy (jaz (dOp JN (dOp gIx (jf 0) (dC (.int 1))) (dC (.int 1))) (jf 0) (dC (.int 1)))
 (jy (yo 3 (dOp VU (dOp gIx (jf 0) (dC (.int 1))) (dCB (one JP) (jb (jf 2) je))))
 (jy (yo 4 (dOp gIx (jf 2) (jf 3)))
 (jy (sIf (jL (dOp gGe (jf 4) (dC (.int 1000000000000000000)))) (jy (jaz (dOp jev (jf 4) (jf 1)) (jf 2) (jf 3))
 (yb (dOp VU (jf 4) (jf 1)))) jU)
 (jy (yo 5 (dOp VU (dOp JN (jf 4) (dOp jcl (dC (.int 104729)) (dOp gIx (jf 0) (dC (.int 1))))) (dC (.int 4294967291))))
 (jy (yo 5 (dOp VU (dOp gPow (jf 5) (dC (.int 5))) (dC (.int 4294967279))))
 (yb (dOp VU (dOp jev (dOp VU (dOp JN (dOp jcl (dOp jev (jf 5) (dC (.int 64))) (dC (.int 69621))) (jf 5)) (dC (.int 4294967231))) (dC (.int 8))) (jf 1))))))))))
def Xz:List PV->Sto->Res PV:=yg 2 6 jeL
def jeK:DS:=(yb (dOp gIx (jf 1) (jw Xz 2 0 [.p 0,.p 1] [] (jb (jf 0) (jb (dCB (one JP) (jb (jf 1) je)) je)) je)))
def xf:List PV->Sto->Res PV:=yg 2 2 jeK
def jgC:DE:=(jw Xy 1 0 [.p 0] [] (jb (jf 0) je) je)
def d_zau:DS:=(yb (uI (dCB (US) (jb (jf 0) (jb (dC (.ty "tuple")) je))) (uI (dOp (eqG false) (dCB (one JP) (jb (jf 0) je)) (dC (.int 3))) (dCB (one jez) (jb (xT (dItT (jf 0)) Vl [] vV jgC) je)))))
def Yi:List PV->Sto->Res PV:=yg 1 1 d_zau
def d_zav:DS:=(jy (yP (xa 10 "check_is_house" xp 2 0 [.p 0,.p 1] [] (jf 0) (jb (jf 1) je) je))
 (jy (sIf (dOr (vt (vq (jw Yi 1 0 [.p 0] [] (jb (jf 2) je) je))) (jL (UY true (jf 2) (Yp 10 "said" (jf 0))))) (xu 8 (jb (dC (.str "this was never said")) je)) jU)
 (jy uQ
 uQ)))
def jbr:List PV->Sto->Res PV:=yg 3 4 d_zav
def d_zah:DS:=(jy (yP (xa 10 "check_is_house" xp 2 0 [.p 0,.p 1] [] (jf 0) (jb (jf 1) je) je))
 (jy (yP (xa 10 "check_is_house" xp 2 0 [.p 0,.p 1] [] (jf 0) (jb (jf 2) je) je))
 (jy uQ
 (jy uQ
 (jy uQ
 uQ)))))
def dx_zah:DS:=(jy (yP (xa 10 "check_is_house" xp 2 0 [.p 0,.p 1] [] (jf 0) (jb (jf 1) je) je))
 (jy (yP (xa 10 "check_is_house" xp 2 0 [.p 0,.p 1] [] (jf 0) (jb (jf 2) je) je))
 (jy uQ
 (jy uQ
 (jy uQ
 uQ)))))
def jbz:List PV->Sto->Res PV:=both (yg 3 6 d_zah) (yg 3 6 dx_zah)
def d_zam:DS:=(jy (yP (xa 10 "check_is_house" xp 2 0 [.p 0,.p 1] [] (jf 0) (jb (jf 1) je) je))
 (yb (dCB (one UW) (jb (dOp gIx (Yp 10 "seen" (jf 0)) (jf 1)) je))))
def uM:List PV->Sto->Res PV:=yg 2 2 d_zam
def d_zba:DS:=uQ
def jbq:List PV->Sto->Res PV:=yg 1 1 d_zba
def d_zai:DS:=(jy (yo 2 dDkN)
 (jy (jgR (dIt (xa 10 "known" uM 2 0 [.p 0,.p 1] [] (jf 0) (jb (jf 1) je) je)))
 (yb (UZ (jeN (jf 2)) 2 [] (emC 1 (dIt (jw jbq 1 0 [.p 0] [] (jb (jf 0) je) je)) (emE (jf 1)))))))
def jby:List PV->Sto->Res PV:=yg 2 4 d_zai
def d_zac:DS:=(yb (Vf (dIt (xa 10 "clashes" jby 2 0 [.p 0,.p 1] [] (jf 0) (jb (jf 1) je) je)) (gT 2 (JK (gN 0) (JK (gN 1) jeq))) 2 [] (jgv (dOp gIx (jf 0) (dC (.int 0))))))
def XD:List PV->Sto->Res PV:=yg 2 2 d_zac
def d_zal:DS:=(yb (xT (Uc (jb (dCB (one JP) (jb (Yp 10 "seen" (jf 0)) je)) je)) Vl [0] (jL (dOp (gIn true) (jf 0) (Yp 10 "liars" (jf 1)))) (jf 0)))
def jbv:List PV->Sto->Res PV:=yg 1 1 d_zal
def d_zae:DS:=(jy (sIf (vt (vq (dCB (gIsW 10) (jb (jf 0) (jb (dC (.top 10)) je))))) (xu 3 (jb (dC (.str "not a book")) je)) jU)
 (yb (Vf (dIt (xa 10 "honest" jbv 1 0 [.p 0] [] (jf 0) je je)) (gN 0) 2 [0] (emSC (gN 1) (dIt (xa 10 "convicted" XD 2 0 [.p 0,.p 1] [] (jf 2) (jb (jf 0) je) je)) (jgv (jf 1))))))
def XC:List PV->Sto->Res PV:=yg 1 1 d_zae
def d_zbb:DS:=(jy (sIf (jL (dOp (eqG false) (jf 1) (dC (.int 0)))) (yb (jgy 10 Yj 2 1 [.p 0,.p 1,.k 0] [] (jb (jf 2) je) (jb (jf 3) je))) jU)
 (jy (sIf (jL (dOp (eqG false) (jf 1) (dC (.int 1)))) (yb (xa 10 "say" uK 4 0 [.p 0,.p 1,.p 2,.p 3] [] (jf 0) (jb (jf 2) (jb (jf 3) (jb (jf 4) je))) je)) jU)
 (jy (sIf (jL (dOp (eqG false) (jf 1) (dC (.int 2)))) (yb (xa 10 "show" jbr 3 0 [.p 0,.p 1,.p 2] [] (jf 0) (jb (jf 2) (jb (jf 3) je)) je)) jU)
 (jy (sIf (jL (dOp (eqG false) (jf 1) (dC (.int 3)))) (yb (xa 10 "pass_on" jbz 3 0 [.p 0,.p 1,.p 2] [] (jf 0) (jb (jf 2) (jb (jf 3) je)) je)) jU)
 (jy (sIf (jL (dOp (eqG false) (jf 1) (dC (.int 4)))) (yb (xa 10 "known" uM 2 0 [.p 0,.p 1] [] (jf 0) (jb (jf 2) je) je)) jU)
 (yb (dIf (jL (dOp (eqG false) (jf 1) (dC (.int 5)))) (xa 10 "convicted" XD 2 0 [.p 0,.p 1] [] (jf 0) (jb (jf 2) je) je) (jw XC 1 0 [.p 0] [] (jb (jf 2) je) je))))))))
def jbp:List PV->Sto->Res PV:=yg 5 5 d_zbb
def d_zaj:DS:=(jy (yo 1 (yh (jb (dCB (uw [0,3,8,6] [0,1,2,3,4,5,6,7,8] 9) (jb (jf 0) (jb (dC (.top 0)) je))) (jb (dCB (uw [0,3,8,6] [0,1,2,3,4,5,6,7,8] 9) (jb (jf 0) (jb (dC (.top 1)) je))) (jb (dCB (uw [0,3,8,6] [0,1,2,3,4,5,6,7,8] 9) (jb (jf 0) (jb (dC (.top 2)) je))) je)))))
 (jy (yo 1 (dOp JN (jf 1) (yh (jb (dCB (uw [0,3,8,6] [0,1,2,3,4,5,6,7,8] 9) (jb (jf 0) (jb (dC (.top 3)) je))) (jb (dCB (uw [0,3,8,6] [0,1,2,3,4,5,6,7,8] 9) (jb (jf 0) (jb (dC (.top 4)) je))) (jb (dCB (uw [0,3,8,6] [0,1,2,3,4,5,6,7,8] 9) (jb (jf 0) (jb (dC (.top 5)) je))) je))))))
 (jy (yo 1 (dOp JN (jf 1) (yh (jb (dCB (uw [0,3,8,6] [0,1,2,3,4,5,6,7,8] 9) (jb (jf 0) (jb (dC (.top 6)) je))) (jb (dCB (uw [0,3,8,6] [0,1,2,3,4,5,6,7,8] 9) (jb (jf 0) (jb (dC (.top 7)) je))) (jb (dCB (uw [0,3,8,6] [0,1,2,3,4,5,6,7,8] 9) (jb (jf 0) (jb (dC (.top 8)) je))) je))))))
 (jy (sIf (dOr (jL (dOp (eqG true) (dMt UU (jf 1) (jb (dC (.bl true)) je)) (dC (.int 1)))) (dOr (vt (vq (dCB (uw [0,3,8,6] [0,1,2,3,4,5,6,7,8] 9) (jb (jf 0) (jb (dC (.top 9)) je))))) (vt (vq (dCB (uw [0,3,8,6] [0,1,2,3,4,5,6,7,8] 9) (jb (jf 0) (jb (dC (.ty "ValueError")) je))))))) (yb (dC (.str "odd"))) jU)
 (jy (yo 2 (yh (jb (dC (.str "number")) (jb (dC (.str "worths")) (jb (dC (.str "lies")) (jb (dC (.str "houses")) (jb (dC (.str "house")) (jb (dC (.str "letter")) (jb (dC (.str "now")) (jb (dC (.str "table")) (jb (dC (.str "saying")) je)))))))))))
 (yb (dOp gIx (jf 2) (dMt UT (jf 1) (jb (dC (.bl true)) je)))))))))
def jbx:List PV->Sto->Res PV:=yg 1 3 d_zaj
def d_zaw:DS:=(jy (yo 5 (dC .non))
 (jy (yo 6 (dC .non))
 (jy (sTry (yP (jw jbp 5 0 [.p 0,.p 1,.p 2,.p 3,.p 4] [] (jb (jf 0) (jb (jf 1) (jb (jf 2) (jb (jf 3) (jb (jf 4) je))))) je)) (Vc (fun c=>if c ∈ ([0,3,8,6,4]:List Nat) then some (c == 4) else none) 7 (jy (yo 6 (yN (jb (dC (.str "house")) (jb (jhg 4 "house" (jf 7)) je))))
 (yo 5 (jf 7))) (Vc (fun c=>if c ∈ ([0,3,8,6]:List Nat) then some true else none) 7 (jy (yo 6 (dC .non))
 (yo 5 (jf 7))) jhd)))
 (yb (dIf (jL (dOp gIs (jf 5) (dC .non))) (dC (.str "told")) (dIf (jL (dOp gIs (jf 6) (dC .non))) (jw jbx 1 0 [.p 0] [] (jb (jf 5) je) je) (jf 6)))))))
def ye:List PV->Sto->Res PV:=yg 5 8 d_zaw
def d_zbd:DS:=(yb (uI (dCB (US) (jb (jf 0) (jb (dC (.ty "tuple")) je))) (dOp (eqG false) (dCB (one JP) (jb (jf 0) je)) (dC (.int 2)))))
def jbo:List PV->Sto->Res PV:=yg 1 1 d_zbd
def d_zbc:DS:=(jy (sIf (dOr (vt (vq (jw jbo 1 0 [.p 0] [] (jb (jf 0) je) je))) (dOr (vt (vq (jw Yi 1 0 [.p 0] [] (jb (dOp gIx (jf 0) (dC (.int 0))) je) je))) (vt (vq (jw Yi 1 0 [.p 0] [] (jb (dOp gIx (jf 0) (dC (.int 1))) je) je))))) (yb (dC (.bl false))) jU)
 (yb (uI (dOp (eqG false) (dSl (dOp gIx (jf 0) (dC (.int 0))) dON (dOS (dC (.int 2)))) (dSl (dOp gIx (jf 0) (dC (.int 1))) dON (dOS (dC (.int 2))))) (dOp (eqG true) (dOp gIx (dOp gIx (jf 0) (dC (.int 0))) (dC (.int 2))) (dOp gIx (dOp gIx (jf 0) (dC (.int 1))) (dC (.int 2)))))))
def Uo:List PV->Sto->Res PV:=yg 1 1 d_zbc
def jgE:DE:=(jw ye 5 0 [.p 0,.p 1,.p 2,.p 3,.p 4] [] (jb (jf 1) (jb (dC (.int 1)) (jb (dC (.int 1)) (jb (dC (.int 5)) (jb (jf 0) je))))) je)
def jeM:DS:=(sIf (jL (dOp jeu (jw Uo 1 0 [.p 0] [] (jb (jf 11) je) je) (dC (.bl false)))) (yb (dC (.bl false))) jU)
def jbj:DE:=(jw ye 5 0 [.p 0,.p 1,.p 2,.p 3,.p 4] [] (jb (jf 1) (jb (jf 0) (jb (jf 2) (jb (dC (.int 0)) (jb (dC (.int 0)) je))))) je)
def JU:DS:=(jy (yo 5 (jw xf 2 0 [.p 0,.p 1] [] (jb (jf 1) (jb (yh (jb (yh (jb (dC (.int 3)) je)) (jb (yh (jb (dC (.int 1)) (jb (dC (.int 0)) je))) (jb (dC .non) (jb (dC (.int 5)) (jb (yh (jb (dC (.bl true)) je)) (jb (yh (jb (dC (.int 0)) (jb (dC (.int 0)) je))) je))))))) je)) je))
 (jy (sIf (dOr (jL (dOp (eqG true) (jw ye 5 0 [.p 0,.p 1,.p 2,.p 3,.p 4] [] (jb (jf 2) (jb (dC (.int 0)) (jb (jw xf 2 0 [.p 0,.p 1] [] (jb (jf 1) (jb (yh (jb (dC (.int 0)) (jb (dC (.int 17)) (jb (dC (.bl true)) (jb (dC .non) je))))) je)) je) (jb (jf 5) (jb (dC (.int 0)) je))))) je) (dC (.str "number")))) (jL (dOp (eqG true) (jw ye 5 0 [.p 0,.p 1,.p 2,.p 3,.p 4] [] (jb (jf 2) (jb (dC (.int 0)) (jb (dC (.int 3)) (jb (jf 5) (jb (dC (.int 0)) je))))) je) (dC (.str "houses"))))) (yb (dC (.bl false))) jU)
 (jy (yo 6 (jw xf 2 0 [.p 0,.p 1] [] (jb (jf 1) (jb (yh (jb (dC (.int 3)) (jb (dOp VS (dC (.int 0)) (dC (.int 1))) (jb (dC (.bl true)) (jb (dC .non) (jb (dC (.str "0")) (jb (yh (jb (dC (.int 0)) je)) je))))))) je)) je))
 (jy (yo 7 (jw xf 2 0 [.p 0,.p 1] [] (jb (jf 1) (jb (yh (jb (dC (.int 100)) (jb (dOp VS (dC (.int 0)) (dC (.int 1))) (jb (dC (.bl true)) (jb (dC .non) (jb (dC (.str "0")) je)))))) je)) je))
 (jy (yo 8 (jw xf 2 0 [.p 0,.p 1] [] (jb (jf 1) (jb (yh (jb (dC (.int 1000001)) (jb (dOp VS (dC (.int 0)) (dC (.int 1000001))) (jb (dC (.bl true)) (jb (dC .non) (jb (dC (.str "7")) je)))))) je)) je))
 (jy (yo 9 (yh (jb (jw ye 5 0 [.p 0,.p 1,.p 2,.p 3,.p 4] [] (jb (jf 2) (jb (dC (.int 1)) (jb (jf 6) (jb (jf 7) (jb (jf 8) je))))) je) (jb (jw ye 5 0 [.p 0,.p 1,.p 2,.p 3,.p 4] [] (jb (jf 2) (jb (dC (.int 2)) (jb (jf 6) (jb (dC (.int 5)) (jb (dC (.int 0)) je))))) je) (jb (jw ye 5 0 [.p 0,.p 1,.p 2,.p 3,.p 4] [] (jb (jf 2) (jb (dC (.int 3)) (jb (jf 6) (jb (jf 6) (jb (dC (.int 0)) je))))) je) je)))))
 (jy (sIf (jL (dOp (eqG true) (dOp JN (dOp JN (jf 9) (xT (dIt (yh (jb (dC (.int 4)) (jb (dC (.int 5)) je)))) Vl [2,6] vV jbj)) (yh (jb (jw ye 5 0 [.p 0,.p 1,.p 2,.p 3,.p 4] [] (jb (jf 2) (jb (dC (.int 3)) (jb (dC (.int 0)) (jb (jf 6) (jb (dC (.int 0)) je))))) je) je))) (dOp jcl (yh (jb (yN (jb (dC (.str "house")) (jb (jf 6) je))) je)) (dC (.int 6))))) (yb (dC (.bl false))) jU)
 (jy (sIf (dOr (jL (dOp (eqG true) (jw ye 5 0 [.p 0,.p 1,.p 2,.p 3,.p 4] [] (jb (jf 2) (jb (dC (.int 1)) (jb (dC (.int 0)) (jb (jf 7) (jb (jf 8) je))))) je) (dC (.str "number")))) (jL (dOp (eqG true) (jw ye 5 0 [.p 0,.p 1,.p 2,.p 3,.p 4] [] (jb (jf 2) (jb (dC (.int 1)) (jb (dC (.int 0)) (jb (dC (.int 5)) (jb (jf 8) je))))) je) (dC (.str "saying"))))) (yb (dC (.bl false))) jU)
 (jy (yo 10 (jw xf 2 0 [.p 0,.p 1] [] (jb (jf 1) (jb (yh (jb (yN (jb (dC (.int 0)) (jb (dC (.int 5)) (jb (dC (.int 8)) je)))) (jb (yN (jb (dC (.int 1)) (jb (dC (.int 5)) (jb (dC (.int 7)) je)))) (jb (yh (jb (dC (.int 0)) (jb (dC (.int 5)) (jb (dC (.int 7)) je)))) (jb (dC .non) (jb (dC (.int 5)) (jb (yN (jb (dC (.int 0)) (jb (dC (.int 5)) je))) (jb (yN (jb (dC (.int 0)) (jb (dC (.int 5)) (jb (dC (.int 7)) (jb (dC (.int 7)) je))))) je)))))))) je)) je))
 (jy (sIf (dOr (jL (dOp (eqG true) (jw ye 5 0 [.p 0,.p 1,.p 2,.p 3,.p 4] [] (jb (jf 2) (jb (dC (.int 2)) (jb (dC (.int 1)) (jb (jf 10) (jb (dC (.int 0)) je))))) je) (dC (.str "saying")))) (jL (dOp (eqG true) (jw ye 5 0 [.p 0,.p 1,.p 2,.p 3,.p 4] [] (jb (jf 2) (jb (dC (.int 1)) (jb (dC (.int 0)) (jb (dC (.int 5)) (jb (dC (.int 8)) je))))) je) (dC (.str "now"))))) (yb (dC (.bl false))) jU)
 (sIf (jL (dOp (eqG true) (jw ye 5 0 [.p 0,.p 1,.p 2,.p 3,.p 4] [] (jb (jf 2) (jb (dC (.int 6)) (jb (jw xf 2 0 [.p 0,.p 1] [] (jb (jf 1) (jb (yh (jb (dC .non) (jb (dC (.int 5)) (jb (yh je) (jb (dC (.str "book")) je))))) je)) je) (jb (dC (.int 0)) (jb (dC (.int 0)) je))))) je) (dC (.str "houses")))) (yb (dC (.bl false))) jU)))))))))))
def Ub:DS:=(jy (yo 1 (jw XA 1 0 [.p 0] [] (jb (jf 0) je) je))
 (jy (yo 2 (jgy 10 Yj 2 1 [.p 0,.p 1,.k 0] [] (jb (dC (.int 3)) je) (jb (yh (jb (dC (.int 1)) je)) je)))
 (jy (yo 3 (xa 10 "say" uK 4 0 [.p 0,.p 1,.p 2,.p 3] [] (jf 2) (jb (dC (.int 0)) (jb (dC (.int 5)) (jb (dC (.int 7)) je))) je))
 (jy (jbO 200 (Uc (jb (dC (.int 4)) je)) (gN 4) JU)
 (jy (jbO 200 (dIt (yh (jb (dC .non) (jb (dC (.int 5)) (jb (yN je) (jb (yN (jb (yN (jb (dC (.int 0)) (jb (dC (.int 5)) (jb (dC (.int 7)) je)))) je)) (jb (yN (jb (yN (jb (dC (.int 0)) (jb (dC (.int 5)) (jb (dC (.int 7)) je)))) (jb (yN (jb (dC (.int 0)) (jb (dC (.int 5)) (jb (dC (.int 7)) je)))) je))) (jb (yN (jb (yN (jb (dC (.int 0)) (jb (dC (.int 5)) (jb (dC (.int 7)) je)))) (jb (yN (jb (dC (.int 0)) (jb (dC (.int 6)) (jb (dC (.int 8)) je)))) je))) (jb (yh (jb (yN (jb (dC (.int 0)) (jb (dC (.int 5)) (jb (dC (.int 7)) je)))) (jb (yN (jb (dC (.int 0)) (jb (dC (.int 5)) (jb (dC (.int 8)) je)))) je))) (jb (yN (jb (yN (jb (dC (.int 0)) (jb (dC (.int 5)) (jb (dC (.int 7)) je)))) (jb (dC (.int 5)) je))) je)))))))))) (gN 11) jeM)
 (jy (sIf (dOr (jL (dOp (eqG true) (xT (Uc (jb (dC (.int 3)) je)) Vl [2] vV (xa 10 "known" uM 2 0 [.p 0,.p 1] [] (jf 1) (jb (jf 0) je) je)) (yh (jb (yh je) (jb (yh je) (jb (yh je) je)))))) (jL (dOp (eqG true) (xa 10 "say" uK 4 0 [.p 0,.p 1,.p 2,.p 3] [] (jf 2) (jb (dC (.int 0)) (jb (dC (.int 5)) (jb (dC (.int 7)) je))) je) (jf 3)))) (yb (dC (.bl false))) jU)
 (jy (sIf (jL (dOp (eqG true) (xT (dIt (yh (jb (dC (.int 7)) (jb (dC (.int 8)) je)))) Vl [2] vV jgE) (yh (jb (dC (.str "told")) (jb (dC (.str "told")) je))))) (yb (dC (.bl false))) jU)
 (yb (uI (dOp gIs (jw Uo 1 0 [.p 0] [] (jb (yN (jb (yN (jb (dC (.int 1)) (jb (dC (.int 5)) (jb (dC (.int 8)) je)))) (jb (yN (jb (dC (.int 1)) (jb (dC (.int 5)) (jb (dC (.int 7)) je)))) je))) je) je) (dC (.bl true))) (dOp (eqG false) (jw XC 1 0 [.p 0] [] (jb (jf 2) je) je) (yh je)))))))))))
def Tw (M:Sto):Prop:=∃ ns c,Town M ns c
theorem jfo (ns:List Int):∃ M,XA [.scr ns] ⟨0,fun _=>none⟩ = .ok (.ref 1) M∧Tw M∧M.n=2:=by
 cases ns with
 | nil=>exact ⟨_,rfl,⟨[0],0,rfl,rfl,by simp,Nat.le_refl _⟩,rfl⟩
 | cons n r=>exact ⟨_,rfl,⟨n :: r,0,rfl,rfl,by simp,Nat.le_refl _⟩,rfl⟩
theorem jcW {M:Sto} {c:Nat} {x:Cell} (h:M.g c=some x):M.set c x=M:=by
 cases M with
 | mk n g =>
  show Sto.mk n _=_;congr 1;funext j
  by_cases hj:j=c
  ·subst hj; simp; exact h.symm
  ·simp [hj]
structure Ex (M M':Sto):Prop where
 n:M.n<=M'.n
 g:∀ i,i < M.n->M'.g i=M.g i
theorem Ex.refl (M:Sto):Ex M M:=⟨Nat.le_refl _,fun _ _=>rfl⟩
theorem Ex.trans {A B C:Sto} (h:Ex A B) (k:Ex B C):Ex A C:=⟨Nat.le_trans h.n k.n,fun i hi=>(k.g i (Nat.lt_of_lt_of_le hi h.n)).trans (h.g i hi)⟩
theorem Ex.tw {M M':Sto} (h:Ex M M') (T:Tw M):Tw M':=by
 obtain ⟨ns,c,t⟩:=T
 have:=t.n
 exact ⟨ns,c,by rw [h.g 0 (by omega)]; exact t.row,by rw [h.g 1 (by omega)]; exact t.tw,t.ne,Nat.le_trans t.n h.n⟩
def VD (l:List (Nat × Cell)) (g:Nat->Option Cell):Nat->Option Cell:=fun j=>match l.lookup j with
 | some c=>some c
 | none=>g j
abbrev PM (n:Nat) (l:List (Nat × Cell)) (g:Nat->Option Cell):Sto:=⟨n,VD l g⟩
def vw {α:Type} (ks:List Nat) (r:Res α):Option (α × Nat × List (Option Cell)):=match r with
 | .ok a M=>some (a,M.n,ks.map M.g)
 | _=>none
def vwS (ks:List Nat) (r:RS):Option (En × Nat × List (Option Cell)):=match r with
 | .nx ρ M=>some (ρ,M.n,ks.map M.g)
 | _=>none
theorem Xa {g:Nat->Option Cell}:∀ {ks:List Nat} {cs:List Cell},ks.map g=cs.map some->VD (ks.zip cs) g=g
 | [],_,_=>rfl
 | k :: ks,[],h=>by cases h
 | k :: ks,c :: cs,h=>by
  obtain ⟨h1,h2⟩:=List.cons.inj h;have ih:=Xa h2;funext j
  show (match List.lookup j ((k,c) :: ks.zip cs) with
   | some c=>some c
   | none=>g j)=g j
  rw [List.lookup_cons]
  by_cases z:(j == k)=true
  ·rw [z,beq_iff_eq.mp z,h1]
  ·rw [Bool.not_eq_true] at z;rw [z];exact congrFun ih j
theorem jeZ {M:Sto} {n:Nat} {ks:List Nat} {cs:List Cell} (hn:M.n=n) (h:ks.map M.g=cs.map some):M=PM n (ks.zip cs) M.g:=by
 obtain ⟨m,g⟩:=M;cases hn
 show (⟨m,g⟩:Sto)=⟨m,VD (ks.zip cs) g⟩
 rw [Xa h]
theorem seg {α:Type} {ks:List Nat} {cs:List Cell} {n:Nat} {r:Res α} {a:α} (h:vw ks r=some (a,n,cs.map some)):∃ g,r = .ok a (PM n (ks.zip cs) g):=by
 cases r with
 | ok b M =>
  have h:some (b,M.n,ks.map M.g)=some (a,n,cs.map some):=h;obtain ⟨h1,h2⟩:=Prod.mk.inj (Option.some.inj h);obtain ⟨h2,h3⟩:=Prod.mk.inj h2;exact ⟨M.g,by rw [h1,<- jeZ h2 h3]⟩
 | exc _ _=>cases h
 | bad=>cases h
theorem jbM {ks:List Nat} {cs:List Cell} {n:Nat} {r:RS} {ρ:En} (h:vwS ks r=some (ρ,n,cs.map some)):∃ g,r = .nx ρ (PM n (ks.zip cs) g):=by
 cases r with
 | nx b M =>
  have h:some (b,M.n,ks.map M.g)=some (ρ,n,cs.map some):=h;obtain ⟨h1,h2⟩:=Prod.mk.inj (Option.some.inj h);obtain ⟨h2,h3⟩:=Prod.mk.inj h2;exact ⟨M.g,by rw [h1,<- jeZ h2 h3]⟩
 | _=>cases h
def TwC (a b:Cell):Prop:=∃ (ns:List Int) (c:Int),a = .lst (ns.map PV.int)∧b = .lst [.ref 0,.int c]∧ns≠[]
theorem TwC.tw {a b:Cell} {n:Nat} {l:List (Nat × Cell)} {g:Nat->Option Cell} (h:TwC a b) (hn:2<=n):Tw (PM n ((0,a) :: (1,b) :: l) g):=by
 obtain ⟨ns,c,rfl,rfl,hne⟩:=h;exact ⟨ns,c,rfl,rfl,hne,hn⟩
theorem PM_set {a b a' b':Cell} {n:Nat} {l:List (Nat × Cell)} {g:Nat->Option Cell}:((PM n ((0,a) :: (1,b) :: l) g).set 1 b').set 0 a'=PM n ((0,a') :: (1,b') :: l) g:=by
 show (⟨n,_⟩:Sto)=⟨n,_⟩
 congr 1;funext j
 cases j with
 | zero=>rfl
 | succ j =>
  cases j with
  | zero=>rfl
  | succ j =>
   show (if j + 2=0 then some a' else if j + 2=1 then some b' else VD ((0,a) :: (1,b) :: l) g (j + 2))=VD ((0,a') :: (1,b') :: l) g (j + 2);rw [if_neg (by omega),if_neg (by omega)]
   show (match List.lookup (j + 2) ((0,a) :: (1,b) :: l) with
    | some c=>some c
    | none=>g (j + 2))=(match List.lookup (j + 2) ((0,a') :: (1,b') :: l) with
    | some c=>some c
    | none=>g (j + 2))
   rw [List.lookup_cons,List.lookup_cons,List.lookup_cons,List.lookup_cons];rfl
theorem jgw {M:Sto} (T:Tw M) {k:Int} (h1:1<=k) (h2:k < 1073741824):∃ d a b,Xz [.ref 1,.int k] M = .ok (.int d) ((M.set 1 b).set 0 a)∧0<=d∧d < k∧TwC a b:=by
 obtain ⟨ns,c,T⟩:=T
 have hl:(0:Int) < (ns.length:Int):=by
  have:ns.length≠0:=fun z=>T.ne (List.eq_nil_of_length_eq_zero z)
  omega
 have e0:Xz [.ref 1,.int k] M=fin (jeL [some (.ref 1),some (.int k),none,none,none,none] M):=rfl;rw [e0];have a1:=vZ T.tw;have a0:=vZ T.row
 obtain ⟨M1,eM1⟩:∃ M1,M1=M.set 1 (.lst [.ref 0,.int (c + 1)]):=⟨_,rfl⟩
 have g0:M1.g 0=some (.lst (ns.map PV.int)):=by rw [eM1,Sto.set_ne (by decide)]; exact T.row
 have g1:M1.g 1=some (.lst [.ref 0,.int (c + 1)]):=by rw [eM1,Sto.set_same]
 have gi:∀ i,2<=i->i < M.n->M1.g i=M.g i:=fun i hi _=>by rw [eM1,Sto.set_ne (by omega)]
 have n1:M1.n=M.n:=by rw [eM1]; rfl
 have p1:jfJ M (.ref 1) (.int 1) (.int (c + 1))=some M1:=by
  show (match M.g 1 with
   | some (.lst xs)=>(ixN xs.length 1).map fun n=>M.set 1 (.lst (xs.set n (.int (c + 1))))
   | _=>none)=_
  rw [T.tw,eM1];rfl
 have at0:0<=(c + 1) % (ns.length:Int):=Int.emod_nonneg _ (by omega);have at1:(c + 1) % (ns.length:Int) < ns.length:=Int.emod_lt_of_pos _ hl
 obtain ⟨at_,eat⟩:∃ a,a=(c + 1) % (ns.length:Int):=⟨_,rfl⟩
 rw [<- eat] at at0 at1
 obtain ⟨cell,ecell⟩:∃ z,ns[at_.toNat]? = some z:=⟨_,List.getElem?_eq_getElem (by omega)⟩
 have b1:=vZ g1;have b0:=vZ g0;unfold jeL
 have s1:dOp gIx (jf 0) (dC (.int 0)) [some (.ref 1),some (.int k),none,none,none,none] M = .ok (.ref 0) M:=by
  simp [uv a1]; rfl
 have ix0:atI (ns.map PV.int) at_=some (.int cell):=by
  rw [jap at0 (by simpa using at1),List.getElem?_map,ecell];rfl
 simp [s1,uv a1,uv b1,uv b0,jbb b0,jaz,p1,jap,xn hl,<- eat,ix0,dMt]
 by_cases hc:1000000000000000000<=cell
 ·rw [if_pos hc,JM (by omega) h2]
  obtain ⟨M2,eM2⟩:∃ M2,M2=M1.set 0 (.lst ((ns.set at_.toNat (cell / k)).map PV.int)):=⟨_,rfl⟩
  have p2:jfJ M1 (.ref 0) (.int at_) (.int (cell / k))=some M2:=by
   show (match M1.g 0 with
    | some (.lst xs)=>(ixN xs.length at_).map fun n=>M1.set 0 (.lst (xs.set n (.int (cell / k))))
    | _=>none)=_
   rw [g0,eM2]
   have:ixN (ns.map PV.int).length at_=some at_.toNat:=by
    unfold ixN;rw [if_pos at0,if_pos (by simpa using at1)]
   simp only [this];rw [List.map_set];rfl
  simp [p2,xn (show 0 < k by omega)];refine ⟨_,.lst ((ns.set at_.toNat (cell / k)).map PV.int),.lst [.ref 0,.int (c + 1)],⟨rfl,by rw [eM2,eM1]⟩,Int.emod_nonneg _ (by omega),Int.emod_lt_of_pos _ (by omega),ns.set at_.toNat (cell / k),c + 1,rfl,rfl,?_⟩;intro z
  have:=congrArg List.length z
  rw [List.length_set] at this;exact T.ne (List.eq_nil_of_length_eq_zero this)
 ·rw [if_neg hc]
  obtain ⟨x,ex⟩:∃ x,x=(cell + 104729 * (c + 1)) % 4294967291:=⟨_,rfl⟩
  have x0:0<=x:=by rw [ex]; exact Int.emod_nonneg _ (by decide)
  have x1:x < 4294967291:=by rw [ex]; exact Int.emod_lt_of_pos _ (by decide)
  obtain ⟨y,ey⟩:∃ y,y=x ^ 5 % 4294967279:=⟨_,rfl⟩
  have y0:0<=y:=by rw [ey]; exact Int.emod_nonneg _ (by decide)
  have y1:y < 4294967279:=by rw [ey]; exact Int.emod_lt_of_pos _ (by decide)
  have ix1:atI [PV.ref 0,PV.int (c + 1)] 1=some (.int (c + 1)):=rfl
  simp [uv b1,ix1,VT (i:=104729) (j:=c + 1) (.inl (by decide)),xn (show (0:Int) < 4294967291 by decide),<- ex,jet (i:=x) (j:=5) (by decide) (by decide) (by omega),xn (show (0:Int) < 4294967279 by decide),<- ey,
   JM (show (0:Int) < 64 by decide) (by decide),VT (i:=y / 64) (j:=69621) (.inr (by decide)),xn (show (0:Int) < 4294967231 by decide),JM (show (0:Int) < 8 by decide) (by decide),xn (show 0 < k by omega)]
  refine ⟨_,.lst (ns.map PV.int),.lst [.ref 0,.int (c + 1)],⟨rfl,?_⟩,Int.emod_nonneg _ (by omega),Int.emod_lt_of_pos _ (by omega),ns,c + 1,rfl,rfl,T.ne⟩;rw [<- eM1,jcW g0]
theorem jfR {M:Sto} (T:Tw M) {xs:List PV} (hne:xs≠[]) (hl:xs.length < 1073741824):∃ x a b,xf [.ref 1,.lst xs] M = .ok x ((M.set 1 b).set 0 a)∧x ∈ xs∧TwC a b:=by
 have h0:xs.length≠0:=fun z=>hne (List.eq_nil_of_length_eq_zero z);obtain ⟨d,a,b,e,d0,d1,T'⟩:=jgw T (k:=(xs.length:Int)) (by omega) (by omega)
 have hd:d.toNat < xs.length:=by omega
 refine ⟨xs[d.toNat],a,b,?_,List.getElem_mem hd,T'⟩;have e0:xf [.ref 1,.lst xs] M=fin (jeK [some (.ref 1),some (.lst xs)] M):=rfl;rw [e0];unfold jeK;simp [ya,gen,jbb (M:=M) (x:=.lst xs) rfl,e,uv (M:=(M.set 1 b).set 0 a) (x:=.lst xs) rfl,jap d0 d1,List.getElem?_eq_getElem hd]
theorem jfS {a b:Cell} {n:Nat} {l:List (Nat × Cell)} {g:Nat->Option Cell} (T:TwC a b) (hn:2<=n) {xs:List PV} (hne:xs≠[]) (hl:xs.length < 1073741824) :
  ∃ x a' b',xf [.ref 1,.lst xs] (PM n ((0,a) :: (1,b) :: l) g) = .ok x (PM n ((0,a') :: (1,b') :: l) g)∧x ∈ xs∧TwC a' b':=by
 obtain ⟨x,a',b',e,hx,t⟩:=jfR (T.tw (l:=l) (g:=g) hn) hne hl;rw [PM_set] at e;exact ⟨x,a',b',e,hx,t⟩
theorem jfp (ns:List Int):∃ a b g,XA [.scr ns] ⟨0,fun _=>none⟩ = .ok (.ref 1) (PM 2 [(0,a),(1,b)] g)∧TwC a b:=by
 obtain ⟨M,e,⟨ms,c,t⟩,n2⟩:=jfo ns;refine ⟨_,_,M.g,?_,ms,c,rfl,rfl,t.ne⟩;rw [e];congr 1
 exact jeZ (ks:=[0,1]) (cs:=[_,_]) n2 (by
  show [M.g 0,M.g 1]=_;rw [t.row,t.tw]
  rfl)
theorem jeB {neg:Bool} {M:Sto} {x:PV} (p:plain x=true) (d:dep x<=60):eqG neg M x x=some (.bl (!neg)):=by
 have hx:look M x=x:=by
  cases x with
  | ref _=>cases p
  | _=>rfl
 unfold eqG;rw [hx,if_pos ⟨p,p,d⟩,vT p];cases neg <;> rfl
theorem jfq {M M1:Sto} {ρ:En} {d:DE} {w:Str} {v:Str} (h:d ρ M = .ok (.str w) M1) (e:w=v):jL (dOp (eqG true) d (dC (.str v))) ρ M = .ok false M1:=by
 subst e;simp only [jeO,dOp_eq,h,Res.bind_ok,dC_eq,jeB (neg:=true) (M:=M1) (x:=.str w) rfl (Nat.le_of_ble_eq_true rfl),jdS,asB_bl,Bool.not_true]
theorem or_no {M M1 M2:Sto} {ρ:En} {t u:DT} (h1:t ρ M = .ok false M1) (h2:u ρ M1 = .ok false M2):dOr t u ρ M = .ok false M2:=by
 rw [dOr_eq,h1];exact h2
theorem jgZ {s c:DS} {ρ ρ':En} {M M1:Sto} (h:s ρ M = .nx ρ' M1) (k:Tru (c ρ' M1)):Tru (jy s c ρ M):=by
 unfold jy;rw [h];exact k
theorem xF {α β:Type} {l:List α} {f g:α->β} (h:l.map f=l.map g) {x:α} (hx:x ∈ l):f x=g x:=List.map_inj_left.mp h x hx
theorem VG {s c:DS} {ρ ρ':En} {M M1:Sto} {r:RS} (h:s ρ M = .nx ρ' M1) (k:c ρ' M1=r):jy s c ρ M=r:=by
 unfold jy;rw [h];exact k
theorem get_ix {α:Type} {x z:α} {l:List α} (h:x ∈ l):∃ i,i < l.length∧x=l.getD i z:=by
 obtain ⟨i,hi,e⟩:=List.mem_iff_getElem.mp h;exact ⟨i,hi,by rw [List.getD_eq_getElem?_getD,List.getElem?_eq_getElem hi,<- e]; rfl⟩
theorem xG {g:DG} {db:DS} {x:PV} {xs:List PV} {ρ ρ1 ρ2:En} {M M1:Sto} {r:RS} (g1:g x ρ=some ρ1) (h1:db ρ1 M = .nx ρ2 M1) (k:vP g db xs ρ2 M1=r):vP g db (x :: xs) ρ M=r:=by
 unfold vP;simp only [g1,h1];exact k
theorem Jw {n:Nat} {a b:Cell} {l:List (Nat × Cell)} {g:Nat->Option Cell} (T:TwC a b) (hn:2<=n) (xs:List PV) (hne:xs≠[]) (hl:xs.length < 1073741824):∃ i a' b',i < xs.length∧TwC a' b'∧∀ {ρ:En} {d dt:DE},dt ρ (PM n ((0,a) :: (1,b) :: l) g) = .ok (.ref 1) (PM n ((0,a) :: (1,b) :: l) g)->d ρ (PM n ((0,a) :: (1,b) :: l) g) = .ok (.lst xs) (PM n ((0,a) :: (1,b) :: l) g) ->
  jw xf 2 0 [.p 0,.p 1] [] (jb dt (jb d je)) je ρ (PM n ((0,a) :: (1,b) :: l) g) = .ok (xs.getD i .non) (PM n ((0,a') :: (1,b') :: l) g):=by
 obtain ⟨x,a',b',e,hx,T'⟩:=jfS (l:=l) (g:=g) T hn hne hl;obtain ⟨i,hi,rfl⟩:=get_ix (z:=.non) hx;refine ⟨i,a',b',hi,T',fun {ρ d dt} h1 h2=>?_⟩;simp only [JW,JV,h1,h2,Jd,Res.bind_ok];exact e
theorem jhq {r:RS} (h:(match r with
  | .rt (.bl true) _=>true
  | _=>false)=true):Tru r:=by
 split at h
 ·exact ⟨_,rfl⟩
 ·cases h
theorem XF {M M0 M1:Sto} {ρ:En} {D:List PV->Sto->Res PV} {da:DA} {vs:List PV} {w:Str} (h:da ρ M = .ok vs M0) (e:D (ya 5 0 [.p 0,.p 1,.p 2,.p 3,.p 4] [] vs []) M0 = .ok (.str w) M1):jL (dOp (eqG true) (jw D 5 0 [.p 0,.p 1,.p 2,.p 3,.p 4] [] da je) (dC (.str w))) ρ M = .ok false M1:=by
 refine jfq (w:=w) ?_ rfl;rw [JW,h];simp only [Res.bind_ok,Jd];exact e
theorem jeX {ρ:En} {M M':Sto} {d1 d2 dp d4 d5:DE} {v1 v2 p v4 v5:PV} (h1:d1 ρ M = .ok v1 M) (h2:d2 ρ M = .ok v2 M) (hp:dp ρ M = .ok p M') (h4:d4 ρ M' = .ok v4 M') (h5:d5 ρ M' = .ok v5 M'):jb d1 (jb d2 (jb dp (jb d4 (jb d5 je)))) ρ M = .ok [v1,v2,p,v4,v5] M':=by
 simp only [JV,h1,h2,hp,h4,h5,Jd,Res.bind_ok]
def bkK:List Nat:=[2,3,4,5,6,7]
def bkF:Cell:=.ins 10 [("liars",.lst [.int 1]),("said",.ref 3),("bound",.ref 4),("seen",.lst [.ref 5,.ref 6,.ref 7])]
def bkC:List Cell:=[bkF,.dtv [([0,5,7],.bl true)],.dtv [([0,5],.int 7)],.dkv [],.dkv [],.dkv []]
def wro:List PV:=[.lst [.int 3],.lst [.int 1,.int 0],.non,.int 5,.lst [.bl true],.lst [.int 0,.int 0]]
def siz:List PV:=[.int 0,.int 17,.bl true,.non]
def hou:List PV:=[.int 3,.int (-1),.bl true,.non,.str "0",.lst [.int 0]]
def pla:List PV:=[.int 100,.int (-1),.bl true,.non,.str "0"]
def num:List PV:=[.int 1000001,.int (-1000001),.bl true,.non,.str "7"]
def Uj:List PV:=[.tup [.int 0,.int 5,.int 8],.tup [.int 1,.int 5,.int 7],.lst [.int 0,.int 5,.int 7],.non,.int 5,.tup [.int 0,.int 5],.tup [.int 0,.int 5,.int 7,.int 7]]
def nob:List PV:=[.non,.int 5,.lst [],.str "book"]
theorem s29_1 (x:PV) (a b:Cell) (g:Nat->Option Cell):vwS ([0,1] ++ bkK) ((yo 2 (jgy 10 Yj 2 1 [.p 0,.p 1,.k 0] [] (jb (dC (.int 3)) je) (jb (yh (jb (dC (.int 1)) je)) je))) [some x,some (.ref 1),none,none,none,none,none,none,none,none,none,none] (PM 2 [(0,a),(1,b)] g))=some ([some x,some (.ref 1),some (.ref 2),none,none,none,none,none,none,none,none,none],8,([a,b] ++ [bkF,.dtv [],.dtv [],.dkv [],.dkv [],.dkv []]).map some):=by kernel_rfl
theorem s29_2 (x:PV) (a b:Cell) (g:Nat->Option Cell):vwS ([0,1] ++ bkK) ((yo 3 (xa 10 "say" uK 4 0 [.p 0,.p 1,.p 2,.p 3] [] (jf 2) (jb (dC (.int 0)) (jb (dC (.int 5)) (jb (dC (.int 7)) je))) je)) [some x,some (.ref 1),some (.ref 2),none,none,none,none,none,none,none,none,none] (PM 8 (([0,1] ++ bkK).zip ([a,b] ++ [bkF,.dtv [],.dtv [],.dkv [],.dkv [],.dkv []])) g))=some ([some x,some (.ref 1),some (.ref 2),some (.tup [.int 0,.int 5,.int 7]),none,none,none,none,none,none,none,none],8,([a,b] ++ bkC).map some):=by kernel_rfl
theorem jhC (w:PV) (a b:Cell) (g:Nat->Option Cell):(List.range 16).map (fun i:Nat=>vw ([0,1] ++ bkK) (ye [.ref 2,.int 0,siz.getD (i % 4) .non,w,.int 0] (PM (8 + 9 * (i / 4)) (([0,1] ++ bkK).zip ([a,b] ++ bkC)) g)))=(List.range 16).map (fun i:Nat=>some (.str "number",8 + 9 * (i / 4) + 1,([a,b] ++ bkC).map some)):=by kernel_rfl
theorem jhB (a b:Cell) (g:Nat->Option Cell):(List.range 24).map (fun i:Nat=>vw ([0,1] ++ bkK) (ye [.ref 2,.int 0,.int 3,wro.getD (i % 6) .non,.int 0] (PM (8 + 9 * (i / 6) + 1) (([0,1] ++ bkK).zip ([a,b] ++ bkC)) g)))=(List.range 24).map (fun i:Nat=>some (.str "houses",8 + 9 * (i / 6) + 2,([a,b] ++ bkC).map some)):=by kernel_rfl
def hh3 (v:PV):PV:=.lst [.tup [.str "house",v],.tup [.str "house",v],.tup [.str "house",v]]
theorem t29_5 (x r t w p n:PV) (f d:Option PV) (a b:Cell) (g:Nat->Option Cell):(List.range 24).map (fun i:Nat=>vwS ([0,1] ++ bkK) ((yo 9 (yh (jb (jw ye 5 0 [.p 0,.p 1,.p 2,.p 3,.p 4] [] (jb (jf 2) (jb (dC (.int 1)) (jb (jf 6) (jb (jf 7) (jb (jf 8) je))))) je) (jb (jw ye 5 0 [.p 0,.p 1,.p 2,.p 3,.p 4] [] (jb (jf 2) (jb (dC (.int 2)) (jb (jf 6) (jb (dC (.int 5)) (jb (dC (.int 0)) je))))) je) (jb (jw ye 5 0 [.p 0,.p 1,.p 2,.p 3,.p 4] [] (jb (jf 2) (jb (dC (.int 3)) (jb (jf 6) (jb (jf 6) (jb (dC (.int 0)) je))))) je) je))))) [some x,some (.ref 1),some (.ref 2),some r,some t,some w,some (hou.getD (i % 6) .non),some p,some n,f,d,none] (PM (8 + 9 * (i / 6) + 2) (([0,1] ++ bkK).zip ([a,b] ++ bkC)) g))) =
  (List.range 24).map (fun i:Nat=>some ([some x,some (.ref 1),some (.ref 2),some r,some t,some w,some (hou.getD (i % 6) .non),some p,some n,some (hh3 (hou.getD (i % 6) .non)),d,none],8 + 9 * (i / 6) + 5,([a,b] ++ bkC).map some)):=by kernel_rfl
theorem t29_6 (x r t w p n:PV) (d:Option PV) (a b:Cell) (g:Nat->Option Cell):(List.range 24).map (fun i:Nat=>vwS ([0,1] ++ bkK) ((sIf (jL (dOp (eqG true) (dOp JN (dOp JN (jf 9) (xT (dIt (yh (jb (dC (.int 4)) (jb (dC (.int 5)) je)))) Vl [2,6] vV jbj)) (yh (jb (jw ye 5 0 [.p 0,.p 1,.p 2,.p 3,.p 4] [] (jb (jf 2) (jb (dC (.int 3)) (jb (dC (.int 0)) (jb (jf 6) (jb (dC (.int 0)) je))))) je) je))) (dOp jcl (yh (jb (yN (jb (dC (.str "house")) (jb (jf 6) je))) je)) (dC (.int 6))))) (yb (dC (.bl false))) jU) [some x,some (.ref 1),some (.ref 2),some r,some t,some w,some (hou.getD (i % 6) .non),some p,some n,some (hh3 (hou.getD (i % 6) .non)),d,none] (PM (8 + 9 * (i / 6) + 5) (([0,1] ++ bkK).zip ([a,b] ++ bkC)) g))) =
  (List.range 24).map (fun i:Nat=>some ([some x,some (.ref 1),some (.ref 2),some r,some t,some w,some (hou.getD (i % 6) .non),some p,some n,some (hh3 (hou.getD (i % 6) .non)),d,none],8 + 9 * (i / 6) + 9,([a,b] ++ bkC).map some)):=by kernel_rfl
theorem t29_7 (x r t w h f:PV) (d:Option PV) (a b:Cell) (g:Nat->Option Cell):(List.range 100).map (fun i:Nat=>vwS ([0,1] ++ bkK) ((sIf (dOr (jL (dOp (eqG true) (jw ye 5 0 [.p 0,.p 1,.p 2,.p 3,.p 4] [] (jb (jf 2) (jb (dC (.int 1)) (jb (dC (.int 0)) (jb (jf 7) (jb (jf 8) je))))) je) (dC (.str "number")))) (jL (dOp (eqG true) (jw ye 5 0 [.p 0,.p 1,.p 2,.p 3,.p 4] [] (jb (jf 2) (jb (dC (.int 1)) (jb (dC (.int 0)) (jb (dC (.int 5)) (jb (jf 8) je))))) je) (dC (.str "saying"))))) (yb (dC (.bl false))) jU) [some x,some (.ref 1),some (.ref 2),some r,some t,some w,some h,some (pla.getD (i % 25 / 5) .non),some (num.getD (i % 5) .non),some f,d,none] (PM (8 + 9 * (i / 25) + 9) (([0,1] ++ bkK).zip ([a,b] ++ bkC)) g))) =
  (List.range 100).map (fun i:Nat=>some ([some x,some (.ref 1),some (.ref 2),some r,some t,some w,some h,some (pla.getD (i % 25 / 5) .non),some (num.getD (i % 5) .non),some f,d,none],8 + 9 * (i / 25) + 9,([a,b] ++ bkC).map some)):=by kernel_rfl
theorem t29_9 (x r t w h p n f:PV) (a b:Cell) (g:Nat->Option Cell):(List.range 28).map (fun i:Nat=>vwS ([0,1] ++ bkK) ((sIf (dOr (jL (dOp (eqG true) (jw ye 5 0 [.p 0,.p 1,.p 2,.p 3,.p 4] [] (jb (jf 2) (jb (dC (.int 2)) (jb (dC (.int 1)) (jb (jf 10) (jb (dC (.int 0)) je))))) je) (dC (.str "saying")))) (jL (dOp (eqG true) (jw ye 5 0 [.p 0,.p 1,.p 2,.p 3,.p 4] [] (jb (jf 2) (jb (dC (.int 1)) (jb (dC (.int 0)) (jb (dC (.int 5)) (jb (dC (.int 8)) je))))) je) (dC (.str "now"))))) (yb (dC (.bl false))) jU) [some x,some (.ref 1),some (.ref 2),some r,some t,some w,some h,some p,some n,some f,some (Uj.getD (i % 7) .non),none] (PM (8 + 9 * (i / 7) + 9) (([0,1] ++ bkK).zip ([a,b] ++ bkC)) g))) =
  (List.range 28).map (fun i:Nat=>some ([some x,some (.ref 1),some (.ref 2),some r,some t,some w,some h,some p,some n,some f,some (Uj.getD (i % 7) .non),none],8 + 9 * (i / 7) + 9,([a,b] ++ bkC).map some)):=by kernel_rfl
theorem jhD (a b:Cell) (g:Nat->Option Cell):(List.range 16).map (fun i:Nat=>vw ([0,1] ++ bkK) (ye [.ref 2,.int 6,nob.getD (i % 4) .non,.int 0,.int 0] (PM (8 + 9 * (i / 4) + 9) (([0,1] ++ bkK).zip ([a,b] ++ bkC)) g)))=(List.range 16).map (fun i:Nat=>some (.str "houses",8 + 9 * (i / 4) + 9,([a,b] ++ bkC).map some)):=by kernel_rfl
theorem XE {k:Nat} (hk:k < 4) {x r t:PV} {u5 u6 u7 u8 u9 u10:Option PV} {a b:Cell} {g:Nat->Option Cell} (T:TwC a b) :
  ∃ v5 v6 v7 v8 v9 v10 a' b' g',TwC a' b'∧JU [some x,some (.ref 1),some (.ref 2),some r,some t,u5,u6,u7,u8,u9,u10,none] (PM (8 + 9 * k) (([0,1] ++ bkK).zip ([a,b] ++ bkC)) g) =
   .nx [some x,some (.ref 1),some (.ref 2),some r,some t,some v5,some v6,some v7,some v8,some v9,some v10,none] (PM (8 + 9 * k + 9) (([0,1] ++ bkK).zip ([a',b'] ++ bkC)) g'):=by
 obtain ⟨i0,a0,b0,h0,T0,e0⟩:=Jw (n:=8 + 9 * k) (l:=bkK.zip bkC) (g:=g) T (by omega) wro (by simp [wro]) (by decide);obtain ⟨i1,a1,b1,h1,T1,e1⟩:=Jw (n:=8 + 9 * k) (l:=bkK.zip bkC) (g:=g) T0 (by omega) siz (by simp [siz]) (by decide);have h0:i0 < 6:=h0;have h1:i1 < 4:=h1;have q1:=xF (jhC (wro.getD i0 .non) a1 b1 g) (x:=4 * k + i1) (List.mem_range.mpr (by omega));rw [show (4 * k + i1) / 4=k by omega,show (4 * k + i1) % 4=i1 by omega] at q1;obtain ⟨g1,f1⟩:=seg q1;have q2:=xF (jhB a1 b1 g1) (x:=6 * k + i0) (List.mem_range.mpr (by omega));rw [show (6 * k + i0) / 6=k by omega,show (6 * k + i0) % 6=i0 by omega] at q2;obtain ⟨g2,f2⟩:=seg q2;obtain ⟨i2,a2,b2,h2,T2,e2⟩:=Jw (n:=8 + 9 * k + 2) (l:=bkK.zip bkC) (g:=g2) T1 (by omega) hou (by simp [hou]) (by decide);obtain ⟨i3,a3,b3,h3,T3,e3⟩:=Jw (n:=8 + 9 * k + 2) (l:=bkK.zip bkC) (g:=g2) T2 (by omega) pla (by simp [pla]) (by decide)
 obtain ⟨i4,a4,b4,h4,T4,e4⟩:=Jw (n:=8 + 9 * k + 2) (l:=bkK.zip bkC) (g:=g2) T3 (by omega) num (by simp [num]) (by decide);have h2:i2 < 6:=h2;have h3:i3 < 5:=h3;have h4:i4 < 5:=h4;have q5:=xF (t29_5 x r t (wro.getD i0 .non) (pla.getD i3 .non) (num.getD i4 .non) u9 u10 a4 b4 g2) (x:=6 * k + i2) (List.mem_range.mpr (by omega));rw [show (6 * k + i2) / 6=k by omega,show (6 * k + i2) % 6=i2 by omega] at q5;obtain ⟨g5,f5⟩:=jbM q5;have q6:=xF (t29_6 x r t (wro.getD i0 .non) (pla.getD i3 .non) (num.getD i4 .non) u10 a4 b4 g5) (x:=6 * k + i2) (List.mem_range.mpr (by omega));rw [show (6 * k + i2) / 6=k by omega,show (6 * k + i2) % 6=i2 by omega] at q6;obtain ⟨g6,f6⟩:=jbM q6;have q7:=xF (t29_7 x r t (wro.getD i0 .non) (hou.getD i2 .non) (hh3 (hou.getD i2 .non)) u10 a4 b4 g6) (x:=25 * k + 5 * i3 + i4) (List.mem_range.mpr (by omega));rw [show (25 * k + 5 * i3 + i4) / 25=k by omega,show (25 * k + 5 * i3 + i4) % 25 / 5=i3 by omega,show (25 * k + 5 * i3 + i4) % 5=i4 by omega] at q7
 obtain ⟨g7,f7⟩:=jbM q7;obtain ⟨i8,a8,b8,h8,T8,e8⟩:=Jw (n:=8 + 9 * k + 9) (l:=bkK.zip bkC) (g:=g7) T4 (by omega) Uj (by simp [Uj]) (by decide);have h8:i8 < 7:=h8;have q9:=xF (t29_9 x r t (wro.getD i0 .non) (hou.getD i2 .non) (pla.getD i3 .non) (num.getD i4 .non) (hh3 (hou.getD i2 .non)) a8 b8 g7) (x:=7 * k + i8) (List.mem_range.mpr (by omega));rw [show (7 * k + i8) / 7=k by omega,show (7 * k + i8) % 7=i8 by omega] at q9;obtain ⟨g9,f9⟩:=jbM q9;obtain ⟨i10,a10,b10,h10,T10,e10⟩:=Jw (n:=8 + 9 * k + 9) (l:=bkK.zip bkC) (g:=g9) T8 (by omega) nob (by simp [nob]) (by decide);have h10:i10 < 4:=h10;have q11:=xF (jhD a10 b10 g9) (x:=4 * k + i10) (List.mem_range.mpr (by omega));rw [show (4 * k + i10) / 4=k by omega,show (4 * k + i10) % 4=i10 by omega] at q11;obtain ⟨g11,f11⟩:=seg q11;refine ⟨wro.getD i0 .non,hou.getD i2 .non,pla.getD i3 .non,num.getD i4 .non,hh3 (hou.getD i2 .non),Uj.getD i8 .non,a10,b10,g11,T10,?_⟩
 unfold JU;refine JA (e0 rfl rfl) ?_;refine VG (jaR (or_no (XF (vs:=[.ref 2,.int 0,siz.getD i1 .non,wro.getD i0 .non,.int 0]) (jeX rfl rfl (e1 rfl rfl) rfl rfl) f1) (XF (vs:=[.ref 2,.int 0,.int 3,wro.getD i0 .non,.int 0]) rfl f2))) ?_;refine JA (e2 rfl rfl) (JA (e3 rfl rfl) (JA (e4 rfl rfl) ?_));refine VG f5 (VG f6 (VG f7 (JA (e8 rfl rfl) (VG f9 ?_))));exact jaR (XF (vs:=[.ref 2,.int 6,nob.getD i10 .non,.int 0,.int 0]) (jeX rfl rfl (e10 rfl rfl) rfl rfl) f11)
theorem law_true (ns:List Int) (hl:ns.length<=63):∃ M',yg 1 12 Ub [.scr ns] ⟨0,fun _=>none⟩ = .ok (.bl true) M':=by
 show Tru (Ub [some (.scr ns),none,none,none,none,none,none,none,none,none,none,none] ⟨0,fun _=>none⟩);obtain ⟨a,b,g,e0,T⟩:=jfp ns;unfold Ub
 refine go_set (v:=.ref 1) (M1:=PM 2 [(0,a),(1,b)] g) (by
  simp only [JW,JV,dVar_0,Jd,Res.bind_ok]
  exact e0) ?_
 obtain ⟨g1,e1⟩:=jbM (s29_1 (.scr ns) a b g);refine jgZ e1 ?_;obtain ⟨g2,e2⟩:=jbM (s29_2 (.scr ns) a b g1);refine jgZ e2 ?_;obtain ⟨v5,v6,v7,v8,v9,v10,a3,b3,g3,T3,f3⟩:=XE (k:=0) (by decide) (x:=.scr ns) (r:=.tup [.int 0,.int 5,.int 7]) (t:=.int (0:Nat)) (u5:=none) (u6:=none) (u7:=none) (u8:=none) (u9:=none) (u10:=none) (g:=g2) T;obtain ⟨w5,w6,w7,w8,w9,w10,a4,b4,g4,T4,f4⟩:=XE (k:=1) (by decide) (x:=.scr ns) (r:=.tup [.int 0,.int 5,.int 7]) (t:=.int (1:Nat)) (u5:=some v5) (u6:=some v6) (u7:=some v7) (u8:=some v8) (u9:=some v9) (u10:=some v10) (g:=g3) T3;obtain ⟨x5,x6,x7,x8,x9,x10,a5,b5,g5,T5,f5⟩:=XE (k:=2) (by decide) (x:=.scr ns) (r:=.tup [.int 0,.int 5,.int 7]) (t:=.int (2:Nat)) (u5:=some w5) (u6:=some w6) (u7:=some w7) (u8:=some w8) (u9:=some w9) (u10:=some w10) (g:=g4) T4;obtain ⟨y5,y6,y7,y8,y9,y10,a6,b6,g6,T6,f6⟩:=XE (k:=3) (by decide) (x:=.scr ns) (r:=.tup [.int 0,.int 5,.int 7]) (t:=.int (3:Nat)) (u5:=some x5) (u6:=some x6) (u7:=some x7) (u8:=some x8) (u9:=some x9) (u10:=some x10) (g:=g5) T5
 refine go_for (xs:=[.int (0:Nat),.int (1:Nat),.int (2:Nat),.int (3:Nat)]) rfl (xG rfl f3 (xG rfl f4 (xG rfl f5 (xG rfl f6 rfl)))) ?_;exact jhq (by kernel_rfl)
abbrev yd:Stmt:=yu (top 6) 0
theorem uP:FnScope ["self","house"] ["self","house"] (jd yd):=⟨rfl,rfl,rfl,by decide +kernel,rfl,by decide +kernel,by decide +kernel⟩
theorem uR {P:Program} {w:World} {K:PySem.W.Frag} {mg:Str->Option Value} {base:Heap} {D LC f:Addr} {fd:FuncData} (F:Fun K "__init__" "NoHouse.__init__" yd f fd) (hx:XCls K D "house") (A_LiarError:mg "LiarError" = some (.ref LC))
  (hrd:PySem.W.readsIn K LC (.type "type")=true) (hfc:PySem.W.findCls K (.ref LC) (.type "type") "__init__" = some (.val (.builtin "ValueError.__init__"))) (hsp:PySem.W.specialIn K (.ref LC) "__getattribute__" = some (some (.builtin "type.__getattribute__"))) :
  FnOk P w K mg base CX0 1 f fd ["self","house"] (spX D "house") :=
 F.ok (k:=0) uP (fun vs H Q E h=>by
  obtain ⟨_,_,rfl,_⟩:=h
  rfl) fun cdv A outer s H vs Q E hr hs=>⟨_,vL (jaI (jdI hx.ex rfl A_LiarError hrd hfc hsp (uZ (Jy (i:=0) rfl (Or.inl rfl)) (uZ UC UE)))) (jaG (jfL hx (Jy (i:=0) rfl (Or.inl rfl)) (Jy (i:=1) rfl (Or.inl rfl)) rfl)),by
  obtain ⟨ea,v,rfl,h1,h2⟩:=hs
  exact ⟨_,rfl,ea,_,rfl,h1,_,rfl,_,rfl,ea,rfl,h1,h2⟩⟩
section
variable {P:Program} {w:World} {K:PySem.W.Frag} {mg:Str->Option Value} {base:Heap} {C:Nat->Addr} {f:Addr} {fd:FuncData}
theorem ok_zan (F:Fun K "_law_town" "_law_town" YN f fd) (N_list:mg "list" = none):FnOk P w K mg base (CX1 P w) 1 f fd ["_law_script"] (spD (tb w K C) XA) :=
 have hT:(tb w K C).K=K:=rfl
 jY F jhU fun cdv A outer s H E hr=>(jj (jA (jaE (ja (jaF (jN (o_scr hT (hu0 hr)) (qv 0) (jE jc) (jF _)) (YY (jgJ hT) rfl N_list Vk (ja (qv 0) jc)) (jaE (ja jg jc))) (ja jg jc)))))
theorem ok_zax (F:Fun K "is_whole" "is_whole" YF f fd) (N_bool:mg "bool" = none) (N_int:mg "int" = none) (N_isinstance:mg "isinstance" = none):FnOk P w K mg base (CX1 P w) 1 f fd ["thing"] (spD (tb w K C) Xy) :=
 have hT:(tb w K C).K=K:=rfl
 jY F jhM fun cdv A outer s H E hr=>(jj (jA (vm (jx (Uk hT) rfl N_isinstance jr (ja (qv 0) (ja (Uz rfl N_int bt_int) jc))) (ui (qe_not (jx (Uk hT) rfl N_isinstance jr (ja (qv 0) (ja (Uz rfl N_bool jgG) jc))))))))
theorem ok_zao (F:Fun K "is_within" "is_within" YM f fd) (Q_zax:CalD P w K mg base (tb w K C) "is_whole" 1 ["thing"] [] 1 0 [.p 0] [] Xy):FnOk P w K mg base (CX1 P w) 2 f fd ["thing","least","most"] (spD (tb w K C) uL) :=
 have hT:(tb w K C).K=K:=rfl
 jY F jhT fun cdv A outer s H E hr=>(jj (jA (vm (jm Q_zax (hr.mono (by decide)) rfl jP (ja (qv 0) jc) jk) (ui (jdu (o_le) (o_le) (qv 1) (qv 0) (qv 2))))))
theorem ok_zaf (F:Fun K "check_within" "check_within" YU f fd) (X_BadNumber:Exc K mg "BadNumber" (C 0)) (Q_zao:CalD P w K mg base (tb w K C) "is_within" 2 ["thing","least","most"] [] 3 0 [.p 0,.p 1,.p 2] [] uL):FnOk P w K mg base (CX1 P w) 3 f fd ["thing","least","most"] (spD (tb w K C) XB) :=
 have hT:(tb w K C).K=K:=rfl
 jY F sc_zaf fun cdv A outer s H E hr=>(jj (yk (yG (yF hT (jm Q_zao (hr.mono (by decide)) rfl jP (ja (qv 0) (ja (qv 1) (ja (qv 2) jc))) jk))) (jj (yW X_BadNumber (by decide) rfl (ja (jfI (jdm (by decide +kernel) (by decide) (jdn (qv 1) (by decide) (jdm (by decide +kernel) (by decide) (jdn (qv 2) (by decide) (qj_nil (by decide))))))) jc))) jH))
theorem ok_zag (F:Fun K "check_houses" "check_houses" YT f fd) {t_MOST_HOUSES:Tok} (C_MOST_HOUSES:mg "MOST_HOUSES" = some (.int 16 t_MOST_HOUSES)) (Q_zaf:CalD P w K mg base (tb w K C) "check_within" 3 ["thing","least","most"] [] 3 0 [.p 0,.p 1,.p 2] [] XB):FnOk P w K mg base (CX1 P w) 4 f fd ["houses"] (spD (tb w K C) jbA) :=
 have hT:(tb w K C).K=K:=rfl
 jY F sc_zag fun cdv A outer s H E hr=>(jj (ym (jm Q_zaf (hr.mono (by decide)) rfl jP (ja (qv 0) (ja jg (ja (XN rfl C_MOST_HOUSES) jc))) jk)))
theorem ok_zay (F:Fun K "is_house" "is_house" YE f fd) (Q_zao:CalD P w K mg base (tb w K C) "is_within" 2 ["thing","least","most"] [] 3 0 [.p 0,.p 1,.p 2] [] uL):FnOk P w K mg base (CX1 P w) 3 f fd ["thing","houses"] (spD (tb w K C) Xx) :=
 have hT:(tb w K C).K=K:=rfl
 jY F jhL fun cdv A outer s H E hr=>(jj (jA (jm Q_zao (hr.mono (by decide)) rfl jP (ja (qv 0) (ja jg (ja (yn (jaP) (qv 1) jg) jc))) jk)))
theorem ok_zap (F:Fun K "is_rising" "is_rising" Jm f fd) (N_all:mg "all" = none) (N_zip:mg "zip" = none):FnOk P w K mg base (CX1 P w) 1 f fd ["numbers"] (spD (tb w K C) jbu) :=
 have hT:(tb w K C).K=K:=rfl
 jY F jhS fun cdv A outer s H E hr=>(jj (jA (jx (jeV rfl) rfl N_all jaj (ja (xc (osc:=(jd Jm)) (own:=["ahead","number"]) (fr:=[]) (js:=[]) (bnd_2 (T:=tb w K C)) rfl rfl (by exact ⟨rfl,by decide +kernel,by decide +kernel,by decide +kernel,by decide +kernel,by decide +kernel⟩) rfl (qi_alt (qi_zip hT rfl N_zip (ja (qv 0) (ja (vK hT (qv 0) (uW jg) uX) jc))) (jfE hT rfl N_zip (ja (qv 0) (ja (vK hT (qv 0) (uW jg) uX) jc)))) (fun _ _ _=>(show PG _ _ (gTup K 2 (VV (xL 0) (VV (xL 1) gNil))) from (jdG rfl (Jx (yr (i:=0) (show List.Nodup (["ahead","number"]:List Str) from by decide +kernel) rfl (Or.inl rfl)) (Jx (yr (i:=1) (show List.Nodup (["ahead","number"]:List Str) from by decide +kernel) rfl (Or.inl rfl)) jaM))))) (fun _ _ _=>xz) (fun _ _ _=>(vk (o_lt) (qv 0) (qv 1) (jF _)))) jc))))
theorem ok_zab (F:Fun K "check_some_houses" "check_some_houses" Js f fd) (X_BadHouses:Exc K mg "BadHouses" (C 3)) (Q_zay:CalD P w K mg base (tb w K C) "is_house" 3 ["thing","houses"] [] 2 0 [.p 0,.p 1] [] Xx) (Q_zap:CalD P w K mg base (tb w K C) "is_rising" 1 ["numbers"] [] 1 0 [.p 0] [] jbu) (N_all:mg "all" = none) (N_isinstance:mg "isinstance" = none) (N_len:mg "len" = none) (N_list:mg "list" = none) (N_tuple:mg "tuple" = none):FnOk P w K mg base (CX1 P w) 4 f fd ["some","houses","most"] (spD (tb w K C) jbB) :=
 have hT:(tb w K C).K=K:=rfl
 jY F sc_zab fun cdv A outer s H E hr=>(jh (yk (QW.qt (xO (yG (yF hT (jx (Uk hT) rfl N_isinstance jr (ja (qv 0) (ja (jV (ja (Uz rfl N_list Vk) (ja (Uz rfl N_tuple Yb) jc))) jc))))) (xy (jN (o_gt) (jx (Ye hT) rfl N_len vA (ja (qv 0) jc)) (qv 2) (jF _))))) (jj (yW X_BadHouses (by decide) rfl (ja jT jc))) jH)
   (jj (yk (QW.qt (xO (yG (yF hT (jx (jeV rfl) rfl N_all jaj (ja (xc (osc:=(jd Js)) (own:=["house"]) (fr:=["houses"]) (js:=[1]) Yc rfl rfl (by exact ⟨rfl,by decide +kernel,by decide +kernel,by decide +kernel,by decide +kernel,by decide +kernel⟩) rfl (qi_seq hT (qv 0)) (fun _ _ _=>(yr (i:=0) (show List.Nodup (["house","houses"]:List Str) from by decide +kernel) rfl (Or.inl rfl))) (fun _ _ _=>xz) (fun _ _ _=>(jm Q_zay (hr.mono (by decide)) rfl jD (ja (qv 0) (ja (qv 1) jc)) jk))) jc)))) (xy (yG (yF hT (jm Q_zap (hr.mono (by decide)) rfl jP (ja (qv 0) jc) jk)))))) (jj (yW X_BadHouses (by decide) rfl (ja jT jc))) jH)))
theorem ok_zad (F:Fun K "__init__" "Book.__init__" Jq f fd) (nf_Book_bound:jS K (C 10) "bound") (nf_Book_liars:jS K (C 10) "liars") (nf_Book_said:jS K (C 10) "said") (nf_Book_seen:jS K (C 10) "seen") (Q_zag:CalD P w K mg base (tb w K C) "check_houses" 4 ["houses"] [] 1 0 [.p 0] [] jbA) (Q_zab:CalD P w K mg base (tb w K C) "check_some_houses" 4 ["some","houses","most"] [] 3 0 [.p 0,.p 1,.p 2] [] jbB) (N_list:mg "list" = none) (N_range:mg "range" = none) (cl_Book:Cls K (C 10)):FnOk P w K mg base (CX1 P w) 5 f fd ["self","houses","liars"] (spD (tb w K C) Yj) :=
 have hT:(tb w K C).K=K:=rfl
 jY F sc_zad fun cdv A outer s H E hr=>(jh (ym (jm Q_zag (hr.mono (by decide)) rfl jP (ja (qv 1) jc) jk))
   (jh (ym (jm Q_zab (hr.mono (by decide)) rfl jP (ja (qv 2) (ja (qv 1) (ja (qv 1) jc))) jk))
   (jh (XM hT cl_Book nf_Book_liars (qv 0) (YY (b_list hT) rfl N_list Vk (ja (qv 2) jc)))
   (jh (XM hT cl_Book nf_Book_said (qv 0) jdr)
   (jh (XM hT cl_Book nf_Book_bound (qv 0) jdr)
   (jj (XM hT cl_Book nf_Book_seen (qv 0) (xc (osc:=(jd Jq)) (own:=["house"]) (fr:=[]) (js:=[]) Yc rfl rfl (by exact ⟨rfl,by decide +kernel,by decide +kernel,by decide +kernel,by decide +kernel,by decide +kernel⟩) rfl (uY rfl N_range (ja (qv 1) jc)) (fun _ _ _=>(yr (i:=0) (show List.Nodup (["house"]:List Str) from by decide +kernel) rfl (Or.inl rfl))) (fun _ _ _=>xz) (fun _ _ _=>jds)))))))))
theorem ok_zak (F:Fun K "check_house" "check_house" YQ f fd) (X_NoHouse:ExcI P w K mg base "NoHouse" (C 4) "house" 1) (Q_zay:CalD P w K mg base (tb w K C) "is_house" 3 ["thing","houses"] [] 2 0 [.p 0,.p 1] [] Xx):FnOk P w K mg base (CX1 P w) 4 f fd ["house","houses"] (spD (tb w K C) jbw) :=
 have hT:(tb w K C).K=K:=rfl
 jY F jhX fun cdv A outer s H E hr=>(jj (yk (yG (yF hT (jm Q_zay (hr.mono (by decide)) rfl jP (ja (qv 0) (ja (qv 1) jc)) jk))) (jj (jbQ X_NoHouse (by decide) (hr.mono (by decide)) rfl (ja (qv 0) jc))) jH))
theorem ok_zaa (F:Fun K "check_is_house" "Book.check_is_house" YV f fd) (nf_Book_seen:jS K (C 10) "seen") (Q_zak:CalD P w K mg base (tb w K C) "check_house" 4 ["house","houses"] [] 2 0 [.p 0,.p 1] [] jbw) (N_len:mg "len" = none) (cl_Book:Cls K (C 10)):FnOk P w K mg base (CX1 P w) 5 f fd ["self","house"] (spD (tb w K C) xp) :=
 have hT:(tb w K C).K=K:=rfl
 jY F sc_zaa fun cdv A outer s H E hr=>(jj (ym (jm Q_zak (hr.mono (by decide)) rfl jP (ja (qv 1) (ja (jx (Ye hT) rfl N_len vA (ja (xA hT cl_Book nf_Book_seen (qv 0)) jc)) jc)) jk)))
theorem ok_zaq (F:Fun K "is_number" "is_number" YL f fd) {t_FARTHEST:Tok} (C_FARTHEST:mg "FARTHEST" = some (.int 1000000 t_FARTHEST)) (Q_zao:CalD P w K mg base (tb w K C) "is_within" 2 ["thing","least","most"] [] 3 0 [.p 0,.p 1,.p 2] [] uL):FnOk P w K mg base (CX1 P w) 3 f fd ["thing"] (spD (tb w K C) jbt) :=
 have hT:(tb w K C).K=K:=rfl
 jY F jhR fun cdv A outer s H E hr=>(jj (jA (jm Q_zao (hr.mono (by decide)) rfl jP (ja (qv 0) (ja (qe_neg (XN rfl C_FARTHEST)) (ja (XN rfl C_FARTHEST) jc))) jk)))
theorem ok_zar (F:Fun K "bind" "Book.bind" YK f fd) (X_NotNow:Exc K mg "NotNow" (C 6)) (nf_Book_bound:jS K (C 10) "bound") (cl_Book:Cls K (C 10)):FnOk P w K mg base (CX1 P w) 1 f fd ["self","house","place","number"] (spD (tb w K C) jbs) :=
 have hT:(tb w K C).K=K:=rfl
 jY F jhQ fun cdv A outer s H E hr=>(jh (yk (jN (vM hT hr.units) (jdq (hu1 hr) (xA hT cl_Book nf_Book_bound (qv 0)) (ja (qv 1) (ja (qv 2) jc)) (qv 3) ⟨rfl,rfl,rfl,rfl⟩) (qv 3) (jF _)) (jj (yW X_NotNow (by decide) rfl (ja jT jc))) jH)
   (jj (jdk (hu1 hr) (qv 3) (xA hT cl_Book nf_Book_bound (qv 0)) (ja (qv 1) (ja (qv 2) jc)))))
theorem ok_zaz (F:Fun K "say" "Book.say" YD f fd) {t_LAST_PLACE:Tok} (C_LAST_PLACE:mg "LAST_PLACE" = some (.int 99 t_LAST_PLACE)) (X_BadSaying:Exc K mg "BadSaying" (C 8)) (nf_Book_liars:jS K (C 10) "liars") (nf_Book_said:jS K (C 10) "said") (Q_zaf:CalD P w K mg base (tb w K C) "check_within" 3 ["thing","least","most"] [] 3 0 [.p 0,.p 1,.p 2] [] XB) (Q_zaq:CalD P w K mg base (tb w K C) "is_number" 3 ["thing"] [] 1 0 [.p 0] [] jbt) (Q_zar:MetD P w K mg base (tb w K C) 10 "bind" 1 ["self","house","place","number"] [] 4 0 [.p 0,.p 1,.p 2,.p 3] [] jbs) (Q_zaa:MetD P w K mg base (tb w K C) 10 "check_is_house" 5 ["self","house"] [] 2 0 [.p 0,.p 1] [] xp) (cl_Book:Cls K (C 10)):FnOk P w K mg base (CX1 P w) 6 f fd ["self","house","place","number"] (spD (tb w K C) uK) :=
 have hT:(tb w K C).K=K:=rfl
 jY F jdb fun cdv A outer s H E hr=>(jh (ym (yi Q_zaa (hr.mono (by decide)) jP (qv 0) (ja (qv 1) jc) jk))
   (jh (ym (jm Q_zaf (hr.mono (by decide)) rfl jP (ja (qv 2) (ja jg (ja (XN rfl C_LAST_PLACE) jc))) jk))
   (jh (yk (yG (yF hT (jm Q_zaq (hr.mono (by decide)) rfl jP (ja (qv 3) jc) jk))) (jj (yW X_BadSaying (by decide) rfl (ja jT jc))) jH)
   (jh (yk (jN (jaQ hT (jen hr)) (qv 1) (xA hT cl_Book nf_Book_liars (qv 0)) (by with_unfolding_all rfl)) (jj (ym (yi Q_zar (hr.mono (by decide)) jP (qv 0) (ja (qv 1) (ja (qv 2) (ja (qv 3) jc))) jk))) jH)
   (jfA (i:=4) (hu1 hr) jdb.nd rfl (Or.inl rfl) (ja (qv 1) (ja (qv 2) (ja (qv 3) jc))) (Jy rfl (by first | exact Or.inl rfl | exact Or.inr (Or.inl rfl) | exact Or.inr (Or.inr rfl))) xB (xA hT cl_Book nf_Book_said (qv 0))
   (jj (jA (qv 4))))))))
theorem ok_zas (F:Fun K "_law_draw" "_law_draw" YJ f fd) (N_len:mg "len" = none):FnOk P w K mg base (CX1 P w) 1 f fd ["_law_town_here","_law_many"] (spD (tb w K C) Xz) :=
 have hT:(tb w K C).K=K:=rfl
 jY F ug fun cdv A outer s H E hr=>(jh (jQ (i:=2) ug.nd rfl (Or.inl rfl) (yL (xN hT) (qv 0) jg (fun _ _=>rfl)))
   (jh (jaB (yn (Jz hT) (yL (xN hT) (qv 0) jg (fun _ _=>rfl)) jg) (qv 0) jg)
   (jh (jQ (i:=3) ug.nd rfl (Or.inl rfl) (yn (Xb) (yL (xN hT) (qv 0) jg (fun _ _=>rfl)) (jx (Ye hT) rfl N_len vA (ja (qv 2) jc))))
   (jh (jQ (i:=4) ug.nd rfl (Or.inl rfl) (yL (xN hT) (qv 2) (qv 3) (fun _ _=>rfl)))
   (jh (yk (jN (o_ge) (qv 4) jg (jF _)) (jh (jaB (yn (jdU) (qv 4) (qv 1)) (qv 2) (qv 3))
   (jj (jA (yn (Xb) (qv 4) (qv 1))))) jH)
   (jh (jQ (i:=5) ug.nd rfl (Or.inl rfl) (yn (Xb) (yn (Jz hT) (qv 4) (yn (jdT) jg (yL (xN hT) (qv 0) jg (fun _ _=>rfl)))) jg))
   (jh (jQ (i:=5) ug.nd rfl (Or.inl rfl) (yn (Xb) (yn (o_pow) (qv 5) jg) jg))
   (jj (jA (yn (Xb) (yn (jdU) (yn (Xb) (yn (Jz hT) (yn (jdT) (yn (jdU) (qv 5) jg) jg) (qv 5)) jg) jg) (qv 1)))))))))))
theorem ok_zat (F:Fun K "_law_pick" "_law_pick" YI f fd) (Q_zas:CalD P w K mg base (tb w K C) "_law_draw" 1 ["_law_town_here","_law_many"] [] 2 0 [.p 0,.p 1] [] Xz) (N_len:mg "len" = none):FnOk P w K mg base (CX1 P w) 2 f fd ["_law_town_here","_law_some"] (spD (tb w K C) xf) :=
 have hT:(tb w K C).K=K:=rfl
 jY F jhP fun cdv A outer s H E hr=>(jj (jA (yL (xN hT) (qv 1) (jm Q_zas (hr.mono (by decide)) rfl jP (ja (qv 0) (ja (jx (Ye hT) rfl N_len vA (ja (qv 1) jc)) jc)) jk) (fun _ _=>rfl))))
theorem ok_zau (F:Fun K "is_saying" "is_saying" Jl f fd) (Q_zax:CalD P w K mg base (tb w K C) "is_whole" 1 ["thing"] [] 1 0 [.p 0] [] Xy) (N_all:mg "all" = none) (N_isinstance:mg "isinstance" = none) (N_len:mg "len" = none) (N_tuple:mg "tuple" = none):FnOk P w K mg base (CX1 P w) 2 f fd ["thing"] (spD (tb w K C) Yi) :=
 have hT:(tb w K C).K=K:=rfl
 jY F jhO fun cdv A outer s H E hr=>(jj (jA (vm (jx (Uk hT) rfl N_isinstance jr (ja (qv 0) (ja (Uz rfl N_tuple Yb) jc))) (vm (vk (Ym hT hr.units) (jx (Ye hT) rfl N_len vA (ja (qv 0) jc)) jg (jF _)) (ui (jx (jeV rfl) rfl N_all jaj (ja (xc (osc:=(jd Jl)) (own:=["part"]) (fr:=[]) (js:=[]) Yc rfl rfl (by exact ⟨rfl,by decide +kernel,by decide +kernel,by decide +kernel,by decide +kernel,by decide +kernel⟩) rfl (qi_tup hT (qv 0)) (fun _ _ _=>(yr (i:=0) (show List.Nodup (["part"]:List Str) from by decide +kernel) rfl (Or.inl rfl))) (fun _ _ _=>xz) (fun _ _ _=>(jm Q_zax (hr.mono (by decide)) rfl jD (ja (qv 0) jc) jk))) jc)))))))
theorem ok_zav (F:Fun K "show" "Book.show" YH f fd) (X_BadSaying:Exc K mg "BadSaying" (C 8)) (nf_Book_said:jS K (C 10) "said") (Q_zau:CalD P w K mg base (tb w K C) "is_saying" 2 ["thing"] [] 1 0 [.p 0] [] Yi) (Q_zaa:MetD P w K mg base (tb w K C) 10 "check_is_house" 5 ["self","house"] [] 2 0 [.p 0,.p 1] [] xp) (cl_Book:Cls K (C 10)):FnOk P w K mg base (CX1 P w) 6 f fd ["self","house","row"] (spD (tb w K C) jbr) :=
 have hT:(tb w K C).K=K:=rfl
 jY F jhN fun cdv A outer s H E hr=>(jh (ym (yi Q_zaa (hr.mono (by decide)) jP (qv 0) (ja (qv 1) jc) jk))
   (jh (yk (QW.qt (xO (yG (yF hT (jm Q_zau (hr.mono (by decide)) rfl jP (ja (qv 2) jc) jk))) (xy (Vw hT (hu1 hr) (qv 2) (xA hT cl_Book nf_Book_said (qv 0)) (by with_unfolding_all rfl))))) (jj (yW X_BadSaying (by decide) rfl (ja jT jc))) jH)
   (jh yp
   (jj yp))))
theorem ok_zah (F:Fun K "pass_on" "Book.pass_on" YS f fd) (Q_zaa:MetD P w K mg base (tb w K C) 10 "check_is_house" 5 ["self","house"] [] 2 0 [.p 0,.p 1] [] xp):FnOk P w K mg base (CX1 P w) 6 f fd ["self","house","other"] (spD (tb w K C) jbz) :=
 have hT:(tb w K C).K=K:=rfl
 jeJ (jhe F jdd fun cdv A outer s H E hr=>(jh (ym (yi Q_zaa (hr.mono (by decide)) jD (qv 0) (ja (qv 1) jc) jk))
   (jh (ym (yi Q_zaa (hr.mono (by decide)) jD (qv 0) (ja (qv 2) jc) jk))
   (jh yp
   (jh yp
   (jh yp
   (jj yp))))))) (jY F jdd fun cdv A outer s H E hr=>(jh (ym (yi Q_zaa (hr.mono (by decide)) jP (qv 0) (ja (qv 1) jc) jk))
   (jh (ym (yi Q_zaa (hr.mono (by decide)) jP (qv 0) (ja (qv 2) jc) jk))
   (jh yp
   (jh yp
   (jh yp
   (jj yp)))))))
theorem ok_zam (F:Fun K "known" "Book.known" YO f fd) (nf_Book_seen:jS K (C 10) "seen") (Q_zaa:MetD P w K mg base (tb w K C) 10 "check_is_house" 5 ["self","house"] [] 2 0 [.p 0,.p 1] [] xp) (N_sorted:mg "sorted" = none) (cl_Book:Cls K (C 10)):FnOk P w K mg base (CX1 P w) 6 f fd ["self","house"] (spD (tb w K C) uM) :=
 have hT:(tb w K C).K=K:=rfl
 jY F jhV fun cdv A outer s H E hr=>(jh (ym (yi Q_zaa (hr.mono (by decide)) jP (qv 0) (ja (qv 1) jc) jk))
   (jj (jA (jx (jcy rfl) rfl N_sorted uC (ja (yL (xN hT) (xA hT cl_Book nf_Book_seen (qv 0)) (qv 1) (fun _ _=>rfl)) jc)))))
theorem ok_zba (F:Fun K "pairs_of" "pairs_of" YC f fd) :FnOk P w K mg base (CX1 P w) 1 f fd ["rows"] (spD (tb w K C) jbq) :=
 have hT:(tb w K C).K=K:=rfl
 jY F jhK fun cdv A outer s H E hr=>(jj yp)
theorem ok_zai (F:Fun K "clashes" "Book.clashes" Jo f fd) (Q_zba:CalD P w K mg base (tb w K C) "pairs_of" 1 ["rows"] [] 1 0 [.p 0] [] jbq) (Q_zam:MetD P w K mg base (tb w K C) 10 "known" 6 ["self","house"] [] 2 0 [.p 0,.p 1] [] uM):FnOk P w K mg base (CX1 P w) 7 f fd ["self","house"] (spD (tb w K C) jby) :=
 have hT:(tb w K C).K=K:=rfl
 jY F jdc fun cdv A outer s H E hr=>(jh (jQ (i:=2) jdc.nd rfl (Or.inl rfl) jds)
   (jh (jfB rfl (xb (yi Q_zam (hr.mono (by decide)) jP (qv 0) (ja (qv 1) jc) jk)))
   (jj (jA (jdt (osc:=(jd Jo)) (own:=["group","pair"]) (fr:=[]) (js:=[]) (by decide) rfl rfl (by exact ⟨rfl,by decide +kernel,by decide +kernel,by decide +kernel,by decide +kernel,by decide +kernel⟩) rfl (jdo (qv 2)) (fun _ _ _=>(yr (i:=0) (show List.Nodup (["group","pair"]:List Str) from by decide +kernel) rfl (Or.inl rfl))) (fun _ _ _=>(jgU rfl rfl rfl (fun _=>rfl))) (fun _ _ _=>(jbR rfl rfl rfl (by decide) (UB rfl) (xb (jm Q_zba (hr.mono (by decide)) rfl jD (ja (qv 0) jc) jk)) (yr (i:=1) (show List.Nodup (["group","pair"]:List Str) from by decide +kernel) rfl (Or.inl rfl)) (jfC rfl rfl (qv 1)))))))))
theorem ok_zac (F:Fun K "convicted" "Book.convicted" Jr f fd) (Q_zai:MetD P w K mg base (tb w K C) 10 "clashes" 7 ["self","house"] [] 2 0 [.p 0,.p 1] [] jby) (N_sorted:mg "sorted" = none):FnOk P w K mg base (CX1 P w) 8 f fd ["self","house"] (spD (tb w K C) XD) :=
 have hT:(tb w K C).K=K:=rfl
 jY F sc_zac fun cdv A outer s H E hr=>(jj (jA (Vz (osc:=(jd Jr)) (own:=["row","other"]) (fr:=[]) (js:=[]) (jfm (by decide)) rfl rfl (by exact ⟨rfl,by decide +kernel,by decide +kernel,by decide +kernel,by decide +kernel,by decide +kernel⟩) rfl rfl N_sorted uC (xb (yi Q_zai (hr.mono (by decide)) jP (qv 0) (ja (qv 1) jc) jk)) (fun _ _ _=>(qg_tup hT rfl (Vy (xY (i:=0) (show List.Nodup (["row","other"]:List Str) from by decide +kernel) rfl (Or.inl rfl)) (Vy (xY (i:=1) (show List.Nodup (["row","other"]:List Str) from by decide +kernel) rfl (Or.inl rfl)) jfF)))) (fun _ _ _=>(UB rfl)) (fun _ _ _=>(Vx rfl rfl (yL (xN hT) (qv 0) jg (fun _ _=>rfl)))))))
theorem ok_zal (F:Fun K "honest" "Book.honest" Jn f fd) (nf_Book_liars:jS K (C 10) "liars") (nf_Book_seen:jS K (C 10) "seen") (N_len:mg "len" = none) (N_range:mg "range" = none) (cl_Book:Cls K (C 10)):FnOk P w K mg base (CX1 P w) 1 f fd ["self"] (spD (tb w K C) jbv) :=
 have hT:(tb w K C).K=K:=rfl
 jY F jhW fun cdv A outer s H E hr=>(jj (jA (xc (osc:=(jd Jn)) (own:=["house"]) (fr:=["self"]) (js:=[0]) Yc rfl rfl (by exact ⟨rfl,by decide +kernel,by decide +kernel,by decide +kernel,by decide +kernel,by decide +kernel⟩) rfl (uY rfl N_range (ja (jx (Ye hT) rfl N_len vA (ja (xA hT cl_Book nf_Book_seen (qv 0)) jc)) jc)) (fun _ _ _=>(yr (i:=0) (show List.Nodup (["house","self"]:List Str) from by decide +kernel) rfl (Or.inl rfl))) (fun _ _ _=>(jfD (jN (jaQ hT (jen hr)) (qv 0) (xA hT cl_Book nf_Book_liars (qv 1)) (by with_unfolding_all rfl)))) (fun _ _ _=>(qv 0)))))
theorem ok_zae (F:Fun K "all_convicted" "all_convicted" Jp f fd) (X_BadHouses:Exc K mg "BadHouses" (C 3)) (Q_zac:MetD P w K mg base (tb w K C) 10 "convicted" 8 ["self","house"] [] 2 0 [.p 0,.p 1] [] XD) (Q_zal:MetD P w K mg base (tb w K C) 10 "honest" 1 ["self"] [] 1 0 [.p 0] [] jbv) (NK_Book:NoKit K (C 10)) (N_isinstance:mg "isinstance" = none) (N_sorted:mg "sorted" = none) (A_Book:mg "Book" = some (.ref (C 10))):FnOk P w K mg base (CX1 P w) 9 f fd ["book"] (spD (tb w K C) XC) :=
 have hT:(tb w K C).K=K:=rfl
 jY F sc_zae fun cdv A outer s H E hr=>(jh (yk (yG (yF hT (jx (b_isW (c:=10) hT NK_Book) rfl N_isinstance jr (ja (qv 0) (ja (yX (k:=10) rfl A_Book) jc))))) (jj (yW X_BadHouses (by decide) rfl (ja jT jc))) jH)
   (jj (jA (Vz (osc:=(jd Jp)) (own:=["house","liar"]) (fr:=["book"]) (js:=[0]) (jas (by decide)) rfl rfl (by exact ⟨rfl,by decide +kernel,by decide +kernel,by decide +kernel,by decide +kernel,by decide +kernel⟩) rfl rfl N_sorted uC (xb (jfH Q_zal (hr.mono (by decide)) jP (qv 0) jk)) (fun _ _ _=>(xY (i:=0) (show List.Nodup (["house","liar","book"]:List Str) from by decide +kernel) rfl (Or.inl rfl))) (fun _ _ _=>(jgU rfl rfl rfl (fun _=>rfl))) (fun _ _ _=>(Uy rfl rfl rfl (UB rfl) (xb (yi Q_zac (hr.mono (by decide)) jD (qv 2) (ja (qv 0) jc) jk)) (xY (i:=1) (show List.Nodup (["house","liar","book"]:List Str) from by decide +kernel) rfl (Or.inl rfl)) (jas (by decide)) (by decide) (Vx rfl rfl (qv 1))))))))
theorem ok_zbb (F:Fun K "_law_did" "_law_did" YB f fd) (Q_zae:CalD P w K mg base (tb w K C) "all_convicted" 9 ["book"] [] 1 0 [.p 0] [] XC) (Q_zac:MetD P w K mg base (tb w K C) 10 "convicted" 8 ["self","house"] [] 2 0 [.p 0,.p 1] [] XD) (Q_zam:MetD P w K mg base (tb w K C) 10 "known" 6 ["self","house"] [] 2 0 [.p 0,.p 1] [] uM) (Q_zah:MetD P w K mg base (tb w K C) 10 "pass_on" 6 ["self","house","other"] [] 3 0 [.p 0,.p 1,.p 2] [] jbz) (Q_zaz:MetD P w K mg base (tb w K C) 10 "say" 6 ["self","house","place","number"] [] 4 0 [.p 0,.p 1,.p 2,.p 3] [] uK) (Q_zav:MetD P w K mg base (tb w K C) 10 "show" 6 ["self","house","row"] [] 3 0 [.p 0,.p 1,.p 2] [] jbr) (Q_zad_2_liars:NewD P w K mg base (tb w K C) 10 "Book" 5 ["self","houses","liars"] ["liars"] 2 1 [.p 0,.p 1,.k 0] [] Yj):FnOk P w K mg base (CX1 P w) 10 f fd ["_law_book","_law_kind","_law_one","_law_two","_law_three"] (spD (tb w K C) jbp) :=
 have hT:(tb w K C).K=K:=rfl
 jY F jhJ fun cdv A outer s H E hr=>(jh (yk (jN (Ym hT hr.units) (qv 1) jg (jF _)) (jj (jA (jdp Q_zad_2_liars (hr.mono (by decide)) rfl jP (ja (qv 2) jc) (jaC (qv 3) jk)))) jH)
   (jh (yk (jN (Ym hT hr.units) (qv 1) jg (jF _)) (jj (jA (yi Q_zaz (hr.mono (by decide)) jP (qv 0) (ja (qv 2) (ja (qv 3) (ja (qv 4) jc))) jk))) jH)
   (jh (yk (jN (Ym hT hr.units) (qv 1) jg (jF _)) (jj (jA (yi Q_zav (hr.mono (by decide)) jP (qv 0) (ja (qv 2) (ja (qv 3) jc)) jk))) jH)
   (jh (yk (jN (Ym hT hr.units) (qv 1) jg (jF _)) (jj (jA (yi Q_zah (hr.mono (by decide)) jP (qv 0) (ja (qv 2) (ja (qv 3) jc)) jk))) jH)
   (jh (yk (jN (Ym hT hr.units) (qv 1) jg (jF _)) (jj (jA (yi Q_zam (hr.mono (by decide)) jP (qv 0) (ja (qv 2) jc) jk))) jH)
   (jj (jA (jaF (jN (Ym hT hr.units) (qv 1) jg (jF _)) (yi Q_zac (hr.mono (by decide)) jP (qv 0) (ja (qv 2) jc) jk) (jm Q_zae (hr.mono (by decide)) rfl jP (ja (qv 2) jc) jk)))))))))
theorem ok_zaj (F:Fun K "_law_refusal" "_law_refusal" YR f fd) (A_BadHouses:mg "BadHouses" = some (.ref (C 3))) (A_BadLies:mg "BadLies" = some (.ref (C 2))) (A_BadNumber:mg "BadNumber" = some (.ref (C 0))) (A_BadSaying:mg "BadSaying" = some (.ref (C 8))) (A_BadTable:mg "BadTable" = some (.ref (C 7))) (A_BadWorths:mg "BadWorths" = some (.ref (C 1))) (A_LiarError:mg "LiarError" = some (.ref (C 9))) (A_NoHouse:mg "NoHouse" = some (.ref (C 4))) (A_NoLetter:mg "NoLetter" = some (.ref (C 5))) (A_NotNow:mg "NotNow" = some (.ref (C 6))) (N_ValueError:mg "ValueError" = none) (N_isinstance:mg "isinstance" = none) (hX:∀ k ∈ ([0,3,8,6]:List Nat),XRow (tb w K C) [0,1,2,3,4,5,6,7,8] 9 k):FnOk P w K mg base (CX1 P w) 1 f fd ["_law_caught"] (spD (tb w K C) jbx) :=
 have hT:(tb w K C).K=K:=rfl
 jY F Jk fun cdv A outer s H E hr=>(jh (jQ (i:=1) Jk.nd rfl (Or.inl rfl) (jE (ja (jx (xV (us:=[0,3,8,6]) (ks:=[0,1,2,3,4,5,6,7,8]) (LE:=9) hT hX) rfl N_isinstance jr (ja (qv 0) (ja (yX (k:=0) rfl A_BadNumber) jc))) (ja (jx (xV (us:=[0,3,8,6]) (ks:=[0,1,2,3,4,5,6,7,8]) (LE:=9) hT hX) rfl N_isinstance jr (ja (qv 0) (ja (yX (k:=1) rfl A_BadWorths) jc))) (ja (jx (xV (us:=[0,3,8,6]) (ks:=[0,1,2,3,4,5,6,7,8]) (LE:=9) hT hX) rfl N_isinstance jr (ja (qv 0) (ja (yX (k:=2) rfl A_BadLies) jc))) jc)))))
   (jh (jQ (i:=1) Jk.nd rfl (Or.inl rfl) (yn (Jz hT) (qv 1) (jE (ja (jx (xV (us:=[0,3,8,6]) (ks:=[0,1,2,3,4,5,6,7,8]) (LE:=9) hT hX) rfl N_isinstance jr (ja (qv 0) (ja (yX (k:=3) rfl A_BadHouses) jc))) (ja (jx (xV (us:=[0,3,8,6]) (ks:=[0,1,2,3,4,5,6,7,8]) (LE:=9) hT hX) rfl N_isinstance jr (ja (qv 0) (ja (yX (k:=4) rfl A_NoHouse) jc))) (ja (jx (xV (us:=[0,3,8,6]) (ks:=[0,1,2,3,4,5,6,7,8]) (LE:=9) hT hX) rfl N_isinstance jr (ja (qv 0) (ja (yX (k:=5) rfl A_NoLetter) jc))) jc))))))
   (jh (jQ (i:=1) Jk.nd rfl (Or.inl rfl) (yn (Jz hT) (qv 1) (jE (ja (jx (xV (us:=[0,3,8,6]) (ks:=[0,1,2,3,4,5,6,7,8]) (LE:=9) hT hX) rfl N_isinstance jr (ja (qv 0) (ja (yX (k:=6) rfl A_NotNow) jc))) (ja (jx (xV (us:=[0,3,8,6]) (ks:=[0,1,2,3,4,5,6,7,8]) (LE:=9) hT hX) rfl N_isinstance jr (ja (qv 0) (ja (yX (k:=7) rfl A_BadTable) jc))) (ja (jx (xV (us:=[0,3,8,6]) (ks:=[0,1,2,3,4,5,6,7,8]) (LE:=9) hT hX) rfl N_isinstance jr (ja (qv 0) (ja (yX (k:=8) rfl A_BadSaying) jc))) jc))))))
   (jh (yk (QW.qt (xO (jN (vM hT hr.units) (jgT PySem.F.slot_list_count PySem.F.type_list_count jgk (qv 1) (ja xB jc)) jg (jF _)) (xO (yG (yF hT (jx (xV (us:=[0,3,8,6]) (ks:=[0,1,2,3,4,5,6,7,8]) (LE:=9) hT hX) rfl N_isinstance jr (ja (qv 0) (ja (yX (k:=9) rfl A_LiarError) jc))))) (xy (yG (yF hT (jx (xV (us:=[0,3,8,6]) (ks:=[0,1,2,3,4,5,6,7,8]) (LE:=9) hT hX) rfl N_isinstance jr (ja (qv 0) (ja (Uz rfl N_ValueError bt_VE) jc))))))))) (jj (jA jT)) jH)
   (jh (jQ (i:=2) Jk.nd rfl (Or.inl rfl) (jE (ja jT (ja jT (ja jT (ja jT (ja jT (ja jT (ja jT (ja jT (ja jT jc)))))))))))
   (jj (jA (yL (xN hT) (qv 2) (jgT PySem.F.slot_list_index PySem.F.type_list_index jgj (qv 1) (ja xB jc)) (fun _ _=>rfl)))))))))
theorem ok_zaw (F:Fun K "_law_told" "_law_told" YG f fd) (A_LiarError:mg "LiarError" = some (.ref (C 9))) (A_NoHouse:mg "NoHouse" = some (.ref (C 4))) (Q_zbb:CalD P w K mg base (tb w K C) "_law_did" 10 ["_law_book","_law_kind","_law_one","_law_two","_law_three"] [] 5 0 [.p 0,.p 1,.p 2,.p 3,.p 4] [] jbp) (Q_zaj:CalD P w K mg base (tb w K C) "_law_refusal" 1 ["_law_caught"] [] 1 0 [.p 0] [] jbx) (hX:∀ k ∈ ([0,3,8,6]:List Nat),XRow (tb w K C) [0,1,2,3,4,5,6,7,8] 9 k) (XG_house:XGet K (C 4) "house") (hM:∀ c ∈ ([0,3,8,6,4]:List Nat),PySem.W.exmOne K (.ref (C c)) (.ref (C 4))=some (c == 4)):FnOk P w K mg base (CX1 P w) 11 f fd ["_law_book","_law_kind","_law_one","_law_two","_law_three"] (spD (tb w K C) ye) :=
 have hT:(tb w K C).K=K:=rfl
 jY F xt fun cdv A outer s H E hr=>(jh (jQ (i:=5) xt.nd rfl (Or.inl rfl) xk)
   (jh (jQ (i:=6) xt.nd rfl (Or.inl rfl) xk)
   (jh (qs_try (fun _ _=>(jj (ym (jm Q_zbb (hr.mono (by decide)) rfl jcK (ja (qv 0) (ja (qv 1) (ja (qv 2) (ja (qv 3) (ja (qv 4) jc))))) jk)))) (jaD (U:=(fun c=>if c ∈ ([0,3,8,6,4]:List Nat) then some (c == 4) else none)) (i:=7) hT (fun c b h=>by obtain ⟨hc,rfl⟩:=U_4 h; exact hM c hc) (fun _ _=>(jh (jQ (i:=6) xt.nd rfl (Or.inl rfl) (jV (ja jT (ja (jfG (c:=4) hT XG_house (qv 7) rfl) jc))))
   (jj (jQ (i:=5) xt.nd rfl (Or.inl rfl) (qv 7))))) (jaD (U:=(fun c=>if c ∈ ([0,3,8,6]:List Nat) then some true else none)) (i:=7) hT (fun c b h=>by obtain ⟨hc,rfl⟩:=U_all h; exact (hX c hc).m) (fun _ _=>(jh (jQ (i:=6) xt.nd rfl (Or.inl rfl) xk)
   (jj (jQ (i:=5) xt.nd rfl (Or.inl rfl) (qv 7))))) qh_nil rfl A_LiarError xt.nd rfl) rfl A_NoHouse xt.nd rfl))
   (jj (jA (jaF (jN (o_is) (qv 5) xk (jF _)) jT (jaF (jN (o_is) (qv 6) xk (jF _)) (jm Q_zaj (hr.mono (by decide)) rfl jP (ja (qv 5) jc) jk) (qv 6))))))))
theorem ok_zbd (F:Fun K "is_pair" "is_pair" Yz f fd) (N_isinstance:mg "isinstance" = none) (N_len:mg "len" = none) (N_tuple:mg "tuple" = none):FnOk P w K mg base (CX1 P w) 1 f fd ["thing"] (spD (tb w K C) jbo) :=
 have hT:(tb w K C).K=K:=rfl
 jY F jhH fun cdv A outer s H E hr=>(jj (jA (vm (jx (Uk hT) rfl N_isinstance jr (ja (qv 0) (ja (Uz rfl N_tuple Yb) jc))) (ui (vk (Ym hT hr.units) (jx (Ye hT) rfl N_len vA (ja (qv 0) jc)) jg (jF _))))))
theorem ok_zbc (F:Fun K "is_clash" "is_clash" YA f fd) (Q_zbd:CalD P w K mg base (tb w K C) "is_pair" 1 ["thing"] [] 1 0 [.p 0] [] jbo) (Q_zau:CalD P w K mg base (tb w K C) "is_saying" 2 ["thing"] [] 1 0 [.p 0] [] Yi):FnOk P w K mg base (CX1 P w) 3 f fd ["pair"] (spD (tb w K C) Uo) :=
 have hT:(tb w K C).K=K:=rfl
 jY F jhI fun cdv A outer s H E hr=>(jh (yk (QW.qt (xO (yG (yF hT (jm Q_zbd (hr.mono (by decide)) rfl jP (ja (qv 0) jc) jk))) (xO (yG (yF hT (jm Q_zau (hr.mono (by decide)) rfl jP (ja (yL (xN hT) (qv 0) jg (fun _ _=>rfl)) jc) jk))) (xy (yG (yF hT (jm Q_zau (hr.mono (by decide)) rfl jP (ja (yL (xN hT) (qv 0) jg (fun _ _=>rfl)) jc) jk))))))) (jj (jA xB)) jH)
   (jj (jA (vm (vk (Ym hT hr.units) (vK hT (yL (xN hT) (qv 0) jg (fun _ _=>rfl)) uX (uW jg)) (vK hT (yL (xN hT) (qv 0) jg (fun _ _=>rfl)) uX (uW jg)) (jF _)) (ui (vk (vM hT hr.units) (yL (xN hT) (yL (xN hT) (qv 0) jg (fun _ _=>rfl)) jg (fun _ _=>rfl)) (yL (xN hT) (yL (xN hT) (qv 0) jg (fun _ _=>rfl)) jg (fun _ _=>rfl)) (jF _)))))))
theorem ok_law (F:Fun K "law" "law" xJ f fd) (Q_zat:CalD P w K mg base (tb w K C) "_law_pick" 2 ["_law_town_here","_law_some"] [] 2 0 [.p 0,.p 1] [] xf) (Q_zaw:CalD P w K mg base (tb w K C) "_law_told" 11 ["_law_book","_law_kind","_law_one","_law_two","_law_three"] [] 5 0 [.p 0,.p 1,.p 2,.p 3,.p 4] [] ye) (Q_zan:CalD P w K mg base (tb w K C) "_law_town" 1 ["_law_script"] [] 1 0 [.p 0] [] XA) (Q_zae:CalD P w K mg base (tb w K C) "all_convicted" 9 ["book"] [] 1 0 [.p 0] [] XC) (Q_zbc:CalD P w K mg base (tb w K C) "is_clash" 3 ["pair"] [] 1 0 [.p 0] [] Uo) (Q_zam:MetD P w K mg base (tb w K C) 10 "known" 6 ["self","house"] [] 2 0 [.p 0,.p 1] [] uM) (Q_zaz:MetD P w K mg base (tb w K C) 10 "say" 6 ["self","house","place","number"] [] 4 0 [.p 0,.p 1,.p 2,.p 3] [] uK) (Q_zad_2_liars:NewD P w K mg base (tb w K C) 10 "Book" 5 ["self","houses","liars"] ["liars"] 2 1 [.p 0,.p 1,.k 0] [] Yj) (N_range:mg "range" = none):FnOk P w K mg base CX0 12 f fd ["_law_script"] (jcT (tb w K C) (yg 1 12 Ub)) :=
 have hT:(tb w K C).K=K:=rfl
 jhe F yO fun cdv A outer s H E hr=>(jh (jQ (i:=1) yO.nd rfl (Or.inl rfl) (jm Q_zan (hr.mono (by decide)) rfl jD (ja (qv 0) jc) jk))
   (jh (jQ (i:=2) yO.nd rfl (Or.inr rfl) (jdp Q_zad_2_liars (hr.mono (by decide)) rfl jD (ja jg jc) (jaC (jE (ja jg jc)) jk)))
   (jh (jQ (i:=3) yO.nd rfl (Or.inl rfl) (yi Q_zaz (hr.mono (by decide)) jD (qv 2) (ja jg (ja jg (ja jg jc))) jk))
   (jh (jdl 200 PassesOwn.never rfl (uY rfl N_range (ja jg jc)) (xY (i:=4) yO.nd rfl (Or.inl rfl)) (jh (jQ (i:=5) yO.nd rfl (Or.inl rfl) (jm Q_zat (hr.mono (by decide)) rfl jD (ja (qv 1) (ja (jE (ja (jE (ja jg jc)) (ja (jE (ja jg (ja jg jc))) (ja xk (ja jg (ja (jE (ja xB jc)) (ja (jE (ja jg (ja jg jc))) jc))))))) jc)) jk))
   (jh (yk (QW.qt (xO (jN (vM hT hr.units) (jm Q_zaw (hr.mono (by decide)) rfl jD (ja (qv 2) (ja jg (ja (jm Q_zat (hr.mono (by decide)) rfl jD (ja (qv 1) (ja (jE (ja jg (ja jg (ja xB (ja xk jc))))) jc)) jk) (ja (qv 5) (ja jg jc))))) jk) jT (jF _)) (xy (jN (vM hT hr.units) (jm Q_zaw (hr.mono (by decide)) rfl jD (ja (qv 2) (ja jg (ja jg (ja (qv 5) (ja jg jc))))) jk) jT (jF _))))) (jj (jA xB)) jH)
   (jh (jQ (i:=6) yO.nd rfl (Or.inr rfl) (jm Q_zat (hr.mono (by decide)) rfl jD (ja (qv 1) (ja (jE (ja jg (ja (yn (jaP) jg jg) (ja xB (ja xk (ja jT (ja (jE (ja jg jc)) jc))))))) jc)) jk))
   (jh (jQ (i:=7) yO.nd rfl (Or.inl rfl) (jm Q_zat (hr.mono (by decide)) rfl jD (ja (qv 1) (ja (jE (ja jg (ja (yn (jaP) jg jg) (ja xB (ja xk (ja jT jc)))))) jc)) jk))
   (jh (jQ (i:=8) yO.nd rfl (Or.inl rfl) (jm Q_zat (hr.mono (by decide)) rfl jD (ja (qv 1) (ja (jE (ja jg (ja (yn (jaP) jg jg) (ja xB (ja xk (ja jT jc)))))) jc)) jk))
   (jh (jQ (i:=9) yO.nd rfl (Or.inl rfl) (jE (ja (jm Q_zaw (hr.mono (by decide)) rfl jD (ja (qv 2) (ja jg (ja (qv 6) (ja (qv 7) (ja (qv 8) jc))))) jk) (ja (jm Q_zaw (hr.mono (by decide)) rfl jD (ja (qv 2) (ja jg (ja (qv 6) (ja jg (ja jg jc))))) jk) (ja (jm Q_zaw (hr.mono (by decide)) rfl jD (ja (qv 2) (ja jg (ja (qv 6) (ja (qv 6) (ja jg jc))))) jk) jc)))))
   (jh (yk (jN (vM hT hr.units) (yn (Jz hT) (yn (Jz hT) (qv 9) (xc (osc:=(jd xJ)) (own:=["_law_kind"]) (fr:=["_law_book","_law_house"]) (js:=[2,6]) Yc rfl rfl (by exact ⟨rfl,by decide +kernel,by decide +kernel,by decide +kernel,by decide +kernel,by decide +kernel⟩) rfl (xb (jE (ja jg (ja jg jc)))) (fun _ _ _=>(yr (i:=0) (show List.Nodup (["_law_kind","_law_book","_law_house"]:List Str) from by decide +kernel) rfl (Or.inl rfl))) (fun _ _ _=>xz) (fun _ _ _=>(jm Q_zaw (hr.mono (by decide)) rfl jD (ja (qv 1) (ja (qv 0) (ja (qv 2) (ja jg (ja jg jc))))) jk)))) (jE (ja (jm Q_zaw (hr.mono (by decide)) rfl jD (ja (qv 2) (ja jg (ja jg (ja (qv 6) (ja jg jc))))) jk) jc))) (yn (jdT) (jE (ja (jV (ja jT (ja (qv 6) jc))) jc)) jg) (jF _)) (jj (jA xB)) jH)
   (jh (yk (QW.qt (xO (jN (vM hT hr.units) (jm Q_zaw (hr.mono (by decide)) rfl jD (ja (qv 2) (ja jg (ja jg (ja (qv 7) (ja (qv 8) jc))))) jk) jT (jF _)) (xy (jN (vM hT hr.units) (jm Q_zaw (hr.mono (by decide)) rfl jD (ja (qv 2) (ja jg (ja jg (ja jg (ja (qv 8) jc))))) jk) jT (jF _))))) (jj (jA xB)) jH)
   (jh (jQ (i:=10) yO.nd rfl (Or.inl rfl) (jm Q_zat (hr.mono (by decide)) rfl jD (ja (qv 1) (ja (jE (ja (jV (ja jg (ja jg (ja jg jc)))) (ja (jV (ja jg (ja jg (ja jg jc)))) (ja (jE (ja jg (ja jg (ja jg jc)))) (ja xk (ja jg (ja (jV (ja jg (ja jg jc))) (ja (jV (ja jg (ja jg (ja jg (ja jg jc))))) jc)))))))) jc)) jk))
   (jh (yk (QW.qt (xO (jN (vM hT hr.units) (jm Q_zaw (hr.mono (by decide)) rfl jD (ja (qv 2) (ja jg (ja jg (ja (qv 10) (ja jg jc))))) jk) jT (jF _)) (xy (jN (vM hT hr.units) (jm Q_zaw (hr.mono (by decide)) rfl jD (ja (qv 2) (ja jg (ja jg (ja jg (ja jg jc))))) jk) jT (jF _))))) (jj (jA xB)) jH)
   (jj (yk (jN (vM hT hr.units) (jm Q_zaw (hr.mono (by decide)) rfl jD (ja (qv 2) (ja jg (ja (jm Q_zat (hr.mono (by decide)) rfl jD (ja (qv 1) (ja (jE (ja xk (ja jg (ja (jE jc) (ja jT jc))))) jc)) jk) (ja jg (ja jg jc))))) jk) jT (jF _)) (jj (jA xB)) jH)))))))))))))
   (jh (jdl 200 PassesOwn.never rfl (xb (jE (ja xk (ja jg (ja (jV jc) (ja (jV (ja (jV (ja jg (ja jg (ja jg jc)))) jc)) (ja (jV (ja (jV (ja jg (ja jg (ja jg jc)))) (ja (jV (ja jg (ja jg (ja jg jc)))) jc))) (ja (jV (ja (jV (ja jg (ja jg (ja jg jc)))) (ja (jV (ja jg (ja jg (ja jg jc)))) jc))) (ja (jE (ja (jV (ja jg (ja jg (ja jg jc)))) (ja (jV (ja jg (ja jg (ja jg jc)))) jc))) (ja (jV (ja (jV (ja jg (ja jg (ja jg jc)))) (ja jg jc))) jc)))))))))) (xY (i:=11) yO.nd rfl (Or.inl rfl)) (jj (yk (jN (o_notB) (jm Q_zbc (hr.mono (by decide)) rfl jD (ja (qv 11) jc) jk) xB (jF _)) (jj (jA xB)) jH)))
   (jh (yk (QW.qt (xO (jN (vM hT hr.units) (xc (osc:=(jd xJ)) (own:=["_law_house"]) (fr:=["_law_book"]) (js:=[2]) Yc rfl rfl (by exact ⟨rfl,by decide +kernel,by decide +kernel,by decide +kernel,by decide +kernel,by decide +kernel⟩) rfl (uY rfl N_range (ja jg jc)) (fun _ _ _=>(yr (i:=0) (show List.Nodup (["_law_house","_law_book"]:List Str) from by decide +kernel) rfl (Or.inl rfl))) (fun _ _ _=>xz) (fun _ _ _=>(yi Q_zam (hr.mono (by decide)) jD (qv 1) (ja (qv 0) jc) jk))) (jE (ja (jE jc) (ja (jE jc) (ja (jE jc) jc)))) (jF _)) (xy (jN (vM hT hr.units) (yi Q_zaz (hr.mono (by decide)) jD (qv 2) (ja jg (ja jg (ja jg jc))) jk) (qv 3) (jF _))))) (jj (jA xB)) jH)
   (jh (yk (jN (vM hT hr.units) (xc (osc:=(jd xJ)) (own:=["_law_number"]) (fr:=["_law_book"]) (js:=[2]) Yc rfl rfl (by exact ⟨rfl,by decide +kernel,by decide +kernel,by decide +kernel,by decide +kernel,by decide +kernel⟩) rfl (xb (jE (ja jg (ja jg jc)))) (fun _ _ _=>(yr (i:=0) (show List.Nodup (["_law_number","_law_book"]:List Str) from by decide +kernel) rfl (Or.inl rfl))) (fun _ _ _=>xz) (fun _ _ _=>(jm Q_zaw (hr.mono (by decide)) rfl jD (ja (qv 1) (ja jg (ja jg (ja jg (ja (qv 0) jc))))) jk))) (jE (ja jT (ja jT jc))) (jF _)) (jj (jA xB)) jH)
   (jj (jA (vm (vk (o_is) (jm Q_zbc (hr.mono (by decide)) rfl jD (ja (jV (ja (jV (ja jg (ja jg (ja jg jc)))) (ja (jV (ja jg (ja jg (ja jg jc)))) jc))) jc) jk) xB (jF _)) (ui (vk (Ym hT hr.units) (jm Q_zae (hr.mono (by decide)) rfl jD (ja (qv 2) jc) jk) (jE jc) (jF _)))))))))))))
end
theorem ln0 {α:Type}:∀ {us:List α},us.length=0->us=[]
 | [],_=>rfl
theorem ln1 {α:Type} {us:List α} (h:us.length=1):∃ u0,us=[u0]:=by
 cases us with
 | nil=>cases h
 | cons x0 us=>exact ⟨x0,by rw [ln0 (Nat.succ.inj h)]⟩
theorem ln2 {α:Type} {us:List α} (h:us.length=2):∃ u0 u1,us=[u0,u1]:=by
 cases us with
 | nil=>cases h
 | cons x0 us=>obtain ⟨v0,e⟩:=ln1 (Nat.succ.inj h); exact ⟨x0,v0,by rw [e]⟩
theorem ln3 {α:Type} {us:List α} (h:us.length=3):∃ u0 u1 u2,us=[u0,u1,u2]:=by
 cases us with
 | nil=>cases h
 | cons x0 us=>obtain ⟨v0,v1,e⟩:=ln2 (Nat.succ.inj h); exact ⟨x0,v0,v1,by rw [e]⟩
theorem ln4 {α:Type} {us:List α} (h:us.length=4):∃ u0 u1 u2 u3,us=[u0,u1,u2,u3]:=by
 cases us with
 | nil=>cases h
 | cons x0 us=>obtain ⟨v0,v1,v2,e⟩:=ln3 (Nat.succ.inj h); exact ⟨x0,v0,v1,v2,by rw [e]⟩
theorem ln5 {α:Type} {us:List α} (h:us.length=5):∃ u0 u1 u2 u3 u4,us=[u0,u1,u2,u3,u4]:=by
 cases us with
 | nil=>cases h
 | cons x0 us=>obtain ⟨v0,v1,v2,v3,e⟩:=ln4 (Nat.succ.inj h); exact ⟨x0,v0,v1,v2,v3,by rw [e]⟩
def S0:Sto:=⟨0,fun _=>none⟩
def XH (K:PySem.W.Frag):Sp:=fun vs H Q _=>∃ (a:Addr) (ns:List Int),vs=[.ref a]∧SqL K H a (ns.map V.int)∧ns.length<=63∧∀ H',Q (.bl true) H'
theorem law_sp {P:Program} {w:World} {K:PySem.W.Frag} {mg:Str->Option Value} {base:Heap} {C:Nat->Addr} {f:Addr} {fd:FuncData} (h:FnOk P w K mg base CX0 12 f fd ["_law_script"] (jcT (tb w K C) (yg 1 12 Ub))):FnOk P w K mg base CX0 12 f fd ["_law_script"] (XH K):=h.imp fun vs H Q E ⟨a,ns,e,hq,hl,q⟩=>by
 subst e;obtain ⟨M',e⟩:=law_true ns hl;exact ⟨⟨tb w K C,H,fun _=>none,fun _=>none⟩,[.scr ns],S0,.bl true,M',rfl,⟨fun _ _ e=>e,(fun _ _ e=>nomatch e),(fun _ _ _ _ _ e=>nomatch e),fun _ _=>rfl,(fun _ _ e=>nomatch e),(fun _ _ e=>nomatch e)⟩,⟨.ref a,[],rfl,⟨a,rfl,hq,hl⟩,rfl⟩,e,fun W' H' u _ _ r=>by cases r; exact q H'⟩
theorem all_mk {l:PySem.W.OpenLaw} {w:World} {K:PySem.W.Frag} {h:Heap} {mg:Str->Option Value} {fa:Addr} (X:K.In h) (G:h.Ns mainGlobals mg) (hfa:mg "law" = some (.ref fa))
  {c_Book:Addr}
  {f_zan:Addr} {od_zan an_zan:Option Addr} {sl_zan:Array (Option Value)} {oc_zan kV_zan dc_zan pm_zan cd_zan ct_zan:Value}
  {f_zax:Addr} {od_zax an_zax:Option Addr} {sl_zax:Array (Option Value)} {oc_zax kV_zax dc_zax pm_zax cd_zax ct_zax:Value}
  {f_zao:Addr} {od_zao an_zao:Option Addr} {sl_zao:Array (Option Value)} {oc_zao kV_zao dc_zao pm_zao cd_zao ct_zao:Value}
  {f_zaf:Addr} {od_zaf an_zaf:Option Addr} {sl_zaf:Array (Option Value)} {oc_zaf kV_zaf dc_zaf pm_zaf cd_zaf ct_zaf:Value}
  {f_zag:Addr} {od_zag an_zag:Option Addr} {sl_zag:Array (Option Value)} {oc_zag kV_zag dc_zag pm_zag cd_zag ct_zag:Value}
  {f_zay:Addr} {od_zay an_zay:Option Addr} {sl_zay:Array (Option Value)} {oc_zay kV_zay dc_zay pm_zay cd_zay ct_zay:Value}
  {f_zap:Addr} {od_zap an_zap:Option Addr} {sl_zap:Array (Option Value)} {oc_zap kV_zap dc_zap pm_zap cd_zap ct_zap:Value}
  {f_zab:Addr} {od_zab an_zab:Option Addr} {sl_zab:Array (Option Value)} {oc_zab kV_zab dc_zab pm_zab cd_zab ct_zab:Value}
  {f_zad:Addr} {od_zad an_zad:Option Addr} {sl_zad:Array (Option Value)} {oc_zad  dc_zad pm_zad cd_zad ct_zad:Value}
  {kd_zad:Addr}
  {tu_zad_liars:Addr} {tq_zad_liars:Option Addr} {tn_zad_liars:Nat} {ts_zad_liars:Array (Option Value)}
  {f_zak:Addr} {od_zak an_zak:Option Addr} {sl_zak:Array (Option Value)} {oc_zak kV_zak dc_zak pm_zak cd_zak ct_zak:Value}
  {f_zaa:Addr} {od_zaa an_zaa:Option Addr} {sl_zaa:Array (Option Value)} {oc_zaa kV_zaa dc_zaa pm_zaa cd_zaa ct_zaa:Value}
  {f_zaq:Addr} {od_zaq an_zaq:Option Addr} {sl_zaq:Array (Option Value)} {oc_zaq kV_zaq dc_zaq pm_zaq cd_zaq ct_zaq:Value}
  {f_zar:Addr} {od_zar an_zar:Option Addr} {sl_zar:Array (Option Value)} {oc_zar kV_zar dc_zar pm_zar cd_zar ct_zar:Value}
  {f_zaz:Addr} {od_zaz an_zaz:Option Addr} {sl_zaz:Array (Option Value)} {oc_zaz kV_zaz dc_zaz pm_zaz cd_zaz ct_zaz:Value}
  {f_zas:Addr} {od_zas an_zas:Option Addr} {sl_zas:Array (Option Value)} {oc_zas kV_zas dc_zas pm_zas cd_zas ct_zas:Value}
  {f_zat:Addr} {od_zat an_zat:Option Addr} {sl_zat:Array (Option Value)} {oc_zat kV_zat dc_zat pm_zat cd_zat ct_zat:Value}
  {f_zau:Addr} {od_zau an_zau:Option Addr} {sl_zau:Array (Option Value)} {oc_zau kV_zau dc_zau pm_zau cd_zau ct_zau:Value}
  {f_zav:Addr} {od_zav an_zav:Option Addr} {sl_zav:Array (Option Value)} {oc_zav kV_zav dc_zav pm_zav cd_zav ct_zav:Value}
  {f_zah:Addr} {od_zah an_zah:Option Addr} {sl_zah:Array (Option Value)} {oc_zah kV_zah dc_zah pm_zah cd_zah ct_zah:Value}
  {f_zam:Addr} {od_zam an_zam:Option Addr} {sl_zam:Array (Option Value)} {oc_zam kV_zam dc_zam pm_zam cd_zam ct_zam:Value}
  {f_zba:Addr} {od_zba an_zba:Option Addr} {sl_zba:Array (Option Value)} {oc_zba kV_zba dc_zba pm_zba cd_zba ct_zba:Value}
  {f_zai:Addr} {od_zai an_zai:Option Addr} {sl_zai:Array (Option Value)} {oc_zai kV_zai dc_zai pm_zai cd_zai ct_zai:Value}
  {f_zac:Addr} {od_zac an_zac:Option Addr} {sl_zac:Array (Option Value)} {oc_zac kV_zac dc_zac pm_zac cd_zac ct_zac:Value}
  {f_zal:Addr} {od_zal an_zal:Option Addr} {sl_zal:Array (Option Value)} {oc_zal kV_zal dc_zal pm_zal cd_zal ct_zal:Value}
  {f_zae:Addr} {od_zae an_zae:Option Addr} {sl_zae:Array (Option Value)} {oc_zae kV_zae dc_zae pm_zae cd_zae ct_zae:Value}
  {f_zbb:Addr} {od_zbb an_zbb:Option Addr} {sl_zbb:Array (Option Value)} {oc_zbb kV_zbb dc_zbb pm_zbb cd_zbb ct_zbb:Value}
  {f_zaj:Addr} {od_zaj an_zaj:Option Addr} {sl_zaj:Array (Option Value)} {oc_zaj kV_zaj dc_zaj pm_zaj cd_zaj ct_zaj:Value}
  {f_zaw:Addr} {od_zaw an_zaw:Option Addr} {sl_zaw:Array (Option Value)} {oc_zaw kV_zaw dc_zaw pm_zaw cd_zaw ct_zaw:Value}
  {f_zbd:Addr} {od_zbd an_zbd:Option Addr} {sl_zbd:Array (Option Value)} {oc_zbd kV_zbd dc_zbd pm_zbd cd_zbd ct_zbd:Value}
  {f_zbc:Addr} {od_zbc an_zbc:Option Addr} {sl_zbc:Array (Option Value)} {oc_zbc kV_zbc dc_zbc pm_zbc cd_zbc ct_zbc:Value}
  {f_law:Addr} {od_law an_law:Option Addr} {sl_law:Array (Option Value)} {oc_law kV_law dc_law pm_law cd_law ct_law:Value}
  {t_FARTHEST:Tok}
  {t_LAST_PLACE:Tok}
  {t_MOST_HOUSES:Tok}
  {c_BadNumber:Addr}
  {c_BadWorths:Addr}
  {c_BadLies:Addr}
  {c_BadHouses:Addr}
  {c_NoHouse:Addr}
  {c_NoLetter:Addr}
  {c_NotNow:Addr}
  {c_BadTable:Addr}
  {c_BadSaying:Addr}
  {c_LiarError:Addr}
  {f_NHi:Addr} {od_NHi an_NHi:Option Addr} {sl_NHi:Array (Option Value)} {oc_NHi kV_NHi dc_NHi pm_NHi cd_NHi ct_NHi:Value}
  (a_Book:PySem.W.nsIn K mainGlobals "Book" = some (some (.ref c_Book)))
  (o_Book_pg:PySem.W.plainGet K c_Book Str.empty=true)
  (o_Book_hd:PySem.W.hasDictIn K c_Book=true)
  (o_Book_po:PySem.W.plainOver K c_Book=true)
  (o_Book_sa:PySem.W.findIn K (.ref c_Book) "__setattr__" = some (some (.builtin "object.__setattr__")))
  (o_Book_mk:PySem.W.makesIn K c_Book=true)
  (o_Book_kp:PySem.W.keepIn K (.ref c_Book)=true)
  (o_Book_n_bound:PySem.W.findIn K (.ref c_Book) "bound" = some none)
  (o_Book_n_liars:PySem.W.findIn K (.ref c_Book) "liars" = some none)
  (o_Book_n_said:PySem.W.findIn K (.ref c_Book) "said" = some none)
  (o_Book_n_seen:PySem.W.findIn K (.ref c_Book) "seen" = some none)
  (a_zan:PySem.W.nsIn K mainGlobals "_law_town" = some (some (.ref f_zan)))
  (l_zan:K.lookup f_zan=some ⟨oc_zan,od_zan,.func (PySem.W.fnOf "_law_town" "_law_town" (jt YN) (jn YN) (jd YN) .none kV_zan dc_zan pm_zan an_zan cd_zan ct_zan),sl_zan⟩)
  (c_zan:PySem.W.codeIn K cd_zan "_law_town" = true)
  (k_zan:PySem.W.keepIn K (.ref f_zan)=true)
  (a_zax:PySem.W.nsIn K mainGlobals "is_whole" = some (some (.ref f_zax)))
  (l_zax:K.lookup f_zax=some ⟨oc_zax,od_zax,.func (PySem.W.fnOf "is_whole" "is_whole" (jt YF) (jn YF) (jd YF) .none kV_zax dc_zax pm_zax an_zax cd_zax ct_zax),sl_zax⟩)
  (c_zax:PySem.W.codeIn K cd_zax "is_whole" = true)
  (k_zax:PySem.W.keepIn K (.ref f_zax)=true)
  (a_zao:PySem.W.nsIn K mainGlobals "is_within" = some (some (.ref f_zao)))
  (l_zao:K.lookup f_zao=some ⟨oc_zao,od_zao,.func (PySem.W.fnOf "is_within" "is_within" (jt YM) (jn YM) (jd YM) .none kV_zao dc_zao pm_zao an_zao cd_zao ct_zao),sl_zao⟩)
  (c_zao:PySem.W.codeIn K cd_zao "is_within" = true)
  (k_zao:PySem.W.keepIn K (.ref f_zao)=true)
  (a_zaf:PySem.W.nsIn K mainGlobals "check_within" = some (some (.ref f_zaf)))
  (l_zaf:K.lookup f_zaf=some ⟨oc_zaf,od_zaf,.func (PySem.W.fnOf "check_within" "check_within" (jt YU) (jn YU) (jd YU) .none kV_zaf dc_zaf pm_zaf an_zaf cd_zaf ct_zaf),sl_zaf⟩)
  (c_zaf:PySem.W.codeIn K cd_zaf "check_within" = true)
  (k_zaf:PySem.W.keepIn K (.ref f_zaf)=true)
  (a_zag:PySem.W.nsIn K mainGlobals "check_houses" = some (some (.ref f_zag)))
  (l_zag:K.lookup f_zag=some ⟨oc_zag,od_zag,.func (PySem.W.fnOf "check_houses" "check_houses" (jt YT) (jn YT) (jd YT) .none kV_zag dc_zag pm_zag an_zag cd_zag ct_zag),sl_zag⟩)
  (c_zag:PySem.W.codeIn K cd_zag "check_houses" = true)
  (k_zag:PySem.W.keepIn K (.ref f_zag)=true)
  (a_zay:PySem.W.nsIn K mainGlobals "is_house" = some (some (.ref f_zay)))
  (l_zay:K.lookup f_zay=some ⟨oc_zay,od_zay,.func (PySem.W.fnOf "is_house" "is_house" (jt YE) (jn YE) (jd YE) .none kV_zay dc_zay pm_zay an_zay cd_zay ct_zay),sl_zay⟩)
  (c_zay:PySem.W.codeIn K cd_zay "is_house" = true)
  (k_zay:PySem.W.keepIn K (.ref f_zay)=true)
  (a_zap:PySem.W.nsIn K mainGlobals "is_rising" = some (some (.ref f_zap)))
  (l_zap:K.lookup f_zap=some ⟨oc_zap,od_zap,.func (PySem.W.fnOf "is_rising" "is_rising" (jt Jm) (jn Jm) (jd Jm) .none kV_zap dc_zap pm_zap an_zap cd_zap ct_zap),sl_zap⟩)
  (c_zap:PySem.W.codeIn K cd_zap "is_rising" = true)
  (k_zap:PySem.W.keepIn K (.ref f_zap)=true)
  (a_zab:PySem.W.nsIn K mainGlobals "check_some_houses" = some (some (.ref f_zab)))
  (l_zab:K.lookup f_zab=some ⟨oc_zab,od_zab,.func (PySem.W.fnOf "check_some_houses" "check_some_houses" (jt Js) (jn Js) (jd Js) .none kV_zab dc_zab pm_zab an_zab cd_zab ct_zab),sl_zab⟩)
  (c_zab:PySem.W.codeIn K cd_zab "check_some_houses" = true)
  (k_zab:PySem.W.keepIn K (.ref f_zab)=true)
  (a_zad:PySem.W.findIn K (.ref c_Book) "__init__" = some (some (.ref f_zad)))
  (i_zad:PySem.W.isFn K (.ref f_zad)=true)
  (l_zad:K.lookup f_zad=some ⟨oc_zad,od_zad,.func (PySem.W.fnOf "__init__" "Book.__init__" (jt Jq) (jn Jq) (jd Jq) .none (.ref kd_zad) dc_zad pm_zad an_zad cd_zad ct_zad),sl_zad⟩)
  (c_zad:PySem.W.codeIn K cd_zad "Book.__init__" = true)
  (k_zad:PySem.W.keepIn K (.ref f_zad)=true)
  (kd_zad_liars:PySem.W.nsIn K kd_zad "liars" = some (some (.ref tu_zad_liars)))
  (tu_zad_liars_o:K.lookup tu_zad_liars=some ⟨.type "tuple",tq_zad_liars,.seq #[] tn_zad_liars,ts_zad_liars⟩)
  (a_zak:PySem.W.nsIn K mainGlobals "check_house" = some (some (.ref f_zak)))
  (l_zak:K.lookup f_zak=some ⟨oc_zak,od_zak,.func (PySem.W.fnOf "check_house" "check_house" (jt YQ) (jn YQ) (jd YQ) .none kV_zak dc_zak pm_zak an_zak cd_zak ct_zak),sl_zak⟩)
  (c_zak:PySem.W.codeIn K cd_zak "check_house" = true)
  (k_zak:PySem.W.keepIn K (.ref f_zak)=true)
  (a_zaa:PySem.W.findIn K (.ref c_Book) "check_is_house" = some (some (.ref f_zaa)))
  (i_zaa:PySem.W.isFn K (.ref f_zaa)=true)
  (l_zaa:K.lookup f_zaa=some ⟨oc_zaa,od_zaa,.func (PySem.W.fnOf "check_is_house" "Book.check_is_house" (jt YV) (jn YV) (jd YV) .none kV_zaa dc_zaa pm_zaa an_zaa cd_zaa ct_zaa),sl_zaa⟩)
  (c_zaa:PySem.W.codeIn K cd_zaa "Book.check_is_house" = true)
  (k_zaa:PySem.W.keepIn K (.ref f_zaa)=true)
  (a_zaq:PySem.W.nsIn K mainGlobals "is_number" = some (some (.ref f_zaq)))
  (l_zaq:K.lookup f_zaq=some ⟨oc_zaq,od_zaq,.func (PySem.W.fnOf "is_number" "is_number" (jt YL) (jn YL) (jd YL) .none kV_zaq dc_zaq pm_zaq an_zaq cd_zaq ct_zaq),sl_zaq⟩)
  (c_zaq:PySem.W.codeIn K cd_zaq "is_number" = true)
  (k_zaq:PySem.W.keepIn K (.ref f_zaq)=true)
  (a_zar:PySem.W.findIn K (.ref c_Book) "bind" = some (some (.ref f_zar)))
  (i_zar:PySem.W.isFn K (.ref f_zar)=true)
  (l_zar:K.lookup f_zar=some ⟨oc_zar,od_zar,.func (PySem.W.fnOf "bind" "Book.bind" (jt YK) (jn YK) (jd YK) .none kV_zar dc_zar pm_zar an_zar cd_zar ct_zar),sl_zar⟩)
  (c_zar:PySem.W.codeIn K cd_zar "Book.bind" = true)
  (k_zar:PySem.W.keepIn K (.ref f_zar)=true)
  (a_zaz:PySem.W.findIn K (.ref c_Book) "say" = some (some (.ref f_zaz)))
  (i_zaz:PySem.W.isFn K (.ref f_zaz)=true)
  (l_zaz:K.lookup f_zaz=some ⟨oc_zaz,od_zaz,.func (PySem.W.fnOf "say" "Book.say" (jt YD) (jn YD) (jd YD) .none kV_zaz dc_zaz pm_zaz an_zaz cd_zaz ct_zaz),sl_zaz⟩)
  (c_zaz:PySem.W.codeIn K cd_zaz "Book.say" = true)
  (k_zaz:PySem.W.keepIn K (.ref f_zaz)=true)
  (a_zas:PySem.W.nsIn K mainGlobals "_law_draw" = some (some (.ref f_zas)))
  (l_zas:K.lookup f_zas=some ⟨oc_zas,od_zas,.func (PySem.W.fnOf "_law_draw" "_law_draw" (jt YJ) (jn YJ) (jd YJ) .none kV_zas dc_zas pm_zas an_zas cd_zas ct_zas),sl_zas⟩)
  (c_zas:PySem.W.codeIn K cd_zas "_law_draw" = true)
  (k_zas:PySem.W.keepIn K (.ref f_zas)=true)
  (a_zat:PySem.W.nsIn K mainGlobals "_law_pick" = some (some (.ref f_zat)))
  (l_zat:K.lookup f_zat=some ⟨oc_zat,od_zat,.func (PySem.W.fnOf "_law_pick" "_law_pick" (jt YI) (jn YI) (jd YI) .none kV_zat dc_zat pm_zat an_zat cd_zat ct_zat),sl_zat⟩)
  (c_zat:PySem.W.codeIn K cd_zat "_law_pick" = true)
  (k_zat:PySem.W.keepIn K (.ref f_zat)=true)
  (a_zau:PySem.W.nsIn K mainGlobals "is_saying" = some (some (.ref f_zau)))
  (l_zau:K.lookup f_zau=some ⟨oc_zau,od_zau,.func (PySem.W.fnOf "is_saying" "is_saying" (jt Jl) (jn Jl) (jd Jl) .none kV_zau dc_zau pm_zau an_zau cd_zau ct_zau),sl_zau⟩)
  (c_zau:PySem.W.codeIn K cd_zau "is_saying" = true)
  (k_zau:PySem.W.keepIn K (.ref f_zau)=true)
  (a_zav:PySem.W.findIn K (.ref c_Book) "show" = some (some (.ref f_zav)))
  (i_zav:PySem.W.isFn K (.ref f_zav)=true)
  (l_zav:K.lookup f_zav=some ⟨oc_zav,od_zav,.func (PySem.W.fnOf "show" "Book.show" (jt YH) (jn YH) (jd YH) .none kV_zav dc_zav pm_zav an_zav cd_zav ct_zav),sl_zav⟩)
  (c_zav:PySem.W.codeIn K cd_zav "Book.show" = true)
  (k_zav:PySem.W.keepIn K (.ref f_zav)=true)
  (a_zah:PySem.W.findIn K (.ref c_Book) "pass_on" = some (some (.ref f_zah)))
  (i_zah:PySem.W.isFn K (.ref f_zah)=true)
  (l_zah:K.lookup f_zah=some ⟨oc_zah,od_zah,.func (PySem.W.fnOf "pass_on" "Book.pass_on" (jt YS) (jn YS) (jd YS) .none kV_zah dc_zah pm_zah an_zah cd_zah ct_zah),sl_zah⟩)
  (c_zah:PySem.W.codeIn K cd_zah "Book.pass_on" = true)
  (k_zah:PySem.W.keepIn K (.ref f_zah)=true)
  (a_zam:PySem.W.findIn K (.ref c_Book) "known" = some (some (.ref f_zam)))
  (i_zam:PySem.W.isFn K (.ref f_zam)=true)
  (l_zam:K.lookup f_zam=some ⟨oc_zam,od_zam,.func (PySem.W.fnOf "known" "Book.known" (jt YO) (jn YO) (jd YO) .none kV_zam dc_zam pm_zam an_zam cd_zam ct_zam),sl_zam⟩)
  (c_zam:PySem.W.codeIn K cd_zam "Book.known" = true)
  (k_zam:PySem.W.keepIn K (.ref f_zam)=true)
  (a_zba:PySem.W.nsIn K mainGlobals "pairs_of" = some (some (.ref f_zba)))
  (l_zba:K.lookup f_zba=some ⟨oc_zba,od_zba,.func (PySem.W.fnOf "pairs_of" "pairs_of" (jt YC) (jn YC) (jd YC) .none kV_zba dc_zba pm_zba an_zba cd_zba ct_zba),sl_zba⟩)
  (c_zba:PySem.W.codeIn K cd_zba "pairs_of" = true)
  (k_zba:PySem.W.keepIn K (.ref f_zba)=true)
  (a_zai:PySem.W.findIn K (.ref c_Book) "clashes" = some (some (.ref f_zai)))
  (i_zai:PySem.W.isFn K (.ref f_zai)=true)
  (l_zai:K.lookup f_zai=some ⟨oc_zai,od_zai,.func (PySem.W.fnOf "clashes" "Book.clashes" (jt Jo) (jn Jo) (jd Jo) .none kV_zai dc_zai pm_zai an_zai cd_zai ct_zai),sl_zai⟩)
  (c_zai:PySem.W.codeIn K cd_zai "Book.clashes" = true)
  (k_zai:PySem.W.keepIn K (.ref f_zai)=true)
  (a_zac:PySem.W.findIn K (.ref c_Book) "convicted" = some (some (.ref f_zac)))
  (i_zac:PySem.W.isFn K (.ref f_zac)=true)
  (l_zac:K.lookup f_zac=some ⟨oc_zac,od_zac,.func (PySem.W.fnOf "convicted" "Book.convicted" (jt Jr) (jn Jr) (jd Jr) .none kV_zac dc_zac pm_zac an_zac cd_zac ct_zac),sl_zac⟩)
  (c_zac:PySem.W.codeIn K cd_zac "Book.convicted" = true)
  (k_zac:PySem.W.keepIn K (.ref f_zac)=true)
  (a_zal:PySem.W.findIn K (.ref c_Book) "honest" = some (some (.ref f_zal)))
  (i_zal:PySem.W.isFn K (.ref f_zal)=true)
  (l_zal:K.lookup f_zal=some ⟨oc_zal,od_zal,.func (PySem.W.fnOf "honest" "Book.honest" (jt Jn) (jn Jn) (jd Jn) .none kV_zal dc_zal pm_zal an_zal cd_zal ct_zal),sl_zal⟩)
  (c_zal:PySem.W.codeIn K cd_zal "Book.honest" = true)
  (k_zal:PySem.W.keepIn K (.ref f_zal)=true)
  (a_zae:PySem.W.nsIn K mainGlobals "all_convicted" = some (some (.ref f_zae)))
  (l_zae:K.lookup f_zae=some ⟨oc_zae,od_zae,.func (PySem.W.fnOf "all_convicted" "all_convicted" (jt Jp) (jn Jp) (jd Jp) .none kV_zae dc_zae pm_zae an_zae cd_zae ct_zae),sl_zae⟩)
  (c_zae:PySem.W.codeIn K cd_zae "all_convicted" = true)
  (k_zae:PySem.W.keepIn K (.ref f_zae)=true)
  (a_zbb:PySem.W.nsIn K mainGlobals "_law_did" = some (some (.ref f_zbb)))
  (l_zbb:K.lookup f_zbb=some ⟨oc_zbb,od_zbb,.func (PySem.W.fnOf "_law_did" "_law_did" (jt YB) (jn YB) (jd YB) .none kV_zbb dc_zbb pm_zbb an_zbb cd_zbb ct_zbb),sl_zbb⟩)
  (c_zbb:PySem.W.codeIn K cd_zbb "_law_did" = true)
  (k_zbb:PySem.W.keepIn K (.ref f_zbb)=true)
  (a_zaj:PySem.W.nsIn K mainGlobals "_law_refusal" = some (some (.ref f_zaj)))
  (l_zaj:K.lookup f_zaj=some ⟨oc_zaj,od_zaj,.func (PySem.W.fnOf "_law_refusal" "_law_refusal" (jt YR) (jn YR) (jd YR) .none kV_zaj dc_zaj pm_zaj an_zaj cd_zaj ct_zaj),sl_zaj⟩)
  (c_zaj:PySem.W.codeIn K cd_zaj "_law_refusal" = true)
  (k_zaj:PySem.W.keepIn K (.ref f_zaj)=true)
  (a_zaw:PySem.W.nsIn K mainGlobals "_law_told" = some (some (.ref f_zaw)))
  (l_zaw:K.lookup f_zaw=some ⟨oc_zaw,od_zaw,.func (PySem.W.fnOf "_law_told" "_law_told" (jt YG) (jn YG) (jd YG) .none kV_zaw dc_zaw pm_zaw an_zaw cd_zaw ct_zaw),sl_zaw⟩)
  (c_zaw:PySem.W.codeIn K cd_zaw "_law_told" = true)
  (k_zaw:PySem.W.keepIn K (.ref f_zaw)=true)
  (a_zbd:PySem.W.nsIn K mainGlobals "is_pair" = some (some (.ref f_zbd)))
  (l_zbd:K.lookup f_zbd=some ⟨oc_zbd,od_zbd,.func (PySem.W.fnOf "is_pair" "is_pair" (jt Yz) (jn Yz) (jd Yz) .none kV_zbd dc_zbd pm_zbd an_zbd cd_zbd ct_zbd),sl_zbd⟩)
  (c_zbd:PySem.W.codeIn K cd_zbd "is_pair" = true)
  (k_zbd:PySem.W.keepIn K (.ref f_zbd)=true)
  (a_zbc:PySem.W.nsIn K mainGlobals "is_clash" = some (some (.ref f_zbc)))
  (l_zbc:K.lookup f_zbc=some ⟨oc_zbc,od_zbc,.func (PySem.W.fnOf "is_clash" "is_clash" (jt YA) (jn YA) (jd YA) .none kV_zbc dc_zbc pm_zbc an_zbc cd_zbc ct_zbc),sl_zbc⟩)
  (c_zbc:PySem.W.codeIn K cd_zbc "is_clash" = true)
  (k_zbc:PySem.W.keepIn K (.ref f_zbc)=true)
  (a_law:PySem.W.nsIn K mainGlobals "law" = some (some (.ref f_law)))
  (l_law:K.lookup f_law=some ⟨oc_law,od_law,.func (PySem.W.fnOf "law" "law" (jt xJ) (jn xJ) (jd xJ) .none kV_law dc_law pm_law an_law cd_law ct_law),sl_law⟩)
  (c_law:PySem.W.codeIn K cd_law "law" = true)
  (k_law:PySem.W.keepIn K (.ref f_law)=true)
  (n_FARTHEST:PySem.W.nsIn K mainGlobals "FARTHEST" = some (some (.int 1000000 t_FARTHEST)))
  (n_LAST_PLACE:PySem.W.nsIn K mainGlobals "LAST_PLACE" = some (some (.int 99 t_LAST_PLACE)))
  (n_MOST_HOUSES:PySem.W.nsIn K mainGlobals "MOST_HOUSES" = some (some (.int 16 t_MOST_HOUSES)))
  (x_nk_Book_NoneType_l:PySem.W.kitOne K (.type "NoneType") (.ref c_Book)=some false)
  (x_nk_Book_bool_l:PySem.W.kitOne K (.type "bool") (.ref c_Book)=some false)
  (x_nk_Book_int_l:PySem.W.kitOne K (.type "int") (.ref c_Book)=some false)
  (x_nk_Book_str_l:PySem.W.kitOne K (.type "str") (.ref c_Book)=some false)
  (x_nk_Book_list_l:PySem.W.kitOne K (.type "list") (.ref c_Book)=some false)
  (x_nk_Book_tuple_l:PySem.W.kitOne K (.type "tuple") (.ref c_Book)=some false)
  (x_nk_Book_dict_l:PySem.W.kitOne K (.type "dict") (.ref c_Book)=some false)
  (a_BadNumber:PySem.W.nsIn K mainGlobals "BadNumber" = some (some (.ref c_BadNumber)))
  (a_BadWorths:PySem.W.nsIn K mainGlobals "BadWorths" = some (some (.ref c_BadWorths)))
  (a_BadLies:PySem.W.nsIn K mainGlobals "BadLies" = some (some (.ref c_BadLies)))
  (a_BadHouses:PySem.W.nsIn K mainGlobals "BadHouses" = some (some (.ref c_BadHouses)))
  (a_NoHouse:PySem.W.nsIn K mainGlobals "NoHouse" = some (some (.ref c_NoHouse)))
  (a_NoLetter:PySem.W.nsIn K mainGlobals "NoLetter" = some (some (.ref c_NoLetter)))
  (a_NotNow:PySem.W.nsIn K mainGlobals "NotNow" = some (some (.ref c_NotNow)))
  (a_BadTable:PySem.W.nsIn K mainGlobals "BadTable" = some (some (.ref c_BadTable)))
  (a_BadSaying:PySem.W.nsIn K mainGlobals "BadSaying" = some (some (.ref c_BadSaying)))
  (a_LiarError:PySem.W.nsIn K mainGlobals "LiarError" = some (some (.ref c_LiarError)))
  (e_BadHouses:PySem.W.excIn K c_BadHouses vC "ValueError.__new__" = true)
  (e_BadNumber:PySem.W.excIn K c_BadNumber vC "ValueError.__new__" = true)
  (e_BadSaying:PySem.W.excIn K c_BadSaying vC "ValueError.__new__" = true)
  (e_NotNow:PySem.W.excIn K c_NotNow vC "ValueError.__new__" = true)
  (ei_NoHouse:L2.excInI K c_NoHouse=true)
  (a_NHi:PySem.W.findIn K (.ref c_NoHouse) "__init__" = some (some (.ref f_NHi)))
  (i_NHi:PySem.W.isFn K (.ref f_NHi)=true)
  (l_NHi:K.lookup f_NHi=some ⟨oc_NHi,od_NHi,.func (PySem.W.fnOf "__init__" "NoHouse.__init__" (jt yd) (jn yd) (jd yd) .none kV_NHi dc_NHi pm_NHi an_NHi cd_NHi ct_NHi),sl_NHi⟩)
  (c_NHi:PySem.W.codeIn K cd_NHi "NoHouse.__init__" = true)
  (k_NHi:PySem.W.keepIn K (.ref f_NHi)=true)
  (nh_sa:PySem.W.findIn K (.ref c_NoHouse) "__setattr__" = some (some (.builtin "object.__setattr__")))
  (nh_na:PySem.W.findIn K (.ref c_NoHouse) "house" = some none)
  (nh_rd:PySem.W.readsIn K c_LiarError (.type "type")=true)
  (nh_fc:PySem.W.findCls K (.ref c_LiarError) (.type "type") "__init__" = some (.val (.builtin "ValueError.__init__")))
  (nh_sp:PySem.W.specialIn K (.ref c_LiarError) "__getattribute__" = some (some (.builtin "type.__getattribute__")))
  (xg_ga:PySem.W.findIn K (.ref c_NoHouse) "__getattribute__" = some (some (.builtin "BaseException.__getattribute__")))
  (xg_na:PySem.W.findIn K (.ref c_NoHouse) "house" = some none)
  (xg_be:PySem.W.mroIn K c_NoHouse (.type "BaseException")=some true)
  (xg_gh:PySem.W.findIn K (.ref c_NoHouse) "__getattr__" = some none)
  (xg_hd:PySem.W.hasDictIn K c_NoHouse=true)
  (x_BadNumber_m4:PySem.W.exmOne K (.ref c_BadNumber) (.ref c_NoHouse)=some false)
  (x_BadHouses_m4:PySem.W.exmOne K (.ref c_BadHouses) (.ref c_NoHouse)=some false)
  (x_BadSaying_m4:PySem.W.exmOne K (.ref c_BadSaying) (.ref c_NoHouse)=some false)
  (x_NotNow_m4:PySem.W.exmOne K (.ref c_NotNow) (.ref c_NoHouse)=some false)
  (x_NoHouse_m4:PySem.W.exmOne K (.ref c_NoHouse) (.ref c_NoHouse)=some true)
  (x_BadNumber_ga:PySem.W.findIn K (.ref c_BadNumber) "__getattribute__" = some (some (.builtin "BaseException.__getattribute__")))
  (x_BadNumber_cl:PySem.W.findIn K (.ref c_BadNumber) "__class__" = some (some (.builtin "object.__class__")))
  (x_BadNumber_ob:PySem.W.mroIn K c_BadNumber (.type "object")=some true)
  (x_BadNumber_be:PySem.W.mroIn K c_BadNumber (.type "BaseException")=some true)
  (x_BadNumber_gh:PySem.W.findIn K (.ref c_BadNumber) "__getattr__" = some none)
  (x_BadNumber_k0:PySem.W.kitOne K (.ref c_BadNumber) (.ref c_BadNumber)=some true)
  (x_BadNumber_k1:PySem.W.kitOne K (.ref c_BadNumber) (.ref c_BadWorths)=some false)
  (x_BadNumber_k2:PySem.W.kitOne K (.ref c_BadNumber) (.ref c_BadLies)=some false)
  (x_BadNumber_k3:PySem.W.kitOne K (.ref c_BadNumber) (.ref c_BadHouses)=some false)
  (x_BadNumber_k4:PySem.W.kitOne K (.ref c_BadNumber) (.ref c_NoHouse)=some false)
  (x_BadNumber_k5:PySem.W.kitOne K (.ref c_BadNumber) (.ref c_NoLetter)=some false)
  (x_BadNumber_k6:PySem.W.kitOne K (.ref c_BadNumber) (.ref c_NotNow)=some false)
  (x_BadNumber_k7:PySem.W.kitOne K (.ref c_BadNumber) (.ref c_BadTable)=some false)
  (x_BadNumber_k8:PySem.W.kitOne K (.ref c_BadNumber) (.ref c_BadSaying)=some false)
  (x_BadNumber_l:PySem.W.kitOne K (.ref c_BadNumber) (.ref c_LiarError)=some true)
  (x_BadNumber_v:PySem.W.kitOne K (.ref c_BadNumber) (.type "ValueError")=some true)
  (x_BadNumber_m:PySem.W.exmOne K (.ref c_BadNumber) (.ref c_LiarError)=some true)
  (x_BadHouses_ga:PySem.W.findIn K (.ref c_BadHouses) "__getattribute__" = some (some (.builtin "BaseException.__getattribute__")))
  (x_BadHouses_cl:PySem.W.findIn K (.ref c_BadHouses) "__class__" = some (some (.builtin "object.__class__")))
  (x_BadHouses_ob:PySem.W.mroIn K c_BadHouses (.type "object")=some true)
  (x_BadHouses_be:PySem.W.mroIn K c_BadHouses (.type "BaseException")=some true)
  (x_BadHouses_gh:PySem.W.findIn K (.ref c_BadHouses) "__getattr__" = some none)
  (x_BadHouses_k0:PySem.W.kitOne K (.ref c_BadHouses) (.ref c_BadNumber)=some false)
  (x_BadHouses_k1:PySem.W.kitOne K (.ref c_BadHouses) (.ref c_BadWorths)=some false)
  (x_BadHouses_k2:PySem.W.kitOne K (.ref c_BadHouses) (.ref c_BadLies)=some false)
  (x_BadHouses_k3:PySem.W.kitOne K (.ref c_BadHouses) (.ref c_BadHouses)=some true)
  (x_BadHouses_k4:PySem.W.kitOne K (.ref c_BadHouses) (.ref c_NoHouse)=some false)
  (x_BadHouses_k5:PySem.W.kitOne K (.ref c_BadHouses) (.ref c_NoLetter)=some false)
  (x_BadHouses_k6:PySem.W.kitOne K (.ref c_BadHouses) (.ref c_NotNow)=some false)
  (x_BadHouses_k7:PySem.W.kitOne K (.ref c_BadHouses) (.ref c_BadTable)=some false)
  (x_BadHouses_k8:PySem.W.kitOne K (.ref c_BadHouses) (.ref c_BadSaying)=some false)
  (x_BadHouses_l:PySem.W.kitOne K (.ref c_BadHouses) (.ref c_LiarError)=some true)
  (x_BadHouses_v:PySem.W.kitOne K (.ref c_BadHouses) (.type "ValueError")=some true)
  (x_BadHouses_m:PySem.W.exmOne K (.ref c_BadHouses) (.ref c_LiarError)=some true)
  (x_BadSaying_ga:PySem.W.findIn K (.ref c_BadSaying) "__getattribute__" = some (some (.builtin "BaseException.__getattribute__")))
  (x_BadSaying_cl:PySem.W.findIn K (.ref c_BadSaying) "__class__" = some (some (.builtin "object.__class__")))
  (x_BadSaying_ob:PySem.W.mroIn K c_BadSaying (.type "object")=some true)
  (x_BadSaying_be:PySem.W.mroIn K c_BadSaying (.type "BaseException")=some true)
  (x_BadSaying_gh:PySem.W.findIn K (.ref c_BadSaying) "__getattr__" = some none)
  (x_BadSaying_k0:PySem.W.kitOne K (.ref c_BadSaying) (.ref c_BadNumber)=some false)
  (x_BadSaying_k1:PySem.W.kitOne K (.ref c_BadSaying) (.ref c_BadWorths)=some false)
  (x_BadSaying_k2:PySem.W.kitOne K (.ref c_BadSaying) (.ref c_BadLies)=some false)
  (x_BadSaying_k3:PySem.W.kitOne K (.ref c_BadSaying) (.ref c_BadHouses)=some false)
  (x_BadSaying_k4:PySem.W.kitOne K (.ref c_BadSaying) (.ref c_NoHouse)=some false)
  (x_BadSaying_k5:PySem.W.kitOne K (.ref c_BadSaying) (.ref c_NoLetter)=some false)
  (x_BadSaying_k6:PySem.W.kitOne K (.ref c_BadSaying) (.ref c_NotNow)=some false)
  (x_BadSaying_k7:PySem.W.kitOne K (.ref c_BadSaying) (.ref c_BadTable)=some false)
  (x_BadSaying_k8:PySem.W.kitOne K (.ref c_BadSaying) (.ref c_BadSaying)=some true)
  (x_BadSaying_l:PySem.W.kitOne K (.ref c_BadSaying) (.ref c_LiarError)=some true)
  (x_BadSaying_v:PySem.W.kitOne K (.ref c_BadSaying) (.type "ValueError")=some true)
  (x_BadSaying_m:PySem.W.exmOne K (.ref c_BadSaying) (.ref c_LiarError)=some true)
  (x_NotNow_ga:PySem.W.findIn K (.ref c_NotNow) "__getattribute__" = some (some (.builtin "BaseException.__getattribute__")))
  (x_NotNow_cl:PySem.W.findIn K (.ref c_NotNow) "__class__" = some (some (.builtin "object.__class__")))
  (x_NotNow_ob:PySem.W.mroIn K c_NotNow (.type "object")=some true)
  (x_NotNow_be:PySem.W.mroIn K c_NotNow (.type "BaseException")=some true)
  (x_NotNow_gh:PySem.W.findIn K (.ref c_NotNow) "__getattr__" = some none)
  (x_NotNow_k0:PySem.W.kitOne K (.ref c_NotNow) (.ref c_BadNumber)=some false)
  (x_NotNow_k1:PySem.W.kitOne K (.ref c_NotNow) (.ref c_BadWorths)=some false)
  (x_NotNow_k2:PySem.W.kitOne K (.ref c_NotNow) (.ref c_BadLies)=some false)
  (x_NotNow_k3:PySem.W.kitOne K (.ref c_NotNow) (.ref c_BadHouses)=some false)
  (x_NotNow_k4:PySem.W.kitOne K (.ref c_NotNow) (.ref c_NoHouse)=some false)
  (x_NotNow_k5:PySem.W.kitOne K (.ref c_NotNow) (.ref c_NoLetter)=some false)
  (x_NotNow_k6:PySem.W.kitOne K (.ref c_NotNow) (.ref c_NotNow)=some true)
  (x_NotNow_k7:PySem.W.kitOne K (.ref c_NotNow) (.ref c_BadTable)=some false)
  (x_NotNow_k8:PySem.W.kitOne K (.ref c_NotNow) (.ref c_BadSaying)=some false)
  (x_NotNow_l:PySem.W.kitOne K (.ref c_NotNow) (.ref c_LiarError)=some true)
  (x_NotNow_v:PySem.W.kitOne K (.ref c_NotNow) (.type "ValueError")=some true)
  (x_NotNow_m:PySem.W.exmOne K (.ref c_NotNow) (.ref c_LiarError)=some true)
  (z_ValueError:PySem.W.nsIn K mainGlobals "ValueError" = some none)
  (z_all:PySem.W.nsIn K mainGlobals "all" = some none)
  (z_bool:PySem.W.nsIn K mainGlobals "bool" = some none)
  (z_int:PySem.W.nsIn K mainGlobals "int" = some none)
  (z_isinstance:PySem.W.nsIn K mainGlobals "isinstance" = some none)
  (z_len:PySem.W.nsIn K mainGlobals "len" = some none)
  (z_list:PySem.W.nsIn K mainGlobals "list" = some none)
  (z_range:PySem.W.nsIn K mainGlobals "range" = some none)
  (z_sorted:PySem.W.nsIn K mainGlobals "sorted" = some none)
  (z_tuple:PySem.W.nsIn K mainGlobals "tuple" = some none)
  (z_zip:PySem.W.nsIn K mainGlobals "zip" = some none) :
  ∃ fd:FuncData,(∀ (s:Shared) (v:Value),BindsTo s fd ⟨[v],[]⟩ [("_law_script",v)])∧∀ base:Heap,K.In base->base.Ns mainGlobals mg->FnOk l.prog w K mg base CX0 12 fa fd ["_law_script"] (XH K):=by
 have e:=hfa.symm.trans (PySem.W.mg_of X G a_law);cases e
 let C:Nat->Addr:=fun k=>([c_BadNumber,c_BadWorths,c_BadLies,c_BadHouses,c_NoHouse,c_NoLetter,c_NotNow,c_BadTable,c_BadSaying,c_LiarError,c_Book]:List Addr).getD k 0
 have N_ValueError:=PySem.W.mg_none_of X G z_ValueError;have N_all:=PySem.W.mg_none_of X G z_all;have N_bool:=PySem.W.mg_none_of X G z_bool;have N_int:=PySem.W.mg_none_of X G z_int;have N_isinstance:=PySem.W.mg_none_of X G z_isinstance;have N_len:=PySem.W.mg_none_of X G z_len;have N_list:=PySem.W.mg_none_of X G z_list;have N_range:=PySem.W.mg_none_of X G z_range;have N_sorted:=PySem.W.mg_none_of X G z_sorted;have N_tuple:=PySem.W.mg_none_of X G z_tuple;have N_zip:=PySem.W.mg_none_of X G z_zip;have C_FARTHEST:=PySem.W.mg_of X G n_FARTHEST;have C_LAST_PLACE:=PySem.W.mg_of X G n_LAST_PLACE;have C_MOST_HOUSES:=PySem.W.mg_of X G n_MOST_HOUSES;have A_BadNumber:mg "BadNumber" = some (.ref (C 0)):=PySem.W.mg_of X G a_BadNumber;have A_BadWorths:mg "BadWorths" = some (.ref (C 1)):=PySem.W.mg_of X G a_BadWorths;have A_BadLies:mg "BadLies" = some (.ref (C 2)):=PySem.W.mg_of X G a_BadLies;have A_BadHouses:mg "BadHouses" = some (.ref (C 3)):=PySem.W.mg_of X G a_BadHouses
 have A_NoHouse:mg "NoHouse" = some (.ref (C 4)):=PySem.W.mg_of X G a_NoHouse;have A_NoLetter:mg "NoLetter" = some (.ref (C 5)):=PySem.W.mg_of X G a_NoLetter;have A_NotNow:mg "NotNow" = some (.ref (C 6)):=PySem.W.mg_of X G a_NotNow;have A_BadTable:mg "BadTable" = some (.ref (C 7)):=PySem.W.mg_of X G a_BadTable;have A_BadSaying:mg "BadSaying" = some (.ref (C 8)):=PySem.W.mg_of X G a_BadSaying;have A_LiarError:mg "LiarError" = some (.ref (C 9)):=PySem.W.mg_of X G a_LiarError;have A_Book:mg "Book" = some (.ref (C 10)):=PySem.W.mg_of X G a_Book
 have cl_Book:Cls K (C 10):=⟨o_Book_pg,o_Book_hd,o_Book_po,o_Book_sa⟩
 have nf_Book_bound:jS K (C 10) "bound":=o_Book_n_bound;have nf_Book_liars:jS K (C 10) "liars":=o_Book_n_liars;have nf_Book_said:jS K (C 10) "said":=o_Book_n_said;have nf_Book_seen:jS K (C 10) "seen":=o_Book_n_seen
 have NK_Book:NoKit K (C 10):=⟨fun n h=>by
  simp only [yR,List.mem_cons,List.mem_nil_iff,or_false] at h
  rcases h with rfl | rfl | rfl | rfl | rfl | rfl | rfl
  ·exact x_nk_Book_NoneType_l
  ·exact x_nk_Book_bool_l
  ·exact x_nk_Book_int_l
  ·exact x_nk_Book_str_l
  ·exact x_nk_Book_list_l
  ·exact x_nk_Book_tuple_l
  ·exact x_nk_Book_dict_l⟩
 have XG_house:XGet K (C 4) "house":=⟨xg_ga,xg_na,xg_be,xg_gh,xg_hd⟩
 have hM:∀ c ∈ ([0,3,8,6,4]:List Nat),PySem.W.exmOne K (.ref (C c)) (.ref (C 4))=some (c == 4):=by
  intro c hc;simp only [List.mem_cons,List.mem_nil_iff,or_false] at hc
  rcases hc with rfl | rfl | rfl | rfl | rfl
  ·exact x_BadNumber_m4
  ·exact x_BadHouses_m4
  ·exact x_BadSaying_m4
  ·exact x_NotNow_m4
  ·exact x_NoHouse_m4
 have X_BadHouses:Exc K mg "BadHouses" (C 3):=⟨A_BadHouses,e_BadHouses⟩
 have X_BadNumber:Exc K mg "BadNumber" (C 0):=⟨A_BadNumber,e_BadNumber⟩
 have X_BadSaying:Exc K mg "BadSaying" (C 8):=⟨A_BadSaying,e_BadSaying⟩
 have X_NotNow:Exc K mg "NotNow" (C 6):=⟨A_NotNow,e_NotNow⟩
 have row_BadNumber:XRow (tb w K C) [0,1,2,3,4,5,6,7,8] 9 0:=by
  refine ⟨⟨x_BadNumber_ga,x_BadNumber_cl,x_BadNumber_ob,x_BadNumber_be,Jc e_BadNumber,x_BadNumber_gh⟩,fun j h=>?_,x_BadNumber_l,x_BadNumber_v,x_BadNumber_m⟩;simp only [List.mem_cons,List.mem_nil_iff,or_false] at h
  rcases h with rfl | rfl | rfl | rfl | rfl | rfl | rfl | rfl | rfl
  ·exact x_BadNumber_k0
  ·exact x_BadNumber_k1
  ·exact x_BadNumber_k2
  ·exact x_BadNumber_k3
  ·exact x_BadNumber_k4
  ·exact x_BadNumber_k5
  ·exact x_BadNumber_k6
  ·exact x_BadNumber_k7
  ·exact x_BadNumber_k8
 have row_BadHouses:XRow (tb w K C) [0,1,2,3,4,5,6,7,8] 9 3:=by
  refine ⟨⟨x_BadHouses_ga,x_BadHouses_cl,x_BadHouses_ob,x_BadHouses_be,Jc e_BadHouses,x_BadHouses_gh⟩,fun j h=>?_,x_BadHouses_l,x_BadHouses_v,x_BadHouses_m⟩;simp only [List.mem_cons,List.mem_nil_iff,or_false] at h
  rcases h with rfl | rfl | rfl | rfl | rfl | rfl | rfl | rfl | rfl
  ·exact x_BadHouses_k0
  ·exact x_BadHouses_k1
  ·exact x_BadHouses_k2
  ·exact x_BadHouses_k3
  ·exact x_BadHouses_k4
  ·exact x_BadHouses_k5
  ·exact x_BadHouses_k6
  ·exact x_BadHouses_k7
  ·exact x_BadHouses_k8
 have row_BadSaying:XRow (tb w K C) [0,1,2,3,4,5,6,7,8] 9 8:=by
  refine ⟨⟨x_BadSaying_ga,x_BadSaying_cl,x_BadSaying_ob,x_BadSaying_be,Jc e_BadSaying,x_BadSaying_gh⟩,fun j h=>?_,x_BadSaying_l,x_BadSaying_v,x_BadSaying_m⟩;simp only [List.mem_cons,List.mem_nil_iff,or_false] at h
  rcases h with rfl | rfl | rfl | rfl | rfl | rfl | rfl | rfl | rfl
  ·exact x_BadSaying_k0
  ·exact x_BadSaying_k1
  ·exact x_BadSaying_k2
  ·exact x_BadSaying_k3
  ·exact x_BadSaying_k4
  ·exact x_BadSaying_k5
  ·exact x_BadSaying_k6
  ·exact x_BadSaying_k7
  ·exact x_BadSaying_k8
 have row_NotNow:XRow (tb w K C) [0,1,2,3,4,5,6,7,8] 9 6:=by
  refine ⟨⟨x_NotNow_ga,x_NotNow_cl,x_NotNow_ob,x_NotNow_be,Jc e_NotNow,x_NotNow_gh⟩,fun j h=>?_,x_NotNow_l,x_NotNow_v,x_NotNow_m⟩;simp only [List.mem_cons,List.mem_nil_iff,or_false] at h
  rcases h with rfl | rfl | rfl | rfl | rfl | rfl | rfl | rfl | rfl
  ·exact x_NotNow_k0
  ·exact x_NotNow_k1
  ·exact x_NotNow_k2
  ·exact x_NotNow_k3
  ·exact x_NotNow_k4
  ·exact x_NotNow_k5
  ·exact x_NotNow_k6
  ·exact x_NotNow_k7
  ·exact x_NotNow_k8
 have hX:∀ k ∈ ([0,3,8,6]:List Nat),XRow (tb w K C) [0,1,2,3,4,5,6,7,8] 9 k:=by
  intro k hk;simp only [List.mem_cons,List.mem_nil_iff,or_false] at hk
  rcases hk with rfl | rfl | rfl | rfl
  ·exact row_BadNumber
  ·exact row_BadHouses
  ·exact row_BadSaying
  ·exact row_NotNow
 have F_zan:=jG (st:=YN) l_zan c_zan k_zan;have F_zax:=jG (st:=YF) l_zax c_zax k_zax;have F_zao:=jG (st:=YM) l_zao c_zao k_zao;have F_zaf:=jG (st:=YU) l_zaf c_zaf k_zaf;have F_zag:=jG (st:=YT) l_zag c_zag k_zag;have F_zay:=jG (st:=YE) l_zay c_zay k_zay;have F_zap:=jG (st:=Jm) l_zap c_zap k_zap;have F_zab:=jG (st:=Js) l_zab c_zab k_zab;have F_zad:=jG (st:=Jq) l_zad c_zad k_zad;have F_zak:=jG (st:=YQ) l_zak c_zak k_zak;have F_zaa:=jG (st:=YV) l_zaa c_zaa k_zaa;have F_zaq:=jG (st:=YL) l_zaq c_zaq k_zaq;have F_zar:=jG (st:=YK) l_zar c_zar k_zar;have F_zaz:=jG (st:=YD) l_zaz c_zaz k_zaz;have F_zas:=jG (st:=YJ) l_zas c_zas k_zas;have F_zat:=jG (st:=YI) l_zat c_zat k_zat;have F_zau:=jG (st:=Jl) l_zau c_zau k_zau;have F_zav:=jG (st:=YH) l_zav c_zav k_zav;have F_zah:=jG (st:=YS) l_zah c_zah k_zah
 have F_zam:=jG (st:=YO) l_zam c_zam k_zam;have F_zba:=jG (st:=YC) l_zba c_zba k_zba;have F_zai:=jG (st:=Jo) l_zai c_zai k_zai;have F_zac:=jG (st:=Jr) l_zac c_zac k_zac;have F_zal:=jG (st:=Jn) l_zal c_zal k_zal;have F_zae:=jG (st:=Jp) l_zae c_zae k_zae;have F_zbb:=jG (st:=YB) l_zbb c_zbb k_zbb;have F_zaj:=jG (st:=YR) l_zaj c_zaj k_zaj;have F_zaw:=jG (st:=YG) l_zaw c_zaw k_zaw;have F_zbd:=jG (st:=Yz) l_zbd c_zbd k_zbd;have F_zbc:=jG (st:=YA) l_zbc c_zbc k_zbc;have F_law:=jG (st:=xJ) l_law c_law k_law;refine ⟨PySem.W.fnOf "law" "law" (jt xJ) (jn xJ) (jd xJ) .none kV_law dc_law pm_law an_law cd_law ct_law,fun s v=>.of_eq rfl,fun base _ _=>?_⟩;have F_NHi:=jG (st:=yd) l_NHi c_NHi k_NHi
 have X_NoHouse:ExcI l.prog w K mg base "NoHouse" (C 4) "house" 1:=⟨A_NoHouse,ei_NoHouse,f_NHi,_,["self","house"],uR (P:=l.prog) (w:=w) (mg:=mg) (base:=base) F_NHi ⟨ei_NoHouse,nh_sa,nh_na⟩ A_LiarError nh_rd nh_fc nh_sp,a_NHi,beq_iff_eq.mp i_NHi,F_NHi.binds fun _ _ _ _ _ _ us hl=>by obtain ⟨u0,u1,rfl⟩:=ln2 hl; rfl⟩
 have ok_zan_:=ok_zan (P:=l.prog) (w:=w) (mg:=mg) (base:=base) (C:=C) F_zan N_list
 have Q_zan:CalD l.prog w K mg base (tb w K C) "_law_town" 1 ["_law_script"] [] 1 0 [.p 0] [] XA:=⟨f_zan,_,[],[],ok_zan_,PySem.W.mg_of X G a_zan,k_zan,jW (dV:=[]) (ds:=[]) .nil (fun s us ws KX h1 h2=>by obtain ⟨u0,rfl⟩:=ln1 h1; obtain rfl:=ln0 h2; exact .of_eq rfl),fun W hW=>rfl⟩
 have ok_zax_:=ok_zax (P:=l.prog) (w:=w) (mg:=mg) (base:=base) (C:=C) F_zax N_bool N_int N_isinstance
 have Q_zax:CalD l.prog w K mg base (tb w K C) "is_whole" 1 ["thing"] [] 1 0 [.p 0] [] Xy:=⟨f_zax,_,[],[],ok_zax_,PySem.W.mg_of X G a_zax,k_zax,jW (dV:=[]) (ds:=[]) .nil (fun s us ws KX h1 h2=>by obtain ⟨u0,rfl⟩:=ln1 h1; obtain rfl:=ln0 h2; exact .of_eq rfl),fun W hW=>rfl⟩
 have ok_zao_:=ok_zao (P:=l.prog) (w:=w) (mg:=mg) (base:=base) (C:=C) F_zao Q_zax
 have Q_zao:CalD l.prog w K mg base (tb w K C) "is_within" 2 ["thing","least","most"] [] 3 0 [.p 0,.p 1,.p 2] [] uL:=⟨f_zao,_,[],[],ok_zao_,PySem.W.mg_of X G a_zao,k_zao,jW (dV:=[]) (ds:=[]) .nil (fun s us ws KX h1 h2=>by obtain ⟨u0,u1,u2,rfl⟩:=ln3 h1; obtain rfl:=ln0 h2; exact .of_eq rfl),fun W hW=>rfl⟩
 have ok_zaf_:=ok_zaf (P:=l.prog) (w:=w) (mg:=mg) (base:=base) (C:=C) F_zaf X_BadNumber Q_zao
 have Q_zaf:CalD l.prog w K mg base (tb w K C) "check_within" 3 ["thing","least","most"] [] 3 0 [.p 0,.p 1,.p 2] [] XB:=⟨f_zaf,_,[],[],ok_zaf_,PySem.W.mg_of X G a_zaf,k_zaf,jW (dV:=[]) (ds:=[]) .nil (fun s us ws KX h1 h2=>by obtain ⟨u0,u1,u2,rfl⟩:=ln3 h1; obtain rfl:=ln0 h2; exact .of_eq rfl),fun W hW=>rfl⟩
 have ok_zag_:=ok_zag (P:=l.prog) (w:=w) (mg:=mg) (base:=base) (C:=C) F_zag C_MOST_HOUSES Q_zaf
 have Q_zag:CalD l.prog w K mg base (tb w K C) "check_houses" 4 ["houses"] [] 1 0 [.p 0] [] jbA:=⟨f_zag,_,[],[],ok_zag_,PySem.W.mg_of X G a_zag,k_zag,jW (dV:=[]) (ds:=[]) .nil (fun s us ws KX h1 h2=>by obtain ⟨u0,rfl⟩:=ln1 h1; obtain rfl:=ln0 h2; exact .of_eq rfl),fun W hW=>rfl⟩
 have ok_zay_:=ok_zay (P:=l.prog) (w:=w) (mg:=mg) (base:=base) (C:=C) F_zay Q_zao
 have Q_zay:CalD l.prog w K mg base (tb w K C) "is_house" 3 ["thing","houses"] [] 2 0 [.p 0,.p 1] [] Xx:=⟨f_zay,_,[],[],ok_zay_,PySem.W.mg_of X G a_zay,k_zay,jW (dV:=[]) (ds:=[]) .nil (fun s us ws KX h1 h2=>by obtain ⟨u0,u1,rfl⟩:=ln2 h1; obtain rfl:=ln0 h2; exact .of_eq rfl),fun W hW=>rfl⟩
 have ok_zap_:=ok_zap (P:=l.prog) (w:=w) (mg:=mg) (base:=base) (C:=C) F_zap N_all N_zip
 have Q_zap:CalD l.prog w K mg base (tb w K C) "is_rising" 1 ["numbers"] [] 1 0 [.p 0] [] jbu:=⟨f_zap,_,[],[],ok_zap_,PySem.W.mg_of X G a_zap,k_zap,jW (dV:=[]) (ds:=[]) .nil (fun s us ws KX h1 h2=>by obtain ⟨u0,rfl⟩:=ln1 h1; obtain rfl:=ln0 h2; exact .of_eq rfl),fun W hW=>rfl⟩
 have ok_zab_:=ok_zab (P:=l.prog) (w:=w) (mg:=mg) (base:=base) (C:=C) F_zab X_BadHouses Q_zay Q_zap N_all N_isinstance N_len N_list N_tuple
 have Q_zab:CalD l.prog w K mg base (tb w K C) "check_some_houses" 4 ["some","houses","most"] [] 3 0 [.p 0,.p 1,.p 2] [] jbB:=⟨f_zab,_,[],[],ok_zab_,PySem.W.mg_of X G a_zab,k_zab,jW (dV:=[]) (ds:=[]) .nil (fun s us ws KX h1 h2=>by obtain ⟨u0,u1,u2,rfl⟩:=ln3 h1; obtain rfl:=ln0 h2; exact .of_eq rfl),fun W hW=>rfl⟩
 have ok_zad_:=ok_zad (P:=l.prog) (w:=w) (mg:=mg) (base:=base) (C:=C) F_zad nf_Book_bound nf_Book_liars nf_Book_said nf_Book_seen Q_zag Q_zab N_list N_range cl_Book
 have Q_zad_2_liars:NewD l.prog w K mg base (tb w K C) 10 "Book" 5 ["self","houses","liars"] ["liars"] 2 1 [.p 0,.p 1,.k 0] [] Yj:=⟨f_zad,_,[],[],ok_zad_,⟨o_Book_mk,a_zad,i_zad,o_Book_kp⟩,A_Book,jW (dV:=[]) (ds:=[]) .nil (fun s us ws KX h1 h2=>by obtain ⟨u0,u1,rfl⟩:=ln2 h1; obtain ⟨w0,rfl⟩:=ln1 h2; exact .of_eq rfl),fun W hW=>rfl⟩
 have ok_zak_:=ok_zak (P:=l.prog) (w:=w) (mg:=mg) (base:=base) (C:=C) F_zak X_NoHouse Q_zay
 have Q_zak:CalD l.prog w K mg base (tb w K C) "check_house" 4 ["house","houses"] [] 2 0 [.p 0,.p 1] [] jbw:=⟨f_zak,_,[],[],ok_zak_,PySem.W.mg_of X G a_zak,k_zak,jW (dV:=[]) (ds:=[]) .nil (fun s us ws KX h1 h2=>by obtain ⟨u0,u1,rfl⟩:=ln2 h1; obtain rfl:=ln0 h2; exact .of_eq rfl),fun W hW=>rfl⟩
 have ok_zaa_:=ok_zaa (P:=l.prog) (w:=w) (mg:=mg) (base:=base) (C:=C) F_zaa nf_Book_seen Q_zak N_len cl_Book
 have Q_zaa:MetD l.prog w K mg base (tb w K C) 10 "check_is_house" 5 ["self","house"] [] 2 0 [.p 0,.p 1] [] xp:=⟨f_zaa,_,[],[],ok_zaa_,⟨a_zaa,i_zaa,k_zaa⟩,cl_Book,jW (dV:=[]) (ds:=[]) .nil (fun s us ws KX h1 h2=>by obtain ⟨u0,u1,rfl⟩:=ln2 h1; obtain rfl:=ln0 h2; exact .of_eq rfl),fun W hW=>rfl⟩
 have ok_zaq_:=ok_zaq (P:=l.prog) (w:=w) (mg:=mg) (base:=base) (C:=C) F_zaq C_FARTHEST Q_zao
 have Q_zaq:CalD l.prog w K mg base (tb w K C) "is_number" 3 ["thing"] [] 1 0 [.p 0] [] jbt:=⟨f_zaq,_,[],[],ok_zaq_,PySem.W.mg_of X G a_zaq,k_zaq,jW (dV:=[]) (ds:=[]) .nil (fun s us ws KX h1 h2=>by obtain ⟨u0,rfl⟩:=ln1 h1; obtain rfl:=ln0 h2; exact .of_eq rfl),fun W hW=>rfl⟩
 have ok_zar_:=ok_zar (P:=l.prog) (w:=w) (mg:=mg) (base:=base) (C:=C) F_zar X_NotNow nf_Book_bound cl_Book
 have Q_zar:MetD l.prog w K mg base (tb w K C) 10 "bind" 1 ["self","house","place","number"] [] 4 0 [.p 0,.p 1,.p 2,.p 3] [] jbs:=⟨f_zar,_,[],[],ok_zar_,⟨a_zar,i_zar,k_zar⟩,cl_Book,jW (dV:=[]) (ds:=[]) .nil (fun s us ws KX h1 h2=>by obtain ⟨u0,u1,u2,u3,rfl⟩:=ln4 h1; obtain rfl:=ln0 h2; exact .of_eq rfl),fun W hW=>rfl⟩
 have ok_zaz_:=ok_zaz (P:=l.prog) (w:=w) (mg:=mg) (base:=base) (C:=C) F_zaz C_LAST_PLACE X_BadSaying nf_Book_liars nf_Book_said Q_zaf Q_zaq Q_zar Q_zaa cl_Book
 have Q_zaz:MetD l.prog w K mg base (tb w K C) 10 "say" 6 ["self","house","place","number"] [] 4 0 [.p 0,.p 1,.p 2,.p 3] [] uK:=⟨f_zaz,_,[],[],ok_zaz_,⟨a_zaz,i_zaz,k_zaz⟩,cl_Book,jW (dV:=[]) (ds:=[]) .nil (fun s us ws KX h1 h2=>by obtain ⟨u0,u1,u2,u3,rfl⟩:=ln4 h1; obtain rfl:=ln0 h2; exact .of_eq rfl),fun W hW=>rfl⟩
 have ok_zas_:=ok_zas (P:=l.prog) (w:=w) (mg:=mg) (base:=base) (C:=C) F_zas N_len
 have Q_zas:CalD l.prog w K mg base (tb w K C) "_law_draw" 1 ["_law_town_here","_law_many"] [] 2 0 [.p 0,.p 1] [] Xz:=⟨f_zas,_,[],[],ok_zas_,PySem.W.mg_of X G a_zas,k_zas,jW (dV:=[]) (ds:=[]) .nil (fun s us ws KX h1 h2=>by obtain ⟨u0,u1,rfl⟩:=ln2 h1; obtain rfl:=ln0 h2; exact .of_eq rfl),fun W hW=>rfl⟩
 have ok_zat_:=ok_zat (P:=l.prog) (w:=w) (mg:=mg) (base:=base) (C:=C) F_zat Q_zas N_len
 have Q_zat:CalD l.prog w K mg base (tb w K C) "_law_pick" 2 ["_law_town_here","_law_some"] [] 2 0 [.p 0,.p 1] [] xf:=⟨f_zat,_,[],[],ok_zat_,PySem.W.mg_of X G a_zat,k_zat,jW (dV:=[]) (ds:=[]) .nil (fun s us ws KX h1 h2=>by obtain ⟨u0,u1,rfl⟩:=ln2 h1; obtain rfl:=ln0 h2; exact .of_eq rfl),fun W hW=>rfl⟩
 have ok_zau_:=ok_zau (P:=l.prog) (w:=w) (mg:=mg) (base:=base) (C:=C) F_zau Q_zax N_all N_isinstance N_len N_tuple
 have Q_zau:CalD l.prog w K mg base (tb w K C) "is_saying" 2 ["thing"] [] 1 0 [.p 0] [] Yi:=⟨f_zau,_,[],[],ok_zau_,PySem.W.mg_of X G a_zau,k_zau,jW (dV:=[]) (ds:=[]) .nil (fun s us ws KX h1 h2=>by obtain ⟨u0,rfl⟩:=ln1 h1; obtain rfl:=ln0 h2; exact .of_eq rfl),fun W hW=>rfl⟩
 have ok_zav_:=ok_zav (P:=l.prog) (w:=w) (mg:=mg) (base:=base) (C:=C) F_zav X_BadSaying nf_Book_said Q_zau Q_zaa cl_Book
 have Q_zav:MetD l.prog w K mg base (tb w K C) 10 "show" 6 ["self","house","row"] [] 3 0 [.p 0,.p 1,.p 2] [] jbr:=⟨f_zav,_,[],[],ok_zav_,⟨a_zav,i_zav,k_zav⟩,cl_Book,jW (dV:=[]) (ds:=[]) .nil (fun s us ws KX h1 h2=>by obtain ⟨u0,u1,u2,rfl⟩:=ln3 h1; obtain rfl:=ln0 h2; exact .of_eq rfl),fun W hW=>rfl⟩
 have ok_zah_:=ok_zah (P:=l.prog) (w:=w) (mg:=mg) (base:=base) (C:=C) F_zah Q_zaa
 have Q_zah:MetD l.prog w K mg base (tb w K C) 10 "pass_on" 6 ["self","house","other"] [] 3 0 [.p 0,.p 1,.p 2] [] jbz:=⟨f_zah,_,[],[],ok_zah_,⟨a_zah,i_zah,k_zah⟩,cl_Book,jW (dV:=[]) (ds:=[]) .nil (fun s us ws KX h1 h2=>by obtain ⟨u0,u1,u2,rfl⟩:=ln3 h1; obtain rfl:=ln0 h2; exact .of_eq rfl),fun W hW=>rfl⟩
 have ok_zam_:=ok_zam (P:=l.prog) (w:=w) (mg:=mg) (base:=base) (C:=C) F_zam nf_Book_seen Q_zaa N_sorted cl_Book
 have Q_zam:MetD l.prog w K mg base (tb w K C) 10 "known" 6 ["self","house"] [] 2 0 [.p 0,.p 1] [] uM:=⟨f_zam,_,[],[],ok_zam_,⟨a_zam,i_zam,k_zam⟩,cl_Book,jW (dV:=[]) (ds:=[]) .nil (fun s us ws KX h1 h2=>by obtain ⟨u0,u1,rfl⟩:=ln2 h1; obtain rfl:=ln0 h2; exact .of_eq rfl),fun W hW=>rfl⟩
 have ok_zba_:=ok_zba (P:=l.prog) (w:=w) (mg:=mg) (base:=base) (C:=C) F_zba
 have Q_zba:CalD l.prog w K mg base (tb w K C) "pairs_of" 1 ["rows"] [] 1 0 [.p 0] [] jbq:=⟨f_zba,_,[],[],ok_zba_,PySem.W.mg_of X G a_zba,k_zba,jW (dV:=[]) (ds:=[]) .nil (fun s us ws KX h1 h2=>by obtain ⟨u0,rfl⟩:=ln1 h1; obtain rfl:=ln0 h2; exact .of_eq rfl),fun W hW=>rfl⟩
 have ok_zai_:=ok_zai (P:=l.prog) (w:=w) (mg:=mg) (base:=base) (C:=C) F_zai Q_zba Q_zam
 have Q_zai:MetD l.prog w K mg base (tb w K C) 10 "clashes" 7 ["self","house"] [] 2 0 [.p 0,.p 1] [] jby:=⟨f_zai,_,[],[],ok_zai_,⟨a_zai,i_zai,k_zai⟩,cl_Book,jW (dV:=[]) (ds:=[]) .nil (fun s us ws KX h1 h2=>by obtain ⟨u0,u1,rfl⟩:=ln2 h1; obtain rfl:=ln0 h2; exact .of_eq rfl),fun W hW=>rfl⟩
 have ok_zac_:=ok_zac (P:=l.prog) (w:=w) (mg:=mg) (base:=base) (C:=C) F_zac Q_zai N_sorted
 have Q_zac:MetD l.prog w K mg base (tb w K C) 10 "convicted" 8 ["self","house"] [] 2 0 [.p 0,.p 1] [] XD:=⟨f_zac,_,[],[],ok_zac_,⟨a_zac,i_zac,k_zac⟩,cl_Book,jW (dV:=[]) (ds:=[]) .nil (fun s us ws KX h1 h2=>by obtain ⟨u0,u1,rfl⟩:=ln2 h1; obtain rfl:=ln0 h2; exact .of_eq rfl),fun W hW=>rfl⟩
 have ok_zal_:=ok_zal (P:=l.prog) (w:=w) (mg:=mg) (base:=base) (C:=C) F_zal nf_Book_liars nf_Book_seen N_len N_range cl_Book
 have Q_zal:MetD l.prog w K mg base (tb w K C) 10 "honest" 1 ["self"] [] 1 0 [.p 0] [] jbv:=⟨f_zal,_,[],[],ok_zal_,⟨a_zal,i_zal,k_zal⟩,cl_Book,jW (dV:=[]) (ds:=[]) .nil (fun s us ws KX h1 h2=>by obtain ⟨u0,rfl⟩:=ln1 h1; obtain rfl:=ln0 h2; exact .of_eq rfl),fun W hW=>rfl⟩
 have ok_zae_:=ok_zae (P:=l.prog) (w:=w) (mg:=mg) (base:=base) (C:=C) F_zae X_BadHouses Q_zac Q_zal NK_Book N_isinstance N_sorted A_Book
 have Q_zae:CalD l.prog w K mg base (tb w K C) "all_convicted" 9 ["book"] [] 1 0 [.p 0] [] XC:=⟨f_zae,_,[],[],ok_zae_,PySem.W.mg_of X G a_zae,k_zae,jW (dV:=[]) (ds:=[]) .nil (fun s us ws KX h1 h2=>by obtain ⟨u0,rfl⟩:=ln1 h1; obtain rfl:=ln0 h2; exact .of_eq rfl),fun W hW=>rfl⟩
 have ok_zbb_:=ok_zbb (P:=l.prog) (w:=w) (mg:=mg) (base:=base) (C:=C) F_zbb Q_zae Q_zac Q_zam Q_zah Q_zaz Q_zav Q_zad_2_liars
 have Q_zbb:CalD l.prog w K mg base (tb w K C) "_law_did" 10 ["_law_book","_law_kind","_law_one","_law_two","_law_three"] [] 5 0 [.p 0,.p 1,.p 2,.p 3,.p 4] [] jbp:=⟨f_zbb,_,[],[],ok_zbb_,PySem.W.mg_of X G a_zbb,k_zbb,jW (dV:=[]) (ds:=[]) .nil (fun s us ws KX h1 h2=>by obtain ⟨u0,u1,u2,u3,u4,rfl⟩:=ln5 h1; obtain rfl:=ln0 h2; exact .of_eq rfl),fun W hW=>rfl⟩
 have ok_zaj_:=ok_zaj (P:=l.prog) (w:=w) (mg:=mg) (base:=base) (C:=C) F_zaj A_BadHouses A_BadLies A_BadNumber A_BadSaying A_BadTable A_BadWorths A_LiarError A_NoHouse A_NoLetter A_NotNow N_ValueError N_isinstance hX
 have Q_zaj:CalD l.prog w K mg base (tb w K C) "_law_refusal" 1 ["_law_caught"] [] 1 0 [.p 0] [] jbx:=⟨f_zaj,_,[],[],ok_zaj_,PySem.W.mg_of X G a_zaj,k_zaj,jW (dV:=[]) (ds:=[]) .nil (fun s us ws KX h1 h2=>by obtain ⟨u0,rfl⟩:=ln1 h1; obtain rfl:=ln0 h2; exact .of_eq rfl),fun W hW=>rfl⟩
 have ok_zaw_:=ok_zaw (P:=l.prog) (w:=w) (mg:=mg) (base:=base) (C:=C) F_zaw A_LiarError A_NoHouse Q_zbb Q_zaj hX XG_house hM
 have Q_zaw:CalD l.prog w K mg base (tb w K C) "_law_told" 11 ["_law_book","_law_kind","_law_one","_law_two","_law_three"] [] 5 0 [.p 0,.p 1,.p 2,.p 3,.p 4] [] ye:=⟨f_zaw,_,[],[],ok_zaw_,PySem.W.mg_of X G a_zaw,k_zaw,jW (dV:=[]) (ds:=[]) .nil (fun s us ws KX h1 h2=>by obtain ⟨u0,u1,u2,u3,u4,rfl⟩:=ln5 h1; obtain rfl:=ln0 h2; exact .of_eq rfl),fun W hW=>rfl⟩
 have ok_zbd_:=ok_zbd (P:=l.prog) (w:=w) (mg:=mg) (base:=base) (C:=C) F_zbd N_isinstance N_len N_tuple
 have Q_zbd:CalD l.prog w K mg base (tb w K C) "is_pair" 1 ["thing"] [] 1 0 [.p 0] [] jbo:=⟨f_zbd,_,[],[],ok_zbd_,PySem.W.mg_of X G a_zbd,k_zbd,jW (dV:=[]) (ds:=[]) .nil (fun s us ws KX h1 h2=>by obtain ⟨u0,rfl⟩:=ln1 h1; obtain rfl:=ln0 h2; exact .of_eq rfl),fun W hW=>rfl⟩
 have ok_zbc_:=ok_zbc (P:=l.prog) (w:=w) (mg:=mg) (base:=base) (C:=C) F_zbc Q_zbd Q_zau
 have Q_zbc:CalD l.prog w K mg base (tb w K C) "is_clash" 3 ["pair"] [] 1 0 [.p 0] [] Uo:=⟨f_zbc,_,[],[],ok_zbc_,PySem.W.mg_of X G a_zbc,k_zbc,jW (dV:=[]) (ds:=[]) .nil (fun s us ws KX h1 h2=>by obtain ⟨u0,rfl⟩:=ln1 h1; obtain rfl:=ln0 h2; exact .of_eq rfl),fun W hW=>rfl⟩
 exact law_sp (C:=C) (ok_law F_law Q_zat Q_zaw Q_zan Q_zae Q_zbc Q_zam Q_zaz Q_zad_2_liars N_range)
theorem walk {l:PySem.W.OpenLaw} {q:Program} {loose:List Str} {XP:(Str->Option Value)->Heap->Prop} {YP:World->Heap->Prop} {d:DefRec} {K:Params->PySem.W.Frag} (hn:l.most=some 63) (hdf:d.params.defaults=[])
  (hY:∀ (w:World) (h:Heap),YP w h->(K w.params).In h)
  (F:∀ (w:World) (mg:Str->Option Value) (fa:Addr) (h:Heap),(K w.params).In h->h.Ns mainGlobals mg->mg d.name=some (.ref fa) ->
   ∃ fd:FuncData,(∀ (s:Shared) (u:Value),BindsTo s fd ⟨[u],[]⟩ [("_law_script",u)])∧∀ base:Heap,(K w.params).In base->base.Ns mainGlobals mg->FnOk l.prog w (K w.params) mg base CX0 12 fa fd ["_law_script"] (XH (K w.params))) :
  PySem.W.WalkO q loose XP YP l.row.toRowW d [] (fun f vs=>PySem.call f vs) :=
 L2.walk_of (n:=63) (k:=12) (x:="_law_script") (CX:=fun _=>CX0) (sp:=fun w=>XH (K w.params)) hn (by decide) hdf ⟨rfl,by decide,by decide⟩ hY F (fun _ _ a ns hl _ hS=>⟨a,ns,rfl,hS,hl,fun _=>rfl⟩) fun _ _ _ _ _ z=>z
theorem walk_x {q:Program} {loose:List Str} {XP:(Str->Option Value)->Heap->Prop} {K:Params->PySem.W.Frag} {as:List Addr} {n t:Nat} {r:PySem.W.RowW} {d:DefRec} {kwd:List (Str × Expr)} {run:Value->List Value->Sem Value} (e:∀ P:Params,as=(K P).map fun p=>p.1)
  (h:PySem.W.WalkO q loose XP (fun w h=>(K w.params).In h) r d kwd run):PySem.W.WalkX q loose XP (PySem.W.X.obsZ as) (PySem.W.X.valZ K n t) r d kwd run :=
 fun w s₀ s₁ mg mb G y a o pm cd doc dV kV ho hd hc hD hm hg args vals as' L hpre hlay hrd hwl hlo=>h w s₀ s₁ mg mb G (fun a o q=>L.keeps a o ((PySem.W.X.z_facts e y).2.1 a o q)) a o pm cd doc dV kV ho hd hc hD hm hg args vals as' hpre hlay hrd hwl hlo
end My
open PySem PySem.W PyProof.Rows
set_option maxRecDepth 100000 in
set_option maxHeartbeats 0 in
theorem PySem.Challenge.cw_liarclocks_k29_books_refused_holds : PySem.Challenge.rw_liarclocks_k29_books_refused.Holds := by
 w_on; o_law; refine PySem.W.holds_openX (q := MH.wr.view_648) (loose := [PySem.Str.ofString "Book"]) (Xt := fun s => PySem.W.xlAt MH.wr.view_648 [] s && PySem.W.recOk (PySem.W.RowW.records (PySem.W.OpenRow.toRowW (PySem.W.OpenLaw.row PySem.Challenge.rw_liarclocks_k29_books_refused))) s) (XP := PySem.W.XL MH.wr.view_648 []) (Yf := PySem.W.X.obsZ MH.as0) (Ya := PySem.W.X.valZ MH.wr.heap_303 354 640) MH.le_ok (fun s e => PySem.W.xl_of s (Bool.and_eq_true_iff.mp e).1) PySem.W.XL.keeps (by rfl) (by rfl) (by rfl) (fun s e => PySem.W.recFacts_of (Bool.and_eq_true_iff.mp e).2) (by rfl) (by first | assumption | decide +kernel) (by decide +kernel) ⟨rfl, rfl, rfl, rfl, rfl, by decide +kernel⟩ ?hw ?hc; (case hw => w_witness2)
 k_fill
 refine My.walk_x MH.as_eq (My.walk (l := PySem.Challenge.rw_liarclocks_k29_books_refused) rfl rfl (fun w h Y => Y) ?F)
 case F =>
  intro w mg fa h KX G hmg
  refine' My.all_mk KX G hmg ?a_Book ?o_Book_pg ?o_Book_hd ?o_Book_po ?o_Book_sa ?o_Book_mk ?o_Book_kp ?o_Book_n_bound ?o_Book_n_liars ?o_Book_n_said ?o_Book_n_seen ?a_zan ?l_zan ?c_zan ?k_zan ?a_zax ?l_zax ?c_zax ?k_zax ?a_zao ?l_zao ?c_zao ?k_zao ?a_zaf ?l_zaf ?c_zaf ?k_zaf ?a_zag ?l_zag ?c_zag ?k_zag ?a_zay ?l_zay ?c_zay ?k_zay ?a_zap ?l_zap ?c_zap ?k_zap ?a_zab ?l_zab ?c_zab ?k_zab ?a_zad ?i_zad ?l_zad ?c_zad ?k_zad ?kd_zad_liars ?tu_zad_liars_o ?a_zak ?l_zak ?c_zak ?k_zak ?a_zaa ?i_zaa ?l_zaa ?c_zaa ?k_zaa ?a_zaq ?l_zaq ?c_zaq ?k_zaq ?a_zar ?i_zar ?l_zar ?c_zar ?k_zar ?a_zaz ?i_zaz ?l_zaz ?c_zaz ?k_zaz ?a_zas ?l_zas ?c_zas ?k_zas ?a_zat ?l_zat ?c_zat ?k_zat ?a_zau ?l_zau ?c_zau ?k_zau ?a_zav ?i_zav ?l_zav ?c_zav ?k_zav ?a_zah ?i_zah ?l_zah ?c_zah ?k_zah ?a_zam ?i_zam ?l_zam ?c_zam ?k_zam ?a_zba ?l_zba ?c_zba ?k_zba ?a_zai ?i_zai ?l_zai ?c_zai ?k_zai ?a_zac ?i_zac ?l_zac ?c_zac ?k_zac ?a_zal ?i_zal ?l_zal ?c_zal ?k_zal ?a_zae ?l_zae ?c_zae ?k_zae ?a_zbb ?l_zbb ?c_zbb ?k_zbb ?a_zaj ?l_zaj ?c_zaj ?k_zaj ?a_zaw ?l_zaw ?c_zaw ?k_zaw ?a_zbd ?l_zbd ?c_zbd ?k_zbd ?a_zbc ?l_zbc ?c_zbc ?k_zbc ?a_law ?l_law ?c_law ?k_law ?n_FARTHEST ?n_LAST_PLACE ?n_MOST_HOUSES ?x_nk_Book_NoneType_l ?x_nk_Book_bool_l ?x_nk_Book_int_l ?x_nk_Book_str_l ?x_nk_Book_list_l ?x_nk_Book_tuple_l ?x_nk_Book_dict_l ?a_BadNumber ?a_BadWorths ?a_BadLies ?a_BadHouses ?a_NoHouse ?a_NoLetter ?a_NotNow ?a_BadTable ?a_BadSaying ?a_LiarError ?e_BadHouses ?e_BadNumber ?e_BadSaying ?e_NotNow ?ei_NoHouse ?a_NHi ?i_NHi ?l_NHi ?c_NHi ?k_NHi ?nh_sa ?nh_na ?nh_rd ?nh_fc ?nh_sp ?xg_ga ?xg_na ?xg_be ?xg_gh ?xg_hd ?x_BadNumber_m4 ?x_BadHouses_m4 ?x_BadSaying_m4 ?x_NotNow_m4 ?x_NoHouse_m4 ?x_BadNumber_ga ?x_BadNumber_cl ?x_BadNumber_ob ?x_BadNumber_be ?x_BadNumber_gh ?x_BadNumber_k0 ?x_BadNumber_k1 ?x_BadNumber_k2 ?x_BadNumber_k3 ?x_BadNumber_k4 ?x_BadNumber_k5 ?x_BadNumber_k6 ?x_BadNumber_k7 ?x_BadNumber_k8 ?x_BadNumber_l ?x_BadNumber_v ?x_BadNumber_m ?x_BadHouses_ga ?x_BadHouses_cl ?x_BadHouses_ob ?x_BadHouses_be ?x_BadHouses_gh ?x_BadHouses_k0 ?x_BadHouses_k1 ?x_BadHouses_k2 ?x_BadHouses_k3 ?x_BadHouses_k4 ?x_BadHouses_k5 ?x_BadHouses_k6 ?x_BadHouses_k7 ?x_BadHouses_k8 ?x_BadHouses_l ?x_BadHouses_v ?x_BadHouses_m ?x_BadSaying_ga ?x_BadSaying_cl ?x_BadSaying_ob ?x_BadSaying_be ?x_BadSaying_gh ?x_BadSaying_k0 ?x_BadSaying_k1 ?x_BadSaying_k2 ?x_BadSaying_k3 ?x_BadSaying_k4 ?x_BadSaying_k5 ?x_BadSaying_k6 ?x_BadSaying_k7 ?x_BadSaying_k8 ?x_BadSaying_l ?x_BadSaying_v ?x_BadSaying_m ?x_NotNow_ga ?x_NotNow_cl ?x_NotNow_ob ?x_NotNow_be ?x_NotNow_gh ?x_NotNow_k0 ?x_NotNow_k1 ?x_NotNow_k2 ?x_NotNow_k3 ?x_NotNow_k4 ?x_NotNow_k5 ?x_NotNow_k6 ?x_NotNow_k7 ?x_NotNow_k8 ?x_NotNow_l ?x_NotNow_v ?x_NotNow_m ?z_ValueError ?z_all ?z_bool ?z_int ?z_isinstance ?z_len ?z_list ?z_range ?z_sorted ?z_tuple ?z_zip
  (case a_Book => k_is)
  (case o_Book_pg => k_is)
  (case o_Book_hd => k_is)
  (case o_Book_po => k_is)
  (case o_Book_sa => k_is)
  (case o_Book_mk => k_is)
  (case o_Book_kp => k_is)
  (case o_Book_n_bound => k_is)
  (case o_Book_n_liars => k_is)
  (case o_Book_n_said => k_is)
  (case o_Book_n_seen => k_is)
  (case a_zan => k_is)
  (case l_zan => k_is)
  (case c_zan => k_is)
  (case k_zan => k_is)
  (case a_zax => k_is)
  (case l_zax => k_is)
  (case c_zax => k_is)
  (case k_zax => k_is)
  (case a_zao => k_is)
  (case l_zao => k_is)
  (case c_zao => k_is)
  (case k_zao => k_is)
  (case a_zaf => k_is)
  (case l_zaf => k_is)
  (case c_zaf => k_is)
  (case k_zaf => k_is)
  (case a_zag => k_is)
  (case l_zag => k_is)
  (case c_zag => k_is)
  (case k_zag => k_is)
  (case a_zay => k_is)
  (case l_zay => k_is)
  (case c_zay => k_is)
  (case k_zay => k_is)
  (case a_zap => k_is)
  (case l_zap => k_is)
  (case c_zap => k_is)
  (case k_zap => k_is)
  (case a_zab => k_is)
  (case l_zab => k_is)
  (case c_zab => k_is)
  (case k_zab => k_is)
  (case a_zad => k_is)
  (case i_zad => k_is)
  (case l_zad => k_is)
  (case c_zad => k_is)
  (case k_zad => k_is)
  (case kd_zad_liars => k_is)
  (case tu_zad_liars_o => k_is)
  (case a_zak => k_is)
  (case l_zak => k_is)
  (case c_zak => k_is)
  (case k_zak => k_is)
  (case a_zaa => k_is)
  (case i_zaa => k_is)
  (case l_zaa => k_is)
  (case c_zaa => k_is)
  (case k_zaa => k_is)
  (case a_zaq => k_is)
  (case l_zaq => k_is)
  (case c_zaq => k_is)
  (case k_zaq => k_is)
  (case a_zar => k_is)
  (case i_zar => k_is)
  (case l_zar => k_is)
  (case c_zar => k_is)
  (case k_zar => k_is)
  (case a_zaz => k_is)
  (case i_zaz => k_is)
  (case l_zaz => k_is)
  (case c_zaz => k_is)
  (case k_zaz => k_is)
  (case a_zas => k_is)
  (case l_zas => k_is)
  (case c_zas => k_is)
  (case k_zas => k_is)
  (case a_zat => k_is)
  (case l_zat => k_is)
  (case c_zat => k_is)
  (case k_zat => k_is)
  (case a_zau => k_is)
  (case l_zau => k_is)
  (case c_zau => k_is)
  (case k_zau => k_is)
  (case a_zav => k_is)
  (case i_zav => k_is)
  (case l_zav => k_is)
  (case c_zav => k_is)
  (case k_zav => k_is)
  (case a_zah => k_is)
  (case i_zah => k_is)
  (case l_zah => k_is)
  (case c_zah => k_is)
  (case k_zah => k_is)
  (case a_zam => k_is)
  (case i_zam => k_is)
  (case l_zam => k_is)
  (case c_zam => k_is)
  (case k_zam => k_is)
  (case a_zba => k_is)
  (case l_zba => k_is)
  (case c_zba => k_is)
  (case k_zba => k_is)
  (case a_zai => k_is)
  (case i_zai => k_is)
  (case l_zai => k_is)
  (case c_zai => k_is)
  (case k_zai => k_is)
  (case a_zac => k_is)
  (case i_zac => k_is)
  (case l_zac => k_is)
  (case c_zac => k_is)
  (case k_zac => k_is)
  (case a_zal => k_is)
  (case i_zal => k_is)
  (case l_zal => k_is)
  (case c_zal => k_is)
  (case k_zal => k_is)
  (case a_zae => k_is)
  (case l_zae => k_is)
  (case c_zae => k_is)
  (case k_zae => k_is)
  (case a_zbb => k_is)
  (case l_zbb => k_is)
  (case c_zbb => k_is)
  (case k_zbb => k_is)
  (case a_zaj => k_is)
  (case l_zaj => k_is)
  (case c_zaj => k_is)
  (case k_zaj => k_is)
  (case a_zaw => k_is)
  (case l_zaw => k_is)
  (case c_zaw => k_is)
  (case k_zaw => k_is)
  (case a_zbd => k_is)
  (case l_zbd => k_is)
  (case c_zbd => k_is)
  (case k_zbd => k_is)
  (case a_zbc => k_is)
  (case l_zbc => k_is)
  (case c_zbc => k_is)
  (case k_zbc => k_is)
  (case a_law => k_is)
  (case l_law => k_is)
  (case c_law => k_is)
  (case k_law => k_is)
  (case n_FARTHEST => k_is)
  (case n_LAST_PLACE => k_is)
  (case n_MOST_HOUSES => k_is)
  (case x_nk_Book_NoneType_l => kit_is)
  (case x_nk_Book_bool_l => kit_is)
  (case x_nk_Book_int_l => kit_is)
  (case x_nk_Book_str_l => kit_is)
  (case x_nk_Book_list_l => kit_is)
  (case x_nk_Book_tuple_l => kit_is)
  (case x_nk_Book_dict_l => kit_is)
  (case a_BadNumber => k_is)
  (case a_BadWorths => k_is)
  (case a_BadLies => k_is)
  (case a_BadHouses => k_is)
  (case a_NoHouse => k_is)
  (case a_NoLetter => k_is)
  (case a_NotNow => k_is)
  (case a_BadTable => k_is)
  (case a_BadSaying => k_is)
  (case a_LiarError => k_is)
  (case e_BadHouses => k_exc)
  (case e_BadNumber => k_exc)
  (case e_BadSaying => k_exc)
  (case e_NotNow => k_exc)
  (case ei_NoHouse => kernel_rfl)
  (case a_NHi => k_is)
  (case i_NHi => k_is)
  (case l_NHi => k_is)
  (case c_NHi => k_is)
  (case k_NHi => k_is)
  (case nh_sa => k_is)
  (case nh_na => k_is)
  (case nh_rd => k_is)
  (case nh_fc => k_is)
  (case nh_sp => k_is)
  (case xg_ga => k_is)
  (case xg_na => k_is)
  (case xg_be => k_is)
  (case xg_gh => k_is)
  (case xg_hd => k_is)
  (case x_BadNumber_m4 => kts_exm)
  (case x_BadHouses_m4 => kts_exm)
  (case x_BadSaying_m4 => kts_exm)
  (case x_NotNow_m4 => kts_exm)
  (case x_NoHouse_m4 => kts_exm)
  (case x_BadNumber_ga => k_is)
  (case x_BadNumber_cl => k_is)
  (case x_BadNumber_ob => k_is)
  (case x_BadNumber_be => k_is)
  (case x_BadNumber_gh => k_is)
  (case x_BadNumber_k0 => kit_is)
  (case x_BadNumber_k1 => kit_is)
  (case x_BadNumber_k2 => kit_is)
  (case x_BadNumber_k3 => kit_is)
  (case x_BadNumber_k4 => kit_is)
  (case x_BadNumber_k5 => kit_is)
  (case x_BadNumber_k6 => kit_is)
  (case x_BadNumber_k7 => kit_is)
  (case x_BadNumber_k8 => kit_is)
  (case x_BadNumber_l => kit_is)
  (case x_BadNumber_v => kit_is)
  (case x_BadNumber_m => kts_exm)
  (case x_BadHouses_ga => k_is)
  (case x_BadHouses_cl => k_is)
  (case x_BadHouses_ob => k_is)
  (case x_BadHouses_be => k_is)
  (case x_BadHouses_gh => k_is)
  (case x_BadHouses_k0 => kit_is)
  (case x_BadHouses_k1 => kit_is)
  (case x_BadHouses_k2 => kit_is)
  (case x_BadHouses_k3 => kit_is)
  (case x_BadHouses_k4 => kit_is)
  (case x_BadHouses_k5 => kit_is)
  (case x_BadHouses_k6 => kit_is)
  (case x_BadHouses_k7 => kit_is)
  (case x_BadHouses_k8 => kit_is)
  (case x_BadHouses_l => kit_is)
  (case x_BadHouses_v => kit_is)
  (case x_BadHouses_m => kts_exm)
  (case x_BadSaying_ga => k_is)
  (case x_BadSaying_cl => k_is)
  (case x_BadSaying_ob => k_is)
  (case x_BadSaying_be => k_is)
  (case x_BadSaying_gh => k_is)
  (case x_BadSaying_k0 => kit_is)
  (case x_BadSaying_k1 => kit_is)
  (case x_BadSaying_k2 => kit_is)
  (case x_BadSaying_k3 => kit_is)
  (case x_BadSaying_k4 => kit_is)
  (case x_BadSaying_k5 => kit_is)
  (case x_BadSaying_k6 => kit_is)
  (case x_BadSaying_k7 => kit_is)
  (case x_BadSaying_k8 => kit_is)
  (case x_BadSaying_l => kit_is)
  (case x_BadSaying_v => kit_is)
  (case x_BadSaying_m => kts_exm)
  (case x_NotNow_ga => k_is)
  (case x_NotNow_cl => k_is)
  (case x_NotNow_ob => k_is)
  (case x_NotNow_be => k_is)
  (case x_NotNow_gh => k_is)
  (case x_NotNow_k0 => kit_is)
  (case x_NotNow_k1 => kit_is)
  (case x_NotNow_k2 => kit_is)
  (case x_NotNow_k3 => kit_is)
  (case x_NotNow_k4 => kit_is)
  (case x_NotNow_k5 => kit_is)
  (case x_NotNow_k6 => kit_is)
  (case x_NotNow_k7 => kit_is)
  (case x_NotNow_k8 => kit_is)
  (case x_NotNow_l => kit_is)
  (case x_NotNow_v => kit_is)
  (case x_NotNow_m => kts_exm)
  (case z_ValueError => k_is)
  (case z_all => k_is)
  (case z_bool => k_is)
  (case z_int => k_is)
  (case z_isinstance => k_is)
  (case z_len => k_is)
  (case z_list => k_is)
  (case z_range => k_is)
  (case z_sorted => k_is)
  (case z_tuple => k_is)
  (case z_zip => k_is)
