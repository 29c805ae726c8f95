import PyProof.Rows.All
import Wide.All
import OpenK.AllK
import Wide.FinOn
import Lean
import PyProof.EqAt
import PyProof.EqKinds
import PyProof.TupleCall
import PySem.Challenge.RW_liarclocks_k27_whole_books
set_option Elab.async false
set_option linter.all false
set_option maxRecDepth 100000
set_option maxHeartbeats 4000000
open List (Nodup all_cons all_map any_cons any_eq_true append_assoc append_nil drop_zero eq_nil_of_length_eq_zero ext_getElem ext_getElem? filterMap_cons filter_append filter_cons find?_cons flatten_cons foldl foldl_cons getD_eq_getElem?_getD getElem?_append_left getElem?_append_right getElem?_drop getElem?_eq_getElem getElem?_eq_none getElem?_map getElem?_range getElem?_replicate getElem?_set_ne getElem?_set_self getElem?_toArray getElem?_zip_eq_some getElem_map getElem_mem getElem_of_mem getElem_take isEmpty_nil length_append length_cons length_drop length_filter_le length_map length_nil length_range length_replicate length_set length_take lookup_cons map_append map_congr_left map_cons map_map map_nil mem_append mem_append_right mem_cons mem_cons_of_mem mem_cons_self mem_filter mem_nil_iff mem_of_getElem? mem_singleton nil_append nodup_nil not_mem_nil of_mem_zip replicate replicate_succ set_cons_succ set_cons_zero size_toArray take_append_drop take_length take_succ toArray)
open Nat (add_zero ble le_add_right le_of_eq le_of_lt le_of_not_lt le_refl le_succ le_trans lt_irrefl lt_of_le_of_lt lt_of_lt_of_le lt_succ_of_lt lt_succ_self lt_trans mod_lt ne_of_gt ne_of_lt not_lt_zero succ_pos zero_add zero_le)
open PySem.Heap (ExtBut SameBut get?_push_of_some get?_push_size get?_update_ne get?_update_other get?_update_self lt_size size_push)
open PySem.W (Frag KitX XL callWith_KW codeIn emptyDict findIn fnOf handedIn hasDictIn instObj isFn keepIn kitAny kitMeta kitOne kitx_dict lookIn makesIn methodObj mg_none_of mg_of nsIn plainGet plainGet_of plainOver takerIn)
open Option (bind_some getD_none getD_some isSome_map map map_eq_some_iff map_some)
open Array (getD_eq_getD_getElem? getElem?_toList getElem_toList length_toList toList toList_push)
open Bool (and_eq_true false_eq_true not_eq_true)
namespace MH
open PySem PySem.W
def goT (tb : String → Option Builtin)(p : Program)(w : World)(n₀ : Nat)(ann : Option Value) : Nat → SharedT → Thread → Option SharedT
  | 0, _, _ => none
  | m+1, s, th => match through th with
    | true => some s
    | false => match stepOk n₀ ann th with
      | false => none
      | true => match stepT (denote tb) p w s th with
        | some (s', th') => goT tb p w n₀ ann m s' th'
        | none => none
theorem jkU {tb : String → Option Builtin}{p : Program}{w : World}{n₀ : Nat}{ann : Option Value}{m : Nat} : ∀{s r : SharedT}{th : Thread}, goT tb p w n₀ ann m s th=some r → topRun tb p w n₀ ann m s.abs th=some r.abs := by
  induction m with
  | zero => intro s r th h;cases h
  | succ m ih =>
    intro s r th h
    unfold goT at h
    unfold topRun
    cases he : through th with
    | true => rw[he]at h;cases h;rfl
    | false =>
      rw[he]at h
      cases hk : stepOk n₀ ann th with
      | false => rw[hk]at h;cases h
      | true =>
        rw[hk]at h
        cases hs : stepT (denote tb) p w s th with
        | none => rw[hs]at h;cases h
        | some x => obtain⟨s₂, t₂⟩ := x;rw[hs]at h;dsimp only;rw[stepT_spec hs];exact ih h
def jmo (l : List Obj) : BT×Nat := l.foldl (fun t o => (t.1.ins t.2 o, t.2+1)) (.nil, 0)
def jdi (h : Heap)(d : Drawn)(k : Nat)(os : OsState) : SharedT := ⟨(jmo h.objs.toList).1, h.objs.toList.length, h.life, #[], d, k, os⟩
def jhb (p q : Program)(loose : List Str)(lv : List (Str×WData))(R : WRecords)(as : List Addr)(h₀ : Heap)(s : Shared) :=
  ((staticsOk (importedModules p.main.body) h₀ s.heap && namesBound p s.heap && gensDone s && laidKept h₀ s.heap), openSeen q loose (importedModules p.main.body) (fun s => xlAt q lv s && recOk R s) true s, PySem.W.X.obsZ as s)
def E (p q : Program)(loose : List Str)(lv : List (Str×WData))(R : WRecords)(as : List Addr)(m₀ : Nat)(ann : Option Value)(M : Nat)(h₀ : Heap)(d : Drawn)(k : Nat)(w : World)(os : OsState) :=
  (goT treeTable p w m₀ ann M (jdi h₀ d k os) (topStub p)).map fun s => jhb p q loose lv R as h₀ s.abs
def sz (h : Heap) : Bool×Nat×Option Value := (h.isNs mainGlobals && (#[] : Array GenState).size==0, h.objs.size, h.nsMap mainGlobals "__annotations__")
theorem jos {M N : Nat}(le : ble M N=true) : M+(N-M)=N := Nat.add_sub_cancel' (Nat.le_of_ble_eq_true le)
theorem left {p q p' q' : Program}{loose loose' : List Str}{lv : List (Str×WData)}{R : WRecords}{as : List Addr}{N m₀ M : Nat}{ann : Option Value}{Ya : World → List (Option Obj)×Nat×Nat}{E2 : _}{sz2 : _}(hE : @E=E2)(hS : @sz=sz2)(hp : p=p')(hq : q=q')(hl : loose=loose')
    (o1 : opening p=plainProg p.main.scope.names) (hN : ble 600 N=true) (o2 : ∀ s, fenceModules? p s=some s) (habs : ∀(P : Params) d k os, (jdi (boot_heap P) d k os).abs=⟨boot_heap P, #[], d, k, os⟩)
    (size : ∀ P : Params, sz2 (boot_heap P)=(true, m₀, ann)) (le : ble M N=true)
    (run : ∀(w : World) (os : OsState), E2 p' q' loose' lv R as m₀ ann M (boot_heap w.params) boot_drawn boot_toks w os=some (true, openGood q' loose', Ya w)) :
    LeftO p q loose (fun s => xlAt q lv s && recOk R s) (PySem.W.X.obsZ as) Ya N := fun w => by
  subst hE hS hp hq hl
  obtain⟨⟨h, gs, d, k, os⟩, e, e'⟩ := Option.map_eq_some_iff.mp (boot_open o1 hN o2 w)
  obtain⟨rfl, rfl, rfl, rfl⟩ : h=boot_heap w.params∧gs = #[]∧d=boot_drawn∧k=boot_toks := by simpa using e'
  obtain⟨z1, z2, z3⟩ : _∧_∧_ := by simpa only[sz, Prod.mk.injEq]using size w.params
  obtain⟨s₁, r, l⟩ := Option.map_eq_some_iff.mp (run w os)
  obtain⟨l1, l2, l3⟩ : _∧_∧_ := by simpa only[jhb, Prod.mk.injEq]using l
  have r := jkU r
  rw[habs]at r
  have r := topRun_mono (N-M) _ _ _ _ r
  rw[jos le]at r
  have t : topFrom treeTable p w N ⟨boot_heap w.params, #[], boot_drawn, boot_toks, os⟩=some s₁.abs := by
    unfold topFrom
    dsimp only
    rw[z1, z2, z3, r]
    show(match staticsOk (importedModules p.main.body) (boot_heap w.params) s₁.abs.heap && namesBound p s₁.abs.heap && gensDone s₁.abs && laidKept (boot_heap w.params) s₁.abs.heap with | true => _ | false => _)=_
    rw[l1]
  unfold openEnds
  rw[e]
  show(topFrom treeTable p w N _).map _=_
  rw[t]
  show some (_, _)=_
  rw[l2, l3]
theorem jrL {α : Sort _}{a b : α}(h : a=b) : a=b := h
theorem two {P : World → Prop}(row : String)(hf : ∀ w : World, P (w.withFollow row false))(ht : ∀ w : World, P (w.withFollow row true))(w : World) : P w := byRow2 row hf ht w
theorem jgB (P : Params)(d : Drawn)(k : Nat)(os : OsState) : (jdi (boot_heap P) d k os).abs=⟨boot_heap P, #[], d, k, os⟩ := by kernel_rfl
end MH
lay_quick MH.E MH.sz PySem.Challenge.pw_liarclocks_k27_whole_books
section
open PySem PySem.W PySem.W.X PySem.W.ZRun
local macro_rules
  | `(tactic| refine $f $args*) => do
    let is (a : Lean.Syntax) (n : Lean.Name) : Bool := a.isOfKind `Lean.Parser.Term.syntheticHole && a[1].getId.eraseMacroScopes==n
    unless args.any (fun a => is a.raw `hl) do Lean.Macro.throwUnsupported
    let as : Array Lean.Syntax := args.map fun a => if is a.raw `hl then(Lean.mkIdent `hl).raw else if is a.raw `hc then(Lean.mkIdent `hc).raw else a.raw
    let t : Lean.TSyntax `term := ⟨Lean.mkNode `Lean.Parser.Term.app #[f.raw, Lean.mkNullNode as]⟩
    `(tactic| refine $t)
set_option maxHeartbeats 0 in
/-- only to have the kit write out the kept heap and the view;it is used nowhere -/
theorem MH.wr (hl : ∀{q : Program}{loose : List Str}{Xt : Shared → Bool}{Yf : Shared → List (Option Obj)×Nat×Nat}{Ya : World → List (Option Obj)×Nat×Nat}{N : Nat}, LeftO PySem.Challenge.pw_liarclocks_k27_whole_books q loose Xt Yf Ya N)(hc : ∀{q : Program}{loose : List Str}{XP : (Str → Option Value) → Heap → Prop}{Yf : Shared → List (Option Obj)×Nat×Nat}{Ya : World → List (Option Obj)×Nat×Nat}{r : RowW}{d : DefRec}{kwd : List (Str×Expr)}{run : Value → List Value → Sem Value}, WalkX q loose XP Yf Ya r d kwd run) : PySem.Challenge.rw_liarclocks_k27_whole_books.Holds := by
  w_on;o_law;z_head;(case hw => w_witness2)
end
namespace MH
open PySem PySem.W
noncomputable def as0 : List Addr := [0, 1, 2, 3, 4, 5, 6, 7, 8, 9, 10, 11, 12, 13, 14, 15, 22, 23, 24, 25, 28, 35, 36, 37, 40, 47, 48, 49, 52, 59, 60, 61, 62, 63, 64, 65, 66, 67, 68, 71, 78, 79, 80, 83, 90, 91, 92, 95, 96, 97, 98, 99, 100, 101, 102, 103, 104, 105, 106, 107, 108, 109, 110, 111, 112, 113, 114, 115, 116, 117, 118, 119, 120, 121, 122, 123, 124, 125, 126, 127, 128, 129, 130, 131, 132, 133, 134, 135, 136, 137, 138, 139, 140, 141, 142, 143, 144, 145, 146, 147, 148, 149, 150, 151, 152, 153, 154, 155, 156, 157, 158, 159, 160, 161, 162, 163, 164, 165, 166, 167, 168, 169, 170, 171, 172, 173, 174, 175, 176, 177, 185, 186, 187, 188, 189, 190, 191, 192, 193, 194, 195, 196, 197, 198, 199, 200, 201, 202, 203, 204, 205, 206, 207, 208, 209, 210, 211, 212, 213, 214, 215, 216, 217, 218, 219, 220, 221, 222, 223, 224, 225, 226, 227, 228, 229, 230, 231, 232, 233, 234, 235, 236, 237, 238, 239, 240, 241, 242, 243, 244, 245, 246, 247, 248, 249, 250, 251, 254, 255, 256, 257, 258, 259, 260, 261, 262, 263, 264, 265, 266, 267, 268, 269, 270, 271, 272, 273, 274, 275, 276, 277, 278, 279, 280, 281, 282, 283, 284, 285, 286, 287, 288, 289, 290, 291]
noncomputable def q0 : Program := PySem.W.view PySem.W.Fast.tw2010589533835123789 [1,2,3,4,5,6,8,9,10,11,12,13,14,15,16,17,18,19,21,22,23,24,25,27,28,29,30,31,32]
noncomputable def lo0 : List Str := [⟨⟨[66, 111, 111, 107]⟩⟩]
def Ok (w : World) : Prop := ∀ os : OsState, PySem.W.Fast.tw6129207837983636007 PySem.W.Fast.tw2010589533835123789 q0 lo0 [] (PySem.W.RowW.records (PySem.W.OpenRow.toRowW (PySem.W.OpenLaw.row PySem.Challenge.rw_liarclocks_k27_whole_books))) as0 11 (some (PySem.Value.ref 6)) 4930 (boot_heap w.params) boot_drawn boot_toks w os=some (true, openGood q0 lo0, PySem.W.X.valZ MH.wr.heap_273 292 553 w)
theorem ok (w : World) : Ok w := fun os => by kernel_rfl
theorem jrj : MH.wr.view_556=q0 := Eq.trans (b := PySem.W.view PySem.Challenge.pw_liarclocks_k27_whole_books [1,2,3,4,5,6,8,9,10,11,12,13,14,15,16,17,18,19,21,22,23,24,25,27,28,29,30,31,32]) (by kernel_rfl) (congrArg (fun p => PySem.W.view p [1,2,3,4,5,6,8,9,10,11,12,13,14,15,16,17,18,19,21,22,23,24,25,27,28,29,30,31,32]) PySem.W.Fast.te2010589533835123789)
theorem jqh : ([PySem.Str.ofString "Book"] : List Str)=lo0 := by kernel_rfl
theorem le_ok : LeftO PySem.Challenge.pw_liarclocks_k27_whole_books MH.wr.view_556 [PySem.Str.ofString "Book"] (fun s => xlAt MH.wr.view_556 [] s && recOk (PySem.W.RowW.records (PySem.W.OpenRow.toRowW (PySem.W.OpenLaw.row PySem.Challenge.rw_liarclocks_k27_whole_books))) s) (PySem.W.X.obsZ as0) (PySem.W.X.valZ MH.wr.heap_273 292 553) 4930 :=
  left PySem.W.Fast.te6129207837983636007 PySem.W.Fast.te9778236028270751511 PySem.W.Fast.te2010589533835123789 jrj jqh (by kernel_rfl) (by decide) (fun s => by kernel_rfl) jgB (fun P => by kernel_rfl) (by decide) ok
theorem as_eq (P : Params) : as0=(MH.wr.heap_273 P).map fun p => p.1 := by kernel_rfl
end MH
set_option Elab.async false
set_option linter.all false
set_option maxRecDepth 100000
abbrev eL0 : PySem.Obj := { cls := .type "list", data := .seq ([] : List PySem.Value).toArray }
abbrev tE0 := PySem.Value → PySem.Shared → Prop
abbrev tM0 := PySem.Str → Option PySem.Value
abbrev tP0 := List (PySem.Addr×PySem.Obj)
abbrev tC0 := List PySem.Comprehension
abbrev tA0 := Array (Int×PySem.Value)
namespace L2
open PySem PySem.Spec PyProof.Rows
abbrev Key:=Sum Int Str
def Vz:Key->Value->Bool
 |.inl k,v=>Value.isInt k v
 |.inr x,v=>Value.isStrOf x v
def joA (w:World):Key->Int
 |.inl k=>hashInt k
 |.inr x=>hashStr w x
theorem jZ:∀{k:Key}{v:Value},Vz k v=true->(∃i t,k=Sum.inl i/\v=Value.int i t)\/(∃x t,k=Sum.inr x/\v=Value.str x t)
 |.inl i,v,h=>by
  obtain⟨t,e⟩:=Value.isInt_shape (k:=i) (v:=v) h
  exact .inl ⟨i,t,rfl,e⟩
 |.inr x,v,h=>by
  obtain⟨t,e⟩:=Value.isStrOf_shape (x:=x) (v:=v) h
  exact .inr ⟨x,t,rfl,e⟩
theorem jgi (i:Int)(t:Tok):Vz (.inl i) (.int i t)=true:=by simp[Vz,Value.isInt]
theorem jgh (x:Str)(t:Tok):Vz (.inr x) (.str x t)=true:=by simp[Vz,Value.isStrOf]
theorem joz (a b:Int):decide ((Sum.inl a:Key)=Sum.inl b)=(a==b):=by
 by_cases e:a=b
 ·subst e;simp
 ·have h:¬(Sum.inl a:Key)=Sum.inl b:=λq=>e (Sum.inl.inj q);rw[decide_eq_false h]
  exact(beq_eq_false_iff_ne.mpr e).symm
theorem jow (a b:Str):decide ((Sum.inr a:Key)=Sum.inr b)=decide (a=b):=by
 by_cases e:a=b
 ·subst e;simp
 ·have h:¬(Sum.inr a:Key)=Sum.inr b:=λq=>e (Sum.inr.inj q);rw[decide_eq_false h,decide_eq_false e]
theorem joy (a:Int)(b:Str):decide ((Sum.inl a:Key)=Sum.inr b)=false:=decide_eq_false (λq=>nomatch q)
theorem jox (a:Str)(b:Int):decide ((Sum.inr a:Key)=Sum.inl b)=false:=decide_eq_false (λq=>nomatch q)
def ye (prog:Program)(w:World):PySem.KeyKind prog w Key where
 is:=Vz
 hash:=joA w
 inj:=λv a b ha hb=>by
  rcases jZ ha with⟨i,t,rfl,rfl⟩|⟨x,t,rfl,rfl⟩
  ·rcases jZ hb with⟨j,u,rfl,e⟩|⟨y,u,rfl,e⟩
   ·injection e with e1 _;rw[e1]
   ·exact nomatch e
  ·rcases jZ hb with⟨j,u,rfl,e⟩|⟨y,u,rfl,e⟩
   ·exact nomatch e
   ·injection e with e1 _;rw[e1]
 byValue:=λk v h=>by
  rcases jZ h with⟨i,t,rfl,rfl⟩|⟨x,t,rfl,rfl⟩ <;> rfl
 pyHash:=λhv h=>by
  rcases jZ hv with⟨i,t,rfl,rfl⟩|⟨x,t,rfl,rfl⟩
  ·exact wpAny_pyHash_int h
  ·exact wpAny_pyHash_str h
 eqBool:=λhu hv h=>by
  rcases jZ hu with⟨i,t,rfl,rfl⟩|⟨x,t,rfl,rfl⟩
  ·rcases jZ hv with⟨j,u,rfl,rfl⟩|⟨y,u,rfl,rfl⟩
   ·rw[joz]at h;exact wpAny_eqBool_int h
   ·rw[joy]at h;exact SeqAt.EqAt.int_str i t y u _ _ _ _ h
  ·rcases jZ hv with⟨j,u,rfl,rfl⟩|⟨y,u,rfl,rfl⟩
   ·rw[jox]at h;exact SeqAt.EqAt.str_int x t j u _ _ _ _ h
   ·rw[jow]at h;exact wpAny_eqBool_str h
 «strs»:=λk x t v h=>by
  rcases jZ h with⟨i,u,rfl,e⟩|⟨y,u,rfl,e⟩
  ·exact nomatch e
  ·injection e with e1 _
   subst e1;cases v <;> rfl
theorem jaV (prog:Program)(w:World)(i:Int)(t:Tok):(ye prog w).is (.inl i) (.int i t)=true:=jgi i t
theorem jaU (prog:Program)(w:World)(x:Str)(t:Tok):(ye prog w).is (.inr x) (.str x t)=true:=jgh x t
inductive V where
 |non|bl (b:Bool)|int (i:Int)|str (x:Str)|byt (b:Array UInt8)|flt (b:UInt64)|ref (a:Addr)|ty (n:String)
 deriving DecidableEq
def RelV:V->Value->Prop
 |.non,u=>u=Value.none
 |.bl b,u=>u=Value.bool b
 |.int i,u=>∃t,u=Value.int i t
 |.str x,u=>∃t,u=Value.str x t
 |.byt b,u=>∃t,u=Value.bytes b t
 |.flt b,u=>∃t,u=Value.float b t
 |.ref a,u=>u=Value.ref a
 |.ty n,u=>u=Value.type n
abbrev yg:List V->List Value->Prop:=Paired RelV
theorem yg.length {xs:List V}{us:List Value}(r:yg xs us):xs.length=us.length:=Paired.length r
theorem yg.get:∀{xs:List V}{us:List Value}{i:Nat}{x:V},yg xs us->xs[i]?= some x->∃u,us[i]?= some u/\RelV x u
 |_,_,_,_,.nil,e=>by simp at e
 |_,_,0,_,.cons r _,e=>by simp at e;subst e;exact⟨_,rfl,r⟩
 |_,_,i+1,x,.cons _ t,e=>by
  obtain⟨u,h1,h2⟩:=yg.get (i:=i) (x:=x) t (by simpa using e)
  exact⟨u,by simpa using h1,h2⟩
theorem yg.set {x:V}{u:Value}(r:RelV x u):∀{xs:List V}{us:List Value}(i:Nat),yg xs us->yg (xs.set i x) (us.set i u)
 |_,_,_,.nil=>.nil
 |_,_,0,.cons _ t=>.cons r t
 |_,_,i+1,.cons q t=>.cons q (yg.set r i t)
theorem yg.append {xs ys:List V}{us ws:List Value}(h:yg xs us)(s:yg ys ws):yg (xs++ys) (us++ws):=by
 induction h with
 |nil=>exact s
 |cons r t ih=>exact .cons r ih
theorem yg.take:∀{xs:List V}{us:List Value}(n:Nat),yg xs us->yg (xs.take n) (us.take n)
 |_,_,0,_=>.nil
 |_,_,_+1,.nil=>.nil
 |_,_,n+1,.cons r t=>.cons r (yg.take n t)
theorem yg.drop:∀{xs:List V}{us:List Value}(n:Nat),yg xs us->yg (xs.drop n) (us.drop n)
 |_,_,0,r=>r
 |_,_,_+1,.nil=>.nil
 |_,_,n+1,.cons _ t=>yg.drop n t
theorem yg.none_of:∀{xs:List V}{us:List Value}{i:Nat},yg xs us->xs[i]?= none->us[i]?= none:=λ{xs us i} r e=>by
 have h1:=r.length;have h2:xs.length<=i:=List.getElem?_eq_none_iff.mp e;exact List.getElem?_eq_none_iff.mpr (by omega)
def ux:Option V->Option Value->Prop
 |some v,some u=>RelV v u
 |none,none=>True
 |_,_=>False
def KV {κ:Type}:List (κ×V)->List (κ×Value)->Prop:=Paired λ(p:κ×V) (q:κ×Value)=>p.1=q.1/\RelV p.2 q.2
def kV:Key->V
 |.inl i=>.int i
 |.inr x=>.str x
inductive HO where
  |lst (xs:List V)
  |tup (xs:List V)
  |dK (kvs:List (Key×V))|dT (kvs:List (List Key×V))
  |set (S:Int->Bool) (n:Nat)
  |ins (C dx:Addr) (fs:List (Str×V))
  |own (x:Addr)
  |xd (fs:List (Str×V))
  |met (f x:Addr)
  |rng (lo hi:Int)
  |frz (o:Obj) (u:HO)
  |tbl (ps:Array Value)
  |ext (φ:Heap->Prop)
abbrev Hp:=Addr->Option HO
def upd (H:Hp)(a:Addr)(o:HO):Hp:=λb=>if b=a then some o else H b
theorem jr {H:Hp}{a:Addr}{o:HO}:upd H a o a=some o:=by unfold upd;rw[if_pos rfl]
theorem jk {H:Hp}{a b:Addr}{o:HO}(h:b≠a):upd H a o b=H b:=by unfold upd;rw[if_neg h]
theorem uk {H:Hp}{a:Addr}{o u:HO}:upd (upd H a o) a u=upd H a u:=by
 funext b;unfold upd;split <;> rfl
theorem jib {H:Hp}{a b:Addr}{o u:HO}(h:H a=some o)(h':H b=some u)(d:o≠u):a≠b:=by
 intro e;subst e;rw[h]at h';exact d (Option.some.inj h')
theorem jv {H:Hp}{a b:Addr}{o:HO}(h:H a=some o)(h':H b=none):a≠b:=by
 intro e;subst e;rw[h]at h';cases h'
section
variable (P:Program)(w:World)
def yl (H:Hp)(h:Heap)(a:Addr):HO->Prop
 |.lst xs=>xs.length<=sizeLine/\∃(its:List Value) (n:Nat),yg xs its/\h.get? a=some { cls:=.type "list",data:=.seq its.toArray n }
 |.tup xs=>xs.length<=sizeLine/\∃its:List Value,yg xs its/\IsTup h a its.toArray
 |.dK kvs=>kvs.length<=sizeLine/\(a==sysModules)=false/\∃vs,KV kvs vs/\h.DictOf (ye P w) a vs
 |.dT kvs=>kvs.length<=sizeLine/\(a==sysModules)=false/\∃xs:List (List Key×Addr×Value),
   Paired (λ(p:List Key×V) (q:List Key×Addr×Value)=>p.1=q.1/\H q.2.1=some (.tup (p.1.map kV))/\RelV p.2 q.2.2) kvs xs /\
   ∃o es ep,h.get? a=some o/\o.ExactDict/\o.data= .dict es ep/\es.toList=xs.map (entryOfKey (tupleKind (ye P w)))/\(xs.map (·.1)).Nodup
 |.set S n=>h.SetOf (intKind P w) a S n
 |.ins C dx fs=>H dx=some (.own a)/\fs.length<=1000/\dx≠a/\h.get? a=some (instObj C dx) /\
   ∃mA,h.Ns1 dx mA/\(∀f,ux (fs.lookup f) (mA f))/\PySem.Within mA (fs.map (·.1))
 |.own _=>∃o,h.get? a=some o
 |.xd fs=>∃mA,h.Ns1 a mA/\∀f,ux (fs.lookup f) (mA f)
 |.rng lo hi=>∃t u v,h.get? a=some { cls:=.type "range",data:=.fields #[.int lo t,.int hi u,.int 1 v] }
 |.frz o u=>h.get? a=some o/\yl H h a u
 |.tbl ps=>h.get? a=some { cls:=.none,data:=.fields ps }
 |.met f x=>h.get? a=some (methodObj (.ref f) (.ref x))
 |.ext φ=>φ h/\(∃o,h.get? a=some o)/\∀h1 h2:Heap,φ h1->(∀o,h1.get? a=some o->h2.get? a=some o)->φ h2
def HOk (H:Hp)(h:Heap):Prop:=∀a o,H a=some o->yl P w H h a o
end
section
variable {P:Program}{w:World}{H H':Hp}{h h':Heap}{a:Addr}{o:HO}
theorem yl.lt (x:yl P w H h a o):a<h.objs.size:=by
 cases o with
 |lst xs=>obtain⟨_,_,_,_,e⟩:=x;exact lt_size e
 |tup xs=>obtain⟨_,_,_,p⟩:=x;exact p.lt
 |dK kvs=>obtain⟨_,_,_,_,o,_,_,e,_⟩:=x;exact lt_size e
 |dT kvs=>obtain⟨_,_,_,_,o,_,_,e,_⟩:=x;exact lt_size e
 |set S n=>obtain⟨o,_,_,_,e,_⟩:=x;exact lt_size e
 |ins C dx fs=>obtain⟨_,_,_,e,_⟩:=x;exact lt_size e
 |own y=>obtain⟨_,e⟩:=x;exact lt_size e
 |xd fs=>obtain⟨_,⟨_,_,_,e,_⟩,_⟩:=x;exact lt_size e
 |rng lo hi=>obtain⟨_,_,_,e⟩:=x;exact lt_size e
 |frz ob u=>obtain⟨e,_⟩:=x;exact lt_size e
 |tbl ps=>exact lt_size (show h.get? a=some _ from x)
 |met f y=>exact lt_size (show h.get? a=some _ from x)
 |ext φ=>obtain⟨_,⟨_,e⟩,_⟩:=x;exact lt_size e
theorem Paired.ba {α β:Type}{F G:α->β->Prop}{l₁:List α}{l₂:List β}(h:Paired F l₁ l₂)(f:∀a b,F a b->G a b):Paired G l₁ l₂:=by
 induction h with
 |nil=>exact .nil
 |cons r t ih=>exact .cons (f _ _ r) ih
theorem yl.az (x:yl P w H h a o)(k:∀b u,(b=a\/H b=some (.own a))->h.get? b=some u->h'.get? b=some u)(ho:∀b,H b=some (.own a)->H' b=some (.own a)) (ht:∀b xs,H b=some (.tup xs)->H' b=some (.tup xs)):yl P w H' h' a o:=by
 induction o with
 |lst xs=>obtain⟨z,its,n,r,e⟩:=x;exact⟨z,its,n,r,k _ _ (.inl rfl) e⟩
 |tup xs=>obtain⟨z,its,r,ob,e,c⟩:=x;exact⟨z,its,r,ob,k _ _ (.inl rfl) e,c⟩
 |dK kvs=>obtain⟨z,y,vs,r,ob,es,ep,e,c⟩:=x;exact⟨z,y,vs,r,ob,es,ep,k _ _ (.inl rfl) e,c⟩
 |dT kvs=>
  obtain⟨z,y,xs,r,ob,es,ep,e,c⟩:=x
  exact⟨z,y,xs,Paired.ba r λp q z=>⟨z.1,ht _ _ z.2.1,z.2.2⟩,ob,es,ep,k _ _ (.inl rfl) e,c⟩
 |set S n=>obtain⟨ob,es,ep,t,e,c⟩:=x;exact⟨ob,es,ep,t,k _ _ (.inl rfl) e,c⟩
 |ins C dx fs=>
  obtain⟨d,z,ne,e,mA,⟨od,es,ep,e2,c⟩,r⟩:=x
  exact⟨ho _ d,z,ne,k _ _ (.inl rfl) e,mA,⟨od,es,ep,k _ _ (.inr d) e2,c⟩,r⟩
 |own y=>obtain⟨ob,e⟩:=x;exact⟨ob,k _ _ (.inl rfl) e⟩
 |xd fs=>obtain⟨mA,⟨od,es,ep,e,c⟩,r⟩:=x;exact⟨mA,⟨od,es,ep,k _ _ (.inl rfl) e,c⟩,r⟩
 |rng lo hi=>obtain⟨t,u,v,e⟩:=x;exact⟨t,u,v,k _ _ (.inl rfl) e⟩
 |frz ob u ih=>obtain⟨e,q⟩:=x;exact⟨k _ _ (.inl rfl) e,ih q⟩
 |tbl ps=>
  have e:h.get? a=some { cls:=.none,data:=.fields ps }:=x;show h'.get? a=some { cls:=.none,data:=.fields ps };exact k a _ (.inl rfl) e
 |met f y=>
  have e:h.get? a=some (methodObj (.ref f) (.ref y)):=x;show h'.get? a=some (methodObj (.ref f) (.ref y));exact k a _ (.inl rfl) e
 |ext φ=>obtain⟨p,⟨o,e⟩,st⟩:=x;exact⟨st _ _ p λo q=>k _ _ (.inl rfl) q,⟨o,k _ _ (.inl rfl) e⟩,st⟩
theorem HOk.lt (x:HOk P w H h)(e:H a=some o):a<h.objs.size:=(x a o e).lt
theorem HOk.fresh (x:HOk P w H h)(e:h.objs.size<=a):H a=none:=by
 cases q:H a with
 |none=>rfl
 |some u=>exact absurd (lt_of_lt_of_le (x.lt q) e) (lt_irrefl _)
theorem HOk.kept (x:HOk P w H h)(k:∀b u,h.get? b=some u->h'.get? b=some u):HOk P w H h':=λa o e=>
 (x a o e).az (λb u _ q=>k b u q) (λ_ q=>q) λ_ _ q=>q
theorem HOk.laid (x:HOk P w H h)(k:∀b u,h.get? b=some u->h'.get? b=some u)(hp:h.objs.size<=a)(new:yl P w (upd H a o) h' a o):HOk P w (upd H a o) h':=λb u e=>by
 have hn:=x.fresh hp
 by_cases hb:b=a
 ·subst hb;rw[jr]at e;cases e;exact new
 ·rw[jk hb]at e
  exact(x b u e).az (λc v _ q=>k c v q) (λc q=>by rw[jk (jv q hn)];exact q) λc xs q=>by rw[jk (jv q hn)];exact q
end
def Rd (H:Hp)(a:Addr)(u:HO):Prop:=H a=some u\/∃o,H a=some (.frz o u)
theorem Rd.ok {P:Program}{w:World}{H:Hp}{h:Heap}{a:Addr}{u:HO}(r:Rd H a u)(x:HOk P w H h):yl P w H h a u:=by
 rcases r with r|⟨o,r⟩
 ·exact x a u r
 ·obtain⟨_,q⟩:=x a _ r
  exact q
def Mut:Option HO->Prop
 |some (.lst _)=>True
 |some (.dK _)=>True
 |some (.dT _)=>True
 |some (.set _ _)=>True
 |some (.ins _ _ _)=>True
 |some (.ext _)=>True
 |_=>False
section
variable {P:Program}{w:World}{H:Hp}{h h':Heap}{x e:Addr}{o':HO}
theorem HOk.write (ok:HOk P w H h)(mu:Mut (H x))(he:e=x\/H e=some (.own x))(k:∀b u,b≠e->h.get? b=some u->h'.get? b=some u)(iX:∃u,h'.get? e=some u)(new:yl P w (upd H x o') h' x o'):HOk P w (upd H x o') h':=λb u q=>by
 have ik:∀c y,H c=some (.own y)->c≠x:=λc y r z=>by subst z;rw[r]at mu;exact mu
 have ntup:∀c xs,H c=some (.tup xs)->c≠x:=λc xs r z=>by subst z;rw[r]at mu;exact mu
 by_cases hb:b=x
 ·subst hb;rw[jr]at q;cases q;exact new
 ·rw[jk hb]at q
  by_cases iO:b=e
  ·have q':H b=some (.own x):=by
    rcases he with z|z
    ·exact absurd (iO.trans z) hb
    ·rw[iO];exact z
   rw[q]at q';cases q'
   obtain⟨v,hv⟩:=iX
   exact⟨v,by rw[iO];exact hv⟩
  ·refine(ok b u q).az (λc v hc r=>k c v ?_ r) (λc r=>by rw[jk (ik c b r)];exact r) λc xs r=>by rw[jk (ntup c xs r)];exact r
   rcases hc with rfl|hc
   ·exact iO
   ·rintro rfl;rcases he with z|z
    ·exact ik c b hc z
    ·rw[hc]at z;cases z;exact hb rfl
end
structure Un (fs ex:List Addr)(H H':Hp)(h h':Heap):Prop where
 keep:∀b o,h.get? b=some o->H b=none->b∉fs->b∉ex->h'.get? b=some o
 slot:∀b o,h.get? b=some o->H b=none->b∈fs->b∉ex->∃sl,h'.get? b=some { o with slots:=sl }
 free:∀b o,h.get? b=some o->H b=none->b∉ex->H' b=none
 there:∀b o,h.get? b=some o->b∉ex->∃o',h'.get? b=some o'
 tups:∀b xs,H b=some (.tup xs)->H' b=some (.tup xs)
 frzs:∀b o u,H b=some (.frz o u)->H' b=some (.frz o u)
 tbls:∀b ps,H b=some (.tbl ps)->∃more,H' b=some (.tbl (ps++more))
section
variable {fs ex:List Addr}{H H1 H2:Hp}{h h1 h2 h':Heap}{a x e:Addr}{o:HO}
theorem Un.any (u:Un fs ex H H1 h h1){b:Addr}{ob:Obj}(q:h.get? b=some ob)(n:H b=none)(hx:b∉ex):∃sl,h1.get? b=some { ob with slots:=sl }:=by
 by_cases hb:b∈fs
 ·exact u.slot b ob q n hb hx
 ·exact⟨ob.slots,u.keep b ob q n hb hx⟩
theorem Un.trans (a:Un fs ex H H1 h h1)(b:Un fs ex H1 H2 h1 h2):Un fs ex H H2 h h2 where
 keep:=λc ob q n hc hx=>b.keep c ob (a.keep c ob q n hc hx) (a.free c ob q n hx) hc hx
 slot:=λc ob q n hc hx=>by
  obtain⟨sl,e1⟩:=a.slot c ob q n hc hx
  obtain⟨j4,e2⟩:=b.slot c _ e1 (a.free c ob q n hx) hc hx
  exact⟨j4,e2⟩
 free:=λc ob q n hx=>by
  obtain⟨o',e1⟩:=a.there c ob q hx
  exact b.free c o' e1 (a.free c ob q n hx) hx
 there:=λc ob q hx=>by
  obtain⟨o',e1⟩:=a.there c ob q hx
  exact b.there c o' e1 hx
 tups:=λc xs q=>b.tups c xs (a.tups c xs q)
 frzs:=λc ob xs q=>b.frzs c ob xs (a.frzs c ob xs q)
 tbls:=λc ps q=>by
  obtain⟨m1,e1⟩:=a.tbls c ps q
  obtain⟨m2,e2⟩:=b.tbls c _ e1
  exact⟨m1++m2,by rw[e2,Array.append_assoc]⟩
theorem Un.kept (k:∀b u,h.get? b=some u->h'.get? b=some u):Un fs ex H H h h':=
 ⟨λb ob q _ _ _=>k b ob q,λb ob q _ _ _=>⟨ob.slots,k b ob q⟩,λ_ _ _ n _=>n,λb ob q _=>⟨ob,k b ob q⟩,λ_ _ q=>q,λ_ _ _ q=>q,λ_ ps q=>⟨#[],by rw[q];simp⟩⟩
theorem Un.refl:Un fs ex H H h h:=Un.kept λ_ _ q=>q
theorem Un.laid (k:∀b u,h.get? b=some u->h'.get? b=some u)(hp:h.objs.size<=a)(hn:H a=none):Un fs ex H (upd H a o) h h' where
 keep:=λb u q _ _ _=>k b u q
 slot:=λb u q _ _ _=>⟨u.slots,k b u q⟩
 free:=λb u q n _=>by rw[jk (ne_of_lt (lt_of_lt_of_le (lt_size q) hp))];exact n
 there:=λb u q _=>⟨u,k b u q⟩
 tups:=λb xs q=>by rw[jk (jv q hn)];exact q
 frzs:=λb u xs q=>by rw[jk (jv q hn)];exact q
 tbls:=λb ps q=>⟨#[],by rw[jk (jv q hn),q];simp⟩
theorem Un.write (mu:Mut (H x))(he:e=x\/H e=some (.own x))(k:∀b u,b≠e->h.get? b=some u->h'.get? b=some u)(iX:∃u,h'.get? e=some u):Un fs ex H (upd H x o) h h':=by
 have hx:∀b,H b=none->b≠x:=λb n z=>by subst z;rw[n]at mu;exact mu
 have hb:∀b,H b=none->b≠e:=λb n z=>by
  subst z;rcases he with r|r
  ·exact hx b n r
  ·rw[n]at r;cases r
 have hm:∀b u,H b=some u->¬ Mut (some u)->b≠x:=λb u q nm z=>by subst z;rw[q]at mu;exact nm mu
 refine⟨λb u q n _ _=>k b u (hb b n) q,λb u q n _ _=>⟨u.slots,k b u (hb b n) q⟩,λb u q n _=>by rw[jk (hx b n)];exact n,λb u q _=>?_,
  λb xs q=>by rw[jk (hm b _ q λz=>z)];exact q,λb u xs q=>by rw[jk (hm b _ q λz=>z)];exact q,λb ps q=>⟨#[],by rw[jk (hm b _ q λz=>z),q];simp⟩⟩
 by_cases iO:b=e
 ·subst iO;exact iX
 ·exact⟨u,k b u iO q⟩
end
def trk (h:Heap)(H:Hp):List Addr:=(List.range h.objs.size).filter λa=>(H a).isSome
def UK (h:Heap)(H:Hp):Heap:=PySem.W.hideAll h (trk h H)
theorem jgl (h:Heap)(H:Hp):(UK h H).objs.size=h.objs.size:=PySem.W.hideAll_size _ _
theorem jiw {h:Heap}{H:Hp}{b:Addr}{o:Obj}(e:h.get? b=some o)(n:H b=none):(UK h H).get? b=some o:=
 PySem.W.hideAll_get _ e λhm=>by
  have q:(H b).isSome=true:=(List.mem_filter.mp hm).2;rw[n]at q;simp at q
theorem jkG {h:Heap}{H:Hp}{b:Addr}{o:Obj}(e:(UK h H).get? b=some o):h.get? b=some o/\H b=none:=by
 have e':h.get? b=some o:=PySem.W.of_hideAll (trk h H) e
 refine⟨e',?_⟩
 cases q:H b with
 |none=>rfl
 |some x=>
  have hm:b∈trk h H:=List.mem_filter.mpr ⟨List.mem_range.mpr (lt_size e'),by simp[q]⟩;have z:(UK h H).get? b=none:=PySem.W.hideAll_none (trk h H) hm;rw[z]at e;cases e
def jlx (g h:Heap)(L:Addr):List (Addr×Obj):=(List.range h.objs.size).filterMap λa=>if a=L\/(g.get? a).isSome=true then none else(h.get? a).map λo=>(a,o)
def rest (g h:Heap)(L d:Addr):List (Addr×Obj):=(jlx g h L).filter λp=>decide (p.1≠d)
structure Mod (K:Frag)(mg:tM0)(base:Heap):Prop where
 kin:K.In base
 glob:base.Ns mainGlobals mg
 blt:∃mb,base.Ns builtinsNs mb/\∀x:Str,x≠"__name__"->mb x=bootBuiltins x
 nolimit:base.NoLimit
structure Cx where
 prog:Program
 w:World
 K:Frag
 mg:Str->Option Value
 base:Heap
 A:Around
 N:List Str
 s₀:Shared
 H₀:Hp
 env:Env
 outer:List Env
 stack:List Env
 ex:List Addr
 fn:Str->Bool
 calm:Bool
 pn:List (Addr×Obj)
 xe:Value->Shared->Prop
def frs (l:List Env):List Addr:=l.filterMap (·.frame)
abbrev Cx.fs (X:Cx):List Addr:=frs X.outer
def Vis (sc:Scope)(x:Str):Prop:=sc.names.lookup x=some .local\/sc.names.lookup x=some .cell\/sc.names.lookup x=some .free
def Loc (sc:Scope)(x:Str):Prop:=sc.names.lookup x=some .local\/sc.names.lookup x=some .cell
def Look (env:Env)(h:Heap)(m:tM0)(x:Str)(u:Value):Prop:=
 (env.kindOf x=some .local/\m x=some u)\/((env.kindOf x=some .cell\/env.kindOf x=some .free)/\∃c,env.cells.lookup x=some c/\h.IsCell c (some u))
structure Cx.Ok (X:Cx):Prop where
 mod:Mod X.K X.mg X.base
 kind:X.env.scope.kind= .function
 glob:X.env.globals=mainGlobals
 blt:X.env.builtins=builtinsNs
 above:X.s₀.heap.objs.size<=X.env.locals
 inj:∀x y c,X.env.cells.lookup x=some c->X.env.cells.lookup y=some c->x=y
 has:∀x,(X.env.kindOf x=some .cell\/X.env.kindOf x=some .free)->∃c,X.env.cells.lookup x=some c
 cab:∀x c,X.fn x=true->X.env.cells.lookup x=some c->X.s₀.heap.objs.size<=c
 hd:X.calm=true->X.A.handled=none
 frames:X.A.frames=some X.stack
 stk:X.stack=X.outer\/(X.stack=X.env::X.outer/\X.env.frame=some X.env.locals)
 exf:∀b∈X.ex,b≠X.env.locals/\∀x c,X.env.cells.lookup x=some c->c≠b
 bs:∀b o,X.base.get? b=some o->X.s₀.heap.get? b=some o/\X.H₀ b=none
 bsz:X.base.objs.size<=X.s₀.heap.objs.size
 noex:∀b o,X.base.get? b=some o->b∉X.ex
 exfs:∀b∈X.ex,b∉X.fs
 funs:X.s₀.heap.FunFrames X.base X.outer
 frf:∀b∈X.fs,X.H₀ b=none
structure Inv (X:Cx)(bF:tP0)(σ:List (Option V))(H:Hp)(s:Shared):Prop where
 ok:X.Ok
 os:s.os=X.s₀.os
 bare:AllBare s.gens
 base:Un X.fs X.ex X.H₀ H X.s₀.heap s.heap
 loc:∃m,s.heap.Ns X.env.locals m/\∀(i:Nat) (x:Str) (v:V),X.N[i]?= some x->σ[i]?= some (some v)->Vis X.env.scope x->∃u,RelV v u/\Look X.env s.heap m x u
 cell:∀x c,X.env.cells.lookup x=some c->∃v,s.heap.IsCell c v
 free:H X.env.locals=none
 freeC:∀x c,X.env.cells.lookup x=some c->H c=none
 pin:∀p∈X.pn++bF,s.heap.get? p.1=some p.2/\H p.1=none/\p.1≠X.env.locals/\p.1∉X.fs/\∀v,p.2.data≠.cell v
 hok:HOk X.prog X.w H s.heap
 len:σ.length=X.N.length
section
variable {X:Cx}{bF:tP0}{σ:List (Option V)}{H H':Hp}{s:Shared}{h':Heap}
theorem Cx.Ok.bj (ok:X.Ok){b:Addr}{o:Obj}(e:X.base.get? b=some o):b∉X.fs:=λhb=>by
 have:=(ok.funs.mem hb).1
 rw[e]at this;cases this
theorem Inv.bs (I:Inv X bF σ H s):∀b o,X.base.get? b=some o->s.heap.get? b=some o/\H b=none:=λb o e=>
 ⟨I.base.keep b o (I.ok.bs b o e).1 (I.ok.bs b o e).2 (I.ok.bj e) (I.ok.noex b o e),I.base.free b o (I.ok.bs b o e).1 (I.ok.bs b o e).2 (I.ok.noex b o e)⟩
theorem Inv.bk (I:Inv X bF σ H s):∀b o,X.base.get? b=some o->s.heap.get? b=some o:=λb o e=>(I.bs b o e).1
theorem Inv.mod (I:Inv X bF σ H s):Mod X.K X.mg X.base:=I.ok.mod
theorem Inv.aI (I:Inv X bF σ H s):X.K.In s.heap:=I.ok.mod.kin.keeps I.bk
theorem Inv.lt (I:Inv X bF σ H s):X.env.locals<s.heap.objs.size:=let ⟨_,hn,_⟩:=I.loc;hn.lt
theorem Inv.sz (I:Inv X bF σ H s):X.s₀.heap.objs.size<=s.heap.objs.size:=le_trans I.ok.above (le_of_lt I.lt)
theorem Inv.bh (I:Inv X bF σ H s){a:Addr}(h:s.heap.objs.size<=a):a∉X.fs:=λhb=>by
 obtain⟨_,o,ho,_⟩:=I.ok.funs.mem hb
 exact absurd (lt_of_lt_of_le (lt_size ho) (le_trans I.sz h)) (lt_irrefl _)
theorem Inv.cne (I:Inv X bF σ H s):∀x c,X.env.cells.lookup x=some c->c≠X.env.locals:=λx c e z=>by
 obtain⟨v,o,ho,hd⟩:=I.cell x c e
 obtain⟨m,⟨o',es,ep,dj,fH,_⟩,_⟩:=I.loc
 rw[z,dj]at ho;cases ho;rw[fH]at hd;cases hd
theorem Inv.funs (I:Inv X bF σ H s):s.heap.FunFrames X.base X.outer:=by
 have all:∀(l:List Env),(∀b∈frs l,b∈X.fs)->X.s₀.heap.FunFrames X.base l->s.heap.FunFrames X.base l:=by
  intro l
  induction l with
  |nil=>intro _ _;trivial
  |cons env r ih=>
   intro hs hl
   obtain⟨hk,⟨L,o,hf,hn,ho,hd⟩,hr⟩:=hl
   have hL:L∈X.fs:=hs L (by unfold frs;rw[filterMap_cons,hf];exact mem_cons_self)
   obtain⟨sl,e⟩:=I.base.slot L o ho (I.ok.frf L hL) hL λz=>I.ok.exfs L z hL
   exact⟨hk,⟨L,_,hf,hn,e,hd⟩,ih (λb hb=>hs b (by unfold frs;rw[filterMap_cons,hf];exact mem_cons_of_mem _ hb)) hr⟩
 exact all X.outer (λ_ hb=>hb) I.ok.funs
theorem Inv.stack (I:Inv X bF σ H s):s.heap.FunFrames X.base X.stack:=by
 rcases I.ok.stk with e|⟨e,hf⟩
 ·rw[e];exact I.funs
 ·rw[e]
  obtain⟨m,hn,_⟩:=I.loc
  refine .cons (by rw[I.ok.kind];decide) hf hn ?_ I.funs;exact Heap.get?_none_of_le (le_trans I.ok.bsz I.ok.above)
theorem Inv.aw (I:Inv X bF σ H s):∀b∈frs X.stack,b∈X.env.locals::X.fs:=λb hb=>by
 rcases I.ok.stk with e|⟨e,hf⟩
 ·rw[e]at hb;exact mem_cons_of_mem _ hb
 ·rw[e]at hb;unfold frs at hb;rw[filterMap_cons,hf]at hb;exact hb
theorem Inv.aJ (I:Inv X bF σ H s):∀b∈frs X.stack,H b=none:=λb hb=>by
 rcases List.mem_cons.mp (I.aw b hb)with e|hb
 ·rw[e];exact I.free
 ·obtain⟨_,o,ho,_⟩:=I.ok.funs.mem hb
  exact I.base.free b o ho (I.ok.frf b hb) λz=>I.ok.exfs b z hb
theorem Inv.step {g':Array GenState}{t':Nat}{d':Drawn}{ch:List Addr}(I:Inv X bF σ H s)(gO:∀b∈ch,(b∈X.ex\/X.s₀.heap.objs.size<=b)/\b≠X.env.locals/\(∀x c,X.env.cells.lookup x=some c->c≠b)/\∀p∈X.pn++bF,p.1≠b)(keep:∀b o,b≠X.env.locals->b∉X.fs->b∉ch->s.heap.get? b=some o->H b=none->h'.get? b=some o)(slot:∀b o,b≠X.env.locals->b∈X.fs->b∉ch->s.heap.get? b=some o->H b=none->∃sl,h'.get? b=some { o with slots:=sl }) (free:∀b o,b∉ch->s.heap.get? b=some o->H b=none->H' b=none)(there:∀b o,b∉ch->s.heap.get? b=some o->∃o',h'.get? b=some o')(tups:∀b xs,H b=some (.tup xs)->H' b=some (.tup xs)) (frzs:∀b o u,H b=some (.frz o u)->H' b=some (.frz o u)) (tbls:∀b ps,H b=some (.tbl ps)->∃more,H' b=some (.tbl (ps++more)))(ns:∀m,s.heap.Ns X.env.locals m->h'.Ns X.env.locals m) (hok:HOk X.prog X.w H' h') (hg:AllBare g') :
  Inv X bF σ H' { s with heap:=h',gens:=g',drawn:=d',toks:=t' }:=by
 have neL:∀b o,X.s₀.heap.get? b=some o->b≠X.env.locals:=λb o e=>ne_of_lt (lt_of_lt_of_le (lt_size e) I.ok.above);have kW:∀b o,X.s₀.heap.get? b=some o->b∉X.ex->b∉ch:=λb o e hx hb=>by
  rcases(gO b hb).1 with z|z
  ·exact hx z
  ·exact absurd (lt_of_lt_of_le (lt_size e) z) (lt_irrefl _)
 have cellK:∀x c,X.env.cells.lookup x=some c->∀v,s.heap.IsCell c v->h'.IsCell c v:=λx c e v bH=>by
  obtain⟨o,ho,hd⟩:=bH
  have ke:c∉ch:=λz=>(gO c z).2.2.1 x c e rfl
  by_cases hc:c∈X.fs
  ·obtain⟨sl,q⟩:=slot c o (I.cne x c e) hc ke ho (I.freeC x c e)
   exact⟨_,q,hd⟩
  ·exact⟨o,keep c o (I.cne x c e) hc ke ho (I.freeC x c e),hd⟩
 refine⟨I.ok,I.os,hg,⟨λb o e n hb hx=>?_,λb o e n hb hx=>?_,λb o e n hx=>?_,λb o e hx=>?_,λb xs e=>tups b xs (I.base.tups b xs e),λb o xs e=>frzs b o xs (I.base.frzs b o xs e),λb ps e=>?_⟩,?_,λx c e=>?_,?_,λx c e=>?_,λp hp=>?_,hok,I.len⟩
 ·exact keep b o (neL b o e) hb (kW b o e hx) (I.base.keep b o e n hb hx) (I.base.free b o e n hx)
 ·obtain⟨sl,e1⟩:=I.base.slot b o e n hb hx
  obtain⟨j4,e2⟩:=slot b _ (neL b o e) hb (kW b o e hx) e1 (I.base.free b o e n hx)
  exact⟨j4,e2⟩
 ·obtain⟨o',e1⟩:=I.base.there b o e hx
  exact free b o' (kW b o e hx) e1 (I.base.free b o e n hx)
 ·obtain⟨o',e1⟩:=I.base.there b o e hx
  exact there b o' (kW b o e hx) e1
 ·obtain⟨m1,e1⟩:=I.base.tbls b ps e
  obtain⟨m2,e2⟩:=tbls b _ e1
  exact⟨m1++m2,by rw[e2,Array.append_assoc]⟩
 ·obtain⟨m,hn,hl⟩:=I.loc
  refine⟨m,ns m hn,λi x v e1 e2 e3=>?_⟩
  obtain⟨u,r,l⟩:=hl i x v e1 e2 e3
  refine⟨u,r,?_⟩
  rcases l with l|⟨k,c,e,z⟩
  ·exact .inl l
  ·exact .inr ⟨k,c,e,cellK x c e _ z⟩
 ·obtain⟨v,z⟩:=I.cell x c e
  exact⟨v,cellK x c e v z⟩
 ·obtain⟨m,⟨o,_,_,ho,_⟩,_⟩:=I.loc
  exact free _ o (λz=>(gO _ z).2.1 rfl) ho I.free
 ·obtain⟨v,o,ho,hd⟩:=I.cell x c e
  exact free c o (λz=>(gO c z).2.2.1 x c e rfl) ho (I.freeC x c e)
 ·obtain⟨e,n,ne,nf,d⟩:=I.pin p hp
  have ke:p.1∉ch:=λz=>(gO p.1 z).2.2.2 p hp rfl
  exact⟨keep p.1 p.2 ne nf ke e n,free p.1 p.2 ke e n,ne,nf,d⟩
theorem Inv.un {t':Nat}(I:Inv X bF σ H s)(u:Un X.fs [] H H' s.heap h')(hok:HOk X.prog X.w H' h'):Inv X bF σ H' { s with heap:=h',toks:=t' }:=by
 obtain⟨m,⟨o,es,ep,ho,r⟩,_⟩:=id I.loc
 obtain⟨sl,hL⟩:=u.any ho I.free (by simp)
 exact I.step (g':=s.gens) (d':=s.drawn) (ch:=[]) (λ_ z=>nomatch z) (λb o _ hb _ e n=>u.keep b o e n hb (by simp)) (λb o _ hb _ e n=>u.slot b o e n hb (by simp)) (λb o _ e n=>u.free b o e n (by simp)) (λb o _ e=>u.there b o e (by simp)) u.tups u.frzs u.tbls (λm' hm=>by
  obtain⟨o',dE,kI,dj,r'⟩:=hm
  rw[ho]at dj;cases dj
  exact⟨_,dE,kI,hL,r'⟩) hok I.bare
theorem Inv.call {g':Array GenState}{t':Nat}{d':Drawn}{ch:List Addr}(I:Inv X bF σ H s)(u:Un (frs X.stack) ch H H' s.heap h')(hok:HOk X.prog X.w H' h')(hg:AllBare g')(gO:∀b∈ch,(b∈X.ex\/X.s₀.heap.objs.size<=b)/\b≠X.env.locals/\(∀x c,X.env.cells.lookup x=some c->c≠b)/\∀p∈X.pn++bF,p.1≠b) :
  Inv X bF σ H' { s with heap:=h',gens:=g',drawn:=d',toks:=t' }:=by
 obtain⟨m,⟨o,es,ep,ho,r⟩,_⟩:=id I.loc
 obtain⟨sl,hL⟩:=u.any ho I.free λz=>(gO _ z).2.1 rfl
 exact I.step (ch:=ch) gO (λb o hL hb hc e n=>u.keep b o e n (λz=>(List.mem_cons.mp (I.aw b z)).elim hL hb) hc) (λb o _ _ hc e n=>u.any e n hc) (λb o hc e n=>u.free b o e n hc) (λb o hc e=>u.there b o e hc) u.tups u.frzs u.tbls (λm' hm=>by
  obtain⟨o',dE,kI,dj,r'⟩:=hm
  rw[ho]at dj;cases dj
  exact⟨_,dE,kI,hL,r'⟩) hok hg
theorem Inv.turned {t':Nat}{it:Addr}(I:Inv X bF σ H s)(k:∀b o,b≠it->s.heap.get? b=some o->h'.get? b=some o)(hn:H it=none)(hL:it≠X.env.locals)(h1:it∈X.ex\/X.s₀.heap.objs.size<=it) (h2:∀x c,X.env.cells.lookup x=some c->c≠it) (h3:∀p∈X.pn++bF,p.1≠it):Inv X bF σ H { s with heap:=h',toks:=t' }:=by
 have kc:∀b u,H b=some u->b≠it:=λb u e z=>by rw[z,hn]at e;cases e
 refine I.step (g':=s.gens) (d':=s.drawn) (ch:=[it]) (λb hb=>?_) (λb o _ _ hc e _=>k b o (λz=>hc (by simp[z])) e) (λb o _ _ hc e _=>⟨o.slots,k b o (λz=>hc (by simp[z])) e⟩) (λ_ _ _ _ n=>n)
  (λb o hc e=>⟨o,k b o (λz=>hc (by simp[z])) e⟩) (λ_ _ e=>e) (λ_ _ _ e=>e) (λb ps e=>⟨#[],by rw[e];simp⟩) (λm hm=>?_) (λb u e=>?_) I.bare
 ·have e:b=it:=by simpa using hb
  subst e
  exact⟨h1,hL,h2,h3⟩
 ·obtain⟨o,es,ep,ho,r⟩:=hm
  exact⟨o,es,ep,k _ o (Ne.symm hL) ho,r⟩
 ·refine(I.hok b u e).az (λc v hc q=>k c v ?_ q) (λ_ q=>q) λ_ _ q=>q
  rcases hc with z|z
  ·rw[z];exact kc b u e
  ·exact kc c _ z
theorem Inv.tok (I:Inv X bF σ H s)(t:Nat):Inv X bF σ H { s with toks:=t }:=I.un (h':=s.heap) (t':=t) Un.refl I.hok
theorem Inv.kept {t':Nat}(I:Inv X bF σ H s)(k:∀b u,s.heap.get? b=some u->h'.get? b=some u):Inv X bF σ H { s with heap:=h',toks:=t' }:=I.un (Un.kept k) (I.hok.kept k)
theorem Inv.laid {a:Addr}{o:HO}{t':Nat}(I:Inv X bF σ H s)(k:∀b u,s.heap.get? b=some u->h'.get? b=some u)(hp:s.heap.objs.size<=a)(new:yl X.prog X.w (upd H a o) h' a o) :
  Inv X bF σ (upd H a o) { s with heap:=h',toks:=t' }:=I.un (Un.laid k hp (I.hok.fresh hp)) (I.hok.laid k hp new)
theorem Inv.write {x e:Addr}{o:HO}{t':Nat}(I:Inv X bF σ H s)(mu:Mut (H x))(he:e=x\/H e=some (.own x))(k:∀b u,b≠e->s.heap.get? b=some u->h'.get? b=some u)(iX:∃u,h'.get? e=some u)(new:yl X.prog X.w (upd H x o) h' x o):Inv X bF σ (upd H x o) { s with heap:=h',toks:=t' }:=I.un (Un.write mu he k iX) (I.hok.write mu he k iX new)
theorem Inv.weak {σ':List (Option V)}(I:Inv X bF σ H s)(hl:σ'.length=σ.length)(w:∀(i:Nat) v,σ'[i]?= some (some v)->σ[i]?= some (some v)):Inv X bF σ' H s:=
 ⟨I.ok,I.os,I.bare,I.base,let ⟨m,hn,d8⟩:=I.loc;⟨m,hn,λi x v e1 e2 e3=>d8 i x v e1 (w i v e2) e3⟩,I.cell,I.free,I.freeC,I.pin,I.hok,hl.trans I.len⟩
theorem Inv.aL {pins':tP0}(I:Inv X bF σ H s)(h:∀p∈pins',s.heap.get? p.1=some p.2/\H p.1=none/\p.1≠X.env.locals/\p.1∉X.fs/\∀v,p.2.data≠.cell v):Inv X pins' σ H s:=
 ⟨I.ok,I.os,I.bare,I.base,I.loc,I.cell,I.free,I.freeC,λp hp=>(List.mem_append.mp hp).elim (λz=>I.pin p (List.mem_append_left _ z)) (h p),I.hok,I.len⟩
theorem jaS {N:List Str}(hN:N.Nodup){i j:Nat}{x:Str}(a:N[i]?= some x)(b:N[j]?= some x):i=j:=by
 obtain⟨h1,e1⟩:=List.getElem?_eq_some_iff.mp a
 obtain⟨h2,e2⟩:=List.getElem?_eq_some_iff.mp b
 exact(List.getElem_inj hN).mp (e1.trans e2.symm)
theorem Vo {M:Model}{A:Around}{E:tE0}{i:Nat}{x:Str}{v:V}{u:Value}{Q:Unit->Shared->Prop}(I:Inv X bF σ H s)(hN:X.N.Nodup)(hi:X.N[i]?= some x)(hx:Loc X.env.scope x)(r:RelV v u)(h:∀s',Inv X bF (σ.set i (some v)) H s'->(∃a,SameBut a s.heap s'.heap/\(a=X.env.locals\/X.env.cells.lookup x=some a))->Q () s') (hf:X.fn x=true\/X.env.scope.names.lookup x=some .local:=by first|exact .inl rfl|exact .inr rfl|assumption):wpAny M A (storeName X.env x u) Q E s:=by
 obtain⟨m,hn,hl⟩:=id I.loc
 have hcls:(X.env.scope.kind==.class || (X.env.scope.kind==.module && X.env.locals != X.env.globals))=false:=by rw[I.ok.kind];rfl
 have hiσ:i < σ.length:=by rw[I.len];exact(List.getElem?_eq_some_iff.mp hi).1
 have cne:=I.cne;have dR:∀{a:Addr}{h':Heap},(∃o,s.heap.get? a=some o/\H a=none)->SameBut a s.heap h'->HOk X.prog X.w H h':=λ{a h'} ha hs b ob e=>by
  obtain⟨_,_,dn⟩:=ha
  refine(I.hok b ob e).az (λc w' hc q=>(hs.2 c ?_).trans q) (λ_ q=>q) λ_ _ q=>q
  rintro rfl;rcases hc with rfl|hc
  ·rw[dn]at e;cases e
  ·rw[dn]at hc;cases hc
 rcases hx with hk|hk
 ·refine wpAny_storeName_local hk hn (λh' hn' hs=>?_) hcls
  obtain⟨oL,_,_,hoL,_⟩:=id hn
  refine h _ ⟨I.ok,I.os,I.bare,⟨λb o e n hb hx=>?_,λb o e n hb hx=>?_,I.base.free,λb o e hx=>?_,I.base.tups,I.base.frzs,I.base.tbls⟩,⟨_,hn',λj y v' e1 e2 e3=>?_⟩,λy c e=>?_,I.free,I.freeC,λp hp=>?_,dR ⟨oL,hoL,I.free⟩ hs,by simpa using I.len⟩ ⟨_,hs,.inl rfl⟩
  ·exact(hs.2 b (ne_of_lt (lt_of_lt_of_le (lt_size e) I.ok.above))).trans (I.base.keep b o e n hb hx)
  ·obtain⟨sl,e1⟩:=I.base.slot b o e n hb hx
   exact⟨sl,(hs.2 b (ne_of_lt (lt_of_lt_of_le (lt_size e) I.ok.above))).trans e1⟩
  ·obtain⟨o',e1⟩:=I.base.there b o e hx
   exact⟨o',(hs.2 b (ne_of_lt (lt_of_lt_of_le (lt_size e) I.ok.above))).trans e1⟩
  ·by_cases hj:j=i
   ·subst hj;rw[hi]at e1;cases e1;rw[getElem?_set_self hiσ]at e2;cases e2
    exact⟨u,r,.inl ⟨hk,by simp⟩⟩
   ·rw[getElem?_set_ne (Ne.symm hj)]at e2
    obtain⟨u',r',q⟩:=hl j y v' e1 e2 e3
    refine⟨u',r',?_⟩
    rcases q with⟨k,e⟩|⟨k,c,e,z⟩
    ·refine .inl ⟨k,?_⟩
     have:y≠x:=λe=>hj (jaS hN e1 (e ▸ hi))
     simp[this,e]
    ·exact .inr ⟨k,c,e,z.sameBut hs (cne y c e)⟩
  ·obtain⟨w',z⟩:=I.cell y c e
   exact⟨w',z.sameBut hs (cne y c e)⟩
  ·obtain⟨e,n,ne,nf,d⟩:=I.pin p hp
   exact⟨(hs.2 p.1 ne).trans e,n,ne,nf,d⟩
 ·have lZ:X.fn x=true:=by
   rcases hf with z|z
   ·exact z
   ·rw[z]at hk;cases hk
  obtain⟨c,hc⟩:=I.ok.has x (.inl hk)
  obtain⟨w',z⟩:=I.cell x c hc
  refine wpAny_storeName_cell I.ok.kind hk hc z (λh' fw hs=>?_)
  obtain⟨oc,hoc,hocd⟩:=id z
  refine h { s with heap:=h' } ⟨I.ok,I.os,I.bare,⟨λb o e n hb hx=>?_,λb o e n hb hx=>?_,I.base.free,λb o e hx=>?_,I.base.tups,I.base.frzs,I.base.tbls⟩,⟨m,hn.sameBut hs (Ne.symm (cne x c hc)),λj y v' e1 e2 e3=>?_⟩,λy c' e=>?_,I.free,I.freeC,λp hp=>?_,dR ⟨oc,hoc,I.freeC x c hc⟩ hs,by simpa using I.len⟩ ⟨c,hs,.inr hc⟩
  ·exact(hs.2 b (ne_of_lt (lt_of_lt_of_le (lt_size e) (I.ok.cab x c lZ hc)))).trans (I.base.keep b o e n hb hx)
  ·obtain⟨sl,e1⟩:=I.base.slot b o e n hb hx
   exact⟨sl,(hs.2 b (ne_of_lt (lt_of_lt_of_le (lt_size e) (I.ok.cab x c lZ hc)))).trans e1⟩
  ·obtain⟨o',e1⟩:=I.base.there b o e hx
   exact⟨o',(hs.2 b (ne_of_lt (lt_of_lt_of_le (lt_size e) (I.ok.cab x c lZ hc)))).trans e1⟩
  ·by_cases hj:j=i
   ·subst hj;rw[hi]at e1;cases e1;rw[getElem?_set_self hiσ]at e2;cases e2
    exact⟨u,r,.inr ⟨.inl hk,c,hc,fw⟩⟩
   ·rw[getElem?_set_ne (Ne.symm hj)]at e2
    obtain⟨u',r',q⟩:=hl j y v' e1 e2 e3
    refine⟨u',r',?_⟩
    rcases q with q|⟨k,c',e,z'⟩
    ·exact .inl q
    ·refine .inr ⟨k,c',e,z'.sameBut hs ?_⟩;rintro rfl;exact hj (jaS hN e1 (I.ok.inj _ _ _ e hc ▸ hi))
  ·by_cases hcc:c'=c
   ·subst hcc;exact⟨_,fw⟩
   ·obtain⟨w2,z2⟩:=I.cell y c' e
    exact⟨w2,z2.sameBut hs hcc⟩
  ·obtain⟨e,n,ne,nf,d⟩:=I.pin p hp
   refine⟨(hs.2 p.1 ?_).trans e,n,ne,nf,d⟩
   intro q;rw[q,hoc]at e;have q':oc=p.2:=Option.some.inj e;exact d w' (by rw[<-q'];exact hocd)
theorem jaq {M:Model}{A:Around}{E:tE0}{i:Nat}{x:Str}{v:V}{u:Value}{Q:Unit->Shared->Prop}(I:Inv X bF σ H s)(hN:X.N.Nodup)(hi:X.N[i]?= some x)(hx:Loc X.env.scope x)(r:RelV v u)(h:∀s',Inv X bF (σ.set i (some v)) H s'->Q () s') (hf:X.fn x=true\/X.env.scope.names.lookup x=some .local:=by first|exact .inl rfl|exact .inr rfl|assumption):wpAny M A (storeName X.env x u) Q E s:=
 Vo I hN hi hx r (λs' I' _=>h s' I') hf
theorem Inv.aR {s':Shared}{ch:List Addr}(I:Inv X bF σ H s)(ho:s'.os=s.os)(u:Un (frs X.stack) ch H H' s.heap s'.heap)(hok:HOk X.prog X.w H' s'.heap)(hg:AllBare s'.gens)(gO:∀b∈ch,(b∈X.ex\/X.s₀.heap.objs.size<=b)/\b≠X.env.locals/\(∀x c,X.env.cells.lookup x=some c->c≠b)/\∀p∈X.pn++bF,p.1≠b):Inv X bF σ H' s':=by
 obtain⟨h',g',d',t',o'⟩:=s'
 have e:o'=s.os:=ho;subst e;exact I.call (g':=g') (t':=t') (d':=d') u hok hg gO
end
abbrev XK:=Value->Option Addr->Hp->Prop
abbrev St:=List (Option V)
abbrev VK:=V->Hp->Prop
abbrev TE:=St->Hp->VK->Prop
abbrev TT:=St->Hp->(Bool->Hp->Prop)->Prop
abbrev TA:=St->Hp->(List V->Hp->Prop)->Prop
structure Ends where
 nx:St->Hp->Prop
 rt:VK
 bk:St->Hp->Prop:=λ_ _=>False
 ct:St->Hp->Prop:=λ_ _=>False
abbrev TS:=Ends->St->Hp->Prop
def EP (X:Cx)(bF:tP0)(σ:St)(Q:VK)(u:Value)(s':Shared):Prop:=∃v H',Inv X bF σ H' s'/\RelV v u/\Q v H'
def TP (X:Cx)(bF:tP0)(σ:St)(Q:Bool->Hp->Prop)(b:Bool)(s':Shared):Prop:=∃H',Inv X bF σ H' s'/\Q b H'
def AP (X:Cx)(bF:tP0)(σ:St)(Q:List V->Hp->Prop)(us:List Value)(s':Shared):Prop:=∃vs H',Inv X bF σ H' s'/\yg vs us/\Q vs H'
def SP (X:Cx)(bF:tP0)(D:Ends)(f:Flow)(s':Shared):Prop:=
 match f with
 |.next=>∃σ' H',Inv X bF σ' H' s'/\D.nx σ' H'
 |.brk=>∃σ' H',Inv X bF σ' H' s'/\D.bk σ' H'
 |.cont=>∃σ' H',Inv X bF σ' H' s'/\D.ct σ' H'
 |.ret u=>∃v σ' H',Inv X bF σ' H' s'/\RelV v u/\D.rt v H'
def PE (X:Cx)(e:Expr)(t:TE):Prop:=
 ∀(bF:tP0) (s:Shared) (σ:St) (H:Hp) (Q:VK),Inv X bF σ H s->t σ H Q->wpAny (model X.prog X.w) X.A (eval e X.env) (EP X bF σ Q) X.xe s
def PT (X:Cx)(e:Expr)(t:TT):Prop:=
 ∀(bF:tP0) (s:Shared) (σ:St) (H:Hp) (Q:Bool->Hp->Prop),Inv X bF σ H s->t σ H Q->wpAny (model X.prog X.w) X.A (isTrue e X.env (eval e X.env)) (TP X bF σ Q) X.xe s
def PW (X:Cx)(e:Expr)(t:TT):Prop:=
 ∀(c7:Sem Value) (bF:tP0) (s:Shared) (σ:St) (H:Hp) (Q:Bool->Hp->Prop),Inv X bF σ H s->t σ H Q->wpAny (model X.prog X.w) X.A (isTrue e X.env c7) (TP X bF σ Q) X.xe s
theorem PW.pt {X:Cx}{e:Expr}{t:TT}(h:PW X e t):PT X e t:=h _
def PA (X:Cx)(es:List Expr)(t:TA):Prop:=
 ∀(pos:Pos) (bF:tP0) (s:Shared) (σ:St) (H:Hp) (Q:List V->Hp->Prop),Inv X bF σ H s->t σ H Q->wpAny (model X.prog X.w) X.A (spliced (backTo pos (starEach es X.env))) (AP X bF σ Q) X.xe s
def PS (X:Cx)(st:Stmt)(t:TS):Prop:=
 ∀(bF:tP0) (s:Shared) (σ:St) (H:Hp) (D:Ends),Inv X bF σ H s->t D σ H->wpAny (model X.prog X.w) X.A (exec st X.env) (SP X bF D) X.xe s
def PSs (X:Cx)(st:List Stmt)(t:TS):Prop:=
 ∀(bF:tP0) (s:Shared) (σ:St) (H:Hp) (D:Ends),Inv X bF σ H s->t D σ H->wpAny (model X.prog X.w) X.A (execs st X.env) (SP X bF D) X.xe s
theorem thn {α:Type}{t:Sem α}{Q Q':α->Shared->Prop}{M:Model}{A:Around}{E:tE0}{s:Shared}(h:wpAny M A t Q E s)(hQ:∀a s,Q a s->Q' a s):wpAny M A t Q' E s:=wpAny_mono h hQ λ_ _ x=>x
section
variable {X:Cx}
def jao (i:Nat):TE:=λσ H Q=>∃v,σ[i]?= some (some v)/\Q v H
def tC (v:V):TE:=λ_ H Q=>Q v H
theorem Xq {i:Nat}{x:Str}{pos:Pos}(hN:X.N[i]?= some x)(hv:Vis X.env.scope x)(hd:(x==("__debug__":Str))=false:=by decide)(fj:(x==("__classdict__":Str))=false:=by decide):PE X (.Name x pos) (jao i):=by
 intro bF s σ H Q I h
 obtain⟨v,e,h⟩:=h
 obtain⟨m,hn,hl⟩:=I.loc
 obtain⟨u,r,l⟩:=hl i x v hN e hv
 have fin:EP X bF σ Q u s:=⟨v,H,I,r,h⟩
 rcases l with⟨hk,hm⟩|⟨hk,c,hc,hcell⟩
 ·exact wpAny_Name (wpAny_loadName_local I.ok.kind hk hn hm fin) hd
 ·rcases hk with hk|hk
  ·exact wpAny_Name (wpAny_loadName_cell I.ok.kind hk hc hcell fin) hd
  ·exact wpAny_Name (wpAny_loadName_free I.ok.kind hk hc hcell fin fj) hd
theorem jns {i j pos}:PE X (.Constant (.int i) j pos) (tC (.int i)):=λ_ _ _ H _ I h=>wpAny_Constant_int ⟨.int i,H,I.tok _,⟨_,rfl⟩,h⟩
theorem jpR {b j pos}:PE X (.Constant (.bool b) j pos) (tC (.bl b)):=λ_ _ _ H _ I h=>Constant_bool ⟨.bl b,H,I,rfl,h⟩
def Gl (X:Cx)(x:Str):Prop:=X.env.kindOf x=some .globalImplicit
theorem UC {E:tE0}{bF:tP0}{s:Shared}{σ:St}{H:Hp}{x:Str}{u:Value}{pos:Pos}{Q:tE0}(I:Inv X bF σ H s)(hg:Gl X x)(hm:X.mg x=some u)(h:Q u s)(hd:(x==("__debug__":Str))=false:=by decide):wpAny (model X.prog X.w) X.A (eval (.Name x pos) X.env) Q E s:=
 Calls.Name_function_global I.ok.kind hg (Calls.loadGlobal_global (by rw[I.ok.glob];exact I.mod.glob.keeps I.bk) hm h) hd
theorem JX {E:tE0}{bF:tP0}{s:Shared}{σ:St}{H:Hp}{x:Str}{u:Value}{pos:Pos}{Q:tE0}(I:Inv X bF σ H s)(hg:Gl X x)(hm:X.mg x=none)(hv:bootBuiltins x=some u)(h:Q u s)(hn:x≠"__name__":=by decide) (hd:(x==("__debug__":Str))=false:=by decide):wpAny (model X.prog X.w) X.A (eval (.Name x pos) X.env) Q E s:=by
 obtain⟨mb,h1,h2⟩:=I.mod.blt
 exact Calls.Name_function_global I.ok.kind hg (Calls.loadGlobal_builtin (by rw[I.ok.glob];exact I.mod.glob.keeps I.bk) hm (by rw[I.ok.blt];exact h1.keeps I.bk) ((h2 x hn).trans hv) h) hd
theorem jkA {x:Str}{v:V}{u:Value}{pos:Pos}(hg:Gl X x)(hm:X.mg x=some u)(r:RelV v u)(hd:(x==("__debug__":Str))=false:=by decide):PE X (.Name x pos) (tC v):=
 λ_ _ _ H _ I h=>UC I hg hm ⟨v,H,I,r,h⟩ hd
theorem jkC {x:Str}{v:V}{u:Value}{pos:Pos}(hg:Gl X x)(hm:X.mg x=none)(hv:bootBuiltins x=some u)(r:RelV v u)(hn:x≠"__name__":=by decide)(hd:(x==("__debug__":Str))=false:=by decide):PE X (.Name x pos) (tC v):=
 λ_ _ _ H _ I h=>JX I hg hm hv ⟨v,H,I,r,h⟩ hn hd
variable {a b:Expr}{ta tb:TE}{pos:Pos}
def PC (X:Cx)(op:CmpOp)(a b:Expr)(t:TE):Prop:=
 ∀(bF:tP0) (s:Shared) (σ:St) (H:Hp) (Q:VK),Inv X bF σ H s->t σ H Q->
  wpAny (model X.prog X.w) X.A (eval a X.env) (λv b6=>wpAny (model X.prog X.w) X.A (eval b X.env) (λu b9=>wpAny (model X.prog X.w) X.A (compareOp op v u) (EP X bF σ Q) X.xe b9) X.xe b6) X.xe s
theorem jhZ (b:Expr){op:CmpOp}(h:op≠.In)(h2:op≠.NotIn):behindInMarks op b=false:=by
 have e1:(op==CmpOp.In)=false:=by cases op <;> first|rfl|exact absurd rfl h
 have e2:(op==CmpOp.NotIn)=false:=by cases op <;> first|rfl|exact absurd rfl h2
 cases b <;> simp[behindInMarks,e1,e2]
def tB (t:TE):TT:=λσ H Q=>t σ H λx H1=>∃c,x= .bl c/\Q c H1
theorem jhB {op:CmpOp}{t:TE}(h:PC X op a b t)(h1:behindInMarks op b=false:=by first|exact jhZ _ (by decide) (by decide)|rfl):PT X (.Compare a [op] [b] pos) (tB t):=by
 intro bF s σ H Q I hw;refine wpAny_isTrue_Compare1 (thn (h bF s σ H _ I hw) λv s1 h1=>thn h1 λu s2 h2=>thn h2 λc s3 bH=>?_) h1
 obtain⟨x,H1,I1,r1,q1⟩:=bH
 obtain⟨d,rfl,q⟩:=q1
 cases r1;exact wpAny_truthy_bool ⟨H1,I1,q⟩
variable {tA kP:TT}{rest:List Expr}
def jqY (t u:TT):TT:=λσ H Q=>t σ H λc H1=>if c=true then u σ H1 Q else Q false H1
def tOr (t u:TT):TT:=λσ H Q=>t σ H λc H1=>if c=true then Q true H1 else u σ H1 Q
def jqT (t:TT):TT:=λσ H Q=>t σ H λc H1=>Q (!c) H1
theorem jkl (ha:PT X a tA):PW X (.BoolOp .And [a] pos) tA:=by
 intro wh bF s σ H Q I h;refine isTrue_and (thn (ha bF s σ H Q I h) λc s1 e=>?_);cases c with
 |true=>exact isTrue_and_nil e
 |false=>exact e
theorem jne (ha:PT X a tA):PW X (.BoolOp .Or [a] pos) tA:=by
 intro wh bF s σ H Q I h;refine isTrue_or (thn (ha bF s σ H Q I h) λc s1 e=>?_);cases c with
 |false=>exact isTrue_or_nil e
 |true=>exact e
theorem jnf (ha:PT X a tA)(hb:PW X (.BoolOp .And (b::rest) pos) kP):PW X (.BoolOp .And (a::b::rest) pos) (jqY tA kP):=by
 intro wh bF s σ H Q I h;refine isTrue_and (thn (ha bF s σ H _ I h) λc s1 bH=>?_)
 obtain⟨H1,I1,q1⟩:=bH
 cases c with
 |true=>exact hb wh bF s1 σ H1 Q I1 q1
 |false=>exact⟨H1,I1,q1⟩
theorem jpK (ha:PT X a tA)(hb:PW X (.BoolOp .Or (b::rest) pos) kP):PW X (.BoolOp .Or (a::b::rest) pos) (tOr tA kP):=by
 intro wh bF s σ H Q I h;refine isTrue_or (thn (ha bF s σ H _ I h) λc s1 bH=>?_)
 obtain⟨H1,I1,q1⟩:=bH
 cases c with
 |true=>exact⟨H1,I1,q1⟩
 |false=>exact hb wh bF s1 σ H1 Q I1 q1
theorem jnh (ha:PT X a tA):PT X (.UnaryOp .Not a pos) (jqT tA):=by
 intro bF s σ H Q I h;exact isTrue_not (ha bF s σ H (λc H1=>Q (!c) H1) I h)
def jpB (ta tb:TE):TE:=λσ H Q=>ta σ H λx H1=>∃c,x= .bl c/\if c=true then tb σ H1 Q else Q (.bl false) H1
def jpu (ta:TE):TE:=λσ H Q=>ta σ H λx H1=>∃c,x= .bl c/\Q (.bl (!c)) H1
theorem jnq {op}{t:TE}(h:PE X a t):PE X (.BoolOp op [a] pos) t:=λbF s σ H Q I hw=>BoolOp_one (h bF s σ H Q I hw)
theorem jnu (ha:PE X a ta)(hb:PE X (.BoolOp .And (b::rest) pos) tb):PE X (.BoolOp .And (a::b::rest) pos) (jpB ta tb):=by
 intro bF s σ H Q I h;refine BoolOp_and (thn (ha bF s σ H _ I h) λv s1 bH=>?_)
 obtain⟨x,H1,I1,r1,q1⟩:=bH
 obtain⟨c,rfl,q1⟩:=q1
 cases r1;refine wpAny_truthy_bool ?_;cases c with
 |true=>exact hb bF s1 σ H1 Q I1 q1
 |false=>exact⟨.bl false,H1,I1,rfl,q1⟩
theorem jnr (ha:PE X a ta):PE X (.UnaryOp .Not a pos) (jpu ta):=by
 intro bF s σ H Q I h;refine UnaryOp_ (thn (ha bF s σ H _ I h) λv s1 bH=>?_)
 obtain⟨x,H1,I1,r1,q1⟩:=bH
 obtain⟨c,rfl,q1⟩:=q1
 cases r1;exact not_of (wpAny_truthy_bool ⟨.bl (!c),H1,I1,rfl,q1⟩)
def tIf (t:TT)(ta tb:TE):TE:=λσ H Q=>t σ H λc H1=>if c=true then ta σ H1 Q else tb σ H1 Q
theorem jhO {c:Expr}(hc:PT X c tA)(ha:PE X a ta)(hb:PE X b tb):PE X (.IfExp c a b pos) (tIf tA ta tb):=by
 intro bF s σ H Q I h;refine wpAny_IfExp (thn (hc bF s σ H _ I h) λd s1 bH=>?_)
 obtain⟨H1,I1,q1⟩:=bH
 cases d with
 |true=>exact ha bF s1 σ H1 Q I1 q1
 |false=>exact hb bF s1 σ H1 Q I1 q1
end
def SqL (K:Frag)(H:Hp)(a:Addr)(xs:List V):Prop:=
 Rd H a (.lst xs) \/
  ∃(o:Obj) (its:Array Value) (n:Nat),K.lookup a=some o/\o.cls= .type "list"/\o.dict=none/\o.data= .seq its n/\its.size<=sizeLine/\yg xs its.toList
def SqT (K:Frag)(H:Hp)(a:Addr)(xs:List V):Prop:=
 Rd H a (.tup xs) \/
  ∃(o:Obj) (its:Array Value) (n:Nat),K.lookup a=some o/\o.cls= .type "tuple"/\o.data= .seq its n/\its.size<=sizeLine/\yg xs its.toList
def jrF:Value->Option V
 |.none=>some .non
 |.bool b=>some (.bl b)
 |.int i _=>some (.int i)
 |.str x _=>some (.str x)
 |.bytes b _=>some (.byt b)
 |.float b _=>some (.flt b)
 |.ref a=>some (.ref a)
 |.type n=>some (.ty n)
 |_=>none
theorem RelV.abs {x:V}{u:Value}(r:RelV x u):jrF u=some x:=by
 cases x with
 |non=>cases r;rfl
 |bl _=>cases r;rfl
 |int _=>obtain⟨t,rfl⟩:=r;rfl
 |str _=>obtain⟨t,rfl⟩:=r;rfl
 |byt _=>obtain⟨t,rfl⟩:=r;rfl
 |flt _=>obtain⟨t,rfl⟩:=r;rfl
 |ref _=>cases r;rfl
 |ty _=>cases r;rfl
theorem RelV.inj {x y:V}{u:Value}(r:RelV x u)(q:RelV y u):x=y:=Option.some.inj (r.abs.symm.trans q.abs)
theorem yg.inj {xs ys:List V}{us:List Value}(h:yg xs us)(h':yg ys us):xs=ys:=by
 induction h generalizing ys with
 |nil=>cases h';rfl
 |cons r t ih=>
  cases h' with
  |cons r' t'=>rw[r.inj r',ih t']
section
variable {X:Cx}{bF:tP0}{σ:St}{H:Hp}{s:Shared}{a:Addr}{xs ys:List V}
theorem SqL.of {K:Frag}(h:H a=some (.lst xs)):SqL K H a xs:=.inl (.inl h)
theorem Inv.list (I:Inv X bF σ H s)(h:SqL X.K H a xs):∃its:List Value,yg xs its/\PlainL s.heap a its.toArray/\xs.length<=sizeLine:=by
 rcases h with h|⟨o,its,n,hk,hc,hd,hs,hz,r⟩
 ·obtain⟨z,its,n,r,e⟩:=h.ok I.hok
  exact⟨its,r,⟨_,n,e,rfl,rfl,rfl⟩,z⟩
 ·refine⟨its.toList,r,⟨o,n,I.aI a o hk,hc,hd,by simpa using hs⟩,?_⟩
  have e:=r.length;simp only[length_toList]at e;omega
theorem Inv.tuple (I:Inv X bF σ H s)(h:SqT X.K H a xs):∃its:List Value,yg xs its/\IsTup s.heap a its.toArray/\xs.length<=sizeLine:=by
 rcases h with h|⟨o,its,n,hk,hc,hs,hz,r⟩
 ·obtain⟨z,its,r,p⟩:=h.ok I.hok
  exact⟨its,r,p,z⟩
 ·refine⟨its.toList,r,⟨o,I.aI a o hk,hc,n,by simpa using hs⟩,?_⟩
  have e:=r.length;simp only[length_toList]at e;omega
theorem Inv.av (I:Inv X bF σ H s)(h:SqL X.K H a xs)(h':SqL X.K H a ys):xs=ys:=by
 obtain⟨its,r,⟨o,n,e,_,_,d⟩,_⟩:=I.list h
 obtain⟨its',r',⟨o',n',e',_,_,d'⟩,_⟩:=I.list h'
 rw[e]at e';cases e';rw[d]at d';injection d' with d1 _
 have:its=its':=by simpa using congrArg toList d1
 subst this;exact r.inj r'
theorem Inv.aA (I:Inv X bF σ H s)(h:SqT X.K H a xs)(h':SqT X.K H a ys):xs=ys:=by
 obtain⟨its,r,⟨o,e,_,n,d⟩,_⟩:=I.tuple h
 obtain⟨its',r',⟨o',e',_,n',d'⟩,_⟩:=I.tuple h'
 rw[e]at e';cases e';rw[d]at d';injection d' with d1 _
 have:its=its':=by simpa using congrArg toList d1
 subst this;exact r.inj r'
end
abbrev Cx.ax (X:Cx)(E:tE0):Cx:={ X with xe:=E }
abbrev Cx.aN (X:Cx):Cx:=X.ax λ_ _=>False
theorem Cx.Ok.ax {X:Cx}(ok:X.Ok)(E:tE0):(X.ax E).Ok:=
 ⟨ok.mod,ok.kind,ok.glob,ok.blt,ok.above,ok.inj,ok.has,ok.cab,ok.hd,ok.frames,ok.stk,ok.exf,ok.bs,ok.bsz,ok.noex,ok.exfs,ok.funs,ok.frf⟩
theorem Cx.Ok.ak {X:Cx}{E:tE0}(ok:(X.ax E).Ok):X.Ok:=
 ⟨ok.mod,ok.kind,ok.glob,ok.blt,ok.above,ok.inj,ok.has,ok.cab,ok.hd,ok.frames,ok.stk,ok.exf,ok.bs,ok.bsz,ok.noex,ok.exfs,ok.funs,ok.frf⟩
section
variable {X:Cx}{bF:tP0}{σ:St}{H:Hp}{s:Shared}{E:tE0}
theorem Inv.ax (I:Inv X bF σ H s)(E:tE0):Inv (X.ax E) bF σ H s:=⟨I.ok.ax E,I.os,I.bare,I.base,I.loc,I.cell,I.free,I.freeC,I.pin,I.hok,I.len⟩
theorem Inv.ak (I:Inv (X.ax E) bF σ H s):Inv X bF σ H s:=⟨I.ok.ak,I.os,I.bare,I.base,I.loc,I.cell,I.free,I.freeC,I.pin,I.hok,I.len⟩
theorem SP.ak {D:Ends}{f:Flow}{s':Shared}(h:SP (X.ax E) bF D f s'):SP X bF D f s':=by
 cases f with
 |next=>obtain⟨σ',H',I,q⟩:=h;exact⟨σ',H',I.ak,q⟩
 |brk=>obtain⟨σ',H',I,q⟩:=h;exact⟨σ',H',I.ak,q⟩
 |cont=>obtain⟨σ',H',I,q⟩:=h;exact⟨σ',H',I.ak,q⟩
 |ret u=>obtain⟨v,σ',H',I,r,q⟩:=h;exact⟨v,σ',H',I.ak,r,q⟩
theorem PE.aN {e:Expr}{t:TE}(h:PE X.aN e t):PE X e t:=λbF s σ H Q I hw=>
 wpAny_mono (h bF s σ H Q (I.ax _) hw) (λ_ _ ⟨v,H',I',r,q⟩=>⟨v,H',I'.ak,r,q⟩) λ_ _ z=>False.elim z
theorem PT.aN {e:Expr}{t:TT}(h:PT X.aN e t):PT X e t:=λbF s σ H Q I hw=>
 wpAny_mono (h bF s σ H Q (I.ax _) hw) (λ_ _ ⟨H',I',q⟩=>⟨H',I'.ak,q⟩) λ_ _ z=>False.elim z
theorem PSs.aN {st:List Stmt}{t:TS}(h:PSs X.aN st t):PSs X st t:=λbF s σ H D I hw=>
 wpAny_mono (h bF s σ H D (I.ax _) hw) (λ_ _ q=>q.ak) λ_ _ z=>False.elim z
end
section
variable {X:Cx}{st:Stmt}{rest:List Stmt}{t u:TS}{e:Expr}{te:TE}{pos:Pos}
def jpw:TS:=λD σ H=>D.nx σ H
def jqR (t u:TS):TS:=λD σ H=>t { D with nx:=u D } σ H
theorem jkq:PSs X [] jpw:=λ_ _ σ H _ I h=>wpAny_execs_nil ⟨σ,H,I,h⟩
theorem Xn (h1:PS X st t)(h2:PSs X rest u):PSs X (st::rest) (jqR t u):=by
 intro bF s σ H D I h;refine wpAny_execs_cons (thn (h1 bF s σ H { D with nx:=u D } I h) λf s1 q=>?_);cases f with
 |next=>
  obtain⟨σ',H',I',q⟩:=q
  exact h2 bF s1 σ' H' D I' q
 |ret v=>exact q
 |brk=>exact q
 |cont=>exact q
theorem jkp (h1:PS X st t):PSs X [st] t:=by
 intro bF s σ H D I h;refine wpAny_execs_cons (thn (h1 bF s σ H D I h) λf s1 q=>?_);cases f with
 |next=>exact wpAny_execs_nil q
 |ret v=>exact q
 |brk=>exact q
 |cont=>exact q
theorem Inv.quiet {bF:tP0}{σ:St}{H:Hp}{s:Shared}(I:Inv X bF σ H s):interactive X.env=false:=by simp[interactive,I.ok.kind]
def jpA (te:TE):TS:=λD σ H=>te σ H λ_ H1=>D.nx σ H1
theorem jks (he:PE X e te)(hs:swapsWith e none pos.line X.env=pure false:=by rfl):PS X (.Expr e pos) (jpA te):=by
 intro bF s σ H D I h;exact wpAny_Expr_any (thn (he bF s σ H _ I h) λv s1 ⟨x,H1,I1,r1,q1⟩=>⟨σ,H1,I1,q1⟩) I.quiet hs
def jqS (te:TE):TS:=λD σ H=>te σ H D.rt
theorem jni (he:PE X e te):PS X (.Return (some e) pos) (jqS te):=by
 intro bF s σ H D I h;exact wpAny_Return_some (thn (he bF s σ H _ I h) λv s1 ⟨x,H1,I1,r1,q1⟩=>⟨x,σ,H1,I1,r1,q1⟩)
def jqV (c:TT)(t u:TS):TS:=λD σ H=>c σ H λb H1=>if b=true then t D σ H1 else u D σ H1
theorem jpL {c:Expr}{a b:List Stmt}{tc:TT}(hc:PT X c tc)(ha:PSs X a t)(hb:PSs X b u):PS X (.If c a b pos) (jqV tc t u):=by
 intro bF s σ H D I h;refine wpAny_If (thn (hc bF s σ H _ I h) λd s1 bH=>?_)
 obtain⟨H1,I1,q1⟩:=bH
 cases d with
 |true=>exact ha bF s1 σ H1 D I1 q1
 |false=>exact hb bF s1 σ H1 D I1 q1
def jmp:TS:=λ_ _ _=>False
theorem jhD:PS X st jmp:=λ_ _ _ _ _ _ h=>h.elim
end
abbrev TG:=V->St->Hp->(St->Hp->Prop)->Prop
abbrev TGs:=List V->St->Hp->(St->Hp->Prop)->Prop
def PG (X:Cx)(bG:Expr)(t:TG):Prop:=
 ∀(bF:tP0) (s:Shared) (σ:St) (H:Hp) (v:V) (u:Value) (Q:St->Hp->Prop),Inv X bF σ H s->RelV v u->t v σ H Q->
  wpAny (model X.prog X.w) X.A (assign bG X.env u) (λ_ s'=>∃σ' H',Inv X bF σ' H' s'/\Q σ' H') X.xe s
def PGs (X:Cx)(ts:List Expr)(t:TGs):Prop:=
 ∀(bF:tP0) (s:Shared) (σ:St) (H:Hp) (vs:List V) (us:List Value) (Q:St->Hp->Prop),Inv X bF σ H s->yg vs us->t vs σ H Q->
  wpAny (model X.prog X.w) X.A (assignInOrder ((assignEach ts X.env).map (·.2)) us) (λ_ s'=>∃σ' H',Inv X bF σ' H' s'/\Q σ' H') X.xe s
abbrev jpc:=V->V->V->Hp->(Hp->Prop)->Prop
def jqE (X:Cx)(t:jpc):Prop:=
 ∀(bF:tP0) (s:Shared) (σ:St) (H:Hp) (o i v:V) (ov iv u:Value) (Q:Hp->Prop),Inv X bF σ H s->RelV o ov->RelV i iv->RelV v u->t o i v H Q->
  wpAny (model X.prog X.w) X.A (setItem ov iv u) (λ_ s'=>∃H',Inv X bF σ H' s'/\Q H') X.xe s
section
variable {X:Cx}{pos:Pos}
def vc (i:Nat):TG:=λv σ H Q=>Q (σ.set i (some v)) H
theorem jJ {i:Nat}{x:Str}(hN:X.N.Nodup)(hi:X.N[i]?= some x)(hx:Loc X.env.scope x)(hf:X.fn x=true\/X.env.scope.names.lookup x=some .local:=by first|exact .inl rfl|exact .inr rfl|assumption):PG X (.Name x pos) (vc i):=by
 intro bF s σ H v u Q I r h;exact wpAny_assign_Name (jaq I hN hi hx r (λs' I'=>⟨_,H,I',h⟩) hf)
def jkZ:TGs:=λvs σ H Q=>vs=[]/\Q σ H
def XF (t:TG)(u:TGs):TGs:=λvs σ H Q=>∃v r,vs=v::r/\t v σ H λσ' H'=>u r σ' H' Q
theorem Uy:PGs X [] jkZ:=by
 intro bF s σ H vs us Q I r h
 obtain⟨e,h⟩:=h
 subst e;cases r;exact assignInOrder_nil ⟨σ,H,I,h⟩
theorem vS {e:Expr}{es:List Expr}{t:TG}{u:TGs}(h1:PG X e t)(h2:PGs X es u)(hs:(assignEach (e::es) X.env).map (·.2)=assign e X.env::(assignEach es X.env).map (·.2):=by rfl):PGs X (e::es) (XF t u):=by
 intro bF s σ H vs us Q I r h
 obtain⟨v,vr,e1,h⟩:=h
 subst e1;cases r with
 |cons r rr=>
  rw[hs];refine assignInOrder_cons (thn (h1 bF s σ H _ _ _ I r h) λ_ s1 bH=>?_)
  obtain⟨σ1,H1,I1,q1⟩:=bH
  exact h2 bF s1 σ1 H1 _ _ Q I1 rr q1
def jkX (K:Frag)(n:Nat)(t:TGs):TG:=λv σ H Q=>∃a xs,v= .ref a/\SqT K H a xs/\xs.length=n/\t xs σ H Q
theorem jcs {es:List Expr}{k:Nat}{t:TGs}{n:Nat}(hc:X.calm=true)(h:PGs X es t)(hn:(assignEach es X.env).length=n:=by rfl) (lK:(assignEach es X.env).findIdx? (·.1)=none:=by rfl):PG X (.Tuple es k pos) (jkX X.K n t):=by
 intro bF s σ H v u Q I r hw
 obtain⟨a,xs,e1,hq,hl,hw⟩:=hw
 subst e1;cases r
 obtain⟨its,rv,ht,hz⟩:=I.tuple hq
 refine assign_Tuple_tuple (I.ok.hd hc) ht (by simp[hn,<-hl,rv.length]) lK λh' hx=>?_;have I1:Inv X bF σ H { s with heap:=h' }:=I.kept (t':=s.toks) λb o e=>hx b o (ne_of_lt (lt_size e)) e;exact h bF _ σ H xs _ Q I1 (by simpa using rv) hw
def jgo (to ti:TE)(t:jpc):TG:=λv σ H Q=>to σ H λo H1=>ti σ H1 λi H2=>t o i v H2 λH3=>Q σ H3
theorem jnp {o i:Expr}{to ti:TE}{t:jpc}(ho:PE X o to)(hi:PE X i ti)(hs:jqE X t)(ha:∀v,assign (.Subscript o i pos) X.env v=(do
   let ov <-holding [v] (eval o X.env)
   let iv <-holding [v,ov] (eval i X.env)
   standAt pos
   holding [v,ov,iv] (setItem ov iv v)
   release [v,ov,iv] []):=by intro _;rfl):PG X (.Subscript o i pos) (jgo to ti t):=by
 intro bF s σ H v u Q I r h;rw[ha];refine wpAny_bind (wpAny_holding (thn (ho bF s σ H _ I h) λov s1 bH=>?_))
 obtain⟨x,H1,I1,r1,q1⟩:=bH
 refine wpAny_bind (wpAny_holding (thn (hi bF s1 σ H1 _ I1 q1) λiv s2 bH=>?_))
 obtain⟨y,H2,I2,r2,q2⟩:=bH
 refine wpAny_bind (wpAny_standAt (wpAny_bind (wpAny_holding (thn (hs bF s2 σ H2 x y v ov iv u _ I2 r1 r2 r q2) λ_ s3 bH=>?_))))
 obtain⟨H3,I3,q3⟩:=bH
 exact wpAny_release ⟨σ,H3,I3,q3⟩
def jjV (te:TE)(g:TG):TS:=λD σ H=>te σ H λx H1=>g x σ H1 D.nx
theorem jhE {tg e:Expr}{te:TE}{g:TG}(he:PE X e te)(hg:PG X tg g)(hs:swapsWithSole [tg] e pos.line X.env=pure false:=by rfl)(hw:swappedStores [tg] e X.env=pure none:=by rfl)(h1:(assignEach [tg] X.env).map (·.2)=[assign tg X.env]:=by rfl):PS X (.Assign [tg] e pos) (jjV te g):=by
 intro bF s σ H D I h;refine wpAny_Assign_stores (thn (he bF s σ H _ I h) λv s1 bH=>?_) hs hw
 obtain⟨x,H1,I1,r1,q1⟩:=bH
 rw[h1];exact thn (hg bF s1 σ H1 x v _ I1 r1 q1) λ_ s2 q=>q
theorem jhC {i:Nat}{x:Str}{e:Expr}{te:TE}{cO:Pos}(hN:X.N.Nodup)(hi:X.N[i]?= some x)(hx:Loc X.env.scope x)(he:PE X e te)(hs:swapsWith e (some (.Name x cO)) pos.line X.env=pure false:=by rfl)(hf:X.fn x=true\/X.env.scope.names.lookup x=some .local:=by first|exact .inl rfl|exact .inr rfl|assumption) :
  PS X (.Assign [.Name x cO] e pos) (jjV te (vc i)):=by
 intro bF s σ H D I h;refine wpAny_Assign_Name (thn (he bF s σ H _ I h) λv s1 bH=>?_) hs
 obtain⟨y,H1,I1,r1,q1⟩:=bH
 exact jaq I1 hN hi hx r1 (λs2 I2=>⟨_,H1,I2,q1⟩) hf
end
structure It where
 go:Nat->Hp->Prop
 yld:Nat->Hp->V->Hp->Prop
 stop:Nat->Hp->Prop
def xb (X:Cx)(bF:tP0)(H:Hp)(b:Addr):Prop:=
 H b=none/\b≠X.env.locals/\b∉X.fs/\(b∈X.ex\/X.s₀.heap.objs.size<=b)/\(∀x c,X.env.cells.lookup x=some c->c≠b)/\∀p∈X.pn++bF,p.1≠b
theorem Inv.au {X:Cx}{bF:tP0}{σ:St}{H H':Hp}{s:Shared}{b:Addr}(I:Inv X bF σ H s)(hb:s.heap.objs.size<=b)(hn:H' b=none):xb X bF H' b:=by
 refine⟨hn,ne_of_gt (lt_of_lt_of_le I.lt hb),I.bh hb,.inr (le_trans I.sz hb),λx c e z=>?_,λp hp z=>?_⟩
 ·obtain⟨v,q⟩:=I.cell x c e
  exact absurd (lt_of_lt_of_le q.lt (by rw[z];exact hb)) (lt_irrefl _)
 ·exact absurd (lt_of_lt_of_le (lt_size (I.pin p hp).1) (by rw[z];exact hb)) (lt_irrefl _)
structure Turn (P:Program)(w:World)(K:Frag)(tg:Expr)(J:It)(fp:List Addr)(it:Addr)(tn:Nat->Heap->Prop):Prop where
 mem:it∈fp
 obj:∀i h,tn i h->∀b∈fp,∃o,h.get? b=some o/\∀v,o.data≠.cell v
 keep:∀i h h',tn i h->(∀b∈fp,∀o,h.get? b=some o->h'.get? b=some o)->tn i h'
 item:∀(X:Cx),X.prog=P->X.w=w->X.K=K->X.calm=true->∀(i:Nat) (bF:tP0) (s:Shared) (σ:St) (H:Hp) (E:tE0),Inv X bF σ H s->(∀b∈fp,xb X bF H b)->tn i s.heap->J.go i H->
  wpAny (model P w) X.A (pyNext (.ref it)) (λr s1=>∃u,r=some u /\
   wpAny (model P w) X.A (letOwnedTupleGo tg (.ref it) u) (λ_ s2=>∃x H',Inv X bF σ H' s2/\RelV x u/\J.yld i H x H'/\tn (i+1) s2.heap/\∀b∈fp,H' b=none) E s1) E s
 done:∀(X:Cx),X.prog=P->X.w=w->X.K=K->X.calm=true->∀(i:Nat) (bF:tP0) (s:Shared) (σ:St) (H:Hp) (E:tE0),Inv X bF σ H s->(∀b∈fp,xb X bF H b)->tn i s.heap->J.stop i H->
  wpAny (model P w) X.A (pyNext (.ref it)) (λr s1=>r=none/\Inv X bF σ H s1) E s
 self:∀(A:Around) (i:Nat) (s:Shared) (Q:tE0) (E:tE0),tn i s.heap->Q (.ref it) s->wpAny (model P w) A (pyIter (.ref it)) Q E s
abbrev TI:=St->Hp->(It->Hp->Prop)->Prop
def PIE (X:Cx)(bF:tP0)(σ:St)(tg:Expr)(R:It->Hp->Prop)(iw:Value)(s2:Shared):Prop:=
 ∃(it:Addr) (fp:List Addr) (tn:Nat->Heap->Prop) (J:It) (H':Hp),iw= .ref it/\Inv X bF σ H' s2/\Turn X.prog X.w X.K tg J fp it tn/\tn 0 s2.heap/\(∀b∈fp,xb X bF H' b)/\R J H'
def PI (X:Cx)(tg iter:Expr)(wi:TI):Prop:=
 ∀(bF:tP0) (s:Shared) (σ:St) (H:Hp) (R:It->Hp->Prop),Inv X bF σ H s->wi σ H R->
  wpAny (model X.prog X.w) X.A (eval iter X.env) (λv s1=>wpAny (model X.prog X.w) X.A (pyIter v) (PIE X bF σ tg R) X.xe s1) X.xe s
theorem jbg {M:Model}{A:Around}{E:tE0}{s:Shared}{tg:Expr}{it:Addr}{u:Value}{o:Obj}{n:String}{vs:Array Value}{Q:Unit->Shared->Prop}(ho:s.heap.get? it=some o)(hc:o.cls= .type n)(hd:o.data= .fields vs)(hn:["enumerate","zip","dict_itemiterator","dict_reverseitemiterator","odict_iterator","itertools.zip_longest","itertools.pairwise"].contains n=false) (hQ:Q () s):wpAny M A (letOwnedTupleGo tg (.ref it) u) Q E s:=by
  unfold letOwnedTupleGo;cases tg <;> first
    |exact wpAny_pure hQ
    |(cases u <;> first
        |exact wpAny_pure hQ
        |(refine wpAny_bind (wpAny_load ho ?_);rw[hc,hd];show wpAny M A (if(["enumerate","zip","dict_itemiterator","dict_reverseitemiterator","odict_iterator","itertools.zip_longest","itertools.pairwise"].contains n && vs[0]?==some (rawInt _))=true then _ else _) Q E s;rw[if_neg (by intro h;rw[hn,Bool.false_and]at h;cases h)];exact wpAny_pure hQ))
def Itl (K:Frag)(a:Addr):It:=
 ⟨λi H=>∃xs x,SqL K H a xs/\xs[i]?= some x,λi H x H'=>H'=H/\∀xs,SqL K H a xs->xs[i]?= some x,λi H=>∃xs,SqL K H a xs/\xs.length<=i⟩
def Itt (K:Frag)(a:Addr):It:=
 ⟨λi H=>∃xs x,SqT K H a xs/\xs[i]?= some x,λi H x H'=>H'=H/\∀xs,SqT K H a xs->xs[i]?= some x,λi H=>∃xs,SqT K H a xs/\xs.length<=i⟩
def Itr (lo:Int)(n:Nat):It:=⟨λi _=>i<n,λi H x H'=>H'=H/\x= .int (lo+i),λi _=>n<=i⟩
theorem Vn {P:Program}{w:World}{K:Frag}{tg:Expr}(a it:Addr):Turn P w K tg (Itl K a) [it] it (λi h=>h.IsListIter it a i) where
 mem:=by simp
 obj:=λi h st b hb=>by
  have e:b=it:=by simpa using hb
  subst e
  obtain⟨o,e,c,d⟩:=st
  exact⟨o,e,λv z=>by rw[d]at z;cases z⟩
 keep:=λi h h' st k=>st.at λo e=>k it (by simp) o e
 item:=by
  intro X hP hw hK hc i bF s σ H E I hf st hg;subst hP hw hK
  obtain⟨xs,x,hq,hx⟩:=hg
  obtain⟨its,rv,p,hz⟩:=I.list hq
  obtain⟨u,hu,ru⟩:=rv.get hx
  obtain⟨f0,f1,f2,f3,f4,f5⟩:=hf it (by simp)
  refine wpAny_pyNext_list_item st p.isList (x:=u) (by simpa using hu) λh' e9 sb=>?_;have I1:Inv X bF σ H { s with heap:=h' }:=I.turned (t':=s.toks) (λb o hb e=>(sb.2 b hb).trans e) f0 f1 f3 f4 f5
  obtain⟨o,e,c,d⟩:=id e9
  exact⟨u,rfl,jbg (s:={ s with heap:=h' }) e c d (by decide) ⟨x,H,I1,ru,⟨rfl,λys hy=>by rw[I.av hy hq];exact hx⟩,e9,λb hb=>(hf b hb).1⟩⟩
 done:=by
  intro X hP hw hK hc i bF s σ H E I hf st hg;subst hP hw hK
  obtain⟨xs,hq,hx⟩:=hg
  obtain⟨its,rv,p,hz⟩:=I.list hq
  obtain⟨f0,f1,f2,f3,f4,f5⟩:=hf it (by simp)
  have hl:=rv.length;exact wpAny_pyNext_list_end (I.ok.hd hc) st p.isList (by simp;omega) λh' eb=>⟨rfl,I.turned (t':=s.toks) (λb o hb e=>eb b o hb e) f0 f1 f3 f4 f5⟩
 self:=λ_ _ _ _ _ st h=>wpAny_pyIter_listiter st h
theorem YT {P:Program}{w:World}{K:Frag}{tg:Expr}(a it:Addr):Turn P w K tg (Itt K a) [it] it (λi h=>h.IsTupleIter it a i) where
 mem:=by simp
 obj:=λi h st b hb=>by
  have e:b=it:=by simpa using hb
  subst e
  obtain⟨o,e,c,d⟩:=st
  exact⟨o,e,λv z=>by rw[d]at z;cases z⟩
 keep:=λi h h' st k=>st.at λo e=>k it (by simp) o e
 item:=by
  intro X hP hw hK hc i bF s σ H E I hf st hg;subst hP hw hK
  obtain⟨xs,x,hq,hx⟩:=hg
  obtain⟨its,rv,p,hz⟩:=I.tuple hq
  obtain⟨u,hu,ru⟩:=rv.get hx
  obtain⟨f0,f1,f2,f3,f4,f5⟩:=hf it (by simp)
  refine wpAny_pyNext_tuple_item st (show s.heap.IsTuple a its.toArray from p) (x:=u) (by simpa using hu) λh' e9 sb=>?_;have I1:Inv X bF σ H { s with heap:=h' }:=I.turned (t':=s.toks) (λb o hb e=>(sb.2 b hb).trans e) f0 f1 f3 f4 f5
  obtain⟨o,e,c,d⟩:=id e9
  exact⟨u,rfl,jbg (s:={ s with heap:=h' }) e c d (by decide) ⟨x,H,I1,ru,⟨rfl,λys hy=>by rw[I.aA hy hq];exact hx⟩,e9,λb hb=>(hf b hb).1⟩⟩
 done:=by
  intro X hP hw hK hc i bF s σ H E I hf st hg;subst hP hw hK
  obtain⟨xs,hq,hx⟩:=hg
  obtain⟨its,rv,p,hz⟩:=I.tuple hq
  obtain⟨f0,f1,f2,f3,f4,f5⟩:=hf it (by simp)
  have hl:=rv.length;exact wpAny_pyNext_tuple_end (I.ok.hd hc) st (show s.heap.IsTuple a its.toArray from p) (by simp;omega) λh' eb=>⟨rfl,I.turned (t':=s.toks) (λb o hb e=>eb b o hb e) f0 f1 f3 f4 f5⟩
 self:=λ_ _ _ _ _ st h=>wpAny_pyIter_tupleiter st h
theorem jbX {P:Program}{w:World}{K:Frag}{tg:Expr}(it:Addr)(lo:Int)(n:Nat):Turn P w K tg (Itr lo n) [it] it (λi h=>IsRangeIter h it (lo+(i:Nat)*1) ((n:Int)-(i:Nat)) 1) where
 mem:=by simp
 obj:=λi h st b hb=>by
  have e:b=it:=by simpa using hb
  subst e
  exact⟨_,st,λv z=>by
   have z':Data.fields _=Data.cell v:=z;cases z'⟩
 keep:=λi h h' st k=>k it (by simp) _ st
 item:=by
  intro X hP hw hK hc i bF s σ H E I hf st hg;subst hP hw hK
  obtain⟨f0,f1,f2,f3,f4,f5⟩:=hf it (by simp)
  have W:=Walks.range (prog:=X.prog) (w:=X.w) (I.ok.hd hc) it lo 1 n;refine W.item i s _ _ hg st λv h' tk hv e9 kk=>?_
  obtain⟨t,rfl⟩:=hv
  have I1:Inv X bF σ H { s with heap:=h',toks:=tk }:=I.turned (λb o hb e=>kk b o (by simpa using hb) e) f0 f1 f3 f4 f5
  refine⟨_,rfl,jbg (s:={ s with heap:=h',toks:=tk }) (n:="range_iterator") e9 rfl rfl (by decide) ⟨.int (lo+i),H,I1,⟨t,?_⟩,⟨rfl,rfl⟩,e9,λb hb=>(hf b hb).1⟩⟩
  rw[Int.mul_one]
 done:=by
  intro X hP hw hK hc i bF s σ H E I hf st hg;subst hP hw hK
  obtain⟨f0,f1,f2,f3,f4,f5⟩:=hf it (by simp)
  exact wpAny_pyNext_range_end (I.ok.hd hc) st (by have:n<=i:=hg;omega) λh' eb=>⟨rfl,I.turned (t':=s.toks) (λb o hb e=>eb b o hb e) f0 f1 f3 f4 f5⟩
 self:=λ_ _ _ _ _ st h=>wpAny_pyIter_rangeiter st h
section
variable {X:Cx}{tg:Expr}
def jqo (K:Frag)(tl:TE):TI:=λσ H R=>tl σ H λx H1=>∃a,x= .ref a/\(∃xs,SqL K H1 a xs)/\R (Itl K a) H1
def jrq (K:Frag)(tl:TE):TI:=λσ H R=>tl σ H λx H1=>∃a,x= .ref a/\(∃xs,SqT K H1 a xs)/\R (Itt K a) H1
theorem jkx {l:Expr}{tl:TE}(hl:PE X l tl):PI X tg l (jqo X.K tl):=by
 intro bF s σ H R I h;refine thn (hl bF s σ H _ I h) λv s1 bH=>?_
 obtain⟨x,H1,I1,r1,q1⟩:=bH
 obtain⟨a,e,⟨xs,hq⟩,q⟩:=q1
 subst e;cases r1
 obtain⟨its,rv,p,hz⟩:=I1.list hq
 refine wpAny_pyIter_list p.isList ?_
 refine⟨s1.heap.objs.size,[s1.heap.objs.size],_,_,H1,rfl,I1.kept (t':=s1.toks) λb o e=>get?_push_of_some _ e,Vn a _,⟨_,get?_push_size _ rfl,rfl,rfl⟩,λb hb=>?_,q⟩
 have e:b=s1.heap.objs.size:=by simpa using hb
 subst e;exact I1.au (le_refl _) (I1.hok.fresh (le_refl _))
theorem jnn {l:Expr}{tl:TE}(hl:PE X l tl):PI X tg l (jrq X.K tl):=by
 intro bF s σ H R I h;refine thn (hl bF s σ H _ I h) λv s1 bH=>?_
 obtain⟨x,H1,I1,r1,q1⟩:=bH
 obtain⟨a,e,⟨xs,hq⟩,q⟩:=q1
 subst e;cases r1
 obtain⟨its,rv,p,hz⟩:=I1.tuple hq
 refine wpAny_pyIter_tuple (show s1.heap.IsTuple a its.toArray from p) ?_
 refine⟨s1.heap.objs.size,[s1.heap.objs.size],_,_,H1,rfl,I1.kept (t':=s1.toks) λb o e=>get?_push_of_some _ e,YT a _,⟨_,get?_push_size _ rfl,rfl,rfl⟩,λb hb=>?_,q⟩
 have e:b=s1.heap.objs.size:=by simpa using hb
 subst e;exact I1.au (le_refl _) (I1.hok.fresh (le_refl _))
theorem jhm {bF:tP0}{σ:St}{H:Hp}{s:Shared}{R:It->Hp->Prop}{E:tE0}{lo hi:Int}{t u v:Tok}{tk:Nat}(I:Inv X bF σ H s)(h1:-(2 ^ 62)<=lo)(h2:lo<2 ^ 62)(h3:-(2 ^ 62)<=hi)(h4:hi<2 ^ 62)(q:R (Itr lo (hi-lo).toNat) H):wpAny (model X.prog X.w) X.A (pyIter (.ref s.heap.objs.size)) (PIE X bF σ tg R) E { s with heap:=s.heap.push { cls:=.type "range",data:=.fields #[.int lo t,.int hi u,.int 1 v] },toks:=tk }:=by
 refine wpAny_pyIter_range (IsRange.new ..) (small_one h1 h2 h3 h4) ?_;have I1:Inv X bF σ H { s with heap:=s.heap.push { cls:=.type "range",data:=.fields #[.int lo t,.int hi u,.int 1 v] },toks:=tk }:=I.kept λb o e=>get?_push_of_some _ e
 refine⟨(s.heap.push { cls:=.type "range",data:=.fields #[.int lo t,.int hi u,.int 1 v] }).objs.size,[(s.heap.push { cls:=.type "range",data:=.fields #[.int lo t,.int hi u,.int 1 v] }).objs.size],_,_,H,rfl,
  I1.kept (t':=tk) λb o e=>get?_push_of_some _ e,jbX _ lo (hi-lo).toNat,?_,λb hb=>?_,q⟩
 ·have e1:lo+((0:Nat):Int)*1=lo:=by simp
  have e2:(((hi-lo).toNat:Nat):Int)-((0:Nat):Int)=Builtin.Range.rangeSize lo hi 1:=by rw[rangeSize_one];split <;> omega
  show IsRangeIter _ _ (lo+((0:Nat):Int)*1) ((((hi-lo).toNat:Nat):Int)-((0:Nat):Int)) 1;rw[e1,e2];exact get?_push_size _ rfl
 ·have e:b=(s.heap.push { cls:=.type "range",data:=.fields #[.int lo t,.int hi u,.int 1 v] }).objs.size:=by simpa using hb
  subst e;exact I1.au (le_refl _) (I1.hok.fresh (le_refl _))
def jqn (ta:TA):TI:=λσ H R=>ta σ H λvs H1=>∃j:Int,vs=[.int j]/\-(2 ^ 62)<=j/\j<2 ^ 62/\R (Itr 0 j.toNat) H1
theorem jfW {a:Expr}{ta:TA}{p pos:Pos}(hg:Gl X "range")(hm:X.mg "range" = none)(ha:PA X [a] ta)(hs:starEach [a] X.env=[(false,eval a X.env)]:=by rfl):PI X tg (.Call (.Name "range" p) [a] [] pos) (jqn ta):=by
 intro bF s σ H R I h;refine Call_ (JX I hg hm boot_range (PyProof.Rows.callWith_type1 (thn (ha pos bF s σ H _ I h) λus s1 bH=>?_) hs rfl))
 obtain⟨vs,H1,I1,r1,q1⟩:=bH
 obtain⟨j,e,q1,q2,q⟩:=q1
 subst e;cases r1 with
 |cons r rr=>
  cases rr
  obtain⟨t,rfl⟩:=r
  exact call_range_1 (jhm I1 (by omega) (by omega) q1 q2 (by simpa using q))
def jqW (wi:TI)(g:TG)(tb:TS):TS:=λD σ H=>wi σ H λJ H1=>∃W:Nat->Nat->St->Hp->Prop,(∃m,W 0 m σ H1)/\∀i m σ H,W i m σ H->
 (J.stop i H/\D.nx σ H)\/(J.go i H/\∃N:St->Hp->Prop,(∀σ' H',N σ' H'->∃m',m'<m/\W (i+1) m' σ' H')/\∀x H',J.yld i H x H'->g x σ H' λσ2 H2=>tb { D with nx:=N,ct:=N,bk:=D.nx } σ2 H2)
def Xp (fp:List Addr)(h:Heap):List (Addr×Obj):=fp.filterMap λb=>(h.get? b).map λo=>(b,o)
theorem yC {fp:List Addr}{h:Heap}{b:Addr}{o:Obj}(hb:b∈fp)(e:h.get? b=some o):(b,o)∈Xp fp h:=List.mem_filterMap.mpr ⟨b,hb,by rw[e];rfl⟩
theorem jfZ {fp:List Addr}{h:Heap}{p:Addr×Obj}(hp:p∈Xp fp h):p.1∈fp/\h.get? p.1=some p.2:=by
 obtain⟨b,hb,e⟩:=List.mem_filterMap.mp hp
 cases q:h.get? b with
 |none=>rw[q]at e;cases e
 |some o=>
  rw[q]at e;have e':(b,o)=p:=Option.some.inj e;subst e'
  exact⟨hb,q⟩
theorem Inv.pinned {bF:tP0}{σ:St}{H:Hp}{s:Shared}{fp:List Addr}(I:Inv X bF σ H s)(hf:∀b∈fp,xb X bF H b)(ho:∀b∈fp,∃o,s.heap.get? b=some o/\∀v,o.data≠.cell v):Inv X (bF++Xp fp s.heap) σ H s:=
 I.aL λp hp=>(List.mem_append.mp hp).elim (λz=>I.pin p (mem_append_right _ z)) λz=>by
  obtain⟨hb,e⟩:=jfZ z
  obtain⟨f0,f1,f2,_⟩:=hf p.1 hb
  obtain⟨o,e',d⟩:=ho p.1 hb
  rw[e]at e';cases e'
  exact⟨e,f0,f1,f2,d⟩
theorem Inv.aj {bF pl:tP0}{σ:St}{H:Hp}{s:Shared}(I:Inv X (bF++pl) σ H s):Inv X bF σ H s:=I.aL λp hp=>I.pin p (mem_append_right _ (List.mem_append_left _ hp))
theorem jnj {iter:Expr}{body:List Stmt}{wi:TI}{g:TG}{tb:TS}{pos:Pos}(hp:PassesOwn (model X.prog X.w) X.A X.env X.xe)(hc:X.calm=true)(hi:PI X tg iter wi)(hg:PG X tg g)(hb:PSs X body tb)(hs:∀x,foldedSetIterable iter X.env x=pure x:=by intro _;rfl):PS X (.For tg iter body [] pos) (jqW wi g tb):=by
 intro bF s σ H D I h;refine wpAny_For (thn (hi bF s σ H _ I h) λv s1 h1=>thn h1 λiw s2 h2=>?_) hs
 obtain⟨it,fp,tn,J,H2,e,I2,T,fE,f2,W,⟨m0,w0⟩,bZ⟩:=h2
 subst e
 -- what stays true of the iterator's objects through the c5
 have eS:∀{H':Hp},(∀b∈fp,H' b=none)->∀b∈fp,xb X bF H' b:=λhn b hb=>⟨hn b hb,(f2 b hb).2⟩
 refine codeAny_forLoop_any (λn s'=>∃i σ' H',Inv X bF σ' H' s'/\tn i s'.heap/\(∀b∈fp,H' b=none)/\W i n σ' H') ?_ m0 ⟨0,σ,H2,I2,fE,λb hb=>(f2 b hb).1,w0⟩;rintro n s3 ⟨i,σ3,H3,I3,j3,kH,w3⟩;rcases bZ i n σ3 H3 w3 with⟨stop,qn⟩|⟨go,N,hN,step⟩
 ·refine wpAny_passesOwn hp (thn (T.done X rfl rfl rfl hc i bF s3 σ3 H3 X.xe I3 (eS kH) j3 stop) λr s4 bH=>?_)
  obtain⟨hr,I4⟩:=bH
  subst hr;exact wpAny_execs_nil ⟨σ3,H3,I4,qn⟩
 ·refine wpAny_passesOwn hp (thn (T.item X rfl rfl rfl hc i bF s3 σ3 H3 X.xe I3 (eS kH) j3 go) λr s4 bH=>?_)
  obtain⟨u,hr,h4⟩:=bH
  subst hr;refine wpAny_passesOwn hp (thn h4 λ_ s5 bH=>?_)
  obtain⟨x,H5,I5,r5,y5,eJ,fI⟩:=bH
  have i6:=I5.pinned (eS fI) (T.obj _ _ eJ);refine wpAny_passesOwn hp (thn (hg _ s5 σ3 H5 x u _ i6 r5 (step x H5 y5)) λ_ s6 bH=>?_)
  obtain⟨σ6,H6,I6,q6⟩:=bH
  refine wpAny_passesOwn hp (thn (hb _ s6 σ6 H6 _ I6 q6) λf s7 q7=>?_);have again:∀{σ7:St}{H7:Hp},Inv X (bF++Xp fp s5.heap) σ7 H7 s7->N σ7 H7->∃m,m<n/\∃i σ' H',Inv X bF σ' H' s7/\tn i s7.heap/\(∀b∈fp,H' b=none)/\W i m σ' H':=λ{σ7 H7} I7 n7=>by
   obtain⟨m',hm,w7⟩:=hN σ7 H7 n7
   refine⟨m',hm,i+1,σ7,H7,I7.aj,T.keep _ _ _ eJ λb hb o e=>(I7.pin (b,o) (mem_append_right _ (mem_append_right _ (yC hb e)))).1,λb hb=>?_,w7⟩
   obtain⟨o,e,d⟩:=T.obj _ _ eJ b hb
   exact(I7.pin (b,o) (mem_append_right _ (mem_append_right _ (yC hb e)))).2.1
  cases f with
  |next=>obtain⟨σ7,H7,I7,n7⟩:=q7;exact again I7 n7
  |cont=>obtain⟨σ7,H7,I7,n7⟩:=q7;exact again I7 n7
  |brk=>obtain⟨σ7,H7,I7,q7⟩:=q7;exact⟨σ7,H7,I7.aj,q7⟩
  |ret v=>obtain⟨x7,σ7,H7,I7,r7,q7⟩:=q7;exact⟨x7,σ7,H7,I7.aj,r7,q7⟩
end
abbrev R2:=V->V->Hp->VK->Prop
def OpR (X:Cx)(f:Value->Value->Sem Value)(r:R2):Prop:=
 ∀(bF:tP0) (s:Shared) (σ:St) (H:Hp) (x y:V) (v u:Value) (Q:VK),Inv X bF σ H s->RelV x v->RelV y u->r x y H Q->
  wpAny (model X.prog X.w) X.A (f v u) (EP X bF σ Q) X.xe s
def UnR (X:Cx)(f:Value->Sem Value)(r:V->Hp->VK->Prop):Prop:=
 ∀(bF:tP0) (s:Shared) (σ:St) (H:Hp) (x:V) (v:Value) (Q:VK),Inv X bF σ H s->RelV x v->r x H Q->
  wpAny (model X.prog X.w) X.A (f v) (EP X bF σ Q) X.xe s
def yK (X:Cx)(f:Value)(r:List V->Hp->VK->Prop):Prop:=
 ∀(bF:tP0) (s:Shared) (σ:St) (H:Hp) (xs:List V) (us:List Value) (Q:VK),Inv X bF σ H s->yg xs us->r xs H Q->
  wpAny (model X.prog X.w) X.A (call f us) (EP X bF σ Q) X.xe s
def jrG (X:Cx)(r:V->Hp->(Bool->Hp->Prop)->Prop):Prop:=
 ∀(bF:tP0) (s:Shared) (σ:St) (H:Hp) (x:V) (v:Value) (Q:Bool->Hp->Prop),Inv X bF σ H s->RelV x v->r x H Q->
  wpAny (model X.prog X.w) X.A (truthy v) (TP X bF σ Q) X.xe s
def tOp (r:R2)(ta tb:TE):TE:=λσ H Q=>ta σ H λx H1=>tb σ H1 λy H2=>r x y H2 Q
def tUn (r:V->Hp->VK->Prop)(ta:TE):TE:=λσ H Q=>ta σ H λx H1=>r x H1 Q
def rI (C:Int->Int->Prop)(g:Int->Int->V):R2:=λx y H Q=>∃i j,x= .int i/\y= .int j/\C i j/\Q (g i j) H
def rI0 (g:Int->Int->V):R2:=λx y H Q=>∃i j,x= .int i/\y= .int j/\Q (g i j) H
def rU (g:Int->V):V->Hp->VK->Prop:=λx H Q=>∃i,x= .int i/\Q (g i) H
section
variable {X:Cx}{a b:Expr}{ta tb:TE}{pos:Pos}
theorem joZ (ha:PE X a ta)(hb:PE X b tb){bF:tP0}{s:Shared}{σ:St}{H:Hp}{R:V->V->Hp->Prop}(I:Inv X bF σ H s)(h:ta σ H λx H1=>tb σ H1 λy H2=>R x y H2) {Q:tE0}{f:Value->Value->Sem Value}(hf:∀v u s2 x y H2,Inv X bF σ H2 s2->RelV x v->RelV y u->R x y H2->wpAny (model X.prog X.w) X.A (f v u) Q X.xe s2) :
  wpAny (model X.prog X.w) X.A (eval a X.env) (λv b6=>wpAny (model X.prog X.w) X.A (eval b X.env) (λu b9=>wpAny (model X.prog X.w) X.A (f v u) Q X.xe b9) X.xe b6) X.xe s:=by
 refine thn (ha bF s σ H _ I h) λv s1 bH=>?_
 obtain⟨x,H1,I1,r1,q1⟩:=bH
 refine thn (hb bF s1 σ H1 _ I1 q1) λu s2 bH=>?_
 obtain⟨y,H2,I2,r2,q2⟩:=bH
 exact hf v u s2 x y H2 I2 r1 r2 q2
theorem jpO {op:Operator}{r:R2}(ho:OpR X (binaryOp op) r)(ha:PE X a ta)(hb:PE X b tb):PE X (.BinOp a op b pos) (tOp r ta tb):=by
 intro bF s σ H Q I h;exact wpAny_BinOp (joZ ha hb I h λv u s2 x y H2 I2 rx ry q=>ho bF s2 σ H2 x y v u Q I2 rx ry q)
theorem jpN {op:UnaryOp}{r:V->Hp->VK->Prop}(ho:UnR X (unaryOp op) r)(ha:PE X a ta):PE X (.UnaryOp op a pos) (tUn r ta):=by
 intro bF s σ H Q I h;exact UnaryOp_ (thn (ha bF s σ H _ I h) λv s1 ⟨x,H1,I1,r1,q1⟩=>ho bF s1 σ H1 x v Q I1 r1 q1)
theorem opI {f:Value->Value->Sem Value}{C:Int->Int->Prop}{g:Int->Int->Int}(rule:∀(i j:Int) (t u:Tok) (s:Shared) (Q:tE0) (E:tE0),C i j->Q (.int (g i j) s.toks) { s with toks:=s.toks+1 }->wpAny (model X.prog X.w) X.A (f (.int i t) (.int j u)) Q E s) :
  OpR X f (rI C λi j=>.int (g i j)):=by
 intro bF s σ H x y v u Q I rx ry h
 obtain⟨i,j,rfl,rfl,hc,q⟩:=h
 obtain⟨t,rfl⟩:=rx
 obtain⟨t',rfl⟩:=ry
 exact rule i j t t' s _ _ hc ⟨.int (g i j),H,I.tok _,⟨_,rfl⟩,q⟩
theorem jpW {f:Value->Value->Sem Value}{g:Int->Int->Int}(rule:∀(i j:Int) (t u:Tok) (s:Shared) (Q:tE0) (E:tE0),Q (.int (g i j) s.toks) { s with toks:=s.toks+1 }->wpAny (model X.prog X.w) X.A (f (.int i t) (.int j u)) Q E s) :
  OpR X f (rI0 λi j=>.int (g i j)):=by
 intro bF s σ H x y v u Q I rx ry h
 obtain⟨i,j,rfl,rfl,q⟩:=h
 obtain⟨t,rfl⟩:=rx
 obtain⟨t',rfl⟩:=ry
 exact rule i j t t' s _ _ ⟨.int (g i j),H,I.tok _,⟨_,rfl⟩,q⟩
theorem jkF {f:Value->Value->Sem Value}{g:Int->Int->Bool}(rule:∀(i j:Int) (t u:Tok) (s:Shared) (Q:tE0) (E:tE0),Q (.bool (g i j)) s->wpAny (model X.prog X.w) X.A (f (.int i t) (.int j u)) Q E s) :
  OpR X f (rI0 λi j=>.bl (g i j)):=by
 intro bF s σ H x y v u Q I rx ry h
 obtain⟨i,j,rfl,rfl,q⟩:=h
 obtain⟨t,rfl⟩:=rx
 obtain⟨t',rfl⟩:=ry
 exact rule i j t t' s _ _ ⟨.bl (g i j),H,I,rfl,q⟩
def jrJ (i j:Int):Prop:=0<j/\j<1073741824
def jrI (i j:Int):Prop:=0<=j/\j<=1000000/\i.natAbs<2 ^ 64
def jpi (i j:Int):Prop:=(-(2 ^ 64)<i/\i<2 ^ 64)\/(-(2 ^ 64)<j/\j<2 ^ 64)
theorem jpi.ok {i j:Int}(h:jpi i j):IntMulOk i j:=by
 rcases h with⟨h1,h2⟩|⟨h1,h2⟩
 ·exact .of_left (intBits_le_64 h1 h2)
 ·exact .of_right (intBits_le_64 h1 h2)
theorem jnD:OpR X (binaryOp .Add) (rI0 λi j=>.int (i+j)):=jpW λ_ _ _ _ _ _ _ q=>add_int q
theorem jnw:OpR X (binaryOp .Sub) (rI0 λi j=>.int (i-j)):=jpW λ_ _ _ _ _ _ _ q=>sub_int q
theorem jnA:OpR X (binaryOp .Mult) (rI jpi λi j=>.int (i*j)):=opI λ_ _ _ _ _ _ _ hc q=>mul_int q hc.ok
theorem jkD:OpR X (binaryOp .FloorDiv) (rI jrJ λi j=>.int (i/j)):=opI λi j _ _ _ _ _ hc q=>by
 have h1:(0:Int)<j:=hc.1;have h2:j<1073741824:=hc.2;exact floordiv_int (by omega) (by rw[Int.fdiv_eq_ediv_of_nonneg i (by omega)];exact q) (.inl (PyProof.noPylong_small (by omega)))
theorem jnB:OpR X (binaryOp .Mod) (rI (λ_ j=>0<j) λi j=>.int (i%j)):=opI λi j _ _ _ _ _ hc q=>by
 have h1:(0:Int)<j:=hc;exact mod_int' (by omega) (by rw[Int.fmod_eq_emod_of_nonneg i (by omega)];exact q)
theorem jny:OpR X (binaryOp .Pow) (rI jrI λi j=>.int (i ^ j.toNat)):=opI λ_ _ _ _ _ _ _ hc q=>pow_int_small hc.1 hc.2.1 hc.2.2 q
theorem unI {f:Value->Sem Value}{g:Int->Int}(rule:∀(i:Int) (t:Tok) (s:Shared) (Q:tE0) (E:tE0),Q (.int (g i) s.toks) { s with toks:=s.toks+1 }->wpAny (model X.prog X.w) X.A (f (.int i t)) Q E s) :
  UnR X f (rU λi=>.int (g i)):=by
 intro bF s σ H x v Q I rx h
 obtain⟨i,rfl,q⟩:=h
 obtain⟨t,rfl⟩:=rx
 exact rule i t s _ _ ⟨.int (g i),H,I.tok _,⟨_,rfl⟩,q⟩
theorem jmi:UnR X (unaryOp .USub) (rU λi=>.int (-i)):=unI λ_ _ _ _ _ q=>neg_int q
end
section
variable {X:Cx}{a b c:Expr}{ta tb tc:TE}{pos:Pos}
theorem jpS:OpR X (compareOp .Lt) (rI0 λi j=>.bl (decide (i<j))):=jkF λ_ _ _ _ _ _ _ q=>lt_int q
theorem jpT:OpR X (compareOp .LtE) (rI0 λi j=>.bl (decide (i<=j))):=jkF λ_ _ _ _ _ _ _ q=>le_int q
theorem jpU:OpR X (compareOp .Gt) (rI0 λi j=>.bl (decide (j<i))):=jkF λ_ _ _ _ _ _ _ q=>gt_int q
theorem jpV:OpR X (compareOp .GtE) (rI0 λi j=>.bl (decide (j<=i))):=jkF λ_ _ _ _ _ _ _ q=>ge_int q
theorem OpR.or {f:Value->Value->Sem Value}{r r':R2}(h:OpR X f r)(h':OpR X f r'):OpR X f (λx y H Q=>r x y H Q\/r' x y H Q):=by
 intro bF s σ H x y v u Q I rx ry q;rcases q with q|q
 ·exact h bF s σ H x y v u Q I rx ry q
 ·exact h' bF s σ H x y v u Q I rx ry q
theorem jS (b:Expr){op:CmpOp}(h:op≠.In:=by decide)(h2:op≠.NotIn:=by decide):behindInMarks op b=false:=by
 have e1:(op==CmpOp.In)=false:=by cases op <;> first|rfl|exact absurd rfl h
 have e2:(op==CmpOp.NotIn)=false:=by cases op <;> first|rfl|exact absurd rfl h2
 cases b <;> simp[behindInMarks,e1,e2]
theorem jkB {op:CmpOp}{r:R2}(ho:OpR X (compareOp op) r)(ha:PE X a ta)(hb:PE X b tb)(hm:behindInMarks op b=false):PE X (.Compare a [op] [b] pos) (tOp r ta tb):=by
 intro bF s σ H Q I h;exact wpAny_Compare1 (joZ ha hb I h λv u s2 x y H2 I2 rx ry q=>ho bF s2 σ H2 x y v u Q I2 rx ry q) hm
def jps (t:TE):TT:=λσ H Q=>t σ H λx H'=>∃k,x= .bl k/\Q k H'
theorem jko {op:CmpOp}{r:R2}(ho:OpR X (compareOp op) r)(ha:PE X a ta)(hb:PE X b tb)(hm:behindInMarks op b=false):PT X (.Compare a [op] [b] pos) (jps (tOp r ta tb)):=by
 intro bF s σ H Q I h;refine wpAny_isTrue_Compare1 (thn (ha bF s σ H _ I h) λv s1 ⟨x,H1,I1,r1,q1⟩=>thn (hb bF s1 σ H1 _ I1 q1) λu s2 ⟨y,H2,I2,r2,q2⟩=>
  thn (ho bF s2 σ H2 x y v u _ I2 r1 r2 q2) λc s3 ⟨z,H3,I3,r3,k,e,q3⟩=>?_) hm
 subst e;cases r3;exact wpAny_truthy_bool ⟨H3,I3,q3⟩
def jgR (r r':R2)(ta tb tc:TE):TE:=λσ H Q=>ta σ H λx H1=>tb σ H1 λy H2=>r x y H2 λz H3=>∃k,z= .bl k /\
 (if k=true then tc σ H3 λw' H4=>r' y w' H4 Q else Q (.bl false) H3)
theorem jhS {op ij:CmpOp}{r r':R2}(ho:OpR X (compareOp op) r)(dj:OpR X (compareOp ij) r')(ha:PE X a ta)(hb:PE X b tb)(hc:PE X c tc)(hm:lastMarks [op,ij] [b,c]=false:=by with_unfolding_all rfl):PE X (.Compare a [op,ij] [b,c] pos) (jgR r r' ta tb tc):=by
 intro bF s σ H Q I h;refine Compare_chain (thn (ha bF s σ H _ I h) λv s1 ⟨x,H1,I1,r1,q1⟩=>chain_link (thn (hb bF s1 σ H1 _ I1 q1) λu s2 ⟨y,H2,I2,r2,q2⟩=>
  thn (ho bF s2 σ H2 x y v u _ I2 r1 r2 q2) λd s3 ⟨z,H3,I3,r3,k,e,q3⟩=>?_)) hm
 subst e;cases r3;refine wpAny_truthy_bool ?_;cases k with
 |false=>exact ite_ff ⟨.bl false,H3,I3,rfl,q3⟩
 |true=>exact ite_tt (chain_last (thn (hc bF s3 σ H3 _ I3 q3) λw' s4 ⟨z',H4,I4,r4,q4⟩=>dj bF s4 σ H4 y z' u w' Q I4 r2 r4 q4))
def jpb (K:Frag)(x:V)(H:Hp)(k:Bool):Prop:=
 match x with
 |.non=>k=false
 |.bl b=>k=b
 |.int i=>k=(i != 0)
 |.str y=>y.length<=sizeLine/\k=((y.length:Int) != 0)
 |.byt y=>y.size<=sizeLine/\k=((y.size:Int) != 0)
 |.ref p=>(∃xs,SqL K H p xs/\k= !xs.isEmpty)\/(∃xs,SqT K H p xs/\k= !xs.isEmpty)\/∃kvs,H p=some (.dK kvs)/\k= !kvs.isEmpty
 |_=>False
theorem jcI {κ:Type}{kvs:List (κ×V)}{vs:List (κ×Value)}(r:KV kvs vs):(!vs.isEmpty)= !kvs.isEmpty:=by
 cases r <;> rfl
theorem XB {xs:List V}{its:List Value}(r:yg xs its):(!its.toArray.isEmpty)= !xs.isEmpty:=by
 cases r <;> simp
theorem Xx:(sizeLine:Nat)<2 ^ 63:=by rw[sizeLine_eq];decide
theorem jmm:jrG X (λx H Q=>∃k,jpb X.K x H k/\Q k H):=by
 intro bF s σ H x v Q I rx h
 obtain⟨k,e,q⟩:=h
 have hl:=Xx;have hs:sizeLine=16777216:=sizeLine_eq;cases x with
 |non=>
  cases rx;have e':k=false:=e;subst e';exact truthy_none ⟨H,I,q⟩
 |bl b=>
  cases rx;have e':k=b:=e;subst e';exact wpAny_truthy_bool ⟨H,I,q⟩
 |int i=>
  obtain⟨t,rfl⟩:=rx
  have e':k=(i != 0):=e;subst e';exact PySem.P.truthy_int ⟨H,I,q⟩
 |str y=>
  obtain⟨t,rfl⟩:=rx
  obtain⟨hy,e'⟩:y.length<=sizeLine/\k=((y.length:Int) != 0):=e
  subst e';exact PySem.P.truthy_str (by omega) ⟨H,I.tok _,q⟩
 |byt y=>
  obtain⟨t,rfl⟩:=rx
  obtain⟨hy,e'⟩:y.size<=sizeLine/\k=((y.size:Int) != 0):=e
  subst e';exact PySem.W.truthy_bytes (by omega) ⟨H,I.tok _,q⟩
 |ref p=>
  cases rx;have e':(∃xs,SqL X.K H p xs/\k= !xs.isEmpty)\/(∃xs,SqT X.K H p xs/\k= !xs.isEmpty)\/∃kvs,H p=some (.dK kvs)/\k= !kvs.isEmpty:=e;rcases e' with⟨xs,hx,e'⟩|⟨xs,hx,e'⟩|⟨kvs,hx,e'⟩
  ·subst e'
   obtain⟨its,r,pl,hz⟩:=I.list hx
   have bM:=r.length;exact wpAny_truthy_list pl.isList (by simp only[size_toArray];omega) ⟨H,I.tok _,by rw[XB r];exact q⟩
  ·subst e'
   obtain⟨its,r,pl,hz⟩:=I.tuple hx
   have bM:=r.length;exact truthy_tuple pl (by simp only[size_toArray];omega) ⟨H,I.tok _,by rw[XB r];exact q⟩
  ·subst e'
   obtain⟨hz,hS,vs,r,m⟩:kvs.length<=sizeLine/\(p==sysModules)=false/\∃vs,KV kvs vs/\s.heap.DictOf (ye X.prog X.w) p vs:=I.hok p _ hx
   have bM:kvs.length=vs.length:=Paired.length r;exact wpAny_truthy_dict hS m (by omega) ⟨H,I.tok _,by rw[jcI r];exact q⟩
 |_=>exact(show False from e).elim
theorem vals1 {x:V}{us:List Value}(r:yg [x] us):∃u,us=[u]/\RelV x u:=by
 cases r with
 |cons r1 r2=>cases r2;exact⟨_,rfl,r1⟩
theorem vals2 {x y:V}{us:List Value}(r:yg [x,y] us):∃u w',us=[u,w']/\RelV x u/\RelV y w':=by
 cases r with
 |cons r1 r2=>
  cases r2 with
  |cons r3 r4=>cases r4;exact⟨_,_,rfl,r1,r3⟩
end
structure ObjM (h:Heap)(x dx C:Addr)(mA:tM0):Prop where
 obj:h.get? x=some (instObj C dx)
 ns:h.Ns1 dx mA
 ne:dx≠x
theorem jge {h:Heap}{dx:Addr}{mA:tM0}(n:h.Ns1 dx mA):∃od,h.get? dx=some od/\∀name,lookIn name od=some (mA name):=by
 obtain⟨o,es,ep,ho,hd,hk,_,hm⟩:=n
 refine⟨o,ho,λname=>?_⟩
 have e:=hm name;unfold nsFind findBy at e;rw[<-Array.find?_toList]at e;unfold lookIn;rw[hd];dsimp only;split
 ·rename_i y q;rw[q]at e;exact congrArg some e
 ·rename_i q;rw[q]at e;have a:es.toList.any (·.refKey)=false:=by
   rw[List.any_eq_false];intro y hy
   obtain⟨z,t,dU⟩:=hk y (Array.mem_toList_iff.mp hy)
   simp[DictEntry.refKey,dU]
  have a':¬ es.toList.any (·.refKey)=true:=by rw[a];exact Bool.false_ne_true
  rw[if_neg a'];exact congrArg some e
theorem ObjM.look {h:Heap}{x dx C:Addr}{mA:tM0}(I:ObjM h x dx C mA):∃od,PySem.W.InstAt h x (instObj C dx) C (some od)/\∀name,lookIn name od=some (mA name):=
 let ⟨od,ho,hl⟩:=jge I.ns
 ⟨od,⟨I.obj,rfl,rfl,ho⟩,hl⟩
section
variable {prog:Program}{w:World}{A:Around}{E:tE0}{s:Shared}{K:Frag}{x dx C f:Addr}{mA:tM0}{name:Str}{v:Value}
theorem jkV {expr:Bool}{Q:tE0}(X:K.In s.heap)(I:ObjM s.heap x dx C mA)(hg:plainGet K C name=true)(hh:hasDictIn K C=true)(ha:findIn K (.ref C) name=some none) (hv:mA name=some v) (hv':handedIn v=true) (h:Q v { s with toks:=s.toks+1 }) :
  wpAny (model prog w) A (getAttr (.ref x) name expr) Q E s:=by
 obtain⟨od,J,hl⟩:=I.look
 exact PySem.W.get_value X J (plainGet_of hg).1 (PySem.W.findObj_own hh ha rfl (by rw[hl,hv])) hv' h
theorem jiz {pl:Sem Bool}{Q:Value×List Value->Shared->Prop}(X:K.In s.heap)(I:ObjM s.heap x dx C mA)(hg:plainGet K C name=true)(hf:findIn K (.ref C) name=some (some (.ref f))) (ht:isFn K (.ref f)=true) (hv:mA name=none) (h:Q (.ref f,[.ref x]) s) :
  wpAny (model prog w) A (getMethod (.ref x) name pl) Q E s:=by
 obtain⟨od,J,hl⟩:=I.look
 exact PySem.W.method_fn X J (plainGet_of hg).1 (plainGet_of hg).2 hf (beq_iff_eq.mp ht) (by show(lookIn name od).map (·.isSome)=some false;rw[hl,hv];rfl) h
theorem jjZ {ns:List Str}{Q:Unit->Shared->Prop}(X:K.In s.heap)(I:ObjM s.heap x dx C mA)(hs:findIn K (.ref C) "__setattr__" = some (some (.builtin "object.__setattr__"))) (hp:plainOver K C=true) (ht:takerIn K C name=some none) (hh:hasDictIn K C=true)(hw:PySem.Within mA ns) (hsz:ns.length<=sizeLine)(h:∀h',ObjM h' x dx C (λy=>if y=name then some v else mA y)->SameBut dx s.heap h'->Q () { s with heap:=h',toks:=s.toks+2 }) :
  wpAny (model prog w) A (setAttr (.ref x) name v) Q E s:=by
 obtain⟨od,J,hl⟩:=I.look
 refine PySem.W.set_plain X J hs (PySem.W.osa_open (s:={ s with toks:=s.toks+1 }) (r:=none) X J hp ht λb=>?_)
 obtain⟨cd,hc,fH⟩:=PySem.W.any_some hh
 have hx:s.heap.get? x=some ⟨.ref C,some dx,.plain,#[]⟩:=I.obj;refine wpAny_bind (wpAny_pure (wpAny_bind (wpAny_bind (wpAny_loadPart hx (wpAny_bind (PySem.W.Looks.here (s:={ s with toks:=s.toks+1 }) (PySem.W.looks_clsIn X hc) ?_))))));rw[fH];refine wpAny_pure (a:=some dx) (wpAny_bind (wpAny_pure (wpAny_bind ?_)));refine wpAny_nsSet1 (s:={ s with toks:=s.toks+1 }) I.ns λh' iE cY=>?_
 obtain⟨oD,esD,epD,hoD,hdD,hcD⟩:=iE.count (PySem.Within.cons name v hw)
 refine wpAny_bind (wpAny_lookBehind hoD (by rw[hdD];exact pastItsLine_dict (le_trans hcD (by rw[length_cons];omega))) ?_);exact wpAny_pure (h _ ⟨(cY.2 _ (Ne.symm I.ne)).trans I.obj,iE,I.ne⟩ cY)
theorem jic {R:Result->Shared->Prop}{vs:List Value}{kw:List (Str×Value)}(X:K.In s.heap)(hm:makesIn K C=true)(hi:findIn K (.ref C) "__init__" = some (some (.ref f))) (hf:PySem.W.typeIn K (.ref f)=some (.type "function"))(h:codeAny (model prog w) (A.under (.builtin "type.__call__" ⟨.ref C::vs,kw⟩)) (.call (.ref f) ⟨.ref (s.heap.objs.size+1)::vs,kw⟩) (PySem.W.InitBack (s.heap.objs.size+1) R)
   { s with heap:=(s.heap.push emptyDict).push (instObj C s.heap.objs.size) }) :
  codeAny (model prog w) A (.call (.ref C) ⟨vs,kw⟩) R s:=by
 obtain⟨hh,g,d,t,os⟩:=s
 exact PySem.W.make_core (PySem.W.makes_of X hm) (PySem.W.looks_findIn X hi) (λself=>PySem.W.bind_fn X self hf) (.inl rfl) h
end
def vB (f:Str)(v:V):List (Str×V)->List (Str×V)
 |[]=>[(f,v)]
 |(g,x)::r=>if g=f then(g,v)::r else(g,x)::vB f v r
theorem Yu (f g:Str)(v:V):∀fs:List (Str×V),(vB f v fs).lookup g=if g=f then some v else fs.lookup g
 |[]=>by
  show List.lookup g [(f,v)]=_
  by_cases h:g=f
  ·have hb:(g==f)=true:=beq_iff_eq.mpr h;simp only[List.lookup,hb,if_pos h]
  ·have hb:(g==f)=false:=beq_eq_false_iff_ne.mpr h;simp only[List.lookup,hb,if_neg h]
 |(k,x)::r=>by
  have ih:=Yu f g v r;rw[show vB f v ((k,x)::r)=(if k=f then(k,v)::r else(k,x)::vB f v r)from rfl]
  by_cases hk:k=f
  ·rw[if_pos hk]
   by_cases h:g=k
   ·have hb:(g==k)=true:=beq_iff_eq.mpr h;simp only[List.lookup,hb,if_pos (h.trans hk)]
   ·have hb:(g==k)=false:=beq_eq_false_iff_ne.mpr h;simp only[List.lookup,hb,if_neg (λe:g=f=>h (e.trans hk.symm))]
  ·rw[if_neg hk]
   by_cases h:g=k
   ·have hb:(g==k)=true:=beq_iff_eq.mpr h;simp only[List.lookup,hb,if_neg (λe:g=f=>hk (h.symm.trans e))]
   ·have hb:(g==k)=false:=beq_eq_false_iff_ne.mpr h;simp only[List.lookup,hb];exact ih
theorem JY (f:Str)(v:V):∀fs:List (Str×V),f∈(vB f v fs).map (·.1)/\∀g,g∈fs.map (·.1)->g∈(vB f v fs).map (·.1)
 |[]=>⟨by simp[vB],λg h=>by simp at h⟩
 |(k,x)::r=>by
  obtain⟨i1,i2⟩:=JY f v r
  rw[show vB f v ((k,x)::r)=(if k=f then(k,v)::r else(k,x)::vB f v r)from rfl]
  by_cases hk:k=f
  ·rw[if_pos hk];subst hk
   exact⟨by simp,λg h=>by simpa using h⟩
  ·rw[if_neg hk]
   refine⟨?_,λg h=>?_⟩
   ·rw[map_cons];exact mem_cons_of_mem _ i1
   ·rw[map_cons]at h ⊢;rcases List.mem_cons.mp h with e|e
    ·exact List.mem_cons.mpr (.inl e)
    ·exact mem_cons_of_mem _ (i2 g e)
theorem Yv (f:Str)(v:V):∀fs:List (Str×V),(vB f v fs).length<=fs.length+1
 |[]=>by simp[vB]
 |(k,x)::r=>by
  have ih:=Yv f v r;rw[show vB f v ((k,x)::r)=(if k=f then(k,v)::r else(k,x)::vB f v r)from rfl]
  by_cases hk:k=f
  ·rw[if_pos hk,length_cons,length_cons];omega
  ·rw[if_neg hk,length_cons,length_cons];omega
theorem ux.some_of {v:V}{o:Option Value}(r:ux (some v) o):∃u,o=some u/\RelV v u:=by
 cases o with
 |none=>exact(show False from r).elim
 |some u=>exact⟨u,rfl,r⟩
theorem ux.none_of {o:Option Value}(r:ux none o):o=none:=by
 cases o with
 |none=>rfl
 |some u=>exact(show False from r).elim
theorem jgm {v:V}{u:Value}(r:RelV v u):handedIn u=true:=by
 cases v with
 |non=>cases (show u=Value.none from r);rfl
 |bl b=>cases (show u=Value.bool b from r);rfl
 |int i=>obtain⟨t,e⟩:=(show ∃t,u=Value.int i t from r);cases e;rfl
 |str x=>obtain⟨t,e⟩:=(show ∃t,u=Value.str x t from r);cases e;rfl
 |byt b=>obtain⟨t,e⟩:=(show ∃t,u=Value.bytes b t from r);cases e;rfl
 |flt b=>obtain⟨t,e⟩:=(show ∃t,u=Value.float b t from r);cases e;rfl
 |ref a=>cases (show u=Value.ref a from r);rfl
 |ty n=>cases (show u=Value.type n from r);rfl
section
variable {P:Program}{w:World}{H:Hp}{h:Heap}{a C dx:Addr}{fs:List (Str×V)}
theorem UJ (hok:HOk P w H h)(e:H a=some (.ins C dx fs)):∃mA,ObjM h a dx C mA/\(∀f,ux (fs.lookup f) (mA f))/\PySem.Within mA (fs.map (·.1))/\fs.length<=1000/\H dx=some (.own a):=by
 obtain⟨d,z,ne,ob,mA,n,r,q⟩:=(show yl P w H h a (.ins C dx fs)from hok a _ e)
 exact⟨mA,⟨ob,n,ne⟩,r,q,z,d⟩
end
structure Cls (K:Frag)(C:Addr):Prop where
 pg:plainGet K C Str.empty=true
 hd:hasDictIn K C=true
 po:plainOver K C=true
 sa:findIn K (.ref C) "__setattr__" = some (some (.builtin "object.__setattr__"))
theorem Cls.get {K:Frag}{C:Addr}(c:Cls K C)(f:Str):plainGet K C f=true:=c.pg
def jn (K:Frag)(C:Addr)(f:Str):Prop:=findIn K (.ref C) f=some none
theorem jn.a9 {K:Frag}{C:Addr}{f:Str}(n:jn K C f):takerIn K C f=some none:=by
 unfold takerIn;rw[show findIn K (.ref C) f=some none from n];rfl
structure Meth (K:Frag)(C:Addr)(m:Str)(f:Addr):Prop where
 at_:findIn K (.ref C) m=some (some (.ref f))
 fn:isFn K (.ref f)=true
 kp:keepIn K (.ref f)=true
section
variable {X:Cx}{bF:tP0}{σ:St}{H:Hp}{s:Shared}{a C dx:Addr}{fs:List (Str×V)}{f:Str}{v:V}{A:Around}{E:tE0}
theorem jcP {b:Bool}{Q:tE0}(I:Inv X bF σ H s)(e:H a=some (.ins C dx fs))(c:Cls X.K C)(n:jn X.K C f)(l:fs.lookup f=some v)(h:∀u s',Inv X bF σ H s'->RelV v u->Q u s'):wpAny (model X.prog X.w) A (getAttr (.ref a) f b) Q E s:=by
 obtain⟨mA,O,r,_,_,_⟩:=UJ I.hok e
 obtain⟨u,hu,ru⟩:=ux.some_of (v:=v) (o:=mA f) (by rw[<-l];exact r f)
 exact jkV I.aI O (c.get f) c.hd n hu (jgm ru) (h u _ (I.tok _) ru)
theorem jcO {m:Str}{g:Addr}{pl:Sem Bool}{Q:Value×List Value->Shared->Prop}(I:Inv X bF σ H s)(e:H a=some (.ins C dx fs))(c:Cls X.K C)(k:Meth X.K C m g)(l:fs.lookup m=none)(h:Q (.ref g,[.ref a]) s):wpAny (model X.prog X.w) A (getMethod (.ref a) m pl) Q E s:=by
 obtain⟨mA,O,r,_,_,_⟩:=UJ I.hok e
 have hn:mA m=none:=ux.none_of (by rw[<-l];exact r m);exact jiz I.aI O (c.get m) k.at_ k.fn hn h
theorem jcd {y:V}{u:Value}{Q:Unit->Shared->Prop}(I:Inv X bF σ H s)(e:H a=some (.ins C dx fs))(c:Cls X.K C)(n:jn X.K C f)(hl:fs.length<1000)(ry:RelV y u)(h:∀s',Inv X bF σ (upd H a (.ins C dx (vB f y fs))) s'->Q () s'):wpAny (model X.prog X.w) A (setAttr (.ref a) f u) Q E s:=by
 obtain⟨mA,O,r,wi,_,ho⟩:=UJ I.hok e
 have hz:(fs.map (·.1)).length<=sizeLine:=by rw[length_map,sizeLine_eq];omega
 refine jjZ I.aI O c.sa c.po n.a9 c.hd wi hz λh' O' sb=>h _ ?_;have hd:∃o,h'.get? dx=some o:=let ⟨o,_,_,e',_⟩:=O'.ns;⟨o,e'⟩;refine I.write (x:=a) (e:=dx) (by rw[e];exact True.intro) (.inr ho) (λb q hb z=>(sb.2 b hb).trans z) hd ?_
 refine⟨by rw[jk O.ne];exact ho,?_,O.ne,O'.obj,_,O'.ns,λg=>?_,λg hg=>?_⟩
 ·have:=Yv f y fs;omega
 ·show ux ((vB f y fs).lookup g) (if g=f then some u else mA g);rw[Yu]
  by_cases q:g=f
  ·rw[if_pos q,if_pos q];exact ry
  ·rw[if_neg q,if_neg q];exact r g
 ·by_cases q:g=f
  ·rw[q];exact(JY f y fs).1
  ·refine(JY f y fs).2 g (wi g λz=>hg ?_)
   show(if g=f then some u else mA g)=none
   rw[if_neg q];exact z
theorem Inv.made (I:Inv X bF σ H s):Inv X bF σ (upd (upd H s.heap.objs.size (.own (s.heap.objs.size+1))) (s.heap.objs.size+1) (.ins C s.heap.objs.size []))
  { s with heap:=(s.heap.push emptyDict).push (instObj C s.heap.objs.size) }:=by
 have e1:(s.heap.push emptyDict).get? s.heap.objs.size=some emptyDict:=get?_push_size s.heap rfl;have e2:((s.heap.push emptyDict).push (instObj C s.heap.objs.size)).get? (s.heap.objs.size+1)=some (instObj C s.heap.objs.size):=by
  have:=get?_push_size (s.heap.push emptyDict) (o:=instObj C s.heap.objs.size) rfl
  rwa [size_push]at this
 have e3:(s.heap.push emptyDict).Ns s.heap.objs.size (λ_=>none):=⟨emptyDict,#[],_,e1,rfl,(λe he=>absurd he (by simp)),λ_=>rfl⟩
 have I1:=I.laid (a:=s.heap.objs.size) (o:=.own (s.heap.objs.size+1)) (h':=s.heap.push emptyDict) (t':=s.toks) (λb u q=>get?_push_of_some _ q) (le_refl _) ⟨_,e1⟩;refine I1.laid (a:=s.heap.objs.size+1) (o:=.ins C s.heap.objs.size []) (t':=s.toks) (λb u q=>get?_push_of_some _ q) (le_of_eq (size_push _ _)) ?_;have ne:s.heap.objs.size≠s.heap.objs.size+1:=ne_of_lt (lt_succ_self _)
 refine⟨by rw[jk ne,jr],zero_le _,ne,e2,λ_=>none,(Heap.Ns1.of_empty e3).at λo q=>get?_push_of_some _ q,λ_=>True.intro,λy hy=>absurd rfl hy⟩
theorem jlu {prog:Program}{w:World}{env:Env}{e:Expr}{f:Str}{pos:Pos}{s:Shared}{Q:tE0}(hb:attributeBase e f env (eval e env)=eval e env)(h:wpAny (model prog w) A (eval e env) (λo b6=>wpAny (model prog w) A (getAttr o f true) Q E b6) E s):wpAny (model prog w) A (eval (.Attribute e f pos) env) Q E s:=
 Attribute_any_ h (by rw[arm_eval_Attribute,hb])
end
def jqX (K:Frag)(ta:TE)(f:Str):TE:=λσ H Q=>ta σ H λx H1=>∃a C dx fs v,x= .ref a/\H1 a=some (.ins C dx fs)/\Cls K C/\jn K C f/\fs.lookup f=some v/\Q v H1
def jrb (K:Frag)(ta tv:TE)(f:Str):TS:=λD σ H=>tv σ H λy H1=>ta σ H1 λx H2=>∃a C dx fs,x= .ref a/\H2 a=some (.ins C dx fs)/\Cls K C/\jn K C f/\fs.length<1000 /\
 D.nx σ (upd H2 a (.ins C dx (vB f y fs)))
section
variable {X:Cx}{o e value:Expr}{f:Str}{pos cO:Pos}{ta tv:TE}
theorem jnt (he:PE X e ta)(hb:attributeBase e f X.env (eval e X.env)=eval e X.env):PE X (.Attribute e f pos) (jqX X.K ta f):=by
 intro bF s σ H Q I h;refine jlu hb (thn (he bF s σ H _ I h) λu s1 bH=>?_)
 obtain⟨x,H1,I1,rx,a,C,dx,fs,v,ex,ea,c,n,l,q⟩:=bH
 subst ex;obtain rfl:u=Value.ref a:=rx;exact jcP I1 ea c n l λu' s2 I2 ru=>⟨v,H1,I2,ru,q⟩
theorem jnk (ha:PE X o ta)(hv:PE X value tv)(hs:swapsWith value (some (.Attribute o f cO)) pos.line X.env=pure false):PS X (.Assign [.Attribute o f cO] value pos) (jrb X.K ta tv f):=by
 intro bF s σ H D I h;refine plainObj_wpAny_Assign_Attribute (thn (hv bF s σ H _ I h) λu s1 ⟨y,H1,I1,ry,q⟩=>thn (ha bF s1 σ H1 _ I1 q) λov s2 bH=>?_) hs
 obtain⟨x,H2,I2,rx,a,C,dx,fs,ex,ea,c,n,l,q2⟩:=bH
 subst ex;obtain rfl:ov=Value.ref a:=rx;exact jcd I2 ea c n l ry λs3 I3=>⟨σ,_,I3,q2⟩
end
section
variable {H:Hp}
inductive TyOf (K:Frag)(H:Hp):V->Value->Prop where
 |non:TyOf K H .non (.type "NoneType")
 |bl (x:Bool):TyOf K H (.bl x) (.type "bool")
 |int (i:Int):TyOf K H (.int i) (.type "int")
 |str (x:Str):TyOf K H (.str x) (.type "str")
 |flt (x:UInt64):TyOf K H (.flt x) (.type "float")
 |lst {a:Addr}{xs:List V}(e:H a=some (.lst xs)):TyOf K H (.ref a) (.type "list")
 |frz {a:Addr}{o:Obj}{xs:List V}(e:H a=some (.frz o (.lst xs))):TyOf K H (.ref a) (.type "list")
 |tup {a:Addr}{xs:List V}(e:H a=some (.tup xs)):TyOf K H (.ref a) (.type "tuple")
 |dK {a:Addr}{kvs:List (Key×V)}(e:H a=some (.dK kvs)):TyOf K H (.ref a) (.type "dict")
 |dT {a:Addr}{kvs:List (List Key×V)}(e:H a=some (.dT kvs)):TyOf K H (.ref a) (.type "dict")
 |ins {a C dx:Addr}{fs:List (Str×V)}(e:H a=some (.ins C dx fs)) (cl:Cls K C) (ha:findIn K (.ref C) "__class__" = some (some (.builtin "object.__class__")))
   (hn:PySem.W.specialIn K (.builtin "object.__class__") "__get__" = some (some (.builtin "getset_descriptor.__get__"))) (htk:PySem.W.takesIn K (.builtin "object.__class__")=some true)
   (hm:PySem.W.mroIn K C (.type "object")=some true):TyOf K H (.ref a) (.ref C)
end
structure Room (k:Nat)(A:Around):Prop where
 hd:A.handled=none
 dp:A.depth+3*k+5<recursionLimit
 un:A.units+16*k+200<cLine
theorem Room.mono {j k:Nat}{A:Around}(r:Room k A)(h:j<=k):Room j A:=⟨r.hd,by have:=r.dp;omega,by have:=r.un;omega⟩
theorem Room.deeper {k:Nat}{A:Around}(r:Room (k+1) A)(env:Env):Room k (A.deeper env):=
 ⟨r.hd,by have:=r.dp;show A.depth+1+3*k+5<_;omega,by have:=r.un;show A.units+3+16*k+200<_;omega⟩
theorem jcD {A:Around}{C:Addr}{us:List Value}{kw:List (Str×Value)}:(A.under (.builtin "type.__call__" ⟨.ref C::us,kw⟩)).depth=A.depth+1:=by
 first|rfl|simp[Around.under,Code.weight,Code.isCreation,Code.isGuard,Code.isCaller,Code.frames,Code.isFrame,guardIds]
theorem jcC {A:Around}{C:Addr}{us:List Value}{kw:List (Str×Value)}:(A.under (.builtin "type.__call__" ⟨.ref C::us,kw⟩)).units=A.units+1:=by
 first|rfl|simp[Around.under,Code.cUnits,Code.frames,Code.isFrame]
theorem Room.make {k:Nat}{A:Around}(r:Room (k+1) A)(C:Addr)(us:List Value)(kw:List (Str×Value)):Room k (A.under (.builtin "type.__call__" ⟨.ref C::us,kw⟩)):=
 ⟨r.hd,by have:=r.dp;rw[jcD];omega,by have:=r.un;rw[jcC];omega⟩
theorem Room.depth {k:Nat}{A:Around}(r:Room k A):A.depth<recursionLimit:=by have:=r.dp;omega
theorem Room.units {k:Nat}{A:Around}(r:Room k A):A.units+64<cLine:=by have:=r.un;omega
theorem Room.a7 {k:Nat}{A:Around}(r:Room k A):A.units<cLine:=by have:=r.un;omega
def jpv:TA:=λ_ H Q=>Q [] H
def jgP (ta:TE)(tr:TA):TA:=λσ H Q=>ta σ H λx H1=>tr σ H1 λxs H2=>Q (x::xs) H2
section
variable {X:Cx}{e:Expr}{es:List Expr}{te:TE}{t:TA}{pos:Pos}
theorem JT:PA X [] jpv:=λ_ _ _ _ H Q I h=>Calls.spliced_nil ⟨[],H,I,.nil,h⟩
theorem uo (ha:PE X e te)(hr:PA X es t)(hs:starEach (e::es) X.env=(false,eval e X.env)::starEach es X.env:=by rfl):PA X (e::es) (jgP te t):=by
 intro pos bF s σ H Q I h;rw[hs];show wpAny _ _ (spliced ((false,eval e X.env)::backTo pos (starEach es X.env))) _ _ s;refine Calls.spliced_cons (thn (ha bF s σ H _ I h) λu s1 bH=>?_)
 obtain⟨x,H1,I1,r1,q1⟩:=bH
 exact thn (hr pos bF s1 σ H1 _ I1 q1) λus s2 ⟨xs,H2,I2,r2,q2⟩=>⟨x::xs,H2,I2,.cons r1 r2,q2⟩
def jqP (t:TA):TE:=λσ H Q=>t σ H λxs H1=>xs.length<=sizeLine/\∀p,H1 p=none->Q (.ref p) (upd H1 p (.tup xs))
def jqU (t:TA):TE:=λσ H Q=>t σ H λxs H1=>xs.length<=sizeLine/\∀p,H1 p=none->Q (.ref p) (upd H1 p (.lst xs))
theorem Uz {x1}(h:PA X es t):PE X (.Tuple es x1 pos) (jqP t):=by
 intro bF s σ H Q I hq;refine wpAny_Tuple_spliced (thn (h pos bF s σ H _ I hq) λus s1 ⟨xs,H1,I1,r,z,q⟩=>⟨by rw[<-r.length];exact z,?_⟩);have hf:H1 s1.heap.objs.size=none:=I1.hok.fresh (le_refl _)
 refine⟨.ref s1.heap.objs.size,upd H1 s1.heap.objs.size (.tup xs),I1.laid (t':=s1.toks) (λb u e=>get?_push_of_some _ e) (le_refl _) ?_,rfl,q _ hf⟩
 exact⟨z,us,r,⟨_,get?_push_size _ rfl,rfl,_,rfl⟩⟩
theorem jhN (h:PA X es t):PE X (.List es pos) (jqU t):=by
 intro bF s σ H Q I hq;refine wpAny_List_spliced (thn (h pos bF s σ H _ I hq) λus s1 ⟨xs,H1,I1,r,z,q⟩=>⟨by rw[<-r.length];exact z,?_⟩);have hf:H1 s1.heap.objs.size=none:=I1.hok.fresh (le_refl _)
 refine⟨.ref s1.heap.objs.size,upd H1 s1.heap.objs.size (.lst xs),I1.laid (t':=s1.toks) (λb u e=>get?_push_of_some _ e) (le_refl _) ?_,rfl,q _ hf⟩
 exact⟨z,us,0,r,get?_push_size _ rfl⟩
end
abbrev Sp:=List V->Hp->VK->XK->Prop
abbrev CXT:=List Env->Hp->Shared->XK->Value->Shared->Prop
structure Env0 (P:Program)(w:World)(K:Frag)(mg:tM0)(base:Heap)(A:Around)(outer:List Env)(s:Shared)(H:Hp):Prop where
 frames:A.frames=some outer
 mod:Mod K mg base
 bs:∀b o,base.get? b=some o->s.heap.get? b=some o/\H b=none
 bsz:base.objs.size<=s.heap.objs.size
 funs:s.heap.FunFrames base outer
 frf:∀b∈frs outer,H b=none
 hok:HOk P w H s.heap
 bare:AllBare s.gens
def CE (outer:List Env)(P:Program)(w:World)(H:Hp)(s:Shared)(Q:VK)(u:Value)(s':Shared):Prop:=
 ∃v H',s'.os=s.os/\AllBare s'.gens/\Un (frs outer) [] H H' s.heap s'.heap/\HOk P w H' s'.heap/\RelV v u/\Q v H'
def CR (CX:CXT)(outer:List Env)(P:Program)(w:World)(H:Hp)(s:Shared)(Q:VK)(E:XK)(r:Result)(s':Shared):Prop:=
 match r with
 |.ok (.ret u)=>CE outer P w H s Q u s'
 |.ok _=>False
 |.error e=>CX outer H s E e s'
structure FnOk (P:Program)(w:World)(K:Frag)(mg:tM0)(base:Heap)(CX:CXT)(k:Nat)(f:Addr)(fd:FuncData)(ps:List Str)(sp:Sp):Prop where
 len:∀vs H Q E,sp vs H Q E->vs.length=ps.length
 run:∀(A:Around) (outer:List Env) (s:Shared) (H:Hp) (args:Args) (us:List Value) (vs:List V) (Q:VK) (E:XK),Room k A->Env0 P w K mg base A outer s H->BindsTo s fd args (ps.zip us)->yg vs us->sp vs H Q E->
  codeAny (model P w) A (.call (.ref f) args) (CR CX outer P w H s Q E) s
theorem FnOk.imp {P:Program}{w:World}{K:Frag}{mg:tM0}{base:Heap}{CX:CXT}{k:Nat}{f:Addr}{fd:FuncData}{ps:List Str}{sp sp':Sp}(F:FnOk P w K mg base CX k f fd ps sp)(h:∀vs H Q E,sp' vs H Q E->sp vs H Q E):FnOk P w K mg base CX k f fd ps sp':=
 ⟨λvs H Q E q=>F.len vs H Q E (h _ _ _ _ q),λA outer s H args us vs Q E hr he hb hv hs=>F.run A outer s H args us vs Q E hr he hb hv (h _ _ _ _ hs)⟩
theorem Env0.make {P:Program}{w:World}{K:Frag}{mg:tM0}{base:Heap}{A:Around}{outer:List Env}{s:Shared}{H:Hp}(e:Env0 P w K mg base A outer s H)(C:Addr)(us:List Value)(kw:List (Str×Value)) :
  Env0 P w K mg base (A.under (.builtin "type.__call__" ⟨.ref C::us,kw⟩)) outer s H:=⟨by first|exact e.frames|(simpa[Around.under,Code.envs,Code.isFrame,pushEnvs]using e.frames),e.mod,e.bs,e.bsz,e.funs,e.frf,e.hok,e.bare⟩
section
variable {X:Cx}{bF:tP0}{σ:St}{H:Hp}{s s':Shared}
theorem Inv.bc (I:Inv X bF σ H s):Env0 X.prog X.w X.K X.mg X.base X.A X.stack s H:=
 ⟨I.ok.frames,I.ok.mod,I.bs,le_trans I.ok.bsz I.sz,I.stack,I.aJ,I.hok,I.bare⟩
theorem Inv.after {Q:VK}{u:Value}(I:Inv X bF σ H s)(h:CE X.stack X.prog X.w H s Q u s'):EP X bF σ Q u s':=by
 obtain⟨v,H',os,bare,un,hok,r,q⟩:=h
 obtain⟨hh,g,d,t,lC⟩:=s'
 obtain rfl:lC=s.os:=os
 exact⟨v,H',I.call (h':=hh) (g':=g) (d':=d) (t':=t) (ch:=[]) un hok bare (λb z=>absurd z (by simp)),r,q⟩
end
def Binds (K:Frag)(fd:FuncData)(ps:List Str)(ds:List Value):Prop:=
 ∀(s:Shared) (us:List Value),K.In s.heap->(us++ds).length=ps.length->BindsTo s fd ⟨us,[]⟩ (ps.zip (us++ds))
theorem Binds.all {K:Frag}{fd:FuncData}{ps:List Str}(h:∀us:List Value,us.length=ps.length->bindArgs fd ⟨us,[]⟩=pure (ps.zip us)):Binds K fd ps []:=λs us _ hl=>by
 rw[append_nil]at hl ⊢;exact .of_eq (h us hl)
def jpf (CX:CXT)(X:Cx)(E:XK):Prop:=∀(bF:tP0) (σ:St) (H:Hp) (s:Shared) (e:Value) (s':Shared),Inv X bF σ H s->CX X.stack H s E e s'->X.xe e s'
section
variable {f C:Addr}
structure Mk (K:Frag)(C f:Addr):Prop where
 makes:makesIn K C=true
 init:findIn K (.ref C) "__init__" = some (some (.ref f))
 fn:isFn K (.ref f)=true
 kp:keepIn K (.ref C)=true
end
def PK (X:Cx)(cV:List Keyword)(t:TA):Prop:=
 ∀(pos:Pos) (bF:tP0) (s:Shared) (σ:St) (H:Hp) (Q:List V->Hp->Prop),Inv X bF σ H s->t σ H Q->wpAny (model X.prog X.w) X.A (evalAll ((backToKw pos (keywordEach cV X.env)).map (·.2))) (AP X bF σ Q) X.xe s
section
variable {X:Cx}{fd:FuncData}{ps ks:List Str}{x:Str}{pos iu:Pos}{e:Expr}{cV:List Keyword}{te:TE}{t:TA}{nm:Option Str}
theorem jnl:PK X [] jpv:=λ_ _ _ _ H Q I h=>wpAny_evalAll_nil ⟨[],H,I,.nil,h⟩
theorem jkw (ha:PE X e te)(hr:PK X cV t):PK X (⟨nm,e,iu⟩::cV) (jgP te t):=by
 intro pos bF s σ H Q I h;show wpAny _ _ (evalAll ((do let v <-eval e X.env;standAt pos;pure v)::(backToKw pos (keywordEach cV X.env)).map (·.2))) _ _ s;refine wpAny_evalAll_cons (wpAny_bind (thn (ha bF s σ H _ I h) λu s1 ⟨x,H1,I1,r1,q1⟩=>wpAny_bind (wpAny_standAt (wpAny_pure ?_))));exact thn (hr pos bF s1 σ H1 _ I1 q1) λus s2 ⟨xs,H2,I2,r2,q2⟩=>⟨x::xs,H2,I2,.cons r1 r2,q2⟩
structure KBinds (K:Frag)(fd:FuncData)(ps ks:List Str)(g:List Value->List Value->List Value)(gV:List V->List V->List V):Prop where
 to:∀(s:Shared) (us ws:List Value),K.In s.heap->(g us ws).length=ps.length->BindsTo s fd ⟨us,ks.zip ws⟩ (ps.zip (g us ws))
 rel:∀{vs:List V}{us:List Value}{zs:List V}{ws:List Value},yg vs us->yg zs ws->yg (gV vs zs) (g us ws)
variable {g:List Value->List Value->List Value}{gV:List V->List V->List V}
end
structure FnScope (N P:List Str)(sc:Scope):Prop where
 kind:sc.kind= .function
 co:sc.isCoroutine=false
 gen:sc.isGenerator=false
 nd:N.Nodup
 pre:N.take P.length=P
 par:∀x∈P,sc.names.lookup x=some .local\/sc.names.lookup x=some .cell
 nofree:∀y∈sc.names,y.2≠.free
theorem VN {kindOf:Str->Option NameKind}{x:Str}:∀{c4:List (Str×Value)}{m:tM0},(∀v,(x,v)∉c4)->bindL kindOf c4 m x=m x
 |[],_,_=>rfl
 |(n,v)::r,m,h=>by
  unfold bindL;rw[VN λw hw=>h w (mem_cons_of_mem _ hw)];split
  ·have:x≠n:=by rintro rfl;exact h v mem_cons_self
   simp[this]
  ·rfl
theorem VP {kindOf:Str->Option NameKind}{x:Str}:∀{c4:List (Str×Value)}{m:tM0},(∀v,(x,v)∉c4)->bindC kindOf c4 m x=m x
 |[],_,_=>rfl
 |(n,v)::r,m,h=>by
  unfold bindC;rw[VP λw hw=>h w (mem_cons_of_mem _ hw)];split
  ·rfl
  ·have:x≠n:=by rintro rfl;exact h v mem_cons_self
   simp[this]
theorem VO {kindOf:Str->Option NameKind}{x:Str}{v:Value}:∀{P:List Str}{vs:List Value}{i:Nat}{m:tM0},P.Nodup->P[i]?= some x->vs[i]?= some v->kindOf x=some .local->
  bindL kindOf (P.zip vs) m x=some v
 |[],_,_,_,_,h,_,_=>by simp at h
 |_::_,[],_,_,_,_,h,_=>by simp at h
 |p::P,w::vs,0,m,nd,h1,h2,hk=>by
  simp at h1 h2;subst h1;subst h2;show bindL kindOf ((p,w)::P.zip vs) m p=_;unfold bindL;rw[VN λv hv=>(List.nodup_cons.mp nd).1 (of_mem_zip hv).1,if_pos hk];simp
 |p::P,w::vs,i+1,m,nd,h1,h2,hk=>by
  show bindL kindOf ((p,w)::P.zip vs) m x=_;unfold bindL;exact VO (i:=i) (List.nodup_cons.mp nd).2 (by simpa using h1) (by simpa using h2) hk
theorem VQ {kindOf:Str->Option NameKind}{x:Str}{v:Value}:∀{P:List Str}{vs:List Value}{i:Nat}{m:tM0},P.Nodup->P[i]?= some x->vs[i]?= some v->kindOf x≠some .local->
  bindC kindOf (P.zip vs) m x=some v
 |[],_,_,_,_,h,_,_=>by simp at h
 |_::_,[],_,_,_,_,h,_=>by simp at h
 |p::P,w::vs,0,m,nd,h1,h2,hk=>by
  simp at h1 h2;subst h1;subst h2;show bindC kindOf ((p,w)::P.zip vs) m p=_;unfold bindC;rw[VP λv hv=>(List.nodup_cons.mp nd).1 (of_mem_zip hv).1,if_neg hk];simp
 |p::P,w::vs,i+1,m,nd,h1,h2,hk=>by
  show bindC kindOf ((p,w)::P.zip vs) m x=_;unfold bindC;exact VQ (i:=i) (List.nodup_cons.mp nd).2 (by simpa using h1) (by simpa using h2) hk
def start (N:List Str)(vs:List V):St:=vs.map some++replicate (N.length-vs.length) none
def YF (CX:CXT)(P:Program)(w:World)(K:Frag)(mg:tM0)(base:Heap)(N:List Str)(qual:Str)(scope:Scope)(f:Addr)(cd:Value)(A:Around)(outer:List Env)(s:Shared)(H:Hp)(E:XK):Cx where
 prog:=P
 w:=w
 K:=K
 mg:=mg
 base:=base
 A:=A.deeper (envOfC qual scope s.heap.objs.size f cd)
 N:=N
 s₀:=s
 H₀:=H
 env:=envOfC qual scope s.heap.objs.size f cd
 outer:=outer
 stack:=envOfC qual scope s.heap.objs.size f cd::outer
 ex:=[]
 calm:=true
 fn:=λ_=>true
 pn:=[]
 xe:=λe s'=>wpAny (model P w) (A.deeper (envOfC qual scope s.heap.objs.size f cd)) («leaving» (envOfC qual scope s.heap.objs.size f cd) e) (λ_ j6=>CX outer H s E e j6) (λe' j6=>CX outer H s E e' j6) s'
theorem jbH {sc:Scope}{n:Nat}{x:Str}(h:sc.names.lookup x=some .cell):∃c,(cellsFrom n sc.names []).lookup x=some c:=by
 have q:=PySem.W.cellsFrom_some sc.names n [] (.inl h);exact Option.isSome_iff_exists.mp q
theorem jgj {CX:CXT}{P:Program}{w:World}{K:Frag}{mg:tM0}{base:Heap}{N ps:List Str}{qual:Str}{scope:Scope}{f:Addr}{cd:Value}{A:Around}{outer:List Env}{s s1:Shared}{H:Hp}{E:XK}{us:List Value}{vs:List V}(S:FnScope N ps scope) (hd:A.handled=none) (e0:Env0 P w K mg base A outer s H) (hl:vs.length=ps.length) (r:yg vs us)(x:InCallC s s.heap.objs.size (bindL (envOfC qual scope s.heap.objs.size f cd).kindOf (ps.zip us) λ_=>none) (cellsFrom (s.heap.objs.size+1) scope.names []) (bindC (envOfC qual scope s.heap.objs.size f cd).kindOf (ps.zip us) λ_=>none) s1) :
  Inv (YF CX P w K mg base N qual scope f cd A outer s H E) [] (start N vs) H s1:=by
 have cM:ps.length<=N.length:=by have:=congrArg List.length S.pre;rw[length_take]at this;omega
 obtain⟨h1,tk,rfl,hk⟩:=x.done
 have ka:∀b:Addr,b∉(YF CX P w K mg base N qual scope f cd A outer s H E).ex:=λb z=>absurd (show b∈([]:List Addr)from z) (by simp)
 refine⟨⟨e0.mod,S.kind,rfl,rfl,le_refl _,λy z c h1 h2=>?_,λy hy=>?_,λy c _ h=>?_,λ_=>hd,Around.frames_deeper e0.frames,.inr ⟨rfl,rfl⟩,λb z=>absurd z (ka b),e0.bs,e0.bsz,λb _ _=>ka b,λb z=>absurd z (ka b),e0.funs,e0.frf⟩,
  rfl,e0.bare,Un.kept hk,⟨_,x.toInCall.ns,λi y v h1 h2 h3=>?_⟩,λy c h=>⟨_,x.cell y c h⟩,e0.hok.fresh (le_refl _),λy c h=>?_,λp hp=>absurd (show p∈([]:tP0)from hp) (by simp),e0.hok.kept hk,?_⟩
 ·exact name_of_addr x.apart (PySem.mem_of_lookup h1) (PySem.mem_of_lookup h2)
 ·have hy:scope.names.lookup y=some .cell\/scope.names.lookup y=some .free:=hy;rcases hy with hy|hy
  ·exact jbH hy
  ·exact absurd rfl (S.nofree _ (PySem.mem_of_lookup hy))
 ·exact le_of_lt (x.above y c (PySem.mem_of_lookup h))
 ·have hi:i<vs.length:=by
   unfold start at h2
   by_cases hi:i<vs.length
   ·exact hi
   ·rw[getElem?_append_right (by simpa using hi)]at h2;rw[getElem?_replicate]at h2;split at h2 <;> cases h2
  have ha:vs[i]?= some v:=by
   unfold start at h2;rw[getElem?_append_left (by simpa using hi),getElem?_map]at h2;cases e:vs[i]? with
   |none=>rw[e]at h2;cases h2
   |some a=>rw[e]at h2;cases h2;rfl
  obtain⟨u,hu,rv⟩:=r.get ha
  have hp:ps[i]?= some y:=by
   rw[<-S.pre,List.getElem?_take_of_lt (by omega)];exact h1
  have ndP:ps.Nodup:=by rw[<-S.pre];exact S.nd.sublist (List.take_sublist _ _)
  refine⟨u,rv,?_⟩
  rcases S.par y (mem_of_getElem? hp)with k|k
  ·exact .inl ⟨k,VO ndP hp hu k⟩
  ·obtain⟨c,e⟩:=jbH (n:=s.heap.objs.size+1) k
   refine .inr ⟨.inl k,c,e,?_⟩;have q:=x.cell y c e;rw[VQ ndP hp hu (by show scope.names.lookup y≠_;rw[k];decide)]at q;exact q
 ·exact e0.hok.fresh (le_of_lt (x.above y c (PySem.mem_of_lookup h)))
 ·unfold start;show _=N.length;rw[length_append,length_map,length_replicate];omega
theorem jiG {CX:CXT}{P:Program}{w:World}{K:Frag}{mg:tM0}{base:Heap}{k:Nat}{f:Addr}{name qual:Str}{params:Arguments}{body:List Stmt}{scope:Scope}{dV kV dM pm bV ct oc:Value}{an od:Option Addr}{fO:Array (Option Value)}{N ps:List Str}{sp:Sp}(lk:K.lookup f=some ⟨oc,od,.func (fnOf name qual params body scope dV kV dM pm an bV ct),fO⟩) (fj:codeIn K bV qual=true) (S:FnScope N ps scope)(len:∀vs H Q E,sp vs H Q E->vs.length=ps.length)(dq:∀(A:Around) (outer:List Env) (s:Shared) (H:Hp) (vs:List V) (Q:VK) (E:XK),Room k (A.deeper (envOfC qual scope s.heap.objs.size f bV))->sp vs H Q E->
   ∃t,PSs (YF CX P w K mg base N qual scope f bV A outer s H E) body t/\t { nx:=λ_ H'=>Q .non H',rt:=Q } (start N vs) H) :
  FnOk P w K mg base CX (k+1) f (fnOf name qual params body scope dV kV dM pm an bV ct) ps sp:=by
 refine⟨len,λA outer s H args us vs Q E hr e0 hb r fF=>?_⟩
 have hl:=len _ _ _ _ fF;have KX:K.In s.heap:=e0.mod.kin.keeps λb o e=>(e0.bs b o e).1;have lim:s.heap.NoLimit:=e0.mod.nolimit.keeps λb o e=>(e0.bs b o e).1;have hkind:∀y∈ps.zip us,scope.names.lookup y.1=some .local\/(scope.names.lookup y.1=some .cell/\((cellsFrom (s.heap.objs.size+1) scope.names []).lookup y.1).isSome=true):=λ⟨n,v⟩ hy=>by
  rcases S.par n (of_mem_zip hy).1 with q|q
  ·exact .inl q
  ·exact .inr ⟨q,PySem.W.cellsFrom_some _ _ _ (.inl q)⟩
 refine codeAny_call_function hr.depth (KX _ _ lk) rfl S.co S.gen rfl (PySem.W.codeRec_of KX fj) (hb _ _ _ _ ?_);refine wpAny_newFunctionEnv_cells S.kind hkind λenv he s1 x=>?_;subst he
 refine⟨lim.keeps x.toInCall.keep,codeAny_func ?_⟩
 obtain⟨t,ht,hq⟩:=dq A outer s H vs Q E (hr.deeper _) fF
 have I:Inv (YF CX P w K mg base N qual scope f bV A outer s H E) [] (start N vs) H s1:=jgj S hr.hd e0 hl r x;refine wpAny_mono (ht [] s1 (start N vs) H _ I hq) (λfl s' hs=>?_) λe s' hs=>hs;have fin:∀{σ':St}{H':Hp}{v:V}{u:Value},Inv (YF CX P w K mg base N qual scope f bV A outer s H E) [] σ' H' s'->RelV v u->Q v H'->CE outer P w H s Q u s':=
  λ{σ' H' v u} J rv q=>⟨v,H',J.os,J.bare,J.base,J.hok,rv,q⟩
 cases fl with
 |ret u=>
  obtain⟨v,σ',H',J,rv,q⟩:=hs
  exact fin J rv q
 |next=>
  obtain⟨σ',H',J,q⟩:=hs
  exact fin (v:=V.non) (u:=Value.none) J rfl q
 |brk=>
  obtain⟨_,_,_,q⟩:=hs
  exact False.elim q
 |cont=>
  obtain⟨_,_,_,q⟩:=hs
  exact False.elim q
section
variable {X:Cx}{x:Str}{p pos:Pos}{e:Expr}{es:List Expr}{t:TA}{id T:String}{r:List V->Hp->VK->Prop}
def tCB (r:List V->Hp->VK->Prop)(t:TA):TE:=λσ H Q=>t σ H λvs H1=>r vs H1 Q
theorem Ja (hc:yK X (.builtin id) r)(hg:Gl X x)(hm:X.mg x=none)(hv:bootBuiltins x=some (.builtin id))(ha:PA X (e::es) t)(hn:x≠"__name__":=by decide)(f6:(x==("__debug__":Str))=false:=by decide)
  (he:starEach (e::es) X.env=(false,eval e X.env)::starEach es X.env:=by rfl) (cM:(backTo pos (starEach es X.env)).any (·.1)=false:=by rfl):PE X (.Call (.Name x p) (e::es) [] pos) (tCB r t):=by
 intro bF s σ H Q I h;refine wpAny_Call_Name_kw (JX I hg hm hv ?_ hn f6);exact PyProof.Rows.callWith_builtin1 (thn (ha pos bF s σ H _ I h) λus s1 ⟨vs,H1,I1,r1,q1⟩=>hc bF s1 σ H1 vs us Q I1 r1 q1) he cM
theorem JS (hc:yK X (.type T) r)(hg:Gl X x)(hm:X.mg x=none)(hv:bootBuiltins x=some (.type T))(ha:PA X (e::es) t)(hn:x≠"__name__":=by decide)(f6:(x==("__debug__":Str))=false:=by decide)
  (he:starEach (e::es) X.env=(false,eval e X.env)::starEach es X.env:=by rfl) (cM:(backTo pos (starEach es X.env)).any (·.1)=false:=by rfl):PE X (.Call (.Name x p) (e::es) [] pos) (tCB r t):=by
 intro bF s σ H Q I h;refine wpAny_Call_Name_kw (JX I hg hm hv ?_ hn f6);exact PyProof.Rows.callWith_type1 (thn (ha pos bF s σ H _ I h) λus s1 ⟨vs,H1,I1,r1,q1⟩=>hc bF s1 σ H1 vs us Q I1 r1 q1) he cM
end
end L2
namespace HT
open PySem PyProof.Rows
section
open PySem.SeqAt
open PySem.AutoSeq1 (wpAny_loadPart')
open PySem.MeetsSeq PySem.MeetsSeq2 PySem.MeetsSeq3
end
section
variable {prog:Program}{w:World}{A:Around}{E:tE0}{s:Shared}
theorem cat_tup {t b:Addr}{vs ws:List Value}{Q:tE0}(ht:IsTup s.heap t vs.toArray)(hb:IsTup s.heap b ws.toArray)(hv:vs≠[])(h1:ws=[]->Q (.ref t) s) (h2:ws≠[]->Q (.ref s.heap.objs.size) { s with heap:=s.heap.push { cls:=.type "tuple",data:=.seq (vs++ws).toArray } })
  (hsz:vs.length+ws.length<=sizeLine):wpAny (model prog w) A (binaryOp .Add (.ref t) (.ref b)) Q E s:=by
 obtain⟨⟨cls,dd,data,sl⟩,ho,hc,n,hd⟩:=id ht
 obtain⟨⟨cls2,dd2,data2,sl2⟩,fG,hc2,n2,k6⟩:=id hb
 simp only at hc hd hc2 k6;subst hc hd hc2 k6;have e:vs.toArray++ws.toArray=(vs++ws).toArray:=by simp
 by_cases hw:ws=[]
 ·exact concat_meets ⟨_,ho,rfl⟩ ⟨_,fG,rfl⟩ noFill_tuple_add seq_tuple_add PySem.F.slot_tuple_add PySem.F.entry_tuple_add (PySem.F.args_tuple_add_2 _ _)
   (tuple_addW1 t b vs.toArray ws.toArray n n2 dd dd2 sl sl2 (by simpa using hv) (by simp[hw])) ⟨ho,fG,h1 hw⟩
 ·refine concat_meets ⟨_,ho,rfl⟩ ⟨_,fG,rfl⟩ noFill_tuple_add seq_tuple_add PySem.F.slot_tuple_add PySem.F.entry_tuple_add (PySem.F.args_tuple_add_2 _ _)
   (tuple_addW2 t b vs.toArray ws.toArray n n2 dd dd2 sl sl2 (by simpa using hv) (by simpa using hw) (by rw[size_toArray,size_toArray];exact hsz)) ⟨ho,fG,?_⟩
  rw[e];exact h2 hw
def sIx (n d:Nat):Option Int->Nat
 |none=>d
 |some v=>if v<0 then(v+(n:Int)).toNat else min v.toNat n
theorem jmU (n d:Nat)(hd:d<=n)(o:Option Int):sIx n d o<=n:=by
 cases o with
 |none=>exact hd
 |some v=>
  show(if v<0 then(v+(n:Int)).toNat else min v.toNat n)<=n
  by_cases hv:v<0
  ·rw[if_pos hv];omega
  ·rw[if_neg hv];exact Nat.min_le_right _ _
theorem jeX (v:Int)(n d:Nat):(if v<0 then max (v+(n:Int)) 0 else min v (n:Int))=((sIx n d (some v):Nat):Int):=by
 show(if v<0 then max (v+(n:Int)) 0 else min v (n:Int))=(((if v<0 then(v+(n:Int)).toNat else min v.toNat n):Nat):Int)
 by_cases hv:v<0
 ·simp only[if_pos hv];omega
 ·simp only[if_neg hv];omega
theorem jdn (lo hi:Option Int)(n:Nat):Builtin.Slice.sliceAdjust lo hi 1 (n:Int)=(((sIx n 0 lo:Nat):Int),((sIx n n hi:Nat):Int)):=by
 have h1:¬((1:Int)<0):=by omega
 unfold Builtin.Slice.sliceAdjust;simp only[h1,if_false];refine Prod.ext ?_ ?_
 ·cases lo with
  |none=>rfl
  |some v=>exact jeX v n 0
 ·cases hi with
  |none=>rfl
  |some v=>exact jeX v n n
theorem jcq (i j:Nat):Builtin.Slice.slicePlaces (i:Int) (j:Int) 1=j-i:=by
 unfold Builtin.Slice.slicePlaces;have h1:(1:Int) > 0:=by omega
 simp only[h1,if_true,Int.ediv_one];split <;> omega
theorem YW {v:Value}{o:Option Int}{Q:Option Int->Shared->Prop}(p:IsPart v o)(h:Q o s):wpAny (model prog w) A (Builtin.Slice.slicePartIndex v) Q E s:=by
 cases p with
 |none=>exact slicePart_none h
 |int i t=>exact slicePart_int h
theorem vi {sl:Addr}{vl vu:Value}{lo hi:Option Int}{n:Nat}{Q:Int×Int×Nat->Shared->Prop}(hs:s.heap.IsSliceOf sl vl vu .none)(pl:IsPart vl lo)(pu:IsPart vu hi)(h:Q (((sIx n 0 lo:Nat):Int),1,sIx n n hi-sIx n 0 lo) s):wpAny (model prog w) A (Builtin.Slice.sliceApplied (.ref sl) (pure (n:Int))) Q E s:=by
 obtain⟨os,iB,k7,kB⟩:=id hs
 unfold Builtin.Slice.sliceApplied Builtin.Slice.sliceFields;refine wpAny_bind (wpAny_bind (wpAny_field iB kB (x:=vl) rfl (wpAny_bind (wpAny_field iB kB (x:=vu) rfl (wpAny_bind (wpAny_field iB kB (x:=.none) rfl (wpAny_pure ?_)))))));refine wpAny_bind (slicePart_none ?_);show wpAny _ _ (if((1:Int)==0)=true then _ else _) _ _ s;rw[if_neg (by decide)];refine wpAny_bind (YW pl (wpAny_bind (YW pu (wpAny_bind (wpAny_pure ?_)))));show wpAny _ _ (match Builtin.Slice.sliceAdjust lo hi 1 (n:Int)with|(lo,hi)=>pure (lo,(1:Int),Builtin.Slice.slicePlaces lo hi 1)) _ _ s;rw[jdn lo hi n];show wpAny _ _ (pure (((sIx n 0 lo:Nat):Int),(1:Int),Builtin.Slice.slicePlaces ((sIx n 0 lo:Nat):Int) ((sIx n n hi:Nat):Int) 1)) _ _ s;rw[jcq];exact wpAny_pure h
theorem jhJ (xs:Array Value)(i k:Nat):((List.range k).filterMap λ(m:Nat)=>xs[((i:Int)+(m:Int)*1).toNat]?).toArray=((xs.toList.drop i).take k).toArray:=by
 have e:(λ(m:Nat)=>xs[((i:Int)+(m:Int)*1).toNat]?)=λm=>xs[i+m]?:=by
  funext m
  have:((i:Int)+(m:Int)*1).toNat=i+m:=by omega
  rw[this]
 rw[e]
 have:=pick_run xs i k
 rw[List.filterMap_map]at this;have e2:((λx=>xs[x]?) ∘ λx=>i+x)=λm=>xs[i+m]?:=rfl;rw[e2]at this;rw[this]
theorem getItem_tuple_cut {t sl:Addr}{items:Array Value}{vl vu:Value}{lo hi:Option Int}{Q:tE0}(ht:IsTup s.heap t items)(hs:s.heap.IsSliceOf sl vl vu .none)(pl:IsPart vl lo)(pu:IsPart vu hi)(hw:¬(sIx items.size 0 lo=0/\sIx items.size items.size hi=items.size))(h:Q (.ref s.heap.objs.size) { s with heap:=s.heap.push { cls:=.type "tuple",data:=.seq ((items.toList.drop (sIx items.size 0 lo)).take (sIx items.size items.size hi-sIx items.size 0 lo)).toArray } })
  (hsz:items.size<=sizeLine):wpAny (model prog w) A (getItem (.ref t) (.ref sl)) Q E s:=by
 have fg:sizeOk (.seq ((items.toList.drop (sIx items.size 0 lo)).take (sIx items.size items.size hi-sIx items.size 0 lo)).toArray):=by
  show((items.toList.drop (sIx items.size 0 lo)).take (sIx items.size items.size hi-sIx items.size 0 lo)).toArray.size<=sizeLine
  rw[size_toArray,length_take,length_drop,length_toList];omega
 have hj:sIx items.size items.size hi<=items.size:=jmU _ _ (le_refl _) hi
 obtain⟨os,iB,k7,kB⟩:=id hs
 have ma:s.TypeIs (.ref sl) "slice":=⟨os,iB,k7⟩
 unfold getItem
 try with_reducible refine wpAny_holding ?_
 first|refine wpAny_bind (wpAny_pure ?_)|skip
 refine wpAny_bind (wpAny_sequenceKey ht.typeIs (by decide) ?_);refine wpAny_bind (wpAny_callSpecial?_slot (name:=Str.ofString "__getitem__") ht.typeIs PyProof.Rows.slot_tuple_getitem
  (wpAny_call_entry PyProof.Rows.slot_tuple_getitem ht.typeIs entry_tuple_getitem ?_ (args_tuple_getitem _ _)))
 show wpAny _ _ (Builtin.Tuple.tupleItemsOf (.ref t) >>= _) _ _ s;refine wpAny_bind (tupleItemsOf_ ht ?_);refine wpAny_bind (wpAny_typeOf ma ?_);rw[if_pos (by decide)];refine wpAny_bind (vi hs pl pu ?_);have gL:¬((((sIx items.size 0 lo:Nat):Int)==0 && (1:Int)==1 && (sIx items.size items.size hi-sIx items.size 0 lo)==items.size)=true):=by
  intro q;rw[and_eq_true,and_eq_true]at q;have q1:((sIx items.size 0 lo:Nat):Int)=0:=eq_of_beq q.1.1;have q2:sIx items.size items.size hi-sIx items.size 0 lo=items.size:=eq_of_beq q.2;exact hw ⟨by omega,by omega⟩
 show wpAny _ _ (if(((sIx items.size 0 lo:Nat):Int)==0 && (1:Int)==1 && (sIx items.size items.size hi-sIx items.size 0 lo)==items.size)=true then _ else _) _ _ s;rw[if_neg gL,jhJ]
 first
  |exact wpAny_bind (m:=Builtin.Tuple.tupleExact _) (wpAny_newObj_type (wpAny_pure ⟨_,rfl,wpAny_pure h⟩) fg)
  |exact wpAny_bind (m:=Builtin.Tuple.tupleExact _) (wpAny_newObj_type (wpAny_bind (wpAny_pure (wpAny_pure ⟨_,rfl,wpAny_pure h⟩))) fg)
  |exact wpAny_bind (wpAny_bind (m:=Builtin.Tuple.tupleExact _) (wpAny_newObj_type (wpAny_pure (wpAny_pure ⟨_,rfl,wpAny_pure h⟩)) fg))
  |exact wpAny_bind (wpAny_bind (m:=Builtin.Tuple.tupleExact _) (wpAny_newObj_type (wpAny_pure ⟨_,rfl,wpAny_pure h⟩) fg))
end
end HT
namespace L2
open PySem PySem.Spec PyProof.Rows
abbrev TO:=St->Hp->(Option Int->Hp->Prop)->Prop
def PO (X:Cx)(e:Option Expr)(t:TO):Prop:=
 ∀(bF:tP0) (s:Shared) (σ:St) (H:Hp) (Q:Option Int->Hp->Prop),Inv X bF σ H s->t σ H Q->
  wpAny (model X.prog X.w) X.A (evalPart e X.env) (λu s'=>∃o H',Inv X bF σ H' s'/\IsPart u o/\Q o H') X.xe s
def jjS:TO:=λ_ H Q=>Q none H
def jpt (t:TE):TO:=λσ H Q=>t σ H λx H1=>∃i,x= .int i/\Q (some i) H1
theorem intsAre_of {ns:List Int}:∀{us:List Value},yg (ns.map V.int) us->IntsAre us ns:=by
 induction ns with
 |nil=>intro us r;rw[map_nil]at r;cases r;exact .nil
 |cons n ns ih=>
  intro us r;rw[map_cons]at r;cases r with
  |cons r1 r2=>
   obtain⟨t,e⟩:=r1
   subst e;exact .cons n t (ih r2)
section
variable {X:Cx}{e:Expr}{te:TE}{lo hi:Option Expr}{tl th:TO}{pos p2:Pos}
theorem jku:PO X none jjS:=by
 intro bF s σ H Q I h;rw[evalPart_none];exact wpAny_pure ⟨none,H,I,.none,h⟩
theorem jkt (h:PE X e te):PO X (some e) (jpt te):=by
 intro bF s σ H Q I hw;rw[evalPart_some];refine thn (h bF s σ H _ I hw) λu s1 bH=>?_
 obtain⟨x,H1,I1,r1,q1⟩:=bH
 obtain⟨i,rfl,q⟩:=q1
 obtain⟨t,rfl⟩:=r1
 exact⟨some i,H1,I1,.int i t,q⟩
def SlR (X:Cx)(r:V->Option Int->Option Int->Hp->VK->Prop):Prop:=
 ∀(bF:tP0) (s:Shared) (σ:St) (H:Hp) (x:V) (v vl vu:Value) (lo hi:Option Int) (sl:Addr) (Q:VK),Inv X bF σ H s->RelV x v->s.heap.IsSliceOf sl vl vu .none->IsPart vl lo->IsPart vu hi->r x lo hi H Q->
  ∃T id,typeLookup (.type T) "__getitem__" = pure (some (.builtin id))/\s.TypeIs v T/\wpAny (model X.prog X.w) X.A (getItem v (.ref sl)) (EP X bF σ Q) X.xe s
theorem SlR.or {r r':V->Option Int->Option Int->Hp->VK->Prop}(h:SlR X r)(h':SlR X r'):SlR X (λx lo hi H Q=>r x lo hi H Q\/r' x lo hi H Q):=by
 intro bF s σ H x v vl vu lo hi sl Q I rx hs pl pu q;rcases q with q|q
 ·exact h bF s σ H x v vl vu lo hi sl Q I rx hs pl pu q
 ·exact h' bF s σ H x v vl vu lo hi sl Q I rx hs pl pu q
def tSl (r:V->Option Int->Option Int->Hp->VK->Prop)(te:TE)(tl th:TO):TE:=λσ H Q=>te σ H λx H1=>tl σ H1 λl H2=>th σ H2 λu H3=>r x l u H3 Q
theorem jhM {r:V->Option Int->Option Int->Hp->VK->Prop}(hr:SlR X r)(he:PE X e te)(hl:PO X lo tl)(hu:PO X hi th):PE X (.Subscript e (.Slice lo hi none p2) pos) (tSl r te tl th):=by
 intro bF s σ H Q I h;refine Subscript_ (thn (he bF s σ H _ I h) λv s1 bH=>?_)
 obtain⟨x,H1,I1,r1,q1⟩:=bH
 refine wpAny_Slice (thn (hl bF s1 σ H1 _ I1 q1) λvl s2 ⟨l,H2,I2,pl,q2⟩=>thn (hu bF s2 σ H2 _ I2 q2) λvu s3 bH=>?_)
 obtain⟨u,H3,I3,pu,q3⟩:=bH
 rw[evalPart_none];refine wpAny_pure ?_;have I4:Inv X bF σ H3 { s3 with heap:=s3.heap.push { cls:=.type "slice",data:=.fields #[vl,vu,.none] } }:=I3.kept (t':=s3.toks) λb ob q=>get?_push_of_some _ q
 obtain⟨T,id,hT,ht,hg⟩:=hr bF { s3 with heap:=s3.heap.push { cls:=.type "slice",data:=.fields #[vl,vu,.none] } } σ H3 x v vl vu l u s3.heap.objs.size Q I4 r1 (Heap.IsSliceOf.new ..) pl pu q3
 show wpAny (model X.prog X.w) X.A (subscriptTail e (.Slice lo hi none p2) v (.ref s3.heap.objs.size)) (EP X bF σ Q) X.xe { s3 with heap:=s3.heap.push { cls:=.type "slice",data:=.fields #[vl,vu,.none] } };exact tail_any (ops:=[.ref s3.heap.objs.size,v]) ht hT hg (by with_unfolding_all rfl)
def jbC (xs:List V)(lo hi:Option Int):List V:=(xs.drop (HT.sIx xs.length 0 lo)).take (HT.sIx xs.length xs.length hi-HT.sIx xs.length 0 lo)
theorem YA (xs:List V)(lo hi:Option Int):(jbC xs lo hi).length<=xs.length:=by
 unfold jbC;rw[length_take,length_drop];omega
def jrd (K:Frag):V->Option Int->Option Int->Hp->VK->Prop:=λx lo hi H Q=>∃a xs,x= .ref a/\SqT K H a xs /\
 ¬(HT.sIx xs.length 0 lo=0/\HT.sIx xs.length xs.length hi=xs.length)/\∀p,H p=none->Q (.ref p) (upd H p (.tup (jbC xs lo hi)))
theorem jmw:SlR X (jrd X.K):=by
 intro bF s σ H x v vl vu lo hi sl Q I rx hs pl pu h
 obtain⟨a,xs,rfl,hx,hw,q⟩:=h
 cases rx
 obtain⟨its,r,ht,hz⟩:=I.tuple hx
 have bM:its.toArray.size=xs.length:=by rw[size_toArray];exact r.length.symm
 refine⟨"tuple",_,PyProof.Rows.slot_tuple_getitem.lookup,ht.typeIs,?_⟩
 refine HT.getItem_tuple_cut ht hs pl pu (by rw[bM];exact hw) ?_ (by rw[bM];exact hz);rw[bM]
 refine⟨.ref s.heap.objs.size,_,I.laid (t':=s.toks) (o:=.tup (jbC xs lo hi)) (λb ob q=>get?_push_of_some _ q) (le_refl _) ?_,rfl,q _ (I.hok.fresh (le_refl _))⟩
 exact⟨le_trans (YA xs lo hi) hz,_,(r.drop (HT.sIx xs.length 0 lo)).take (HT.sIx xs.length xs.length hi-HT.sIx xs.length 0 lo),IsTup.new _ _⟩
def jpJ (K:Frag):R2:=λx y H Q=>∃a b xs ys,x= .ref a/\y= .ref b/\SqT K H a xs/\SqT K H b ys/\xs≠[]/\xs.length+ys.length<=sizeLine /\
 (ys=[]->Q (.ref a) H)/\(ys≠[]->∀p,H p=none->Q (.ref p) (upd H p (.tup (xs++ys))))
theorem yg.ao {xs:List V}{us:List Value}(r:yg xs us):us=[]↔xs=[]:=by
 cases r with
 |nil=>simp
 |cons _ _=>simp
theorem jkE:OpR X (binaryOp .Add) (jpJ X.K):=by
 intro bF s σ H x y v u Q I rx ry h
 obtain⟨a,b,xs,ys,rfl,rfl,ha,hb,hx,hz,q1,q2⟩:=h
 cases rx;cases ry
 obtain⟨its,r1,p1,_⟩:=I.tuple ha
 obtain⟨fT,r2,p2,_⟩:=I.tuple hb
 refine HT.cat_tup p1 p2 (λz=>hx (r1.ao.mp z)) (λz=>⟨.ref a,H,I,rfl,q1 (r2.ao.mp z)⟩) (λz=>?_) (by rw[<-r1.length,<-r2.length];exact hz)
 refine⟨.ref s.heap.objs.size,_,I.laid (t':=s.toks) (o:=.tup (xs++ys)) (λb ob q=>get?_push_of_some _ q) (le_refl _) ?_,rfl,q2 (λw=>z (r2.ao.mpr w)) _ (I.hok.fresh (le_refl _))⟩
 exact⟨by rw[length_append];exact hz,_,r1.append r2,IsTup.new _ _⟩
end
def ixN (n:Nat)(i:Int):Option Nat:=if 0<=i then(if i<n then some i.toNat else none)else if -(n:Int)<=i then some (i+n).toNat else none
def atI {α:Type}(xs:List α)(i:Int):Option α:=(ixN xs.length i).bind λj=>xs[j]?
theorem jeA {n:Nat}{i:Int}{j:Nat}(h:ixN n i=some j):seqIndex? i n=some j/\j<n/\-(n:Int)<=i/\i<n:=by
 unfold ixN at h
 by_cases h0:0<=i
 ·rw[if_pos h0]at h
  by_cases h1:i<n
  ·rw[if_pos h1]at h;have e:i.toNat=j:=Option.some.inj h
   exact⟨by rw[seqIndex_of h0 h1,e],by omega,by omega,h1⟩
  ·rw[if_neg h1]at h;cases h
 ·rw[if_neg h0]at h
  by_cases h1:-(n:Int)<=i
  ·rw[if_pos h1]at h;have e:(i+n).toNat=j:=Option.some.inj h
   exact⟨by rw[seqIndex_neg (by omega) h1,e],by omega,h1,by omega⟩
  ·rw[if_neg h1]at h;cases h
theorem jfe {α:Type}{xs:List α}{i:Int}{v:α}(h:atI xs i=some v):∃j,seqIndex? i xs.length=some j/\xs[j]?= some v/\j<xs.length/\-(xs.length:Int)<=i/\i<xs.length:=by
 unfold atI at h;cases e:ixN xs.length i with
 |none=>rw[e]at h;cases h
 |some j=>
  rw[e]at h
  obtain⟨h1,h2,h3,h4⟩:=jeA e
  exact⟨j,h1,h,h2,h3,h4⟩
def jfk (b:Expr):Prop:=∀o i,subscripted b false o i=operate [o,i] (getItem o i)
def IxR (X:Cx)(r:R2):Prop:=
 ∀(value slice:Expr) (bF:tP0) (s:Shared) (σ:St) (H:Hp) (x y:V) (v u:Value) (Q:VK),Inv X bF σ H s->RelV x v->RelV y u->r x y H Q->
  subscripted slice false v u=operate [v,u] (getItem v u)->wpAny (model X.prog X.w) X.A (subscriptTail value slice v u) (EP X bF σ Q) X.xe s
def MtR (X:Cx)(id:String)(r:V->List V->Hp->VK->Prop):Prop:=
 ∀(bF:tP0) (s:Shared) (σ:St) (H:Hp) (x:V) (xs:List V) (v:Value) (us:List Value) (Q:VK),Inv X bF σ H s->RelV x v->yg xs us->r x xs H Q->
  wpAny (model X.prog X.w) X.A (call (.builtin id) (v::us)) (EP X bF σ Q) X.xe s
section
variable {X:Cx}{a b:Expr}{ta tb:TE}{pos:Pos}
theorem IxR.or {r r':R2}(h:IxR X r)(h':IxR X r'):IxR X (λx y H Q=>r x y H Q\/r' x y H Q):=by
 intro value slice bF s σ H x y v u Q I rx ry q hs;rcases q with q|q
 ·exact h value slice bF s σ H x y v u Q I rx ry q hs
 ·exact h' value slice bF s σ H x y v u Q I rx ry q hs
theorem jpP {r:R2}(hr:IxR X r)(ha:PE X a ta)(hb:PE X b tb)(hs:jfk b):PE X (.Subscript a b pos) (tOp r ta tb):=by
 intro bF s σ H Q I h;exact Subscript_ (joZ ha hb I h λv u s2 x y H2 I2 rx ry q=>hr a b bF s2 σ H2 x y v u Q I2 rx ry q (hs _ _))
def jrg (K:Frag):R2:=λx y H Q=>∃p xs i v,x= .ref p/\y= .int i/\SqL K H p xs/\atI xs i=some v/\Q v H
def jrf (K:Frag):R2:=λx y H Q=>∃p xs i v,x= .ref p/\y= .int i/\SqT K H p xs/\atI xs i=some v/\Q v H
theorem jkQ:IxR X (jrg X.K):=by
 intro value slice bF s σ H x y v u Q I rx ry h hs
 obtain⟨p,xs,i,z,rfl,rfl,hq,he,q⟩:=h
 cases rx
 obtain⟨t,rfl⟩:=ry
 obtain⟨its,r,pl,hz⟩:=I.list hq
 obtain⟨j,h1,h2,h3,h4,h5⟩:=jfe he
 obtain⟨w,ew,ig⟩:=r.get h2
 have hl:=r.length;have hn:=Xx;have fin:EP X bF σ Q w s:=⟨z,H,I,ig,q⟩
 by_cases h0:0<=i
 ·have hj:i.toNat=j:=by
   rw[seqIndex_of h0 h5]at h1;exact Option.some.inj h1
  exact item_listR pl.isList h0 (by omega) (by rw[hj];simpa using ew) fin hs
 ·have hj:(i+(its.toArray.size:Int)).toNat=j:=by
   rw[seqIndex_neg (by omega) h4]at h1;rw[size_toArray,<-hl];exact Option.some.inj h1
  exact subscriptTail_builtinR (x:=w) pl.isList.typeIs slot_list_getitem.lookup
   (wpAny_getItem_list_neg (Q:=λr s'=>r=w/\EP X bF σ Q r s') pl.isList (by omega) (by rw[size_toArray] <;> omega) (by omega) (by rw[hj];simpa using ew) ⟨rfl,fin⟩) hs
theorem joB:IxR X (jrf X.K):=by
 intro value slice bF s σ H x y v u Q I rx ry h hs
 obtain⟨p,xs,i,z,rfl,rfl,hq,he,q⟩:=h
 cases rx
 obtain⟨t,rfl⟩:=ry
 obtain⟨its,r,pl,hz⟩:=I.tuple hq
 obtain⟨j,h1,h2,h3,h4,h5⟩:=jfe he
 obtain⟨w,ew,ig⟩:=r.get h2
 have hl:=r.length;have hn:=Xx;have fin:EP X bF σ Q w s:=⟨z,H,I,ig,q⟩
 exact subscriptTail_builtinR (x:=w) pl.typeIs slot_tuple_getitem.lookup
  (getItem_tuple (j:=j) (Q:=λr s'=>r=w/\EP X bF σ Q r s') pl (by omega) (by omega) (by rw[size_toArray,<-hl];exact h1) (by simpa using ew) ⟨rfl,fin⟩) hs
theorem jcB (its:List Value)(n j:Nat)(u:Value):Obj.mapSeq (·.setIfInBounds j u) { cls:=.type "list",data:=.seq its.toArray n }={ cls:=.type "list",data:=.seq (its.set j u).toArray n }:=by
 simp[Obj.mapSeq]
theorem Inv.lst {bF:tP0}{σ:St}{H:Hp}{s:Shared}{p:Addr}{xs:List V}(I:Inv X bF σ H s)(h:H p=some (.lst xs)) :
  ∃(its:List Value) (n:Nat),yg xs its/\s.heap.get? p=some { cls:=.type "list",data:=.seq its.toArray n }/\xs.length<=sizeLine:=by
 obtain⟨z,its,n,r,e⟩:=I.hok p _ h
 exact⟨its,n,r,e,z⟩
theorem Inv.a8 {bF:tP0}{σ:St}{H:Hp}{s:Shared}{p:Addr}{xs ys:List V}{its its':List Value}{n n':Nat}{f:Obj->Obj}(I:Inv X bF σ H s)(h:H p=some (.lst xs))(ho:s.heap.get? p=some { cls:=.type "list",data:=.seq its.toArray n }) (hf:f { cls:=.type "list",data:=.seq its.toArray n }={ cls:=.type "list",data:=.seq its'.toArray n' }) (r:yg ys its') (hz:ys.length<=sizeLine) (t:Nat) :
  Inv X bF σ (upd H p (.lst ys)) { s with heap:=s.heap.update p f,toks:=t }:=by
 have e:(s.heap.update p f).get? p=some { cls:=.type "list",data:=.seq its'.toArray n' }:=by
  rw[get?_update_self f ho (by rw[hf] <;> rfl),hf]
 refine I.write (x:=p) (e:=p) (by rw[h];trivial) (.inl rfl) (λb u hb q=>(get?_update_other _ _ (Ne.symm hb)).trans q) ⟨_,e⟩ ?_
 exact⟨hz,its',n',r,e⟩
def jpI:V->V->V->Hp->(Hp->Prop)->Prop:=λo i v H Q=>∃p xs k j,o= .ref p/\i= .int k/\H p=some (.lst xs)/\ixN xs.length k=some j/\Q (upd H p (.lst (xs.set j v)))
theorem jgZ:jqE X jpI:=by
 intro bF s σ H o i v ov iv u Q I ro ri rv h
 obtain⟨p,xs,k,j,rfl,rfl,hp,hj,q⟩:=h
 cases ro
 obtain⟨t,rfl⟩:=ri
 obtain⟨its,n,r,ho,hz⟩:=I.lst hp
 obtain⟨h1,h2,h3,h4⟩:=jeA hj
 have hl:=r.length;have hn:=Xx;have I':Inv X bF σ (upd H p (.lst (xs.set j v))) { s with heap:=s.heap.update p (Obj.mapSeq (·.setIfInBounds j u)) }:=
  I.a8 hp ho (jcB its n j u) (r.set rv j) (by rw[length_set];exact hz) s.toks
 by_cases h0:0<=k
 ·have hk:k.toNat=j:=by
   rw[seqIndex_of h0 h4]at h1;exact Option.some.inj h1
  exact PySem.W.ki_setAt ho h0 (by omega) (by rw[size_toArray,<-hl];exact h4) (by rw[hk];exact⟨_,I',q⟩)
 ·have hk:(k+(its.toArray.size:Int)).toNat=j:=by
   rw[seqIndex_neg (by omega) h3]at h1;rw[size_toArray,<-hl];exact Option.some.inj h1
  exact PySem.W.ki_setBack ho (by omega) (by rw[size_toArray,<-hl];exact h3) (by omega) (by rw[hk];exact⟨_,I',q⟩)
theorem Ug (lo hi:Option Int)(n:Nat):(sliceBounds lo hi none n).1=((HT.sIx n 0 lo:Nat):Int)/\(sliceBounds lo hi none n).2.1=((HT.sIx n n hi:Nat):Int)/\(sliceBounds lo hi none n).2.2=1:=by
 refine⟨?_,?_,rfl⟩
 ·cases lo with
  |none=>simp[sliceBounds,HT.sIx]
  |some i=>
   simp only[sliceBounds,HT.sIx,getD_none,show(1:Int) > 0 by decide,if_true]
   by_cases h:i<0
   ·simp only[h,if_true] <;> omega
   ·simp only[h,if_false] <;> omega
 ·cases hi with
  |none=>simp[sliceBounds,HT.sIx]
  |some i=>
   simp only[sliceBounds,HT.sIx,getD_none,show(1:Int) > 0 by decide,if_true]
   by_cases h:i<0
   ·simp only[h,if_true] <;> omega
   ·simp only[h,if_false] <;> omega
theorem Vd (its:List Value)(lo hi:Option Int):slicePick its.toArray lo hi none=((its.drop (HT.sIx its.length 0 lo)).take (HT.sIx its.length its.length hi-HT.sIx its.length 0 lo)).toArray:=by
 obtain⟨h1,h2,h3⟩:=Ug lo hi its.toArray.size
 unfold slicePick;rw[h1,h2,h3];simp only[sliceRange_one,pick_run,size_toArray] <;> rfl
def jpH (K:Frag):V->Option Int->Option Int->Hp->VK->Prop:=λx lo hi H Q=>∃a xs,x= .ref a/\SqL K H a xs/\∀p,H p=none->Q (.ref p) (upd H p (.lst (jbC xs lo hi)))
theorem jjX:SlR X (jpH X.K):=by
 intro bF s σ H x v vl vu lo hi sl Q I rx hs pl pu h
 obtain⟨a,xs,rfl,hx,q⟩:=h
 cases rx
 obtain⟨its,r,ht,hz⟩:=I.list hx
 have bM:=r.length
 refine⟨"list",_,slot_list_getitem.lookup,ht.isList.typeIs,?_⟩
 refine wpAny_getItem_list_slice ht.isList hs pl pu .none (by simp) ?_ (by rw[size_toArray] <;> omega);rw[Vd,<-bM]
 refine⟨.ref s.heap.objs.size,_,I.laid (t':=s.toks) (o:=.lst (jbC xs lo hi)) (λb ob q=>get?_push_of_some _ q) (le_refl _) ?_,rfl,q _ (I.hok.fresh (le_refl _))⟩
 exact⟨le_trans (YA xs lo hi) hz,_,0,(r.drop (HT.sIx xs.length 0 lo)).take (HT.sIx xs.length xs.length hi-HT.sIx xs.length 0 lo),get?_push_size _ rfl⟩
def Yz:V->Bool
 |.non=>true
 |.bl _=>true
 |.int _=>true
 |.str _=>true
 |_=>false
def eqV:V->V->Bool
 |.non,.non=>true
 |.bl a,.bl b=>a==b
 |.bl a,.int b=>(if a then 1 else 0)==b
 |.int a,.bl b=>a==(if b then 1 else 0)
 |.int a,.int b=>a==b
 |.str a,.str b=>a==b
 |_,_=>false
theorem joN {A:Around}{s:Shared}{y x:V}{u v:Value}(ry:RelV y u)(rx:RelV x v)(fy:Yz y=true)(fx:Yz x=true):SeqAt.EqAt A s u v (eqV y x):=by
 cases y with
 |non=>
  cases ry;cases x with
  |non=>cases rx;exact SeqAt.EqAt.same _
  |bl b=>cases rx;exact SeqAt.EqAt.none_bool b
  |int b=>obtain⟨t,rfl⟩:=rx;exact SeqAt.EqAt.none_int b t
  |str b=>obtain⟨t,rfl⟩:=rx;exact SeqAt.EqAt.none_str b t
  |_=>exact absurd (show false=true from fx) Bool.false_ne_true
 |bl a=>
  cases ry;cases x with
  |non=>cases rx;exact SeqAt.EqAt.bool_none a
  |bl b=>cases rx;exact SeqAt.EqAt.bool_bool a b
  |int b=>obtain⟨t,rfl⟩:=rx;exact SeqAt.EqAt.bool_int a b t
  |str b=>obtain⟨t,rfl⟩:=rx;exact SeqAt.EqAt.bool_str a b t
  |_=>exact absurd (show false=true from fx) Bool.false_ne_true
 |int a=>
  obtain⟨t',rfl⟩:=ry
  cases x with
  |non=>cases rx;exact SeqAt.EqAt.int_none a t'
  |bl b=>cases rx;exact SeqAt.EqAt.int_bool a t' b
  |int b=>obtain⟨t,rfl⟩:=rx;exact SeqAt.EqAt.int_int a t' b t
  |str b=>obtain⟨t,rfl⟩:=rx;exact SeqAt.EqAt.int_str a t' b t
  |_=>exact absurd (show false=true from fx) Bool.false_ne_true
 |str a=>
  obtain⟨t',rfl⟩:=ry
  cases x with
  |non=>cases rx;exact SeqAt.EqAt.str_none a t'
  |bl b=>cases rx;exact SeqAt.EqAt.str_bool a t' b
  |int b=>obtain⟨t,rfl⟩:=rx;exact SeqAt.EqAt.str_int a t' b t
  |str b=>obtain⟨t,rfl⟩:=rx;exact SeqAt.EqAt.str_str a t' b t
  |_=>exact absurd (show false=true from fx) Bool.false_ne_true
 |_=>exact absurd (show false=true from fy) Bool.false_ne_true
theorem UY:yK X (.builtin "len") (λxs H Q=>∃p ys,xs=[.ref p]/\(SqL X.K H p ys\/SqT X.K H p ys)/\Q (.int ys.length) H):=by
 intro bF s σ H xs us Q I r h
 obtain⟨p,ys,rfl,hq,q⟩:=h
 obtain⟨u,rfl,rx⟩:=vals1 r
 cases rx;have hn:=Xx;rcases hq with hq|hq
 ·obtain⟨its,r',pl,hz⟩:=I.list hq
  have bM:=r'.length;exact Calls.call_len_list pl.isList (by simp only[size_toArray] <;> omega) ⟨.int ys.length,H,I.tok _,⟨s.toks+1,by rw[size_toArray,bM]⟩,q⟩
 ·obtain⟨its,r',pl,hz⟩:=I.tuple hq
  have bM:=r'.length;exact len_tuple pl (by simp only[size_toArray] <;> omega) ⟨.int ys.length,H,I.tok _,⟨s.toks+1,by rw[size_toArray,bM]⟩,q⟩
theorem JA:yK X (.type "list") (λxs H Q=>∃p ys,xs=[.ref p]/\(SqL X.K H p ys\/SqT X.K H p ys)/\∀l,H l=none->Q (.ref l) (upd H l (.lst ys))):=by
 intro bF s σ H xs us Q I r h
 obtain⟨p,ys,rfl,hq,q⟩:=h
 obtain⟨u,rfl,rx⟩:=vals1 r
 cases rx;have fin:∀(its:List Value),yg ys its->ys.length<=sizeLine->∀(h':Heap) (c':Nat),(∀b o',s.heap.get? b=some o'->h'.get? b=some o')->
   h'.get? s.heap.objs.size=some { cls:=.type "list",dict:=none,data:=.seq its.toArray c',slots:=#[] }->EP X bF σ Q (.ref s.heap.objs.size) { s with heap:=h' }:=λits r' hz h' c' kp e=>
  ⟨.ref s.heap.objs.size,_,I.laid (t':=s.toks) kp (le_refl _) (show yl X.prog X.w _ h' _ (.lst ys)from⟨hz,its,c',r',e⟩),rfl,q _ (I.hok.fresh (le_refl _))⟩
 rcases hq with hq|hq
 ·obtain⟨its,r',pl,hz⟩:=I.list hq
  have bM:=r'.length
  obtain⟨o,ho,hc,n,hd⟩:=pl.isList
  exact call_list_seq p (.inl rfl) ho hc hd (λh' c' kp e=>fin its r' hz h' c' kp e) (by simp only[size_toArray] <;> omega)
 ·obtain⟨its,r',pl,hz⟩:=I.tuple hq
  have bM:=r'.length
  obtain⟨o,ho,hc,n,hd⟩:=pl
  exact call_list_seq p (.inr rfl) ho hc hd (λh' c' kp e=>fin its r' hz h' c' kp e) (by simp only[size_toArray] <;> omega)
def tyV (K:Frag)(T:String)(x:V)(H:Hp):Prop:=match x with
 |.str _=>T= "str"
 |.int _=>T= "int"
 |.ref p=>(T= "list"/\∃xs,SqL K H p xs)\/(T= "tuple"/\∃o,K.lookup p=some o/\o.cls= .type "tuple"/\o.dict=none) \/
   (T= "dict"/\((∃kvs,H p=some (.dK kvs))\/∃kvs,H p=some (.dT kvs)))\/(T= "set"/\∃S n,H p=some (.set S n))
 |_=>False
theorem jmj {bF:tP0}{σ:St}{H:Hp}{s:Shared}{T:String}{x:V}{v:Value}(I:Inv X bF σ H s)(r:RelV x v)(ty:tyV X.K T x H) :
  s.TypeIs v T/\∀a,v= .ref a->∃ob,s.heap.get? a=some ob/\ob.dict=none:=by
 cases x with
 |str z=>
  obtain⟨t,rfl⟩:=r
  cases (show T= "str" from ty)
  exact⟨typeIs_str s z t,λ_ e=>nomatch e⟩
 |int i=>
  obtain⟨t,rfl⟩:=r
  cases (show T= "int" from ty)
  exact⟨typeIs_int s i t,λ_ e=>nomatch e⟩
 |ref p=>
  cases r;rcases ty with⟨rfl,xs,hq⟩|⟨rfl,o,hk,hc,hd⟩|⟨rfl,hk⟩|⟨rfl,S,n,hk⟩
  ·obtain⟨its,_,pl,_⟩:=I.list hq
   refine⟨pl.isList.typeIs,λa e=>?_⟩
   cases e
   obtain⟨o,n,e,c,hd,_⟩:=pl
   exact⟨o,e,hd⟩
  ·refine⟨⟨o,I.aI p o hk,hc⟩,λa e=>?_⟩
   cases e
   exact⟨o,I.aI _ o hk,hd⟩
  ·have z:∃o,s.heap.get? p=some o/\o.ExactDict:=by
    rcases hk with⟨kvs,hk⟩|⟨kvs,hk⟩
    ·obtain⟨_,_,_,_,o,_,_,e,ex,_⟩:=I.hok p _ hk
     exact⟨o,e,ex⟩
    ·obtain⟨_,_,_,_,o,_,_,e,ex,_⟩:=I.hok p _ hk
     exact⟨o,e,ex⟩
   obtain⟨o,e,ex⟩:=z
   refine⟨⟨o,e,ex.1⟩,λa e2=>?_⟩
   cases e2
   exact⟨o,e,ex.2.1⟩
  ·obtain⟨o,_,_,_,e,ex,_⟩:=I.hok p _ hk
   refine⟨⟨o,e,ex.1⟩,λa e2=>?_⟩
   cases e2
   exact⟨o,e,ex.2.1⟩
 |_=>exact False.elim ty
def tBM (K:Frag)(T:String)(r:V->List V->Hp->VK->Prop)(to:TE)(t:TA):TE:=λσ H Q=>to σ H λx H1=>tyV K T x H1/\t σ H1 λxs H2=>r x xs H2 Q
variable {o e:Expr}{es:List Expr}{to:TE}{t:TA}{name:Str}{apos bQ:Pos}{T id:String}{r:V->List V->Hp->VK->Prop}
theorem jpQ (pa:PlainAttrs T)(slot:Slot T name id)(lJ:typeOf (.builtin id)=pure (.type "method_descriptor"))(hm:MtR X id r)(ho:PE X o to)(ha:PA X (e::es) t)(dw:attributeBase o name X.env (eval o X.env)=eval o X.env:=by rfl)
  (iK:((backTo bQ (starEach (e::es) X.env)).all (λx=>!x.1) && (backToKw bQ (keywordEach [] X.env)).all (λx=>x.1.isSome)
   && decide ((e::es).length+([]:List Keyword).length+(if([]:List Keyword).isEmpty then 0 else 1)<30))=true:=by rfl)
  (dm:(apos.endLine==bQ.line)=true:=by rfl) (hs:starEach (e::es) X.env=(false,eval e X.env)::starEach es X.env:=by rfl) (eU:(backTo bQ (starEach es X.env)).any (·.1)=false:=by rfl) :
  PE X (.Call (.Attribute o name apos) (e::es) [] bQ) (tBM X.K T r to t):=by
 intro bF s σ H Q I h;refine wpAny_Call_method_late dw iK dm rfl (thn (ho bF s σ H _ I h) λv s1 bH=>?_)
 obtain⟨x,H1,I1,r1,ty,q1⟩:=bH
 obtain⟨h1,h2⟩:=jmj I1 r1 ty
 refine⟨T,id,pa,slot,lJ,h1,h2,?_⟩
 have hA:=ha bQ bF s1 σ H1 _ I1 q1;rw[hs]at hA ⊢;refine Calls.callWith_builtin (by show(false || (backTo bQ (starEach es X.env)).any (·.1))=false;rw[eU] <;> rfl) (Calls.evalArgs_plain ?_);exact thn hA λus s2 ⟨vs,H2,I2,r2,q2⟩=>hm bF s2 σ H2 x vs v us Q I2 r1 r2 q2
/- xs.append(e),list.index on a module's tuple .. are MtR facts of 06m -/
end
def MtM (X:Cx)(id:String)(r:V->List V->Hp->VK->Prop):Prop:=
 ∀(bF:tP0) (s:Shared) (σ:St) (H:Hp) (x:V) (xs:List V) (v:Value) (us:List Value) (Q:VK),Inv X bF σ H s->RelV x v->yg xs us->r x xs H Q->
  wpAny (model X.prog X.w) X.A (call (.builtin id) (v::us)) (EP X bF σ Q) X.xe s
theorem yg.one:∀{x:V}{us:List Value},yg [x] us->∃u,us=[u]/\RelV x u
 |_,_,.cons r .nil=>⟨_,rfl,r⟩
theorem yg.two:∀{x y:V}{us:List Value},yg [x,y] us->∃u v,us=[u,v]/\RelV x u/\RelV y v
 |_,_,_,.cons r (.cons q .nil)=>⟨_,_,rfl,r,q⟩
theorem yg.rep {xs:List V}{us:List Value}(h:yg xs us):∀k:Nat,yg (replicate k xs).flatten (replicate k us).flatten
 |0=>.nil
 |k+1=>by
  rw[replicate_succ,replicate_succ,flatten_cons,flatten_cons];exact yg.append h (yg.rep h k)
theorem foldl_rep (its:List Value):∀(k:Nat) (acc:List Value),
  foldl (λx1 x2=>x1++x2) acc.toArray (replicate k its.toArray)=(acc++(replicate k its).flatten).toArray
 |0,acc=>by simp
 |k+1,acc=>by
  have e:acc.toArray++its.toArray=(acc++its).toArray:=by simp
  have e2:(acc++its)++(replicate k its).flatten=acc++(replicate (k+1) its).flatten:=by
   rw[replicate_succ,flatten_cons,append_assoc]
  rw[<-e2,<-foldl_rep its k (acc++its),<-e,replicate_succ,foldl_cons]
section
variable {X:Cx}{bF:tP0}{σ:St}{H:Hp}{s:Shared}{l:Addr}{xs ys:List V}
theorem Inv.bq {its its':List Value}{n:Nat}{f:Array Value->Array Value}{t':Nat}(I:Inv X bF σ H s)(hH:H l=some (.lst xs))(e:s.heap.get? l=some { cls:=.type "list",data:=.seq its.toArray n }) (hf:f its.toArray=its'.toArray) (hv:yg ys its') (hz:ys.length<=sizeLine) :
  Inv X bF σ (upd H l (.lst ys)) { s with heap:=s.heap.update l (Obj.mapSeq f),toks:=t' }:=by
 have q:=PySem.IsL.update e f;rw[hf]at q;refine I.write (x:=l) (e:=l) (by rw[hH];exact trivial) (.inl rfl) (λb' u hb hu=>(get?_update_other s.heap (Obj.mapSeq f) (Ne.symm hb)).trans hu) ⟨_,q⟩ ?_
 exact⟨hz,its',_,hv,q⟩
theorem Inv.aW {its:List Value}{t':Nat}(I:Inv X bF σ H s)(hv:yg ys its)(hz:ys.length<=sizeLine) :
  Inv X bF σ (upd H s.heap.objs.size (.lst ys)) { s with heap:=s.heap.push { cls:=.type "list",data:=.seq its.toArray },toks:=t' }:=
 I.laid (λ_ _ q=>get?_push_of_some _ q) (le_refl _) ⟨hz,its,0,hv,get?_push_size _ rfl⟩
theorem Inv.fresh (I:Inv X bF σ H s):H s.heap.objs.size=none:=I.hok.fresh (le_refl _)
theorem Inv.aV (I:Inv X bF σ H s)(hH:H l=some (.lst xs)):xs.length<=sizeLine/\∃(its:List Value) (n:Nat),yg xs its/\xs.length=its.length/\s.heap.get? l=some { cls:=.type "list",data:=.seq its.toArray n }:=by
 obtain⟨z,its,n,r,e⟩:=I.hok l _ hH
 exact⟨z,its,n,r,r.length,e⟩
theorem jhY {n:Nat}(h:n<=sizeLine):Builtin.List.listTooLong n=false:=by
 unfold Builtin.List.listTooLong;exact decide_eq_false (by omega)
end
section
variable {X:Cx}
def jkh:V->List V->Hp->VK->Prop:=λx vs H Q=>∃l xs y,x= .ref l/\vs=[y]/\H l=some (.lst xs)/\xs.length<sizeLine/\Q .non (upd H l (.lst (xs++[y])))
theorem JW:MtM X "list.append" jkh:=by
 intro bF s σ H x vs v us Q I rx rv h
 obtain⟨l,xs,y,rfl,rfl,hH,hz,q⟩:=h
 cases rx
 obtain⟨u,rfl,ru⟩:=rv.one
 obtain⟨z,its,n,r,hl,e⟩:=I.aV hH
 refine call_meets F.slot_list_append ⟨_,e,rfl⟩ F.entry_list_append (F.args_list_append_2 _ _) (PySem.list_append l its.toArray n u (by rw[size_toArray];omega)) ⟨e,?_⟩
 refine⟨.non,_,I.bq (its':=its++[u]) hH e (by simp) (r.append (.cons ru .nil)) ?_,rfl,q⟩
 rw[length_append,List.length_singleton];omega
def jri:R2:=λx y H Q=>∃l b xs zs,x= .ref l/\y= .ref b/\H l=some (.lst xs)/\H b=some (.lst zs)/\xs.length+zs.length<=sizeLine/\∀p,H p=none->Q (.ref p) (upd H p (.lst (xs++zs)))
theorem jnC:OpR X (binaryOp .Add) jri:=by
 intro bF s σ H x y v u Q I rx ry h
 obtain⟨l,b,xs,zs,rfl,rfl,hH,hB,hz,q⟩:=h
 cases rx;cases ry
 obtain⟨z,its,n,r,hl,e⟩:=I.aV hH
 obtain⟨z2,fT,n2,r2,km,e2⟩:=I.aV hB
 refine PySem.P.add_list e e2 ?_ (by rw[size_toArray,size_toArray];omega);have ea:its.toArray++fT.toArray=(its++fT).toArray:=by simp
 rw[ea]
 exact⟨.ref _,_,I.aW (t':=s.toks) (r.append r2) (by rw[length_append];omega),rfl,q _ I.fresh⟩
def jre:R2:=λx y H Q=>∃l k xs,x= .ref l/\y= .int k/\H l=some (.lst xs)/\-(2 ^ 63)<=k/\k<2 ^ 63/\xs.length*k.toNat<=sizeLine /\
 ∀p,H p=none->Q (.ref p) (upd H p (.lst (replicate k.toNat xs).flatten))
theorem jkM {α:Type}(xs:List α)(k:Nat):(replicate k xs).flatten.length=k*xs.length:=by
 induction k with
 |zero=>simp
 |succ k ih=>rw[replicate_succ,flatten_cons,length_append,ih,Nat.succ_mul,Nat.add_comm]
theorem jnx:OpR X (binaryOp .Mult) jre:=by
 intro bF s σ H x y v u Q I rx ry h
 obtain⟨l,k,xs,rfl,rfl,hH,h1,h2,hz,q⟩:=h
 cases rx
 obtain⟨t,rfl⟩:=ry
 obtain⟨z,its,n,r,hl,e⟩:=I.aV hH
 have bM:its.toArray.size*k.toNat<=sizeLine:=by rw[size_toArray,<-hl];exact hz
 have hcap:¬ its.toArray.size*k.toNat > (2 ^ 63-1)/8:=by
  have:(sizeLine:Nat)<=(2 ^ 63-1)/8:=by decide
  omega
 have hfit:¬(!Builtin.List.listFitsIndex k)=true:=by
  rw[fitsIndex_both h1 h2];exact Bool.false_ne_true
 have hlong:¬ Builtin.List.listTooLong (its.toArray.size*k.toNat)=true:=by
  rw[jhY bM];exact Bool.false_ne_true
 have hnew:foldl (λx1 x2=>x1++x2) #[] (replicate (if its.toArray.isEmpty=true then 0 else k.toNat) its.toArray)=(replicate k.toNat its).flatten.toArray:=by
  have f0:∀m:Nat,foldl (λx1 x2=>x1++x2) #[] (replicate m its.toArray)=(replicate m its).flatten.toArray:=λm=>by
   have:=foldl_rep its m []
   rw[nil_append]at this;exact this
  rw[f0];cases its with
  |nil=>simp
  |cons a r'=>rw[if_neg (by simp)]
 refine wpAny_binaryOp_repeat_ref (T:="list") (U:="int") (by decide) ⟨_,e,rfl⟩ (λs'=>typeIs_int s' k t) noFill_list_mul F.fills_int_mul F.slot_int_rmul repeat_list F.slot_int_index.lookup
  (call_meets F.slot_int_rmul (typeIs_int s k t) F.entry_int_rmul (F.args_int_rmul_2 _ _) (int___rmul___int_list k t l its.toArray n)
   ⟨e,rfl,⟨_,e,rfl⟩,call_meets F.slot_list_mul ⟨_,e,rfl⟩ F.entry_list_mul (F.args_list_mul_2 _ _) (AutoListH.list___mul___list_int_3 l its.toArray n k t hfit hcap hlong) ⟨e,?_⟩⟩)
 rw[hnew]
 exact⟨.ref _,_,I.aW (t':=s.toks) (r.rep k.toNat) (by rw[jkM,Nat.mul_comm];exact hz),rfl,q _ I.fresh⟩
end
end L2
namespace Att
open PySem PySem.W PySem.Calls PyProof.Rows
theorem YE {P:Params}{h:Heap}:∀(ns:List Int) (vs:List Value),WellAll P h vs (ns.map WData.int)->IntsAre vs ns:=by
 intro ns
 induction ns with
 |nil=>
  intro vs w;rw[map_nil]at w;cases w;exact .nil
 |cons n ns ih=>
  intro vs w;rw[map_cons]at w;cases w with
  |cons a b=>
   cases a;exact .cons _ _ (ih _ b)
theorem jfK {l:OpenLaw}{n:Nat}(hn:l.most=some n){P:Params}{h:Heap}{args:List WData}{fK:List Value}(fq:l.row.toRowW.claim.pre args=true) (ki:WellAll P h fK args) :
  ∃a vs ns,fK=[Value.ref a]/\args=[WData.list (ns.map WData.int)]/\h.get? a=some { cls:=.type "list",data:=.seq vs.toArray }/\IntsAre vs ns/\ns.length<=n:=by
 have hsh:WShape.hasAll [] args [.list .int]=true:=(pre_splitW fq).1;have hc:l.pre.holds [] { args:=args }=true:=(pre_splitW fq).2
 obtain⟨d,r,rfl,h1,h2⟩:=hasAllW_cons hsh
 obtain rfl:=hasAllW_nil h2
 obtain⟨xs,rfl,h3⟩:=hasW_list h1
 obtain⟨ns,rfl⟩:=items_int h3
 have bM:ns.length<=n:=by
  unfold OpenLaw.pre at hc;have h4:(WTm.not (.lt (.lit (.int (n:Int))) (.len (.arg 0)))).holds [] { args:=[.list (ns.map .int)] }=true:=by
   have h4:=(holds_andW hc).1;rw[hn]at h4;exact h4
  have h5:=condW_of h4 (w_not (w_lt w_lit (w_len_list (w_arg rfl))));rw[length_map]at h5;refine le_of_not_lt λq=>?_;have q':(n:Int)<((ns.length:Nat):Int):=by omega
  first
   |(rw[decide_eq_true q']at h5;exact absurd h5 (by decide))
   |(simp at h5;omega)
 cases ki with
 |cons w1 w2=>
  cases w2;cases w1 with
  |list ho cC=>exact⟨_,_,ns,rfl,rfl,ho,YE ns _ cC,bM⟩
theorem jfR (l:OpenLaw)(args:List WData):l.row.toRowW.claim.post args (.bool true) args=true:=
 postW_of (r:=l.row.toRowW) (X:=(true==true))
  (show WShape.has [] (.bool true) .bool=true by first|rfl|decide|simp[WShape.has,WShape.arms,WShape.armsAll])
  (show(WTm.eq .res (.lit (.bool true))).value [] { args:=args,res:=some (.bool true),after:=args }=some (.bool (true==true))from w_eq_bool (w_res rfl) w_lit) rfl
theorem attach_call {l:OpenLaw}{n:Nat}{q:Program}{loose:List Str}{XP:(Str->Option Value)->Heap->Prop}{YP:World->Heap->Prop}{d:DefRec}(hn:l.most=some n) (kC:d.params.defaults=[])(call:∀(w:World) (s₀ b6:Shared) (mg mb:tM0) (fa:Addr) (o:Obj) (pm cd dM:Value) (a:Addr) (vs:List Value) (ns:List Int),
   Ground q loose [] XP w s₀ mg mb b6.heap->YP w b6.heap->
   b6.heap.get? fa=some o->o.data= .func (docDef d.name d.params d.body d.scope pm cd dM)->b6.heap.CodeRec cd d.name->mg d.name=some (.ref fa)->
   b6.heap.get? a=some { cls:=.type "list",data:=.seq vs.toArray }->IntsAre vs ns->ns.length<=n->b6.gens= #[]->
   codeAny (model l.prog w) callerA (.call (.ref fa) ⟨[.ref a],[]⟩) (λr s'=>r= .ok (.ret (.bool true))/\OldK b6.heap s'.heap/\s'.os=b6.os/\AllBare s'.gens) b6) :
  WalkO q loose XP YP l.row.toRowW d [] (λf vs=>PySem.call f vs):=by
 intro w s₀ b6 mg mb G Y fa o pm cd dM dV kV ho hd fj hD hmg hg args fK as fq gZ hrd ki kY;obtain rfl:dV= .none:=Dflts.none hD kC;obtain rfl:kV= .none:=Dflts.noKw hD
 obtain⟨a,vs,ns,rfl,rfl,iC,fY,bM⟩:=jfK hn fq ki
 refine enter_call (codeAny_mono (call w s₀ b6 mg mb fa o pm cd dM a vs ns G Y ho (fd_plain hd) fj hmg iC fY bM hg) λr s' hq=>?_)
 obtain⟨rfl,h2,h3,h4⟩:=hq
 exact⟨.inl ⟨.bool true,.bool true,[],rfl,λ_=>rfl,.bool true,jfR l _,λ_=>⟨List.Pairwise.nil,λ_ hm=>(nomatch hm)⟩⟩,h2,h3,h4⟩
end Att
namespace L2
open PySem PySem.Spec PyProof.Rows
theorem Vm {vs:List Value}{ns:List Int}(h:IntsAre vs ns):yg (ns.map V.int) vs:=by
 induction h with
 |nil=>exact .nil
 |cons n t h ih=>exact .cons ⟨t,rfl⟩ ih
def jpg (H:Hp):Prop:=∀b,H b=none\/∃o xs,H b=some (.frz o (.lst xs))
theorem jil {P:Program}{w:World}{K:Frag}{mg mb:tM0}{CX:CXT}{k:Nat}{fa a:Addr}{fd:FuncData}{x:Str}{sp:Sp}{b6:Shared}{vs:List Value}{ns:List Int}(KX:K.In b6.heap) (hns:b6.heap.Ns mainGlobals mg) (hb:b6.heap.Ns builtinsNs mb) (lh:∀x:Str,x≠"__name__"->mb x=bootBuiltins x) (hlim:b6.heap.NoLimit) (hg:b6.gens= #[])(ha:b6.heap.get? a=some { cls:=.type "list",data:=.seq vs.toArray }) (hi:IntsAre vs ns) (hl:ns.length<=sizeLine) (hr:Room k callerA)(F:∀base:Heap,K.In base->base.Ns mainGlobals mg->FnOk P w K mg base CX k fa fd [x] sp) (hbind:∀(s:Shared) (u:Value),BindsTo s fd ⟨[u],[]⟩ [(x,u)])(fF:∀H:Hp,jpg H->SqL K H a (ns.map V.int)->sp [.ref a] H (λv _=>v= .bl true) λ_ _ _=>False)(md:∀H e s',CX [] H b6 (λ_ _ _=>False) e s'->False) :
  codeAny (model P w) callerA (.call (.ref fa) ⟨[.ref a],[]⟩) (λr s'=>r= .ok (.ret (.bool true))/\OldK b6.heap s'.heap/\s'.os=b6.os/\AllBare s'.gens) b6:=by
 have rv:=Vm hi;have lenV:=hi.length
 -- from an abstract heap in which nothing but the script may be dR
 have core:∀H:Hp,jpg H->SqL K H a (ns.map V.int)->HOk P w H b6.heap->(∀b,H b≠none->b=a)->(H a≠none->K.lookup a=none)->
   codeAny (model P w) callerA (.call (.ref fa) ⟨[.ref a],[]⟩) (λr s'=>r= .ok (.ret (.bool true))/\OldK b6.heap s'.heap/\s'.os=b6.os/\AllBare s'.gens) b6:=by
  intro H hO hS hok hA hK;have base_of:∀{b:Addr}{o:Obj},b6.heap.get? b=some o->H b=none->(UK b6.heap H).get? b=some o:=λe n=>jiw e n;have ka:∀{b:Addr}{o:Obj}{es:Array DictEntry}{ep:Nat},b6.heap.get? b=some o->o.data= .dict es ep->H b=none:=λ{b o es ep} e d=>by
   cases q:H b with
   |none=>rfl
   |some u=>
    have e':b=a:=hA b (by rw[q];simp);subst e';rw[ha]at e;cases e;have d':Data.seq vs.toArray _=Data.dict es ep:=d;cases d'
  have kU:∀{b:Addr}{m:tM0},b6.heap.Ns b m->(UK b6.heap H).Ns b m:=λ{b m} ⟨o,es,ep,e,d,r⟩=>⟨o,es,ep,base_of e (ka e d),d,r⟩
  have hKb:K.In (UK b6.heap H):=λb o e=>base_of (KX b o e) (by
   cases q:H b with
   |none=>rfl
   |some u=>
    have e':b=a:=hA b (by rw[q];simp);subst e';rw[hK (by rw[q];simp)]at e;cases e)
  have hM:Mod K mg (UK b6.heap H):=⟨hKb,kU hns,⟨mb,kU hb,lh⟩,let ⟨mc,h1,h2⟩:=hlim;⟨mc,kU h1,h2⟩⟩
  have e0:Env0 P w K mg (UK b6.heap H) callerA [] b6 H:=⟨rfl,hM,λb o e=>jkG e,le_of_eq (jgl _ _),trivial,λb hb=>absurd (show b∈([]:List Addr)from hb) (by simp),hok,.of_eq hg⟩
  refine codeAny_mono ((F _ hKb (kU hns)).run callerA [] b6 H ⟨[.ref a],[]⟩ [.ref a] [.ref a] _ _ hr e0 (hbind b6 (.ref a)) (.cons rfl .nil) (fF H hO hS)) λr s' h=>?_;cases r with
  |error e=>exact(md H e s' h).elim
  |ok fl=>
   cases fl with
   |next=>exact False.elim h
   |brk=>exact False.elim h
   |cont=>exact False.elim h
   |ret u=>
    obtain⟨v,H',os,bare,un,hok',r',q⟩:=h
    have q':v= .bl true:=q;subst q';obtain rfl:u=Value.bool true:=r'
    refine⟨rfl,OldK.of_keep λb o e=>?_,os,bare⟩
    cases q:H b with
    |none=>exact un.keep b o e q (by intro z;exact absurd (show b∈([]:List Addr)from z) (by simp)) (by simp)
    |some u=>
     rcases hO b with z|⟨ob,xs,z⟩
     ·rw[q]at z;cases z
     ·have z2:=un.frzs b ob _ z
      obtain⟨e1,_⟩:=hok b _ z
      obtain⟨e2,_⟩:=hok' b _ z2
      rw[e]at e1;cases e1;exact e2
 cases hk:K.lookup a with
 |some o=>
  -- the script is one of the module's own objects
  have e:=KX a o hk;rw[ha]at e;cases e;refine core (λ_=>none) (λ_=>.inl rfl) (.inr ⟨_,vs.toArray,_,hk,rfl,rfl,rfl,by rw[size_toArray,lenV];exact hl,by simpa using rv⟩) (λb u z=>by have z':(none:Option HO)=some u:=z;cases z') (λb z=>absurd rfl z) λz=>absurd rfl z
 |none=>
  refine core (λb=>if b=a then some (.frz { cls:=.type "list",data:=.seq vs.toArray } (.lst (ns.map V.int)))else none) (λb=>?_) (.inl (.inr ⟨{ cls:=.type "list",data:=.seq vs.toArray },if_pos rfl⟩)) (λb u z=>?_) (λb z=>?_) λ_=>hk
  ·by_cases hb:b=a
   ·exact .inr ⟨_,_,if_pos hb⟩
   ·exact .inl (if_neg hb)
  ·by_cases hb:b=a
   ·have z':=(if_pos hb).symm.trans z;cases z';subst hb
    exact⟨ha,by rw[length_map];exact hl,vs,_,rv,ha⟩
   ·have z':=(if_neg hb).symm.trans z;cases z'
  ·by_cases hb:b=a
   ·exact hb
   ·exact absurd (if_neg hb) z
theorem walk_of {l:PySem.W.OpenLaw}{n k:Nat}{q:Program}{loose:List Str}{XP:(Str->Option Value)->Heap->Prop}{YP:World->Heap->Prop}{d:DefRec}{K:Params->Frag}{CX:World->CXT}{sp:World->Sp}{x:Str}(hn:l.most=some n) (iE:n<=sizeLine) (kC:d.params.defaults=[]) (hr:Room k callerA)(hY:∀(w:World) (h:Heap),YP w h->(K w.params).In h)(F:∀(w:World) (mg:tM0) (fa:Addr) (h:Heap),(K w.params).In h->h.Ns mainGlobals mg->mg d.name=some (.ref fa)->
   ∃fd:FuncData,(∀(s:Shared) (u:Value),BindsTo s fd ⟨[u],[]⟩ [(x,u)]) /\
    ∀base:Heap,(K w.params).In base->base.Ns mainGlobals mg->FnOk l.prog w (K w.params) mg base (CX w) k fa fd [x] (sp w))
  (fF:∀(w:World) (H:Hp) (a:Addr) (ns:List Int),ns.length<=n->jpg H->SqL (K w.params) H a (ns.map V.int)->sp w [.ref a] H (λv _=>v= .bl true) λ_ _ _=>False)
  (md:∀(w:World) (H:Hp) (s:Shared) (e:Value) (s':Shared),CX w [] H s (λ_ _ _=>False) e s'->False) :
  PySem.W.WalkO q loose XP YP l.row.toRowW d [] (λf vs=>PySem.call f vs):=by
 refine Att.attach_call hn kC λw s₀ b6 mg mb fa o pm cd dM a vs ns G Y ho hd fj hmg iC fY bM hg=>?_;have KX:=hY w _ Y
 obtain⟨fd,hb,hF⟩:=F w mg fa _ KX G.T.g hmg
 exact jil KX G.T.g G.T.b G.T.builtins G.T.nolimit hg iC fY (le_trans bM iE) hr hF hb (λH hO hS=>fF w H a ns bM hO hS) λH e s'=>md w H b6 e s'
def xm (s:Stmt)(j:Nat):Stmt:=match s with
 |.ClassDef _ _ _ body _ _ _ _ _ _ _=>body.getD j (.Pass ⟨0,0,0,0⟩)
 |_=>.Pass ⟨0,0,0,0⟩
def jl (s:Stmt):Arguments:=match s with
 |.FunctionDef _ a _ _ _ _ _ _ _ _=>a
 |_=>{ posonlyargs:=[],args:=[],vararg:=none,kwonlyargs:=[],kw_defaults:=[],kwarg:=none,defaults:=[] }
def ji (s:Stmt):List Stmt:=match s with
 |.FunctionDef _ _ b _ _ _ _ _ _ _=>b
 |_=>[]
def jc (s:Stmt):Scope:=match s with
 |.FunctionDef _ _ _ _ _ _ sc _ _ _=>sc
 |_=>{ kind:=.function,names:=[],isGenerator:=false,isCoroutine:=false }
abbrev CX0:CXT:=λ_ _ _ _ _ _=>False
abbrev E0:XK:=λ_ _ _=>False
structure Fun (K:Frag)(x qual:Str)(st:Stmt)(f:Addr)(fd:FuncData):Prop where
 ex:∃(oc:Value) (od:Option Addr) (kV dM pm:Value) (an:Option Addr) (bV ct:Value) (fO:Array (Option Value)),
  fd=fnOf x qual (jl st) (ji st) (jc st) .none kV dM pm an bV ct/\K.lookup f=some ⟨oc,od,.func fd,fO⟩/\codeIn K bV qual=true
 kp:keepIn K (.ref f)=true
section
variable {P:Program}{w:World}{K:Frag}{mg:tM0}{base:Heap}
theorem Fun.ok {x qual:Str}{st:Stmt}{f:Addr}{fd:FuncData}{N ps:List Str}{k:Nat}{sp:Sp}(F:Fun K x qual st f fd)(S:FnScope N ps (jc st))(len:∀vs H Q E,sp vs H Q E->vs.length=ps.length)(dq:∀(bV:Value) (A:Around) (outer:List Env) (s:Shared) (H:Hp) (vs:List V) (Q:VK) (E:XK),Room k (A.deeper (envOfC qual (jc st) s.heap.objs.size f bV))->sp vs H Q E->
   ∃t,PSs (YF CX0 P w K mg base N qual (jc st) f bV A outer s H E).aN (ji st) t/\t { nx:=λ_ H'=>Q .non H',rt:=Q } (start N vs) H):FnOk P w K mg base CX0 (k+1) f fd ps sp:=by
 obtain⟨oc,od,kV,dM,pm,an,bV,ct,fO,rfl,lk,fj⟩:=F.ex
 refine jiG lk fj S len λA outer s H vs Q E hr fF=>?_
 obtain⟨t,h,q⟩:=dq bV A outer s H vs Q E hr fF
 exact⟨t,h.aN,q⟩
theorem jq {x qual:Str}{st:Stmt}{f:Addr}{oc:Value}{od an:Option Addr}{fO:Array (Option Value)}{kV dM pm bV ct:Value}(l:K.lookup f=some ⟨oc,od,.func (fnOf x qual (jl st) (ji st) (jc st) .none kV dM pm an bV ct),fO⟩)(c:codeIn K bV qual=true) (k:keepIn K (.ref f)=true):Fun K x qual st f (fnOf x qual (jl st) (ji st) (jc st) .none kV dM pm an bV ct):=⟨⟨oc,od,kV,dM,pm,an,bV,ct,fO,rfl,l,c⟩,k⟩
end
def Yp (H H':Hp):Prop:=∀b o,H b=some o->H' b=some o
theorem Yp.refl (H:Hp):Yp H H:=λ_ _ h=>h
theorem Yp.trans {H H1 H2:Hp}(a:Yp H H1)(b:Yp H1 H2):Yp H H2:=λc o h=>b c o (a c o h)
theorem Yp.seq {K:Frag}{H H':Hp}{a:Addr}{xs:List V}(e:Yp H H')(h:SqL K H a xs):SqL K H' a xs:=by
 rcases h with(h|⟨o,h⟩)|h
 ·exact .inl (.inl (e _ _ h))
 ·exact .inl (.inr ⟨o,e _ _ h⟩)
 ·exact .inr h
section
variable {prog:Program}{w:World}{A:Around}{R:Result->Shared->Prop}{s:Shared}
theorem UU {bU bG iter:Expr}{ifs:List Expr}{scope:Scope}{pos:Pos}{it acc:Value}{env:Env}(I:Nat->Shared->Prop)(bZ:∀n s,I n s->wpAny (model prog w) A (pyNext it) (λr b6=>match r with
   |none=>R (.ok .next) b6
   |some v=>wpAny (model prog w) A (letOwnedTupleGo bG it v) (λ_ bw=>wpAny (model prog w) A (assign bG env v) (λ_ b9=>
     wpAny (model prog w) A (forIn ifs true λc r=>if r=true then do let ok <-isTrue c env (eval c env);pure (ForInStep.yield ok)else pure (ForInStep.yield r)) (λok b3=>
      if ok=true then wpAny (model prog w) A (eval bU env) (λx bt=>
       wpAny (model prog w) A (call (.builtin "list.append") [acc,x]) (λ_ b8=>∃m,m<n/\I m b8) (λ_ _=>False) bt) (λ_ _=>False) b3
      else ∃m,m<n/\I m b3) (λ_ _=>False) b9) (λ_ _=>False) bw) (λ_ _=>False) b6) (λ_ _=>False) s)
  (n:Nat) (h:I n s) :
  codeAny (model prog w) A (.compLoop (.ListComp bU [⟨bG,iter,ifs,0⟩] scope pos) 0 it acc env) R s:=by
 refine codeAny_loop rfl I (λn s hI=>?_) n h;show wpAny _ A ((compTurn (.ListComp bU [⟨bG,iter,ifs,0⟩] scope pos) 0 it acc env).onRaise (λx=>do noteFrame x env;theTreesLotGoes x)) _ _ s;refine wpAny_noted ?_;rw[compTurn_list];refine wpAny_bind (wpAny_standAt (wpAny_bind (wpAny_mono (bZ n s hI) (λr b6 b7=>?_) λ_ _ h'=>h'.elim)));cases r with
 |none=>exact wpAny_pure b7
 |some v=>
  refine wpAny_bind (wpAny_mono b7 (λ_ bw bz=>?_) λ_ _ h'=>h'.elim);refine wpAny_bind (wpAny_mono bz (λ_ b9 bu=>wpAny_bind (wpAny_mono bu (λok b3 bC=>?_) λ_ _ h'=>h'.elim)) λ_ _ h'=>h'.elim);cases ok with
  |false=>exact wpAny_pure ⟨rfl,bC⟩
  |true=>
   exact wpAny_bind (wpAny_bind (wpAny_mono bC (λx bt bB=>wpAny_bind (wpAny_mono bB (λ_ b8 bx=>wpAny_pure (wpAny_pure ⟨rfl,bx⟩)) λ_ _ h'=>h'.elim)) λ_ _ h'=>h'.elim))
end
def uJ (env:Env):List (Str×NameKind)->List (Str×Addr)->List (Str×Addr)
 |[],cs=>cs
 |(n,k)::r,cs=>uJ env r (if k==.free then(n,(env.cells.lookup n).getD 0)::cs else cs)
def xH (scope:Scope)(env:Env):List (Str×Addr):=uJ env scope.names []
theorem VJ {env:Env}:∀(ns:List (Str×NameKind)) (cs:List (Str×Addr)),(∀y∈ns,y.2= .free->∃c,env.cells.lookup y.1=some c)->(forIn ns cs λ(x:Str×NameKind) (r:List (Str×Addr))=>(if(x.2==.free)=true then do
   let a <-cellOf env x.1
   pure (ForInStep.yield ((x.1,a)::r))else pure (ForInStep.yield r):Sem (ForInStep (List (Str×Addr)))))=pure (uJ env ns cs)
 |[],cs,_=>rfl
 |(n,k)::r,cs,h=>by
  rw[List.forIn_cons];have ih:=λcs=>VJ r cs λy hy=>h y (mem_cons_of_mem _ hy)
  by_cases hk:k= .free
  ·subst hk
   obtain⟨c,e⟩:=h (n,.free) mem_cons_self rfl
   have e':cellOf env n=pure c:=by
    unfold cellOf;have e2:env.cells.lookup n=some c:=e;rw[e2]
   simp only[beq_self_eq_true,if_true,e',pure_bind,ih];have e3:env.cells.lookup n=some c:=e;simp only[uJ,beq_self_eq_true,if_true,e3,getD_some]
  ·have hb:(k==NameKind.free)=false:=by simpa using hk
   simp only[hb,false_eq_true,if_false,pure_bind,ih,uJ]
theorem vL {scope:Scope}{env:Env}(h:∀y∈scope.names,y.2= .free->∃c,env.cells.lookup y.1=some c):closureFor scope env=pure (xH scope env):=by
 have e:=VJ scope.names [] h;unfold closureFor xH;rw[<-e];simp only[bind_pure]
theorem XS {env:Env}{x:Str}{c:Addr}:∀(ns:List (Str×NameKind)) (cs:List (Str×Addr)),(∀y∈ns,y.2= .free->∃c,env.cells.lookup y.1=some c)->
  (cs.lookup x=some c->env.cells.lookup x=some c)->(uJ env ns cs).lookup x=some c->env.cells.lookup x=some c
 |[],cs,_,h,e=>h e
 |(n,k)::r,cs,hf,h,e=>by
  refine XS r _ (λy hy=>hf y (mem_cons_of_mem _ hy)) ?_ e
  by_cases hk:k= .free
  ·subst hk
   obtain⟨c',e'⟩:=hf (n,.free) mem_cons_self rfl
   have e':env.cells.lookup n=some c':=e';simp only[beq_self_eq_true,if_true,e',getD_some];intro z;rw[lookup_cons]at z;cases hx:x==n with
   |true=>
    rw[hx]at z;have hX:x=n:=by simpa using hx
    rw[hX,e'];exact z
   |false=>
    rw[hx]at z;exact h z
  ·have hb:(k==NameKind.free)=false:=by simpa using hk
   simp only[hb,false_eq_true,if_false];exact h
theorem XT {env:Env}{x:Str}:∀(ns:List (Str×NameKind)) (cs:List (Str×Addr)),((∃c,cs.lookup x=some c)\/(x,NameKind.free)∈ns)->∃c,(uJ env ns cs).lookup x=some c
 |[],cs,h=>by
  rcases h with h|h
  ·exact h
  ·cases h
 |(n,k)::r,cs,h=>by
  refine XT r _ ?_
  by_cases hk:k= .free
  ·subst hk;simp only[beq_self_eq_true,if_true]
   by_cases hx:x=n
   ·subst hx;left;rw[lookup_cons];simp
   ·rcases h with⟨c,h⟩|h
    ·left
     refine⟨c,?_⟩
     rw[lookup_cons]
     have:(x==n)=false:=by simpa using hx
     rw[this];exact h
    ·right;rcases List.mem_cons.mp h with h|h
     ·cases h;exact absurd rfl hx
     ·exact h
  ·have hb:(k==NameKind.free)=false:=by simpa using hk
   simp only[hb,false_eq_true,if_false];rcases h with h|h
   ·exact .inl h
   ·right;rcases List.mem_cons.mp h with h|h
    ·cases h;exact absurd rfl hk
    ·exact h
def jQ (X:Cx)(N':List Str)(scope:Scope)(b3:Shared)(b4:Hp)(fp:List Addr):Cx:=
 { X with N:=N',s₀:=b3,H₀:=b4,env:=compEnvC scope (cellsFrom (b3.heap.objs.size+1) scope.names (xH scope X.env)) b3.heap.objs.size X.env,outer:=X.stack,ex:=fp,fn:=λx=>scope.names.lookup x==some .cell,pn:=[],xe:=λ_ _=>False }
def yZ (own:Nat)(js:List Nat)(σ:St):St:=replicate own none++js.map λj=>(σ[j]?).getD none
def JF (σ σ':St):Prop:=σ'.length=σ.length/\∀(k:Nat) (v:V),σ[k]?= some (some v)->σ'[k]?= some (some v)
theorem JF.refl (σ:St):JF σ σ:=⟨rfl,λ_ _ e=>e⟩
theorem JF.trans {a b c:St}(h:JF a b)(k:JF b c):JF a c:=⟨k.1.trans h.1,λi v e=>k.2 i v (h.2 i v e)⟩
theorem jlK {r:St}{x:Option V}:JF (none::r) (x::r):=⟨rfl,λk v e=>by
 cases k with
 |zero=>cases e
 |succ k=>exact e⟩
theorem jbc {r:St}{x y:Option V}:JF (none::none::r) (x::y::r):=⟨rfl,λk v e=>by
 cases k with
 |zero=>cases e
 |succ k=>cases k with
  |zero=>cases e
  |succ k=>exact e⟩
structure CompScope (osc sc:Scope)(own fr:List Str):Prop where
 kind:sc.kind= .function
 cel:∀y∈sc.names,y.2= .cell->sc.names.lookup y.1=some .cell
 loc:∀y∈sc.names,y.2= .local->sc.names.lookup y.1=some .local
 free:∀y∈sc.names,y.2= .free->osc.names.lookup y.1=some .cell\/osc.names.lookup y.1=some .free
 ik:∀x∈own,sc.names.lookup x=some .local\/sc.names.lookup x=some .cell
 nfr:∀x∈fr,(osc.names.lookup x=some .cell\/osc.names.lookup x=some .free)/\sc.names.lookup x=some .free
theorem xO {env:Env}{x:Str}{k:NameKind}:∀{names:List (Str×NameKind)},
  (names.map λ(n,k)=>if(k==NameKind.free && env.scope.kind==.function && env.kindOf n==some .cell)then(n,NameKind.cell)else(n,k)).lookup x=some k->names.lookup x=some k\/(k= .cell/\names.lookup x=some .free)
 |[],h=>by simp at h
 |(n,k')::r,h=>by
  have ih:=@xO env x k r;simp only[map_cons]at h;rw[lookup_cons]
  by_cases hc:(k'==NameKind.free && env.scope.kind==.function && env.kindOf n==some .cell)=true
  ·rw[if_pos hc,lookup_cons]at h;have hf:k'= .free:=by
    have:=(Bool.and_eq_true_iff.mp (Bool.and_eq_true_iff.mp hc).1).1
    simpa using this
   cases hx:x==n with
   |true=>
    rw[hx]at h;subst hf;exact .inr ⟨(Option.some.inj h).symm,rfl⟩
   |false=>
    rw[hx]at h;exact ih h
  ·rw[if_neg hc,lookup_cons]at h;cases hx:x==n with
   |true=>
    rw[hx]at h;exact .inl h
   |false=>
    rw[hx]at h;exact ih h
theorem xC {env:Env}{x:Str}:∀{names:List (Str×NameKind)},names.lookup x=some .free->
  (names.map λ(n,k)=>if(k==NameKind.free && env.scope.kind==.function && env.kindOf n==some .cell)then(n,NameKind.cell)else(n,k)).lookup x=some .cell \/
  (names.map λ(n,k)=>if(k==NameKind.free && env.scope.kind==.function && env.kindOf n==some .cell)then(n,NameKind.cell)else(n,k)).lookup x=some .free
 |[],h=>by simp at h
 |(n,k')::r,h=>by
  have ih:=@xC env x r;rw[lookup_cons]at h;simp only[map_cons]
  by_cases hc:(k'==NameKind.free && env.scope.kind==.function && env.kindOf n==some .cell)=true
  ·rw[if_pos hc,lookup_cons];cases hx:x==n with
   |true=>exact .inl rfl
   |false=>
    rw[hx]at h;exact ih h
  ·rw[if_neg hc,lookup_cons];cases hx:x==n with
   |true=>
    rw[hx]at h;exact .inr h
   |false=>
    rw[hx]at h;exact ih h
theorem Jw {x:Str}:∀{names:List (Str×NameKind)}{n:Nat}{acc:List (Str×Addr)},(x,NameKind.cell)∉names->(cellsFrom n names acc).lookup x=acc.lookup x
 |[],_,_,_=>rfl
 |(m,k)::r,n,acc,h=>by
  unfold cellsFrom;have hr:(x,NameKind.cell)∉r:=λz=>h (mem_cons_of_mem _ z);split
  ·rename_i hk;rw[Jw hr,lookup_cons];have hk:k= .cell:=by simpa using hk
   have hx:(x==m)=false:=by
    cases e:x==m with
    |false=>rfl
    |true=>
     have:x=m:=by simpa using e
     exact absurd (by rw[this,hk];exact mem_cons_self) h
   rw[hx]
  ·exact Jw hr
theorem XU {x:Str}:∀{names:List (Str×NameKind)}{n:Nat}{acc:List (Str×Addr)},(x,NameKind.cell)∈names->∃c,(cellsFrom n names acc).lookup x=some c/\n<=c
 |(m,k)::r,n,acc,h=>by
  unfold cellsFrom
  by_cases hr:(x,NameKind.cell)∈r
  ·split
   ·obtain⟨c,e,l⟩:=XU (n:=n+1) (acc:=(m,n)::acc) hr
    exact⟨c,e,by omega⟩
   ·exact XU hr
  ·rcases List.mem_cons.mp h with h|h
   ·cases h;rw[if_pos (by rfl),Jw hr,lookup_cons]
    exact⟨n,by simp,le_refl _⟩
   ·exact absurd h hr
theorem joV {x:Str}{c:Addr}{names:List (Str×NameKind)}{n:Nat}{acc:List (Str×Addr)}(e:(cellsFrom n names acc).lookup x=some c):(acc.lookup x=some c/\(x,NameKind.cell)∉names)\/(n<=c/\(x,NameKind.cell)∈names):=by
 by_cases h:(x,NameKind.cell)∈names
 ·obtain⟨c',e',l⟩:=XU (n:=n) (acc:=acc) h
  rw[e]at e';cases e';exact .inr ⟨l,h⟩
 ·rw[Jw h]at e;exact .inl ⟨e,h⟩
theorem jdf:∀(names:List (Str×NameKind)) (n:Nat) (acc:List (Str×Addr)),(∀x c,acc.lookup x=some c->c<n)->(∀x y c,acc.lookup x=some c->acc.lookup y=some c->x=y)->∀x y c,(cellsFrom n names acc).lookup x=some c->(cellsFrom n names acc).lookup y=some c->x=y
 |[],_,_,_,h=>h
 |(m,k)::r,n,acc,hl,h=>by
  unfold cellsFrom;split
  ·refine jdf r (n+1) _ (λx c e=>?_) λx y c e1 e2=>?_
   ·rw[lookup_cons]at e;split at e
    ·cases e;exact lt_succ_self _
    ·exact lt_succ_of_lt (hl x c e)
   ·rw[lookup_cons]at e1 e2;cases hx:x==m <;> cases hy:y==m <;> rw[hx]at e1 <;> rw[hy]at e2
    ·exact h x y c e1 e2
    ·cases e2;exact absurd (hl x _ e1) (lt_irrefl _)
    ·cases e1;exact absurd (hl y _ e2) (lt_irrefl _)
    ·have a:x=m:=by simpa using hx
     have b:y=m:=by simpa using hy
     rw[a,b]
  ·exact jdf r n acc hl h
theorem Jx {x:Str}{c:Addr}:∀(names:List (Str×NameKind)) (h:Heap) (acc:List (Str×Addr)),(∀x c,acc.lookup x=some c->∃v,h.IsCell c v)->(cellsFrom h.objs.size names acc).lookup x=some c->∃v,(pushCells h names).IsCell c v
 |[],_,_,ha,e=>ha x c e
 |(m,k)::r,h,acc,ha,e=>by
  unfold pushCells;unfold cellsFrom at e;split
  ·rename_i hk;rw[if_pos hk]at e;refine Jx r (h.push { cls:=.type "cell",data:=.cell none }) ((m,h.objs.size)::acc) (λy d q=>?_) (by rw[size_push];exact e);rw[lookup_cons]at q;split at q
   ·cases q
    exact⟨none,_,get?_push_size _ rfl,rfl⟩
   ·obtain⟨v,hv⟩:=ha y d q
    exact⟨v,hv.keeps λb o e=>get?_push_of_some _ e⟩
  ·rename_i hk;rw[if_neg hk]at e;exact Jx r h acc ha e
theorem xJ {M:Model}{A:Around}{E:tE0}{s:Shared}{scope:Scope}{globals:Addr}{closure:List (Str×Addr)}{qual:Str}{func:Option Addr}{code:Value}{outer:Env}{builtins:Addr}{Q:Env->Shared->Prop}(hQ:Q (newEnv scope s.heap.objs.size globals (cellsFrom (s.heap.objs.size+1) scope.names closure) qual func code (some outer) builtins) { s with heap:=pushCells (s.heap.push { cls:=.type "dict",data:=.dict #[] }) scope.names }) :
  wpAny M A (newFunctionEnv scope globals closure [] qual func code (some outer) builtins) Q E s:=by
 simp only[newFunctionEnv,Option.isSome_some,if_true];refine wpAny_bind (wpAny_alloc ?_);refine wpAny_bind (wpAny_layCells _ (λname kind cells=>by cases hkc:kind==NameKind.cell <;> simp[hkc]) _ _ _ _ ?_);rw[show({ s with heap:=s.heap.push { cls:=.type "dict",data:=.dict #[] } }:Shared).heap.objs.size=s.heap.objs.size+1 from size_push ..];rw[List.forIn_nil];exact wpAny_bind (wpAny_pure (wpAny_pure hQ))
theorem UA {h:Heap}{c:Addr}{m:tM0}(names:List (Str×NameKind))(n:h.Ns c m):(pushCells h names).Ns c m:=n.keeps (λb o e=>pushCells_keeps names h b o e)
section
variable {X:Cx}{bF:tP0}{σ:St}{H:Hp}{s:Shared}{osc sc:Scope}{own fr:List Str}{js:List Nat}{fp:List Addr}
theorem jbG (I:Inv X bF σ H s)(ho:X.env.scope=osc)(S:CompScope osc sc own fr):∀y∈sc.names,y.2= .free->∃c,X.env.cells.lookup y.1=some c:=λy hy e=>by
 refine I.ok.has y.1 ?_;have h:=S.free y hy e;rw[<-ho]at h;exact h
theorem uf (I:Inv X bF σ H s)(ho:X.env.scope=osc)(S:CompScope osc sc own fr){x:Str}{c:Addr}(e:(xH sc X.env).lookup x=some c):X.env.cells.lookup x=some c:=
 XS sc.names [] (jbG I ho S) (λz=>by cases z) e
theorem jdd (S:CompScope osc sc own fr){x:Str}(h:sc.names.lookup x=some .free):∃c,(xH sc X.env).lookup x=some c:=
 XT sc.names [] (.inr (PySem.mem_of_lookup h))
theorem XX {n:Nat}(I:Inv X bF σ H s)(ho:X.env.scope=osc)(S:CompScope osc sc own fr){x:Str}{c:Addr}(e:(cellsFrom n sc.names (xH sc X.env)).lookup x=some c):X.env.cells.lookup x=some c\/n<=c:=by
 rcases joV e with h|h
 ·exact .inl (uf I ho S h.1)
 ·exact .inr h.1
theorem jll (I:Inv X bF σ H s){x:Str}{c:Addr}(e:X.env.cells.lookup x=some c):c<s.heap.objs.size:=by
 obtain⟨v,hv⟩:=I.cell x c e
 exact hv.lt
theorem jcT (S:CompScope osc sc own fr){x:Str}(h:sc.names.lookup x=some .free):(x,NameKind.cell)∉sc.names:=λz=>by
 have:=S.cel _ z rfl
 rw[h]at this;cases this
theorem jab (S:CompScope osc sc own fr){x:Str}(n:Nat)(h:sc.names.lookup x=some .free):(cellsFrom n sc.names (xH sc X.env)).lookup x=(xH sc X.env).lookup x:=Jw (jcT S h)
theorem jlj (I:Inv X bF σ H s)(ho:X.env.scope=osc)(S:CompScope osc sc own fr)(hf:∀b∈fp,xb X bF H b)(cz:∀b∈fp,b<s.heap.objs.size)(N':List Str):(jQ X N' sc s H fp).Ok where
 mod:=I.ok.mod
 kind:=S.kind
 glob:=I.ok.glob
 blt:=I.ok.blt
 above:=le_refl _
 inj:=jdf _ _ _ (λx c e=>lt_succ_of_lt (jll I (uf I ho S e))) λx y c h1 h2=>I.ok.inj x y c (uf I ho S h1) (uf I ho S h2)
 has:=λx h=>by
  have h:(relabel sc X.env).names.lookup x=some .cell\/(relabel sc X.env).names.lookup x=some .free:=h;rcases h with h|h
  ·rcases xO h with h|⟨_,h⟩
   ·obtain⟨c,e,_⟩:=XU (n:=s.heap.objs.size+1) (acc:=xH sc X.env) (PySem.mem_of_lookup h)
    exact⟨c,e⟩
   ·obtain⟨c,e⟩:=jdd (X:=X) S h
    exact⟨c,(jab S _ h).trans e⟩
  ·rcases xO h with h|⟨e,_⟩
   ·obtain⟨c,e⟩:=jdd (X:=X) S h
    exact⟨c,(jab S _ h).trans e⟩
   ·cases e
 cab:=λx c h e=>by
  have h:(sc.names.lookup x==some .cell)=true:=h;have h:sc.names.lookup x=some .cell:=by simpa using h
  obtain⟨c',e',l⟩:=XU (n:=s.heap.objs.size+1) (acc:=xH sc X.env) (PySem.mem_of_lookup h)
  have e:(cellsFrom (s.heap.objs.size+1) sc.names (xH sc X.env)).lookup x=some c:=e;rw[e]at e';cases e';exact Nat.le_of_succ_le l
 hd:=I.ok.hd
 frames:=I.ok.frames
 stk:=.inl rfl
 exf:=λb hb=>⟨ne_of_lt (cz b hb),λx c e=>by
  rcases XX I ho S e with z|z
  ·exact(hf b hb).2.2.2.2.1 x c z
  ·exact ne_of_gt (lt_trans (cz b hb) z)⟩
 bs:=λb o e=>I.bs b o e
 bsz:=le_trans I.ok.bsz I.sz
 noex:=λb o e hb=>by
  have h:=I.ok.noex b o e;have h2:=(hf b hb).2.2.2.1;rcases h2 with h2|h2
  ·exact h h2
  ·have hb2:b<X.base.objs.size:=lt_size e;exact absurd (lt_of_lt_of_le hb2 (le_trans I.ok.bsz h2)) (lt_irrefl _)
 exfs:=λb hb hm=>by
  have:=I.aw b hm
  rcases List.mem_cons.mp this with z|z
  ·exact(hf b hb).2.1 z
  ·exact(hf b hb).2.2.1 z
 funs:=I.stack
 frf:=I.aJ
theorem XC {h':Heap}{tk:Nat}(I:Inv X bF σ H s)(ho:X.env.scope=osc)(S:CompScope osc sc own fr)(hj:js.map (λj=>X.N[j]?)=fr.map some)(hf:∀b∈fp,xb X bF H b)(cz:∀b∈fp,b<s.heap.objs.size)(hn:h'.Ns s.heap.objs.size λ_=>none) (hk:∀b o,s.heap.get? b=some o->h'.get? b=some o) (lg:∀x c,(cellsFrom (s.heap.objs.size+1) sc.names (xH sc X.env)).lookup x=some c->∃v,h'.IsCell c v):Inv (jQ X (own++fr) sc s H fp) [] (yZ own.length js σ) H { s with heap:=h',toks:=tk }:=by
 refine⟨jlj I ho S hf cz _,rfl,I.bare,Un.kept hk,⟨_,hn,λi x v h1 h2 h3=>?_⟩,λx c e=>?_,I.hok.fresh (le_refl _),λx c e=>(XX I ho S e).elim (λz=>I.freeC x c z) (λz=>I.hok.fresh (Nat.le_of_succ_le z)),λp hp=>absurd (show p∈([]:tP0)from hp) (by simp),I.hok.kept hk,?_⟩
 ·have h1:(own++fr)[i]?= some x:=h1
  by_cases hi:i<own.length
  ·unfold yZ at h2;rw[getElem?_append_left (by simpa using hi),getElem?_replicate]at h2;split at h2 <;> cases h2
  ·have fh:own.length<=i:=le_of_not_lt hi;rw[getElem?_append_right fh]at h1;unfold yZ at h2;rw[getElem?_append_right (by simpa using fh),length_replicate,getElem?_map]at h2;have hx:=congrArg (λl:List (Option Str)=>l[i-own.length]?) hj;simp only[getElem?_map,h1,map_some]at hx;cases ej:js[i-own.length]? with
   |none=>rw[ej]at hx;cases hx
   |some j=>
    rw[ej]at hx h2;simp only[map_some,Option.some.injEq]at hx h2;have hsv:σ[j]?= some (some v):=by
     cases es:σ[j]? with
     |none=>rw[es]at h2;cases h2
     |some z=>rw[es]at h2;simp only[getD_some]at h2;rw[h2]
    have kh:=S.nfr x (mem_of_getElem? h1)
    obtain⟨m,hm,hl⟩:=I.loc
    have hv:Vis X.env.scope x:=by
     rw[ho];rcases kh.1 with z|z
     ·exact .inr (.inl z)
     ·exact .inr (.inr z)
    obtain⟨u,ru,lk⟩:=hl j x v hx hsv hv
    refine⟨u,ru,.inr ⟨xC kh.2,?_⟩⟩
    rcases lk with⟨lk,_⟩|⟨_,c,ec,ic⟩
    ·have lk:X.env.scope.names.lookup x=some .local:=lk;rw[ho]at lk;rcases kh.1 with z|z <;> (rw[lk]at z;cases z)
    ·obtain⟨c',e'⟩:=jdd (X:=X) S kh.2
     have e2:=uf I ho S e';rw[ec]at e2;cases e2
     exact⟨c,(jab S _ kh.2).trans e',ic.keeps hk⟩
 ·exact lg x c e
 ·have e:=congrArg List.length hj;simp only[length_map]at e
  show(yZ own.length js σ).length=(own++fr).length
  unfold yZ;simp only[length_append,length_replicate,length_map,e]
end
def jjM (J:It)(acc:Addr)(own:Nat)(js:List Nat)(g:TG)(tt:TT)(te:TE)(σ:St)(Q:VK)(H1:Hp):Prop:=
 ∃W:Nat->Nat->List V->Hp->Prop,(∃m,W 0 m [] (upd H1 acc (.lst [])))/\∀i m xs H2,W i m xs H2->(J.stop i H2/\Q (.ref acc) H2) \/
  (J.go i H2/\xs.length<sizeLine/\∃N:List V->Hp->Prop,(∀ys H',N ys H'->∃m',m'<m/\W (i+1) m' ys H')/\∀x H3,J.yld i H2 x H3->g x (yZ own js σ) H3 λσ4 H4=>JF (yZ own js σ) σ4/\tt σ4 H4 λb H5=>
   if b=true then te σ4 H5 λy H6=>H6 acc=some (.lst xs)/\N (xs++[y]) (upd H6 acc (.lst (xs++[y])))else N xs H5)
def YU (wi:TI)(own:Nat)(js:List Nat)(g:TG)(tt:TT)(te:TE):TE:=λσ H Q=>wi σ H λJ H1=>∀acc,H1 acc=none->jjM J acc own js g tt te σ Q H1
def PIf (X:Cx)(ifs:List Expr)(tt:TT):Prop:=
 ∀(bF:tP0) (s:Shared) (σ:St) (H:Hp) (Q:Bool->Hp->Prop),Inv X bF σ H s->tt σ H Q->
  wpAny (model X.prog X.w) X.A (forIn ifs true λc r=>if r=true then do let ok <-isTrue c X.env (eval c X.env);pure (ForInStep.yield ok)else pure (ForInStep.yield r)) (TP X bF σ Q) X.xe s
def jpr:TT:=λ_ H Q=>Q true H
theorem joE {X:Cx}:PIf X [] jpr:=λbF s σ H Q I h=>wpAny_tests_nil ⟨H,I,h⟩
theorem jiv {X:Cx}{c:Expr}{tc:TT}(h:PT X c tc):PIf X [c] tc:=λbF s σ H Q I q=>wpAny_tests_one (h bF s σ H Q I q)
section
variable {X:Cx}{bF:tP0}{σ:St}{H:Hp}{s:Shared}{osc sc:Scope}{own fr:List Str}{js:List Nat}{fp:List Addr}
theorem VI {acc:Addr}{s':Shared}{σ':St}{H':Hp}{N':List Str}(I:Inv X bF σ H s)(bX:acc=s.heap.objs.size){tk:Nat}(hf:∀b∈fp,xb X bF H b)(J:Inv (jQ X N' sc { s with heap:=s.heap.push eL0,toks:=tk } (upd H acc (.lst [])) fp) [] σ' H' s'):Inv X bF σ H' s':=by
 subst bX;refine I.aR J.os ?_ J.hok J.bare λb hb=>⟨(hf b hb).2.2.2.1,(hf b hb).2.1,(hf b hb).2.2.2.2.1,(hf b hb).2.2.2.2.2⟩
 exact Un.trans (Un.laid (o:=.lst []) (λb u e=>get?_push_of_some _ e) (le_refl _) (I.hok.fresh (le_refl _))) J.base
theorem VH {bU bG iter:Expr}{ifs:List Expr}{pos:Pos}{it:Addr}{tn:Nat->Heap->Prop}{J:It}{g:TG}{tt:TT}{te:TE}{Q:VK}{RR:Value->Addr->Result->Shared->Prop}{E:tE0}(hc:X.calm=true) (ho:X.env.scope=osc) (S:CompScope osc sc own fr) (hj:js.map (λj=>X.N[j]?)=fr.map some)(hg:∀b3 b4 fp,PG (jQ X (own++fr) sc b3 b4 fp) bG g) (ht:∀b3 b4 fp,PIf (jQ X (own++fr) sc b3 b4 fp) ifs tt) (he:∀b3 b4 fp,PE (jQ X (own++fr) sc b3 b4 fp) bU te)(I:Inv X bF σ H s) (T:Turn X.prog X.w X.K bG J fp it tn) (st:tn 0 s.heap) (hf:∀b∈fp,xb X bF H b)(h:∀acc,H acc=none->jjM J acc own.length js g tt te σ Q H)(fin:∀acc C H' s',Inv X bF σ H' s'->xb X bF H' C->(∃m,s'.heap.Ns C m)->Q (.ref acc) H'->RR (.ref acc) C (.ok .next) s') :
  wpAny (model X.prog X.w) X.A (newList []) (λacc b3=>wpAny (model X.prog X.w) X.A (newFunctionEnv sc X.env.globals (xH sc X.env) [] X.env.qual none .none (some X.env)) (λeD bt=>
   codeAny (model X.prog X.w) X.A (.compStart (.ListComp bU [⟨bG,iter,ifs,0⟩] sc pos) 0 (.ref it) acc { eD with scope:=relabel sc X.env }) (RR acc eD.locals) bt) E b3) E s:=by
 obtain⟨W,⟨m0,w0⟩,bZ⟩:=h s.heap.objs.size (I.hok.fresh (le_refl _))
 have cz:∀b∈fp,b<s.heap.objs.size:=λb hb=>by
  obtain⟨o,e,_⟩:=T.obj _ _ st b hb
  exact lt_size e
 refine wpAny_newList ?_;have I3:Inv X bF σ (upd H s.heap.objs.size (.lst [])) { s with heap:=s.heap.push eL0 }:=I.aW (its:=[]) (ys:=[]) (t':=s.toks) .nil (zero_le _);have f3:∀b∈fp,xb X bF (upd H s.heap.objs.size (.lst [])) b:=λb hb=>⟨by rw[jk (ne_of_lt (cz b hb))];exact(hf b hb).1,(hf b hb).2⟩
 have d6:(s.heap.push eL0).objs.size=s.heap.objs.size+1:=size_push ..;refine xJ ?_;dsimp only
 obtain⟨b7,bA⟩:∃b7,b7=pushCells ((s.heap.push eL0).push { cls:=.type "dict",data:=.dict #[] }) sc.names:=⟨_,rfl⟩
 rw[<-bA];have bD:b7.Ns (s.heap.push eL0).objs.size λ_=>none:=by
  rw[bA];exact UA _ (Heap.Ns.new ..)
 have dG:∀b o,(s.heap.push eL0).get? b=some o->b7.get? b=some o:=λb o e=>by
  rw[bA];exact pushCells_keeps _ _ _ _ (get?_push_of_some _ e)
 have bE:∀x c,(cellsFrom ((s.heap.push eL0).objs.size+1) sc.names (xH sc X.env)).lookup x=some c->∃v,b7.IsCell c v:=λx c e=>by
  rw[bA];refine Jx sc.names _ (xH sc X.env) (λy d q=>?_) (by rw[size_push];exact e)
  obtain⟨v,hv⟩:=I3.cell y d (uf I3 ho S q)
  exact⟨v,hv.keeps λb o e=>get?_push_of_some _ e⟩
 have fQ:∀b∈fp,b<(s.heap.push eL0).objs.size:=λb hb=>by rw[d6];exact lt_succ_of_lt (cz b hb)
 have I4:=XC (own:=own) (fr:=fr) (js:=js) (tk:=s.toks) I3 ho S hj f3 fQ bD dG bE;have hV:tn 0 b7:=T.keep _ _ _ st λb _ o e=>dG b o (get?_push_of_some _ e);have gb:∀{H':Hp},(∀b∈fp,H' b=none)->∀b∈fp,xb (jQ X (own++fr) sc { s with heap:=s.heap.push eL0 } (upd H s.heap.objs.size (.lst [])) fp) [] H' b:=λhn b hb=>
  ⟨hn b hb,ne_of_lt (fQ b hb),λhm=>by
   rcases List.mem_cons.mp (I.aw b hm)with z|z
   ·exact(hf b hb).2.1 z
   ·exact(hf b hb).2.2.1 z,.inl hb,λx c e=>(XX I3 ho S e).elim (λz=>(hf b hb).2.2.2.2.1 x c z) (λz=>ne_of_gt (lt_trans (fQ b hb) z)),λp hp=>absurd (show p∈([]:tP0)from hp) (by simp)⟩
 have c5:∀b3:Shared,b3={ s with heap:=b7 }->
   codeAny (model X.prog X.w) X.A (.compLoop (.ListComp bU [⟨bG,iter,ifs,0⟩] sc pos) 0 (.ref it) (.ref s.heap.objs.size) (compEnvC sc (cellsFrom ((s.heap.push eL0).objs.size+1) sc.names (xH sc X.env)) (s.heap.push eL0).objs.size X.env))
    (RR (.ref s.heap.objs.size) (s.heap.push eL0).objs.size) b3:=by
  rintro b3 rfl;refine UU (λn s'=>∃i xs σ' H',Inv (jQ X (own++fr) sc { s with heap:=s.heap.push eL0 } (upd H s.heap.objs.size (.lst [])) fp) [] σ' H' s'/\JF (yZ own.length js σ) σ'/\tn i s'.heap/\(∀b∈fp,H' b=none)/\W i n xs H')
   ?_ m0 ⟨0,[],_,_,I4,JF.refl _,hV,λb hb=>(f3 b hb).1,w0⟩
  rintro n s5 ⟨i,xs,σ5,H5,I5,k5,eJ,fI,w5⟩;have i6:=I5.weak (σ':=yZ own.length js σ) k5.1.symm k5.2;have fw:(jQ X (own++fr) sc { s with heap:=s.heap.push eL0 } (upd H s.heap.objs.size (.lst [])) fp).calm=true:=hc;rcases bZ i n xs H5 w5 with⟨stop,qn⟩|⟨go,hz,N,hN,step⟩
  ·refine thn (T.done (jQ X (own++fr) sc { s with heap:=s.heap.push eL0 } (upd H s.heap.objs.size (.lst [])) fp) rfl rfl rfl fw i [] s5 _ H5 _ i6 (gb fI) eJ stop) λr s6 bH=>?_
   obtain⟨hr,I6⟩:=bH
   subst hr;have B:=VI I rfl (tk:=s.toks) hf I6;refine fin _ _ H5 s6 B ?_ ?_ qn
   ·refine I.au ?_ I6.free;show s.heap.objs.size<=(s.heap.push eL0).objs.size;rw[d6];exact le_succ _
   ·obtain⟨m,hm,_⟩:=I6.loc
    exact⟨m,hm⟩
  ·refine thn (T.item (jQ X (own++fr) sc { s with heap:=s.heap.push eL0 } (upd H s.heap.objs.size (.lst [])) fp) rfl rfl rfl fw i [] s5 _ H5 _ i6 (gb fI) eJ go) λr s6 bH=>?_
   obtain⟨u,hr,h6⟩:=bH
   subst hr;refine thn h6 λ_ s7 bH=>?_
   obtain⟨x,H7,I7,r7,y7,fM,kG⟩:=bH
   have kM:=I7.pinned (gb kG) (T.obj _ _ fM);have again:∀{s9:Shared}{σ9:St}{H9:Hp}{ys:List V}{m':Nat},Inv (jQ X (own++fr) sc { s with heap:=s.heap.push eL0 } (upd H s.heap.objs.size (.lst [])) fp) ([]++Xp fp s7.heap) σ9 H9 s9->
     JF (yZ own.length js σ) σ9->m'<n->W (i+1) m' ys H9->∃m,m<n/\∃i xs σ' H',Inv (jQ X (own++fr) sc { s with heap:=s.heap.push eL0 } (upd H s.heap.objs.size (.lst [])) fp) [] σ' H' s9/\JF (yZ own.length js σ) σ'/\tn i s9.heap/\(∀b∈fp,H' b=none)/\W i m xs H':=λ{s9 σ9 H9 ys m'} I9 k9 hm w9=>by
    refine⟨m',hm,i+1,ys,σ9,H9,I9.aj,k9,T.keep _ _ _ fM λb hb o e=>(I9.pin (b,o) (mem_append_right _ (mem_append_right _ (yC hb e)))).1,λb hb=>?_,w9⟩
    obtain⟨o,e,d⟩:=T.obj _ _ fM b hb
    exact(I9.pin (b,o) (mem_append_right _ (mem_append_right _ (yC hb e)))).2.1
   refine thn (hg _ _ _ _ s7 _ H7 x u _ kM r7 (step x H7 y7)) λ_ s8 bH=>?_
   obtain⟨σ8,H8,I8,k8,q8⟩:=bH
   refine thn (ht _ _ _ _ s8 σ8 H8 _ I8 q8) λb s9 bH=>?_
   obtain⟨H9,I9,q9⟩:=bH
   cases b with
   |false=>
    rw[if_neg (by simp)];rw[if_neg (by simp)]at q9
    obtain⟨m',hm,w9⟩:=hN _ _ q9
    exact again I9 k8 hm w9
   |true=>
    rw[if_pos rfl];rw[if_pos rfl]at q9;refine thn (he _ _ _ _ s9 σ8 H9 _ I9 q9) λy kQ bH=>?_
    obtain⟨v,i7,kN,j7,mn,lE⟩:=bH
    obtain⟨m',hm,w10⟩:=hN _ _ lE
    refine thn (JW _ kQ σ8 i7 (.ref s.heap.objs.size) [v] (.ref s.heap.objs.size) [y] (λz kO=>z= .non/\kO=upd i7 s.heap.objs.size (.lst (xs++[v]))) kN rfl (.cons j7 .nil) ⟨_,xs,v,rfl,rfl,mn,hz,rfl,rfl⟩) λz s11 bH=>?_
    obtain⟨z',kO,mq,_,_,mh⟩:=bH
    subst mh;exact again mq k8 hm w10
 exact codeAny_compStart_list (c5 _ rfl) (T.self _ 0 _ _ _ hV (c5 _ rfl))
end
section
variable {X:Cx}{osc sc:Scope}{own fr:List Str}{js:List Nat}{bU bG iter:Expr}{ifs:List Expr}{pos:Pos}{wi:TI}{g:TG}{tt:TT}{te:TE}
theorem jeq (hc:X.calm=true)(ho:X.env.scope=osc)(S:CompScope osc sc own fr)(hj:js.map (λj=>X.N[j]?)=fr.map some)(hi:PI X bG iter wi)(hg:∀b3 b4 fp,PG (jQ X (own++fr) sc b3 b4 fp) bG g) (ht:∀b3 b4 fp,PIf (jQ X (own++fr) sc b3 b4 fp) ifs tt) (he:∀b3 b4 fp,PE (jQ X (own++fr) sc b3 b4 fp) bU te)(hs:∀x,foldedSetIterable iter X.env x=pure x:=by intro _;rfl):PE X (.ListComp bU [⟨bG,iter,ifs,0⟩] sc pos) (YU wi own.length js g tt te):=by
 intro bF s σ H Q I h;rw[eval_ListComp];refine wpAny_comprehension_free (use:=none) rfl hs (vL (jbG I ho S)) S.kind S.loc (thn (hi bF s σ H _ I h) λv s1 h1=>thn h1 λiw s2 h2=>?_)
 obtain⟨it,fp,tn,J,H2,e,I2,T,fE,f2,q2⟩:=h2
 subst e;refine VH (RR:=λacc C=>compPost (model X.prog X.w) X.A X.xe none (EP X bF σ Q) acc C) hc ho S hj hg ht he I2 T fE f2 q2 λacc C H' s' J hC hn q=>?_
 obtain⟨m,hm⟩:=hn
 refine⟨m,hm,λh' d7=>⟨.ref acc,H',?_,rfl,q⟩⟩
 obtain⟨f0,f1,mf,f3,f4,f5⟩:=hC
 exact J.turned (t':=s'.toks) (λb o hb e=>d7.extBut b o hb e) f0 f1 f3 f4 f5
theorem jel {i:Nat}{x:Str}{px dZ:Pos}(hc:X.calm=true)(ho:X.env.scope=osc)(S:CompScope osc sc own fr)(hj:js.map (λj=>X.N[j]?)=fr.map some)(hN:X.N.Nodup)(fh:X.N[i]?= some x)(hx:X.env.scope.names.lookup x=some .local)(hi:PI X bG iter wi) (hg:∀b3 b4 fp,PG (jQ X (own++fr) sc b3 b4 fp) bG g) (ht:∀b3 b4 fp,PIf (jQ X (own++fr) sc b3 b4 fp) ifs tt) (he:∀b3 b4 fp,PE (jQ X (own++fr) sc b3 b4 fp) bU te)(iy:swapsWith (.ListComp bU [⟨bG,iter,ifs,0⟩] sc pos) (some (.Name x px)) dZ.line X.env=pure true)(hs:∀x,foldedSetIterable iter X.env x=pure x:=by intro _;rfl):PS X (.Assign [.Name x px] (.ListComp bU [⟨bG,iter,ifs,0⟩] sc pos) dZ) (jjV (YU wi own.length js g tt te) (vc i)):=by
 intro bF s σ H D I h;rw[exec_Assign_Name_used _ _ _ _ iy];refine wpAny_bind (wpAny_standAt (wpAny_bind ?_));show wpAny _ X.A (do let _ <-comprehension (.ListComp bU [⟨bG,iter,ifs,0⟩] sc pos) sc X.env _ (newList []) false (eval iter X.env) (some (assign (.Name x px) X.env))) _ _ s;refine wpAny_bind (wpAny_mono (wpAny_comprehension_free (use:=some (assign (.Name x px) X.env)) (Q:=λ_ s'=>SP X bF D .next s') rfl hs (vL (jbG I ho S)) S.kind S.loc (thn (hi bF s σ H _ I h) λv s1 h1=>thn h1 λiw s2 h2=>?_))
  (λ_ s' hq=>wpAny_pure (wpAny_pure hq)) λ_ _ e=>e)
 obtain⟨it,fp,tn,J,H2,e,I2,T,fE,f2,q2⟩:=h2
 subst e;refine VH (Q:=λv H'=>vc i v σ H' D.nx) (RR:=λacc C=>compPost (model X.prog X.w) X.A X.xe (some (assign (.Name x px) X.env)) (λ_ s'=>SP X bF D .next s') acc C) hc ho S hj hg ht he I2 T fE f2 q2 λacc C H' s' J hC hn q=>?_
 obtain⟨m,hm⟩:=hn
 obtain⟨f0,f1,mf,f3,f4,f5⟩:=hC
 show wpAny _ X.A (assign (.Name x px) X.env (.ref acc)) _ _ _;refine wpAny_assign_Name (Vo J hN fh (.inl hx) (v:=.ref acc) rfl (λj6 J' iz=>?_) (.inr hx))
 obtain⟨a,iz,ha⟩:=iz
 have hCa:C≠a:=by
  rcases ha with rfl|ha
  ·exact f1
  ·exact(f4 x a ha).symm
 refine⟨m,hm.sameBut iz hCa,λh' d7=>⟨_,H',?_,q⟩⟩
 exact J'.turned (t':=j6.toks) (λb o hb e=>d7.extBut b o hb e) f0 f1 f3 f4 f5
end
section
variable {X:Cx}
theorem UI:∀{ns:List Int}{us:List Value},yg (ns.map V.int) us->IntsAre us ns:=λh=>intsAre_of h
theorem VX {ns:List Int}{us:List Value}(h:IntsAre us ns):yg (ns.map V.int) us:=Vm h
theorem YH:∀{xs:List V}{us:List Value},yg xs us->∀(j:Nat) (h:j<us.length),RelV (xs.getD j .non) us[j]
 |_,_,.nil,j,h=>absurd h (not_lt_zero _)
 |_::_,_::_,.cons r t,0,_=>r
 |_::_,_::_,.cons r t,j+1,h=>by
  have:=YH t j (Nat.lt_of_succ_lt_succ h)
  simpa using this
theorem all_range {α:Type}(d:α)(f:α->Bool):∀(bs:List α),((List.range bs.length).all λi=>f (bs.getD i d))=bs.all f
 |[]=>rfl
 |b::r=>by
  rw[length_cons,List.range_succ_eq_map,all_cons,all_map,all_cons];have ih:=all_range d f r;rw[<-ih];rfl
theorem jgy (hc:X.calm=true):yK X (.builtin "all") (λxs H Q=>∃(p:Addr) (bs:List Bool),xs=[.ref p]/\SqL X.K H p (bs.map V.bl)/\Q (.bl (bs.all id)) H):=by
 intro bF s σ H xs us Q I r h
 obtain⟨p,bs,rfl,hq,q⟩:=h
 obtain⟨u,rfl,rx⟩:=vals1 r
 cases rx
 obtain⟨its,r',pl,hz⟩:=I.list hq
 have bM:=r'.length;rw[length_map]at bM;have cz:p<s.heap.objs.size:=by obtain⟨_,e,_⟩:=pl.isList;exact lt_size e
 refine call_all_walk (wpAny_pyIter_list pl.isList ?_)
 refine⟨_,_,_,_,_,_,λi=>id (bs.getD i true),rfl,Walks.list (A:=X.A.in1) (I.ok.hd hc) _ p (ne_of_lt cz) its.toArray,⟨⟨_,get?_push_size _ rfl,rfl,rfl⟩,pl.isList.push _⟩,?_,λh' tk hk=>?_⟩
 ·intro i v s' Q' E' hP hQ;have hi:i<its.length:=by
   have:=(Array.getElem?_eq_some_iff.mp hP).1
   simpa using this
  have hv:v=its[i]:=by
   have:=(Array.getElem?_eq_some_iff.mp hP).2
   simpa using this.symm
  have rv:=YH r' i hi;have e:(bs.map V.bl).getD i .non=V.bl (bs.getD i true):=by
   rw[getD_eq_getElem?_getD,getD_eq_getElem?_getD,getElem?_map,getElem?_eq_getElem (by omega)];rfl
  rw[e]at rv;have rv:its[i]=Value.bool (bs.getD i true):=rv;rw[hv,rv];exact wpAny_truthy_bool hQ
 ·have e:((List.range its.toArray.size).all λi=>id (bs.getD i true))=bs.all id:=by
   rw[size_toArray,<-bM];exact all_range true id bs
  rw[e]
  exact⟨.bl _,H,I.kept (old_kept hk),rfl,q⟩
def jbq:List V->List V->Bool
 |[],[]=>true
 |x::xs,y::ys=>eqV x y && jbq xs ys
 |_,_=>false
theorem jbp:∀{xs ys:List V},xs.length≠ys.length->jbq xs ys=false
 |[],[],h=>absurd rfl h
 |[],_::_,_=>rfl
 |_::_,[],_=>rfl
 |x::xs,y::ys,h=>by
  have:jbq xs ys=false:=jbp λe=>h (by simp[e])
  simp[jbq,this]
theorem XH:∀{xs ys:List V},xs.length=ys.length->((List.range xs.length).all λi=>eqV (xs.getD i .non) (ys.getD i .non))=jbq xs ys
 |[],[],_=>rfl
 |x::xs,y::ys,h=>by
  rw[length_cons,List.range_succ_eq_map,all_cons,all_map];have ih:=XH (xs:=xs) (ys:=ys) (by simpa using h)
  show(eqV x y && _)=(eqV x y && jbq xs ys)
  rw[<-ih];rfl
 |[],_::_,h=>by simp at h
 |_::_,[],h=>by simp at h
theorem flat_getD {xs:List V}(h:xs.all Yz=true)(i:Nat):Yz (xs.getD i .non)=true:=by
 rw[getD_eq_getElem?_getD];cases e:xs[i]? with
 |none=>rfl
 |some v=>exact List.all_eq_true.mp h v (mem_of_getElem? e)
def jrh (K:Frag)(neg:Bool):R2:=λx y H Q=>∃a b xs ys,x= .ref a/\y= .ref b/\SqL K H a xs/\SqL K H b ys/\xs.all Yz=true/\ys.all Yz=true/\Q (.bl (if neg then !jbq xs ys else jbq xs ys)) H
theorem jig {bF:tP0}{s:Shared}{σ:St}{H:Hp}{a b:Addr}{xs ys:List V}(I:Inv X bF σ H s)(ha:SqL X.K H a xs)(hb:SqL X.K H b ys)(fx:xs.all Yz=true)(fy:ys.all Yz=true) :
  ∃items dg:Array Value,s.heap.IsList a items/\s.heap.IsList b dg/\items.size=xs.length/\dg.size=ys.length /\
   ∀A j (h1:j<items.size) (h2:j<dg.size),SeqAt.EqAt A s items[j] dg[j] (eqV (xs.getD j .non) (ys.getD j .non)):=by
 obtain⟨its,r,pl,hz⟩:=I.list ha
 obtain⟨fT,r2,pl2,lI⟩:=I.list hb
 refine⟨its.toArray,fT.toArray,pl.isList,pl2.isList,by simp[r.length],by simp[r2.length],λA j h1 h2=>?_⟩
 have q1:=YH r j (by simpa using h1);have q2:=YH r2 j (by simpa using h2)
 have:=joN (A:=A) (s:=s) q1 q2 (flat_getD fx j) (flat_getD fy j)
 simpa using this
theorem jnz (hu:X.A.units<cLine):OpR X (compareOp .NotEq) (jrh X.K true):=by
 intro bF s σ H x y v u Q I rx ry h
 obtain⟨a,b,xs,ys,rfl,rfl,ha,hb,fx,fy,q⟩:=h
 cases rx;cases ry
 obtain⟨items,dg,l1,l2,s1,s2,he⟩:=jig I ha hb fx fy
 by_cases hl:xs.length=ys.length
 ·refine SeqAt.RcNeAt.lists l1 l2 (by omega) hu (λj h1 h2=>he _ j h1 h2) _ _ _ _ ⟨.bl _,H,I,rfl,?_⟩;rw[s1,XH hl];exact q
 ·refine SeqAt.RcNeAt.lists_lengths l1 l2 (by simp;omega) hu _ _ _ _ ⟨.bl _,H,I,rfl,?_⟩;rw[jbp hl]at q;exact q
end
theorem vM:bootBuiltins "len" = some (.builtin "len"):=by decide +kernel
theorem xI:bootBuiltins "sorted" = some (.builtin "sorted"):=by decide +kernel
theorem jdg:bootBuiltins "all" = some (.builtin "all"):=by decide +kernel
theorem jH:bootBuiltins "isinstance" = some (.builtin "isinstance"):=by decide +kernel
theorem joX:bootBuiltins "int" = some (.type "int"):=by decide +kernel
theorem jlp:bootBuiltins "bool" = some (.type "bool"):=by decide +kernel
theorem UZ:bootBuiltins "list" = some (.type "list"):=by decide +kernel
theorem XW:bootBuiltins "tuple" = some (.type "tuple"):=by decide +kernel
structure Bl (mg:tM0):Prop where
 no:∀x∈(["len","sorted","min","max","sum","all","isinstance","int","bool","list","tuple","range"]:List Str),mg x=none
namespace Bl
variable {mg:tM0}
theorem all (B:Bl mg):mg "all" = none:=B.no _ (by simp)
theorem int (B:Bl mg):mg "int" = none:=B.no _ (by simp)
theorem range (B:Bl mg):mg "range" = none:=B.no _ (by simp)
end Bl
theorem hu0 {A:Around}{k:Nat}(hr:Room k A):A.units<cLine:=hr.a7
def But (bs:List Addr)(H H':Hp):Prop:=∀b o,H b=some o->b∉bs->H' b=some o
theorem But.trans {bs:List Addr}{H H1 H2:Hp}(a:But bs H H1)(b:But bs H1 H2):But bs H H2:=λc o e n=>b c o (a c o e n) n
theorem jgq (o:Obj)(f):(o.mapFields f).dict=o.dict:=by
 obtain⟨c,d,dt,sl⟩:=o
 cases dt <;> rfl
def TrD (h base:Heap)(e:Addr)(cls:Value)(dd:Option Addr)(fl:Value):Prop:=
 ∃oe vs T oT ts,h.get? e=some oe/\(oe.cls=cls/\oe.dict=dd)/\oe.data= .fields vs/\vs[1]?= some (.ref T)/\(base.get? T=none/\T≠e)/\h.get? T=some oT/\oT.data= .fields ts/\ts[3]?= some fl
def FlD (base:Heap)(l:List Env)(e:Addr)(cls:Value)(dd:Option Addr)(h:Heap):Prop:=
 base.StaysIn h/\base.get? e=none/\h.FunFrames base l/\TrD h base e cls dd .none
def HdD (base:Heap)(l:List Env)(e:Addr)(cls:Value)(dd:Option Addr)(L:Addr)(h:Heap):Prop:=
 base.StaysIn h/\base.get? e=none/\h.FunFrames base l/\TrD h base e cls dd (rawInt L)
section
variable {M:Model}{A:Around}{E:tE0}{s:Shared}{base:Heap}{env:Env}{outer l:List Env}{L e:Addr}{cls:Value}{dd:Option Addr}{Q:Unit->Shared->Prop}
theorem joO {oe:Obj}{vs:Array Value}{head:Value}{hn:Bool}(fr:A.frames=some (env::outer))(ff:s.heap.FunFrames base (env::outer))(fL:env.frame=some L)(he:s.heap.get? e=some oe) (kb:base.StaysIn s.heap) (en:base.get? e=none) (hd:oe.data= .fields vs) (sz:1<vs.size)(q:∀h',HdD base (env::outer) e oe.cls oe.dict L h'->s.heap.UpToSlots h'->Q () { s with heap:=h' }) :
  wpAny M A (frameOf env >>= λa=>entryPlaceOf L hn >>= λpl=>EntryCells.newEntry head a .none (rawInt L) .none pl >>= λb=>setField (.ref e) 1 b) Q E s:=by
 have ne:e∉(env::outer).filterMap (·.frame):=λhm=>by
  obtain⟨_,o,ho,nf⟩:=ff.mem hm
  rw[he]at ho;cases ho;exact nf vs hd
 refine wpAny_bind (wpAny_frameOf_fun fr ff fL λh1 k1=>?_);refine wpAny_bind (wpAny_entryPlaceOf λpl cM=>?_);unfold EntryCells.newEntry newFields;refine wpAny_bind (wpAny_newObj_type ?_ (cM.sizeOk5 _ _ _ _ _));have e1:h1.get? e=some oe:=(k1.2.1 e ne).trans he;have b1:base.StaysIn h1:=λb o z=>(k1.2.1 b λhm=>by rw[(ff.mem hm).1]at z;cases z).trans (kb b o z);generalize hob:({ cls:=.type "traceback",dict:=none,data:=.fields ([head,.ref L,.none,rawInt L,.none]++(if pl.isEmpty then replicate 6 Value.none else pl)).toArray }:Obj)=ob;have nf:ob.isFreed=false:=by rw[<-hob];rfl
 have e2:=get?_push_of_some (h:=h1) ob e1;have tne:h1.objs.size≠e:=ne_of_gt (lt_size e1);have d3:=Obj.data_mapFields hd (·.setIfInBounds 1 (Value.ref h1.objs.size));have e3:=get?_update_self (Obj.mapFields (·.setIfInBounds 1 (Value.ref h1.objs.size))) e2 (Obj.isFreed_of_fields d3);have t3:=(get?_update_other (h1.push ob) (Obj.mapFields (·.setIfInBounds 1 (Value.ref h1.objs.size))) (Ne.symm tne)).trans (get?_push_size h1 nf);refine wpAny_setField e2 hd sz (q _ ?_ ?_)
 ·have kp:∀b o,b≠e->h1.get? b=some o->((h1.push ob).update e (Obj.mapFields (·.setIfInBounds 1 (Value.ref h1.objs.size)))).get? b=some o:=λb o z y=>by
   rw[get?_update_other _ _ (Ne.symm z)];exact get?_push_of_some _ y
  refine⟨λb o z=>kp b o (λy=>by rw[y,en]at z;cases z) (b1 b o z),en,ff.of_keeps λb o z lD=>?_,_,_,h1.objs.size,ob,_,e3,⟨Obj.cls_mapFields _ _,jgq _ _⟩,d3,by simp[sz],⟨b1.fresh,tne⟩,t3,by rw[<-hob],?_⟩
  ·obtain⟨sl,y⟩:=k1.2.2 b o z
   exact⟨_,kp b _ (λw=>by rw[w,he]at z;cases z;exact lD vs hd) y,rfl⟩
  ·rcases cM with rfl|⟨_,_,_,_,_,_,_,rfl⟩ <;> simp
 ·intro b o z lD
  obtain⟨sl,y⟩:=k1.2.2 b o z
  refine⟨sl,?_⟩
  rw[get?_update_other _ _ (λw:e=b=>by rw[<-w,he]at z;cases z;exact lD vs hd)];exact get?_push_of_some _ y
theorem jom (fr:A.frames=some (env::outer))(fL:env.frame=some L)(fl:FlD base (env::outer) e cls dd s.heap)(q:∀h',HdD base (env::outer) e cls dd L h'->s.heap.UpToSlots h'->Q () { s with heap:=h' }):wpAny M A (noteFrame (.ref e) env) Q E s:=by
 obtain⟨kb,en,ff,oe,vs,T,oT,ts,he,⟨rfl,rfl⟩,hd,h1,⟨nT,Te⟩,hT,dT,h3⟩:=fl
 unfold noteFrame;simp only[fL];refine wpAny_bind (wpAny_field he hd h1 ?_);rw[if_pos (show(Value.ref T != Value.none)=true from by simp)];refine wpAny_bind (wpAny_field hT dT h3 ?_);rw[if_neg (show ¬((Value.none==rawInt L)=true)from by simp[rawInt])];refine wpAny_bind (wpAny_setField hT dT (Array.getElem?_eq_some_iff.mp h3).1 ?_);have ot:∀b,b≠T->(s.heap.update T (Obj.mapFields (·.setIfInBounds 3 Value.none))).get? b=s.heap.get? b:=λb z=>get?_update_other _ _ (Ne.symm z);have nr:∀b o,s.heap.get? b=some o->(∀ws,o.data≠.fields ws)->b≠T:=λb o z y w=>by
  rw[w,hT]at z;cases z;exact y ts dT
 refine joO fr (ff.of_keeps λb o z y=>⟨o,(ot b (nr b o z y)).trans z,rfl⟩) fL ((ot e (Ne.symm Te)).trans he) (λb o z=>(ot b λw=>by rw[w,nT]at z;cases z).trans (kb b o z)) en hd (Array.getElem?_eq_some_iff.mp h1).1 λh' x1 x2=>q h' x1 λb o z y=>x2 b o ((ot b (nr b o z y)).trans z) y
theorem jlc {fl:Value}(kb:base.StaysIn s.heap)(en:base.get? e=none)(ff:s.heap.FunFrames base l)(tr:TrD s.heap base e cls dd fl)(q:∀h',FlD base l e cls dd h'->s.heap.UpToSlots h'->Q () { s with heap:=h' }):wpAny M A (setFlight (.ref e) none) Q E s:=by
 obtain⟨oe,vs,T,oT,ts,he,hc,hd,h1,⟨nT,Te⟩,hT,dT,h3⟩:=tr
 have sz:3<ts.size:=(Array.getElem?_eq_some_iff.mp h3).1;have ot:∀b,b≠T->(s.heap.update T (Obj.mapFields (·.setIfInBounds 3 ((none:Option Addr).elim Value.none λf=>rawInt f)))).get? b=s.heap.get? b:=λb z=>get?_update_other _ _ (Ne.symm z);have nr:∀b o,s.heap.get? b=some o->(∀ws,o.data≠.fields ws)->b≠T:=λb o z y w=>by
  rw[w,hT]at z;cases z;exact y ts dT
 unfold setFlight;refine wpAny_bind (wpAny_field he hd h1 ?_);rw[if_pos (show(Value.ref T != Value.none)=true from by simp)];refine wpAny_setField hT dT sz (q _ ⟨λb o z=>(ot b λw=>by rw[w,nT]at z;cases z).trans (kb b o z),en,ff.of_keeps λb o z y=>⟨o,(ot b (nr b o z y)).trans z,rfl⟩,
  oe,vs,T,_,_,(ot e (Ne.symm Te)).trans he,hc,hd,h1,⟨nT,Te⟩,get?_update_self _ hT (Obj.isFreed_of_fields (Obj.data_mapFields dT _)),Obj.data_mapFields dT _,by simp[sz]⟩ λb o z y=>⟨o.slots,(ot b (nr b o z y)).trans z⟩)
theorem jqj (hh:HdD base l e cls dd L s.heap)(q:∀h',FlD base l e cls dd h'->s.heap.UpToSlots h'->Q () { s with heap:=h' }):wpAny M A (setFlight (.ref e) none) Q E s:=by
 obtain⟨f1,f2,f3,f4⟩:=hh
 exact jlc f1 f2 f3 f4 q
theorem FlD.pop {h:Heap}(f:FlD base (env::outer) e cls dd h):FlD base outer e cls dd h:=by
 obtain⟨f1,f2,⟨_,_,f3⟩,f4⟩:=f
 exact⟨f1,f2,f3,f4⟩
theorem jor (fr:A.frames=some (env::outer))(fL:env.frame=some L)(fl:FlD base (env::outer) e cls dd s.heap)(q:∀h',FlD base outer e cls dd h'->s.heap.UpToSlots h'->Q () { s with heap:=h' }):wpAny M A («leaving» env (.ref e)) Q E s:=by
 unfold «leaving»;refine wpAny_bind (jom fr fL fl λh1 hd1 up1=>jqj (s:={ s with heap:=h1 }) hd1 λh2 me up2=>q h2 me.pop (up1.trans up2))
end
section
variable {P:Program}{w:World}{H:Hp}{h h':Heap}{a:Addr}{o:HO}
theorem HOk.moved (x:HOk P w H h)(k:∀b o u,H b=some o->h.get? b=some u->h'.get? b=some u):HOk P w H h':=λa o e=>
 (x a o e).az (λb u hb q=>by
  rcases hb with rfl|hb
  ·exact k _ _ u e q
  ·exact k _ _ u hb q) (λ_ z=>z) λ_ _ z=>z
end
def CX1 (P:Program)(w:World):CXT:=λouter H s E e s'=>∃(ea C:Addr) (dd:Option Addr) (H':Hp) (B:Heap),e= .ref ea/\s'.os=s.os/\AllBare s'.gens/\FlD B outer ea (.ref C) dd s'.heap /\
 (∀b o,s.heap.get? b=some o->H b=none->b∉frs outer->B.get? b=some o)/\(∀b o,s.heap.get? b=some o->b∉frs outer->∃o',B.get? b=some o') /\
 (∀b o,H' b=some o->∃u,B.get? b=some u)/\Un (frs outer) [] H H' s.heap s'.heap/\HOk P w H' s'.heap/\E (.ref C) dd H'
theorem CX1.step {P:Program}{w:World}{outer:List Env}{H₀ H':Hp}{s₀ s':Shared}{h lx:Heap}{B:Heap}{ea C:Addr}{dd:Option Addr}{E:XK}(ho:s'.os=s₀.os)(hb:AllBare s'.gens)(fl:FlD B outer ea (.ref C) dd lx) (up:h.UpToSlots lx) (st:B.StaysIn h) (lY:∀b∈frs outer,H₀ b=none) (hff:∀b∈frs outer,∀o,h.get? b=some o->∀vs,o.data≠.fields vs)(k1:∀b o,s₀.heap.get? b=some o->H₀ b=none->b∉frs outer->B.get? b=some o) (k2:∀b o,s₀.heap.get? b=some o->b∉frs outer->∃o',B.get? b=some o')(k3:∀b o,H' b=some o->∃u,B.get? b=some u) (u:Un (frs outer) [] H₀ H' s₀.heap h) (hok:HOk P w H' h) (q:E (.ref C) dd H'):CX1 P w outer H₀ s₀ E (.ref ea) { s' with heap:=lx }:=by
 have slot:∀b o,s₀.heap.get? b=some o->H₀ b=none->b∈frs outer->∃sl,lx.get? b=some { o with slots:=sl }:=λb o e n hm=>by
  obtain⟨sl,e1⟩:=u.slot b o e n hm (by simp)
  obtain⟨j4,e2⟩:=up b _ e1 (hff b hm _ e1)
  exact⟨j4,e2⟩
 refine⟨ea,C,dd,H',B,rfl,ho,hb,fl,k1,k2,k3,⟨λb o e n hm _=>fl.1 b o (k1 b o e n hm),λb o e n hm _=>slot b o e n hm,u.free,λb o e _=>?_,u.tups,u.frzs,u.tbls⟩,?_,q⟩
 ·by_cases hm:b∈frs outer
  ·obtain⟨sl,e2⟩:=slot b o e (lY b hm) hm
   exact⟨_,e2⟩
  ·obtain⟨o',e2⟩:=k2 b o e hm
   exact⟨o',fl.1 b o' e2⟩
 ·refine hok.moved λb o u' e q'=>?_
  obtain⟨u2,e2⟩:=k3 b o e
  have e3:=st b u2 e2;rw[q']at e3;cases e3;exact fl.1 b _ e2
section
variable {P:Program}{w:World}{K:Frag}{mg:tM0}{base:Heap}{N:List Str}{qual:Str}{scope:Scope}{f:Addr}{cd:Value}{A:Around}{outer:List Env}{s₀:Shared}{H₀:Hp}{E:XK}
theorem jeH {b:Addr}{o:Obj}(e:s₀.heap.get? b=some o)(hm:b∉frs outer):b∉frs (envOfC qual scope s₀.heap.objs.size f cd::outer):=λhb=>by
 have hb:b∈s₀.heap.objs.size::frs outer:=hb;rcases List.mem_cons.mp hb with rfl|hb
 ·exact lt_irrefl _ (lt_size e)
 ·exact hm hb
theorem jli:jpf (CX1 P w) (YF (CX1 P w) P w K mg base N qual scope f cd A outer s₀ H₀ E) E:=by
 intro bF σ H s e s' I h
 obtain⟨ea,C,dd,H',B,rfl,ho,hb,fl,k1,k2,k3,u,hok,q⟩:=h
 have ub:Un (frs outer) [] H₀ H s₀.heap s.heap:=I.base;have fl:FlD B (envOfC qual scope s₀.heap.objs.size f cd::outer) ea (.ref C) dd s'.heap:=fl;have u:Un (frs (envOfC qual scope s₀.heap.objs.size f cd::outer)) [] H H' s.heap s'.heap:=u;have J:=I.aR ho u hok hb (ch:=[]) (λb hb=>by simp at hb);have uj:Un (frs outer) [] H₀ H' s₀.heap s'.heap:=J.base;have ofr:∀b∈frs outer,b∈frs (envOfC qual scope s₀.heap.objs.size f cd::outer):=λb hb=>mem_cons_of_mem _ hb;refine jor I.ok.frames rfl fl λh' fl' up=>?_;refine CX1.step (s':=s') (h:=s'.heap) (ho.trans I.os) hb fl' up fl.1 I.ok.frf (λb hb o z=>?_) (λb o z n hm=>k1 b o (ub.keep b o z n hm (by simp)) (ub.free b o z n (by simp)) (jeH z hm)) (λb o z hm=>?_) k3 uj hok q
 ·obtain⟨_,o',e1,e2⟩:=fl.2.2.1.mem (b:=b) (ofr b hb)
  rw[z]at e1;cases e1;exact e2
 ·obtain⟨o',e1⟩:=ub.there b o z (by simp)
  exact k2 b o' e1 (jeH z hm)
end
theorem Fun.br {P:Program}{w:World}{K:Frag}{mg:tM0}{base:Heap}{x qual:Str}{st:Stmt}{f:Addr}{fd:FuncData}{N ps:List Str}{k:Nat}{sp:Sp}(F:Fun K x qual st f fd)(S:FnScope N ps (jc st))(len:∀vs H Q E,sp vs H Q E->vs.length=ps.length)(dq:∀(bV:Value) (A:Around) (outer:List Env) (s:Shared) (H:Hp) (vs:List V) (Q:VK) (E:XK),Room k (A.deeper (envOfC qual (jc st) s.heap.objs.size f bV))->sp vs H Q E->
   ∃t,PSs (YF (CX1 P w) P w K mg base N qual (jc st) f bV A outer s H E) (ji st) t/\t { nx:=λ_ H'=>Q .non H',rt:=Q } (start N vs) H):FnOk P w K mg base (CX1 P w) (k+1) f fd ps sp:=by
 obtain⟨oc,od,kV,dM,pm,an,bV,ct,fO,rfl,lk,fj⟩:=F.ex
 exact jiG lk fj S len λA outer s H vs Q E hr fF=>dq bV A outer s H vs Q E hr fF
abbrev TJ:=St->Hp->Str->(Str->Hp->Prop)->Prop
abbrev jrD:List Value:=[.type "ValueError",.type "Exception",.type "BaseException",.type "object"]
def jrw (ea C:Addr)(dd:Option Addr):HO:=.ext λh=>∃o vs,h.get? ea=some o/\o.cls= .ref C/\o.data= .fields vs/\o.dict=dd
def jqD (X:Cx)(bF:tP0)(H:Hp)(b:Addr):Prop:=
 b=X.env.locals\/(∃x,X.env.cells.lookup x=some b)\/(∃p∈X.pn++bF,p.1=b)\/(∃o,H b=some o)\/∃o,X.s₀.heap.get? b=some o/\b∉X.ex
section
variable {X:Cx}{bF:tP0}{σ:St}{H:Hp}{s:Shared}{a:Addr}{o:HO}
theorem Inv.aY (I:Inv X bF σ H s)(np:¬ jqD X bF H a)(new:yl X.prog X.w (upd H a o) s.heap a o):Inv X bF σ (upd H a o) s:=by
 have hn:H a=none:=by
  cases q:H a with
  |none=>rfl
  |some u=>exact absurd (.inr (.inr (.inr (.inl ⟨u,q⟩)))) np
 refine⟨I.ok,I.os,I.bare,⟨I.base.keep,I.base.slot,λb ob e n hx=>?_,I.base.there,λb xs e=>?_,λb ob xs e=>?_,λb ps e=>?_⟩,I.loc,I.cell,?_,λx c e=>?_,λp hp=>?_,λb ob e=>?_,I.len⟩
 ·rw[jk (λz:b=a=>np (.inr (.inr (.inr (.inr ⟨ob,z ▸ e,z ▸ hx⟩)))))];exact I.base.free b ob e n hx
 ·have q:=I.base.tups b xs e;rw[jk (jv q hn)];exact q
 ·have q:=I.base.frzs b ob xs e;rw[jk (jv q hn)];exact q
 ·obtain⟨more,q⟩:=I.base.tbls b ps e
  exact⟨more,by rw[jk (jv q hn)];exact q⟩
 ·rw[jk (λz=>np (.inl z.symm))];exact I.free
 ·rw[jk (λz:c=a=>np (.inr (.inl ⟨x,z ▸ e⟩)))];exact I.freeC x c e
 ·obtain⟨q1,q2,q3⟩:=I.pin p hp
  exact⟨q1,by rw[jk (λz:p.1=a=>np (.inr (.inr (.inl ⟨p,hp,z⟩))))];exact q2,q3⟩
 ·by_cases hb:b=a
  ·subst hb;rw[jr]at e;cases e;exact new
  ·rw[jk hb]at e
   exact(I.hok b ob e).az (λ_ _ _ z=>z) (λc z=>by rw[jk (jv z hn)];exact z) λc xs z=>by rw[jk (jv z hn)];exact z
end
def vO (CX:CXT)(X:Cx)(E:St->XK):Prop:=∀(bF:tP0) (σ:St) (H:Hp) (s:Shared) (e:Value) (s':Shared),Inv X bF σ H s->CX X.stack H s (E σ) e s'->X.xe e s'
abbrev TH:=Ends->St->Addr->Option Addr->Hp->Prop
section
variable {P:Program}{w:World}{K:Frag}{mg:tM0}{base:Heap}{CX:CXT}{k:Nat}{f:Addr}{fd:FuncData}{ps:List Str}{sp:Sp}
theorem FnOk.up (F:FnOk P w K mg base CX0 k f fd ps sp):FnOk P w K mg base CX k f fd ps sp:=
 ⟨F.len,λA outer s H args us vs Q E hr he hb hv hs=>codeAny_mono (F.run A outer s H args us vs Q E hr he hb hv hs) λr s' hq=>by
  match r,hq with
  |.ok (.ret u),hq=>exact hq
  |.error e,hq=>exact False.elim hq⟩
end
inductive Kn (H:Hp):V->String->Prop where
 |non:Kn H .non "NoneType"
 |bl (x:Bool):Kn H (.bl x) "bool"
 |int (i:Int):Kn H (.int i) "int"
 |str (x:Str):Kn H (.str x) "str"
 |lst {a:Addr}{xs:List V}(e:H a=some (.lst xs)):Kn H (.ref a) "list"
 |tup {a:Addr}{xs:List V}(e:H a=some (.tup xs)):Kn H (.ref a) "tuple"
 |dK {a:Addr}{kvs:List (Key×V)}(e:H a=some (.dK kvs)):Kn H (.ref a) "dict"
def xq:List String:=["NoneType","bool","int","str","list","tuple","dict"]
def sub (n m:String):Bool:=n==m || (n=="bool" && m=="int")
theorem jex (K:Frag){n m:String}(hn:n∈xq)(hm:m∈xq):kitOne K (.type n) (.type m)=some (sub n m):=by
 have tab:∀n∈xq,∀m∈xq,(Value.type n==Value.type m)=false->kitMeta m=true/\(fastBuiltinMro n).map (·.contains (.type m))=some (sub n m):=by decide +kernel
 have tab2:∀n∈xq,∀m∈xq,(Value.type n==Value.type m)=true->sub n m=true:=by decide +kernel
 unfold kitOne;cases h:(Value.type n==Value.type m)with
 |true=>rw[if_pos rfl,tab2 n hn m hm h]
 |false=>
  obtain⟨h1,h2⟩:=tab n hn m hm h
  rw[if_neg (by decide)]
  show(if kitMeta m=true then(fastBuiltinMro n).map (·.contains (.type m))else none)=some (sub n m)
  rw[if_pos h1,h2]
def jrx (K:Frag)(C:Addr):Bool:=match K.lookup C with
 |some ⟨.type "type",_,.cls cd,sl⟩=>(match cd.mro,sl.toList with
  |.ref D::bm,[_,_,_,_,some (.builtin n),_]=>D==C && n=="ValueError.__new__" && !cd.hasDel && PySem.W.tailIn K jrD bm && cd.hasDict
  |_,_=>false)
 |_=>false
structure FunD (K:Frag)(x qual:Str)(st:Stmt)(f:Addr)(fd:FuncData):Prop where
 ex:∃(oc:Value) (od:Option Addr) (dV kV dM pm:Value) (an:Option Addr) (bV ct:Value) (fO:Array (Option Value)),
  fd=fnOf x qual (jl st) (ji st) (jc st) dV kV dM pm an bV ct/\K.lookup f=some ⟨oc,od,.func fd,fO⟩/\codeIn K bV qual=true
 kp:keepIn K (.ref f)=true
section
variable {P:Program}{w:World}{K:Frag}{mg:tM0}{base:Heap}{x qual:Str}{st:Stmt}{f:Addr}{fd:FuncData}{N ps:List Str}{k:Nat}{sp:Sp}
theorem FunD.ok (F:FunD K x qual st f fd)(S:FnScope N ps (jc st))(len:∀vs H Q E,sp vs H Q E->vs.length=ps.length)(dq:∀(bV:Value) (A:Around) (outer:List Env) (s:Shared) (H:Hp) (vs:List V) (Q:VK) (E:XK),Room k (A.deeper (envOfC qual (jc st) s.heap.objs.size f bV))->sp vs H Q E->
   ∃t,PSs (YF CX0 P w K mg base N qual (jc st) f bV A outer s H E).aN (ji st) t/\t { nx:=λ_ H'=>Q .non H',rt:=Q } (start N vs) H):FnOk P w K mg base CX0 (k+1) f fd ps sp:=by
 obtain⟨oc,od,dV,kV,dM,pm,an,bV,ct,fO,rfl,lk,fj⟩:=F.ex
 refine jiG lk fj S len λA outer s H vs Q E hr fF=>?_
 obtain⟨t,h,q⟩:=dq bV A outer s H vs Q E hr fF
 exact⟨t,h.aN,q⟩
end
theorem jjg {ρ τ:Type}{K:Frag}{s:Shared}{fd:FuncData}{args:Args}{c4:List (Str×Value)}{kd:Addr}{nm:Str}{v:Value}{k1:Option Value->Sem ρ}{k2:ρ->Sem τ}{k3:τ->Sem (List (Str×Value))}{r1:ρ}{r2:τ}(X:K.In s.heap)(e:nsIn K kd nm=some (some v))(h1:bindArgs fd args=((nsGet kd nm >>= k1) >>= k2) >>= k3) (h2:k1 (some v)=pure r1) (h3:k2 r1=pure r2) (h4:k3 r2=pure c4):BindsTo s fd args c4:=λM A E Q q=>by
 rw[h1];refine wpAny_bind (wpAny_bind (wpAny_bind ((PySem.W.looks_nsIn X e).here ?_)));rw[h2];refine wpAny_pure ?_;rw[h3];refine wpAny_pure ?_;rw[h4];exact wpAny_pure q
theorem Inv.aT {X:Cx}{bF:tP0}{σ:St}{H:Hp}{s:Shared}{h':Heap}{t':Nat}{e it:Addr}(I:Inv X bF σ H s)(k:∀b o,b≠e->b≠it->s.heap.get? b=some o->h'.get? b=some o)(fe:xb X bF H e)(fi:xb X bF H it) :
  Inv X bF σ H { s with heap:=h',toks:=t' }:=by
 have ne:∀b u,H b=some u->b≠e:=λb u q z=>by rw[z,fe.1]at q;cases q
 have kc:∀b u,H b=some u->b≠it:=λb u q z=>by rw[z,fi.1]at q;cases q
 have nc:∀b,b∉[e,it]->b≠e/\b≠it:=λb h=>⟨λz=>h (by simp[z]),λz=>h (by simp[z])⟩
 refine I.step (g':=s.gens) (d':=s.drawn) (ch:=[e,it]) (λb hb=>?_) (λb o _ _ hc q _=>k b o (nc b hc).1 (nc b hc).2 q) (λb o _ _ hc q _=>⟨o.slots,k b o (nc b hc).1 (nc b hc).2 q⟩) (λ_ _ _ _ n=>n)
  (λb o hc q=>⟨o,k b o (nc b hc).1 (nc b hc).2 q⟩) (λ_ _ q=>q) (λ_ _ _ q=>q) (λb ps q=>⟨#[],by rw[q];simp⟩) (λm hm=>?_) (λb u q=>?_) I.bare
 ·rcases List.mem_cons.mp hb with z|z
  ·subst z
   exact⟨fe.2.2.2.1,fe.2.1,fe.2.2.2.2.1,fe.2.2.2.2.2⟩
  ·have z:b=it:=by simpa using z
   subst z
   exact⟨fi.2.2.2.1,fi.2.1,fi.2.2.2.2.1,fi.2.2.2.2.2⟩
 ·obtain⟨o,es,ep,ho,r⟩:=hm
  exact⟨o,es,ep,k _ o (Ne.symm fe.2.1) (Ne.symm fi.2.1) ho,r⟩
 ·refine(I.hok b u q).az (λc v hc z=>k c v ?_ ?_ z) (λ_ z=>z) λ_ _ z=>z
  ·rcases hc with y|y
   ·rw[y];exact ne b u q
   ·exact ne c _ y
  ·rcases hc with y|y
   ·rw[y];exact kc b u q
   ·exact kc c _ y
theorem xb.np {X:Cx}{bF:tP0}{H:Hp}{b:Addr}(f:xb X bF H b):¬ jqD X bF H b:=by
 rintro(z|⟨x,z⟩|⟨p,hp,z⟩|⟨o,z⟩|⟨o,z,hx⟩)
 ·exact f.2.1 z
 ·exact f.2.2.2.2.1 x b z rfl
 ·exact f.2.2.2.2.2 p hp z
 ·rw[f.1]at z;cases z
 ·rcases f.2.2.2.1 with y|y
  ·exact hx y
  ·exact lt_irrefl _ (lt_of_lt_of_le (lt_size z) y)
def Ite (K:Frag)(a:Addr):It:=
 ⟨λi H=>∃xs x,SqL K H a xs/\xs[i]?= some x,λi H x H'=>∃p v,x= .ref p/\H p=none/\(∀xs,SqL K H a xs->xs[i]?= some v)/\H'=upd H p (.tup [.int (i:Int),v]),λi H=>∃xs,SqL K H a xs/\xs.length<=i⟩
theorem jfD {P:Program}{w:World}{K:Frag}{cX:List Expr}{x1:Nat}{pos:Pos}(a e it:Addr)(cZ:e≠it) :
  Turn P w K (.Tuple cX x1 pos) (Ite K a) [e,it] e (λi h=>(∃dG,IsEnum h e it i dG)/\h.IsListIter it a i) where
 mem:=by simp
 obj:=λi h st b hb=>by
  obtain⟨⟨dG,he⟩,o,ho,_,hd⟩:=st
  rcases List.mem_cons.mp hb with z|z
  ·subst z
   exact⟨_,he,λv z=>by
    have z':Data.fields _=Data.cell v:=z;cases z'⟩
  ·have z:b=it:=by simpa using z
   subst z
   exact⟨o,ho,λv z=>by rw[hd]at z;cases z⟩
 keep:=λi h h' st k=>by
  obtain⟨⟨dG,he⟩,hi⟩:=st
  exact⟨⟨dG,k e (by simp) _ he⟩,hi.at λo q=>k it (by simp) o q⟩
 item:=by
  intro X hP hw hK hc i bF s σ H E I hf st hg;subst hP hw hK
  obtain⟨⟨dG,he⟩,hi⟩:=st
  obtain⟨xs,x,hq,hx⟩:=hg
  obtain⟨its,rv,p,hz⟩:=I.list hq
  obtain⟨u,hu,ru⟩:=rv.get hx
  have fe:=hf e (by simp);have fi:=hf it (by simp);refine wpAny_pyNext_enum_item he hi p.isList (x:=u) (by simpa using hu) cZ λh' out d5 tup sz keep=>?_
  refine⟨_,rfl,wpAny_letOwnedTupleGo_enum (s:={ s with heap:=h',toks:=s.toks+1 }) out λh2 iY sb=>?_⟩
  have hp1:s.heap.objs.size≠e:=λz=>by
   have:=lt_size (show s.heap.get? e=some _ from he)
   rw[<-z]at this;exact lt_irrefl _ this
  have hp2:s.heap.objs.size≠it:=λz=>by
   obtain⟨o,ho,_⟩:=hi
   have:=lt_size ho
   rw[<-z]at this;exact lt_irrefl _ this
  have jbc:∀b o,b≠e->b≠it->s.heap.get? b=some o->h2.get? b=some o:=λb o h1 h3 q=>(sb.2 b h1).trans (keep b o h1 h3 q);have I1:Inv X bF σ H { s with heap:=h2,toks:=s.toks+1 }:=I.aT jbc fe fi;have fresh:H s.heap.objs.size=none:=I.hok.fresh (le_refl _);have fp:=I.au (le_refl _) fresh;have ib:h2.get? s.heap.objs.size=some { cls:=.type "tuple",data:=.seq #[.int i s.toks,u] }:=(sb.2 _ hp1).trans tup
  refine⟨.ref s.heap.objs.size,upd H s.heap.objs.size (.tup [.int (i:Int),x]),I1.aY fp.np ⟨by show 2<=sizeLine;decide,[.int i s.toks,u],.cons ⟨_,rfl⟩ (.cons ru .nil),⟨_,ib,rfl,_,rfl⟩⟩,rfl,⟨_,x,rfl,fresh,λys hy=>by rw[I.av hy hq];exact hx,rfl⟩,⟨⟨_,iY⟩,?_⟩,λb hb=>?_⟩
  ·exact d5.at λo q=>(sb.2 it (Ne.symm cZ)).trans q
  ·rcases List.mem_cons.mp hb with z|z
   ·subst z;rw[jk (Ne.symm hp1)];exact fe.1
   ·have z:b=it:=by simpa using z
    subst z;rw[jk (Ne.symm hp2)];exact fi.1
 done:=by
  intro X hP hw hK hc i bF s σ H E I hf st hg;subst hP hw hK
  obtain⟨⟨dG,he⟩,hi⟩:=st
  obtain⟨xs,hq,hx⟩:=hg
  obtain⟨its,rv,p,hz⟩:=I.list hq
  obtain⟨f0,f1,f2,f3,f4,f5⟩:=hf it (by simp)
  have hl:=rv.length;exact wpAny_pyNext_enum_end (I.ok.hd hc) he hi p.isList (by simp;omega) λh' eb=>⟨rfl,I.turned (t':=s.toks) (λb o hb q=>eb b o hb q) f0 f1 f3 f4 f5⟩
 self:=λ_ _ _ _ _ st h=>by
  obtain⟨⟨dG,he⟩,_⟩:=st
  exact wpAny_pyIter_enum he h
section
variable {X:Cx}{cX:List Expr}{x1:Nat}{dS:Pos}
theorem jaa:bootBuiltins "enumerate" = some (.type "enumerate"):=by decide +kernel
def jqp (K:Frag)(ta:TA):TI:=λσ H R=>ta σ H λvs H1=>∃a,vs=[.ref a]/\(∃xs,SqL K H1 a xs)/\R (Ite K a) H1
theorem jkz {l:Expr}{ta:TA}{p pos:Pos}(hg:Gl X "enumerate")(hm:X.mg "enumerate" = none)(ha:PA X [l] ta)(hs:starEach [l] X.env=[(false,eval l X.env)]:=by rfl):PI X (.Tuple cX x1 dS) (.Call (.Name "enumerate" p) [l] [] pos) (jqp X.K ta):=by
 intro bF s σ H R I h;refine Call_ (JX I hg hm jaa (PyProof.Rows.callWith_type1 (thn (ha pos bF s σ H _ I h) λus s1 bH=>?_) hs rfl))
 obtain⟨vs,H1,I1,r1,q1⟩:=bH
 obtain⟨a,e,⟨xs,hq⟩,q⟩:=q1
 subst e;cases r1 with
 |cons r rr=>
  cases rr;cases r
  obtain⟨its,rv,p,hz⟩:=I1.list hq
  refine call_enumerate_list p.isList λh' he hi sz keep=>?_;refine wpAny_pyIter_enum he ?_;have ne:s1.heap.objs.size+1≠s1.heap.objs.size:=Nat.succ_ne_self _
  refine⟨s1.heap.objs.size+1,[s1.heap.objs.size+1,s1.heap.objs.size],_,_,H1,rfl,I1.kept (t':=s1.toks) keep,jfD a _ _ ne,⟨⟨_,he⟩,hi⟩,λb hb=>?_,q⟩
  rcases List.mem_cons.mp hb with z|z
  ·subst z;exact I1.au (le_succ _) (I1.hok.fresh (le_succ _))
  ·have z:b=s1.heap.objs.size:=by simpa using z
   subst z;exact I1.au (le_refl _) (I1.hok.fresh (le_refl _))
end
def jqQ (K:Frag)(t:TE):TT:=λσ H Q=>t σ H λx H1=>∃k,jpb K x H1 k/\Q k H1
theorem jng {X:Cx}{e:Expr}{t:TE}(h:PE X e t)(he:∀c7,isTrue e X.env c7=(do let v <-c7;standAt e.pos;holding [v] (truthy v)):=by intro _;rfl):PT X e (jqQ X.K t):=by
 intro bF s σ H Q I hw;refine isTrue_plain (thn (h bF s σ H _ I hw) λv s1 bH=>?_) (he _)
 obtain⟨x,H1,I1,r1,q1⟩:=bH
 exact jmm bF s1 σ H1 x v _ I1 r1 q1
section
variable {κ:Type}[DecidableEq κ]
def yT (kvs:List (κ×V))(k:κ):Option V:=(kvs.find? λkv=>decide (kv.1=k)).map (·.2)
def vp (kvs:List (κ×V))(k:κ)(v:V):List (κ×V):=
 if(kvs.any λkv=>decide (kv.1=k))=true then kvs.map (λkv=>if kv.1=k then(kv.1,v)else kv)else kvs++[(k,v)]
def jlQ (kvs:List (κ×V))(k:κ):List (κ×V):=kvs.filter λkv=>decide (kv.1≠k)
theorem uP {p:κ×V}{r:List (κ×V)}{k:κ}(e:p.1=k):yT (p::r) k=some p.2:=by simp[yT,find?_cons,e]
theorem uQ {p:κ×V}{r:List (κ×V)}{k:κ}(e:¬ p.1=k):yT (p::r) k=yT r k:=by simp[yT,find?_cons,e]
theorem jak (k:κ):∀kvs:List (κ×V),(kvs.any λkv=>decide (kv.1=k))=(yT kvs k).isSome
 |[]=>rfl
 |p::r=>by
  rw[any_cons]
  by_cases e:p.1=k
  ·simp only[uP e,decide_eq_true e,Bool.true_or,Option.isSome_some]
  ·rw[uQ e,decide_eq_false e,Bool.false_or];exact jak k r
theorem vX (kvs:List (κ×V))(k:κ)(v:V):(vp kvs k v).length<=kvs.length+1:=by
 unfold vp;split
 ·rw[length_map];omega
 ·rw[length_append,length_cons,length_nil];omega
theorem ux.aq {o:Option V}{u:Option Value}(r:ux o u):o.isSome=u.isSome:=by
 cases o with
 |none=>cases u with
  |none=>rfl
  |some _=>exact(show False from r).elim
 |some _=>cases u with
  |none=>exact(show False from r).elim
  |some _=>rfl
theorem ux.getD {o:Option V}{u:Option Value}{d:V}{d':Value}(r:ux o u)(rd:RelV d d'):RelV (o.getD d) (u.getD d'):=by
 cases o with
 |none=>cases u with
  |none=>exact rd
  |some _=>exact(show False from r).elim
 |some _=>cases u with
  |none=>exact(show False from r).elim
  |some _=>exact r
theorem KV.val {kvs:List (κ×V)}{vs:List (κ×Value)}(r:KV kvs vs)(k:κ):ux (yT kvs k) (valueAt vs k):=by
 unfold KV at r
 induction r with
 |nil=>exact True.intro
 | @cons p q ps qs h t ih=>
  obtain⟨h1,h2⟩:=h
  by_cases e:p.1=k
  ·have e':q.1=k:=h1.symm.trans e;have b:valueAt (q::qs) k=some q.2:=by simp[valueAt,find?_cons,e']
   rw[uP e,b];exact h2
  ·have e':¬ q.1=k:=λz=>e (h1.trans z);have b:valueAt (q::qs) k=valueAt qs k:=by simp[valueAt,find?_cons,e']
   rw[uQ e,b];exact ih
theorem KV.any {kvs:List (κ×V)}{vs:List (κ×Value)}(r:KV kvs vs)(k:κ):(kvs.any λkv=>decide (kv.1=k))=vs.any λkv=>decide (kv.1=k):=by
 unfold KV at r
 induction r with
 |nil=>rfl
 |cons h t ih=>rw[any_cons,any_cons,ih,h.1]
theorem KV.aG {kvs:List (κ×V)}{vs:List (κ×Value)}(r:KV kvs vs)(k:κ){y:V}{u:Value}(ry:RelV y u) :
  KV (kvs.map λkv=>if kv.1=k then(kv.1,y)else kv) (vs.map λkv=>if kv.1=k then(kv.1,u)else kv):=by
 unfold KV at r ⊢
 induction r with
 |nil=>exact .nil
 | @cons p q ps qs h t ih=>
  rw[map_cons,map_cons];refine .cons ?_ ih
  obtain⟨h1,h2⟩:=h
  by_cases e:p.1=k
  ·rw[if_pos e,if_pos (h1.symm.trans e)];exact⟨h1,ry⟩
  ·rw[if_neg e,if_neg (λz=>e (h1.trans z))];exact⟨h1,h2⟩
theorem KV.put {kvs:List (κ×V)}{vs:List (κ×Value)}(r:KV kvs vs)(k:κ){y:V}{u:Value}(ry:RelV y u):KV (vp kvs k y) (stored vs k u):=by
 unfold vp stored;rw[r.any k]
 by_cases e:(vs.any λkv=>decide (kv.1=k))=true
 ·rw[if_pos e,if_pos e];exact r.aG k ry
 ·rw[if_neg e,if_neg e];exact Paired.snoc r ⟨rfl,ry⟩
theorem KV.drop {kvs:List (κ×V)}{vs:List (κ×Value)}(r:KV kvs vs)(k:κ):KV (jlQ kvs k) (without vs k):=by
 unfold KV at r ⊢;unfold jlQ without
 induction r with
 |nil=>exact .nil
 | @cons p q ps qs h t ih=>
  obtain⟨h1,h2⟩:=h
  rw[filter_cons,filter_cons]
  by_cases e:p.1=k
  ·have a:¬ decide (p.1≠k)=true:=by simp[e]
   have b:¬ decide (q.1≠k)=true:=by simp[h1.symm.trans e]
   rw[if_neg a,if_neg b];exact ih
  ·have e':¬ q.1=k:=λz=>e (h1.trans z);have a:decide (p.1≠k)=true:=by simp[e]
   have b:decide (q.1≠k)=true:=by simp[e']
   rw[if_pos a,if_pos b];exact .cons ⟨h1,h2⟩ ih
theorem KV.length {kvs:List (κ×V)}{vs:List (κ×Value)}(r:KV kvs vs):kvs.length=vs.length:=Paired.length r
end
theorem jez {P:Program}{w:World}{k:Key}{u:Value}(r:RelV (kV k) u):(ye P w).is k u=true:=by
 cases k with
 |inl i=>obtain⟨t,e⟩:=(show ∃t,u=Value.int i t from r);subst e;exact jaV P w i t
 |inr x=>obtain⟨t,e⟩:=(show ∃t,u=Value.str x t from r);subst e;exact jaU P w x t
theorem JZ {P:Program}{w:World}:∀{ks:List Key}{us:List Value},yg (ks.map kV) us->ItemsAre (ye P w) ks us
 |[],_,r=>by rw[map_nil]at r;cases r;exact .nil
 |k::ks,_,r=>by
  rw[map_cons]at r;cases r with
  |cons h t=>exact .cons (jez h) (JZ t)
abbrev KT (H:Hp):List (List Key×V)->List (List Key×Addr×Value)->Prop:=Paired λp q=>p.1=q.1/\H q.2.1=some (.tup (p.1.map kV))/\RelV p.2 q.2.2
theorem KT.val {H:Hp}{kvs:List (List Key×V)}{xs:List (List Key×Addr×Value)}(r:KT H kvs xs)(k:List Key):ux (yT kvs k) ((atKey xs k).map (·.2)):=by
 induction r with
 |nil=>exact True.intro
 | @cons p q ps qs h t ih=>
  obtain⟨h1,_,h2⟩:=h
  by_cases e:p.1=k
  ·have e':q.1=k:=h1.symm.trans e;have b:atKey (q::qs) k=some q.2:=by simp[atKey,find?_cons,e']
   rw[uP e,b];exact h2
  ·have e':¬ q.1=k:=λz=>e (h1.trans z);have b:atKey (q::qs) k=atKey qs k:=by simp[atKey,find?_cons,e']
   rw[uQ e,b];exact ih
theorem KT.aG {H:Hp}{kvs:List (List Key×V)}{xs:List (List Key×Addr×Value)}(r:KT H kvs xs)(k:List Key){y:V}{u:Value}(ry:RelV y u) :
  KT H (kvs.map λkv=>if kv.1=k then(kv.1,y)else kv) (xs.map (putAt k u)):=by
 induction r with
 |nil=>exact .nil
 | @cons p q ps qs h t ih=>
  rw[map_cons,map_cons];refine .cons ?_ ih
  obtain⟨h1,h2,h3⟩:=h
  unfold putAt
  by_cases e:p.1=k
  ·rw[if_pos e,if_pos (h1.symm.trans e)];exact⟨h1,h2,ry⟩
  ·rw[if_neg e,if_neg (λz=>e (h1.trans z))];exact⟨h1,h2,h3⟩
theorem KT.put {H:Hp}{kvs:List (List Key×V)}{xs:List (List Key×Addr×Value)}(r:KT H kvs xs)(k:List Key){b:Addr}{y:V}{u:Value}(hb:H b=some (.tup (k.map kV)))(ry:RelV y u) :
  KT H (vp kvs k y) (storedH xs k b u):=by
 have e:(kvs.any λkv=>decide (kv.1=k))=(atKey xs k).isSome:=by
  rw[jak,(r.val k).aq,isSome_map]
 unfold vp storedH;rw[e]
 by_cases q:(atKey xs k).isSome=true
 ·rw[if_pos q,if_pos q];exact r.aG k ry
 ·rw[if_neg q,if_neg q];exact Paired.snoc r ⟨rfl,hb,ry⟩
theorem KT.keeps {H H':Hp}{kvs:List (List Key×V)}{xs:List (List Key×Addr×Value)}(r:KT H kvs xs)(ht:∀b ys,H b=some (.tup ys)->H' b=some (.tup ys)):KT H' kvs xs:=
 Paired.ba r λ_ _ z=>⟨z.1,ht _ _ z.2.1,z.2.2⟩
section
variable {P:Program}{w:World}{H:Hp}{h:Heap}{a:Addr}
theorem jlC {u:HO}(ok:HOk P w H h)(e:Rd H a u):yl P w H h a u:=e.ok ok
theorem jeJ {kvs:List (Key×V)}(ok:HOk P w H h)(e:Rd H a (.dK kvs)):kvs.length<=sizeLine/\(a==sysModules)=false/\∃vs,KV kvs vs/\h.DictOf (ye P w) a vs:=
 show yl P w H h a (.dK kvs)from jlC ok e
theorem jqu {kvs:List (Key×V)}(ok:HOk P w H h)(e:H a=some (.dK kvs)):kvs.length<=sizeLine/\(a==sysModules)=false/\∃vs,KV kvs vs/\h.DictOf (ye P w) a vs:=jeJ ok (.inl e)
theorem XA {ks:List Key}(ok:HOk P w H h)(e:H a=some (.tup (ks.map kV))):(tupleKind (ye P w)).is h ks a:=by
 obtain⟨_,its,r,o,h1,h2,n,h3⟩:=(show yl P w H h a (.tup (ks.map kV))from ok a _ e)
 exact⟨o,its.toArray,n,h1,h2,h3,by simpa using JZ r⟩
theorem jbt {kvs:List (List Key×V)}(ok:HOk P w H h)(e:Rd H a (.dT kvs)):kvs.length<=sizeLine/\(a==sysModules)=false /\
  ∃xs,KT H kvs xs/\h.DictOfH (tupleKind (ye P w)) a xs:=by
 obtain⟨z,y,xs,r,o,es,ep,h1,h2,h3,h4,h5⟩:=(show yl P w H h a (.dT kvs)from jlC ok e)
 refine⟨z,y,xs,r,o,es,ep,h1,h2,h3,h4,λx hx=>?_,h5⟩
 have all:∀{l:List (List Key×V)}{m:List (List Key×Addr×Value)},KT H l m->∀x∈m,(tupleKind (ye P w)).is h x.1 x.2.1:=by
  intro l m q
  induction q with
  |nil=>intro x hx;exact nomatch hx
  | @cons p q ps qs hq t ih=>
   intro x hx;rcases List.mem_cons.mp hx with e|hx
   ·subst e;exact XA ok (by rw[<-hq.1];exact hq.2.1)
   ·exact ih x hx
 exact all r x hx
theorem jlP {kvs:List (List Key×V)}(ok:HOk P w H h)(e:H a=some (.dT kvs)):kvs.length<=sizeLine/\(a==sysModules)=false /\
  ∃xs,KT H kvs xs/\h.DictOfH (tupleKind (ye P w)) a xs:=jbt ok (.inl e)
end
def jdx (H:Hp)(a:Addr)(y:V)(r:Option V):Prop:=
 (∃kvs k,Rd H a (.dK kvs)/\y=kV k/\r=yT kvs k)\/∃kvs k b,Rd H a (.dT kvs)/\y= .ref b/\H b=some (.tup (k.map kV))/\r=yT kvs k
def jdw (H:Hp)(a:Addr)(y v:V)(H':Hp):Prop:=
 (∃kvs k,H a=some (.dK kvs)/\y=kV k/\kvs.length<sizeLine/\H'=upd H a (.dK (vp kvs k v))) \/
 ∃kvs k b,H a=some (.dT kvs)/\y= .ref b/\H b=some (.tup (k.map kV))/\kvs.length<sizeLine/\H'=upd H a (.dT (vp kvs k v))
theorem jdx.t {H:Hp}{a b:Addr}{kvs:List (List Key×V)}{k:List Key}(e:H a=some (.dT kvs))(eb:H b=some (.tup (k.map kV))):jdx H a (.ref b) (yT kvs k):=.inr ⟨kvs,k,b,.inl e,rfl,eb,rfl⟩
theorem jdw.t {H:Hp}{a b:Addr}{kvs:List (List Key×V)}{k:List Key}{v:V}(e:H a=some (.dT kvs))(eb:H b=some (.tup (k.map kV)))(hl:kvs.length<sizeLine) :
  jdw H a (.ref b) v (upd H a (.dT (vp kvs k v))):=.inr ⟨kvs,k,b,e,rfl,eb,hl,rfl⟩
section
variable {X:Cx}{bF:tP0}{σ:St}{H:Hp}{s:Shared}{a:Addr}{y v:V}{u r:Value}{o:Option V}{A:Around}{E:tE0}
theorem Inv.big (I:Inv X bF σ H s):sysModules<s.heap.objs.size:=by
 have h:mainGlobals<s.heap.objs.size:=(I.mod.glob.keeps I.bk).lt;exact lt_trans (by decide) h
theorem jlf {Q:tE0}(hu:A.units+1<cLine)(I:Inv X bF σ H s)(g:jdx H a y o)(ry:RelV y u)(h:∀s',Inv X bF σ H s'->Q (.bool (!o.isSome)) s') :
  wpAny (model X.prog X.w) A (compareOp .NotIn u (.ref a)) Q E s:=by
 rcases g with⟨kvs,k,e,ey,l⟩|⟨kvs,k,b,e,ey,eb,l⟩
 ·subst ey
  obtain⟨z,hd,vs,rel,dd⟩:=jeJ I.hok e
  refine wpAny_notIn_of (jez ry) hd dd.mapOf ?_;rw[<-(rel.val k).aq,<-l];exact h _ (I.tok _)
 ·subst ey;cases (show u=Value.ref b from ry)
  obtain⟨z,hd,xs,rel,dd⟩:=jbt I.hok e
  refine wpAny_notIn_heap (tupleKind_room_in1 hu) (XA I.hok eb) hd dd ?_;have q:=(rel.val k).aq;rw[isSome_map]at q;rw[<-q,<-l];exact h _ (I.tok _)
theorem YR {h':Heap}{t':Nat}{ob:HO}(I:Inv X bF σ H s)(mu:Mut (H a))(hs:SameBut a s.heap h')(he:∃q,h'.get? a=some q)(new:yl X.prog X.w (upd H a ob) h' a ob) :
  Inv X bF σ (upd H a ob) { s with heap:=h',toks:=t' }:=
 I.write (x:=a) (e:=a) mu (.inl rfl) (λb q hb z=>(hs.2 b hb).trans z) he new
theorem joP {P:Program}{w:World}{H':Hp}{h':Heap}{kvs:List (Key×V)}{vs:List (Key×Value)}(z:kvs.length<=sizeLine)(hd:(a==sysModules)=false)(rel:KV kvs vs)(dd:h'.DictOf (ye P w) a vs) :
  yl P w H' h' a (.dK kvs):=⟨z,hd,vs,rel,dd⟩
theorem jgr {H':Hp}{Q:Unit->Shared->Prop}(hu:A.units+1<cLine)(I:Inv X bF σ H s)(g:jdw H a y v H')(ry:RelV y u)(rv:RelV v r)(h:∀s',Inv X bF σ H' s'->Q () s') :
  wpAny (model X.prog X.w) A (setItem (.ref a) u r) Q E s:=by
 rcases g with⟨kvs,k,e,ey,l,eH⟩|⟨kvs,k,b,e,ey,eb,l,eH⟩
 ·subst ey eH
  obtain⟨z,hd,vs,rel,dd⟩:=jqu I.hok e
  have hz:vs.length<=sizeLine:=by rw[<-rel.length];exact z
  have hl:(vp kvs k v).length<=sizeLine:=by have:=vX kvs k v;omega
  refine wpAny_setItem_pairs (hsz:=hz) (jez ry) dd λh' i5 hs=>h _ ?_;have he:∃q,h'.get? a=some q:=let ⟨q,_,_,hq,_⟩:=i5;⟨q,hq⟩;exact YR I (by rw[e];exact True.intro) hs he (joP hl hd (rel.put k rv) i5)
 ·subst ey eH;cases (show u=Value.ref b from ry)
  obtain⟨z,hd,xs,rel,dd⟩:=jlP I.hok e
  have hz:xs.length<=sizeLine:=by rw[<-Paired.length rel];exact z
  have hl:(vp kvs k v).length<=sizeLine:=by have:=vX kvs k v;omega
  refine wpAny_setItem_heap (hsz:=hz) (tupleKind_room_in1 hu) (XA I.hok eb) dd λh' i5 hs=>h _ ?_
  obtain⟨q,es,ep,hq,h2,h3,h4,_,h5⟩:=i5
  refine YR I (by rw[e];exact True.intro) hs ⟨q,hq⟩ ⟨hl,hd,_,(rel.put k eb rv).keeps λc ys ec=>?_,q,es,ep,hq,h2,h3,h4,h5⟩;rw[jk (jib ec e (λz=>nomatch z))];exact ec
end
def jdF (ty td:TE):TE:=λσ H Q=>ty σ H λy H1=>td σ H1 λx H2=>∃a o,x= .ref a/\jdx H2 a y o/\Q (.bl (!o.isSome)) H2
def jpG (td ty tv:TE):TS:=λD σ H=>tv σ H λv H1=>td σ H1 λx H2=>ty σ H2 λy H3=>∃a H4,x= .ref a/\jdw H3 a y v H4/\D.nx σ H4
section
variable {X:Cx}{o i value:Expr}{pos cO:Pos}{td ty tv:TE}
theorem jfY (hu:X.A.units+1<cLine)(hi:PE X i ty)(ho:PE X o td):PC X .NotIn i o (jdF ty td):=by
 intro bF s σ H Q I h;refine thn (hi bF s σ H _ I h) λiv s1 ⟨y,H1,I1,ry,q1⟩=>thn (ho bF s1 σ H1 _ I1 q1) λu s2 bH=>?_
 obtain⟨x,H2,I2,rx,a,ov,ex,g,q2⟩:=bH
 subst ex;obtain rfl:u=Value.ref a:=rx;exact jlf hu I2 g ry λs3 I3=>⟨.bl (!ov.isSome),H2,I3,rfl,q2⟩
theorem Ux (hu:X.A.units+1<cLine)(ho:PE X o td)(hi:PE X i ty)(hv:PE X value tv)(hs:swapsWith value (some (.Subscript o i cO)) pos.line X.env=pure false) :
  PS X (.Assign [.Subscript o i cO] value pos) (jpG td ty tv):=by
 intro bF s σ H D I h;refine wpAny_Assign_Subscript (thn (hv bF s σ H _ I h) λr s1 ⟨v,H1,I1,rv,q1⟩=>thn (ho bF s1 σ H1 _ I1 q1) λu s2 ⟨x,H2,I2,rx,q2⟩=>thn (hi bF s2 σ H2 _ I2 q2) λiv s3 bH=>?_) hs
 obtain⟨y,H3,I3,ry,a,H4,ex,g,q3⟩:=bH
 subst ex;obtain rfl:u=Value.ref a:=rx;exact jgr hu I3 g ry rv λs4 I4=>⟨σ,H4,I4,q3⟩
end
theorem jiL {P:Program}{w:World}{H:Hp}(h:Heap)(hb:sysModules<h.objs.size):yl P w H (h.push { cls:=.type "dict",data:=.dict #[] }) h.objs.size (.dT []):=
 ⟨zero_le _,beq_eq_false_iff_ne.mpr (Ne.symm (ne_of_lt hb)),[],.nil,_,#[],0,get?_push_size _ rfl,⟨rfl,rfl,rfl⟩,rfl,rfl,nodup_nil⟩
def jms:TE:=λ_ H Q=>∀p,H p=none->Q (.ref p) (upd H p (.dT []))
section
variable {X:Cx}{pos:Pos}
theorem jhP:PE X (.Dict [] [] pos) jms:=λbF s σ H Q I h=>
 wpAny_Dict_empty ⟨.ref s.heap.objs.size,_,I.laid (a:=s.heap.objs.size) (o:=.dT []) (t':=s.toks) (λ_ _ q=>get?_push_of_some _ q) (le_refl _) (jiL s.heap I.big),rfl,h _ (I.hok.fresh (le_refl _))⟩
end
structure M1 (X:Cx)(o:Expr)(m:Str)(apos:Pos)(e:Expr)(bQ:Pos):Prop where
 base:attributeBase o m X.env (eval o X.env)=eval o X.env
 few:((backTo bQ (starEach [e] X.env)).all (λx=>!x.1) && (backToKw bQ (keywordEach [] X.env)).all (λx=>x.1.isSome)
  && decide (([e]:List Expr).length+([]:List Keyword).length+(if([]:List Keyword).isEmpty then 0 else 1)<30))=true
 line:(apos.endLine==bQ.line)=true
 trees:backTo bQ (starEach [e] X.env)=[(false,eval e X.env)]
structure M2 (X:Cx)(o:Expr)(m:Str)(apos:Pos)(e f:Expr)(bQ:Pos):Prop where
 base:attributeBase o m X.env (eval o X.env)=eval o X.env
 few:((backTo bQ (starEach [e,f] X.env)).all (λx=>!x.1) && (backToKw bQ (keywordEach [] X.env)).all (λx=>x.1.isSome)
  && decide (([e,f]:List Expr).length+([]:List Keyword).length+(if([]:List Keyword).isEmpty then 0 else 1)<30))=true
 line:(apos.endLine==bQ.line)=true
 trees:backTo bQ (starEach [e,f] X.env)=[(false,eval e X.env),(false,eval f X.env)]
def IsD (H:Hp)(a:Addr):Prop:=(∃kvs,Rd H a (.dK kvs))\/∃kvs,Rd H a (.dT kvs)
theorem jcJ {X:Cx}{bF:tP0}{σ:St}{H:Hp}{s:Shared}{a:Addr}(I:Inv X bF σ H s)(d:IsD H a) :
  s.TypeIs (.ref a) "dict"/\(∀b,Value.ref a= .ref b->∃ob,s.heap.get? b=some ob/\ob.dict=none)/\(a==sysModules)=false:=by
 rcases d with⟨kvs,e⟩|⟨kvs,e⟩
 ·obtain⟨_,hd,vs,_,dd⟩:=jeJ I.hok e
  refine⟨dd.typeIs,λb q=>?_,hd⟩
  cases q
  obtain⟨ob,_,_,h1,h2,_⟩:=dd
  exact⟨ob,h1,h2.2.1⟩
 ·obtain⟨_,hd,xs,_,dd⟩:=jbt I.hok e
  refine⟨dd.typeIs,λb q=>?_,hd⟩
  cases q
  obtain⟨ob,_,_,h1,h2,_⟩:=dd
  exact⟨ob,h1,h2.2.1⟩
section
variable {X:Cx}{bF:tP0}{σ:St}{H:Hp}{s:Shared}{a:Addr}{y d:V}{u r:Value}{o:Option V}{A:Around}{E:tE0}
theorem joQ {Q:tE0}(hu:A.units+1<cLine)(I:Inv X bF σ H s)(g:jdx H a y o)(ry:RelV y u)(rd:RelV d r)(h:∀w' s',Inv X bF σ H s'->RelV (o.getD d) w'->Q w' s') :
  wpAny (model X.prog X.w) A (call (.builtin "dict.get") [.ref a,u,r]) Q E s:=by
 rcases g with⟨kvs,k,e,ey,l⟩|⟨kvs,k,b,e,ey,eb,l⟩
 ·subst ey
  obtain⟨z,hd,vs,rel,dd⟩:=jeJ I.hok e
  refine call_meetsIn PySem.F.slot_dict_get dd.typeIs PySem.F.entry_dict_get (PySem.F.args_dict_get_3 _ _ _) (meets_dict_get_default (ye X.prog X.w) a (jez ry) hd r) ⟨_,dd.mapOf,h _ _ (I.tok _) ?_⟩;rw[l]
  exact(rel.val k).getD rd
 ·subst ey;cases (show u=Value.ref b from ry)
  obtain⟨z,hd,xs,rel,dd⟩:=jbt I.hok e
  refine call_meetsIn PySem.F.slot_dict_get dd.typeIs PySem.F.entry_dict_get (PySem.F.args_dict_get_3 _ _ _) (meetsH_dict_get_default (tupleKind (ye X.prog X.w)) a b hd r) ⟨tupleKind_room_in1 hu,k,xs,XA I.hok eb,dd,h _ _ (I.tok _) ?_⟩;rw[l]
  exact(rel.val k).getD rd
end
def jmt (td ty tx:TE):TE:=λσ H Q=>td σ H λx H1=>∃a,x= .ref a/\IsD H1 a/\ty σ H1 λy H2=>tx σ H2 λz H3=>∃o,jdx H3 a y o/\Q (o.getD z) H3
section
variable {X:Cx}{o e f:Expr}{apos bQ:Pos}{td ty tx:TE}
theorem jhQ (hu:X.A.units+1<cLine)(ho:PE X o td)(he:PE X e ty)(hf:PE X f tx)(m:M2 X o "get" apos e f bQ):PE X (.Call (.Attribute o "get" apos) [e,f] [] bQ) (jmt td ty tx):=by
 intro bF s σ H Q I h;refine wpAny_Call_method m.base m.few m.line PySem.F.plainAttrs_dict PySem.F.slot_dict_get PySem.F.type_dict_get (thn (ho bF s σ H _ I h) λu s1 bH=>?_)
 obtain⟨x,H1,I1,rx,a,ex,d,q1⟩:=bH
 subst ex;obtain rfl:u=Value.ref a:=rx
 obtain⟨t1,t2,_⟩:=jcJ I1 d
 refine⟨t1,t2,?_⟩
 rw[m.trees];refine Calls.callWith_builtin rfl (Calls.evalArgs_plain (Calls.spliced_cons (thn (he bF s1 σ H1 _ I1 q1) λiv s2 ⟨y,H2,I2,ry,q2⟩=>
  Calls.spliced_cons (thn (hf bF s2 σ H2 _ I2 q2) λfv s3 ⟨z,H3,I3,rz,ov,g,q3⟩=>Calls.spliced_nil ?_))))
 exact joQ hu I3 g ry rz λw' s4 I4 ig=>⟨_,H3,I4,ig,q3⟩
end
theorem Inv.aC {X:Cx}{bF:tP0}{σ:St}{H:Hp}{s:Shared}{h':Heap}{t':Nat}{ch:List Addr}(I:Inv X bF σ H s)(k:∀b o,b∉ch->s.heap.get? b=some o->h'.get? b=some o)(f:∀b∈ch,xb X bF H b) :
  Inv X bF σ H { s with heap:=h',toks:=t' }:=by
 have ne:∀b u c,H b=some u->c∈ch->b≠c:=λb u c q hc z=>by rw[z,(f c hc).1]at q;cases q
 refine I.step (g':=s.gens) (d':=s.drawn) (ch:=ch) (λb hb=>?_) (λb o _ _ hc q _=>k b o hc q) (λb o _ _ hc q _=>⟨o.slots,k b o hc q⟩) (λ_ _ _ _ n=>n)
  (λb o hc q=>⟨o,k b o hc q⟩) (λ_ _ q=>q) (λ_ _ _ q=>q) (λb ps q=>⟨#[],by rw[q];simp⟩) (λm hm=>?_) (λb u q=>?_) I.bare
 ·exact⟨(f b hb).2.2.2.1,(f b hb).2.1,(f b hb).2.2.2.2.1,(f b hb).2.2.2.2.2⟩
 ·obtain⟨o,es,ep,ho,r⟩:=hm
  exact⟨o,es,ep,k _ o (λhc=>(f _ hc).2.1 rfl) ho,r⟩
 ·refine(I.hok b u q).az (λc v hc z=>k c v (λhm=>?_) z) (λ_ z=>z) λ_ _ z=>z
  rcases hc with y|y
  ·exact ne b u c q hm y.symm
  ·exact ne c _ c y hm rfl
def Itz (K:Frag)(a b:Addr):It:=
 ⟨λi H=>∃xs ys x y,SqL K H a xs/\SqL K H b ys/\xs[i]?= some x/\ys[i]?= some y,λi H x H'=>∃p u v,x= .ref p/\H p=none/\(∀xs,SqL K H a xs->xs[i]?= some u)/\(∀ys,SqL K H b ys->ys[i]?= some v)/\H'=upd H p (.tup [u,v]),
  λi H=>∃xs ys,SqL K H a xs/\SqL K H b ys/\(xs.length<=i\/ys.length<=i)⟩
theorem jgM {P:Program}{w:World}{K:Frag}{cX:List Expr}{x1:Nat}{pos:Pos}(a b z TI TO i1 i2:Addr)(D:ZipApart z TI TO i1 i2 a b) :
  Turn P w K (.Tuple cX x1 pos) (Itz K a b) [z,TO,i1,i2,TI] z (λi h=>IsZip h z TI TO .none/\IsPair h TI (.ref i1) (.ref i2)/\(∃u v,IsPair h TO u v)/\h.IsListIter i1 a i/\h.IsListIter i2 b i) where
 mem:=by simp
 obj:=λi h st c hc=>by
  obtain⟨hz,ht,⟨u,v,ho⟩,⟨o1,q1,_,d1⟩,⟨o2,q2,_,d2⟩⟩:=st
  simp only[mem_cons,mem_nil_iff,or_false]at hc;rcases hc with rfl|rfl|rfl|rfl|rfl
  ·exact⟨_,hz,λv e=>by have e:Data.fields _=Data.cell v:=e;cases e⟩
  ·exact⟨_,ho,λv e=>by have e:Data.seq _=Data.cell v:=e;cases e⟩
  ·exact⟨o1,q1,λv e=>by rw[d1]at e;cases e⟩
  ·exact⟨o2,q2,λv e=>by rw[d2]at e;cases e⟩
  ·exact⟨_,ht,λv e=>by have e:Data.seq _=Data.cell v:=e;cases e⟩
 keep:=λi h h' st k=>by
  obtain⟨hz,ht,⟨u,v,ho⟩,q1,q2⟩:=st
  exact⟨k z (by simp) _ hz,k TI (by simp) _ ht,⟨u,v,k TO (by simp) _ ho⟩,q1.at λo q=>k i1 (by simp) o q,q2.at λo q=>k i2 (by simp) o q⟩
 item:=by
  intro X hP hw hK hc i bF s σ H E I hf st hg;subst hP hw hK
  obtain⟨hz,ht,⟨u0,v0,ho⟩,q1,q2⟩:=st
  obtain⟨xs,ys,x,y,ha,hb,hx,hy⟩:=hg
  obtain⟨i1s,r1,p1,_⟩:=I.list ha
  obtain⟨i2s,r2,p2,_⟩:=I.list hb
  obtain⟨u,hu,ru⟩:=r1.get hx
  obtain⟨v,hv,rv⟩:=r2.get hy
  refine wpAny_pyNext_zip_item D hz ht ho q1 q2 p1.isList p2.isList (x:=u) (y:=v) (by simpa using hu) (by simpa using hv) λh' z1 o1 j1 j2 tup sz keep=>?_
  refine⟨_,rfl,wpAny_letOwnedTupleGo_zip (s:={ s with heap:=h' }) z1 λh2 z2 sb=>?_⟩
  have fz:=hf z (by simp);have lt:∀c,(∃o,s.heap.get? c=some o)->s.heap.objs.size≠c:=λc hc e=>by
   obtain⟨o,ho⟩:=hc
   have:=lt_size ho
   rw[<-e]at this;exact lt_irrefl _ this
  have n1:s.heap.objs.size≠z:=lt _ ⟨_,hz⟩;have jbc:∀c o,c∉[z,TO,i1,i2]->s.heap.get? c=some o->h2.get? c=some o:=λc o hn q=>by
   simp only[mem_cons,mem_nil_iff,or_false,not_or]at hn
   exact(sb.2 c hn.1).trans (keep c o hn.1 hn.2.1 hn.2.2.1 hn.2.2.2 q)
  have I1:Inv X bF σ H { s with heap:=h2 }:=I.aC (t':=s.toks) (ch:=[z,TO,i1,i2]) jbc λc hc=>hf c (by
   simp only[mem_cons,mem_nil_iff,or_false]at hc ⊢;rcases hc with h|h|h|h
   ·exact .inl h
   ·exact .inr (.inl h)
   ·exact .inr (.inr (.inl h))
   ·exact .inr (.inr (.inr (.inl h))))
  have fresh:H s.heap.objs.size=none:=I.hok.fresh (le_refl _);have fp:=I.au (le_refl _) fresh;have ib:h2.get? s.heap.objs.size=some { cls:=.type "tuple",data:=.seq #[u,v] }:=(sb.2 _ n1).trans tup
  refine⟨.ref s.heap.objs.size,upd H s.heap.objs.size (.tup [x,y]),I1.aY fp.np ⟨by show 2<=sizeLine;decide,[u,v],.cons ru (.cons rv .nil),⟨_,ib,rfl,_,rfl⟩⟩,rfl,⟨_,x,y,rfl,fresh,λzs h=>by rw[I.av h ha];exact hx,λzs h=>by rw[I.av h hb];exact hy,rfl⟩,
   ⟨z2,(sb.2 _ D.TIz).trans (keep _ _ D.TIz D.TITO D.TIi1 D.TIi2 ht),⟨u,v,(sb.2 _ D.TOz).trans o1⟩,j1.at λo q=>(sb.2 _ D.i1z).trans q,j2.at λo q=>(sb.2 _ D.i2z).trans q⟩,λc hc=>?_⟩
  have:s.heap.objs.size≠c:=by
   simp only[mem_cons,mem_nil_iff,or_false]at hc;rcases hc with rfl|rfl|rfl|rfl|rfl
   ·exact n1
   ·exact lt _ ⟨_,ho⟩
   ·exact lt _ (let ⟨o,q,_⟩:=q1;⟨o,q⟩)
   ·exact lt _ (let ⟨o,q,_⟩:=q2;⟨o,q⟩)
   ·exact lt _ ⟨_,ht⟩
  rw[jk (Ne.symm this)]
  exact(hf c hc).1
 done:=by
  intro X hP hw hK hc i bF s σ H E I hf st hg;subst hP hw hK
  obtain⟨hz,ht,⟨u0,v0,ho⟩,q1,q2⟩:=st
  obtain⟨xs,ys,ha,hb,hx⟩:=hg
  obtain⟨i1s,r1,p1,_⟩:=I.list ha
  obtain⟨i2s,r2,p2,_⟩:=I.list hb
  have l1:=r1.length;have l2:=r2.length;refine wpAny_pyNext_zip_end (I.ok.hd hc) D hz ht ho q1 q2 p1.isList p2.isList (by
   rcases hx with h|h
   ·exact .inl (by simp;omega)
   ·exact .inr (by simp;omega)) λh' keep=>⟨rfl,I.aC (t':=s.toks) (ch:=[z,TO,i1,i2]) (λc o hn q=>?_) λc hc=>hf c ?_⟩
  ·simp only[mem_cons,mem_nil_iff,or_false,not_or]at hn;exact keep c o hn.1 hn.2.1 hn.2.2.1 hn.2.2.2 q
  ·simp only[mem_cons,mem_nil_iff,or_false]at hc ⊢;rcases hc with h|h|h|h
   ·exact .inl h
   ·exact .inr (.inl h)
   ·exact .inr (.inr (.inl h))
   ·exact .inr (.inr (.inr (.inl h)))
 self:=λ_ _ _ _ _ st h=>wpAny_pyIter_zip st.1 h
section
variable {X:Cx}{cX:List Expr}{x1:Nat}{dS:Pos}
theorem jfw (n a b:Nat)(la:a<n)(lb:b<n):ZipApart (n+4) (n+2) (n+3) n (n+1) a b:=by
 constructor <;> (intro e;have e:(_:Nat)=(_:Nat):=e;omega)
theorem joW:bootBuiltins "zip" = some (.type "zip"):=by decide +kernel
theorem jfv {bF:tP0}{σ:St}{H1:Hp}{s1:Shared}{R:It->Hp->Prop}{a b:Addr}{xs ys:List V}(I1:Inv X bF σ H1 s1)(hx:SqL X.K H1 a xs)(hy:SqL X.K H1 b ys)(q:R (Itz X.K a b) H1) :
  wpAny (model X.prog X.w) X.A (call (.type "zip") [.ref a,.ref b]) (λv s2=>wpAny (model X.prog X.w) X.A (pyIter v) (PIE X bF σ (.Tuple cX x1 dS) R) X.xe s2) X.xe s1:=by
 obtain⟨is1,_,p1,_⟩:=I1.list hx
 obtain⟨is2,_,p2,_⟩:=I1.list hy
 have la:a<s1.heap.objs.size:=let ⟨o,q,_⟩:=p1.isList;lt_size q;have lb:b<s1.heap.objs.size:=let ⟨o,q,_⟩:=p2.isList;lt_size q;refine call_zip_2 p1.isList p2.isList λh' z ti to j1 j2 sz keep=>?_;refine wpAny_pyIter_zip z ?_;have D:ZipApart (s1.heap.objs.size+4) (s1.heap.objs.size+2) (s1.heap.objs.size+3) s1.heap.objs.size (s1.heap.objs.size+1) a b:=jfw _ _ _ la lb
 refine⟨s1.heap.objs.size+4,_,_,_,H1,rfl,I1.kept (t':=s1.toks) keep,jgM a b _ _ _ _ _ D,⟨z,ti,⟨_,_,to⟩,j1,j2⟩,λc hc=>?_,q⟩
 have:s1.heap.objs.size<=c:=by
  simp only[mem_cons,mem_nil_iff,or_false]at hc;rcases hc with rfl|rfl|rfl|rfl|rfl
  ·exact le_add_right _ _
  ·exact le_add_right _ _
  ·exact le_refl _
  ·exact le_add_right _ _
  ·exact le_add_right _ _
 exact I1.au this (I1.hok.fresh this)
end
section
variable {prog:Program}{w:World}{A:Around}{E:tE0}{s:Shared}
theorem jgb {it tu:Addr}{i:Nat}{its:Array Value}{Q:tE0}(nh:A.handled=none)(hI:s.heap.IsTupleIter it tu i)(hU:s.heap.IsTuple tu its)(hn:its[i]?= none)(go:∀h' e,ExtBut it s.heap h'->(∃o,h'.get? e=some o/\o.cls= .type "StopIteration")->E (.ref e) { s with heap:=h' }):wpAny (model prog w) A (Builtin.SmallTypes.nextOf (.ref it)) Q E s:=by
 obtain⟨oi,h9,hci,g9⟩:=id hI;obtain⟨ou,hou,_,nu,hdu⟩:=hU;unfold Builtin.SmallTypes.nextOf
 refine wpAny_bind (wpAny_callSpecial?_slot (name:=Str.ofString "__next__") hI.typeIs F.slot_tuple_iterator_next (wpAny_call_entry F.slot_tuple_iterator_next hI.typeIs F.entry_tuple_iterator_next ?_ (F.args_tuple_iterator_next_1 _)));show wpAny _ _ (field (.ref it) 0 >>= _) _ _ s;refine wpAny_bind (wpAny_field h9 g9 (x:=.ref tu) rfl ?_);show wpAny _ _ (if(Value.ref tu==Value.none)=true then _ else _) _ _ s;rw[if_neg (show ¬((Value.ref tu==Value.none)=true)from Bool.false_ne_true)];show wpAny _ _ (field (.ref it) 1 >>= _) _ _ s;refine wpAny_bind (wpAny_field h9 g9 (x:=.int i 0) rfl ?_);show wpAny _ _ (seqItems? (.ref tu) >>= _) _ _ s;refine wpAny_bind (wpAny_seqItems hou hdu ?_);simp only[Int.toNat_natCast,hn];refine wpAny_bind (wpAny_rule (wpAny_bind (wpAny_setField h9 g9 (by simp) ?_)));show wpAny _ _ (newExc (.type "StopIteration") [] >>= _) _ _ _;refine wpAny_bind ?_;simp only[newExc,newTuple];refine wpAny_bind (wpAny_newObj_type ?_ (by size_fits))
 refine wpAny_bind (m:=firstArgMember _ _) (wpAny_of_eq (a:=Value.none) (by first|rfl|(simp only[firstArgMember];rfl)) ?_);refine wpAny_newObj_type ?_ (by size_fits);simp only[raiseNew];refine wpAny_bind (wpAny_handled ?_);first|rw[show A.in1.handled=none from nh]|rw[nh]
 refine wpAny_bind (wpAny_pure (wpAny_throw ?_));exact go _ _ (((Heap.SameBut.update ..).extBut.push _).push _) ⟨_,get?_push_size _ rfl,rfl⟩
theorem jgG {z TI TO i1 i2 t1:Addr}{i:Nat}{a b:Value}{xs:Array Value}{Q:Option Value->Shared->Prop}(nh:A.handled=none)(n1:i1≠z)(n2:t1≠z)(n3:t1≠i1)(hz:IsZip s.heap z TI TO .none) (hTI:IsPair s.heap TI (.ref i1) (.ref i2)) (hTO:IsPair s.heap TO a b) (h1:s.heap.IsTupleIter i1 t1 i) (hl1:s.heap.IsTuple t1 xs) (he:xs[i]?= none)(go:∀h',(∀c o,c≠z->c≠i1->s.heap.get? c=some o->h'.get? c=some o)->Q none { s with heap:=h' }):wpAny (model prog w) A (pyNext (.ref z)) Q E s:=by
 have hT:s.TypeIs (.ref z) "zip":=⟨_,hz,rfl⟩
 unfold pyNext;refine wpAny_bind (wpAny_attempt (wpAny_callSpecial?_slot (name:=Str.ofString "__next__") hT F.slot_zip_next (wpAny_call_entry F.slot_zip_next hT F.entry_zip_next ?_ (F.args_zip_next_1 _))));show wpAny _ _ (field (.ref z) 2 >>= _) _ _ _;refine wpAny_bind (wpAny_field hz rfl (x:=.bool false) rfl ?_);show wpAny _ _ (field (.ref z) 3 >>= _) _ _ _;refine wpAny_bind (wpAny_field hz rfl (x:=.ref TI) rfl ?_);refine wpAny_bind (wpAny_seqItems hTI rfl ?_);show wpAny _ _ (Builtin.SmallTypes.ownedTupleIsFree (.ref z) >>= _) _ _ _;refine wpAny_bind ?_;unfold Builtin.SmallTypes.ownedTupleIsFree;refine wpAny_bind (wpAny_field hz rfl (x:=.none) rfl (wpAny_pure ?_));simp only[if_true];refine wpAny_bind (wpAny_rule ?_);refine wpAny_bind (wpAny_field hz rfl (x:=.ref TO) rfl ?_);refine wpAny_bind (wpAny_setField_rec hz (by simp) λhA zA sA=>?_)
 replace zA:IsZip hA z TI TO .ellipsis:=zA
 refine wpAny_bind ?_;simp only[List.zipIdx_cons,List.zipIdx_nil,List.forIn_cons,List.forIn_nil];refine wpAny_bind (wpAny_bind (wpAny_onRaise ?_));show wpAny _ _ (Builtin.SmallTypes.nextOf (.ref i1) >>= _) _ _ _;refine wpAny_bind (jgb (its:=xs) nh (h1.extBut sA.extBut n1) (hl1.extBut sA.extBut n2) he λhB e sB iL=>?_)
 obtain⟨oe,lO,hce⟩:=iL
 have zB:IsZip hB z TI TO .ellipsis:=sB _ _ n1.symm zA;have hez:e≠z:=λx=>by subst x;rw[zB]at lO;cases lO;simp at hce
 refine wpAny_setField_rec zB (by simp) λhC _ sC=>?_;refine wpAny_bind (wpAny_isInstance (T:="StopIteration") (b:=true) ⟨oe,sC.extBut _ _ hez lO,hce⟩ isSubtype_stop ?_);exact wpAny_pure (go _ λc o c1 c2 q=>sC.extBut _ _ c1 (sB _ _ c2 (sA.extBut _ _ c1 q)))
abbrev zT1 (h:Heap)(t:Addr):Heap:=h.push { cls:=.type "tuple_iterator",data:=.fields #[.ref t,.int 0 0] }
abbrev zT3 (h:Heap)(t u:Addr):Heap:=(zT1 (zT1 h t) u).push { cls:=.type "tuple",data:=.seq #[.ref h.objs.size,.ref (zT1 h t).objs.size] }
abbrev zT4 (h:Heap)(t u:Addr):Heap:=(zT3 h t u).push { cls:=.type "tuple",data:=.seq #[.none,.none] }
abbrev zT5 (h:Heap)(t u:Addr):Heap:=(zT4 h t u).push { cls:=.type "zip",data:=.fields #[.none,.bool false,.bool false,.ref (zT1 (zT1 h t) u).objs.size,.ref (zT3 h t u).objs.size] }
theorem jcA (t u:Addr)(xs ys:Array Value) :
  Meets (Builtin.«zip.__new__» ⟨[.type "zip",.ref t,.ref u],[]⟩) (λ_ R s=>s.heap.IsTuple t xs/\s.heap.IsTuple u ys/\R (.ok (.ret (.ref (zT4 s.heap t u).objs.size))) { s with heap:=zT5 s.heap t u }):=
 .of_wp λprog w A R s h=>by
  obtain⟨hp,g,d,tk,os⟩:=s;obtain⟨q1,q2,h⟩:=h
  have hsub:=sub_zip;have hL1:Heap.IsTuple (Shared.heap ⟨hp,g,d,tk,os⟩) t xs:=q1;have hL2:Heap.IsTuple (Shared.heap ⟨hp.push { cls:=.type "tuple_iterator",data:=.fields #[.ref t,.int 0 0] },g,d,tk,os⟩) u ys:=Heap.IsTuple.push q2 _
  wp_walk using wpAny_pyIter_tuple hL1,wpAny_pyIter_tuple hL2
  exact⟨_,rfl,h⟩
theorem jgv {t u:Addr}{xs ys:Array Value}{Q:tE0}(q1:s.heap.IsTuple t xs)(q2:s.heap.IsTuple u ys)(h:∀h',IsZip h' (s.heap.objs.size+4) (s.heap.objs.size+2) (s.heap.objs.size+3) .none->IsPair h' (s.heap.objs.size+2) (.ref s.heap.objs.size) (.ref (s.heap.objs.size+1))->IsPair h' (s.heap.objs.size+3) .none .none->
   h'.IsTupleIter s.heap.objs.size t 0->h'.IsTupleIter (s.heap.objs.size+1) u 0->(∀c o,s.heap.get? c=some o->h'.get? c=some o)->Q (.ref (s.heap.objs.size+4)) { s with heap:=h' }) :
  wpAny (model prog w) A (call (.type "zip") [.ref t,.ref u]) Q E s:=by
 refine callType_new F.called_zip (by decide) (F.typeCall_zip_2 _ _) (F.newCall_zip_2 _ _) (λobj=>F.args_object_init_3 obj _ _) F.entry_zip_new (jcA t u xs ys) ⟨q1,q2,?_⟩;have z1:(zT1 s.heap t).objs.size=s.heap.objs.size+1:=size_push ..;have z2:(zT1 (zT1 s.heap t) u).objs.size=s.heap.objs.size+2:=by rw[size_push,z1]
 have z3:(zT3 s.heap t u).objs.size=s.heap.objs.size+3:=by rw[size_push,z2]
 have z4:(zT4 s.heap t u).objs.size=s.heap.objs.size+4:=by rw[size_push,z3]
 have up:∀c o,(zT3 s.heap t u).get? c=some o->(zT5 s.heap t u).get? c=some o:=λc o q=>get?_push_of_some _ (get?_push_of_some _ q);have g5:(zT5 s.heap t u).get? (zT4 s.heap t u).objs.size=some _:=get?_push_size _ rfl;have g4:(zT5 s.heap t u).get? (zT3 s.heap t u).objs.size=some _:=get?_push_of_some _ (get?_push_size _ rfl);have g3:(zT5 s.heap t u).get? (zT1 (zT1 s.heap t) u).objs.size=some _:=up _ _ (get?_push_size _ rfl);have g2:(zT5 s.heap t u).get? (zT1 s.heap t).objs.size=some _:=up _ _ (get?_push_of_some _ (get?_push_size _ rfl));have g1:(zT5 s.heap t u).get? s.heap.objs.size=some _:=up _ _ (get?_push_of_some _ (get?_push_of_some _ (get?_push_size _ rfl)));show _/\_;rw[z2,z3,z4]at g5;rw[z1,z2]at g3;rw[z3]at g4;rw[z1]at g2;rw[z4]
 exact⟨⟨_,g5,rfl⟩,h _ g5 g3 g4 ⟨_,g1,rfl,rfl⟩ ⟨_,g2,rfl,rfl⟩ λc o x=>up _ _ (get?_push_of_some _ (get?_push_of_some _ (get?_push_of_some _ x)))⟩
end
def jph (K:Frag)(a:Addr):It:=⟨λ_ _=>False,λ_ _ _ _=>False,λ_ H=>SqT K H a []⟩
theorem jfA {P:Program}{w:World}{K:Frag}{tg:Expr}(a z TI TO i1 i2:Addr)(n1:i1≠z)(n2:a≠z)(n3:a≠i1) :
  Turn P w K tg (jph K a) [z,TO,i1,TI] z (λi h=>IsZip h z TI TO .none/\IsPair h TI (.ref i1) (.ref i2)/\IsPair h TO .none .none/\h.IsTupleIter i1 a i) where
 mem:=by simp
 obj:=λi h st c hc=>by
  obtain⟨hz,ht,ho,⟨o1,q1,_,d1⟩⟩:=st
  simp only[mem_cons,mem_nil_iff,or_false]at hc;rcases hc with rfl|rfl|rfl|rfl
  ·exact⟨_,hz,λv e=>by have e:Data.fields _=Data.cell v:=e;cases e⟩
  ·exact⟨_,ho,λv e=>by have e:Data.seq _=Data.cell v:=e;cases e⟩
  ·exact⟨o1,q1,λv e=>by rw[d1]at e;cases e⟩
  ·exact⟨_,ht,λv e=>by have e:Data.seq _=Data.cell v:=e;cases e⟩
 keep:=λi h h' st k=>by
  obtain⟨hz,ht,ho,⟨o1,q1,r⟩⟩:=st
  exact⟨k z (by simp) _ hz,k TI (by simp) _ ht,k TO (by simp) _ ho,⟨o1,k i1 (by simp) _ q1,r⟩⟩
 item:=λ_ _ _ _ _ _ _ _ _ _ _ _ _ _ hg=>hg.elim
 done:=by
  intro X hP hw hK hc i bF s σ H E I hf st hg;subst hP hw hK
  obtain⟨hz,ht,ho,q1⟩:=st
  obtain⟨its,r1,p1,_⟩:=I.tuple hg
  have l1:=r1.length;refine jgG (xs:=its.toArray) (I.ok.hd hc) n1 n2 n3 hz ht ho q1 p1 (by have:its=[]:=List.length_eq_zero_iff.mp l1.symm;subst this;simp) λh' keep=>⟨rfl,I.aC (t':=s.toks) (ch:=[z,i1]) (λc o hn q=>?_) λc hc=>hf c ?_⟩
  ·simp only[mem_cons,mem_nil_iff,or_false,not_or]at hn;exact keep c o hn.1 hn.2 q
  ·simp only[mem_cons,mem_nil_iff,or_false]at hc ⊢;rcases hc with h|h
   ·exact .inl h
   ·exact .inr (.inr (.inl h))
 self:=λ_ _ _ _ _ st h=>wpAny_pyIter_zip st.1 h
section
variable {X:Cx}{cX:List Expr}{x1:Nat}{dS:Pos}
theorem jgF {tg:Expr}{bF:tP0}{σ:St}{H1:Hp}{s1:Shared}{R:It->Hp->Prop}{a b:Addr}{ys:List V}(I1:Inv X bF σ H1 s1)(hx:SqT X.K H1 a [])(hy:SqT X.K H1 b ys)(q:R (jph X.K a) H1) :
  wpAny (model X.prog X.w) X.A (call (.type "zip") [.ref a,.ref b]) (λv s2=>wpAny (model X.prog X.w) X.A (pyIter v) (PIE X bF σ tg R) X.xe s2) X.xe s1:=by
 obtain⟨is1,_,p1,_⟩:=I1.tuple hx
 obtain⟨is2,_,p2,_⟩:=I1.tuple hy
 have p1:s1.heap.IsTuple a is1.toArray:=p1;have p2:s1.heap.IsTuple b is2.toArray:=p2;have la:a<s1.heap.objs.size:=let ⟨o,q,_⟩:=p1;lt_size q;refine jgv p1 p2 λh' z ti to j1 j2 keep=>?_;refine wpAny_pyIter_zip z ?_;have n1:s1.heap.objs.size≠s1.heap.objs.size+4:=ne_of_lt (Nat.lt_add_of_pos_right (by decide));have n2:a≠s1.heap.objs.size+4:=ne_of_lt (lt_of_lt_of_le la (le_add_right _ _))
 refine⟨s1.heap.objs.size+4,_,_,_,H1,rfl,I1.kept (t':=s1.toks) keep,jfA a _ _ _ s1.heap.objs.size (s1.heap.objs.size+1) n1 n2 (ne_of_lt la),⟨z,ti,to,j1⟩,λc hc=>?_,q⟩
 have:s1.heap.objs.size<=c:=by
  simp only[mem_cons,mem_nil_iff,or_false]at hc;rcases hc with rfl|rfl|rfl|rfl
  ·exact le_add_right _ _
  ·exact le_add_right _ _
  ·exact le_refl _
  ·exact le_add_right _ _
 exact I1.au this (I1.hok.fresh this)
def jrp (K:Frag)(ta:TA):TI:=λσ H R=>ta σ H λvs H1=>∃a b,vs=[.ref a,.ref b]/\(((∃xs,SqL K H1 a xs)/\(∃ys,SqL K H1 b ys)/\R (Itz K a b) H1)\/(SqT K H1 a []/\(∃ys,SqT K H1 b ys)/\R (jph K a) H1))
theorem jnm {l m:Expr}{ta:TA}{p pos:Pos}(hg:Gl X "zip")(hm:X.mg "zip" = none)(ha:PA X [l,m] ta)(hs:starEach [l,m] X.env=(false,eval l X.env)::starEach [m] X.env:=by rfl)(cY:starEach [m] X.env=[(false,eval m X.env)]:=by rfl):PI X (.Tuple cX x1 dS) (.Call (.Name "zip" p) [l,m] [] pos) (jrp X.K ta):=by
 intro bF s σ H R I h;refine Call_ (JX I hg hm joW (PyProof.Rows.callWith_type1 (thn (ha pos bF s σ H _ I h) λus s1 bH=>?_) hs (by rw[cY];rfl)))
 obtain⟨vs,H1,I1,r1,q1⟩:=bH
 obtain⟨a,b,e,q⟩:=q1
 subst e
 obtain⟨u,v,rfl,ru,rv⟩:=yg.two r1
 cases ru;cases rv;rcases q with⟨⟨xs,hx⟩,⟨ys,hy⟩,q⟩|⟨hx,⟨ys,hy⟩,q⟩
 ·exact jfv I1 hx hy q
 ·exact jgF I1 hx hy q
end
end L2
namespace HT
open PySem PySem.Spec PyProof.Rows
section
variable {prog:Program}{w:World}{A:Around}{E:tE0}{s:Shared}
theorem getItem_tuple_all {t sl:Addr}{items:Array Value}{vl vu:Value}{lo hi:Option Int}{Q:tE0}(ht:IsTup s.heap t items)(hs:s.heap.IsSliceOf sl vl vu .none)(pl:IsPart vl lo)(pu:IsPart vu hi)(h0:sIx items.size 0 lo=0) (h1:sIx items.size items.size hi=items.size) (h:Q (.ref t) s):wpAny (model prog w) A (getItem (.ref t) (.ref sl)) Q E s:=by
 obtain⟨os,iB,k7,kB⟩:=id hs;have ma:s.TypeIs (.ref sl) "slice":=⟨os,iB,k7⟩
 unfold getItem;try with_reducible refine wpAny_holding ?_
 (first|refine wpAny_bind (wpAny_pure ?_)|skip);refine wpAny_bind (wpAny_sequenceKey ht.typeIs (by decide) ?_)
 refine wpAny_bind (wpAny_callSpecial?_slot (name:=Str.ofString "__getitem__") ht.typeIs PyProof.Rows.slot_tuple_getitem (wpAny_call_entry PyProof.Rows.slot_tuple_getitem ht.typeIs entry_tuple_getitem ?_ (args_tuple_getitem _ _)));show wpAny _ _ (Builtin.Tuple.tupleItemsOf (.ref t) >>= _) _ _ s;refine wpAny_bind (tupleItemsOf_ ht ?_);refine wpAny_bind (wpAny_typeOf ma ?_);rw[if_pos (by decide)];refine wpAny_bind (vi hs pl pu ?_);have hy:((((sIx items.size 0 lo:Nat):Int)==0 && (1:Int)==1 && (sIx items.size items.size hi-sIx items.size 0 lo)==items.size)=true):=by rw[h0,h1];simp
 show wpAny _ _ (if(((sIx items.size 0 lo:Nat):Int)==0 && (1:Int)==1 && (sIx items.size items.size hi-sIx items.size 0 lo)==items.size)=true then _ else _) _ _ s;rw[if_pos hy];refine wpAny_bind (m:=Builtin.Tuple.tupleIsExact _) ?_;unfold Builtin.Tuple.tupleIsExact;refine wpAny_bind (wpAny_typeOf ht.typeIs (wpAny_pure ?_));rw[if_pos (by decide)];exact wpAny_bind (wpAny_rule (wpAny_pure ⟨_,rfl,wpAny_pure h⟩))
end
end HT
namespace L2
open PySem PySem.Spec PyProof.Rows
section
variable {X:Cx}
def jrc (K:Frag):V->Option Int->Option Int->Hp->VK->Prop:=λx lo hi H Q=>∃a xs,x= .ref a/\SqT K H a xs/\(HT.sIx xs.length 0 lo=0/\HT.sIx xs.length xs.length hi=xs.length)/\Q (.ref a) H
theorem jjW:SlR X (jrc X.K):=by
 intro bF s σ H x v vl vu lo hi sl Q I rx hs pl pu h
 obtain⟨a,xs,rfl,hx,hw,q⟩:=h
 cases rx
 obtain⟨its,r,ht,hz⟩:=I.tuple hx
 have bM:its.toArray.size=xs.length:=by rw[size_toArray];exact r.length.symm
 exact⟨"tuple",_,PyProof.Rows.slot_tuple_getitem.lookup,ht.typeIs,HT.getItem_tuple_all ht hs pl pu (by rw[bM];exact hw.1) (by rw[bM];exact hw.2) ⟨.ref a,H,I,rfl,q⟩⟩
end
theorem Inv.aM {X:Cx}{bF:tP0}{σ:St}{H:Hp}{s:Shared}{a:Addr}{kvs:List (List Key×V)}(I:Inv X bF σ H s)(e:H a=some (.dT kvs)):∃o,Inv X bF σ (upd H a (.frz o (.dT kvs))) s:=by
 obtain⟨hl,hd,xs,rel,o,es,ep,ho,hx,dW,eX,nd⟩:=(show yl X.prog X.w H s.heap a (.dT kvs)from I.hok a _ e)
 refine⟨o,?_⟩
 have:=YR (h':=s.heap) (t':=s.toks) (ob:=.frz o (.dT kvs)) I (by rw[e];exact True.intro) ⟨rfl,λ_ _=>rfl⟩ ⟨o,ho⟩ ⟨ho,hl,hd,xs,KT.keeps rel λc ys ec=>?_,o,es,ep,ho,hx,dW,eX,nd⟩
 ·exact this
 ·rw[jk (jib ec e (λz=>nomatch z))];exact ec
theorem Paired.at {α β:Type}{F:α->β->Prop}{l₁:List α}{l₂:List β}(h:Paired F l₁ l₂):∀{i:Nat}{x:α},l₁[i]?= some x->∃y,l₂[i]?= some y/\F x y:=by
 induction h with
 |nil=>intro i x e;simp at e
 |cons r t ih=>
  intro i x e;cases i with
  |zero=>cases e;exact⟨_,rfl,r⟩
  |succ i=>exact ih (i:=i) e
abbrev NK:=Int×List Key
def jqf (w:World)(k:NK):Int:=reduceHash (Builtin.Tuple.tupleHashOf [joA w (.inl k.1),reduceHash (Builtin.Tuple.tupleHashOf (k.2.map (joA w)))])
def ndF (w:World)(d:Addr)(xs:List (NK×Addr×Value)):Heap->Prop:=λh=>(d==sysModules)=false/\xs.length<=sizeLine/\(xs.map (·.1)).Nodup /\
 ∃o es ep,h.get? d=some o/\o.ExactDict/\o.data= .dict es ep/\es.toList=xs.map λx=>⟨jqf w x.1,.ref x.2.1,x.2.2⟩
def ndO (w:World)(d:Addr)(xs:List (NK×Addr×Value)):HO:=.ext (ndF w d xs)
def jrH (K:Frag)(H:Hp)(k:NK)(b:Addr):Prop:=∃c,H b=some (.tup [.int k.1,.ref c])/\SqT K H c (k.2.map kV)
def jjI (a:Addr)(o:Obj)(kv vv:V):Prop:=o.ExactDict/\(a==sysModules)=false/\∃i ku vu ep,o.data= .dict #[⟨i,ku,vu⟩] ep/\RelV kv ku/\RelV vv vu
def odO (a:Addr)(o:Obj)(kv vv:V):HO:=.ext λh=>h.get? a=some o/\jjI a o kv vv
theorem Inv.odd {X:Cx}{bF:tP0}{σ:St}{H:Hp}{s:Shared}{a:Addr}{kv vv:V}{o:Obj}(I:Inv X bF σ H s)(e:H a=some (odO a o kv vv)):s.heap.get? a=some o/\jjI a o kv vv:=by
 obtain⟨p,_⟩:=(show yl X.prog X.w H s.heap a (odO a o kv vv)from I.hok a _ e)
 exact p
end L2
set_option maxHeartbeats 4000000
namespace L3
open PySem L2
inductive PV where
 |non|bl (b:Bool)|int (i:Int)|str (x:Str)|ty (n:String)
 |tup (xs:List PV)|lst (xs:List PV)
  |scr (ns:List Int)
  |top (k:Nat)
  |exn (k:Nat)
  |dct (kvs:List (List Int×Int))
  |dod (k v:PV)
  |ref (i:Nat)
inductive Cell where
 |lst (xs:List PV)
 |dct (kvs:List (List Int×Int))
 |ins (k:Nat) (fs:List (Str×PV))
 |dtv (l:List (List Int×PV))
 |dkv (l:List (Int×PV))
 |dsv (l:List (List Key×PV))
 |dnv (j:Nat) (l:List (NK×PV))
  |xd (fs:List (Str×PV))
structure Sto where
 n:Nat
 g:Nat->Option Cell
def Sto.set (M:Sto)(i:Nat)(c:Cell):Sto:=⟨M.n,λj=>if j=i then some c else M.g j⟩
def Sto.new (M:Sto)(c:Cell):Sto:=⟨M.n+1,λj=>if j=M.n then some c else M.g j⟩
def Sto.drop (M:Sto)(i:Nat):Sto:=⟨M.n,λj=>if j=i then none else M.g j⟩
theorem Sto.set_same {M:Sto}{i:Nat}{c:Cell}:(M.set i c).g i=some c:=if_pos rfl
theorem Sto.ab {M:Sto}{i j:Nat}{c:Cell}(h:j≠i):(M.set i c).g j=M.g j:=if_neg h
theorem Sto.af {M:Sto}{c:Cell}:(M.new c).g M.n=some c:=if_pos rfl
theorem Sto.ae {M:Sto}{j:Nat}{c:Cell}(h:j≠M.n):(M.new c).g j=M.g j:=if_neg h
structure Tb where
 K:Frag
 C:Nat->Addr
 w:World
structure Wd where
 T:Tb
 F:Hp
 α:Nat->Option Addr
 G:Hp
structure Wd.le0 (W W':Wd):Prop where
 k:W'.T=W.T
 f:∀a o,W.F a=some o->W'.F a=some o
 a:∀i a,W.α i=some a->W'.α i=some a
structure Wd.le (W W':Wd):Prop extends toLe0:Wd.le0 W W' where
 g:W'.G=W.G
theorem Wd.le0.trans {A B C:Wd}(h:A.le0 B)(k:B.le0 C):A.le0 C:=⟨k.k.trans h.k,λa o e=>k.f a o (h.f a o e),λi a e=>k.a i a (h.a i a e)⟩
theorem Wd.le.refl (W:Wd):W.le W:=⟨⟨rfl,λ_ _ e=>e,λ_ _ e=>e⟩,rfl⟩
theorem Wd.le.trans {A B C:Wd}(h:A.le B)(k:B.le C):A.le C:=⟨h.toLe0.trans k.toLe0,k.g.trans h.g⟩
def jdv (W:Wd)(k:Nat)(dd:Option Addr):Prop:=if k<64 then dd=none else ∃d,dd=some d/\W.α (k/64-1)=some d
theorem jdv.up {W W':Wd}{k:Nat}{dd:Option Addr}(h:W.le0 W')(x:jdv W k dd):jdv W' k dd:=by
 unfold jdv at x ⊢;split at x
 ·rename_i z;rw[if_pos z];exact x
 ·rename_i z;rw[if_neg z];obtain⟨d,e,q⟩:=x;exact⟨d,e,h.a _ _ q⟩
def jqv (l:List (List Int×Int)):List (List Key×V):=l.map λp=>(p.1.map Sum.inl,V.int p.2)
def SqF (K:Frag)(F:Hp)(a:Addr)(xs:List V):Prop:=
 F a=some (.tup xs)\/∃(o:Obj) (its:Array Value) (n:Nat),K.lookup a=some o/\o.cls= .type "tuple"/\o.data= .seq its n/\its.size<=sizeLine/\yg xs its.toList
mutual
def Rep (W:Wd):PV->V->Prop
 |.non,v=>v= .non
 |.bl b,v=>v= .bl b
 |.int i,v=>v= .int i
 |.str x,v=>v= .str x
 |.ty n,v=>v= .ty n
 |.top k,v=>v= .ref (W.T.C k)
 |.exn k,v=>∃a dd,v= .ref a/\W.F a=some (jrw a (W.T.C (k%64)) dd)/\jdv W k dd
 |.dct l,v=>∃a o,v= .ref a/\W.F a=some (.frz o (.dT (jqv l)))
 |.dod k x,v=>∃a o kv vv,v= .ref a/\W.F a=some (odO a o kv vv)/\Rep W k kv/\Rep W x vv
 |.scr ns,v=>∃a,v= .ref a/\SqL W.T.K W.F a (ns.map V.int)/\ns.length<=63
 |.ref i,v=>∃a,v= .ref a/\W.α i=some a
 |.tup xs,v=>∃a vs,v= .ref a/\SqF W.T.K W.F a vs/\yd W xs vs
 |.lst xs,v=>∃a vs,v= .ref a/\W.F a=some (.lst vs)/\yd W xs vs
def yd (W:Wd):List PV->List V->Prop
 |[],vs=>vs=[]
 |x::xs,vs=>∃v r,vs=v::r/\Rep W x v/\yd W xs r
end
theorem jpC {K:Frag}{H H':Hp}{a:Addr}{xs:List V}(e:Yp H H')(h:SqF K H a xs):SqF K H' a xs:=by
 rcases h with h|h
 ·exact .inl (e _ _ h)
 ·exact .inr h
theorem SqF.toT {K:Frag}{H:Hp}{a:Addr}{xs:List V}(h:SqF K H a xs):SqT K H a xs:=by
 rcases h with h|h
 ·exact .inl (.inl h)
 ·exact .inr h
theorem YY {K:Frag}{H H':Hp}{a:Addr}{xs:List V}(e:Yp H H')(h:SqT K H a xs):SqT K H' a xs:=by
 rcases h with(h|⟨o,h⟩)|h
 ·exact .inl (.inl (e _ _ h))
 ·exact .inl (.inr ⟨o,e _ _ h⟩)
 ·exact .inr h
mutual
theorem Rep.ah {W W':Wd}(h:W.le0 W'):∀{x:PV}{v:V},Rep W x v->Rep W' x v
 |.non,_,r=>r
 |.bl _,_,r=>r
 |.int _,_,r=>r
 |.str _,_,r=>r
 |.ty _,_,r=>r
 |.top k,_,r=>by
  show _=V.ref (W'.T.C k);rw[h.k];exact r
 |.exn k,_,⟨a,dd,e,q,z⟩=>⟨a,dd,e,by rw[h.k];exact h.f _ _ q,z.up h⟩
 |.dct _,_,⟨a,o,e,q⟩=>⟨a,o,e,h.f _ _ q⟩
 |.dod _ _,_,⟨a,o,kv,vv,e,q,r1,r2⟩=>⟨a,o,kv,vv,e,h.f _ _ q,Rep.ah h r1,Rep.ah h r2⟩
 |.scr _,_,⟨a,e,q,z⟩=>⟨a,e,by rw[h.k];exact(show Yp W.F W'.F from h.f).seq q,z⟩
 |.ref _,_,⟨a,e,q⟩=>⟨a,e,h.a _ _ q⟩
 |.tup _,_,⟨a,vs,e,q,r⟩=>⟨a,vs,e,by rw[h.k];exact jpC h.f q,yd.ah h r⟩
 |.lst _,_,⟨a,vs,e,q,r⟩=>⟨a,vs,e,h.f _ _ q,yd.ah h r⟩
theorem yd.ah {W W':Wd}(h:W.le0 W'):∀{xs:List PV}{vs:List V},yd W xs vs->yd W' xs vs
 |[],_,r=>r
 |_::_,_,⟨v,r,e,a,b⟩=>⟨v,r,e,Rep.ah h a,yd.ah h b⟩
end
theorem Rep.up {W W':Wd}(h:W.le W'){x:PV}{v:V}(r:Rep W x v):Rep W' x v:=r.ah h.toLe0
theorem yd.up {W W':Wd}(h:W.le W'){x:List PV}{v:List V}(r:yd W x v):yd W' x v:=r.ah h.toLe0
theorem yd.length {W:Wd}:∀{xs:List PV}{vs:List V},yd W xs vs->vs.length=xs.length
 |[],_,r=>by cases r;rfl
 |_::_,_,⟨v,r,e,_,b⟩=>by subst e;simp[yd.length b]
theorem yd.append {W:Wd}:∀{xs:List PV}{vs:List V}{ys:List PV}{us:List V},yd W xs vs->yd W ys us->yd W (xs++ys) (vs++us)
 |[],_,_,_,r,q=>by cases r;exact q
 |_::_,_,_,_,⟨v,r,e,a,b⟩,q=>by subst e;exact⟨v,_,rfl,a,yd.append b q⟩
theorem yd.get {W:Wd}:∀{xs:List PV}{vs:List V}{i:Nat}{x:PV},yd W xs vs->xs[i]?= some x->∃v,vs[i]?= some v/\Rep W x v
 |[],_,_,_,_,e=>by simp at e
 |_::_,_,0,_,⟨v,r,e,a,_⟩,q=>by simp at q;subst q;subst e;exact⟨v,rfl,a⟩
 |_::_,_,i+1,_,⟨v,r,e,_,b⟩,q=>by
  subst e;obtain⟨u,h1,h2⟩:=yd.get (i:=i) b (by simpa using q);exact⟨u,by simpa using h1,h2⟩
theorem yd.drop {W:Wd}:∀{xs:List PV}{vs:List V}(n:Nat),yd W xs vs->yd W (xs.drop n) (vs.drop n)
 |_,_,0,r=>r
 |[],_,n+1,r=>by cases r;rfl
 |_::_,_,n+1,⟨v,r,e,_,b⟩=>by subst e;exact yd.drop n b
theorem yd.take {W:Wd}:∀{xs:List PV}{vs:List V}(n:Nat),yd W xs vs->yd W (xs.take n) (vs.take n)
 |_,_,0,r=>by simp[yd]
 |[],_,n+1,r=>by cases r;rfl
 |_::_,_,n+1,⟨v,r,e,a,b⟩=>by subst e;exact⟨v,_,rfl,a,yd.take n b⟩
theorem yd.set {W:Wd}{x:PV}{v:V}(h:Rep W x v):∀{xs:List PV}{vs:List V}(n:Nat),yd W xs vs->yd W (xs.set n x) (vs.set n v)
 |[],_,n,r=>by cases r;rfl
 |_::_,_,0,⟨u,r,e,a,b⟩=>by subst e;exact⟨v,_,rfl,h,b⟩
 |_::_,_,n+1,⟨u,r,e,a,b⟩=>by subst e;exact⟨u,_,rfl,a,yd.set h n b⟩
theorem yd.rep {W:Wd}{xs:List PV}{vs:List V}(h:yd W xs vs):∀n:Nat,yd W (replicate n xs).flatten (replicate n vs).flatten
 |0=>rfl
 |n+1=>by
  rw[replicate_succ,replicate_succ,flatten_cons,flatten_cons];exact yd.append h (yd.rep h n)
theorem yd.ints {W:Wd}:∀{ns:List Int}{vs:List V},yd W (ns.map PV.int) vs↔vs=ns.map V.int
 |[],_=>Iff.rfl
 |n::ns,vs=>by
  constructor
  ·rintro⟨v,r,e,a,b⟩;have a:v= .int n:=a;rw[e,a,yd.ints.mp b];rfl
  ·rintro rfl;exact⟨_,_,rfl,rfl,yd.ints.mpr rfl⟩
theorem yd.bools {W:Wd}:∀{ns:List Bool}{vs:List V},yd W (ns.map PV.bl) vs↔vs=ns.map V.bl
 |[],_=>Iff.rfl
 |n::ns,vs=>by
  constructor
  ·rintro⟨v,r,e,a,b⟩;have a:v= .bl n:=a;rw[e,a,yd.bools.mp b];rfl
  ·rintro rfl;exact⟨_,_,rfl,rfl,yd.bools.mpr rfl⟩
def vN (W:Wd):List (Str×PV)->List (Str×V)->Prop
 |[],vs=>vs=[]
 |p::xs,vs=>∃v r,vs=(p.1,v)::r/\Rep W p.2 v/\vN W xs r
theorem vN.ah {W W':Wd}(h:W.le0 W'):∀{xs:List (Str×PV)}{vs:List (Str×V)},vN W xs vs->vN W' xs vs
 |[],_,r=>r
 |_::_,_,⟨v,r,e,a,b⟩=>⟨v,r,e,a.ah h,vN.ah h b⟩
theorem vN.get {W:Wd}{f:Str}:∀{xs:List (Str×PV)}{vs:List (Str×V)},vN W xs vs->∀{x:PV},xs.lookup f=some x->∃v,vs.lookup f=some v/\Rep W x v
 |[],_,_,_,e=>by simp at e
 |p::xs,_,⟨v,r,e,a,b⟩,x,q=>by
  subst e;rw[lookup_cons]at q ⊢
  by_cases h:(f==p.1)=true
  ·rw[h]at q ⊢;cases q;exact⟨v,rfl,a⟩
  ·rw[not_eq_true]at h;rw[h]at q ⊢;exact vN.get b q
theorem vN.none {W:Wd}{f:Str}:∀{xs:List (Str×PV)}{vs:List (Str×V)},vN W xs vs->xs.lookup f=none->vs.lookup f=none
 |[],_,e,_=>by cases e;rfl
 |p::xs,_,⟨v,r,e,a,b⟩,q=>by
  subst e;rw[lookup_cons]at q ⊢
  by_cases h:(f==p.1)=true
  ·rw[h]at q;cases q
  ·rw[not_eq_true]at h;rw[h]at q ⊢;exact vN.none b q
theorem vN.length {W:Wd}:∀{xs:List (Str×PV)}{vs:List (Str×V)},vN W xs vs->vs.length=xs.length
 |[],_,e=>by cases e;rfl
 |_::_,_,⟨_,_,e,_,b⟩=>by subst e;simp[vN.length b]
def Vf (f:Str)(v:PV):List (Str×PV)->List (Str×PV)
 |[]=>[(f,v)]
 |p::r=>if f==p.1 then(p.1,v)::r else p::Vf f v r
def yM {α κ:Type}(W:Wd)(f:α->κ):List (α×PV)->List (κ×V)->Prop
 |[],vs=>vs=[]
 |p::r,vs=>∃v rs,vs=(f p.1,v)::rs/\Rep W p.2 v/\yM W f r rs
theorem yM.ah {α κ:Type}{W W':Wd}{f:α->κ}(h:W.le0 W'):∀{l:List (α×PV)}{vs:List (κ×V)},yM W f l vs->yM W' f l vs
 |[],_,e=>e
 |_::_,_,⟨v,rs,e,r,t⟩=>⟨v,rs,e,r.ah h,yM.ah h t⟩
def xA (k:List Int):List Key:=k.map Sum.inl
def jro (k:Int):Key:=Sum.inl k
def YG (W:Wd):List (NK×PV)->List (NK×Addr×Value)->Prop
 |[],xs=>xs=[]
 |p::r,xs=>∃b u rs v,xs=(p.1,b,u)::rs/\jrH W.T.K W.F p.1 b/\Rep W p.2 v/\RelV v u/\YG W r rs
theorem YG.ah {W W':Wd}(h:W.le0 W'):∀{l:List (NK×PV)}{xs:List (NK×Addr×Value)},YG W l xs->YG W' l xs
 |[],_,e=>e
 |_::_,_,⟨b,u,rs,v,e,⟨c,k1,k2⟩,r,ru,t⟩=>⟨b,u,rs,v,e,⟨c,h.f _ _ k1,by rw[h.k];exact YY h.f k2⟩,r.ah h,ru,YG.ah h t⟩
def Vk (W:Wd):Cell->HO->Prop
 |.lst xs,o=>∃vs,o= .lst vs/\yd W xs vs
 |.dct l,o=>o= .dT (jqv l)
 |.ins k fs,o=>∃dx vs,o= .ins (W.T.C k) dx vs/\vN W fs vs
 |.dtv l,o=>∃vs,o= .dT vs/\yM W xA l vs
 |.dkv l,o=>∃vs,o= .dK vs/\yM W jro l vs
 |.dsv l,o=>∃vs,o= .dT vs/\yM W id l vs
 |.xd fs,o=>∃vs,o= .xd vs/\vN W fs vs
 |.dnv j l,o=>(l=[]/\o= .dT [])\/∃d xs,W.α j=some d/\o=ndO W.T.w d xs/\YG W l xs
theorem Vk.ah {W W':Wd}(h:W.le0 W'):∀{c:Cell}{o:HO},Vk W c o->Vk W' c o
 |.lst _,_,⟨vs,e,r⟩=>⟨vs,e,r.ah h⟩
 |.dct _,_,r=>r
 |.ins _ _,_,⟨dx,vs,e,r⟩=>⟨dx,vs,by rw[h.k];exact e,r.ah h⟩
 |.dtv _,_,⟨vs,e,r⟩=>⟨vs,e,r.ah h⟩
 |.dkv _,_,⟨vs,e,r⟩=>⟨vs,e,r.ah h⟩
 |.dsv _,_,⟨vs,e,r⟩=>⟨vs,e,r.ah h⟩
 |.xd _,_,⟨vs,e,r⟩=>⟨vs,e,r.ah h⟩
 |.dnv _ _,_,.inl r=>.inl r
 |.dnv _ _,_,.inr ⟨d,xs,e1,e2,r⟩=>.inr ⟨d,xs,h.a _ _ e1,by rw[h.k];exact e2,r.ah h⟩
theorem Vk.up {W W':Wd}(h:W.le W'){c:Cell}{o:HO}(r:Vk W c o):Vk W' c o:=r.ah h.toLe0
structure Held (W:Wd)(M:Sto)(H:Hp):Prop where
 f:∀a o,W.F a=some o->H a=some o
 m:∀i c,M.g i=some c->∃a o,W.α i=some a/\W.F a=none/\H a=some o/\Vk W c o
 inj:∀i j a c c',M.g i=some c->M.g j=some c'->W.α i=some a->W.α j=some a->i=j
 top:∀i,M.n<=i->W.α i=none
 gd:∀a o,W.G a=some o->H a=some o/\W.F a=none/\∀i c,M.g i=some c->W.α i≠some a
 gl:∀a o,W.G a=some o->∀vs,o≠.tup vs
def Wd.frz (W:Wd)(l:Addr)(o:HO):Wd:=⟨W.T,L2.upd W.F l o,W.α,W.G⟩
theorem Held.aS {W:Wd}{M:Sto}{H:Hp}{l:Addr}(h:Held W M H)(e:H l=none):W.F l=none:=by
 cases q:W.F l with
 |none=>rfl
 |some o=>
  rw[h.f l o q]at e;cases e
theorem Wd.ay {W:Wd}{l:Addr}{o:HO}(e:W.F l=none):W.le (W.frz l o):=
 ⟨⟨rfl,λa u q=>by
  show L2.upd W.F l o a=some u;rw[jk (λz:a=l=>by rw[z,e]at q;cases q)];exact q,λ_ _ q=>q⟩,rfl⟩
theorem Held.frz {W:Wd}{M:Sto}{H:Hp}{l:Addr}{o:HO}(h:Held W M H)(e:H l=none):W.le (W.frz l o)/\Held (W.frz l o) M (L2.upd H l o)/\(W.frz l o).F l=some o:=by
 have le:=Wd.ay (o:=o) (h.aS e);refine⟨le,⟨λa u q=>?_,λi c q=>?_,h.inj,h.top,λa u q=>?_,h.gl⟩,jr⟩
 rotate_left 2
 ·obtain⟨h1,h2,h3⟩:=h.gd a u q;have z:a≠l:=jv h1 e;refine⟨by rw[jk z];exact h1,?_,h3⟩;show L2.upd W.F l o a=none;rw[jk z];exact h2
 ·have q:L2.upd W.F l o a=some u:=q
  by_cases z:a=l
  ·subst z;rw[jr]at q ⊢;exact q
  ·rw[jk z]at q ⊢;exact h.f a u q
 ·obtain⟨a,u,h1,h2,h3,h4⟩:=h.m i c q;have z:a≠l:=jv h3 e;refine⟨a,u,h1,?_,by rw[jk z];exact h3,h4.up le⟩;show L2.upd W.F l o a=none;rw[jk z];exact h2
def Wd.put (W:Wd)(n:Nat)(l:Addr):Wd:=⟨W.T,W.F,λi=>if i=n then some l else W.α i,W.G⟩
theorem Held.aO {W:Wd}{M:Sto}{H:Hp}{l:Addr}(h:Held W M H):W.le (W.put M.n l):=
 ⟨⟨rfl,λ_ _ q=>q,λi a q=>by
  show(if i=M.n then some l else W.α i)=some a;rw[if_neg (λz=>by rw[z,h.top _ (le_refl _)]at q;cases q)]
  exact q⟩,rfl⟩
theorem Held.bf {W:Wd}{M:Sto}{H:Hp}{l:Addr}{o:HO}{c:Cell}(h:Held W M H)(e:H l=none)(r:Vk (W.put M.n l) c o):W.le (W.put M.n l)/\Held (W.put M.n l) (M.new c) (L2.upd H l o)/\(W.put M.n l).α M.n=some l:=by
 have le:=h.aO (l:=l);have fl:=h.aS e;refine⟨le,⟨λa u q=>?_,λi c' q=>?_,λi j a c1 c2 q1 q2 e1 e2=>?_,λi hi=>?_,λa u q=>?_,h.gl⟩,if_pos rfl⟩
 rotate_left 4
 ·obtain⟨h1,h2,h3⟩:=h.gd a u q;have z:a≠l:=jv h1 e;refine⟨by rw[jk z];exact h1,h2,λi c' qi=>?_⟩;show(if i=M.n then some l else W.α i)≠some a
  by_cases hi:i=M.n
  ·rw[if_pos hi];exact λw=>z (Option.some.inj w).symm
  ·rw[if_neg hi];rw[Sto.ae hi]at qi;exact h3 i c' qi
 ·have q:W.F a=some u:=q;rw[jk (λz:a=l=>by rw[z,fl]at q;cases q)];exact h.f a u q
 ·by_cases z:i=M.n
  ·subst z;rw[Sto.af]at q;cases q;exact⟨l,o,if_pos rfl,fl,jr,r⟩
  ·rw[Sto.ae z]at q;obtain⟨a,u,h1,h2,h3,h4⟩:=h.m i c' q;exact⟨a,u,le.a _ _ h1,h2,by rw[jk (jv h3 e)];exact h3,h4.up le⟩
 ·have e1:(if i=M.n then some l else W.α i)=some a:=e1;have e2:(if j=M.n then some l else W.α j)=some a:=e2
  by_cases z1:i=M.n
  ·by_cases z2:j=M.n
   ·rw[z1,z2]
   ·rw[if_pos z1]at e1;rw[if_neg z2]at e2;rw[Sto.ae z2]at q2;obtain⟨b,u,g1,_,g3,_⟩:=h.m j c2 q2;rw[e2]at g1;cases g1;cases e1;rw[e]at g3;cases g3
  ·rw[if_neg z1]at e1;rw[Sto.ae z1]at q1
   by_cases z2:j=M.n
   ·rw[if_pos z2]at e2;obtain⟨b,u,g1,_,g3,_⟩:=h.m i c1 q1;rw[e1]at g1;cases g1;cases e2;rw[e]at g3;cases g3
   ·rw[if_neg z2]at e2;rw[Sto.ae z2]at q2;exact h.inj i j a c1 c2 q1 q2 e1 e2
 ·show(if i=M.n then some l else W.α i)=none;have hi:M.n+1<=i:=hi;rw[if_neg (by omega)];exact h.top i (by omega)
theorem Held.put {W:Wd}{M:Sto}{H:Hp}{l:Addr}{o:HO}{c:Cell}(h:Held W M H)(e:H l=none)(r:Vk W c o):W.le (W.put M.n l)/\Held (W.put M.n l) (M.new c) (L2.upd H l o)/\(W.put M.n l).α M.n=some l:=h.bf e (r.up h.aO)
theorem Held.upd {W:Wd}{M:Sto}{H:Hp}{i:Nat}{a:Addr}{c c':Cell}{o:HO}(h:Held W M H)(e:M.g i=some c)(ea:W.α i=some a)(r:Vk W c' o):Held W (M.set i c') (L2.upd H a o):=by
 obtain⟨b,u,g1,g2,g3,g4⟩:=h.m i c e;rw[ea]at g1;cases g1
 have live:∀{j c1},(M.set i c').g j=some c1->∃c2,M.g j=some c2:=λ{j c1} q=>by
  by_cases z:j=i
  ·exact⟨c,by rw[z];exact e⟩
  ·rw[Sto.ab z]at q;exact⟨_,q⟩
 refine⟨λb u q=>?_,λj c1 q=>?_,λj k b c1 c2 q1 q2 e1 e2=>?_,h.top,λb u q=>?_,h.gl⟩
 rotate_left 3
 ·obtain⟨h1,h2,h3⟩:=h.gd b u q;refine⟨?_,h2,λj c1 qj=>?_⟩
  ·rw[jk (λz:b=a=>h3 i c e (z ▸ ea))];exact h1
  ·obtain⟨d1,w1⟩:=live qj;exact h3 j d1 w1
 ·rw[jk (λz:b=a=>by rw[z,g2]at q;cases q)];exact h.f b u q
 ·by_cases z:j=i
  ·subst z;rw[Sto.set_same]at q;cases q;exact⟨a,o,ea,g2,jr,r⟩
  ·rw[Sto.ab z]at q;obtain⟨b,u',h1,h2,h3,h4⟩:=h.m j c1 q;refine⟨b,u',h1,h2,?_,h4⟩;rw[jk (λzz:b=a=>z (h.inj j i a c1 c q e (zz ▸ h1) ea))];exact h3
 ·obtain⟨d1,w1⟩:=live q1;obtain⟨d2,w2⟩:=live q2;exact h.inj j k b d1 d2 w1 w2 e1 e2
theorem Held.drop {W:Wd}{M:Sto}{H:Hp}(h:Held W M H)(i:Nat):Held W (M.drop i) H:=by
 have sub:∀{j c},(M.drop i).g j=some c->M.g j=some c:=λ{j c} q=>by
  have q:(if j=i then none else M.g j)=some c:=q
  by_cases z:j=i
  ·rw[if_pos z]at q;cases q
  ·rwa [if_neg z]at q
 exact⟨h.f,λj c q=>h.m j c (sub q),λj k b c1 c2 q1 q2=>h.inj j k b c1 c2 (sub q1) (sub q2),h.top,λa o q=>⟨(h.gd a o q).1,(h.gd a o q).2.1,λj c qj=>(h.gd a o q).2.2 j c (sub qj)⟩,h.gl⟩
theorem Held.freeze {W:Wd}{M:Sto}{H:Hp}{i:Nat}{a:Addr}{xs:List PV}(h:Held W M H)(e:M.g i=some (.lst xs))(ea:W.α i=some a) :
  ∃vs,H a=some (.lst vs)/\W.le (W.frz a (.lst vs))/\Held (W.frz a (.lst vs)) (M.drop i) H/\Rep (W.frz a (.lst vs)) (.lst xs) (.ref a):=by
 obtain⟨b,u,g1,g2,g3,vs,rfl,rv⟩:=h.m i _ e;rw[ea]at g1;cases g1;have le:=Wd.ay (o:=.lst vs) g2;refine⟨vs,g3,le,⟨λb u q=>?_,λj c q=>?_,λj k b c1 c2 q1 q2 e1 e2=>?_,h.top,λb u q=>?_,h.gl⟩,a,vs,rfl,jr,rv.up le⟩
 rotate_left 3
 ·obtain⟨h1,h2,h3⟩:=(h.drop i).gd b u q;refine⟨h1,?_,h3⟩;show L2.upd W.F a (.lst vs) b=none;rw[jk (λz:b=a=>(h.gd b u q).2.2 i _ e (z ▸ ea))];exact h2
 ·have q:L2.upd W.F a (.lst vs) b=some u:=q
  by_cases z:b=a
  ·subst z;rw[jr]at q;cases q;exact g3
  ·rw[jk z]at q;exact h.f b u q
 ·have q:(if j=i then none else M.g j)=some c:=q
  by_cases z:j=i
  ·rw[if_pos z]at q;cases q
  ·rw[if_neg z]at q;obtain⟨b,u',h1,h2,h3,h4⟩:=h.m j c q;refine⟨b,u',h1,?_,h3,h4.up le⟩;show L2.upd W.F a (.lst vs) b=none;rw[jk (λzz:b=a=>z (h.inj j i a c _ q e (zz ▸ h1) ea))];exact h2
 ·have hd:=h.drop i;exact hd.inj j k b c1 c2 q1 q2 e1 e2
def Wd.gd (W:Wd)(l:Addr)(o:HO):Wd:=⟨W.T,W.F,W.α,L2.upd W.G l o⟩
theorem Wd.ag {W:Wd}{l:Addr}{o:HO}:W.le0 (W.gd l o):=⟨rfl,λ_ _ e=>e,λ_ _ e=>e⟩
theorem Held.aP {W:Wd}{M:Sto}{H:Hp}{l:Addr}{o':HO}(no:∀vs,o'≠.tup vs)(h:Held W M H)(e:H l=none):Held (W.gd l o') M (L2.upd H l o'):=by
 have nl:∀{b u},H b=some u->b≠l:=λq=>jv q e;refine⟨λb u q=>by rw[jk (nl (h.f b u q))];exact h.f b u q,λi c q=>?_,h.inj,h.top,λb u q=>?_,λb u q=>?_⟩
 rotate_left 2
 ·have q:L2.upd W.G l o' b=some u:=q
  by_cases z:b=l
  ·subst z;rw[jr]at q;cases q;exact no
  ·rw[jk z]at q;exact h.gl b u q
 ·obtain⟨a,u,h1,h2,h3,h4⟩:=h.m i c q;exact⟨a,u,h1,h2,by rw[jk (nl h3)];exact h3,h4.ah Wd.ag⟩
 ·have q:L2.upd W.G l o' b=some u:=q
  by_cases z:b=l
  ·subst z;rw[jr]at q;cases q;refine⟨jr,h.aS e,λi c qi w=>?_⟩;obtain⟨a,u,h1,h2,h3,h4⟩:=h.m i c qi;have w:W.α i=some b:=w;rw[w]at h1;cases h1;rw[e]at h3;cases h3
  ·rw[jk z]at q;obtain⟨h1,h2,h3⟩:=h.gd b u q;exact⟨by rw[jk z];exact h1,h2,h3⟩
theorem Held.guard {W:Wd}{M:Sto}{H:Hp}{l:Addr}{ws:List V}(h:Held W M H)(e:H l=none):Held (W.gd l (.lst ws)) M (L2.upd H l (.lst ws)):=Held.aP (λ_ z=>nomatch z) h e
theorem Held.aF {W:Wd}{M:Sto}{H:Hp}{l:Addr}{o o':HO}(no:∀vs,o'≠.tup vs)(h:Held W M H)(e:W.G l=some o):Held (W.gd l o') M (L2.upd H l o'):=by
 obtain⟨g1,g2,g3⟩:=h.gd l o e;refine⟨λb w q=>?_,λi c q=>?_,h.inj,h.top,λb w q=>?_,λb w q=>?_⟩
 rotate_left 3
 ·have q:L2.upd W.G l o' b=some w:=q
  by_cases z:b=l
  ·subst z;rw[jr]at q;cases q;exact no
  ·rw[jk z]at q;exact h.gl b w q
 ·rw[jk (λz:b=l=>by
   have q:W.F b=some w:=q;rw[z,g2]at q;cases q)]
  exact h.f b w q
 ·obtain⟨a,w,h1,h2,h3,h4⟩:=h.m i c q;exact⟨a,w,h1,h2,by rw[jk (λz:a=l=>g3 i c q (z ▸ h1))];exact h3,h4.ah Wd.ag⟩
 ·have q:L2.upd W.G l o' b=some w:=q
  by_cases z:b=l
  ·subst z;rw[jr]at q;cases q;exact⟨jr,g2,g3⟩
  ·rw[jk z]at q;obtain⟨h1,h2,h3⟩:=h.gd b w q;exact⟨by rw[jk z];exact h1,h2,h3⟩
theorem Held.aK {W:Wd}{M:Sto}{H:Hp}{l:Addr}{o:HO}{ws:List V}(h:Held W M H)(e:W.G l=some o):Held (W.gd l (.lst ws)) M (L2.upd H l (.lst ws)):=Held.aF (λ_ z=>nomatch z) h e
def Wd.out (W:Wd)(G0:Hp)(l:Addr)(o:HO):Wd:=⟨W.T,L2.upd W.F l o,W.α,G0⟩
theorem Held.aB {W:Wd}{M:Sto}{H G0:Hp}{l:Addr}{o:HO}(h:Held W M H)(e:W.G l=some o)(hg:∀b u,G0 b=some u->W.G b=some u/\b≠l):W.le0 (W.out G0 l o)/\Held (W.out G0 l o) M H:=by
 obtain⟨g1,g2,g3⟩:=h.gd l o e
 have le:W.le0 (W.out G0 l o):=⟨rfl,(Wd.ay (o:=o) g2).f,λ_ _ e=>e⟩
 refine⟨le,λb u q=>?_,λi c q=>?_,h.inj,h.top,λb u q=>?_,λb u q=>h.gl b u (hg b u q).1⟩
 ·have q:L2.upd W.F l o b=some u:=q
  by_cases z:b=l
  ·subst z;rw[jr]at q;cases q;exact g1
  ·rw[jk z]at q;exact h.f b u q
 ·obtain⟨a,w,h1,h2,h3,h4⟩:=h.m i c q;refine⟨a,w,h1,?_,h3,h4.ah le⟩;show L2.upd W.F l o a=none;rw[jk (λz:a=l=>g3 i c q (z ▸ h1))];exact h2
 ·obtain⟨q1,z⟩:=hg b u q;obtain⟨h1,h2,h3⟩:=h.gd b u q1;refine⟨h1,?_,h3⟩;show L2.upd W.F l o b=none;rw[jk z];exact h2
def Wd.aH (W:Wd)(G0:Hp)(n:Nat)(l:Addr):Wd:=⟨W.T,W.F,λi=>if i=n then some l else W.α i,G0⟩
theorem Held.adopt {W:Wd}{M:Sto}{H:Hp}{b:Addr}{vs:List V}(h:Held W M H)(e:H b=some (.tup vs)):∃W',W.le W'/\Held W' M H/\W'.F b=some (.tup vs):=by
 cases q:W.F b with
 |some u=>
  have:=h.f b u q
  rw[e]at this;cases this;exact⟨W,.refl W,h,q⟩
 |none=>
  have le:=Wd.ay (o:=.tup vs) q;refine⟨W.frz b (.tup vs),le,⟨λc u z=>?_,λi c z=>?_,h.inj,h.top,λc u z=>?_,h.gl⟩,jr⟩
  ·have z:L2.upd W.F b (.tup vs) c=some u:=z
   by_cases y:c=b
   ·subst y;rw[jr]at z;cases z;exact e
   ·rw[jk y]at z;exact h.f c u z
  ·obtain⟨a,u,h1,h2,h3,h4⟩:=h.m i c z
   have na:a≠b:=λy=>by
    subst y;rw[e]at h3;cases h3;cases c with
    |lst xs=>obtain⟨_,z,_⟩:=h4;cases z
    |dct l=>cases h4
    |ins k fs=>obtain⟨_,_,z,_⟩:=h4;cases z
    |dtv l=>obtain⟨_,z,_⟩:=h4;cases z
    |dkv l=>obtain⟨_,z,_⟩:=h4;cases z
    |dsv l=>obtain⟨_,z,_⟩:=h4;cases z
    |xd l=>obtain⟨_,z,_⟩:=h4;cases z
    |dnv j l=>
     rcases h4 with⟨_,z⟩|⟨_,_,_,z,_⟩
     ·cases z
     ·cases z
   refine⟨a,u,h1,?_,h3,h4.up le⟩;show L2.upd W.F b _ a=none;rw[jk na];exact h2
  ·obtain⟨h1,h2,h3⟩:=h.gd c u z
   have nc:c≠b:=λy=>by
    subst y;rw[e]at h1;cases h1;exact h.gl c _ z vs rfl
   refine⟨h1,?_,h3⟩;show L2.upd W.F b _ c=none;rw[jk nc];exact h2
inductive Res (α:Type) where
 |ok (a:α) (M:Sto)|exc (k:Nat) (M:Sto)|bad
def Res.bind {α β:Type}(r:Res α)(k:α->Sto->Res β):Res β:=match r with
 |.ok a M=>k a M
 |.exc c M=>.exc c M
 |.bad=>.bad
@[simp] theorem Res.aa {α β:Type}{a:α}{M:Sto}{k:α->Sto->Res β}:(Res.ok a M).bind k=k a M:= rfl
@[simp] theorem Res.bind_exc {α β:Type}{c:Nat}{M:Sto}{k:α->Sto->Res β}:(Res.exc c M).bind k= .exc c M:= rfl
@[simp] theorem Res.bind_bad {α β:Type}{k:α->Sto->Res β}:(Res.bad).bind k= .bad:= rfl
def ofO {α:Type}(o:Option α)(M:Sto):Res α:=match o with
 |some z=>.ok z M
 |none=>.bad
@[simp] theorem jy {α:Type}{z:α}{M:Sto}:ofO (some z) M= .ok z M:= rfl
@[simp] theorem jpX {α:Type}{M:Sto}:ofO (none:Option α) M= .bad:= rfl
abbrev En:=List (Option PV)
abbrev DE:=En->Sto->Res PV
abbrev tD0:=List PV->Sto->Res PV
abbrev DT:=En->Sto->Res Bool
abbrev DA:=En->Sto->Res (List PV)
def yq (W:Wd)(ρ:En)(σ:St):Prop:=σ.length=ρ.length/\∀(i:Nat) (x:PV),ρ[i]?= some (some x)->∃v,σ[i]?= some (some v)/\Rep W x v
theorem yq.up {W W':Wd}{ρ:En}{σ:St}(h:yq W ρ σ)(le:W.le W'):yq W' ρ σ:=⟨h.1,λi x e=>by
 obtain⟨v,e1,r⟩:=h.2 i x e
 exact⟨v,e1,r.up le⟩⟩
theorem yq.set {W:Wd}{ρ:En}{σ:St}{i:Nat}{x:PV}{v:V}(h:yq W ρ σ)(r:Rep W x v):yq W (ρ.set i (some x)) (σ.set i (some v)):=by
 refine⟨by simpa using h.1,λj y e=>?_⟩
 by_cases hj:i=j
 ·subst hj;have hi:i < ρ.length:=by
   have:=(List.getElem?_eq_some_iff.mp e).1
   simpa using this
  rw[getElem?_set_self hi]at e;cases e;exact⟨v,getElem?_set_self (by rw[h.1];exact hi),r⟩
 ·rw[getElem?_set_ne hj]at e;obtain⟨u,e1,q⟩:=h.2 j y e;exact⟨u,by rw[getElem?_set_ne hj];exact e1,q⟩
def yh {α β:Type}(W:Wd)(R:Wd->α->β->Prop)(r:Res α)(Q:β->Hp->Prop)(E:XK):Prop:=match r with
 |.ok a M=>∀W' H' b,W.le W'->Held W' M H'->R W' a b->Q b H'
 |.exc k M=>∀W' H' dd,W.le W'->Held W' M H'->jdv W' k dd->E (.ref (W.T.C (k%64))) dd H'
 |.bad=>False
theorem yh.up {α β:Type}{W W':Wd}{R:Wd->α->β->Prop}{r:Res α}{Q:β->Hp->Prop}{E:XK}(h:yh W R r Q E)(le:W.le W'):yh W' R r Q E:=by
 cases r with
 |ok a M=>exact λW2 H2 b l2 h2 r2=>h W2 H2 b (le.trans l2) h2 r2
 |exc k M=>
  intro W2 H2 dd l2 h2 z
  have:=h W2 H2 dd (le.trans l2) h2 z
  rw[le.k];exact this
 |bad=>exact h.elim
theorem yh.bind {α β γ δ:Type}{W:Wd}{R1:Wd->α->β->Prop}{R2:Wd->γ->δ->Prop}{r:Res α}{k:α->Sto->Res γ}{Q:δ->Hp->Prop}{Q1:β->Hp->Prop}{E:XK}(h:yh W R2 (r.bind k) Q E)(f:∀W' M a b H1,W.le W'->Held W' M H1->R1 W' a b->yh W' R2 (k a M) Q E->Q1 b H1):yh W R1 r Q1 E:=by
 cases r with
 |ok a M=>exact λW2 H2 b l2 h2 r2=>f W2 M a b H2 l2 h2 r2 (yh.up (r:=k a M) h l2)
 |exc k M=>exact h
 |bad=>exact h.elim
def lft {α β:Type}(T:Tb)(R:Wd->α->β->Prop)(ES:St->XK)(d:En->Sto->Res α):St->Hp->(β->Hp->Prop)->Prop:=λσ H Q=>
 ∃W ρ M,W.T=T/\Held W M H/\yq W ρ σ/\yh W R (d ρ M) Q (ES σ)
theorem jC {α β:Type}{T:Tb}{R:Wd->α->β->Prop}{ES:St->XK}{d:En->Sto->Res α}{σ:St}{H:Hp}{Q:β->Hp->Prop}{P:Prop}(h:lft T R ES d σ H Q)(k:∀W ρ M,W.T=T->Held W M H->yq W ρ σ->yh W R (d ρ M) Q (ES σ)->P):P:=by
 obtain⟨W,ρ,M,a,b,c,e⟩:=h;exact k W ρ M a b c e
abbrev RB:Wd->Bool->Bool->Prop:=λ_ a b=>b=a
structure QE (X:Cx)(T:Tb)(ES:St->XK)(e:Expr)(d:DE):Prop where
 h:PE X e (lft T Rep ES d)
structure QT (X:Cx)(T:Tb)(ES:St->XK)(e:Expr)(d:DT):Prop where
 h:PT X e (lft T RB ES d)
structure QW (X:Cx)(T:Tb)(ES:St->XK)(e:Expr)(d:DT):Prop where
 h:PW X e (lft T RB ES d)
structure QA (X:Cx)(T:Tb)(ES:St->XK)(es:List Expr)(d:DA):Prop where
 h:PA X es (lft T yd ES d)
structure QK (X:Cx)(T:Tb)(ES:St->XK)(ks:List Keyword)(d:DA):Prop where
 h:PK X ks (lft T yd ES d)
section
variable {X:Cx}{T:Tb}{ES:St->XK}{a b c e:Expr}{es:List Expr}{pos:Pos}{da db dc d:DE}{ds:DA}
theorem jN {t t':TE}(h:PE X e t)(f:∀σ H Q,t' σ H Q->t σ H Q):PE X e t':=λbF s σ H Q I q=>h bF s σ H Q I (f σ H Q q)
theorem Uv {t t':TT}(h:PT X e t)(f:∀σ H Q,t' σ H Q->t σ H Q):PT X e t':=λbF s σ H Q I q=>h bF s σ H Q I (f σ H Q q)
theorem jhy {t t':TT}(h:PW X e t)(f:∀σ H Q,t' σ H Q->t σ H Q):PW X e t':=λw bF s σ H Q I q=>h w bF s σ H Q I (f σ H Q q)
theorem jhU {t t':TA}(h:PA X es t)(f:∀σ H Q,t' σ H Q->t σ H Q):PA X es t':=λpos bF s σ H Q I q=>h pos bF s σ H Q I (f σ H Q q)
theorem jhH {ks:List Keyword}{t t':TA}(h:PK X ks t)(f:∀σ H Q,t' σ H Q->t σ H Q):PK X ks t':=λpos bF s σ H Q I q=>h pos bF s σ H Q I (f σ H Q q)
def ya (i:Nat):DE:=λρ M=>match ρ[i]? with
 |some (some x)=>.ok x M
 |_=>.bad
theorem qv (i:Nat){x:Str}(hN:X.N[i]?= some x:=by rfl)(hv:Vis X.env.scope x:=by first|exact Or.inl rfl|exact Or.inr (Or.inl rfl)|exact Or.inr (Or.inr rfl))(hd:(x==("__debug__":Str))=false:=by decide)
  (fj:(x==("__classdict__":Str))=false:=by decide):QE X T ES (.Name x pos) (ya i):=⟨jN (Xq hN hv hd fj) λσ H Q bH=>by
 obtain⟨W,ρ,M,_,hh,hs,p⟩:=bH;unfold ya at p;split at p
 ·rename_i y e;obtain⟨v,e1,r⟩:=hs.2 i y e;exact⟨v,e1,p W H v (.refl W) hh r⟩
 ·exact p.elim⟩
def dC (x:PV):DE:=λ_ M=>.ok x M
theorem qc {x:PV}{v:V}(h:PE X e (tC v))(r:∀W:Wd,W.T=T->Rep W x v):QE X T ES e (dC x):=⟨jN h λσ H Q bH=>jC bH λW ρ M k hh hs p=>p W H v (.refl W) hh (r W k)⟩
theorem jm {i j}:QE X T ES (.Constant (.int i) j pos) (dC (.int i)):=qc jns λ_ _=>rfl
theorem Uu {b j}:QE X T ES (.Constant (.bool b) j pos) (dC (.bl b)):=qc jpR λ_ _=>rfl
theorem Ut {x:Str}{i:Int}{t:Tok}(hg:Gl X x)(hm:X.mg x=some (.int i t))(hd:(x==("__debug__":Str))=false:=by decide):QE X T ES (.Name x pos) (dC (.int i)):=qc (jkA (v:=.int i) hg hm ⟨_,rfl⟩ hd) λ_ _=>rfl
theorem jfO {x:Str}{n:String}(hg:Gl X x)(hm:X.mg x=none)(hv:bootBuiltins x=some (.type n))(hn:x≠"__name__":=by decide)(hd:(x==("__debug__":Str))=false:=by decide):QE X T ES (.Name x pos) (dC (.ty n)):=
 qc (jkC (v:=.ty n) hg hm hv rfl hn hd) λ_ _=>rfl
def yc:DA:=λ_ M=>.ok [] M
def jb (d:DE)(ds:DA):DA:=λρ M=>(d ρ M).bind λx M1=>(ds ρ M1).bind λxs M2=>.ok (x::xs) M2
theorem jd:QA X T ES [] yc:=⟨jhU JT λσ H Q bH=>jC bH λW ρ M k hh hs p=>p W H [] (.refl W) hh rfl⟩
theorem VF {σ:St}{H:Hp}{Q:List V->Hp->Prop}(h:lft T yd ES (jb d ds) σ H Q):jgP (lft T Rep ES d) (lft T yd ES ds) σ H Q:=by
 obtain⟨W,ρ,M,k,hh,hs,p⟩:=h;refine⟨W,ρ,M,k,hh,hs,yh.bind p λW1 M1 x v H1 l1 h1 r1 p1=>⟨W1,ρ,M1,l1.k.trans k,h1,hs.up l1,yh.bind p1 λW2 M2 xs vs H2 l2 h2 r2 p2=>?_⟩⟩;exact p2 W2 H2 (v::vs) (.refl W2) h2 ⟨v,vs,rfl,r1.up l2,r2⟩
theorem ja (ha:QE X T ES e d)(hr:QA X T ES es ds)(hs:starEach (e::es) X.env=(false,eval e X.env)::starEach es X.env:=by rfl):QA X T ES (e::es) (jb d ds):=⟨jhU (uo ha.h hr.h hs) λ_ _ _=>VF⟩
theorem jg:QK X T ES [] yc:=⟨jhH jnl λσ H Q bH=>jC bH λW ρ M k hh hs p=>p W H [] (.refl W) hh rfl⟩
theorem jkj {cV:List Keyword}{nm:Option Str}{iu:Pos}(ha:QE X T ES e d)(hr:QK X T ES cV ds):QK X T ES (⟨nm,e,iu⟩::cV) (jb d ds):=⟨jhH (jkw ha.h hr.h) λ_ _ _=>VF⟩
abbrev G2:=Sto->PV->PV->Option PV
def rP (T:Tb)(g:G2):R2:=λv u H Q=>∃W M x y z,W.T=T/\Held W M H/\Rep W x v/\Rep W y u/\g M x y=some z/\∀W' H' v',W.le W'->Held W' M H'->Rep W' z v'->Q v' H'
abbrev OpP (X:Cx)(T:Tb)(f:Value->Value->Sem Value)(g:G2):Prop:=OpR X f (rP T g)
theorem vE {f:Value->Value->Sem Value}{r r':R2}(h:OpR X f r)(k:∀x y H Q,r' x y H Q->r x y H Q):OpR X f r':=λbF s σ H x y v u Q I rx ry q=>h bF s σ H x y v u Q I rx ry (k _ _ _ _ q)
def orG (g g':G2):G2:=λM x y=>match g M x y with
 |some z=>some z
 |none=>g' M x y
theorem jcv {f:Value->Value->Sem Value}{g g':G2}(h:OpP X T f g)(h':OpP X T f g'):OpP X T f (orG g g'):=vE (OpR.or h h') λv u H Q bH=>by
 obtain⟨W,M,x,y,z,k,hh,rx,ry,e,q⟩:=bH;unfold orG at e;split at e
 ·rename_i z' e';cases e;exact .inl ⟨W,M,x,y,z,k,hh,rx,ry,e',q⟩
 ·exact .inr ⟨W,M,x,y,z,k,hh,rx,ry,e,q⟩
def dOp (g:G2)(da db:DE):DE:=λρ M=>(da ρ M).bind λx M1=>(db ρ M1).bind λy M2=>ofO (g M2 x y) M2
theorem YO {g:G2}{σ:St}{H:Hp}{Q:VK}(h:lft T Rep ES (dOp g da db) σ H Q):tOp (rP T g) (lft T Rep ES da) (lft T Rep ES db) σ H Q:=by
 obtain⟨W,ρ,M,k,hh,hs,p⟩:=h;refine⟨W,ρ,M,k,hh,hs,yh.bind p λW1 M1 x v H1 l1 h1 r1 p1=>⟨W1,ρ,M1,l1.k.trans k,h1,hs.up l1,yh.bind p1 λW2 M2 y u H2 l2 h2 r2 p2=>?_⟩⟩
 cases e:g M2 x y with
 |none=>rw[e]at p2;exact p2.elim
 |some z=>
  rw[e]at p2;exact⟨W2,M2,x,y,z,l2.k.trans (l1.k.trans k),h2,r1.up l2,r2,e,p2⟩
theorem jw {op:Operator}{g:G2}(ho:OpP X T (binaryOp op) g)(ha:QE X T ES a da)(hb:QE X T ES b db):QE X T ES (.BinOp a op b pos) (dOp g da db):=⟨jN (jpO ho ha.h hb.h) λ_ _ _=>YO⟩
theorem JP {op:CmpOp}{g:G2}(ho:OpP X T (compareOp op) g)(ha:QE X T ES a da)(hb:QE X T ES b db)(hm:behindInMarks op b=false):QE X T ES (.Compare a [op] [b] pos) (dOp g da db):=⟨jN (jkB ho ha.h hb.h hm) λ_ _ _=>YO⟩
def asB:PV->Option Bool
 |.bl b=>some b
 |_=>none
def yj (d:DE):DT:=λρ M=>(d ρ M).bind λx M1=>ofO (asB x) M1
theorem jU {op:CmpOp}{g:G2}(ho:OpP X T (compareOp op) g)(ha:QE X T ES a da)(hb:QE X T ES b db)(hm:behindInMarks op b=false):QT X T ES (.Compare a [op] [b] pos) (yj (dOp g da db)):=
 ⟨Uv (jko ho ha.h hb.h hm) λσ H Q bH=>jC bH λW ρ M k hh hs p=>YO ⟨W,ρ,M,k,hh,hs,yh.bind (R1:=Rep) p λW1 M1 x v H1 l1 h1 r1 p1=>by
  cases x with
  |bl b=>exact⟨b,r1,p1 W1 H1 b (.refl W1) h1 rfl⟩
  |_=>exact p1.elim⟩⟩
def UT (g g':G2)(da db dc:DE):DE:=λρ M=>(da ρ M).bind λx M1=>(db ρ M1).bind λy M2=>match g M2 x y with
 |some (.bl true)=>(dc ρ M2).bind λz M3=>ofO (g' M3 y z) M3
 |some (.bl false)=>.ok (.bl false) M2
 |_=>.bad
theorem jde {g g':G2}{σ:St}{H:Hp}{Q:VK}(h:lft T Rep ES (UT g g' da db dc) σ H Q):jgR (rP T g) (rP T g') (lft T Rep ES da) (lft T Rep ES db) (lft T Rep ES dc) σ H Q:=by
 obtain⟨W,ρ,M,k,hh,hs,p⟩:=h;refine⟨W,ρ,M,k,hh,hs,yh.bind p λW1 M1 x v H1 l1 h1 r1 p1=>⟨W1,ρ,M1,l1.k.trans k,h1,hs.up l1,yh.bind p1 λW2 M2 y u H2 l2 h2 r2 p2=>?_⟩⟩;have k2:=l2.k.trans (l1.k.trans k);split at p2
 ·rename_i e;refine⟨W2,M2,x,y,_,k2,h2,r1.up l2,r2,e,λW3 H3 v' l3 h3 r3=>⟨true,r3,?_⟩⟩;rw[if_pos rfl];refine⟨W3,ρ,M2,l3.k.trans k2,h3,(hs.up (l1.trans l2)).up l3,yh.bind (yh.up p2 l3) λW4 M4 z w H4 l4 h4 r4 p4=>?_⟩;cases e':g' M4 y z with
  |none=>rw[e']at p4;exact p4.elim
  |some z'=>
   rw[e']at p4;exact⟨W4,M4,y,z,z',l4.k.trans (l3.k.trans k2),h4,(r2.up l3).up l4,r4,e',p4⟩
 ·rename_i e;refine⟨W2,M2,x,y,_,k2,h2,r1.up l2,r2,e,λW3 H3 v' l3 h3 r3=>⟨false,r3,?_⟩⟩;rw[if_neg (by simp)];exact p2 W3 H3 (.bl false) l3 h3 rfl
 ·exact p2.elim
theorem jhx {op ij:CmpOp}{g g':G2}(ho:OpP X T (compareOp op) g)(dj:OpP X T (compareOp ij) g')(ha:QE X T ES a da)(hb:QE X T ES b db)(hc:QE X T ES c dc)(hm:lastMarks [op,ij] [b,c]=false:=by with_unfolding_all rfl):QE X T ES (.Compare a [op,ij] [b,c] pos) (UT g g' da db dc):=⟨jN (jhS ho dj ha.h hb.h hc.h hm) λ_ _ _=>jde⟩
def yz (M:Sto):PV->Option (List PV)
 |.lst xs=>some xs
 |.ref i=>(match M.g i with
  |some (.lst xs)=>some xs
  |_=>none)
 |_=>none
theorem yW {W:Wd}{M:Sto}{H:Hp}{x:PV}{v:V}{xs:List PV}(hh:Held W M H)(r:Rep W x v)(e:yz M x=some xs):∃a vs,v= .ref a/\H a=some (.lst vs)/\yd W xs vs:=by
 cases x with
 |lst ys=>
  cases e;obtain⟨a,vs,e1,q,rr⟩:=r;exact⟨a,vs,e1,hh.f _ _ q,rr⟩
 |ref i=>
  obtain⟨a,e1,q⟩:=r
  have e:(match M.g i with
   |some (.lst xs)=>some xs
   |_=>none)=some xs:=e
  split at e
  ·rename_i ys e2;cases e;obtain⟨b,o,h1,h2,h3,vs,rfl,rr⟩:=hh.m i _ e2;rw[q]at h1;cases h1;exact⟨a,vs,e1,h3,rr⟩
  ·cases e
 |_=>cases e
theorem yU {W:Wd}{M:Sto}{H:Hp}{v:V}{xs:List PV}(hh:Held W M H)(r:Rep W (.tup xs) v):∃a vs,v= .ref a/\SqT W.T.K H a vs/\yd W xs vs:=by
 obtain⟨a,vs,e1,q,rr⟩:=r;exact⟨a,vs,e1,YY hh.f q.toT,rr⟩
def uN (M:Sto):PV->Option (List PV)
 |.tup xs=>some xs
 |x=>yz M x
theorem jae {W:Wd}{M:Sto}{H:Hp}{x:PV}{v:V}{xs:List PV}(hh:Held W M H)(r:Rep W x v)(e:uN M x=some xs):∃a vs,v= .ref a/\(SqL W.T.K H a vs\/SqT W.T.K H a vs)/\yd W xs vs:=by
 cases x with
 |tup ys=>
  cases e;obtain⟨a,vs,h1,h2,h3⟩:=yU hh r;exact⟨a,vs,h1,.inr h2,h3⟩
 |_=>
  obtain⟨a,vs,h1,h2,h3⟩:=yW hh r e;exact⟨a,vs,h1,.inl (SqL.of h2),h3⟩
theorem xX {W:Wd}{M:Sto}{H:Hp}{xs:List PV}{vs:List V}{p:Addr}(hh:Held W M H)(r:yd W xs vs)(e:H p=none):∃W',W.le W'/\Held W' M (L2.upd H p (.lst vs))/\Rep W' (.lst xs) (.ref p):=by
 obtain⟨le,h1,h2⟩:=hh.frz (o:=.lst vs) e;exact⟨_,le,h1,p,vs,rfl,h2,r.up le⟩
theorem uq {W:Wd}{M:Sto}{H:Hp}{xs:List PV}{vs:List V}{p:Addr}(hh:Held W M H)(r:yd W xs vs)(e:H p=none):∃W',W.le W'/\Held W' M (L2.upd H p (.tup vs))/\Rep W' (.tup xs) (.ref p):=by
 obtain⟨le,h1,h2⟩:=hh.frz (o:=.tup vs) e;exact⟨_,le,h1,p,vs,rfl,.inl h2,r.up le⟩
theorem jaT {W:Wd}{M:Sto}{H:Hp}{xs:List PV}{vs:List V}{p:Addr}(hh:Held W M H)(r:yd W xs vs)(e:H p=none):∃W',W.le W'/\Held W' (M.new (.lst xs)) (L2.upd H p (.lst vs))/\Rep W' (.ref M.n) (.ref p):=by
 obtain⟨le,h1,h2⟩:=hh.put (l:=p) (o:=.lst vs) (c:=.lst xs) e ⟨vs,rfl,r⟩;exact⟨_,le,h1,p,rfl,h2⟩
def vw (ds:DA):DE:=λρ M=>(ds ρ M).bind λxs M1=>if xs.length<=sizeLine then .ok (.tup xs) M1 else .bad
def xB (ds:DA):DE:=λρ M=>(ds ρ M).bind λxs M1=>if xs.length<=sizeLine then .ok (.lst xs) M1 else .bad
def XN (ds:DA):DE:=λρ M=>(ds ρ M).bind λxs M1=>if xs.length<=sizeLine then .ok (.ref M1.n) (M1.new (.lst xs))else .bad
theorem ve {x1}(h:QA X T ES es ds):QE X T ES (.Tuple es x1 pos) (vw ds):=⟨jN (Uz h.h) λσ H Q bH=>jC bH λW ρ M k hh hs p=>⟨W,ρ,M,k,hh,hs,yh.bind p λW1 M1 xs vs H1 l1 h1 r1 p1=>by
 split at p1
 ·rename_i hz;refine⟨by rw[r1.length];exact hz,λq e=>?_⟩;obtain⟨W2,l2,h2,r2⟩:=uq h1 r1 e;exact p1 W2 _ _ l2 h2 r2
 ·exact p1.elim⟩⟩
theorem xz (h:QA X T ES es ds):QE X T ES (.List es pos) (xB ds):=⟨jN (jhN h.h) λσ H Q bH=>jC bH λW ρ M k hh hs p=>⟨W,ρ,M,k,hh,hs,yh.bind p λW1 M1 xs vs H1 l1 h1 r1 p1=>by
 split at p1
 ·rename_i hz;refine⟨by rw[r1.length];exact hz,λq e=>?_⟩;obtain⟨W2,l2,h2,r2⟩:=xX h1 r1 e;exact p1 W2 _ _ l2 h2 r2
 ·exact p1.elim⟩⟩
theorem YN (h:QA X T ES es ds):QE X T ES (.List es pos) (XN ds):=⟨jN (jhN h.h) λσ H Q bH=>jC bH λW ρ M k hh hs p=>⟨W,ρ,M,k,hh,hs,yh.bind p λW1 M1 xs vs H1 l1 h1 r1 p1=>by
 split at p1
 ·rename_i hz;refine⟨by rw[r1.length];exact hz,λq e=>?_⟩;obtain⟨W2,l2,h2,r2⟩:=jaT h1 r1 e;exact p1 W2 _ _ l2 h2 r2
 ·exact p1.elim⟩⟩
def joS (d:DE):DE:=λρ M=>(d ρ M).bind λx M1=>match x with
 |.ref i=>(match M1.g i with
  |some (.lst xs)=>.ok (.lst xs) (M1.drop i)
  |_=>.bad)
 |_=>.bad
theorem jnd (h:QE X T ES e d):QE X T ES e (joS d):=⟨jN h.h λσ H Q bH=>jC bH λW ρ M k hh hs p=>⟨W,ρ,M,k,hh,hs,yh.bind p λW1 M1 x v H1 l1 h1 r1 p1=>by
 split at p1
 ·rename_i i;split at p1
  ·rename_i xs e;obtain⟨a,rfl,ea⟩:=r1;obtain⟨vs,_,l2,h2,r2⟩:=h1.freeze e ea;exact p1 _ _ _ l2 h2 r2
  ·exact p1.elim
 ·exact p1.elim⟩⟩
def jja (da db:DT):DT:=λρ M=>(da ρ M).bind λc M1=>if c=true then db ρ M1 else .ok false M1
def dOr (da db:DT):DT:=λρ M=>(da ρ M).bind λc M1=>if c=true then .ok true M1 else db ρ M1
def Ju (da:DT):DT:=λρ M=>(da ρ M).bind λc M1=>.ok (!c) M1
variable {ta tb:DT}{rest:List Expr}
theorem QW.qt (h:QW X T ES e ta):QT X T ES e ta:=⟨h.h.pt⟩
theorem Uo (ha:QT X T ES a ta):QW X T ES (.BoolOp .And [a] pos) ta:=⟨jkl ha.h⟩
theorem uC (ha:QT X T ES a ta):QW X T ES (.BoolOp .Or [a] pos) ta:=⟨jne ha.h⟩
theorem jcj (ha:QT X T ES a ta)(hb:QW X T ES (.BoolOp .And (b::rest) pos) tb):QW X T ES (.BoolOp .And (a::b::rest) pos) (jja ta tb):=⟨jhy (jnf ha.h hb.h) λσ H Q bH=>jC bH λW ρ M k hh hs p=>
 ⟨W,ρ,M,k,hh,hs,yh.bind p λW1 M1 x v H1 l1 h1 r1 p1=>by
  subst r1;cases v with
  |true=>rw[if_pos rfl];exact⟨W1,ρ,M1,l1.k.trans k,h1,hs.up l1,p1⟩
  |false=>rw[if_neg (by simp)];exact p1 W1 H1 _ (.refl W1) h1 rfl⟩⟩
theorem Yr (ha:QT X T ES a ta)(hb:QW X T ES (.BoolOp .Or (b::rest) pos) tb):QW X T ES (.BoolOp .Or (a::b::rest) pos) (dOr ta tb):=⟨jhy (jpK ha.h hb.h) λσ H Q bH=>jC bH λW ρ M k hh hs p=>
 ⟨W,ρ,M,k,hh,hs,yh.bind p λW1 M1 x v H1 l1 h1 r1 p1=>by
  subst r1;cases v with
  |false=>rw[if_neg (by simp)];exact⟨W1,ρ,M1,l1.k.trans k,h1,hs.up l1,p1⟩
  |true=>rw[if_pos rfl];exact p1 W1 H1 _ (.refl W1) h1 rfl⟩⟩
theorem xL (ha:QT X T ES a ta):QT X T ES (.UnaryOp .Not a pos) (Ju ta):=⟨Uv (jnh ha.h) λσ H Q bH=>jC bH λW ρ M k hh hs p=>
 ⟨W,ρ,M,k,hh,hs,yh.bind p λW1 M1 x v H1 l1 h1 r1 p1=>by
  subst r1;exact p1 W1 H1 _ (.refl W1) h1 rfl⟩⟩
def uz (da db:DE):DE:=λρ M=>(da ρ M).bind λx M1=>match x with
 |.bl true=>db ρ M1
 |.bl false=>.ok (.bl false) M1
 |_=>.bad
def jiY (da:DE):DE:=λρ M=>(da ρ M).bind λx M1=>match x with
 |.bl b=>.ok (.bl (!b)) M1
 |_=>.bad
theorem Xm {op}(h:QE X T ES a da):QE X T ES (.BoolOp op [a] pos) da:=⟨jnq h.h⟩
theorem JQ (ha:QE X T ES a da)(hb:QE X T ES (.BoolOp .And (b::rest) pos) db):QE X T ES (.BoolOp .And (a::b::rest) pos) (uz da db):=⟨jN (jnu ha.h hb.h) λσ H Q bH=>jC bH λW ρ M k hh hs p=>
 ⟨W,ρ,M,k,hh,hs,yh.bind p λW1 M1 x v H1 l1 h1 r1 p1=>by
  split at p1
  ·exact⟨true,r1,by rw[if_pos rfl];exact⟨W1,ρ,M1,l1.k.trans k,h1,hs.up l1,p1⟩⟩
  ·exact⟨false,r1,by rw[if_neg (by simp)];exact p1 W1 H1 _ (.refl W1) h1 rfl⟩
  ·exact p1.elim⟩⟩
theorem jnb (ha:QE X T ES a da):QE X T ES (.UnaryOp .Not a pos) (jiY da):=⟨jN (jnr ha.h) λσ H Q bH=>jC bH λW ρ M k hh hs p=>
 ⟨W,ρ,M,k,hh,hs,yh.bind p λW1 M1 x v H1 l1 h1 r1 p1=>by
  split at p1
  ·exact⟨_,r1,p1 W1 H1 _ (.refl W1) h1 rfl⟩
  ·exact p1.elim⟩⟩
def dIf (t:DT)(da db:DE):DE:=λρ M=>(t ρ M).bind λc M1=>if c=true then da ρ M1 else db ρ M1
theorem jlD (hc:QT X T ES c ta)(ha:QE X T ES a da)(hb:QE X T ES b db):QE X T ES (.IfExp c a b pos) (dIf ta da db):=⟨jN (jhO hc.h ha.h hb.h) λσ H Q bH=>jC bH λW ρ M k hh hs p=>
 ⟨W,ρ,M,k,hh,hs,yh.bind p λW1 M1 x v H1 l1 h1 r1 p1=>by
  subst r1;cases v with
  |true=>rw[if_pos rfl]at p1 ⊢;exact⟨W1,ρ,M1,l1.k.trans k,h1,hs.up l1,p1⟩
  |false=>rw[if_neg (by simp)]at p1 ⊢;exact⟨W1,ρ,M1,l1.k.trans k,h1,hs.up l1,p1⟩⟩⟩
def jfE (M:Sto):PV->Option Bool
 |.non=>some false
 |.bl b=>some b
 |.int i=>some (i != 0)
 |.tup xs=>some (!xs.isEmpty)
 |x=>(yz M x).map λxs=>!xs.isEmpty
theorem yd.empty {W:Wd}:∀{xs:List PV}{vs:List V},yd W xs vs->vs.isEmpty=xs.isEmpty
 |[],_,r=>by cases r;rfl
 |_::_,_,⟨_,_,e,_⟩=>by subst e;rfl
def Jt (d:DE):DT:=λρ M=>(d ρ M).bind λx M1=>ofO (jfE M1 x) M1
theorem xK (hT:T.K=X.K)(h:QE X T ES e d)(he:∀c7,isTrue e X.env c7=(do let v <-c7;standAt e.pos;holding [v] (truthy v)):=by intro _;rfl):QT X T ES e (Jt d):=
 ⟨Uv (jng h.h he) λσ H Q bH=>jC bH λW ρ M k hh hs p=>⟨W,ρ,M,k,hh,hs,yh.bind p λW1 M1 x v H1 l1 h1 r1 p1=>by
  cases e1:jfE M1 x with
  |none=>rw[e1]at p1;exact p1.elim
  |some b=>
   rw[e1]at p1;refine⟨b,?_,p1 W1 H1 b (.refl W1) h1 rfl⟩;have sq:∀y,yz M1 y=yz M1 x->(yz M1 x).map (λxs=>!xs.isEmpty)=some b->jpb X.K v H1 b:=λy _ q=>by
    cases e2:yz M1 x with
    |none=>rw[e2]at q;cases q
    |some xs=>
     rw[e2]at q;cases q;obtain⟨a,vs,rfl,e3,rr⟩:=yW h1 r1 e2;exact .inl ⟨vs,SqL.of e3,by rw[rr.empty]⟩
   cases x with
   |non=>cases e1;cases r1;rfl
   |bl c=>cases e1;cases r1;rfl
   |int i=>cases e1;cases r1;rfl
   |tup xs=>
    cases e1;obtain⟨a,vs,rfl,e3,rr⟩:=yU h1 r1;rw[l1.k.trans k,hT]at e3;exact .inr (.inl ⟨vs,e3,by rw[rr.empty]⟩)
   |lst xs=>exact sq _ rfl e1
   |ref i=>exact sq _ rfl e1
   |_=>cases e1⟩⟩
end
mutual
def plain:PV->Bool
 |.non=>true
 |.bl _=>true
 |.int _=>true
 |.str _=>true
 |.tup xs=>yx xs
 |.lst xs=>yx xs
 |_=>false
def yx:List PV->Bool
 |[]=>true
 |x::xs=>plain x && yx xs
end
mutual
def dep:PV->Nat
 |.tup xs=>xu xs+1
 |.lst xs=>xu xs+1
 |_=>0
def xu:List PV->Nat
 |[]=>0
 |x::xs=>max (dep x) (xu xs)
end
mutual
def eqB:PV->PV->Bool
 |.non,.non=>true
 |.bl a,.bl b=>a==b
 |.bl a,.int b=>(if a then 1 else 0)==b
 |.int a,.bl b=>a==(if b then 1 else 0)
 |.int a,.int b=>a==b
 |.str a,.str b=>a==b
 |.tup xs,.tup ys=>Vj xs ys
 |.lst xs,.lst ys=>Vj xs ys
 |_,_=>false
def Vj:List PV->List PV->Bool
 |[],[]=>true
 |x::xs,y::ys=>eqB x y && Vj xs ys
 |_,_=>false
end
theorem vC:∀{xs:List PV}{j:Nat}{x:PV},yx xs=true->xs[j]?= some x->plain x=true
 |[],_,_,_,e=>by simp at e
 |y::ys,0,x,h,e=>by
  simp at e;subst e;unfold yx at h;exact(Bool.and_eq_true_iff.mp h).1
 |y::ys,j+1,x,h,e=>by
  unfold yx at h;exact vC (j:=j) (Bool.and_eq_true_iff.mp h).2 (by simpa using e)
theorem jeK:∀{xs:List PV}{j:Nat}{x:PV},xs[j]?= some x->dep x<=xu xs
 |[],_,_,e=>by simp at e
 |y::ys,0,x,e=>by
  simp at e;subst e;show dep y<=max (dep y) (xu ys);omega
 |y::ys,j+1,x,e=>by
  have:=jeK (j:=j) (xs:=ys) (x:=x) (by simpa using e)
  show dep x<=max (dep y) (xu ys);omega
theorem uc:∀{xs ys:List PV},xs.length≠ys.length->Vj xs ys=false
 |[],[],h=>absurd rfl h
 |[],_::_,_=>rfl
 |_::_,[],_=>rfl
 |x::xs,y::ys,h=>by
  have:Vj xs ys=false:=uc λe=>h (by simp[e])
  show(eqB x y && Vj xs ys)=false;rw[this,Bool.and_false]
theorem xP:∀{xs ys:List PV},xs.length=ys.length->((List.range xs.length).all λi=>eqB (xs.getD i .non) (ys.getD i .non))=Vj xs ys
 |[],[],_=>rfl
 |x::xs,y::ys,h=>by
  rw[length_cons,List.range_succ_eq_map,all_cons,all_map];have ih:=xP (xs:=xs) (ys:=ys) (by simpa using h)
  show(eqB x y && _)=(eqB x y && Vj xs ys)
  rw[<-ih];rfl
 |[],_::_,h=>by simp at h
 |_::_,[],h=>by simp at h
mutual
theorem Jn:∀{x:PV},plain x=true->eqB x x=true
 |.non,_=>rfl
 |.bl b,_=>by show(b==b)=true;simp
 |.int b,_=>by show(b==b)=true;simp
 |.str b,_=>by show(b==b)=true;simp
 |.tup xs,h=>Ye (xs:=xs) h
 |.lst xs,h=>Ye (xs:=xs) h
theorem Ye:∀{xs:List PV},yx xs=true->Vj xs xs=true
 |[],_=>rfl
 |x::xs,h=>by
  unfold yx at h;have h:=Bool.and_eq_true_iff.mp h;show(eqB x x && Vj xs xs)=true;rw[Jn h.1,Ye h.2];rfl
end
def AtH (W:Wd)(s:Shared):PV->Value->Prop
 |.non,u=>u= .none
 |.bl b,u=>u= .bool b
 |.int i,u=>∃t,u= .int i t
 |.str x,u=>∃t,u= .str x t
 |.lst xs,u=>∃a its vs,u= .ref a/\s.heap.IsList a (toArray its)/\yg vs its/\yd W xs vs
 |.tup xs,u=>∃a its vs,u= .ref a/\s.heap.IsTuple a (toArray its)/\yg vs its/\yd W xs vs
 |_,_=>False
theorem uO:∀{xs:List V}{us:List Value}{j:Nat}{u:Value},yg xs us->us[j]?= some u->∃v,xs[j]?= some v/\RelV v u
 |_,_,_,_,.nil,e=>by simp at e
 |_,_,0,_,.cons r _,e=>by simp at e;subst e;exact⟨_,rfl,r⟩
 |_,_,j+1,u,.cons _ t,e=>by
  obtain⟨v,h1,h2⟩:=uO (j:=j) t (by simpa using e);exact⟨v,by simpa using h1,h2⟩
theorem uX:∀{W:Wd}{xs:List PV}{vs:List V}{i:Nat}{v:V},yd W xs vs->vs[i]?= some v->∃x,xs[i]?= some x/\Rep W x v
 |_,[],_,_,_,r,e=>by cases r;simp at e
 |_,_::_,_,0,_,⟨v,r,e,a,_⟩,q=>by subst e;simp at q;subst q;exact⟨_,rfl,a⟩
 |_,_::_,_,i+1,_,⟨v,r,e,_,b⟩,q=>by
  subst e;obtain⟨x,h1,h2⟩:=uX (i:=i) b (by simpa using q);exact⟨x,by simpa using h1,h2⟩
section
variable {X:Cx}{bF:tP0}{σ:St}{H:Hp}{s:Shared}{W:Wd}{M:Sto}
theorem atH (I:Inv X bF σ H s)(hh:Held W M H)(hT:W.T.K=X.K){x:PV}{v:V}{u:Value}(p:plain x=true)(r:Rep W x v)(q:RelV v u):AtH W s x u:=by
 cases x with
 |non=>cases r;exact q
 |bl b=>cases r;exact q
 |int b=>cases r;exact q
 |str b=>cases r;exact q
 |lst xs=>
  obtain⟨a,vs,rfl,e,rr⟩:=r;cases q;obtain⟨its,rv,pl,_⟩:=I.list (SqL.of (hh.f _ _ e));exact⟨a,its,vs,rfl,pl.isList,rv,rr⟩
 |tup xs=>
  obtain⟨a,vs,rfl,e,rr⟩:=r;cases q;obtain⟨its,rv,pl,_⟩:=I.tuple (show SqT X.K H a vs from hT ▸ YY hh.f e.toT);exact⟨a,its,vs,rfl,pl,rv,rr⟩
 |_=>cases p
theorem jlJ {a:Addr}{its its':Array Value}(h:s.heap.IsList a its)(h':s.heap.IsTuple a its'):False:=SeqAt.ne_of_list_tuple h h' rfl
def jjh:V->Option PV
 |.non=>some .non
 |.bl b=>some (.bl b)
 |.int i=>some (.int i)
 |.str x=>some (.str x)
 |_=>none
theorem Xi (I:Inv X bF σ H s)(hh:Held W M H)(hT:W.T.K=X.K){x:PV}{v:V}(p:plain x=true)(r:Rep W x v):jjh v=some x\/∃a vs,v= .ref a/\((∃xs,x= .lst xs/\W.F a=some (.lst vs)/\yd W xs vs/\∃its,s.heap.IsList a its)\/(∃xs,x= .tup xs/\SqT X.K H a vs/\yd W xs vs/\∃its,s.heap.IsTuple a its)):=by
 cases x with
 |non=>cases r;exact .inl rfl
 |bl _=>cases r;exact .inl rfl
 |int _=>cases r;exact .inl rfl
 |str _=>cases r;exact .inl rfl
 |lst xs=>
  obtain⟨a,vs,rfl,e,rr⟩:=r;obtain⟨its,_,pl,_⟩:=I.list (SqL.of (hh.f _ _ e));exact .inr ⟨a,vs,rfl,.inl ⟨xs,rfl,e,rr,_,pl.isList⟩⟩
 |tup xs=>
  obtain⟨a,vs,rfl,e,rr⟩:=r
  have e:=(show SqT X.K H a vs from hT ▸ YY hh.f e.toT)
  obtain⟨its,_,pl,_⟩:=I.tuple e;exact .inr ⟨a,vs,rfl,.inr ⟨xs,rfl,e,rr,_,pl⟩⟩
 |_=>cases p
theorem jaH {n:Nat}(ih:∀(x y:PV) (v:V),dep x<n->plain x=true->plain y=true->Rep W x v->Rep W y v->x=y)(xs:List PV):∀(ys:List PV) (vs:List V),xu xs<n->yx xs=true->yx ys=true->yd W xs vs->yd W ys vs->xs=ys:=by
 induction xs with
 |nil=>
  intro ys vs _ _ _ r q;cases r;cases ys with
  |nil=>rfl
  |cons y ys=>obtain⟨_,_,e,_⟩:=q;cases e
 |cons x xs hi=>
  intro ys vs hn p p' r q;obtain⟨v,r,rfl,a,b⟩:=r;cases ys with
  |nil=>cases q
  |cons y ys=>
   obtain⟨v',r',e',a',b'⟩:=q;cases e';unfold yx at p p';have p:=Bool.and_eq_true_iff.mp p;have p':=Bool.and_eq_true_iff.mp p';have hn:max (dep x) (xu xs)<n:=hn;rw[ih x y v (by omega) p.1 p'.1 a a',hi ys r (by omega) p.2 p'.2 b b']
theorem jdk (I:Inv X bF σ H s)(hh:Held W M H)(hT:W.T.K=X.K){x y:PV}{v:V}(px:plain x=true)(py:plain y=true)(rx:Rep W x v)(ry:Rep W y v):x=y:=by
 suffices h:∀(n:Nat) (x y:PV) (v:V),dep x<n->plain x=true->plain y=true->Rep W x v->Rep W y v->x=y from h _ x y v (lt_succ_self _) px py rx ry
 intro n
 induction n with
 |zero=>intro x y v h;exact absurd h (not_lt_zero _)
 |succ n ih=>
 intro x y v hn px py rx ry;rcases Xi I hh hT px rx with h|⟨a,vs,rfl,h⟩
 ·rcases Xi I hh hT py ry with h'|⟨a,vs,rfl,_⟩
  ·rw[h]at h';exact Option.some.inj h'
  ·cases h
 rcases Xi I hh hT py ry with h'|⟨a',us,e,h'⟩
 ·cases h'
 cases e;rcases h with⟨xs,rfl,f,rr,its,hl⟩|⟨xs,rfl,f,rr,its,hl⟩ <;> rcases h' with⟨ys,rfl,f',c6,its',d8⟩|⟨ys,rfl,f',c6,its',d8⟩
 ·rw[f]at f';cases f';rw[jaH ih xs ys vs (show xu xs<n from Nat.lt_of_succ_lt_succ hn) px py rr c6]
 ·exact(jlJ hl d8).elim
 ·exact(jlJ d8 hl).elim
 ·have:=I.aA f f'
  subst this;rw[jaH ih xs ys vs (show xu xs<n from Nat.lt_of_succ_lt_succ hn) px py rr c6]
theorem Yh {I0:Prop}{xs ys:List PV}{vs us:List V}{its its':List Value}{A:Around}(ih:∀(x y:PV) {v u:V}{v' u':Value},dep x<=xu xs->plain x=true->plain y=true->Rep W x v->Rep W y u->RelV v v'->RelV u u'->SeqAt.EqAt A s v' u' (eqB x y))(px:yx xs=true) (py:yx ys=true) (rx:yd W xs vs) (ry:yd W ys us) (qx:yg vs its) (qy:yg us its') {j:Nat}(h1:j<its.length) (h2:j<its'.length):SeqAt.EqAt A s its[j] its'[j] (eqB (xs.getD j .non) (ys.getD j .non)):=by
 obtain⟨v,e1,r1⟩:=uO qx (getElem?_eq_getElem h1);obtain⟨u,e2,r2⟩:=uO qy (getElem?_eq_getElem h2);obtain⟨x,e3,r3⟩:=uX rx e1;obtain⟨y,e4,r4⟩:=uX ry e2;rw[getD_eq_getElem?_getD,getD_eq_getElem?_getD,e3,e4];exact ih x y (jeK e3) (vC px e3) (vC py e4) r3 r4 r1 r2
theorem XI (I:Inv X bF σ H s)(hh:Held W M H)(hT:W.T.K=X.K):∀(n:Nat) (x y:PV) {v u:V}{v' u':Value}(A:Around),dep x<n->A.units+dep x<cLine->plain x=true->plain y=true->Rep W x v->Rep W y u->RelV v v'->RelV u u'->SeqAt.EqAt A s v' u' (eqB x y):=by
 intro n
 induction n with
 |zero=>intro x y v u v' u' A h;exact absurd h (not_lt_zero _)
 |succ n ih=>
 intro x y v u v' u' A hn hu px py rx ry qx qy;cases x with
 |lst xs=>
  have hn:xu xs+1<n+1:=hn;have hu:A.units+(xu xs+1)<cLine:=hu
  obtain⟨a,its,vs,rfl,il,rv,rr⟩:=(show AtH W s (.lst xs) v' from atH I hh hT px rx qx)
  have hy:=atH I hh hT py ry qy;cases y with
  |lst ys=>
   obtain⟨b,its',us,rfl,bW,d4,c6⟩:=hy
   by_cases fA:a=b
   ·subst fA;have e:v=u:=qx.inj qy;subst e;have e:=jdk I hh hT px py rx ry;cases e;rw[Jn px];exact SeqAt.EqAt.same _
   ·refine SeqAt.EqAt.of_refs fA ?_;have l1:=rv.length;have l2:=d4.length;have l3:=rr.length;have l4:=c6.length
    by_cases hl:xs.length=ys.length
    ·have:=SeqAt.RcAt.lists (A:=A) (e:=λj=>eqB (xs.getD j .non) (ys.getD j .non)) il bW (by simp;omega) (by omega) λj h1 h2=>Yh (I0:=True) (λx y v u v' u' hd=>ih x y A.in1 (by omega) (show A.units+1+dep x<cLine by omega)) px py rr c6 rv d4 (j:=j) (by simpa using h1) (by simpa using h2)
     rw[size_toArray,show its.length=xs.length by omega,xP hl]at this;exact this
    ·have:=SeqAt.RcAt.lists_lengths (A:=A) il bW (by simp;omega) (by omega)
     rw[show eqB (.lst xs) (.lst ys)=false from uc hl];exact this
  |tup ys=>
   obtain⟨b,its',us,rfl,bW,d4,c6⟩:=hy;exact SeqAt.EqAt.list_tuple il bW (by omega)
  |non=>cases hy;exact SeqAt.EqAt.list_none il (by omega)
  |bl b=>cases hy;exact SeqAt.EqAt.list_bool b il (by omega)
  |int b=>obtain⟨t,rfl⟩:=hy;exact SeqAt.EqAt.list_int b t il (by omega)
  |str b=>obtain⟨t,rfl⟩:=hy;exact SeqAt.EqAt.list_str b t il (by omega)
  |_=>cases py
 |tup xs=>
  have hn:xu xs+1<n+1:=hn;have hu:A.units+(xu xs+1)<cLine:=hu
  obtain⟨a,its,vs,rfl,il,rv,rr⟩:=(show AtH W s (.tup xs) v' from atH I hh hT px rx qx)
  have hy:=atH I hh hT py ry qy;cases y with
  |tup ys=>
   obtain⟨b,its',us,rfl,bW,d4,c6⟩:=hy
   by_cases fA:a=b
   ·subst fA;have e:v=u:=qx.inj qy;subst e;have e:=jdk I hh hT px py rx ry;cases e;rw[Jn px];exact SeqAt.EqAt.same _
   ·refine SeqAt.EqAt.of_refs fA ?_;have l1:=rv.length;have l2:=d4.length;have l3:=rr.length;have l4:=c6.length
    have:=SeqAt.RcAt.tuples (A:=A) (e:=λj=>eqB (xs.getD j .non) (ys.getD j .non)) il bW (by omega) λj h1 h2=>Yh (I0:=True) (λx y v u v' u' hd=>ih x y A.in1 (by omega) (show A.units+1+dep x<cLine by omega)) px py rr c6 rv d4 (j:=j) (by simpa using h1) (by simpa using h2)
    by_cases hl:xs.length=ys.length
    ·rw[size_toArray,size_toArray,show its.length=xs.length by omega,show its'.length=xs.length by omega,Nat.min_self,xP hl,beq_self_eq_true,Bool.and_true]at this;exact this
    ·rw[size_toArray,size_toArray,show its.length=xs.length by omega,show its'.length=ys.length by omega,show(xs.length==ys.length)=false by simpa using hl,Bool.and_false]at this;rw[show eqB (.tup xs) (.tup ys)=false from uc hl];exact this
  |lst ys=>
   obtain⟨b,its',us,rfl,bW,d4,c6⟩:=hy;exact SeqAt.EqAt.tuple_list il bW (by omega)
  |non=>cases hy;exact SeqAt.EqAt.tuple_none il (by omega)
  |bl b=>cases hy;exact SeqAt.EqAt.tuple_bool b il (by omega)
  |int b=>obtain⟨t,rfl⟩:=hy;exact SeqAt.EqAt.tuple_int b t il (by omega)
  |str b=>obtain⟨t,rfl⟩:=hy;exact SeqAt.EqAt.tuple_str b t il (by omega)
  |_=>cases py
 |non=>
  cases rx;cases qx;have hu:A.units<cLine:=hu;have hy:=atH I hh hT py ry qy;cases y with
  |non=>cases hy;exact SeqAt.EqAt.same _
  |bl b=>cases hy;exact SeqAt.EqAt.none_bool b
  |int b=>obtain⟨t,rfl⟩:=hy;exact SeqAt.EqAt.none_int b t
  |str b=>obtain⟨t,rfl⟩:=hy;exact SeqAt.EqAt.none_str b t
  |lst ys=>obtain⟨b,its',us,rfl,bW,_⟩:=hy;exact SeqAt.EqAt.none_list bW hu
  |tup ys=>obtain⟨b,its',us,rfl,bW,_⟩:=hy;exact SeqAt.EqAt.none_tuple bW hu
  |_=>cases py
 |bl a=>
  cases rx;cases qx;have hu:A.units<cLine:=hu;have hy:=atH I hh hT py ry qy;cases y with
  |non=>cases hy;exact SeqAt.EqAt.bool_none a
  |bl b=>cases hy;exact SeqAt.EqAt.bool_bool a b
  |int b=>obtain⟨t,rfl⟩:=hy;exact SeqAt.EqAt.bool_int a b t
  |str b=>obtain⟨t,rfl⟩:=hy;exact SeqAt.EqAt.bool_str a b t
  |lst ys=>obtain⟨b,its',us,rfl,bW,_⟩:=hy;exact SeqAt.EqAt.bool_list a bW hu
  |tup ys=>obtain⟨b,its',us,rfl,bW,_⟩:=hy;exact SeqAt.EqAt.bool_tuple a bW hu
  |_=>cases py
 |int a=>
  cases rx;obtain⟨t,rfl⟩:=qx;have hu:A.units<cLine:=hu;have hy:=atH I hh hT py ry qy;cases y with
  |non=>cases hy;exact SeqAt.EqAt.int_none a t
  |bl b=>cases hy;exact SeqAt.EqAt.int_bool a t b
  |int b=>obtain⟨t',rfl⟩:=hy;exact SeqAt.EqAt.int_int a t b t'
  |str b=>obtain⟨t',rfl⟩:=hy;exact SeqAt.EqAt.int_str a t b t'
  |lst ys=>obtain⟨b,its',us,rfl,bW,_⟩:=hy;exact SeqAt.EqAt.int_list a t bW hu
  |tup ys=>obtain⟨b,its',us,rfl,bW,_⟩:=hy;exact SeqAt.EqAt.int_tuple a t bW hu
  |_=>cases py
 |str a=>
  cases rx;obtain⟨t,rfl⟩:=qx;have hu:A.units<cLine:=hu;have hy:=atH I hh hT py ry qy;cases y with
  |non=>cases hy;exact SeqAt.EqAt.str_none a t
  |bl b=>cases hy;exact SeqAt.EqAt.str_bool a t b
  |int b=>obtain⟨t',rfl⟩:=hy;exact SeqAt.EqAt.str_int a t b t'
  |str b=>obtain⟨t',rfl⟩:=hy;exact SeqAt.EqAt.str_str a t b t'
  |lst ys=>obtain⟨b,its',us,rfl,bW,_⟩:=hy;exact SeqAt.EqAt.str_list a t bW hu
  |tup ys=>obtain⟨b,its',us,rfl,bW,_⟩:=hy;exact SeqAt.EqAt.str_tuple a t bW hu
  |_=>cases py
 |_=>cases px
theorem jhl (I:Inv X bF σ H s)(hh:Held W M H)(hT:W.T.K=X.K){x y:PV}{v u:V}{v' u':Value}{A:Around}(hu:A.units+dep x<cLine)(px:plain x=true)(py:plain y=true)(rx:Rep W x v)(ry:Rep W y u)(qx:RelV v v')(qy:RelV u u') :
  SeqAt.RcAt A s v' u' (eqB x y)/\SeqAt.RcNeAt A s v' u' (!eqB x y):=by
 have hx:=atH I hh hT px rx qx;have hy:=atH I hh hT py ry qy;have hu0:A.units<cLine:=by omega
 cases x with
 |non=>
  cases hx;cases y with
  |non=>cases hy;exact⟨SeqAt.RcAt.none_none,SeqAt.RcNeAt.none_none⟩
  |bl b=>cases hy;exact⟨SeqAt.RcAt.none_bool b,SeqAt.RcNeAt.none_bool b⟩
  |int b=>obtain⟨t,rfl⟩:=hy;exact⟨SeqAt.RcAt.none_int b t,SeqAt.RcNeAt.none_int b t⟩
  |str b=>obtain⟨t,rfl⟩:=hy;exact⟨SeqAt.RcAt.none_str b t,SeqAt.RcNeAt.none_str b t⟩
  |lst ys=>obtain⟨b,its',us,rfl,bW,_⟩:=hy;exact⟨SeqAt.RcAt.none_list bW hu0,SeqAt.RcNeAt.none_list bW hu0⟩
  |tup ys=>obtain⟨b,its',us,rfl,bW,_⟩:=hy;exact⟨SeqAt.RcAt.none_tuple bW hu0,SeqAt.RcNeAt.none_tuple bW hu0⟩
  |_=>cases py
 |bl a=>
  cases hx;cases y with
  |non=>cases hy;exact⟨SeqAt.RcAt.bool_none a,SeqAt.RcNeAt.bool_none a⟩
  |bl b=>cases hy;exact⟨SeqAt.RcAt.bool_bool a b,SeqAt.RcNeAt.bool_bool a b⟩
  |int b=>obtain⟨t,rfl⟩:=hy;exact⟨SeqAt.RcAt.bool_int a b t,SeqAt.RcNeAt.bool_int a b t⟩
  |str b=>obtain⟨t,rfl⟩:=hy;exact⟨SeqAt.RcAt.bool_str a b t,SeqAt.RcNeAt.bool_str a b t⟩
  |lst ys=>obtain⟨b,its',us,rfl,bW,_⟩:=hy;exact⟨SeqAt.RcAt.bool_list a bW hu0,SeqAt.RcNeAt.bool_list a bW hu0⟩
  |tup ys=>obtain⟨b,its',us,rfl,bW,_⟩:=hy;exact⟨SeqAt.RcAt.bool_tuple a bW hu0,SeqAt.RcNeAt.bool_tuple a bW hu0⟩
  |_=>cases py
 |int a=>
  obtain⟨t,rfl⟩:=hx
  cases y with
  |non=>cases hy;exact⟨SeqAt.RcAt.int_none a t,SeqAt.RcNeAt.int_none a t⟩
  |bl b=>cases hy;exact⟨SeqAt.RcAt.int_bool a t b,SeqAt.RcNeAt.int_bool a t b⟩
  |int b=>obtain⟨t',rfl⟩:=hy;exact⟨SeqAt.RcAt.int_int a t b t',SeqAt.RcNeAt.int_int a t b t'⟩
  |str b=>obtain⟨t',rfl⟩:=hy;exact⟨SeqAt.RcAt.int_str a t b t',SeqAt.RcNeAt.int_str a t b t'⟩
  |lst ys=>obtain⟨b,its',us,rfl,bW,_⟩:=hy;exact⟨SeqAt.RcAt.int_list a t bW hu0,SeqAt.RcNeAt.int_list a t bW hu0⟩
  |tup ys=>obtain⟨b,its',us,rfl,bW,_⟩:=hy;exact⟨SeqAt.RcAt.int_tuple a t bW hu0,SeqAt.RcNeAt.int_tuple a t bW hu0⟩
  |_=>cases py
 |str a=>
  obtain⟨t,rfl⟩:=hx
  cases y with
  |non=>cases hy;exact⟨SeqAt.RcAt.str_none a t,SeqAt.RcNeAt.str_none a t⟩
  |bl b=>cases hy;exact⟨SeqAt.RcAt.str_bool a t b,SeqAt.RcNeAt.str_bool a t b⟩
  |int b=>obtain⟨t',rfl⟩:=hy;exact⟨SeqAt.RcAt.str_int a t b t',SeqAt.RcNeAt.str_int a t b t'⟩
  |str b=>obtain⟨t',rfl⟩:=hy;exact⟨SeqAt.RcAt.str_str a t b t',SeqAt.RcNeAt.str_str a t b t'⟩
  |lst ys=>obtain⟨b,its',us,rfl,bW,_⟩:=hy;exact⟨SeqAt.RcAt.str_list a t bW hu0,SeqAt.RcNeAt.str_list a t bW hu0⟩
  |tup ys=>obtain⟨b,its',us,rfl,bW,_⟩:=hy;exact⟨SeqAt.RcAt.str_tuple a t bW hu0,SeqAt.RcNeAt.str_tuple a t bW hu0⟩
  |_=>cases py
 |lst xs=>
  obtain⟨a,its,vs,rfl,il,rv,rr⟩:=hx;have hu:A.units+(xu xs+1)<cLine:=hu
  cases y with
  |lst ys=>
   obtain⟨b,its',us,rfl,bW,d4,c6⟩:=hy;have l1:=rv.length;have l2:=d4.length;have l3:=rr.length;have l4:=c6.length
   by_cases hl:xs.length=ys.length
   ·have t1:=SeqAt.RcAt.lists (A:=A) (e:=λj=>eqB (xs.getD j .non) (ys.getD j .non)) il bW (by simp;omega) (by omega) λj h1 h2=>Yh (I0:=True) (λx y v u v' u' hd=>XI I hh hT (dep x+1) x y A.in1 (by omega) (show A.units+1+dep x<cLine by omega)) px py rr c6 rv d4 (j:=j) (by simpa using h1) (by simpa using h2);have t2:=SeqAt.RcNeAt.lists (A:=A) (e:=λj=>eqB (xs.getD j .non) (ys.getD j .non)) il bW (by simp;omega) (by omega) λj h1 h2=>Yh (I0:=True) (λx y v u v' u' hd=>XI I hh hT (dep x+1) x y A.in1 (by omega) (show A.units+1+dep x<cLine by omega)) px py rr c6 rv d4 (j:=j) (by simpa using h1) (by simpa using h2);rw[size_toArray,show its.length=xs.length by omega,xP hl]at t1 t2;exact⟨t1,t2⟩
   ·rw[show eqB (.lst xs) (.lst ys)=false from uc hl];exact⟨SeqAt.RcAt.lists_lengths (A:=A) il bW (by simp;omega) (by omega),SeqAt.RcNeAt.lists_lengths (A:=A) il bW (by simp;omega) (by omega)⟩
  |tup ys=>obtain⟨b,its',us,rfl,bW,d4,c6⟩:=hy;exact⟨SeqAt.RcAt.list_tuple il bW (by omega),SeqAt.RcNeAt.list_tuple il bW (by omega)⟩
  |non=>cases hy;exact⟨SeqAt.RcAt.list_none il (by omega),SeqAt.RcNeAt.list_none il (by omega)⟩
  |bl b=>cases hy;exact⟨SeqAt.RcAt.list_bool b il (by omega),SeqAt.RcNeAt.list_bool b il (by omega)⟩
  |int b=>obtain⟨t,rfl⟩:=hy;exact⟨SeqAt.RcAt.list_int b t il (by omega),SeqAt.RcNeAt.list_int b t il (by omega)⟩
  |str b=>obtain⟨t,rfl⟩:=hy;exact⟨SeqAt.RcAt.list_str b t il (by omega),SeqAt.RcNeAt.list_str b t il (by omega)⟩
  |_=>cases py
 |tup xs=>
  obtain⟨a,its,vs,rfl,il,rv,rr⟩:=hx;have hu:A.units+(xu xs+1)<cLine:=hu
  cases y with
  |tup ys=>
   obtain⟨b,its',us,rfl,bW,d4,c6⟩:=hy;have l1:=rv.length;have l2:=d4.length;have l3:=rr.length;have l4:=c6.length;have t1:=SeqAt.RcAt.tuples (A:=A) (e:=λj=>eqB (xs.getD j .non) (ys.getD j .non)) il bW (by omega) λj h1 h2=>Yh (I0:=True) (λx y v u v' u' hd=>XI I hh hT (dep x+1) x y A.in1 (by omega) (show A.units+1+dep x<cLine by omega)) px py rr c6 rv d4 (j:=j) (by simpa using h1) (by simpa using h2);have t2:=SeqAt.RcNeAt.tuples (A:=A) (e:=λj=>eqB (xs.getD j .non) (ys.getD j .non)) il bW (by omega) λj h1 h2=>Yh (I0:=True) (λx y v u v' u' hd=>XI I hh hT (dep x+1) x y A.in1 (by omega) (show A.units+1+dep x<cLine by omega)) px py rr c6 rv d4 (j:=j) (by simpa using h1) (by simpa using h2)
   by_cases hl:xs.length=ys.length
   ·rw[size_toArray,size_toArray,show its.length=xs.length by omega,show its'.length=xs.length by omega,Nat.min_self,xP hl,beq_self_eq_true,Bool.and_true]at t1 t2;exact⟨t1,t2⟩
   ·rw[size_toArray,size_toArray,show its.length=xs.length by omega,show its'.length=ys.length by omega,show(xs.length==ys.length)=false by simpa using hl,Bool.and_false]at t1 t2;rw[show eqB (.tup xs) (.tup ys)=false from uc hl];exact⟨t1,t2⟩
  |lst ys=>obtain⟨b,its',us,rfl,bW,d4,c6⟩:=hy;exact⟨SeqAt.RcAt.tuple_list il bW (by omega),SeqAt.RcNeAt.tuple_list il bW (by omega)⟩
  |non=>cases hy;exact⟨SeqAt.RcAt.tuple_none il (by omega),SeqAt.RcNeAt.tuple_none il (by omega)⟩
  |bl b=>cases hy;exact⟨SeqAt.RcAt.tuple_bool b il (by omega),SeqAt.RcNeAt.tuple_bool b il (by omega)⟩
  |int b=>obtain⟨t,rfl⟩:=hy;exact⟨SeqAt.RcAt.tuple_int b t il (by omega),SeqAt.RcNeAt.tuple_int b t il (by omega)⟩
  |str b=>obtain⟨t,rfl⟩:=hy;exact⟨SeqAt.RcAt.tuple_str b t il (by omega),SeqAt.RcNeAt.tuple_str b t il (by omega)⟩
  |_=>cases py
 |_=>cases px
end
section
variable {X:Cx}{T:Tb}{f:Value->Value->Sem Value}
def gI (C:Int->Int->Bool)(z:Int->Int->PV):G2:=λ_ x y=>match x,y with
 |.int i,.int j=>if C i j=true then some (z i j)else none
 |_,_=>none
theorem jeD {C:Int->Int->Bool}{z:Int->Int->PV}{M:Sto}{x y w:PV}(e:gI C z M x y=some w):∃i j,x= .int i/\y= .int j/\C i j=true/\w=z i j:=by
 unfold gI at e;split at e
 ·split at e
  ·rename_i h;cases e;exact⟨_,_,rfl,rfl,h,rfl⟩
  ·cases e
 ·cases e
theorem jes {C:Int->Int->Bool}{z:Int->Int->PV}{D:Int->Int->Prop}{zv:Int->Int->V}(h:OpR X f (rI D zv))(hD:∀i j,C i j=true->D i j)(hz:∀W i j,Rep W (z i j) (zv i j)):OpP X T f (gI C z):=
 vE h λv u H Q bH=>by
  obtain⟨W,M,x,y,w,k,hh,rx,ry,e,q⟩:=bH;obtain⟨i,j,rfl,rfl,hc,rfl⟩:=jeD e;exact⟨i,j,rx,ry,hD i j hc,q W H _ (.refl W) hh (hz W i j)⟩
theorem JU {z:Int->Int->PV}{zv:Int->Int->V}(h:OpR X f (rI0 zv))(hz:∀W i j,Rep W (z i j) (zv i j)):OpP X T f (gI (λ_ _=>true) z):=
 vE h λv u H Q bH=>by
  obtain⟨W,M,x,y,w,k,hh,rx,ry,e,q⟩:=bH;obtain⟨i,j,rfl,rfl,hc,rfl⟩:=jeD e;exact⟨i,j,rx,ry,q W H _ (.refl W) hh (hz W i j)⟩
abbrev jfy:Int->Int->Bool:=λ_ _=>true
def jeE:G2:=gI jfy λi j=>.int (i+j)
def jgo:G2:=gI jfy λi j=>.int (i-j)
def jlo (i j:Int):Bool:=(decide (-(2 ^ 64)<i) && decide (i<2 ^ 64)) || (decide (-(2 ^ 64)<j) && decide (j<2 ^ 64))
def jeC:G2:=gI jlo λi j=>.int (i*j)
def jiE:G2:=gI (λ_ j=>decide (0<j) && decide (j<1073741824)) λi j=>.int (i/j)
def jbl:G2:=gI (λ_ j=>decide (0<j)) λi j=>.int (i%j)
def joJ:G2:=gI (λi j=>decide (0<=j) && decide (j<=1000000) && decide (i.natAbs<2 ^ 64)) λi j=>.int (i ^ j.toNat)
def gLt:G2:=gI jfy λi j=>.bl (decide (i<j))
def gLe:G2:=gI jfy λi j=>.bl (decide (i<=j))
def gGt:G2:=gI jfy λi j=>.bl (decide (j<i))
def gGe:G2:=gI jfy λi j=>.bl (decide (j<=i))
theorem jol:OpP X T (binaryOp .Add) jeE:=JU jnD λ_ _ _=>rfl
theorem jlF:OpP X T (binaryOp .Sub) jgo:=JU jnw λ_ _ _=>rfl
theorem joi:OpP X T (binaryOp .Mult) jeC:=jes jnA (λi j h=>by
 unfold jlo at h;simp only[Bool.or_eq_true,and_eq_true,decide_eq_true_eq]at h;exact h) λ_ _ _=>rfl
theorem jhW:OpP X T (binaryOp .FloorDiv) jiE:=jes jkD (λi j h=>by
 simp only[and_eq_true,decide_eq_true_eq]at h;exact h) λ_ _ _=>rfl
theorem Vv:OpP X T (binaryOp .Mod) jbl:=jes jnB (λi j h=>of_decide_eq_true h) λ_ _ _=>rfl
theorem jqa:OpP X T (binaryOp .Pow) joJ:=jes jny (λi j h=>by
 simp only[and_eq_true,decide_eq_true_eq]at h
 exact⟨h.1.1,h.1.2,h.2⟩) λ_ _ _=>rfl
theorem joj:OpP X T (compareOp .Lt) gLt:=JU jpS λ_ _ _=>rfl
theorem jqb:OpP X T (compareOp .LtE) gLe:=JU jpT λ_ _ _=>rfl
theorem jrl:OpP X T (compareOp .Gt) gGt:=JU jpU λ_ _ _=>rfl
theorem jrm:OpP X T (compareOp .GtE) gGe:=JU jpV λ_ _ _=>rfl
def jcS:G2:=λM x y=>match yz M x,yz M y with
 |some xs,some ys=>if xs.length+ys.length<=sizeLine then some (.lst (xs++ys))else none
 |_,_=>none
theorem jqc:OpP X T (binaryOp .Add) jcS:=vE jnC λv u H Q bH=>by
 obtain⟨W,M,x,y,w,k,hh,rx,ry,e,q⟩:=bH;unfold jcS at e;split at e
 ·rename_i xs ys e1 e2;split at e
  ·rename_i hz;cases e;obtain⟨a,vs,rfl,ha,rv⟩:=yW hh rx e1;obtain⟨b,us,rfl,hb,ru⟩:=yW hh ry e2;refine⟨a,b,vs,us,rfl,rfl,ha,hb,by rw[rv.length,ru.length];exact hz,λp hp=>?_⟩;obtain⟨W2,l2,h2,r2⟩:=xX hh (rv.append ru) hp;exact q W2 _ _ l2 h2 r2
  ·cases e
 ·cases e
def jbn:G2:=λ_ x y=>match x,y with
 |.tup xs,.tup ys=>if xs≠[]/\xs.length+ys.length<=sizeLine then some (.tup (xs++ys))else none
 |_,_=>none
theorem yd.ao {W:Wd}{xs:List PV}{vs:List V}(r:yd W xs vs):vs=[]↔xs=[]:=by
 have:=r.length
 constructor
 ·rintro rfl;exact eq_nil_of_length_eq_zero (by simpa using this.symm)
 ·rintro rfl;exact eq_nil_of_length_eq_zero (by simpa using this)
theorem jok (hT:T.K=X.K):OpP X T (binaryOp .Add) jbn:=vE jkE λv u H Q bH=>by
 obtain⟨W,M,x,y,w,k,hh,rx,ry,e,q⟩:=bH;unfold jbn at e;split at e
 ·rename_i xs ys;split at e
  ·rename_i hz;cases e;obtain⟨a,vs,rfl,ha,rv⟩:=yU hh rx;obtain⟨b,us,rfl,hb,ru⟩:=yU hh ry;rw[k,hT]at ha hb;refine⟨a,b,vs,us,rfl,rfl,ha,hb,λz=>hz.1 (rv.ao.mp z),by rw[rv.length,ru.length];exact hz.2,λz=>?_,λz p hp=>?_⟩
   ·have z:=ru.ao.mp z;subst z;rw[append_nil]at q;exact q W H _ (.refl W) hh rx
   ·obtain⟨W2,l2,h2,r2⟩:=uq hh (rv.append ru) hp;exact q W2 _ _ l2 h2 r2
  ·cases e
 ·cases e
def uG:G2:=orG jeE (orG jcS jbn)
theorem Jb (hT:T.K=X.K):OpP X T (binaryOp .Add) uG:=jcv jol (jcv jqc (jok hT))
def jkY:G2:=λM x y=>match y with
 |.int k=>(match yz M x with
  |some xs=>if -(2 ^ 63)<=k/\k<2 ^ 63/\xs.length*k.toNat<=sizeLine then some (.lst (replicate k.toNat xs).flatten)else none
  |none=>none)
 |_=>none
theorem jpZ:OpP X T (binaryOp .Mult) jkY:=vE jnx λv u H Q bH=>by
 obtain⟨W,M,x,y,w,k,hh,rx,ry,e,q⟩:=bH;unfold jkY at e;split at e
 ·rename_i i;split at e
  ·rename_i xs e1;split at e
   ·rename_i hz;cases e;obtain⟨a,vs,rfl,ha,rv⟩:=yW hh rx e1;refine⟨a,i,vs,rfl,ry,ha,hz.1,hz.2.1,by rw[rv.length];exact hz.2.2,λp hp=>?_⟩;obtain⟨W2,l2,h2,r2⟩:=xX hh (rv.rep i.toNat) hp;exact q W2 _ _ l2 h2 r2
   ·cases e
  ·cases e
 ·cases e
def jla:G2:=orG jeC jkY
theorem jlG:OpP X T (binaryOp .Mult) jla:=jcv joi jpZ
def look (M:Sto):PV->PV
 |.ref i=>(match M.g i with
  |some (.lst xs)=>.lst xs
  |_=>.ref i)
 |x=>x
theorem jgd {M:Sto}{i:Nat}(h:∀xs,M.g i≠some (.lst xs)):look M (.ref i)= .ref i:=by
 show(match M.g i with
  |some (.lst xs)=>PV.lst xs
  |_=>.ref i)=_
 split
 ·rename_i xs e;exact absurd e (h xs)
 ·rfl
theorem jif {M:Sto}{i:Nat}{xs:List PV}(h:M.g i=some (.lst xs)):look M (.ref i)= .lst xs:=by
 show(match M.g i with
  |some (.lst xs)=>PV.lst xs
  |_=>.ref i)=_
 rw[h]
def Wd.all (W:Wd)(H:Hp):Wd:=⟨W.T,H,W.α,λ_=>none⟩
theorem Held.aD {W:Wd}{M:Sto}{H:Hp}(hh:Held W M H):W.le0 (W.all H):=⟨rfl,hh.f,λ_ _ e=>e⟩
theorem Held.all {W:Wd}{M:Sto}{H:Hp}(hh:Held W M H):Held (W.all H) ⟨M.n,λ_=>none⟩ H:=⟨λ_ _ e=>e,λ_ _ e=>(by cases e),λ_ _ _ _ _ e=>(by cases e),hh.top,λ_ _ e=>(by cases e),λ_ _ e=>(by cases e)⟩
theorem vW {W:Wd}{M:Sto}{H:Hp}{x:PV}{v:V}(hh:Held W M H)(r:Rep W x v):Rep (W.all H) (look M x) v:=by
 cases x with
 |ref i=>
  by_cases h:∃xs,M.g i=some (.lst xs)
  ·obtain⟨xs,e⟩:=h;rw[jif e];obtain⟨a,rfl,ea⟩:=r;obtain⟨b,o,h1,h2,h3,vs,rfl,rr⟩:=hh.m i _ e;rw[ea]at h1;cases h1;exact⟨a,vs,rfl,h3,rr.ah hh.aD⟩
  ·rw[jgd λxs e=>h ⟨xs,e⟩];exact r.ah hh.aD
 |_=>exact r.ah hh.aD
def eqG (neg:Bool):G2:=λM x y=>if plain (look M x)=true/\plain (look M y)=true/\dep (look M x)<=60 then some (.bl (if neg then !eqB (look M x) (look M y)else eqB (look M x) (look M y)))else none
theorem Xu (hT:T.K=X.K)(hu:X.A.units+64<cLine):OpP X T (compareOp .Eq) (eqG false):=by
 intro bF s σ H v u v' u' Q I rv ru h;obtain⟨W,M,x,y,w,k,hh,rx,ry,e,q⟩:=h;unfold eqG at e;split at e
 ·rename_i hp;cases e;have t:=(jhl I hh.all (show W.T.K=X.K by rw[k];exact hT) (A:=X.A) (by omega) hp.1 hp.2.1 (vW hh rx) (vW hh ry) rv ru).1;exact t X.prog X.w X.xe _ ⟨.bl _,H,I,rfl,q W H _ (.refl W) hh rfl⟩
 ·cases e
theorem Xs (hT:T.K=X.K)(hu:X.A.units+64<cLine):OpP X T (compareOp .NotEq) (eqG true):=by
 intro bF s σ H v u v' u' Q I rv ru h;obtain⟨W,M,x,y,w,k,hh,rx,ry,e,q⟩:=h;unfold eqG at e;split at e
 ·rename_i hp;cases e;have t:=(jhl I hh.all (show W.T.K=X.K by rw[k];exact hT) (A:=X.A) (by omega) hp.1 hp.2.1 (vW hh rx) (vW hh ry) rv ru).2;exact t X.prog X.w X.xe _ ⟨.bl _,H,I,rfl,q W H _ (.refl W) hh rfl⟩
 ·cases e
theorem jlv {W:Wd}{xs:List PV}{vs:List V}{i:Int}{x:PV}(r:yd W xs vs)(e:atI xs i=some x):∃v,atI vs i=some v/\Rep W x v:=by
 unfold atI at e ⊢;rw[r.length];cases h:ixN xs.length i with
 |none=>rw[h]at e;cases e
 |some j=>
  rw[h]at e;exact r.get e
def gIx:G2:=λM x y=>match y with
 |.int i=>(uN M x).bind λxs=>atI xs i
 |_=>none
abbrev IxP (X:Cx)(T:Tb)(g:G2):Prop:=IxR X (rP T g)
theorem yS (hT:T.K=X.K):IxP X T gIx:=by
 intro value slice bF s σ H v u v' u' Q I rv ru h hs;refine(jkQ.or joB) value slice bF s σ H v u v' u' Q I rv ru ?_ hs;obtain⟨W,M,x,y,w,k,hh,rx,ry,e,q⟩:=h;unfold gIx at e;split at e
 ·rename_i i;cases e1:uN M x with
  |none=>rw[e1]at e;cases e
  |some xs=>
   rw[e1]at e;obtain⟨a,vs,rfl,hq,rr⟩:=jae hh rx e1;obtain⟨z,e2,rz⟩:=jlv rr e;rw[k,hT]at hq;rcases hq with hq|hq
   ·exact .inl ⟨a,vs,i,z,rfl,ry,hq,e2,q W H z (.refl W) hh rz⟩
   ·exact .inr ⟨a,vs,i,z,rfl,ry,hq,e2,q W H z (.refl W) hh rz⟩
 ·cases e
variable {ES:St->XK}{a b:Expr}{pos:Pos}{da db:DE}
theorem yw {g:G2}(hr:IxP X T g)(ha:QE X T ES a da)(hb:QE X T ES b db)(hs:jfk b):QE X T ES (.Subscript a b pos) (dOp g da db):=⟨jN (jpP hr ha.h hb.h hs) λ_ _ _=>YO⟩
structure QO (X:Cx)(T:Tb)(ES:St->XK)(e:Option Expr)(d:En->Sto->Res (Option Int)):Prop where
 h:PO X e (lft T (λ_ a b=>b=a) ES d)
def dON:En->Sto->Res (Option Int):=λ_ M=>.ok none M
def dOS (d:DE):En->Sto->Res (Option Int):=λρ M=>(d ρ M).bind λx M1=>match x with
 |.int i=>.ok (some i) M1
 |_=>.bad
theorem jhG {e:Option Expr}{t t':TO}(h:PO X e t)(f:∀σ H Q,t' σ H Q->t σ H Q):PO X e t':=λbF s σ H Q I q=>h bF s σ H Q I (f σ H Q q)
theorem xU:QO X T ES none dON:=⟨jhG jku λσ H Q bH=>jC bH λW ρ M k hh hs p=>p W H none (.refl W) hh rfl⟩
theorem xT (h:QE X T ES a da):QO X T ES (some a) (dOS da):=⟨jhG (jkt h.h) λσ H Q bH=>jC bH λW ρ M k hh hs p=>⟨W,ρ,M,k,hh,hs,yh.bind p λW1 M1 x v H1 l1 h1 r1 p1=>by
 split at p1
 ·rename_i i;exact⟨i,r1,p1 W1 H1 _ (.refl W1) h1 rfl⟩
 ·exact p1.elim⟩⟩
def Yj (xs:List PV)(lo hi:Option Int):List PV:=(xs.drop (HT.sIx xs.length 0 lo)).take (HT.sIx xs.length xs.length hi-HT.sIx xs.length 0 lo)
theorem jeT {W:Wd}{xs:List PV}{vs:List V}(r:yd W xs vs)(lo hi:Option Int):yd W (Yj xs lo hi) (jbC vs lo hi):=by
 unfold Yj jbC;rw[r.length];exact(r.drop _).take _
def gSl (M:Sto)(x:PV)(lo hi:Option Int):Option PV:=match x with
 |.tup xs=>if ¬(HT.sIx xs.length 0 lo=0/\HT.sIx xs.length xs.length hi=xs.length)then some (.tup (Yj xs lo hi))else some (.tup xs)
 |x=>(yz M x).map λxs=>.lst (Yj xs lo hi)
def dSl (d:DE)(dl dh:En->Sto->Res (Option Int)):DE:=λρ M=>(d ρ M).bind λx M1=>(dl ρ M1).bind λlo M2=>(dh ρ M2).bind λhi M3=>ofO (gSl M3 x lo hi) M3
theorem xo (hT:T.K=X.K){lo hi:Option Expr}{p2:Pos}{dl dh:En->Sto->Res (Option Int)}(he:QE X T ES a da)(hl:QO X T ES lo dl)(hu:QO X T ES hi dh):QE X T ES (.Subscript a (.Slice lo hi none p2) pos) (dSl da dl dh):=
 ⟨jN (jhM (SlR.or (SlR.or jjX jmw) jjW) he.h hl.h hu.h) λσ H Q bH=>jC bH λW ρ M k hh hs p=>⟨W,ρ,M,k,hh,hs,yh.bind p λW1 M1 x v H1 l1 h1 r1 p1=>
  ⟨W1,ρ,M1,l1.k.trans k,h1,hs.up l1,yh.bind p1 λW2 M2 lo' l' H2 l2 h2 r2 p2=>⟨W2,ρ,M2,l2.k.trans (l1.k.trans k),h2,hs.up (l1.trans l2),yh.bind p2 λW3 M3 fh u' H3 l3 h3 r3 p3=>by
   subst r2;subst r3;have r1:=(r1.up l2).up l3;have k3:W3.T=T:=l3.k.trans (l2.k.trans (l1.k.trans k));have lists:∀e:Option (List PV),yz M3 x=e->yh W3 Rep (ofO (e.map λxs=>PV.lst (Yj xs l' u')) M3) Q (ES σ)->jpH X.K v l' u' H3 Q:=λe he q=>by
    cases e with
    |none=>exact q.elim
    |some xs=>
     obtain⟨a,vs,rfl,ha,rv⟩:=yW h3 r1 he;refine⟨a,vs,rfl,SqL.of ha,λp hp=>?_⟩;obtain⟨W4,l4,h4,r4⟩:=xX h3 (jeT rv l' u') hp;exact q W4 _ _ l4 h4 r4
   cases x with
   |tup xs=>
    have p3:yh W3 Rep (ofO (if ¬(HT.sIx xs.length 0 l'=0/\HT.sIx xs.length xs.length u'=xs.length)then some (PV.tup (Yj xs l' u'))else some (.tup xs)) M3) Q (ES σ):=p3
    by_cases hz:¬(HT.sIx xs.length 0 l'=0/\HT.sIx xs.length xs.length u'=xs.length)
    ·rw[if_pos hz]at p3;obtain⟨a,vs,rfl,ha,rv⟩:=yU h3 r1;rw[k3,hT]at ha;refine .inl (.inr ⟨a,vs,rfl,ha,by rw[rv.length];exact hz,λp hp=>?_⟩);obtain⟨W4,l4,h4,r4⟩:=uq h3 (jeT rv l' u') hp;exact p3 W4 _ _ l4 h4 r4
    ·rw[if_neg hz]at p3;have r0:=r1;obtain⟨a,vs,rfl,ha,rv⟩:=yU h3 r1;rw[k3,hT]at ha;exact .inr ⟨a,vs,rfl,ha,by rw[rv.length];exact Classical.not_not.mp hz,p3 W3 H3 _ (.refl W3) h3 r0⟩
   |lst xs=>exact .inl (.inl (lists _ rfl p3))
   |ref i=>exact .inl (.inl (lists _ rfl p3))
   |_=>exact p3.elim⟩⟩⟩⟩
def joK (_:Sto):PV->Option PV
 |.int i=>some (.int (-i))
 |_=>none
def dUn (g:Sto->PV->Option PV)(d:DE):DE:=λρ M=>(d ρ M).bind λx M1=>ofO (g M1 x) M1
theorem jnc (ha:QE X T ES a da):QE X T ES (.UnaryOp .USub a pos) (dUn joK da):=⟨jN (jpN jmi ha.h) λσ H Q bH=>jC bH λW ρ M k hh hs p=>⟨W,ρ,M,k,hh,hs,yh.bind p λW1 M1 x v H1 l1 h1 r1 p1=>by
 cases x with
 |int i=>exact⟨i,r1,p1 W1 H1 _ (.refl W1) h1 rfl⟩
 |_=>exact p1.elim⟩⟩
end
open Classical in
noncomputable def eqW (W:Wd) (y:PV) (ys:List PV) (u:Value):Bool:=decide (∃z∈ys,∃v,Rep W z v/\RelV v u/\eqB z y=true)
section
variable {X:Cx}{T:Tb}{bF:tP0}{σ:St}{H:Hp}{s:Shared}{W:Wd}{M:Sto}
theorem uD:∀{xs:List PV}{x:PV},yx xs=true->x∈xs->plain x=true:=λ{xs x} h hm=>by
 obtain⟨j,e⟩:=List.mem_iff_getElem?.mp hm;exact vC h e
open Classical in
theorem jiI (I:Inv X bF σ H s)(hh:Held W M H)(hT:W.T.K=X.K){y:PV}{ys:List PV}{z:PV}{v:V}{u:Value}(hz:z∈ys)(p:yx ys=true)(r:Rep W z v)(q:RelV v u):eqW W y ys u=eqB z y:=by
 unfold eqW;cases e:eqB z y with
 |true=>exact decide_eq_true ⟨z,hz,v,r,q,e⟩
 |false=>
  refine decide_eq_false λbH=>?_;obtain⟨z',hz',v',r',q',e'⟩:=bH;cases q'.inj q
  have:=jdk I hh hT (uD p hz') (uD p hz) r' r
  subst this;rw[e]at e';cases e'
theorem jfg (I:Inv X bF σ H s)(hh:Held W M H)(hT:W.T.K=X.K){y:PV}{ys:List PV}(p:yx ys=true):∀{zs:List PV}{vs:List V}{us:List Value},(∀z∈zs,z∈ys)->yd W zs vs->yg vs us->us.any (eqW W y ys)=zs.any λz=>eqB z y
 |[],_,_,_,r,q=>by cases r;cases q;rfl
 |z::zs,_,_,hm,⟨v,r,e,a,b⟩,q=>by
  subst e;cases q with
  |cons q1 q2=>
   rw[any_cons,any_cons,jiI I hh hT (hm z mem_cons_self) p a q1,jfg I hh hT p (λw hw=>hm w (mem_cons_of_mem _ hw)) b q2]
theorem jlN (hT:T.K=X.K)(hu:X.A.units+100<cLine)(I:Inv X bF σ H s)(hh:Held W M H)(k:W.T=T){x y:PV}{v u:V}{v' u':Value}{ys:List PV}(rx:Rep W x v)(ry:Rep W y u)(qx:RelV v v')(qy:RelV u u')(e:uN M y=some ys)(px:plain (look M x)=true)(py:yx ys=true) (pd:∀z∈ys,dep z<=60) {Q:tE0}{E:tE0}:(Q (.bool (ys.any λz=>eqB z (look M x))) s->wpAny (model X.prog X.w) X.A (compareOp .In v' u') Q E s) /\ (Q (.bool (!(ys.any λz=>eqB z (look M x)))) s->wpAny (model X.prog X.w) X.A (compareOp .NotIn v' u') Q E s):=by
 have kk:(W.all H).T.K=X.K:=by
  show W.T.K=X.K;rw[k];exact hT
 obtain⟨a,vs,rfl,hq,rr⟩:=jae hh ry e;cases qy;rw[k,hT]at hq;have rr:=rr.ah hh.aD;have rx:=vW hh rx
 have tests:∀{its:List Value},yg vs its->(∀w,w∈its.toArray->SeqAt.EqAt X.A.in1 s w v' (eqW (W.all H) (look M x) ys w))/\its.toArray.any (eqW (W.all H) (look M x) ys)=ys.any λz=>eqB z (look M x):=λ{its} rv=>by
  refine⟨λw hw=>?_,?_⟩
  ·obtain⟨j,ej⟩:=List.mem_iff_getElem?.mp (show w∈its by simpa using hw);obtain⟨v2,e1,r1⟩:=uO rv ej;obtain⟨z,e2,r2⟩:=uX rr e1;have hz:=mem_of_getElem? e2;rw[jiI I hh.all kk hz py r2 r1]
   have:=pd z hz
   exact XI I hh.all kk (dep z+1) z (look M x) X.A.in1 (lt_succ_self _) (show X.A.units+1+dep z<cLine by omega) (uD py hz) px r2 rx r1 qx
  ·rw[List.any_toArray];exact jfg I hh.all kk py (λ_ z=>z) rr rv
 rcases hq with hq|hq
 ·obtain⟨its,rv,pl,hz⟩:=I.list hq;obtain⟨t1,t2⟩:=tests rv;exact⟨λq=>SeqAt.in_listAt _ pl.isList t1 (by rw[t2];exact q),λq=>SeqAt.notIn_listAt _ pl.isList t1 (by rw[t2];exact q)⟩
 ·obtain⟨its,rv,pl,hz⟩:=I.tuple hq;obtain⟨t1,t2⟩:=tests rv;exact⟨λq=>SeqAt.in_tupleAt _ pl t1 (by rw[t2];exact q),λq=>SeqAt.notIn_tupleAt _ pl t1 (by rw[t2];exact q)⟩
def vI:List PV->Bool
 |[]=>true
 |z::zs=>decide (dep z<=60) && vI zs
theorem uI:∀{zs:List PV}{z:PV},vI zs=true->z∈zs->dep z<=60
 |[],_,_,h=>by cases h
 |w::ws,z,e,h=>by
  unfold vI at e;have e:=Bool.and_eq_true_iff.mp e;rcases List.mem_cons.mp h with rfl|h
  ·exact of_decide_eq_true e.1
  ·exact uI e.2 h
def gIn (neg:Bool):G2:=λM x y=>match uN M y with
 |some ys=>if plain (look M x)=true/\yx ys=true/\vI ys=true then some (.bl (if neg then !(ys.any λz=>eqB z (look M x))else ys.any λz=>eqB z (look M x)))else none
 |none=>none
theorem jrk (hT:T.K=X.K)(hu:X.A.units+100<cLine):OpP X T (compareOp .In) (gIn false):=by
 intro bF s σ H v u v' u' Q I rv ru h;obtain⟨W,M,x,y,w,k,hh,rx,ry,e,q⟩:=h;unfold gIn at e;split at e
 ·rename_i ys e1;split at e
  ·rename_i hp;cases e;exact(jlN hT hu I hh k rx ry rv ru e1 hp.1 hp.2.1 (λz hz=>uI hp.2.2 hz)).1 ⟨.bl _,H,I,rfl,q W H _ (.refl W) hh rfl⟩
  ·cases e
 ·cases e
theorem jet (hT:T.K=X.K)(hu:X.A.units+100<cLine):OpP X T (compareOp .NotIn) (gIn true):=by
 intro bF s σ H v u v' u' Q I rv ru h;obtain⟨W,M,x,y,w,k,hh,rx,ry,e,q⟩:=h;unfold gIn at e;split at e
 ·rename_i ys e1;split at e
  ·rename_i hp;cases e;exact(jlN hT hu I hh k rx ry rv ru e1 hp.1 hp.2.1 (λz hz=>uI hp.2.2 hz)).2 ⟨.bl _,H,I,rfl,q W H _ (.refl W) hh rfl⟩
  ·cases e
 ·cases e
end
abbrev G1:=Sto->List PV->Option (PV×Sto)
def rC (T:Tb)(g:G1):List V->Hp->VK->Prop:=λvs H Q=>∃W M xs z M',W.T=T/\Held W M H/\yd W xs vs/\g M xs=some (z,M')/\∀W' H' v',W.le W'->Held W' M' H'->Rep W' z v'->Q v' H'
def dCB (g:G1)(ds:DA):DE:=λρ M=>(ds ρ M).bind λxs M1=>match g M1 xs with
 |some (z,M2)=>.ok z M2
 |none=>.bad
def orC (g g':G1):G1:=λM xs=>match g M xs with
 |some z=>some z
 |none=>g' M xs
section
variable {X:Cx}{T:Tb}{ES:St->XK}{e:Expr}{es:List Expr}{p pos:Pos}{ds:DA}{g:G1}{x:Str}{lz:String}
theorem Yl {f:Value}{r r':List V->Hp->VK->Prop}(h:yK X f r)(k:∀xs H Q,r' xs H Q->r xs H Q):yK X f r':=λbF s σ H xs us Q I rs q=>h bF s σ H xs us Q I rs (k _ _ _ q)
theorem jfa {σ:St}{H:Hp}{Q:VK}(h:lft T Rep ES (dCB g ds) σ H Q):tCB (rC T g) (lft T yd ES ds) σ H Q:=by
 obtain⟨W,ρ,M,k,hh,hs,p⟩:=h;refine⟨W,ρ,M,k,hh,hs,yh.bind p λW1 M1 xs vs H1 l1 h1 r1 p1=>?_⟩;split at p1
 ·rename_i z M2 e;exact⟨W1,M1,xs,z,M2,l1.k.trans k,h1,r1,e,p1⟩
 ·exact p1.elim
theorem jj (hc:yK X (.builtin lz) (rC T g))(hg:Gl X x)(hm:X.mg x=none)(hv:bootBuiltins x=some (.builtin lz))(ha:QA X T ES (e::es) ds)(hn:x≠"__name__":=by decide)(f6:(x==("__debug__":Str))=false:=by decide)
  (he:starEach (e::es) X.env=(false,eval e X.env)::starEach es X.env:=by rfl) (cM:(backTo pos (starEach es X.env)).any (·.1)=false:=by rfl):QE X T ES (.Call (.Name x p) (e::es) [] pos) (dCB g ds):=⟨jN (Ja hc hg hm hv ha.h hn f6 he cM) λ_ _ _=>jfa⟩
theorem Vu (hc:yK X (.type lz) (rC T g))(hg:Gl X x)(hm:X.mg x=none)(hv:bootBuiltins x=some (.type lz))(ha:QA X T ES (e::es) ds)(hn:x≠"__name__":=by decide)(f6:(x==("__debug__":Str))=false:=by decide)
  (he:starEach (e::es) X.env=(false,eval e X.env)::starEach es X.env:=by rfl) (cM:(backTo pos (starEach es X.env)).any (·.1)=false:=by rfl):QE X T ES (.Call (.Name x p) (e::es) [] pos) (dCB g ds):=⟨jN (JS hc hg hm hv ha.h hn f6 he cM) λ_ _ _=>jfa⟩
theorem xW {W:Wd}{x:PV}{vs:List V}(r:yd W [x] vs):∃v,vs=[v]/\Rep W x v:=by
 obtain⟨v,r,e,a,b⟩:=r;cases b;exact⟨v,e,a⟩
theorem uS {W:Wd}{x y:PV}{vs:List V}(r:yd W [x,y] vs):∃v u,vs=[v,u]/\Rep W x v/\Rep W y u:=by
 obtain⟨v,r,e,a,b⟩:=r;obtain⟨u,rfl,q⟩:=xW b;exact⟨v,u,e,a,q⟩
def one (f:Sto->PV->Option PV):G1:=λM xs=>match xs with
 |[x]=>(match f M x with
  |some z=>some (z,M)
  |none=>none)
 |_=>none
theorem uu {f:Value}{fn:Sto->PV->Option PV}{r:List V->Hp->VK->Prop}(h:yK X f r)(k:∀W M H x v z Q,W.T=T->Held W M H->Rep W x v->fn M x=some z->(∀W' H' v',W.le W'->Held W' M H'->Rep W' z v'->Q v' H')->r [v] H Q):yK X f (rC T (one fn)):=
 Yl h λvs H Q bH=>by
  obtain⟨W,M,xs,z,M',kk,hh,rx,e,q⟩:=bH;unfold one at e;split at e
  ·rename_i x;split at e
   ·rename_i z' e';cases e;obtain⟨v,rfl,rv⟩:=xW rx;exact k W M H x v z Q kk hh rv e' q
   ·cases e
  ·cases e
def ua (M:Sto)(x:PV):Option PV:=match uN M x with
 |some xs=>some (.int xs.length)
 |none=>none
theorem JC (hT:T.K=X.K):yK X (.builtin "len") (rC T (one ua)):=uu UY λW M H x v z Q k hh r e q=>by
 unfold ua at e;split at e
 ·rename_i xs e1;cases e;obtain⟨a,vs,rfl,hq,rr⟩:=jae hh r e1;rw[k,hT]at hq;exact⟨a,vs,rfl,hq,q W H _ (.refl W) hh (by rw[rr.length];rfl)⟩
 ·cases e
def xZ:List PV->Option (List Int)
 |[]=>some []
 |.int i::xs=>(xZ xs).map λns=>i::ns
 |_::_=>none
theorem xt:∀{xs:List PV}{ns:List Int},xZ xs=some ns->xs=ns.map PV.int
 |[],ns,e=>by cases e;rfl
 |.int i::xs,ns,e=>by
  have e:(xZ xs).map (λns=>i::ns)=some ns:=e;cases h:xZ xs with
  |none=>rw[h]at e;cases e
  |some ms=>
   rw[h]at e;cases e;rw[xt h];rfl
 |.non::_,_,e=>by cases e
 |.bl _::_,_,e=>by cases e
 |.str _::_,_,e=>by cases e
 |.ty _::_,_,e=>by cases e
 |.tup _::_,_,e=>by cases e
 |.lst _::_,_,e=>by cases e
 |.scr _::_,_,e=>by cases e
 |.top _::_,_,e=>by cases e
 |.exn _::_,_,e=>by cases e
 |.dct _::_,_,e=>by cases e
 |.dod _ _::_,_,e=>by cases e
 |.ref _::_,_,e=>by cases e
@[simp] theorem VA:∀(ns:List Int),xZ (ns.map PV.int)=some ns
 |[]=>rfl
 |n::ns=>by
  show(xZ (ns.map PV.int)).map (λms=>n::ms)=_;rw[VA ns];rfl
def uL:List PV->Option (List Bool)
 |[]=>some []
 |.bl i::xs=>(uL xs).map λns=>i::ns
 |_::_=>none
theorem VM:∀{xs:List PV}{ns:List Bool},uL xs=some ns->xs=ns.map PV.bl
 |[],ns,e=>by cases e;rfl
 |.bl i::xs,ns,e=>by
  have e:(uL xs).map (λns=>i::ns)=some ns:=e;cases h:uL xs with
  |none=>rw[h]at e;cases e
  |some ms=>
   rw[h]at e;cases e;rw[VM h];rfl
 |.non::_,_,e=>by cases e
 |.int _::_,_,e=>by cases e
 |.str _::_,_,e=>by cases e
 |.ty _::_,_,e=>by cases e
 |.tup _::_,_,e=>by cases e
 |.lst _::_,_,e=>by cases e
 |.scr _::_,_,e=>by cases e
 |.top _::_,_,e=>by cases e
 |.exn _::_,_,e=>by cases e
 |.dct _::_,_,e=>by cases e
 |.dod _ _::_,_,e=>by cases e
 |.ref _::_,_,e=>by cases e
@[simp] theorem uK:∀(ns:List Bool),uL (ns.map PV.bl)=some ns
 |[]=>rfl
 |n::ns=>by
  show(uL (ns.map PV.bl)).map (λms=>n::ms)=_;rw[uK ns];rfl
def jcH (M:Sto)(x:PV):Option (List Int):=(yz M x).bind xZ
theorem jkR {W:Wd}{M:Sto}{H:Hp}{x:PV}{v:V}{ns:List Int}(hh:Held W M H)(r:Rep W x v)(e:jcH M x=some ns):∃a,v= .ref a/\H a=some (.lst (ns.map V.int)):=by
 unfold jcH at e;cases h:yz M x with
 |none=>rw[h]at e;cases e
 |some xs=>
  rw[h]at e;obtain⟨a,vs,rfl,ha,rr⟩:=yW hh r h;rw[xt e]at rr;rw[yd.ints.mp rr]at ha;exact⟨a,rfl,ha⟩
def insI (n:Int):List Int->List Int
 |[]=>[n]
 |m::ms=>if n<=m then n::m::ms else m::insI n ms
def sortI:List Int->List Int
 |[]=>[]
 |n::ns=>insI n (sortI ns)
theorem insI_perm (n:Int):∀ms:List Int,(insI n ms).Perm (n::ms)
 |[]=>.refl _
 |m::ms=>by
  unfold insI;split
  ·exact .refl _
  ·exact((insI_perm n ms).cons m).trans (List.Perm.swap n m ms)
theorem sortI_perm:∀ns:List Int,(sortI ns).Perm ns
 |[]=>.refl _
 |n::ns=>(insI_perm n _).trans ((sortI_perm ns).cons n)
def jqO (M:Sto)(x:PV):Option PV:=match jcH M x with
 |some ns=>if ns.length<64 then some (.lst ((sortI ns).map PV.int))else none
 |none=>none
def joo:List Int->Int
 |[]=>0
 |[n]=>n
 |n::ns=>if n<=joo ns then n else joo ns
def joq:List Int->Int
 |[]=>0
 |[n]=>n
 |n::ns=>if joq ns<=n then n else joq ns
def jru (M:Sto)(x:PV):Option PV:=match jcH M x with
 |some (n::ns)=>some (.int (joo (n::ns)))
 |_=>none
def jrv (M:Sto)(x:PV):Option PV:=match jcH M x with
 |some (n::ns)=>some (.int (joq (n::ns)))
 |_=>none
def jje (M:Sto)(x:PV):Option (List Bool):=(yz M x).bind uL
theorem jlq {W:Wd}{M:Sto}{H:Hp}{x:PV}{v:V}{ns:List Bool}(hh:Held W M H)(r:Rep W x v)(e:jje M x=some ns):∃a,v= .ref a/\H a=some (.lst (ns.map V.bl)):=by
 unfold jje at e;cases h:yz M x with
 |none=>rw[h]at e;cases e
 |some xs=>
  rw[h]at e;obtain⟨a,vs,rfl,ha,rr⟩:=yW hh r h;rw[VM e]at rr;rw[yd.bools.mp rr]at ha;exact⟨a,rfl,ha⟩
def Vi (M:Sto)(x:PV):Option PV:=match jje M x with
 |some ns=>some (.bl (ns.all id))
 |none=>none
theorem jji (hc:X.calm=true):yK X (.builtin "all") (rC T (one Vi)):=uu (jgy hc) λW M H x v z Q k hh r e q=>by
 unfold Vi at e;split at e
 ·rename_i ns e1;cases e;obtain⟨a,rfl,ha⟩:=jlq hh r e1;exact⟨a,ns,rfl,SqL.of ha,q W H _ (.refl W) hh rfl⟩
 ·cases e
def two (f:Int->Int->PV):G1:=λM xs=>match xs with
 |[.int i,.int j]=>some (f i j,M)
 |_=>none
def jrM:G1:=orC (one jru) (two λi j=>.int (if j<i then j else i))
def jrN:G1:=orC (one jrv) (two λi j=>.int (if j > i then j else i))
def jbo (M:Sto)(x:PV):Option PV:=match uN M x with
 |some xs=>some (.lst xs)
 |none=>none
theorem jpa (hT:T.K=X.K):yK X (.type "list") (rC T (one jbo)):=uu JA λW M H x v z Q k hh r e q=>by
 unfold jbo at e;split at e
 ·rename_i xs e1;cases e;obtain⟨a,vs,rfl,hq,rr⟩:=jae hh r e1;rw[k,hT]at hq;refine⟨a,vs,rfl,hq,λl hl=>?_⟩;obtain⟨W2,l2,h2,r2⟩:=xX hh rr hl;exact q W2 _ _ l2 h2 r2
 ·cases e
def Yw (M:Sto):PV->Option String
 |.non=>some "NoneType"
 |.bl _=>some "bool"
 |.int _=>some "int"
 |.str _=>some "str"
 |.tup _=>some "tuple"
 |.lst _=>some "list"
 |.dct _=>some "dict"
 |.dod _ _=>some "dict"
 |.ref i=>(match M.g i with
  |some (.lst _)=>some "list"
  |_=>none)
 |_=>none
theorem Vy {M:Sto}{x:PV}{n:String}(e:Yw M x=some n):n∈xq:=by
 cases x with
 |ref i=>
  have e:(match M.g i with
   |some (.lst _)=>some "list"
   |_=>none)=some n:=e
  split at e
  ·cases e;decide
  ·cases e
 |non=>cases e;decide
 |bl _=>cases e;decide
 |int _=>cases e;decide
 |str _=>cases e;decide
 |tup _=>cases e;decide
 |lst _=>cases e;decide
 |dct _=>cases e;decide
 |dod _ _=>cases e;decide
 |_=>cases e
theorem jew {bF:tP0}{σ:St}{H:Hp}{s:Shared}{W:Wd}{M:Sto}(I:Inv X bF σ H s)(hh:Held W M H)(hT:W.T.K=X.K){x:PV}{n:String}{v:V}{u:Value}(e:Yw M x=some n)(r:Rep W x v)(q:RelV v u) :
  ∃P,KitX X.K u (.type n) P/\P s.heap/\u≠.builtin "__main__.__loader__#opaque":=by
 have lists:∀a vs,H a=some (.lst vs)->∃P,KitX X.K (.ref a) (.type "list") P/\P s.heap/\Value.ref a≠.builtin "__main__.__loader__#opaque":=λa vs ea=>by
  obtain⟨_,_,_,_,h1⟩:=(show yl X.prog X.w H s.heap a (.lst vs)from I.hok a _ ea)
  exact⟨_,PySem.W.kitx_list,⟨_,h1,rfl⟩,λz=>nomatch z⟩
 cases x with
 |ref i=>
  have e:(match M.g i with
   |some (.lst _)=>some "list"
   |_=>none)=some n:=e
  split at e
  ·rename_i xs e1;cases e
   obtain⟨a,vs,rfl,ha,_⟩:=yW (xs:=xs) hh r (by
    show(match M.g i with
     |some (.lst xs)=>some xs
     |_=>none)=some xs
    rw[e1])
   cases q;exact lists a vs ha
  ·cases e
 |non=>cases e;cases r;cases q;exact⟨_,PySem.W.kitx_none,True.intro,λz=>nomatch z⟩
 |bl _=>cases e;cases r;cases q;exact⟨_,PySem.W.kitx_bool,True.intro,λz=>nomatch z⟩
 |int _=>cases e;cases r;obtain⟨t,rfl⟩:=q;exact⟨_,PySem.W.kitx_int,True.intro,λz=>nomatch z⟩
 |str _=>cases e;cases r;obtain⟨t,rfl⟩:=q;exact⟨_,PySem.W.kitx_str,True.intro,λz=>nomatch z⟩
 |tup _=>
  cases e;obtain⟨a,vs,rfl,ha,_⟩:=yU hh r;cases q;rw[hT]at ha;obtain⟨its,_,p,_⟩:=I.tuple ha;obtain⟨o,h1,h2,_⟩:=p;exact⟨_,PySem.W.kitx_tuple,⟨o,h1,h2⟩,λz=>nomatch z⟩
 |lst _=>
  cases e;obtain⟨a,vs,rfl,ha,_⟩:=r;cases q;exact lists a vs (hh.f _ _ ha)
 |dod _ _=>
  cases e;obtain⟨a,o,kv,vv,rfl,ha,_⟩:=r;cases q;obtain⟨e1,hx,_⟩:=I.odd (hh.f _ _ ha);exact⟨_,kitx_dict,⟨o,e1,hx.1⟩,λz=>nomatch z⟩
 |dct _=>
  cases e;obtain⟨a,o,rfl,ha⟩:=r;cases q;exact⟨_,kitx_dict,(jcJ I (.inr ⟨_,.inr ⟨o,hh.f _ _ ha⟩⟩)).1,λz=>nomatch z⟩
 |_=>cases e
def jgJ:List PV->Option (List String)
 |[]=>some []
 |.ty n::r=>if n∈xq then(jgJ r).map λns=>n::ns else none
 |_::_=>none
theorem jal {W:Wd}:∀{xs:List PV}{ns:List String}{vs:List V}{us:List Value},jgJ xs=some ns->yd W xs vs->yg vs us->us=ns.map Value.type/\∀n∈ns,n∈xq
 |[],_,_,_,e,r,q=>by cases e;cases r;cases q;exact⟨rfl,by simp⟩
 |.ty n::xs,ns,_,_,e,⟨v,r,e1,a,b⟩,q=>by
  subst e1;have e:(if n∈xq then(jgJ xs).map (λns=>n::ns)else none)=some ns:=e;split at e
  ·rename_i hn;cases h:jgJ xs with
   |none=>rw[h]at e;cases e
   |some ms=>
    rw[h]at e;cases e;cases q with
    |cons q1 q2=>
     obtain⟨h1,h2⟩:=jal h b q2;have a:v= .ty n:=a;subst a;cases q1;rw[h1];refine⟨rfl,λm hm=>?_⟩
     rcases List.mem_cons.mp hm with rfl|hm
     ·exact hn
     ·exact h2 m hm
  ·cases e
 |.non::_,_,_,_,e,_,_=>by cases e
 |.bl _::_,_,_,_,e,_,_=>by cases e
 |.int _::_,_,_,_,e,_,_=>by cases e
 |.str _::_,_,_,_,e,_,_=>by cases e
 |.tup _::_,_,_,_,e,_,_=>by cases e
 |.lst _::_,_,_,_,e,_,_=>by cases e
 |.scr _::_,_,_,_,e,_,_=>by cases e
 |.top _::_,_,_,_,e,_,_=>by cases e
 |.exn _::_,_,_,_,e,_,_=>by cases e
 |.dct _::_,_,_,_,e,_,_=>by cases e
 |.dod _ _::_,_,_,_,e,_,_=>by cases e
 |.ref _::_,_,_,_,e,_,_=>by cases e
theorem Xy (K:Frag){n:String}(hn:n∈xq):∀{ns:List String},(∀m∈ns,m∈xq)->kitAny K (.type n) (ns.map Value.type)=some (ns.any λm=>sub n m)
 |[],_=>rfl
 |m::ms,h=>by
  show(match kitOne K (.type n) (.type m)with
   |some true=>some true
   |some false=>kitAny K (.type n) (ms.map Value.type)
   |none=>none)=_
  rw[jex K hn (h m mem_cons_self),any_cons];cases sub n m with
  |true=>rfl
  |false=>exact Xy K hn λm' hm=>h m' (mem_cons_of_mem _ hm)
def Vh:G1:=λM xs=>match xs with
 |[x,.ty m]=>(match Yw M x with
  |some n=>if m∈xq then some (.bl (sub n m),M)else none
  |none=>none)
 |[x,.tup ts]=>(match Yw M x,jgJ ts with
  |some n,some ns=>some (.bl (ns.any λm=>sub n m),M)
  |_,_=>none)
 |_=>none
theorem jbK (hT:T.K=X.K):yK X (.builtin "isinstance") (rC T Vh):=by
 intro bF s σ H vs us Q I rv h;obtain⟨W,M,xs,z,M',k,hh,rx,e,q⟩:=h;have kk:W.T.K=X.K:=by rw[k];exact hT
 unfold Vh at e;split at e
 ·rename_i x m;split at e
  ·rename_i n e1;split at e
   ·rename_i hm;cases e;obtain⟨v,u,rfl,r1,r2⟩:=uS rx;obtain⟨v',u',rfl,q1,q2⟩:=vals2 rv;have r2:u= .ty m:=r2;subst r2;cases q2;obtain⟨P,Z,hP,cZ⟩:=jew I hh kk e1 r1 q1;exact PySem.W.kia_one Z I.aI hP (jex X.K (Vy e1) hm) cZ λtk=>⟨.bl _,H,I.tok _,rfl,q W H _ (.refl W) hh rfl⟩
   ·cases e
  ·cases e
 ·rename_i x ts;split at e
  ·rename_i n ns e1 e2;cases e;obtain⟨v,u,rfl,r1,r2⟩:=uS rx;obtain⟨v',u',rfl,q1,q2⟩:=vals2 rv;obtain⟨a,ws,rfl,ha,rr⟩:=yU hh r2;cases q2;rw[kk]at ha;obtain⟨its,rs,p,_⟩:=I.tuple ha;obtain⟨⟨cl,dd,dt,sl⟩,h1,h2,nn,h3⟩:=p;simp only at h2 h3;subst h2;subst h3;obtain⟨e3,hk⟩:=jal e2 rr rs;obtain⟨P,Z,hP,cZ⟩:=jew I hh kk e1 r1 q1;exact PySem.W.kia_tup Z I.aI hP h1 (by rw[e3];exact Xy X.K (Vy e1) hk) cZ λtk=>⟨.bl _,H,I.tok _,rfl,q W H _ (.refl W) hh rfl⟩
  ·cases e
 ·cases e
end
inductive ItP where
 |fix (xs:List PV)|live (i:Nat)|gen (f:Sto->Option (List PV))
abbrev tI0:=En->Sto->Res ItP
def nxt (p:ItP)(M:Sto)(i:Nat):Option (Option PV):=match p with
 |.fix xs=>some (xs[i]?)
 |.live j=>(yz M (.ref j)).map λxs=>xs[i]?
 |.gen f=>(f M).map λxs=>xs[i]?
theorem Jc {j i:Nat}{M:Sto}{xs:List PV}(e:yz M (.ref j)=some xs):nxt (.live j) M i=some (xs[i]?):=by
 unfold nxt;simp only[e];rfl
theorem xk {j i:Nat}{M:Sto}(e:yz M (.ref j)=none):nxt (.live j) M i=none:=by
 unfold nxt;simp only[e];rfl
def RI (W:Wd)(p:ItP)(J:It):Prop:=∀W' M' H',W.le0 W'->Held W' M' H'->∀i,(∀x,nxt p M' i=some (some x)->J.go i H'/\∀v fJ,J.yld i H' v fJ->∃iT,W'.le iT/\Held iT M' fJ/\Rep iT x v)/\(nxt p M' i=some none->J.stop i H')
structure QI (X:Cx)(T:Tb)(ES:St->XK)(tg iter:Expr)(d:tI0):Prop where
 h:PI X tg iter (lft T RI ES d)
section
variable {X:Cx}{T:Tb}{ES:St->XK}{a b e tg iter:Expr}{p pos:Pos}{d:DE}{ds:DA}
theorem uE {t t':TI}(h:PI X tg iter t)(f:∀σ H R,t' σ H R->t σ H R):PI X tg iter t':=λbF s σ H R I q=>h bF s σ H R I (f σ H R q)
def jqm (M:Sto):PV->Option ItP
 |.lst xs=>some (.fix xs)
 |.ref i=>(match M.g i with
  |some (.lst _)=>some (.live i)
  |_=>none)
 |_=>none
def dIt (d:DE):En->Sto->Res ItP:=λρ M=>(d ρ M).bind λx M1=>ofO (jqm M1 x) M1
theorem YJ {K:Frag}{W:Wd}{J:It}{x:ItP}{a:Addr}(hJ:J=Itl K a)(h:∀W' M' H',W.le0 W'->Held W' M' H'->∀ys,(∀i,nxt x M' i=some (ys[i]?))->∃vs,H' a=some (.lst vs)/\yd W' ys vs)(hn:∀M,(∃ys:List PV,∀i,nxt x M i=some (ys[i]?))\/∀i,nxt x M i=none):RI W x J:=by
 subst hJ;intro W' M' H' le hh i;rcases hn M' with⟨ys,hy⟩|hy
 ·obtain⟨vs,ha,rr⟩:=h W' M' H' le hh ys hy;refine⟨λz e=>?_,λe=>?_⟩
  ·rw[hy]at e;cases e1:ys[i]? with
   |none=>rw[e1]at e;cases e
   |some z'=>
    rw[e1]at e;cases e;obtain⟨v,e2,r2⟩:=rr.get e1;refine⟨⟨vs,v,SqL.of ha,e2⟩,λu fJ bH=>?_⟩;obtain⟨eH,q⟩:=bH;subst eH
    have:=q vs (SqL.of ha)
    rw[e2]at this;cases this;exact⟨W',.refl W',hh,r2⟩
  ·rw[hy]at e;have e:ys[i]?= none:=Option.some.inj e;exact⟨vs,SqL.of ha,by rw[rr.length];exact List.getElem?_eq_none_iff.mp e⟩
 ·refine⟨λz e=>?_,λe=>?_⟩
  ·rw[hy]at e;cases e
  ·rw[hy]at e;cases e
theorem yR (h:QE X T ES e d):QI X T ES tg e (dIt d):=⟨uE (jkx h.h) λσ H R bH=>jC bH λW ρ M k hh hs q=>⟨W,ρ,M,k,hh,hs,yh.bind q λW1 M1 x v H1 l1 h1 r1 p1=>by
 cases x with
 |lst xs=>
  obtain⟨a,vs,rfl,ha,rr⟩:=r1;refine⟨a,rfl,⟨vs,SqL.of (h1.f _ _ ha)⟩,p1 W1 H1 _ (.refl W1) h1 (YJ rfl (λW' M' H' le cB ys hy=>?_) λM=>.inl ⟨xs,λi=>rfl⟩)⟩
  have:ys=xs:=ext_getElem? (λi=>(Option.some.inj (hy i)).symm)
  subst this;exact⟨vs,cB.f _ _ (le.f _ _ ha),rr.ah le⟩
 |ref j=>
  have p1:yh W1 RI (ofO (match M1.g j with
   |some (.lst _)=>some (ItP.live j)
   |_=>none) M1) R (ES σ):=p1
  split at p1
  ·rename_i xs e1;obtain⟨a,rfl,ea⟩:=r1;obtain⟨b,o,h2,h3,h4,vs,rfl,rr⟩:=h1.m j _ e1;rw[ea]at h2;cases h2;refine⟨a,rfl,⟨vs,SqL.of h4⟩,p1 W1 H1 _ (.refl W1) h1 (YJ rfl (λW' M' H' le cB ys hy=>?_) λM=>?_)⟩
   ·cases e2:yz M' (.ref j)with
    |none=>
     have:=hy 0
     rw[xk e2]at this;cases this
    |some zs=>
     have:ys=zs:=ext_getElem? (λi=>by
      have:=hy i
      rw[Jc e2]at this
      exact(Option.some.inj this).symm)
     subst this;obtain⟨a',fC,e3,h5,r5⟩:=yW (v:=.ref a) cB (show Rep W' (.ref j) (.ref a)from⟨a,rfl,le.a _ _ ea⟩) e2;cases e3;exact⟨fC,h5,r5⟩
   ·cases e2:yz M (.ref j)with
    |none=>exact .inr λi=>xk e2
    |some zs=>exact .inl ⟨zs,λi=>Jc e2⟩
  ·exact p1.elim
 |_=>exact p1.elim⟩⟩
def jqz (d:DE):En->Sto->Res ItP:=λρ M=>(d ρ M).bind λx M1=>match x with
 |.tup xs=>.ok (.fix xs) M1
 |_=>.bad
theorem jmZ (hT:T.K=X.K)(h:QE X T ES e d):QI X T ES tg e (jqz d):=⟨uE (jnn h.h) λσ H R bH=>jC bH λW ρ M k hh hs q=>⟨W,ρ,M,k,hh,hs,yh.bind q λW1 M1 x v H1 l1 h1 r1 p1=>by
 split at p1
 ·rename_i xs;obtain⟨a,vs,rfl,ha,rr⟩:=r1;have kk:W1.T.K=X.K:=by rw[l1.k,k];exact hT
  have lj:SqT X.K H1 a vs:=kk ▸ YY h1.f ha.toT;refine⟨a,rfl,⟨vs,lj⟩,p1 W1 H1 _ (.refl W1) h1 λW' M' H' le cB i=>?_⟩;have hq:SqT X.K H' a vs:=kk ▸ YY (λb o q=>cB.f b o (le.f b o q)) ha.toT;refine⟨λz e=>?_,λe=>?_⟩
  ·have e:xs[i]?= some z:=Option.some.inj e;obtain⟨u,e2,r2⟩:=rr.get e;refine⟨⟨vs,u,hq,e2⟩,λw fJ bH=>?_⟩;obtain⟨eH,q⟩:=bH;subst eH
   have:=q vs hq
   rw[e2]at this;cases this;exact⟨W',.refl W',cB,r2.ah le⟩
  ·have e:xs[i]?= none:=Option.some.inj e;exact⟨vs,hq,by rw[rr.length];exact List.getElem?_eq_none_iff.mp e⟩
 ·exact p1.elim⟩⟩
def vd (lo:Int)(n:Nat):List PV:=(List.range n).map λ(i:Nat)=>PV.int (lo+i)
theorem Xe {lo:Int}{n i:Nat}:(vd lo n)[i]?= if i<n then some (PV.int (lo+i))else none:=by
 unfold vd;rw[getElem?_map]
 by_cases h:i<n
 ·rw[if_pos h,getElem?_range h];rfl
 ·rw[if_neg h,List.getElem?_eq_none_iff.mpr (by simpa using h)];rfl
theorem jmX {W:Wd}{lo:Int}{n:Nat}:RI W (.fix (vd lo n)) (Itr lo n):=by
 intro W' M' H' le hh i;refine⟨λx e=>?_,λe=>?_⟩
 ·have e:(vd lo n)[i]?= some x:=Option.some.inj e;rw[Xe]at e;split at e
  ·rename_i hi;cases e;refine⟨hi,λv fJ bH=>?_⟩;obtain⟨eH,ev⟩:=bH;subst eH;subst ev;exact⟨W',.refl W',hh,rfl⟩
  ·cases e
 ·have e:(vd lo n)[i]?= none:=Option.some.inj e;rw[Xe]at e;split at e
  ·cases e
  ·rename_i hi;exact le_of_not_lt hi
def small (i:Int):Bool:=Nat.blt i.natAbs 4611686018427387904
theorem vh {i:Int}:small i=true↔-(2 ^ 62)<i/\i<2 ^ 62:=by
 unfold small;rw[Nat.blt_eq];omega
def uy (ds:DA):En->Sto->Res ItP:=λρ M=>(ds ρ M).bind λxs M1=>match xs with
 |[.int j]=>if small j=true then .ok (.fix (vd 0 j.toNat)) M1 else .bad
 |_=>.bad
theorem YL (hg:Gl X "range")(hm:X.mg "range" = none)(ha:QA X T ES [a] ds)(hs:starEach [a] X.env=[(false,eval a X.env)]:=by rfl):QI X T ES tg (.Call (.Name "range" p) [a] [] pos) (uy ds):=
 ⟨uE (jfW hg hm ha.h hs) λσ H R bH=>jC bH λW ρ M k hh hs q=>⟨W,ρ,M,k,hh,hs,yh.bind q λW1 M1 xs vs H1 l1 h1 r1 p1=>by
  split at p1
  ·rename_i j;split at p1
   ·rename_i hj;obtain⟨v,rfl,r⟩:=xW r1;have r:v= .int j:=r;subst r;exact⟨j,rfl,Int.le_of_lt (vh.mp hj).1,(vh.mp hj).2,p1 W1 H1 _ (.refl W1) h1 jmX⟩
   ·exact p1.elim
  ·exact p1.elim⟩⟩
def xN:Nat->List PV->List PV
 |_,[]=>[]
 |n,x::xs=>.tup [.int n,x]::xN (n+1) xs
theorem vq:∀{xs:List PV}{n i:Nat},(xN n xs)[i]?= (xs[i]?).map λx=>PV.tup [.int ((n+i:Nat):Int),x]
 |[],n,i=>by simp[xN]
 |x::xs,n,0=>by simp[xN]
 |x::xs,n,i+1=>by
  show(xN (n+1) xs)[i]?= _;rw[vq];rw[show n+1+i=n+(i+1) by omega];simp
def jeQ (ds:DA):En->Sto->Res ItP:=λρ M=>(ds ρ M).bind λxs M1=>match xs with
 |[.lst ys]=>.ok (.fix (xN 0 ys)) M1
 |[.ref j]=>(match M1.g j with
  |some (.lst _)=>.ok (.gen λM=>(yz M (.ref j)).map (xN 0)) M1
  |_=>.bad)
 |_=>.bad
theorem jkk {l:Expr}{cX:List Expr}{x1:Nat}{dS:Pos}(hg:Gl X "enumerate")(hm:X.mg "enumerate" = none)(ha:QA X T ES [l] ds)(hs:starEach [l] X.env=[(false,eval l X.env)]:=by rfl) :
  QI X T ES (.Tuple cX x1 dS) (.Call (.Name "enumerate" p) [l] [] pos) (jeQ ds):=
 ⟨uE (jkz hg hm ha.h hs) λσ H R bH=>jC bH λW ρ M k hh hs q=>⟨W,ρ,M,k,hh,hs,yh.bind q λW1 M1 xs vs H1 l1 h1 r1 p1=>by
  split at p1
  ·rename_i ys;obtain⟨v,rfl,r⟩:=xW r1;obtain⟨a,vs,rfl,ha,rr⟩:=r;refine⟨a,rfl,⟨vs,SqL.of (h1.f _ _ ha)⟩,p1 W1 H1 _ (.refl W1) h1 λW' M' H' le cB i=>?_⟩;have hq:H' a=some (.lst vs):=cB.f _ _ (le.f _ _ ha);refine⟨λz e=>?_,λe=>?_⟩
   ·have e:(xN 0 ys)[i]?= some z:=Option.some.inj e;rw[vq]at e;cases e1:ys[i]? with
    |none=>rw[e1]at e;cases e
    |some y=>
     rw[e1]at e;cases e;obtain⟨u,e2,r2⟩:=rr.get e1;refine⟨⟨vs,u,SqL.of hq,e2⟩,λw fJ bH=>?_⟩;obtain⟨b,u',ew,hb,hu,eH⟩:=bH;subst ew;subst eH
     have:=hu vs (SqL.of hq)
     rw[e2]at this;cases this;obtain⟨W2,l2,h2,r3⟩:=uq (xs:=[.int ((0+i:Nat):Int),y]) cB (show yd W' _ [.int (i:Int),u]from⟨_,_,rfl,(by rw[zero_add];rfl),_,_,rfl,r2.ah le,rfl⟩) hb;exact⟨W2,l2,h2,r3⟩
   ·have e:(xN 0 ys)[i]?= none:=Option.some.inj e;rw[vq]at e;cases e1:ys[i]? with
    |none=>exact⟨vs,SqL.of hq,by rw[rr.length];exact List.getElem?_eq_none_iff.mp e1⟩
    |some y=>rw[e1]at e;cases e
  ·rename_i j;obtain⟨v,rfl,r⟩:=xW r1;obtain⟨a,rfl,ea⟩:=r;split at p1
   ·rename_i zs e1;obtain⟨b,o,h2,h3,h4,vs,rfl,rr⟩:=h1.m j _ e1;rw[ea]at h2;cases h2;refine⟨a,rfl,⟨vs,SqL.of h4⟩,p1 W1 H1 _ (.refl W1) h1 λW' M' H' le cB i=>?_⟩;have en:nxt (.gen λM=>(yz M (.ref j)).map (xN 0)) M' i=((yz M' (.ref j)).map (xN 0)).map λxs=>xs[i]?:=rfl;rw[en];cases e2:yz M' (.ref j)with
    |none=>exact⟨λz e=>(by cases e),λe=>(by cases e)⟩
    |some ys=>
     obtain⟨a',fC,e3,hq,c6⟩:=yW (v:=.ref a) cB (show Rep W' (.ref j) (.ref a)from⟨a,rfl,le.a _ _ ea⟩) e2;cases e3;refine⟨λz e=>?_,λe=>?_⟩
     ·have e:(xN 0 ys)[i]?= some z:=Option.some.inj e;rw[vq]at e;cases e1:ys[i]? with
      |none=>rw[e1]at e;cases e
      |some y=>
       rw[e1]at e;cases e;obtain⟨u,e2,r2⟩:=c6.get e1;refine⟨⟨fC,u,SqL.of hq,e2⟩,λw fJ bH=>?_⟩;obtain⟨b,u',ew,hb,hu,eH⟩:=bH;subst ew;subst eH
       have:=hu fC (SqL.of hq)
       rw[e2]at this;cases this;exact uq (xs:=[.int ((0+i:Nat):Int),y]) cB (show yd W' _ [.int (i:Int),u]from⟨_,_,rfl,(by rw[zero_add];rfl),_,_,rfl,r2,rfl⟩) hb
     ·have e:(xN 0 ys)[i]?= none:=Option.some.inj e;rw[vq]at e;cases e1:ys[i]? with
      |none=>exact⟨fC,SqL.of hq,by rw[c6.length];exact List.getElem?_eq_none_iff.mp e1⟩
      |some y=>rw[e1]at e;cases e
   ·exact p1.elim
  ·exact p1.elim⟩⟩
end
def Res.ar {α:Type}:Res α->Res α
 |.exc _ _=>.bad
 |r=>r
def ug (x:PV)(r:En):Option En:=some (some x::r)
def jgA (x:PV)(r:En):Option En:=match x with
 |.tup [a,b]=>some (some a::some b::r)
 |_=>none
def yP (p:ItP)(bnd:PV->En->Option En)(r:En)(dt:DT)(de:DE):Nat->Nat->Sto->Res (List PV)
 |0,_,_=>.bad
 |n+1,i,M=>match nxt p M i with
  |none=>.bad
  |some none=>.ok [] M
  |some (some x)=>match bnd x r with
   |none=>.bad
   |some ρ=>(dt ρ M).ar.bind λb M1=>if b=true then(de ρ M1).ar.bind λy M2=>(yP p bnd r dt de n (i+1) M2).bind λys M3=>.ok (y::ys) M3 else yP p bnd r dt de n (i+1) M1
def ue (bnd:PV->En->Option En)(r:En)(dt:DT)(de:DE):List PV->Sto->Res (List PV)
 |[],M=>.ok [] M
 |x::xs,M=>match bnd x r with
  |none=>.bad
  |some ρ=>(dt ρ M).ar.bind λb M1=>if b=true then(de ρ M1).ar.bind λy M2=>(ue bnd r dt de xs M2).bind λys M3=>.ok (y::ys) M3 else ue bnd r dt de xs M1
theorem Yk {all:List PV}{bnd:PV->En->Option En}{r:En}{dt:DT}{de:DE}:∀{xs:List PV}{n i:Nat}{M:Sto},all.drop i=xs->xs.length<n->yP (.fix all) bnd r dt de n i M=ue bnd r dt de xs M
 |xs,0,i,M,e,h=>absurd h (not_lt_zero _)
 |[],n+1,i,M,e,h=>by
  have:all[i]?= none:=List.getElem?_eq_none_iff.mpr (by
   have:=congrArg List.length e
   simp at this;omega)
  show(match some (all[i]?)with
   |none=>Res.bad
   |some none=>.ok [] M
   |some (some x)=>_)=_
  rw[this];rfl
 |x::xs,n+1,i,M,e,h=>by
  have e1:all[i]?= some x:=by
   have:=congrArg (λl=>l[0]?) e
   simpa[getElem?_drop]using this
  have e2:all.drop (i+1)=xs:=by
   have:=congrArg (List.drop 1) e
   simpa[List.drop_drop]using this
  have ih:∀M,yP (.fix all) bnd r dt de n (i+1) M=ue bnd r dt de xs M:=λM=>Yk e2 (by simpa using h)
  show(match some (all[i]?)with
   |none=>Res.bad
   |some none=>.ok [] M
   |some (some x)=>match bnd x r with
    |none=>.bad
    |some ρ=>(dt ρ M).ar.bind λb M1=>if b=true then(de ρ M1).ar.bind λy M2=>(yP (.fix all) bnd r dt de n (i+1) M2).bind λys M3=>.ok (y::ys) M3 else yP (.fix all) bnd r dt de n (i+1) M1)=_
  rw[e1];simp only[ih];rfl
def yp (p:ItP)(M:Sto):Nat:=match p with
 |.fix xs=>xs.length+1
 |.live i=>((yz M (.ref i)).getD []).length+1
 |.gen f=>((f M).getD []).length+1
def rest (js:List Nat)(ρ:En):En:=js.map λj=>(ρ[j]?).getD none
def yQ (di:tI0)(bnd:PV->En->Option En)(js:List Nat)(dt:DT)(de:DE):DE:=λρ M=>(di ρ M).bind λp M1=>
 if yp p M1<=sizeLine then(yP p bnd (rest js ρ) dt de (yp p M1) 0 M1).bind λys M2=>.ok (.lst ys) M2 else .bad
def jcX (fv:List PV->Sto->PV)(fm:List PV->Sto->Sto)(di:tI0)(bnd:PV->En->Option En)(js:List Nat)(dt:DT)(de:DE):DE:=λρ M=>(di ρ M).bind λp M1=>
 if yp p M1<=sizeLine then(yP p bnd (rest js ρ) dt de (yp p M1) 0 M1).bind λys M2=>.ok (fv ys M2) (fm ys M2)else .bad
def vy:DT:=λ_ M=>.ok true M
structure QIf (X:Cx)(T:Tb)(ES:St->XK)(ifs:List Expr)(d:DT):Prop where
 h:PIf X ifs (lft T RB ES d)
theorem ul {X:Cx}{T:Tb}{ES:St->XK}:QIf X T ES [] vy:=⟨λbF s σ H Q I bH=>jC bH λW ρ M k hh hs p=>joE bF s σ H Q I (p W H true (.refl W) hh rfl)⟩
theorem uY {X:Cx}{T:Tb}{ES:St->XK}{c:Expr}{d:DT}(h:QT X T ES c d):QIf X T ES [c] d:=⟨jiv h.h⟩
abbrev ES0:St->XK:=λ_=>E0
theorem Xh {W:Wd}{ρ:En}{σ:St}{js:List Nat}(h:yq W ρ σ):yq W (rest js ρ) (js.map λj=>(σ[j]?).getD none):=by
 refine⟨by simp[rest],λi x e=>?_⟩;unfold rest at e;rw[getElem?_map]at e;rw[getElem?_map]
 cases hj:js[i]? with
 |none=>rw[hj]at e;cases e
 |some j=>
  rw[hj]at e;have e:(ρ[j]?).getD none=some x:=Option.some.inj e;cases e1:ρ[j]? with
  |none=>rw[e1]at e;cases e
  |some o=>
   rw[e1]at e;cases e;obtain⟨v,e2,r⟩:=h.2 j x e1;refine⟨v,?_,r⟩;show some ((σ[j]?).getD none)=_;rw[e2];rfl
theorem JN {W:Wd}{ρ:En}{σ:St}{x:PV}{v:V}(h:yq W ρ σ)(r:Rep W x v):yq W (some x::ρ) (some v::σ):=by
 refine⟨by simp[h.1],λi y e=>?_⟩
 cases i with
 |zero=>
  cases e;exact⟨v,rfl,r⟩
 |succ i=>exact h.2 i y e
structure Bnd (T:Tb)(own:Nat)(g:TG)(bnd:PV->En->Option En):Prop where
 go:∀(W:Wd) (M:Sto) (H:Hp) (js:List Nat) (ρ:En) (σ:St) (x:PV) (v:V) (ρ':En) (Q:St->Hp->Prop),W.T=T->Held W M H->yq W ρ σ->Rep W x v->bnd x (rest js ρ)=some ρ'->
  (∀σ',yq W ρ' σ'->JF (yZ own js σ) σ'->Q σ' H)->g v (yZ own js σ) H Q
theorem JB {T:Tb}:Bnd T 1 (vc 0) ug:=⟨λW M H js ρ σ x v ρ' Q k hh hs r e q=>by
 cases e;exact q _ (JN (Xh hs) r) jlK⟩
theorem jmd {T:Tb}:Bnd T 2 (jkX T.K 2 (XF (vc 0) (XF (vc 1) jkZ))) jgA:=⟨λW M H js ρ σ x v ρ' Q k hh hs r e q=>by
 unfold jgA at e;split at e
 ·rename_i a b;cases e;obtain⟨p,vs,rfl,ha,rr⟩:=yU hh r;obtain⟨va,vb,rfl,ra,rb⟩:=uS rr;rw[k]at ha;refine⟨p,_,rfl,ha,rfl,va,[vb],rfl,vb,[],rfl,rfl,?_⟩;exact q _ (JN (JN (Xh hs) rb) ra) jbc
 ·cases e⟩
theorem jgu {it:ItP}{bnd:PV->En->Option En}{r:En}{dt:DT}{de:DE}:∀(n i:Nat) (M:Sto) (c:Nat) (M':Sto),yP it bnd r dt de n i M≠.exc c M':=by
 intro n
 induction n with
 |zero=>intro i M c M' z;cases z
 |succ n ih=>
  intro i M c M' z;unfold yP at z;split at z
  ·cases z
  ·cases z
  ·split at z
   ·cases z
   ·rename_i ρ' _;cases e1:dt ρ' M with
    |bad=>rw[e1]at z;cases z
    |exc _ _=>rw[e1]at z;cases z
    |ok b M1=>
     rw[e1]at z;cases b with
     |false=>exact ih _ _ _ _ z
     |true=>
      have z:(de ρ' M1).ar.bind (λy M2=>(yP it bnd r dt de n (i+1) M2).bind λys M3=>.ok (y::ys) M3)= .exc c M':=z;cases e2:de ρ' M1 with
      |bad=>rw[e2]at z;cases z
      |exc _ _=>rw[e2]at z;cases z
      |ok y M2=>
       rw[e2]at z;have z:(yP it bnd r dt de n (i+1) M2).bind (λys M3=>Res.ok (y::ys) M3)= .exc c M':=z;cases e3:yP it bnd r dt de n (i+1) M2 with
       |bad=>rw[e3]at z;cases z
       |exc _ _=>exact ih _ _ _ _ e3
       |ok _ _=>rw[e3]at z;cases z
section
variable {X:Cx}{T:Tb}{ES:St->XK}{osc sc:Scope}{own fr:List Str}{js:List Nat}{bU bG iter:Expr}{ifs:List Expr}{pos:Pos}{di:tI0}{g:TG}{bnd:PV->En->Option En}{dt:DT}{de:DE}
def RIg (W:Wd)(p:ItP)(J:It):Prop:=∀W' M' H',W.le0 W'->(∀b u,W.G b=some u->W'.G b=some u)->Held W' M' H'->∀i,(∀x,nxt p M' i=some (some x)->J.go i H'/\∀v fJ,J.yld i H' v fJ->∃iT,W'.le iT/\Held iT M' fJ/\Rep iT x v)/\(nxt p M' i=some none->J.stop i H')
theorem jjb {on:Nat}{σ:St}{Q:VK}{E:XK}(B:Bnd T on g bnd)(fv:List PV->Sto->PV)(fm:List PV->Sto->Sto)(iS:∀{W:Wd}{M:Sto}{H G0:Hp}{l:Addr}{ys:List PV}{vs:List V},Held W M H->W.G l=some (.lst vs)->(∀b u,G0 b=some u->W.G b=some u/\b≠l)->yd W ys vs->∃W',W.le0 W'/\W'.G=G0/\Held W' (fm ys M) H/\Rep W' (fv ys M) (.ref l)){W0:Wd}{ρ:En}{M0:Sto}{it:ItP}{J:It}{H0:Hp}(k0:W0.T=T) (iV:yq W0 ρ σ) (h0:Held W0 M0 H0) (ri:RIg W0 it J) (p0:yh W0 Rep (if yp it M0<=sizeLine then(yP it bnd (rest js ρ) dt de (yp it M0) 0 M0).bind λys M2=>.ok (fv ys M2) (fm ys M2)else .bad) Q E) (acc:Addr) (bX:H0 acc=none):jjM J acc on js g (lft T RB ES0 dt) (lft T Rep ES0 de) σ Q H0:=by
 by_cases hf:yp it M0<=sizeLine
 rotate_left
 ·rw[if_neg hf]at p0;exact p0.elim
 rw[if_pos hf]at p0;have fB:W0.G acc=none:=by
  cases q:W0.G acc with
  |none=>rfl
  |some o=>
   rw[(h0.gd acc o q).1]at bX;cases bX
 -- what is wanted of the rest
 let Fin:Wd->List PV->Res (List PV)->Prop:=λW ys r=>match r with
  |.ok zs M'=>∀W' H' v,W0.le W'->Held W' (fm (ys++zs) M') H'->Rep W' (fv (ys++zs) M') v->Q v H'
  |_=>False
 have fin0:Fin W0 [] (yP it bnd (rest js ρ) dt de (yp it M0) 0 M0):=by
  cases e:yP it bnd (rest js ρ) dt de (yp it M0) 0 M0 with
  |ok zs M'=>rw[e]at p0;exact λW' H' v le cB r=>p0 W' H' v le cB r
  |exc c M'=>
   exfalso
   exact jgu _ _ _ _ _ e
  |bad=>rw[e]at p0;exact p0.elim
 refine⟨λi m vs H2=>i+m=yp it M0/\vs.length<=i/\∃W M ys,W0.le0 W/\W.G=L2.upd W0.G acc (.lst vs)/\Held W M H2/\yd W ys vs/\Fin W ys (yP it bnd (rest js ρ) dt de m i M),
  ⟨yp it M0,by simp,by simp,W0.gd acc (.lst []),M0,[],Wd.ag,rfl,h0.guard bX,rfl,fin0⟩,?_⟩
 rintro i m vs H2 ⟨hi,hl,W1,M1,ys,eT,g1,h1,r1,f1⟩;have k1:W1.T=T:=eT.k.trans k0;have cQ:yq W1 ρ σ:=⟨iV.1,λi x e=>by
  obtain⟨v,e1,r⟩:=iV.2 i x e
  exact⟨v,e1,r.ah eT⟩⟩
 have i3:W1.G acc=some (.lst vs):=by rw[g1,jr]
 cases m with
 |zero=>exact f1.elim
 |succ m=>
  unfold yP at f1
  obtain⟨eY,c8⟩:=ri W1 M1 H2 eT (λb u q=>by
   have z:b≠acc:=λz=>by rw[z,fB]at q;cases q
   rw[g1,jk z];exact q) h1 i
  split at f1
  ·exact f1.elim
  ·rename_i en;refine .inl ⟨c8 en,?_⟩
   obtain⟨W5,l5,g5,h5,r5⟩:=iS (G0:=W0.G) h1 i3 (λb u q=>by
    have z:b≠acc:=λz=>by rw[z,fB]at q;cases q
    exact⟨by rw[g1,jk z];exact q,z⟩) r1
   have f1:∀W' H' v,W0.le W'->Held W' (fm (ys++[]) M1) H'->Rep W' (fv (ys++[]) M1) v->Q v H':=f1;rw[append_nil]at f1;exact f1 W5 H2 (.ref acc) ⟨eT.trans l5,g5⟩ h5 r5
  ·rename_i x en;split at f1
   ·exact f1.elim
   ·rename_i ρ' eb;obtain⟨go,yld⟩:=eY x en;have bM:vs.length<sizeLine:=by omega
    refine .inr ⟨go,bM,λfC H'=>i+1+m=yp it M0/\fC.length<=i+1/\∃W M ys,W0.le0 W/\W.G=L2.upd W0.G acc (.lst fC)/\Held W M H'/\yd W ys fC/\Fin W ys (yP it bnd (rest js ρ) dt de m (i+1) M),
     λfC H' q=>⟨m,lt_succ_self _,q⟩,λv H3 hy=>?_⟩
    obtain⟨W2,l2,h2,r2⟩:=yld v H3 hy;have k2:W2.T=T:=l2.k.trans k1
    refine B.go W2 M1 H3 js ρ σ x v ρ' _ k2 h2 (cQ.up l2) r2 eb λσ4 rs4 kp=>⟨kp,?_⟩
    cases e1:dt ρ' M1 with
    |bad=>rw[e1]at f1;exact f1.elim
    |exc _ _=>rw[e1]at f1;exact f1.elim
    |ok b M2=>
     rw[e1]at f1;refine⟨W2,ρ',M1,k2,h2,rs4,?_⟩;rw[e1];intro W3 H5 b' l3 h3 eb';subst eb';have g3:W3.G=L2.upd W0.G acc (.lst vs):=by rw[l3.g,l2.g,g1]
     have le3:W0.le0 W3:=(eT.trans l2.toLe0).trans l3.toLe0;have r3:yd W3 ys vs:=(r1.up l2).up l3;cases b' with
     |false=>
      rw[if_neg (by simp)];exact⟨by omega,by omega,W3,M2,ys,le3,g3,h3,r3,f1⟩
     |true=>
      rw[if_pos rfl];have f1:Fin W1 ys ((de ρ' M2).ar.bind λy M2=>(yP it bnd (rest js ρ) dt de m (i+1) M2).bind λzs M3=>.ok (y::zs) M3):=f1;refine⟨W3,ρ',M2,l3.k.trans k2,h3,rs4.up l3,?_⟩;cases e2:de ρ' M2 with
      |bad=>rw[e2]at f1;exact f1.elim
      |exc _ _=>rw[e2]at f1;exact f1.elim
      |ok y M3=>
       rw[e2]at f1;intro W4 H6 w l4 h4 r4;have g4:W4.G=L2.upd W0.G acc (.lst vs):=by rw[l4.g,g3]
       have ga4:W4.G acc=some (.lst vs):=by rw[g4,jr]
       refine⟨(h4.gd _ _ ga4).1,by omega,by simp;omega,W4.gd acc (.lst (vs++[w])),M3,ys++[y],(le3.trans l4.toLe0).trans Wd.ag,?_,h4.aK ga4,?_,?_⟩
       ·show L2.upd W4.G acc (.lst (vs++[w]))=_;rw[g4,uk]
       ·exact yd.ah Wd.ag ((r3.up l4).append (show yd W4 [y] [w]from⟨w,[],rfl,r4,rfl⟩))
       ·have f1:Fin W1 ys ((yP it bnd (rest js ρ) dt de m (i+1) M3).bind λzs M3=>.ok (y::zs) M3):=f1;cases e3:yP it bnd (rest js ρ) dt de m (i+1) M3 with
        |bad=>rw[e3]at f1;exact f1.elim
        |exc _ _=>rw[e3]at f1;exact f1.elim
        |ok zs M4=>
         rw[e3]at f1;have f1:∀W' H' v,W0.le W'->Held W' (fm (ys++(y::zs)) M4) H'->Rep W' (fv (ys++(y::zs)) M4) v->Q v H':=f1;show ∀W' H' v,W0.le W'->Held W' (fm ((ys++[y])++zs) M4) H'->Rep W' (fv ((ys++[y])++zs) M4) v->Q v H';rw[append_assoc];exact f1
theorem XO {on:Nat}{σ:St}{H:Hp}{Q:VK}(B:Bnd T on g bnd)(fv:List PV->Sto->PV)(fm:List PV->Sto->Sto)(iS:∀{W:Wd}{M:Sto}{H G0:Hp}{l:Addr}{ys:List PV}{vs:List V},Held W M H->W.G l=some (.lst vs)->(∀b u,G0 b=some u->W.G b=some u/\b≠l)->yd W ys vs->∃W',W.le0 W'/\W'.G=G0/\Held W' (fm ys M) H/\Rep W' (fv ys M) (.ref l))(h:lft T Rep ES (jcX fv fm di bnd js dt de) σ H Q):YU (lft T RI ES di) on js g (lft T RB ES0 dt) (lft T Rep ES0 de) σ H Q:=by
 obtain⟨W,ρ,M,k,hh,hs,p⟩:=h;exact⟨W,ρ,M,k,hh,hs,yh.bind p λW0 M0 it J H0 l0 h0 ri p0=>λacc bX=>jjb B fv fm iS (l0.k.trans k) (hs.up l0) h0 (λW' M' H' le _ cB i=>ri W' M' H' le cB i) p0 acc bX⟩
theorem VG {on:Nat}{σ:St}{H:Hp}{Q:VK}(B:Bnd T on g bnd)(h:lft T Rep ES (yQ di bnd js dt de) σ H Q):YU (lft T RI ES di) on js g (lft T RB ES0 dt) (lft T Rep ES0 de) σ H Q:=
 XO B (λys _=>.lst ys) (λ_ M=>M) (λ{W M H G0 l ys vs} h e hg r=>by
  obtain⟨l2,h2⟩:=h.aB e hg
  exact⟨W.out G0 l (.lst vs),l2,rfl,h2,l,vs,rfl,jr,r.ah l2⟩) h
theorem xV (B:Bnd T own.length g bnd)(hc:X.calm=true)(ho:X.env.scope=osc)(S:CompScope osc sc own fr)(hj:js.map (λj=>X.N[j]?)=fr.map some)(hi:QI X T ES bG iter di)(hg:∀b3 b4 fp,PG (jQ X (own++fr) sc b3 b4 fp) bG g) (ht:∀b3 b4 fp,QIf (jQ X (own++fr) sc b3 b4 fp) T ES0 ifs dt) (he:∀b3 b4 fp,QE (jQ X (own++fr) sc b3 b4 fp) T ES0 bU de)(hs:∀x,foldedSetIterable iter X.env x=pure x:=by intro _;rfl):QE X T ES (.ListComp bU [⟨bG,iter,ifs,0⟩] sc pos) (yQ di bnd js dt de):=
 ⟨jN (jeq hc ho S hj hi.h hg (λa b c=>(ht a b c).h) (λa b c=>(he a b c).h) hs) λ_ _ _=>VG B⟩
end
inductive RS where
 |nx (ρ:En) (M:Sto)|rt (v:PV) (M:Sto)|bk (ρ:En) (M:Sto)|ct (ρ:En) (M:Sto)|exc (k:Nat) (ρ:En) (M:Sto)|bad
abbrev DS:=En->Sto->RS
def RS.then (r:RS)(k:En->Sto->RS):RS:=match r with
 |.nx ρ M=>k ρ M
 |r=>r
@[simp] theorem RS.aU {ρ:En}{M:Sto}{k:En->Sto->RS}:(RS.nx ρ M).then k=k ρ M:= rfl
@[simp] theorem RS.then_rt {v:PV}{M:Sto}{k:En->Sto->RS}:(RS.rt v M).then k= .rt v M:= rfl
@[simp] theorem RS.then_exc {c:Nat}{ρ:En}{M:Sto}{k:En->Sto->RS}:(RS.exc c ρ M).then k= .exc c ρ M:= rfl
def Res.st {α:Type}(r:Res α)(ρ:En)(k:α->Sto->RS):RS:=match r with
 |.ok a M=>k a M
 |.exc c M=>.exc c ρ M
 |.bad=>.bad
@[simp] theorem Res.ai {α:Type}{a:α}{M:Sto}{ρ:En}{k:α->Sto->RS}:(Res.ok a M).st ρ k=k a M:= rfl
@[simp] theorem Res.st_exc {α:Type}{c:Nat}{M:Sto}{ρ:En}{k:α->Sto->RS}:(Res.exc c M).st ρ k= .exc c ρ M:= rfl
@[simp] theorem Res.st_bad {α:Type}{ρ:En}{k:α->Sto->RS}:(Res.bad).st ρ k= .bad:= rfl
def yo (W:Wd)(r:RS)(D:Ends)(ES:St->XK):Prop:=match r with
 |.nx ρ M=>∀W' σ' H',W.le W'->Held W' M H'->yq W' ρ σ'->D.nx σ' H'
 |.rt v M=>∀W' H' u,W.le W'->Held W' M H'->Rep W' v u->D.rt u H'
 |.bk ρ M=>∀W' σ' H',W.le W'->Held W' M H'->yq W' ρ σ'->D.bk σ' H'
 |.ct ρ M=>∀W' σ' H',W.le W'->Held W' M H'->yq W' ρ σ'->D.ct σ' H'
 |.exc k ρ M=>∀W' σ' H' dd,W.le W'->Held W' M H'->yq W' ρ σ'->jdv W' k dd->ES σ' (.ref (W.T.C (k%64))) dd H'
 |.bad=>False
theorem yo.up {W W':Wd}{r:RS}{D:Ends}{ES:St->XK}(h:yo W r D ES)(le:W.le W'):yo W' r D ES:=by
 cases r with
 |nx ρ M=>exact λW2 σ2 H2 l2 h2 r2=>h W2 σ2 H2 (le.trans l2) h2 r2
 |rt v M=>exact λW2 H2 u l2 h2 r2=>h W2 H2 u (le.trans l2) h2 r2
 |bk ρ M=>exact λW2 σ2 H2 l2 h2 r2=>h W2 σ2 H2 (le.trans l2) h2 r2
 |ct ρ M=>exact λW2 σ2 H2 l2 h2 r2=>h W2 σ2 H2 (le.trans l2) h2 r2
 |exc k ρ M=>
  intro W2 σ2 H2 dd l2 h2 r2 z
  have:=h W2 σ2 H2 dd (le.trans l2) h2 r2 z
  rw[le.k];exact this
 |bad=>exact h.elim
def jij (T:Tb)(ES:St->XK)(d:DS):TS:=λD σ H=>∃W ρ M,W.T=T/\Held W M H/\yq W ρ σ/\yo W (d ρ M) D ES
theorem yL {T:Tb}{ES:St->XK}{d:DS}{D:Ends}{σ:St}{H:Hp}{P:Prop}(h:jij T ES d D σ H)(k:∀W ρ M,W.T=T->Held W M H->yq W ρ σ->yo W (d ρ M) D ES->P):P:=by
 obtain⟨W,ρ,M,a,b,c,e⟩:=h;exact k W ρ M a b c e
structure QS (X:Cx)(T:Tb)(ES:St->XK)(st:Stmt)(d:DS):Prop where
 h:PS X st (jij T ES d)
structure QSs (X:Cx)(T:Tb)(ES:St->XK)(st:List Stmt)(d:DS):Prop where
 h:PSs X st (jij T ES d)
theorem yo.bind {α β:Type}{W:Wd}{R1:Wd->α->β->Prop}{r:Res α}{ρ:En}{σ:St}{k:α->Sto->RS}{D:Ends}{ES:St->XK}{Q1:β->Hp->Prop}(hs:yq W ρ σ)(h:yo W (r.st ρ k) D ES)(f:∀W' M a b H1,W.le W'->Held W' M H1->R1 W' a b->yo W' (k a M) D ES->Q1 b H1):yh W R1 r Q1 (ES σ):=by
 cases r with
 |ok a M=>exact λW2 H2 b l2 h2 r2=>f W2 M a b H2 l2 h2 r2 (yo.up (r:=k a M) h l2)
 |exc k M=>exact λW2 H2 dd l2 h2 z=>h W2 σ H2 dd l2 h2 (hs.up l2) z
 |bad=>exact h.elim
section
variable {X:Cx}{T:Tb}{ES:St->XK}{e a b c o:Expr}{pos p:Pos}{st:Stmt}{sts rest:List Stmt}{d de db do_ di:DE}{d1 d2:DS}{ta:DT}
theorem xi {t t':TS}(h:PS X st t)(f:∀D σ H,t' D σ H->t D σ H):PS X st t':=λbF s σ H D I q=>h bF s σ H D I (f D σ H q)
theorem Uw {t t':TS}(h:PSs X sts t)(f:∀D σ H,t' D σ H->t D σ H):PSs X sts t':=λbF s σ H D I q=>h bF s σ H D I (f D σ H q)
def yN:DS:=λρ M=>.nx ρ M
def yf (d1 d2:DS):DS:=λρ M=>(d1 ρ M).then d2
theorem jG:QSs X T ES [] yN:=⟨Uw jkq λD σ H bH=>yL bH λW ρ M k hh hs q=>q W σ H (.refl W) hh hs⟩
theorem jf (h:QS X T ES st d1):QSs X T ES [st] d1:=⟨jkp h.h⟩
theorem je (h1:QS X T ES st d1)(h2:QSs X T ES rest d2):QSs X T ES (st::rest) (yf d1 d2):=⟨Uw (Xn h1.h h2.h) λD σ H bH=>yL bH λW ρ M k hh hs q=>⟨W,ρ,M,k,hh,hs,by
 unfold yf at q;cases e:d1 ρ M with
 |nx ρ1 M1=>
  rw[e]at q;exact λW1 σ1 H1 l1 h1 r1=>⟨W1,ρ1,M1,l1.k.trans k,h1,r1,yo.up (r:=d2 ρ1 M1) q l1⟩
 |rt v M1=>rw[e]at q;exact q
 |bk ρ1 M1=>rw[e]at q;exact q
 |ct ρ1 M1=>rw[e]at q;exact q
 |exc c ρ1 M1=>rw[e]at q;exact q
 |bad=>rw[e]at q;exact q⟩⟩
def jaF:DS:=λ_ _=>.bad
theorem xM:QS X T ES st jaF:=⟨xi jhD λD σ H bH=>yL bH λ_ _ _ _ _ _ q=>q⟩
def yO (d:DE):DS:=λρ M=>(d ρ M).st ρ λ_ M1=>.nx ρ M1
theorem jL (he:QE X T ES e d)(hs:swapsWith e none pos.line X.env=pure false:=by rfl):QS X T ES (.Expr e pos) (yO d):=⟨xi (jks he.h hs) λD σ H bH=>yL bH λW ρ M k hh hs q=>⟨W,ρ,M,k,hh,hs,yo.bind hs q λW1 M1 x v H1 l1 h1 r1 q1=>q1 W1 σ H1 (.refl W1) h1 (hs.up l1)⟩⟩
def yI (d:DE):DS:=λρ M=>(d ρ M).st ρ λv M1=>.rt v M1
theorem jt (he:QE X T ES e d):QS X T ES (.Return (some e) pos) (yI d):=⟨xi (jni he.h) λD σ H bH=>yL bH λW ρ M k hh hs q=>⟨W,ρ,M,k,hh,hs,yo.bind hs q λW1 M1 x v H1 l1 h1 r1 q1=>q1 W1 H1 v (.refl W1) h1 r1⟩⟩
def sIf (t:DT)(d1 d2:DS):DS:=λρ M=>(t ρ M).st ρ λc M1=>if c=true then d1 ρ M1 else d2 ρ M1
theorem yX {sa sb:List Stmt}(hc:QT X T ES c ta)(ha:QSs X T ES sa d1)(hb:QSs X T ES sb d2):QS X T ES (.If c sa sb pos) (sIf ta d1 d2):=⟨xi (jpL hc.h ha.h hb.h) λD σ H bH=>yL bH λW ρ M k hh hs q=>
 ⟨W,ρ,M,k,hh,hs,yo.bind hs q λW1 M1 x v H1 l1 h1 r1 q1=>by
  subst r1;cases v with
  |true=>rw[if_pos rfl]at q1 ⊢;exact⟨W1,ρ,M1,l1.k.trans k,h1,hs.up l1,q1⟩
  |false=>rw[if_neg (by simp)]at q1 ⊢;exact⟨W1,ρ,M1,l1.k.trans k,h1,hs.up l1,q1⟩⟩⟩
def yH (i:Nat)(d:DE):DS:=λρ M=>(d ρ M).st ρ λv M1=>.nx (ρ.set i (some v)) M1
theorem YX {i:Nat}{D:Ends}{σ:St}{H:Hp}(h:jij T ES (yH i d) D σ H):jjV (lft T Rep ES d) (vc i) D σ H:=by
 obtain⟨W,ρ,M,k,hh,hs,q⟩:=h;exact⟨W,ρ,M,k,hh,hs,yo.bind hs q λW1 M1 x v H1 l1 h1 r1 q1=>q1 W1 _ H1 (.refl W1) h1 ((hs.up l1).set r1)⟩
theorem jD {i:Nat}{x:Str}{cO:Pos}(hN:X.N.Nodup)(hi:X.N[i]?= some x)(hx:Loc X.env.scope x)(he:QE X T ES e d)(hs:swapsWith e (some (.Name x cO)) pos.line X.env=pure false:=by rfl)(hf:X.fn x=true\/X.env.scope.names.lookup x=some .local:=by first|exact .inl rfl|exact .inr rfl|assumption) :
  QS X T ES (.Assign [.Name x cO] e pos) (yH i d):=⟨xi (jhC hN hi hx he.h hs hf) λ_ _ _=>YX⟩
theorem jek {osc sc:Scope}{own fr:List Str}{js:List Nat}{bU bG iter:Expr}{ifs:List Expr}{eZ:tI0}{g:TG}{bnd:PV->En->Option En}{dt:DT}{i:Nat}{x:Str}{px dZ:Pos}(B:Bnd T own.length g bnd)(hc:X.calm=true)(ho:X.env.scope=osc)(S:CompScope osc sc own fr)(hj:js.map (λj=>X.N[j]?)=fr.map some)(hN:X.N.Nodup) (fh:X.N[i]?= some x) (hx:X.env.scope.names.lookup x=some .local) (hi:QI X T ES bG iter eZ)(hg:∀b3 b4 fp,PG (jQ X (own++fr) sc b3 b4 fp) bG g) (ht:∀b3 b4 fp,QIf (jQ X (own++fr) sc b3 b4 fp) T ES0 ifs dt) (he:∀b3 b4 fp,QE (jQ X (own++fr) sc b3 b4 fp) T ES0 bU de)(iy:swapsWith (.ListComp bU [⟨bG,iter,ifs,0⟩] sc pos) (some (.Name x px)) dZ.line X.env=pure true) (hs:∀x,foldedSetIterable iter X.env x=pure x:=by intro _;rfl) :
  QS X T ES (.Assign [.Name x px] (.ListComp bU [⟨bG,iter,ifs,0⟩] sc pos) dZ) (yH i (yQ eZ bnd js dt de)):=
 ⟨xi (jel hc ho S hj hN fh hx hi.h hg (λa b c=>(ht a b c).h) (λa b c=>(he a b c).h) iy hs) λD σ H h=>by
  have:=YX h
  show YU _ _ _ _ _ _ σ H _;exact VG B this⟩
abbrev DG:=PV->En->Option En
abbrev DGs:=List PV->En->Option En
def jik (T:Tb)(g:DG):TG:=λv σ H Q=>∃W ρ M x ρ',W.T=T/\Held W M H/\yq W ρ σ/\Rep W x v/\g x ρ=some ρ'/\∀σ',yq W ρ' σ'->Q σ' H
def jqi (T:Tb)(g:DGs):TGs:=λvs σ H Q=>∃W ρ M xs ρ',W.T=T/\Held W M H/\yq W ρ σ/\yd W xs vs/\g xs ρ=some ρ'/\∀σ',yq W ρ' σ'->Q σ' H
structure QG (X:Cx)(T:Tb)(tg:Expr)(g:DG):Prop where
 h:PG X tg (jik T g)
structure QGs (X:Cx)(T:Tb)(fD:List Expr)(g:DGs):Prop where
 h:PGs X fD (jqi T g)
variable {tg:Expr}{fD:List Expr}
theorem jhL {t t':TG}(h:PG X tg t)(f:∀v σ H Q,t' v σ H Q->t v σ H Q):PG X tg t':=λbF s σ H v u Q I r q=>h bF s σ H v u Q I r (f v σ H Q q)
theorem jep {t t':TGs}(h:PGs X fD t)(f:∀v σ H Q,t' v σ H Q->t v σ H Q):PGs X fD t':=λbF s σ H v u Q I r q=>h bF s σ H v u Q I r (f v σ H Q q)
def gN (i:Nat):DG:=λx ρ=>some (ρ.set i (some x))
theorem yD {i:Nat}{x:Str}(hN:X.N.Nodup)(hi:X.N[i]?= some x)(hx:Loc X.env.scope x)(hf:X.fn x=true\/X.env.scope.names.lookup x=some .local:=by first|exact .inl rfl|exact .inr rfl|assumption):QG X T (.Name x pos) (gN i):=
 ⟨jhL (jJ hN hi hx hf) λv σ H Q bH=>by
  obtain⟨W,ρ,M,x,ρ',k,hh,hs,r,e,q⟩:=bH;cases e
  exact q _ (hs.set r)⟩
def Ji:DGs:=λxs ρ=>match xs with
 |[]=>some ρ
 |_=>none
def yJ (g:DG)(gs:DGs):DGs:=λxs ρ=>match xs with
 |x::r=>(g x ρ).bind λρ1=>gs r ρ1
 |_=>none
theorem YM:QGs X T [] Ji:=⟨jep Uy λv σ H Q bH=>by
 obtain⟨W,ρ,M,xs,ρ',k,hh,hs,r,e,q⟩:=bH
 cases xs with
 |nil=>cases e;cases r;exact⟨rfl,q σ hs⟩
 |cons _ _=>cases e⟩
theorem xn {g:DG}{gs:DGs}(h1:QG X T tg g)(h2:QGs X T fD gs)(hs:(assignEach (tg::fD) X.env).map (·.2)=assign tg X.env::(assignEach fD X.env).map (·.2):=by rfl):QGs X T (tg::fD) (yJ g gs):=
 ⟨jep (vS h1.h h2.h hs) λv σ H Q bH=>by
  obtain⟨W,ρ,M,xs,ρ',k,hh,hs,r,e,q⟩:=bH
  cases xs with
  |nil=>cases e
  |cons x xr=>
   obtain⟨u,ur,rfl,ra,rb⟩:=r;have e:(g x ρ).bind (λρ1=>gs xr ρ1)=some ρ':=e
   cases e1:g x ρ with
   |none=>rw[e1]at e;cases e
   |some ρ1=>
    rw[e1]at e
    exact⟨u,ur,rfl,W,ρ,M,x,ρ1,k,hh,hs,ra,e1,λσ1 r1=>⟨W,ρ1,M,xr,ρ',k,hh,r1,rb,e,q⟩⟩⟩
def gT (n:Nat)(gs:DGs):DG:=λx ρ=>match x with
 |.tup xs=>if xs.length=n then gs xs ρ else none
 |_=>none
theorem Ur {k:Nat}{gs:DGs}{n:Nat}(hT:T.K=X.K)(hc:X.calm=true)(h:QGs X T fD gs)(hn:(assignEach fD X.env).length=n:=by rfl)(lK:(assignEach fD X.env).findIdx? (·.1)=none:=by rfl):QG X T (.Tuple fD k pos) (gT n gs):=
 ⟨jhL (jcs hc h.h hn lK) λv σ H Q bH=>by
  obtain⟨W,ρ,M,x,ρ',k,hh,hs,r,e,q⟩:=bH;unfold gT at e;split at e
  ·rename_i xs;split at e
   ·rename_i hl;obtain⟨a,vs,rfl,ha,rr⟩:=yU hh r;rw[k,hT]at ha;exact⟨a,vs,rfl,ha,by rw[rr.length];exact hl,W,ρ,M,xs,ρ',k,hh,hs,rr,e,q⟩
   ·cases e
  ·cases e⟩
def jfM (d:DE)(g:DG):DS:=λρ M=>(d ρ M).st ρ λv M1=>match g v ρ with
 |some ρ'=>.nx ρ' M1
 |none=>.bad
theorem jho {g:DG}(he:QE X T ES e d)(hg:QG X T tg g)(hs:swapsWithSole [tg] e pos.line X.env=pure false:=by rfl)(hw:swappedStores [tg] e X.env=pure none:=by rfl)(h1:(assignEach [tg] X.env).map (·.2)=[assign tg X.env]:=by rfl):QS X T ES (.Assign [tg] e pos) (jfM d g):=⟨xi (jhE he.h hg.h hs hw h1) λD σ H bH=>yL bH λW ρ M k hh hs q=>⟨W,ρ,M,k,hh,hs,yo.bind hs q λW1 M1 x v H1 l1 h1 r1 q1=>by
 split at q1
 ·rename_i ρ' e1;exact⟨W1,ρ,M1,x,ρ',l1.k.trans k,h1,hs.up l1,r1,e1,λσ' r'=>q1 W1 σ' H1 (.refl W1) h1 r'⟩
 ·exact q1.elim⟩⟩
def jfP (M:Sto)(o i x:PV):Option Sto:=match o,i with
 |.ref j,.int k=>(match M.g j with
  |some (.lst xs)=>(ixN xs.length k).map λn=>M.set j (.lst (xs.set n x))
  |_=>none)
 |_,_=>none
def Yq (d do_ di:DE):DS:=λρ M=>(d ρ M).st ρ λx M1=>(do_ ρ M1).st ρ λo M2=>(di ρ M2).st ρ λi M3=>match jfP M3 o i x with
 |some M4=>.nx ρ M4
 |none=>.bad
theorem YK {ip:Expr}{p2:Pos}(he:QE X T ES e d)(ho:QE X T ES o do_)(hi:QE X T ES ip di)(ha:∀v,assign (.Subscript o ip p2) X.env v=(do
   let ov <-holding [v] (eval o X.env)
   let iv <-holding [v,ov] (eval ip X.env)
   standAt p2
   holding [v,ov,iv] (setItem ov iv v)
   release [v,ov,iv] []):=by intro _;rfl)
  (hs:swapsWithSole [.Subscript o ip p2] e pos.line X.env=pure false:=by rfl) (hw:swappedStores [.Subscript o ip p2] e X.env=pure none:=by rfl)
  (h1:(assignEach [.Subscript o ip p2] X.env).map (·.2)=[assign (.Subscript o ip p2) X.env]:=by rfl):QS X T ES (.Assign [.Subscript o ip p2] e pos) (Yq d do_ di):=
 ⟨xi (jhE he.h (jnp ho.h hi.h jgZ ha) hs hw h1) λD σ H bH=>yL bH λW ρ M k hh hs q=>⟨W,ρ,M,k,hh,hs,yo.bind hs q λW1 M1 x v H1 l1 h1 r1 q1=>by
  have cQ:=hs.up l1;refine⟨W1,ρ,M1,l1.k.trans k,h1,cQ,yo.bind cQ q1 λW2 M2 o' ov H2 l2 h2 r2 q2=>?_⟩;have cY:=cQ.up l2;refine⟨W2,ρ,M2,l2.k.trans (l1.k.trans k),h2,cY,yo.bind cY q2 λW3 M3 i' iv H3 l3 h3 r3 q3=>?_⟩;split at q3
  ·rename_i M4 e4;unfold jfP at e4;split at e4
   ·rename_i j kk;split at e4
    ·rename_i xs e5;cases e6:ixN xs.length kk with
     |none=>rw[e6]at e4;cases e4
     |some n=>
      rw[e6]at e4;cases e4;obtain⟨a,rfl,ea⟩:=r2.up l3;obtain⟨b',ob,g1,g2,g3,vs,rfl,rr⟩:=h3.m j _ e5;rw[ea]at g1;cases g1;have rx:=(r1.up l2).up l3;exact⟨a,vs,kk,n,rfl,r3,g3,by rw[rr.length];exact e6,q3 W3 σ _ (.refl W3) (h3.upd e5 ea ⟨_,rfl,rr.set rx n⟩) (cY.up l3)⟩
    ·cases e4
   ·cases e4
  ·exact q3.elim⟩⟩
def vP (p:ItP)(g:DG)(db:DS):Nat->Nat->En->Sto->RS
 |0,_,_,_=>.bad
 |n+1,i,ρ,M=>match nxt p M i with
  |none=>.bad
  |some none=>.nx ρ M
  |some (some x)=>match g x ρ with
   |none=>.bad
   |some ρ1=>match db ρ1 M with
    |.nx ρ2 M2=>vP p g db n (i+1) ρ2 M2
    |.ct ρ2 M2=>vP p g db n (i+1) ρ2 M2
    |.bk ρ2 M2=>.nx ρ2 M2
    |r=>r
def xg (g:DG)(db:DS):List PV->En->Sto->RS
 |[],ρ,M=>.nx ρ M
 |x::xs,ρ,M=>match g x ρ with
  |none=>.bad
  |some ρ1=>match db ρ1 M with
   |.nx ρ2 M2=>xg g db xs ρ2 M2
   |.ct ρ2 M2=>xg g db xs ρ2 M2
   |.bk ρ2 M2=>.nx ρ2 M2
   |r=>r
theorem Vx {all:List PV}{g:DG}{db:DS}:∀{xs:List PV}{n i:Nat}{ρ:En}{M:Sto},all.drop i=xs->xs.length<n->vP (.fix all) g db n i ρ M=xg g db xs ρ M
 |xs,0,i,ρ,M,e,h=>absurd h (not_lt_zero _)
 |[],n+1,i,ρ,M,e,h=>by
  have:all[i]?= none:=List.getElem?_eq_none_iff.mpr (by
   have:=congrArg List.length e
   simp at this;omega)
  unfold vP;rw[show nxt (.fix all) M i=some (all[i]?)from rfl,this];rfl
 |x::xs,n+1,i,ρ,M,e,h=>by
  have e1:all[i]?= some x:=by
   have:=congrArg (λl=>l[0]?) e
   simpa[getElem?_drop]using this
  have e2:all.drop (i+1)=xs:=by
   have:=congrArg (List.drop 1) e
   simpa[List.drop_drop]using this
  have ih:∀ρ M,vP (.fix all) g db n (i+1) ρ M=xg g db xs ρ M:=λρ M=>Vx e2 (by simpa using h);unfold vP;rw[show nxt (.fix all) M i=some (all[i]?)from rfl,e1];simp only[ih];rfl
def Ve (F:Nat)(eZ:tI0)(g:DG)(db:DS):DS:=λρ M=>(eZ ρ M).st ρ λp M1=>vP p g db (match p with
 |.fix xs=>xs.length+1
 |_=>F) 0 ρ M1
theorem Xc {F:Nat}{eZ:tI0}{g:DG}{db:DS}{ρ:En}{M M1:Sto}{xs:List PV}(h:eZ ρ M= .ok (.fix xs) M1):Ve F eZ g db ρ M=xg g db xs ρ M1:=by
 unfold Ve;rw[h];exact Vx rfl (lt_succ_self _)
theorem Xk {iter:Expr}{body:List Stmt}{eZ:tI0}{g:DG}{db:DS}(F:Nat)(hp:PassesOwn (model X.prog X.w) X.A X.env X.xe)(hc:X.calm=true)(hi:QI X T ES tg iter eZ)(hg:QG X T tg g)(hb:QSs X T ES body db)(hs:∀x,foldedSetIterable iter X.env x=pure x:=by intro _;rfl) :
  QS X T ES (.For tg iter body [] pos) (Ve F eZ g db):=⟨xi (jnj hp hc hi.h hg.h hb.h hs) λD σ H bH=>yL bH λW ρ M k hh hs q=>⟨W,ρ,M,k,hh,hs,yo.bind hs q λW0 M0 it J H0 l0 h0 ri q0=>by
 refine⟨λi m σ H=>∃W ρ M,W0.le W/\Held W M H/\yq W ρ σ/\yo W (vP it g db m i ρ M) D ES,⟨_,W0,ρ,M0,.refl W0,h0,hs.up l0,q0⟩,?_⟩;rintro i m σ1 H1 ⟨W1,ρ1,M1,l1,h1,r1,q1⟩;have k1:W1.T=T:=l1.k.trans (l0.k.trans k)
 cases m with
 |zero=>exact q1.elim
 |succ m=>
  unfold vP at q1;obtain⟨eY,c8⟩:=ri W1 M1 H1 l1.toLe0 h1 i;split at q1
  ·exact q1.elim
  ·rename_i en;exact .inl ⟨c8 en,q1 W1 σ1 H1 (.refl W1) h1 r1⟩
  ·rename_i x en;obtain⟨go,yld⟩:=eY x en;split at q1
   ·exact q1.elim
   ·rename_i ρ2 eg;refine .inr ⟨go,λσ' H'=>∃W ρ M,W0.le W/\Held W M H'/\yq W ρ σ'/\yo W (vP it g db m (i+1) ρ M) D ES,λσ' H' n=>⟨m,lt_succ_self _,n⟩,λv H2 hy=>?_⟩;obtain⟨W2,l2,h2,rx⟩:=yld v H2 hy;refine⟨W2,ρ1,M1,x,ρ2,l2.k.trans k1,h2,r1.up l2,rx,eg,λσ2 r2=>⟨W2,ρ2,M1,l2.k.trans k1,h2,r2,?_⟩⟩;have gK:=l1.trans l2;cases e:db ρ2 M1 with
    |nx ρ3 M3=>rw[e]at q1;exact λW3 σ3 H3 l3 h3 r3=>⟨W3,ρ3,M3,gK.trans l3,h3,r3,yo.up (r:=vP it g db m (i+1) ρ3 M3) q1 (l2.trans l3)⟩
    |ct ρ3 M3=>rw[e]at q1;exact λW3 σ3 H3 l3 h3 r3=>⟨W3,ρ3,M3,gK.trans l3,h3,r3,yo.up (r:=vP it g db m (i+1) ρ3 M3) q1 (l2.trans l3)⟩
    |bk ρ3 M3=>rw[e]at q1;exact λW3 σ3 H3 l3 h3 r3=>q1 W3 σ3 H3 (l2.trans l3) h3 r3
    |rt v3 M3=>rw[e]at q1;exact λW3 H3 u l3 h3 r3=>q1 W3 H3 u (l2.trans l3) h3 r3
    |exc c ρ3 M3=>
     rw[e]at q1;intro W3 σ3 H3 dd l3 h3 r3 dx
     have:=q1 W3 σ3 H3 dd (l2.trans l3) h3 r3 dx
     rw[l2.k];exact this
    |bad=>rw[e]at q1;exact q1.elim⟩⟩
end
open PyProof.Rows (envOfC int_text_len_1921)
def spD (T:Tb)(D:tD0):Sp:=λvs H Q E=>∃W cg M,W.T=T/\Held W M H/\yd W cg vs/\yh W Rep (D cg M) Q E
def jgW (T:Tb)(D:tD0):Sp:=λvs H Q _=>∃W cg M v M',W.T=T/\Held W M H/\yd W cg vs/\D cg M= .ok v M'/\∀W' H' u,W.le W'->Held W' M' H'->Rep W' v u->Q u H'
def fin:RS->Res PV
 |.rt v M=>.ok v M
 |.nx _ M=>.ok .non M
 |.exc k _ M=>.exc k M
 |_=>.bad
def yu (n N:Nat)(d:DS):List PV->Sto->Res PV:=λcg M=>if cg.length=n then fin (d (cg.map some++replicate (N-n) none) M)else .bad
def JV (D:tD0):List PV->Sto->Res PV:=λcg M=>(D cg M).ar
def both (D0 D1:tD0):List PV->Sto->Res PV:=λcg M=>match D0 cg M with
 |.ok v M'=>.ok v M'
 |_=>match D1 cg M with
  |.exc k M'=>.exc k M'
  |_=>.bad
theorem jfF {W:Wd}{N:List Str}{n:Nat}{cg:List PV}{vs:List V}(r:yd W cg vs)(hn:cg.length=n):yq W (cg.map some++replicate (N.length-n) none) (L2.start N vs):=by
 unfold L2.start;have hl:=r.length;refine⟨by simp;omega,λi x e=>?_⟩
 by_cases hi:i<cg.length
 ·rw[getElem?_append_left (by simpa using hi),getElem?_map]at e;cases e1:cg[i]? with
  |none=>rw[e1]at e;cases e
  |some y=>
   rw[e1]at e;cases e;obtain⟨v,e2,r2⟩:=r.get e1;exact⟨v,by rw[getElem?_append_left (by simp;omega),getElem?_map,e2];rfl,r2⟩
 ·rw[getElem?_append_right (by simp;omega)]at e
  have:=mem_of_getElem? e
  have:=List.eq_of_mem_replicate this
  cases this
section
variable {P:Program}{w:World}{K:Frag}{mg:tM0}{base:Heap}{x qual:Str}{st:Stmt}{f:Addr}{fd:FuncData}{N ps:List Str}{k:Nat}{T:Tb}{d:DS}{D:tD0}
theorem jbx {n:Nat}{cg:List PV}{M:Sto}(h:yu n k d cg M≠.bad):cg.length=n:=by
 unfold yu at h;split at h
 ·assumption
 ·exact absurd rfl h
theorem jiH {W:Wd}{r:RS}{Q:VK}{E:XK}(h:yh W Rep (fin r) Q E):yo W r { nx:=λ_ H'=>Q .non H',rt:=Q } λ_=>E:=by
 cases r with
 |nx ρ M=>exact λW' σ' H' le hh _=>h W' H' .non le hh rfl
 |rt v M=>exact h
 |bk ρ M=>exact h.elim
 |ct ρ M=>exact h.elim
 |exc c ρ M=>exact λW' σ' H' dd le hh _ z=>h W' H' dd le hh z
 |bad=>exact h.elim
theorem jbv {n:Nat}{vs:List V}{H:Hp}{Q:VK}{E:XK}(h:spD T (yu n N.length d) vs H Q E):jij T (λ_=>E) d { nx:=λ_ H'=>Q .non H',rt:=Q } (L2.start N vs) H:=by
 obtain⟨W,cg,M,kT,hh,r,p⟩:=h
 have hn:cg.length=n:=jbx (M:=M) (d:=d) (k:=N.length) λz=>by rw[z]at p;exact p
 have p:yh W Rep (if cg.length=n then fin (d (cg.map some++replicate (N.length-n) none) M)else .bad) Q E:=p;rw[if_pos hn]at p;exact⟨W,_,M,kT,hh,jfF r hn,jiH p⟩
theorem jdI {n:Nat}{vs:List V}{H:Hp}{Q:VK}{E:XK}(h:spD T (yu n N.length d) vs H Q E):vs.length=n:=by
 obtain⟨W,cg,M,kT,hh,r,p⟩:=h
 have hn:cg.length=n:=jbx (M:=M) (d:=d) (k:=N.length) λz=>by rw[z]at p;exact p
 rw[r.length,hn]
theorem jmv {D:tD0}{vs:List V}{H:Hp}{Q:VK}{E:XK}(h:jgW T D vs H Q E):spD T D vs H Q E:=by
 obtain⟨W,cg,M,v,M',kT,hh,r,e,q⟩:=h;exact⟨W,cg,M,kT,hh,r,by rw[e];exact q⟩
theorem jI (F:Fun K x qual st f fd)(S:FnScope N ps (jc st))(hb:∀(bV:Value) (A:Around) (outer:List Env) (s:Shared) (H:Hp) (E:XK),Room k (A.deeper (envOfC qual (jc st) s.heap.objs.size f bV))->
  QSs (YF (CX1 P w) P w K mg base N qual (jc st) f bV A outer s H E) T (λ_=>E) (ji st) d):FnOk P w K mg base (CX1 P w) (k+1) f fd ps (spD T (yu ps.length N.length d)):=
 F.br S (λ_ _ _ _ h=>jdI h) λbV A outer s H vs Q E hr h=>⟨_,(hb bV A outer s H E hr).h,jbv h⟩
theorem jbw (F:Fun K x qual st f fd)(S:FnScope N ps (jc st))(hb:∀(bV:Value) (A:Around) (outer:List Env) (s:Shared) (H:Hp) (E:XK),Room k (A.deeper (envOfC qual (jc st) s.heap.objs.size f bV))->
  QSs (YF CX0 P w K mg base N qual (jc st) f bV A outer s H E).aN T ES0 (ji st) d):FnOk P w K mg base CX0 (k+1) f fd ps (jgW T (yu ps.length N.length d)):=
 F.ok S (λ_ _ _ _ h=>jdI (jmv h)) λbV A outer s H vs Q E hr h=>⟨_,(hb bV A outer s H E hr).h,by
  obtain⟨W,cg,M,v,M',kT,hh,r,e,q⟩:=h
  exact jbv (E:=E0) ⟨W,cg,M,kT,hh,r,by rw[e];exact q⟩⟩
theorem Jq (F:FnOk P w K mg base CX0 k f fd ps (jgW T D)):FnOk P w K mg base (CX1 P w) k f fd ps (spD T (JV D)):=F.up.imp λvs H Q E bH=>by
 obtain⟨W,cg,M,kT,hh,r,p⟩:=bH;unfold JV at p
 cases e:D cg M with
 |ok v M'=>rw[e]at p;exact⟨W,cg,M,v,M',kT,hh,r,e,p⟩
 |exc _ _=>rw[e]at p;exact p.elim
 |bad=>rw[e]at p;exact p.elim
end
inductive Sl where
 |p (i:Nat)|k (j:Nat)|d (n:Nat)
def gen {α:Type}(sp:List Sl)(ds us ws:List α):List α:=sp.filterMap λ
 |.p i=>us[i]?
 |.k j=>ws[j]?
 |.d n=>ds[n]?
def yk {α:Type}(a b:Nat)(sp:List Sl)(ds us ws:List α):List α:=if us.length=a/\ws.length=b then gen sp ds us ws else []
theorem jbh {dV:List V}{ds:List Value}{vs:List V}{us:List Value}{zs:List V}{ws:List Value}(hd:yg dV ds)(hu:yg vs us)(hw:yg zs ws):∀(sp:List Sl),yg (gen sp dV vs zs) (gen sp ds us ws)
 |[]=>.nil
 |c::r=>by
  have ih:=jbh hd hu hw r;have get:∀{xs:List V}{ys:List Value}(i:Nat),yg xs ys->(∃x y,xs[i]?= some x/\ys[i]?= some y/\RelV x y)\/(xs[i]?= none/\ys[i]?= none):=λ{xs ys} i h=>by
   cases e:xs[i]? with
   |none=>exact .inr ⟨rfl,h.none_of e⟩
   |some x=>
    obtain⟨y,e2,r2⟩:=h.get e;exact .inl ⟨x,y,rfl,e2,r2⟩
  unfold gen;rw[filterMap_cons,filterMap_cons];cases c with
  |p i=>
   rcases get i hu with⟨x,y,e1,e2,r2⟩|⟨e1,e2⟩
   ·simp only[e1,e2];exact .cons r2 ih
   ·simp only[e1,e2];exact ih
  |k i=>
   rcases get i hw with⟨x,y,e1,e2,r2⟩|⟨e1,e2⟩
   ·simp only[e1,e2];exact .cons r2 ih
   ·simp only[e1,e2];exact ih
  |d i=>
   rcases get i hd with⟨x,y,e1,e2,r2⟩|⟨e1,e2⟩
   ·simp only[e1,e2];exact .cons r2 ih
   ·simp only[e1,e2];exact ih
theorem jbi {W:Wd}{dP:List PV}{dV:List V}{j9:List PV}{vs:List V}{j8:List PV}{zs:List V}(hd:yd W dP dV)(hu:yd W j9 vs)(hw:yd W j8 zs):∀(sp:List Sl),yd W (gen sp dP j9 j8) (gen sp dV vs zs)
 |[]=>rfl
 |c::r=>by
  have ih:=jbi hd hu hw r;have get:∀{xs:List PV}{ys:List V}(i:Nat),yd W xs ys->(∃x y,xs[i]?= some x/\ys[i]?= some y/\Rep W x y)\/(xs[i]?= none/\ys[i]?= none):=λ{xs ys} i h=>by
   cases e:xs[i]? with
   |none=>
    refine .inr ⟨rfl,List.getElem?_eq_none_iff.mpr ?_⟩;rw[h.length];exact List.getElem?_eq_none_iff.mp e
   |some x=>
    obtain⟨y,e2,r2⟩:=h.get e;exact .inl ⟨x,y,rfl,e2,r2⟩
  unfold gen;rw[filterMap_cons,filterMap_cons];cases c with
  |p i=>
   rcases get i hu with⟨x,y,e1,e2,r2⟩|⟨e1,e2⟩
   ·simp only[e1,e2];exact⟨y,_,rfl,r2,ih⟩
   ·simp only[e1,e2];exact ih
  |k i=>
   rcases get i hw with⟨x,y,e1,e2,r2⟩|⟨e1,e2⟩
   ·simp only[e1,e2];exact⟨y,_,rfl,r2,ih⟩
   ·simp only[e1,e2];exact ih
  |d i=>
   rcases get i hd with⟨x,y,e1,e2,r2⟩|⟨e1,e2⟩
   ·simp only[e1,e2];exact⟨y,_,rfl,r2,ih⟩
   ·simp only[e1,e2];exact ih
theorem jE {K:Frag}{fd:FuncData}{p0:Str}{pr ks:List Str}{a b:Nat}{sp:List Sl}{dV:List V}{ds:List Value}(hd:yg dV ds)(h:∀(s:Shared) (us ws:List Value),K.In s.heap->us.length=a->ws.length=b->BindsTo s fd ⟨us,ks.zip ws⟩ ((p0::pr).zip (gen sp ds us ws))):KBinds K fd (p0::pr) ks (yk a b sp ds) (yk a b sp dV) where
 to:=λs us ws KX hl=>by
  unfold yk at hl ⊢
  by_cases hc:us.length=a/\ws.length=b
  ·rw[if_pos hc]at hl ⊢;exact h s us ws KX hc.1 hc.2
  ·rw[if_neg hc]at hl;cases hl
 rel:=λ{vs us zs ws} hu hw=>by
  unfold yk;rw[hu.length,hw.length];split
  ·exact jbh hd hu hw sp
  ·exact .nil
structure CalD (P:Program)(w:World)(K:Frag)(mg:tM0)(base:Heap)(T:Tb)(x:Str)(j:Nat)(ps ks:List Str)(a b:Nat)(sl:List Sl)(dP:List PV)(D:tD0):Prop where
 ex:∃f fd dV ds,FnOk P w K mg base (CX1 P w) j f fd ps (spD T D)/\mg x=some (.ref f)/\keepIn K (.ref f)=true/\KBinds K fd ps ks (yk a b sl ds) (yk a b sl dV)/\∀W:Wd,W.T=T->yd W dP dV
def jo (D:tD0)(a b:Nat)(sl:List Sl)(dP:List PV)(da dk:DA):DE:=λρ M=>(da ρ M).bind λxs M1=>(dk ρ M1).bind λzs M2=>D (yk a b sl dP xs zs) M2
section
variable {X:Cx}{T:Tb}{ES:St->XK}{x:Str}{j:Nat}{ps ks:List Str}{a b:Nat}{sl:List Sl}{dP:List PV}{D:tD0}{p pos:Pos}{e:Expr}{es:List Expr}{cV:List Keyword}{da dk:DA}
theorem Yd {W:Wd}{dV:List V}{j9:List PV}{vs:List V}{j8:List PV}{zs:List V}(hd:yd W dP dV)(hu:yd W j9 vs)(hw:yd W j8 zs):yd W (yk a b sl dP j9 j8) (yk a b sl dV vs zs):=by
 unfold yk;rw[hu.length,hw.length];split
 ·exact jbi hd hu hw sl
 ·rfl
theorem jx:vO (CX1 X.prog X.w) X ES0:=λbF σ H s e s' I h=>by
 obtain⟨_,_,_,_,_,_,_,_,_,_,_,_,_,_,q⟩:=h;exact q.elim
theorem jB {P:Program}{w:World}{K:Frag}{mg:tM0}{base:Heap}{N:List Str}{qual:Str}{scope:Scope}{f:Addr}{cd:Value}{A:Around}{outer:List Env}{s₀:Shared}{H₀:Hp}{E:XK} :
  vO (CX1 P w) (YF (CX1 P w) P w K mg base N qual scope f cd A outer s₀ H₀ E) λ_=>E:=λbF σ H s e s' I h=>jli bF σ H s e s' I h
theorem jlB {f:Addr}{fd:FuncData}{dV:List V}{ds:List Value}{bF:tP0}{σ:St}{H:Hp}{s:Shared}{Q:VK}{us ws:List Value}{vs zs:List V}{sp:Sp}(F:FnOk X.prog X.w X.K X.mg X.base (CX1 X.prog X.w) j f fd ps sp)(hr:Room j X.A)(hb:KBinds X.K fd ps ks (yk a b sl ds) (yk a b sl dV))(hx:vO (CX1 X.prog X.w) X ES)(I:Inv X bF σ H s) (r:yg vs us) (rz:yg zs ws) (h:sp (yk a b sl dV vs zs) H Q (ES σ)):wpAny (model X.prog X.w) X.A (call (.ref f) us (ks.zip ws)) (EP X bF σ Q) X.xe s:=by
 have r2:=hb.rel r rz;have hl:(yk a b sl ds us ws).length=ps.length:=by rw[<-r2.length];exact F.len _ _ _ _ h
 refine wpAny_call (codeAny_mono (F.run X.A X.stack s H ⟨us,ks.zip ws⟩ (yk a b sl ds us ws) (yk a b sl dV vs zs) Q (ES σ) hr I.bc (hb.to s us ws I.aI hl) r2 h) λr s' hq=>?_)
 match r,hq with
 |.error e,hq=>exact hx bF σ H s e s' I hq
 |.ok (.ret u),hq=>exact I.after hq
theorem jh (C:CalD X.prog X.w X.K X.mg X.base T x j ps ks a b sl dP D)(hr:Room j X.A)(hg:Gl X x)(hx:vO (CX1 X.prog X.w) X ES)(ha:QA X T ES (e::es) da)(kn:QK X T ES cV dk)(cC:(backToKw pos (keywordEach cV X.env)).all (·.1.isSome)=true:=by rfl) (d9:(backToKw pos (keywordEach cV X.env)).filterMap (·.1)=ks:=by rfl)
  (f6:(x==("__debug__":Str))=false:=by decide) (he:starEach (e::es) X.env=(false,eval e X.env)::starEach es X.env:=by rfl)
  (cM:((backTo pos (starEach (e::es) X.env)).any (·.1) || (backToKw pos (keywordEach cV X.env)).any (·.1.isNone))=false:=by rfl):QE X T ES (.Call (.Name x p) (e::es) cV pos) (jo D a b sl dP da dk):=⟨by
 obtain⟨f,fd,dV,ds,F,hm,hk,hb,kD⟩:=C.ex;rintro bF s σ H Q I ⟨W,ρ,M,k,hh,hs,q⟩;refine wpAny_Call_Name_kw (UC I hg hm ?_ f6)
 refine callWith_KW (h₀:=X.base) I.ok.mod.kin hk cC (thn (ha.h pos bF s σ H _ I ⟨W,ρ,M,k,hh,hs,yh.bind (Q1:=λvs H1=>∃W1 M1 xs,W1.T=T/\Held W1 M1 H1/\yq W1 ρ σ/\yd W1 xs vs/\yh W1 Rep ((dk ρ M1).bind λzs M2=>D (yk a b sl dP xs zs) M2) Q (ES σ)) q
   λW1 M1 xs vs H1 l1 h1 r1 q1=>⟨W1,M1,xs,l1.k.trans k,h1,hs.up l1,r1,q1⟩⟩) λus s1 bH=>?_) cM he
 obtain⟨vs,H1,I1,r,W1,M1,xs,k1,h1,cQ,r1,q1⟩:=bH;refine thn (kn.h pos bF s1 σ H1 (λzs H2=>spD T D (yk a b sl dV vs zs) H2 Q (ES σ)) I1 ⟨W1,ρ,M1,k1,h1,cQ,yh.bind q1 λW2 M2 zs' zs H2 l2 h2 r2 q2=>⟨W2,_,M2,l2.k.trans k1,h2,Yd (kD W2 (l2.k.trans k1)) (r1.up l2) r2,q2⟩⟩) λws s2 bH=>?_;obtain⟨zs,H2,I2,rz,q2⟩:=bH;refine⟨I2.aI,?_⟩;rw[d9]
 exact jlB F hr hb hx I2 r rz q2⟩
def jmT (c:Nat)(ds:DA):DS:=λρ M=>(ds ρ M).st ρ λvs M1=>if vs.length<=sizeLine then .exc c ρ M1 else .bad
end
abbrev GM:=Sto->PV->List PV->Option (PV×Sto)
def rM (T:Tb)(g:GM):V->List V->Hp->VK->Prop:=λv vs H Q=>∃W M x xs z M',W.T=T/\Held W M H/\Rep W x v/\yd W xs vs/\g M x xs=some (z,M')/\∀W' H' v',W.le W'->Held W' M' H'->Rep W' z v'->Q v' H'
def dMt (g:GM)(do_:DE)(da:DA):DE:=λρ M=>(do_ ρ M).bind λx M1=>match yz M1 x with
 |none=>.bad
 |some _=>(da ρ M1).bind λxs M2=>match g M2 x xs with
  |some (z,M3)=>.ok z M3
  |none=>.bad
section
variable {X:Cx}{T:Tb}{ES:St->XK}{o e:Expr}{es:List Expr}{name:Str}{apos bQ:Pos}{kf:String}{g:GM}{do_:DE}{da:DA}
theorem jkJ {r r':V->List V->Hp->VK->Prop}(h:MtR X kf r)(k:∀x xs H Q,r' x xs H Q->r x xs H Q):MtR X kf r':=λbF s σ H x xs v us Q I rx rs q=>h bF s σ H x xs v us Q I rx rs (k _ _ _ _ q)
theorem jhu (slot:Slot "list" name kf)(lJ:typeOf (.builtin kf)=pure (.type "method_descriptor"))(hm:MtR X kf (rM T g))(ho:QE X T ES o do_)(ha:QA X T ES (e::es) da)(dw:attributeBase o name X.env (eval o X.env)=eval o X.env:=by rfl)
  (iK:((backTo bQ (starEach (e::es) X.env)).all (λx=>!x.1) && (backToKw bQ (keywordEach [] X.env)).all (λx=>x.1.isSome)
   && decide ((e::es).length+([]:List Keyword).length+(if([]:List Keyword).isEmpty then 0 else 1)<30))=true:=by rfl)
  (dm:(apos.endLine==bQ.line)=true:=by rfl) (hs:starEach (e::es) X.env=(false,eval e X.env)::starEach es X.env:=by rfl) (eU:(backTo bQ (starEach es X.env)).any (·.1)=false:=by rfl) :
  QE X T ES (.Call (.Attribute o name apos) (e::es) [] bQ) (dMt g do_ da):=
 ⟨jN (jpQ PySem.F.plainAttrs_list slot lJ hm ho.h ha.h dw iK dm hs eU) λσ H Q bH=>jC bH λW ρ M k hh hs q=>⟨W,ρ,M,k,hh,hs,yh.bind q λW1 M1 x v H1 l1 h1 r1 q1=>by
  split at q1
  ·exact q1.elim
  ·rename_i ys e1;obtain⟨a,vs,rfl,ha,_⟩:=yW h1 r1 e1;refine⟨.inl ⟨rfl,vs,SqL.of ha⟩,W1,ρ,M1,l1.k.trans k,h1,hs.up l1,yh.bind q1 λW2 M2 xs us H2 l2 h2 r2 q2=>?_⟩;split at q2
   ·rename_i z M3 e2;exact⟨W2,M2,x,xs,z,M3,l2.k.trans (l1.k.trans k),h2,r1.up l2,r2,e2,q2⟩
   ·exact q2.elim⟩⟩
def jeZ (M:Sto):PV->Option (Nat×List PV)
 |.ref i=>(match M.g i with
  |some (.lst xs)=>some (i,xs)
  |_=>none)
 |_=>none
theorem jlm {W:Wd}{M:Sto}{H:Hp}{x:PV}{v:V}{i:Nat}{xs:List PV}(hh:Held W M H)(r:Rep W x v)(e:jeZ M x=some (i,xs)):∃a vs,v= .ref a/\W.α i=some a/\M.g i=some (.lst xs)/\H a=some (.lst vs)/\yd W xs vs:=by
 cases x with
 |ref j=>
  have e:(match M.g j with
   |some (.lst xs)=>some (j,xs)
   |_=>none)=some (i,xs):=e
  split at e
  ·rename_i ys e1;cases e;obtain⟨a,rfl,ea⟩:=r;obtain⟨b,ob,h1,h2,h3,vs,rfl,rr⟩:=hh.m _ _ e1;rw[ea]at h1;cases h1;exact⟨a,vs,rfl,ea,e1,h3,rr⟩
  ·cases e
 |_=>cases e
def xF:GM:=λM x ys=>match jeZ M x,ys with
 |some (i,xs),[y]=>if xs.length<sizeLine then some (.non,M.set i (.lst (xs++[y])))else none
 |_,_=>none
theorem Xw:MtR X "list.append" (rM T xF):=jkJ JW λv vs H Q bH=>by
 obtain⟨W,M,x,ys,z,M',k,hh,rx,ry,e,q⟩:=bH;unfold xF at e;split at e
 ·rename_i i xs y e1;split at e
  ·rename_i hz;cases e;obtain⟨a,ws,rfl,ea,eg,ha,rr⟩:=jlm hh rx e1;obtain⟨u,rfl,ru⟩:=xW ry;refine⟨a,ws,u,rfl,rfl,ha,by rw[rr.length];exact hz,q W _ _ (.refl W) (hh.upd eg ea ⟨_,rfl,rr.append ⟨u,[],rfl,ru,rfl⟩⟩) rfl⟩
  ·cases e
 ·cases e
def joI:G2:=λ_ x y=>match x,y with
 |.scr ns,.lst []=>some (.bl (!ns.isEmpty))
 |_,_=>none
theorem jpY (hT:T.K=X.K)(hu:X.A.units<cLine):OpP X T (compareOp .NotEq) joI:=vE (jnz hu) λv u H Q bH=>by
 obtain⟨W,M,x,y,w,k,hh,rx,ry,e,q⟩:=bH;unfold joI at e;split at e
 ·rename_i ns;cases e;obtain⟨a,rfl,hq,_⟩:=rx;obtain⟨b,us,rfl,hb,rr⟩:=ry;cases rr;have hq:SqL X.K H a (ns.map V.int):=by
   have:=(show Yp W.F H from hh.f).seq hq
   rw[k,hT]at this;exact this
  refine⟨a,b,ns.map V.int,[],rfl,rfl,hq,SqL.of (hh.f _ _ hb),?_,rfl,q W H _ (.refl W) hh ?_⟩
  ·rw[all_map];exact List.all_eq_true.mpr λ_ _=>rfl
  ·cases ns with
   |nil=>rfl
   |cons _ _=>rfl
 ·cases e
def jcR:G1:=λM xs=>match xs with
 |[.scr ns]=>some (.ref M.n,M.new (.lst (ns.map PV.int)))
 |_=>none
theorem jlt (hT:T.K=X.K):yK X (.type "list") (rC T jcR):=Yl JA λvs H Q bH=>by
 obtain⟨W,M,xs,z,M',k,hh,rx,e,q⟩:=bH;unfold jcR at e;split at e
 ·rename_i ns;cases e;obtain⟨v,rfl,a,rfl,hq,_⟩:=xW rx;have hq:SqL X.K H a (ns.map V.int):=by
   have:=(show Yp W.F H from hh.f).seq hq
   rw[k,hT]at this;exact this
  refine⟨a,_,rfl,.inl hq,λl hl=>?_⟩;obtain⟨W2,l2,h2,r2⟩:=jaT (xs:=ns.map PV.int) hh (yd.ints.mpr rfl) hl;exact q W2 _ _ l2 h2 r2
 ·cases e
theorem jeB {A:Around}{k:Nat}(hr:Room k A):A.units+100<cLine:=by have:=hr.un;omega
end
@[simp] theorem vF {α:Type}{a:α}{M:Sto}:(Res.ok a M).ar= .ok a M:= rfl
@[simp] theorem jqI {α:Type}:(Res.bad:Res α).ar= .bad:= rfl
@[simp] theorem jeR {x:PV}{ρ:En}{M:Sto}:dC x ρ M= .ok x M:= rfl
@[simp] theorem jz {x:PV}{r:En}{M:Sto}:ya 0 (some x::r) M= .ok x M:= rfl
@[simp] theorem jF {i:Nat}{o:Option PV}{r:En}{M:Sto}:ya (i+1) (o::r) M=ya i r M:= rfl
@[simp] theorem ju {ρ:En}{M:Sto}:yc ρ M= .ok [] M:= rfl
@[simp] theorem jp {d:DE}{ds:DA}{ρ:En}{M:Sto}:jb d ds ρ M=(d ρ M).bind λx M1=>(ds ρ M1).bind λxs M2=>.ok (x::xs) M2:= rfl
@[simp] theorem jY {g:G2}{da db:DE}{ρ:En}{M:Sto}:dOp g da db ρ M=(da ρ M).bind λx M1=>(db ρ M1).bind λy M2=>ofO (g M2 x y) M2:= rfl
@[simp] theorem jiW {d:DE}{ρ:En}{M:Sto}:yj d ρ M=(d ρ M).bind λx M1=>ofO (asB x) M1:= rfl
@[simp] theorem jrE {b:Bool}:asB (.bl b)=some b:= rfl
@[simp] theorem jcY {g:G1}{ds:DA}{ρ:En}{M:Sto}:dCB g ds ρ M=(ds ρ M).bind λxs M1=>match g M1 xs with
 |some (z,M2)=>.ok z M2
 |none=>.bad:=rfl
@[simp] theorem joR {t:DT}{da db:DE}{ρ:En}{M:Sto}:dIf t da db ρ M=(t ρ M).bind λc M1=>if c=true then da ρ M1 else db ρ M1:= rfl
@[simp] theorem jeS {da db:DT}{ρ:En}{M:Sto}:jja da db ρ M=(da ρ M).bind λc M1=>if c=true then db ρ M1 else .ok false M1:= rfl
@[simp] theorem jiX {da db:DT}{ρ:En}{M:Sto}:dOr da db ρ M=(da ρ M).bind λc M1=>if c=true then .ok true M1 else db ρ M1:= rfl
@[simp] theorem jeP {da:DT}{ρ:En}{M:Sto}:Ju da ρ M=(da ρ M).bind λc M1=>.ok (!c) M1:= rfl
@[simp] theorem jeO {d:DE}{ρ:En}{M:Sto}:Jt d ρ M=(d ρ M).bind λx M1=>ofO (jfE M1 x) M1:= rfl
@[simp] theorem jqG {b:Bool}{M:Sto}:jfE M (.bl b)=some b:= rfl
@[simp] theorem jry {g:Sto->PV->Option PV}{d:DE}{ρ:En}{M:Sto}:dUn g d ρ M=(d ρ M).bind λx M1=>ofO (g M1 x) M1:= rfl
@[simp] theorem jqs {M:Sto}{i:Int}:joK M (.int i)=some (.int (-i)):= rfl
@[simp] theorem jT {D:tD0}{a b:Nat}{sl:List Sl}{dP:List PV}{da dk:DA}{ρ:En}{M:Sto}:jo D a b sl dP da dk ρ M=(da ρ M).bind λxs M1=>(dk ρ M1).bind λzs M2=>D (yk a b sl dP xs zs) M2:= rfl
@[simp] theorem vJ {ds:DA}{ρ:En}{M:Sto}:vw ds ρ M=(ds ρ M).bind λxs M1=>if xs.length<=sizeLine then .ok (.tup xs) M1 else .bad:= rfl
@[simp] theorem xG {ds:DA}{ρ:En}{M:Sto}:xB ds ρ M=(ds ρ M).bind λxs M1=>if xs.length<=sizeLine then .ok (.lst xs) M1 else .bad:= rfl
@[simp] theorem jbB {ds:DA}{ρ:En}{M:Sto}:XN ds ρ M=(ds ρ M).bind λxs M1=>if xs.length<=sizeLine then .ok (.ref M1.n) (M1.new (.lst xs))else .bad:= rfl
@[simp] theorem jpE {ρ:En}{M:Sto}:yN ρ M= .nx ρ M:= rfl
@[simp] theorem jke {d1 d2:DS}{ρ:En}{M:Sto}:yf d1 d2 ρ M=(d1 ρ M).then d2:= rfl
@[simp] theorem Uk {i:Nat}{d:DE}{ρ:En}{M:Sto}:yH i d ρ M=(d ρ M).st ρ λv M1=>.nx (ρ.set i (some v)) M1:= rfl
@[simp] theorem jqH {d:DE}{ρ:En}{M:Sto}:yI d ρ M=(d ρ M).st ρ λv M1=>.rt v M1:= rfl
@[simp] theorem jpF {d:DE}{ρ:En}{M:Sto}:yO d ρ M=(d ρ M).st ρ λ_ M1=>.nx ρ M1:= rfl
@[simp] theorem jra {t:DT}{d1 d2:DS}{ρ:En}{M:Sto}:sIf t d1 d2 ρ M=(t ρ M).st ρ λc M1=>if c=true then d1 ρ M1 else d2 ρ M1:= rfl
@[simp] theorem jpk {c:Nat}{ds:DA}{ρ:En}{M:Sto}:jmT c ds ρ M=(ds ρ M).st ρ λvs M1=>if vs.length<=sizeLine then .exc c ρ M1 else .bad:= rfl
@[simp] theorem jrs {v:PV}{M:Sto}:fin (.rt v M)= .ok v M:= rfl
@[simp] theorem jrt {ρ:En}{M:Sto}:fin (.nx ρ M)= .ok .non M:= rfl
@[simp] theorem jqN {c:Nat}{ρ:En}{M:Sto}:fin (.exc c ρ M)= .exc c M:= rfl
@[simp] theorem jpl {M:Sto}{i j:Int}:uG M (.int i) (.int j)=some (.int (i+j)):= rfl
@[simp] theorem jbj {M:Sto}{i j:Int}:jgo M (.int i) (.int j)=some (.int (i-j)):= rfl
@[simp] theorem jqJ {M:Sto}{i j:Int}:gLt M (.int i) (.int j)=some (.bl (decide (i<j))):= rfl
@[simp] theorem jqK {M:Sto}{i j:Int}:gLe M (.int i) (.int j)=some (.bl (decide (i<=j))):= rfl
@[simp] theorem jqL {M:Sto}{i j:Int}:gGt M (.int i) (.int j)=some (.bl (decide (j<i))):= rfl
@[simp] theorem jqM {M:Sto}{i j:Int}:gGe M (.int i) (.int j)=some (.bl (decide (j<=i))):= rfl
theorem jbk {M:Sto}{i j:Int}(h:(-(2 ^ 64)<i/\i<2 ^ 64)\/(-(2 ^ 64)<j/\j<2 ^ 64)):jla M (.int i) (.int j)=some (.int (i*j)):=by
 show orG jeC jkY M (.int i) (.int j)=_;unfold orG
 have:jeC M (.int i) (.int j)=some (.int (i*j)):=by
  show(if jlo i j=true then _ else _)=_;rw[if_pos];unfold jlo;simp only[Bool.or_eq_true,and_eq_true,decide_eq_true_eq];exact h
 rw[this]
theorem XE {M:Sto}{i j:Int}(h:0<j)(h2:j<1073741824):jiE M (.int i) (.int j)=some (.int (i/j)):=by
 show(if(decide (0<j) && decide (j<1073741824))=true then _ else _)=_;rw[if_pos (by simp only[and_eq_true,decide_eq_true_eq];exact⟨h,h2⟩)]
theorem vt {M:Sto}{i j:Int}(h:0<j):jbl M (.int i) (.int j)=some (.int (i%j)):=by
 show(if decide (0<j)=true then _ else _)=_;rw[if_pos (decide_eq_true h)]
theorem jiC {M:Sto}{i j:Int}(h:0<=j)(h2:j<=1000000)(h3:i.natAbs<2 ^ 64):joJ M (.int i) (.int j)=some (.int (i ^ j.toNat)):=by
 show(if(decide (0<=j) && decide (j<=1000000) && decide (i.natAbs<2 ^ 64))=true then _ else _)=_;rw[if_pos (by simp only[and_eq_true,decide_eq_true_eq];exact⟨⟨h,h2⟩,h3⟩)]
structure Town (M:Sto)(ns:List Int)(c:Int):Prop where
 row:M.g 0=some (.lst (ns.map PV.int))
 tw:M.g 1=some (.lst [.ref 0,.int c])
 ne:ns≠[]
 n:2<=M.n
structure Off (M M':Sto):Prop where
 n:M.n<=M'.n
 g:∀i,2<=i->i<M.n->M'.g i=M.g i
theorem Off.refl (M:Sto):Off M M:=⟨le_refl _,λ_ _ _=>rfl⟩
theorem Off.trans {A B C:Sto}(h:Off A B)(k:Off B C):Off A C:=⟨le_trans h.n k.n,λi hi hn=>(k.g i hi (lt_of_lt_of_le hn h.n)).trans (h.g i hi hn)⟩
theorem vj {M:Sto}{i:Nat}{xs:List PV}(h:M.g i=some (.lst xs)):yz M (.ref i)=some xs:=by
 show(match M.g i with
  |some (.lst xs)=>some xs
  |_=>none)=some xs
 rw[h]
theorem xy {M:Sto}{i:Nat}{xs:List PV}(h:M.g i=some (.lst xs)):uN M (.ref i)=some xs:=vj h
@[simp] theorem jqC {M:Sto}{xs:List PV}:uN M (.lst xs)=some xs:= rfl
@[simp] theorem jqB {M:Sto}{xs:List PV}:uN M (.tup xs)=some xs:= rfl
@[simp] theorem jaw {M:Sto}{xs:List PV}:yz M (.lst xs)=some xs:= rfl
theorem vg {M:Sto}{x:PV}{xs:List PV}{i:Int}(h:uN M x=some xs):gIx M x (.int i)=atI xs i:=by
 show(uN M x).bind _=_;rw[h];rfl
theorem uM {α:Type}{xs:List α}{i:Int}(h:0<=i)(h2:i<xs.length):atI xs i=xs[i.toNat]?:=by
 unfold atI ixN;rw[if_pos h,if_pos h2];rfl
theorem vH {M:Sto}{x:PV}{xs:List PV}(h:uN M x=some xs):ua M x=some (.int xs.length):=by
 unfold ua;rw[h]
@[simp] theorem jnE {f:Sto->PV->Option PV}{M:Sto}{x:PV}:one f M [x]=match f M x with
  |some z=>some (z,M)
  |none=>none:=rfl
theorem xj {α:Type}(f0:α->PV)(p:α->Bool)(f:α->PV){bnd:DG}{r:En}{dt:DT}{de:DE}{M:Sto}:∀(as:List α),(∀a∈as,∃ρ,bnd (f0 a) r=some ρ/\dt ρ M= .ok (p a) M/\(p a=true->de ρ M= .ok (f a) M))->
  ue bnd r dt de (as.map f0) M= .ok ((as.filter p).map f) M
 |[],_=>rfl
 |a::as,h=>by
  have ih:=xj f0 p f as λb hb=>h b (mem_cons_of_mem _ hb);obtain⟨ρ,e1,e2,e3⟩:=h a mem_cons_self;show ue bnd r dt de (f0 a::as.map f0) M=_;unfold ue;simp only[e1,e2,vF,Res.aa];cases hp:p a with
  |false=>simp[hp,ih]
  |true=>simp[hp,ih,e3 hp]
theorem jW {α:Type}(f0:α->PV)(f:α->PV){bnd:DG}{r:En}{dt:DT}{de:DE}{M:Sto}(as:List α)(h:∀a∈as,∃ρ,bnd (f0 a) r=some ρ/\dt ρ M= .ok true M/\de ρ M= .ok (f a) M) :
  ue bnd r dt de (as.map f0) M= .ok (as.map f) M:=by
 have:=xj (bnd:=bnd) (r:=r) (dt:=dt) (de:=de) (M:=M) f0 (λ_=>true) f as λa ha=>by
  obtain⟨ρ,h1,h2,h3⟩:=h a ha;exact⟨ρ,h1,h2,λ_=>h3⟩
 rw[this,List.filter_eq_self.mpr (λ_ _=>rfl)]
theorem jK {di:tI0}{bnd:DG}{js:List Nat}{dt:DT}{de:DE}{ρ:En}{M M1 M2:Sto}{xs ys:List PV}(h:di ρ M= .ok (.fix xs) M1)(hl:xs.length<sizeLine)(e:ue bnd (rest js ρ) dt de xs M1= .ok ys M2):yQ di bnd js dt de ρ M= .ok (.lst ys) M2:=by
 unfold yQ;rw[h];show(if yp (.fix xs) M1<=sizeLine then _ else _)=_;rw[if_pos (show yp (.fix xs) M1<=sizeLine from hl)];rw[Yk (all:=xs) (xs:=xs) (i:=0) (n:=yp (.fix xs) M1) rfl (lt_succ_self _),e];rfl
@[simp] theorem vK {d:DE}{ρ:En}{M M1:Sto}{xs:List PV}(h:d ρ M= .ok (.lst xs) M1):dIt d ρ M= .ok (.fix xs) M1:= by
 unfold dIt;rw[h];rfl
theorem vn {lo:Int}{n:Nat}:(vd lo n).length=n:=by simp[vd]
theorem vV {g:DG}{db:DS}(I:Nat->En->Sto->Prop):∀(xs:List PV) (k:Nat) (ρ:En) (M:Sto),I k ρ M->(∀i x,xs[i]?= some x->∀ρ M,I (k+i) ρ M->∃ρ1 ρ' M',g x ρ=some ρ1/\db ρ1 M= .nx ρ' M'/\I (k+i+1) ρ' M')->∃ρ' M',xg g db xs ρ M= .nx ρ' M'/\I (k+xs.length) ρ' M'
 |[],k,ρ,M,h,_=>⟨ρ,M,rfl,h⟩
 |x::xs,k,ρ,M,h,hs=>by
  obtain⟨ρ1,ρ2,M2,e1,e2,h2⟩:=hs 0 x rfl ρ M h
  obtain⟨ρ',M',e,q⟩:=vV I xs (k+1) ρ2 M2 h2 λi z hz ρ M hI=>by
   have:=hs (i+1) z (by simpa using hz) ρ M (by rw[show k+(i+1)=k+1+i by omega];exact hI)
   rw[show k+(i+1)+1=k+1+i+1 by omega]at this;exact this
  refine⟨ρ',M',?_,by rw[length_cons,show k+(xs.length+1)=k+1+xs.length by omega];exact q⟩;unfold xg;simp only[e1,e2];exact e
theorem XQ {bnd:DG}{r:En}{dt:DT}{de:DE}(I:Nat->List PV->Sto->Prop):∀(xs:List PV) (k:Nat) (acc:List PV) (M:Sto),I k acc M->
  (∀i x,xs[i]?= some x->∀acc M,I (k+i) acc M->∃ρ b M1,bnd x r=some ρ/\dt ρ M= .ok b M1/\(b=false->I (k+i+1) acc M1)/\(b=true->∃y M2,de ρ M1= .ok y M2/\I (k+i+1) (acc++[y]) M2))->
  ∃ys M',ue bnd r dt de xs M= .ok ys M'/\I (k+xs.length) (acc++ys) M'
 |[],k,acc,M,h,_=>⟨[],M,rfl,by rw[append_nil];exact h⟩
 |x::xs,k,acc,M,h,hs=>by
  obtain⟨ρ,b,M1,e1,e2,hf,ht⟩:=hs 0 x rfl acc M h
  have d7:∀i z,xs[i]?= some z->∀acc M,I (k+1+i) acc M->∃ρ b M1,bnd z r=some ρ/\dt ρ M= .ok b M1/\(b=false->I (k+1+i+1) acc M1)/\(b=true->∃y M2,de ρ M1= .ok y M2/\I (k+1+i+1) (acc++[y]) M2):=λi z hz acc M hI=>by
   have:=hs (i+1) z (by simpa using hz) acc M (by rw[show k+(i+1)=k+1+i by omega];exact hI)
   rw[show k+(i+1)+1=k+1+i+1 by omega]at this;exact this
  unfold ue;simp only[e1,e2,vF,Res.aa];rw[length_cons,show k+(xs.length+1)=k+1+xs.length by omega];cases b with
  |false=>
   obtain⟨ys,M',e,q⟩:=XQ I xs (k+1) acc M1 (hf rfl) d7;exact⟨ys,M',by simpa using e,q⟩
  |true=>
   obtain⟨y,M2,e3,h3⟩:=ht rfl;obtain⟨ys,M',e,q⟩:=XQ I xs (k+1) (acc++[y]) M2 h3 d7;refine⟨y::ys,M',?_,by simpa using q⟩;simp[e3,e]
theorem vR:∀(ns:List Int),yx (ns.map PV.int)=true
 |[]=>rfl
 |n::ns=>by
  show(plain (.int n) && yx (ns.map PV.int))=true;rw[vR ns];rfl
theorem VE:∀(ns:List Int),vI (ns.map PV.int)=true
 |[]=>rfl
 |n::ns=>by
  show(decide (dep (.int n)<=60) && vI (ns.map PV.int))=true;rw[VE ns];rfl
theorem any_ints (ns:List Int)(k:Int):((ns.map PV.int).any λz=>eqB z (.int k))=decide (k∈ns):=by
 rw[List.any_map,Bool.eq_iff_iff,any_eq_true,decide_eq_true_eq];constructor
 ·rintro⟨x,hx,e⟩;have e:(x==k)=true:=e;rw[<-beq_iff_eq.mp e];exact hx
 ·intro h;exact⟨k,h,beq_self_eq_true k⟩
theorem jbm {neg:Bool}{M:Sto}{x:PV}{k:Int}{ns:List Int}(h:uN M x=some (ns.map PV.int)):gIn neg M (.int k) x=some (.bl (if neg then !decide (k∈ns)else decide (k∈ns))):=by
 unfold gIn;rw[h];show(if _ then some (PV.bl (if neg=true then !((ns.map PV.int).any λz=>eqB z (.int k))else(ns.map PV.int).any λz=>eqB z (.int k)))else none)=_;rw[if_pos ⟨rfl,vR ns,VE ns⟩,any_ints]
theorem Jj {M:Sto}{x y:PV}{xs ys:List PV}(hx:yz M x=some xs)(hy:yz M y=some ys)(h:xs.length+ys.length<=sizeLine):uG M x y=some (.lst (xs++ys)):=by
 have e:jcS M x y=some (.lst (xs++ys)):=by
  unfold jcS;rw[hx,hy];exact if_pos h
 have e1:jeE M x y=none:=by
  cases x with
  |int _=>cases hx
  |_=>rfl
 show orG jeE (orG jcS jbn) M x y=_;unfold orG;rw[e1];show orG jcS jbn M x y=_;unfold orG;rw[e]
def Tru (r:RS):Prop:=∃M',fin r= .ok (.bl true) M'
section
variable {i:Nat}{d:DE}{c d1:DS}{t:DT}{ρ ρ':En}{M M1:Sto}{v:PV}{g:DG}{F:Nat}{eZ:tI0}{xs:List PV}
theorem Yc (h:d ρ M= .ok v M1)(k:Tru (c (ρ.set i (some v)) M1)):Tru (yf (yH i d) c ρ M):=by
 unfold yf yH;rw[h];exact k
theorem joH (h:eZ ρ M= .ok (.fix xs) M1){M2:Sto}(hl:xg g d1 xs ρ M1= .nx ρ' M2)(k:Tru (c ρ' M2)):Tru (yf (Ve F eZ g d1) c ρ M):=by
 unfold yf;rw[Xc h,hl];exact k
theorem joG (h:d ρ M= .ok (.bl true) M1):Tru (yI d ρ M):=by
 unfold yI;rw[h];exact⟨_,rfl⟩
theorem jR {r:RS}(h:d ρ M= .ok v M1)(k:c (ρ.set i (some v)) M1=r):yf (yH i d) c ρ M=r:=by
 unfold yf yH;rw[h];exact k
theorem Jd {r:RS}(h:t ρ M= .ok false M1)(k:c ρ M1=r):yf (sIf t d1 yN) c ρ M=r:=by
 unfold yf sIf;rw[h];exact k
theorem jcw {r:RS}(h:eZ ρ M= .ok (.fix xs) M1){M2:Sto}(hl:xg g d1 xs ρ M1= .nx ρ' M2)(k:c ρ' M2=r):yf (Ve F eZ g d1) c ρ M=r:=by
 unfold yf;rw[Xc h,hl];exact k
theorem jO (h:d ρ M= .ok v M1):yI d ρ M= .rt v M1:=by
 unfold yI;rw[h];rfl
theorem jhX {r:RS}(h:d ρ M= .ok v M1)(hg:g v ρ=some ρ')(k:c ρ' M1=r):yf (jfM d g) c ρ M=r:=by
 unfold yf jfM;rw[h]
 show(match g v ρ with
  |some ρ'=>RS.nx ρ' M1
  |none=>.bad).then c=_
 rw[hg];exact k
theorem jV {n N:Nat}{cg:List PV}{ρ:En}{dd:DS}(hn:cg.length=n)(hρ:cg.map some++replicate (N-n) none=ρ)(h:dd ρ M= .rt v M1):yu n N dd cg M= .ok v M1:=by
 unfold yu;rw[if_pos hn,hρ,h];rfl
theorem xl {r:RS}(h:d ρ M= .ok v M1)(k:c ρ M1=r):yf (yO d) c ρ M=r:=by
 unfold yf yO;rw[h];exact k
end
@[simp] theorem jrz {d:DE}{dl dh:En->Sto->Res (Option Int)}{ρ:En}{M:Sto}:dSl d dl dh ρ M=(d ρ M).bind λx M1=>(dl ρ M1).bind λlo M2=>(dh ρ M2).bind λhi M3=>ofO (gSl M3 x lo hi) M3:= rfl
@[simp] theorem jrB {ρ:En}{M:Sto}:dON ρ M= .ok none M:= rfl
@[simp] theorem jrA {d:DE}{ρ:En}{M:Sto}:dOS d ρ M=(d ρ M).bind λx M1=>match x with
 |.int i=>.ok (some i) M1
 |_=>.bad:=rfl
end L3
namespace Srt
open PySem PySem.W PyProof.Rows
def run {α:Type}(lt:Nat->Nat->Bool):KasT α->α
 |.ret a=>a
 |.ask i j k=>run lt (k (lt i j))
theorem vm {α β:Type}{lt:Nat->Nat->Bool}{f:α->KasT β}:∀t:KasT α,run lt (t.bind f)=run lt (f (run lt t))
 |.ret _=>rfl
 |.ask i j k=>vm (k (lt i j))
section
variable {r:Nat->Int}
def Kp (r:Nat->Int)(p:Array Nat)(i:Nat):Int:=r (p.getD i 0)
abbrev lo (r:Nat->Int):Nat->Nat->Bool:=λi j=>decide (r i<r j)
theorem ui {p q:Array Nat}{i j:Nat}(h:p[i]?= q[j]?):Kp r p i=Kp r q j:=by
 unfold Kp;rw[getD_eq_getD_getElem?,getD_eq_getD_getElem?,h]
theorem jdu {p:Array Nat}{i j:Nat}(hj:j<=p.size)(k:Nat):Kp r (kas_rev p i j) k=if i<=k/\k<j then Kp r p (i+j-1-k)else Kp r p k:=by
 have e:=getElem?_mirror_all (xs:=p) (i:=i) hj k;unfold kas_rev;split
 ·rename_i h;rw[if_pos h]at e;exact ui e
 ·rename_i h;rw[if_neg h]at e;exact ui e
theorem VR {p:Array Nat}{ie d:Nat}(hs:ie<p.size)(hd:d<=ie)(k:Nat):Kp r (bubble p ie d) k=if k=ie-d then Kp r p ie else if ie-d<k/\k<=ie then Kp r p (k-1)else Kp r p k:=by
 have e:=getElem?_bubble hs d hd k;split
 ·rename_i h;rw[if_pos h]at e;exact ui e
 ·rename_i h;rw[if_neg h]at e;split
  ·rename_i h2;rw[if_pos h2]at e;exact ui e
  ·rename_i h2;rw[if_neg h2]at e;exact ui e
theorem vQ (p:Array Nat)(i j:Nat):(kas_rev p i j).Perm p:=mirror_perm _ _ _ _
theorem Xf (p:Array Nat)(i j:Nat):(kas_rev p i j).size=p.size:=mirror_size _ _ _ _
def Up (r:Nat->Int)(p:Array Nat)(m:Nat):Prop:=∀i j,i<=j->j<m->Kp r p i<=Kp r p j
def Dn (r:Nat->Int)(p:Array Nat)(m:Nat):Prop:=∀i j,i<=j->j<m->Kp r p j<=Kp r p i
theorem jjO {p:Array Nat}{m:Nat}(h:Up r p m)(h1:1<=m)(hs:Kp r p (m-1)<=Kp r p m):Up r p (m+1):=by
 intro i j eA hj
 by_cases lT:j=m
 ·subst lT
  by_cases hi:i=j
  ·subst hi;exact Int.le_refl _
  ·have:=h i (j-1) (by omega) (by omega)
   omega
 ·exact h i j eA (by omega)
theorem jeI {p:Array Nat}{m:Nat}(h:Dn r p m)(h1:1<=m)(hs:Kp r p m<=Kp r p (m-1)):Dn r p (m+1):=by
 intro i j eA hj
 by_cases lT:j=m
 ·subst lT
  by_cases hi:i=j
  ·subst hi;exact Int.le_refl _
  ·have:=h i (j-1) (by omega) (by omega)
   omega
 ·exact h i j eA (by omega)
theorem jad {p:Array Nat}:∀(f n:Nat),1<=n->Up r p n->n<=run (lo r) (kas_asc p f n)/\run (lo r) (kas_asc p f n)<=n+f/\Up r p (run (lo r) (kas_asc p f n))/\(run (lo r) (kas_asc p f n)<n+f->Kp r p (run (lo r) (kas_asc p f n))<Kp r p (run (lo r) (kas_asc p f n)-1))
 |0,n,_,hu=>⟨le_refl _,le_refl _,hu,λh=>absurd h (lt_irrefl _)⟩
 |f+1,n,h1,hu=>by
  have e:run (lo r) (kas_asc p (f+1) n)=if Kp r p n<Kp r p (n-1)then n else run (lo r) (kas_asc p f (n+1)):=by
   show run (lo r) (if decide (Kp r p n<Kp r p (n-1))=true then KasT.ret n else kas_asc p f (n+1))=_
   by_cases h:Kp r p n<Kp r p (n-1)
   ·rw[if_pos (decide_eq_true h),if_pos h];rfl
   ·rw[if_neg (by simpa using h),if_neg h]
  rw[e]
  by_cases h:Kp r p n<Kp r p (n-1)
  ·rw[if_pos h];exact⟨le_refl _,by omega,hu,λ_=>h⟩
  ·rw[if_neg h];obtain⟨a,b,c,d⟩:=jad f (n+1) (by omega) (jjO hu h1 (by omega));exact⟨by omega,by omega,c,λz=>d (by omega)⟩
theorem Xg {p:Array Nat}{i j:Nat}(hj:j<=p.size)(he:∀k,i<=k->k<j->Kp r p k=Kp r p (j-1))(k:Nat):Kp r (kas_rev p i j) k=Kp r p k:=by
 rw[jdu hj];split
 ·rename_i h;rw[he (i+j-1-k) (by omega) (by omega),he k h.1 h.2]
 ·rfl
theorem Jp:∀(f:Nat) (p:Array Nat) (n q:Nat),1<=n->n+f<=p.size->q+1<=n->Dn r p n->(∀k,n-(q+1)<=k->k<n->Kp r p k=Kp r p (n-1))->
  ∃p' n' q',run (lo r) (kas_desc f p n q)=(p',n',q')/\p'.Perm p/\(∀k,Kp r p' k=Kp r p k)/\n<=n'/\n'<=n+f/\q'+1<=n'/\Dn r p' n'/\(∀k,n'-(q'+1)<=k->k<n'->Kp r p' k=Kp r p' (n'-1))
 |0,p,n,q,_,_,hq,hd,he=>⟨p,n,q,rfl,.refl _,λ_=>rfl,le_refl _,le_refl _,hq,hd,he⟩
 |f+1,p,n,q,h1,hs,hq,hd,he=>by
  by_cases h:Kp r p n<Kp r p (n-1)
  ·have fH:=jeI hd h1 (by omega)
   by_cases hq0:q > 0
   ·have e:run (lo r) (kas_desc (f+1) p n q)=run (lo r) (kas_desc f (kas_rev p (n-(q+1)) n) (n+1) 0):=by
     show run (lo r) (if decide (Kp r p n<Kp r p (n-1))=true then(if q > 0 then kas_desc f (kas_rev p (n-(q+1)) n) (n+1) 0 else kas_desc f p (n+1) 0)else _)=_;rw[if_pos (decide_eq_true h),if_pos hq0]
    have hk:=Xg (r:=r) (p:=p) (i:=n-(q+1)) (j:=n) (by omega) he;have k6:Dn r (kas_rev p (n-(q+1)) n) (n+1):=λi j eA hj=>by rw[hk,hk];exact fH i j eA hj
    obtain⟨p',n',q',a,b,c,d,g,i,j,k⟩:=Jp f (kas_rev p (n-(q+1)) n) (n+1) 0 (by omega) (by rw[Xf];omega) (by omega) k6 (λk a b=>by rw[show k=n+1-1 by omega]);exact⟨p',n',q',e.trans a,b.trans (vQ _ _ _),λz=>(c z).trans (hk z),by omega,by omega,i,j,k⟩
   ·have e:run (lo r) (kas_desc (f+1) p n q)=run (lo r) (kas_desc f p (n+1) 0):=by
     show run (lo r) (if decide (Kp r p n<Kp r p (n-1))=true then(if q > 0 then kas_desc f (kas_rev p (n-(q+1)) n) (n+1) 0 else kas_desc f p (n+1) 0)else _)=_;rw[if_pos (decide_eq_true h),if_neg hq0]
    obtain⟨p',n',q',a,b,c,d,g,i,j,k⟩:=Jp f p (n+1) 0 (by omega) (by omega) (by omega) fH (λk a b=>by rw[show k=n+1-1 by omega]);exact⟨p',n',q',e.trans a,b,c,by omega,by omega,i,j,k⟩
  ·by_cases h2:Kp r p (n-1)<Kp r p n
   ·have e:run (lo r) (kas_desc (f+1) p n q)=(p,n,q):=by
     show run (lo r) (if decide (Kp r p n<Kp r p (n-1))=true then _ else KasT.ask (p.getD (n-1) 0) (p.getD n 0) λd=>if d=true then KasT.ret (p,n,q)else kas_desc f p (n+1) (q+1))=_;rw[if_neg (by simpa using h)];show run (lo r) (if decide (Kp r p (n-1)<Kp r p n)=true then KasT.ret (p,n,q)else kas_desc f p (n+1) (q+1))=_;rw[if_pos (decide_eq_true h2)];rfl
    exact⟨p,n,q,e,.refl _,λ_=>rfl,le_refl _,by omega,hq,hd,he⟩
   ·have e:run (lo r) (kas_desc (f+1) p n q)=run (lo r) (kas_desc f p (n+1) (q+1)):=by
     show run (lo r) (if decide (Kp r p n<Kp r p (n-1))=true then _ else KasT.ask (p.getD (n-1) 0) (p.getD n 0) λd=>if d=true then KasT.ret (p,n,q)else kas_desc f p (n+1) (q+1))=_;rw[if_neg (by simpa using h)];show run (lo r) (if decide (Kp r p (n-1)<Kp r p n)=true then KasT.ret (p,n,q)else kas_desc f p (n+1) (q+1))=_;rw[if_neg (by simpa using h2)]
    have heq:Kp r p n=Kp r p (n-1):=by omega
    obtain⟨p',n',q',a,b,c,d,g,i,j,k⟩:=Jp f p (n+1) (q+1) (by omega) (by omega) (by omega) (jeI hd h1 (by omega)) (λk a b=>by
     rw[show n+1-1=n by omega]
     by_cases hk:k=n
     ·rw[hk]
     ·rw[heq];exact he k (by omega) (by omega))
    exact⟨p',n',q',e.trans a,b,c,by omega,by omega,i,j,k⟩
theorem jan {p:Array Nat}{n nrem:Nat}(h1:1<=n)(hn:n<=nrem)(hs:nrem<=p.size)(hd:Dn r p n):∃m p',run (lo r) (kas_tail3 n nrem p)=(m,p')/\p'.Perm p/\Up r p' m/\1<=m/\m<=nrem:=by
 unfold kas_tail3;rw[vm];have hu:Up r (kas_rev p 0 n) n:=λi j eA hj=>by
  rw[jdu (by omega),jdu (by omega),if_pos ⟨by omega,by omega⟩,if_pos ⟨by omega,by omega⟩];exact hd _ _ (by omega) (by omega)
 obtain⟨a,b,c,_⟩:=jad (r:=r) (p:=kas_rev p 0 n) (nrem-n) n h1 hu;exact⟨_,_,rfl,vQ _ _ _,c,by omega,by omega⟩
theorem jaP {p:Array Nat}{n nrem:Nat}(hn:n+1<=nrem)(hs:nrem<=p.size)(hd:Dn r p (n+1)):∃m p',run (lo r) (kas_descPart n nrem p)=(m,p')/\p'.Perm p/\Up r p' m/\1<=m/\m<=nrem:=by
 unfold kas_descPart;rw[vm];obtain⟨p',n',q',e,b,c,d,g,i,j,k⟩:=Jp (r:=r) (nrem-(n+1)) p (n+1) 0 (by omega) (by omega) (by omega) hd (λk a b=>by rw[show k=n+1-1 by omega]);rw[e];dsimp only;have hsz:p'.size=p.size:=b.size_eq
 by_cases hq:q' > 0
 ·rw[if_pos hq];have hk:=Xg (r:=r) (p:=p') (i:=n'-(q'+1)) (j:=n') (by omega) k;obtain⟨m,p2,e2,b2,c2,d2,g2⟩:=jan (r:=r) (p:=kas_rev p' (n'-(q'+1)) n') (n:=n') (nrem:=nrem) (by omega) (by omega) (by rw[Xf];omega) (λi j eA hj=>by rw[hk,hk];exact ‹Dn r p' n'› i j eA hj);exact⟨m,p2,e2,b2.trans ((vQ _ _ _).trans b),c2,d2,g2⟩
 ·rw[if_neg hq];obtain⟨m,p2,e2,b2,c2,d2,g2⟩:=jan (r:=r) (p:=p') (n:=n') (nrem:=nrem) (by omega) (by omega) (by omega) j;exact⟨m,p2,e2,b2.trans b,c2,d2,g2⟩
theorem jgt {p:Array Nat}{n:Nat}(h1:1<=n)(hs:n<=p.size):∃m p',run (lo r) (kas_count n p)=(m,p')/\p'.Perm p/\Up r p' m/\1<=m/\m<=n:=by
 unfold kas_count;rw[vm];have hu1:Up r p 1:=λi j eA hj=>by rw[show i=j by omega];exact Int.le_refl _
 obtain⟨a,b,c,d⟩:=jad (r:=r) (p:=p) (n-1) 1 (le_refl _) hu1
 generalize run (lo r) (kas_asc p (n-1) 1)=k at *
 by_cases hk:k=n
 ·rw[if_pos (by simpa using hk)];exact⟨k,p,rfl,.refl _,c,a,by omega⟩
 ·rw[if_neg (by simpa using hk)];have cz:=d (by omega)
  by_cases h2:k > 1
  ·rw[if_pos h2]
   by_cases h3:Kp r p 0<Kp r p (k-1)
   ·have e:run (lo r) (KasT.ask (p.getD 0 0) (p.getD (k-1) 0) λc=>if c=true then .ret (k,p)else kas_descPart k n (kas_rev p 0 k))=(k,p):=by
     show run (lo r) (if decide (Kp r p 0<Kp r p (k-1))=true then KasT.ret (k,p)else kas_descPart k n (kas_rev p 0 k))=_;rw[if_pos (decide_eq_true h3)];rfl
    exact⟨k,p,e,.refl _,c,a,by omega⟩
   ·have e:run (lo r) (KasT.ask (p.getD 0 0) (p.getD (k-1) 0) λc=>if c=true then .ret (k,p)else kas_descPart k n (kas_rev p 0 k))=run (lo r) (kas_descPart k n (kas_rev p 0 k)):=by
     show run (lo r) (if decide (Kp r p 0<Kp r p (k-1))=true then KasT.ret (k,p)else kas_descPart k n (kas_rev p 0 k))=_;rw[if_neg (by simpa using h3)]
    have he:∀z,0<=z->z<k->Kp r p z=Kp r p (k-1):=λz _ hz=>by
     have x1:=c 0 z (zero_le _) hz;have x2:=c z (k-1) (by omega) (by omega);omega
    have iW:=Xg (r:=r) (p:=p) (i:=0) (j:=k) (by omega) he
    obtain⟨m,p2,e2,b2,c2,d2,g2⟩:=jaP (r:=r) (p:=kas_rev p 0 k) (n:=k) (nrem:=n) (by omega) (by rw[Xf];omega) (λi j eA hj=>by
     rw[iW,iW]
     by_cases gM:j=k
     ·by_cases iI:i=k
      ·rw[gM,iI];exact Int.le_refl _
      ·rw[gM,he i (zero_le _) (by omega)];omega
     ·rw[he i (zero_le _) (by omega),he j (zero_le _) (by omega)];exact Int.le_refl _)
    exact⟨m,p2,e.trans e2,b2.trans (vQ _ _ _),c2,d2,g2⟩
  ·rw[if_neg h2];have kZ:k=1:=by omega
   subst kZ;exact jaP (by omega) hs (λi j eA hj=>by
    by_cases hij2:i=j
    ·rw[hij2];exact Int.le_refl _
    ·rw[show i=0 by omega,show j=1 by omega];exact Int.le_of_lt cz)
theorem JR {p:Array Nat}{k:Nat}(hu:Up r p k):∀(f l x:Nat),l<=x->x<=k->x-l<=f->(∀i,i<l->Kp r p i<=Kp r p k)->(∀i,x<=i->i<k->Kp r p k<Kp r p i)->
  ∃z,run (lo r) (kas_place p k f l x)=z/\z<=k/\(∀i,i<z->Kp r p i<=Kp r p k)/\∀i,z<=i->i<k->Kp r p k<Kp r p i
 |0,l,x,h1,h2,h3,ha,hb=>⟨l,rfl,by omega,ha,λi a b=>hb i (by omega) b⟩
 |f+1,l,x,h1,h2,h3,ha,hb=>by
  by_cases lP:l ≥ x
  ·have e:run (lo r) (kas_place p k (f+1) l x)=l:=by
    show run (lo r) (if l ≥ x then KasT.ret l else _)=_;rw[if_pos lP];rfl
   exact⟨l,e,by omega,ha,λi a b=>hb i (by omega) b⟩
  ·by_cases hc:Kp r p k<Kp r p ((l+x)/2)
   ·have e:run (lo r) (kas_place p k (f+1) l x)=run (lo r) (kas_place p k f l ((l+x)/2)):=by
     show run (lo r) (if l ≥ x then KasT.ret l else KasT.ask (p.getD k 0) (p.getD ((l+x)/2) 0) λc=>if c=true then kas_place p k f l ((l+x)/2)else kas_place p k f ((l+x)/2+1) x)=_;rw[if_neg lP];show run (lo r) (if decide (Kp r p k<Kp r p ((l+x)/2))=true then kas_place p k f l ((l+x)/2)else kas_place p k f ((l+x)/2+1) x)=_;rw[if_pos (decide_eq_true hc)]
    rw[e];exact JR hu f l ((l+x)/2) (by omega) (by omega) (by omega) ha λi a b=>by
     have:=hu ((l+x)/2) i a b
     omega
   ·have e:run (lo r) (kas_place p k (f+1) l x)=run (lo r) (kas_place p k f ((l+x)/2+1) x):=by
     show run (lo r) (if l ≥ x then KasT.ret l else KasT.ask (p.getD k 0) (p.getD ((l+x)/2) 0) λc=>if c=true then kas_place p k f l ((l+x)/2)else kas_place p k f ((l+x)/2+1) x)=_;rw[if_neg lP];show run (lo r) (if decide (Kp r p k<Kp r p ((l+x)/2))=true then kas_place p k f l ((l+x)/2)else kas_place p k f ((l+x)/2+1) x)=_;rw[if_neg (by simpa using hc)]
    rw[e];exact JR hu f ((l+x)/2+1) x (by omega) (by omega) (by omega) (λi hi=>by
     have:=hu i ((l+x)/2) (by omega) (by omega)
     omega) hb
theorem jfb:∀(f:Nat) (p:Array Nat) (k:Nat),k+f<=p.size->Up r p k->∃p',run (lo r) (kas_bin f p k)=p'/\p'.Perm p/\Up r p' (k+f)
 |0,p,k,_,hu=>⟨p,rfl,.refl _,hu⟩
 |f+1,p,k,hs,hu=>by
  obtain⟨z,e,z1,z2,z3⟩:=JR hu k 0 k (zero_le _) (le_refl _) (le_refl _) (λi hi=>absurd hi (not_lt_zero _)) (λi a b=>absurd b (by omega))
  have e2:run (lo r) (kas_bin (f+1) p k)=run (lo r) (kas_bin f (bubble p k (k-z)) (k+1)):=by
   show run (lo r) ((kas_place p k k 0 k).bind λl=>kas_bin f (bubble p k (k-l)) (k+1))=_;rw[vm,e]
  have hu2:Up r (bubble p k (k-z)) (k+1):=by
   intro i j eA hj;rw[VR (by omega) (by omega),VR (by omega) (by omega),show k-(k-z)=z by omega]
   by_cases hi:i=z
   ·rw[if_pos hi]
    by_cases gM:j=z
    ·rw[if_pos gM];exact Int.le_refl _
    ·rw[if_neg gM,if_pos ⟨by omega,by omega⟩];exact Int.le_of_lt (z3 _ (by omega) (by omega))
   ·rw[if_neg hi]
    by_cases gM:j=z
    ·rw[if_neg (show ¬(z<i/\i<=k) by omega),if_pos gM];exact z2 i (by omega)
    ·rw[if_neg gM]
     by_cases a1:z<i/\i<=k
     ·rw[if_pos a1,if_pos ⟨by omega,by omega⟩];exact hu _ _ (by omega) (by omega)
     ·rw[if_neg a1]
      by_cases a2:z<j/\j<=k
      ·rw[if_pos a2]
       by_cases a3:i<=j-1
       ·exact hu _ _ a3 (by omega)
       ·omega
      ·rw[if_neg a2];exact hu _ _ eA (by omega)
  obtain⟨p',a,b,c⟩:=jfb f (bubble p k (k-z)) (k+1) (by rw[bubble_size];omega) hu2;exact⟨p',e2.trans a,b.trans (bubble_perm _ _ _),by rw[show k+(f+1)=k+1+f by omega];exact c⟩
theorem jgX {n:Nat}(h:1<=n):∃p,run (lo r) (kas_sort n)=p/\p.toList.Perm (List.range n)/\Up r p n:=by
 unfold kas_sort;rw[vm];have hsz:(toArray (List.range n)).size=n:=by simp
 obtain⟨m,p,e,b,c,d,g⟩:=jgt (r:=r) (p:=toArray (List.range n)) (n:=n) h (by omega)
 have hps:p.size=n:=by rw[b.size_eq];exact hsz
 have hb:p.toList.Perm (List.range n):=by
  have:=Array.perm_iff_toList_perm.mp b
  simpa using this
 rw[e];dsimp only
 by_cases hm:m<n
 ·rw[if_pos hm,show max m 1=m by omega];obtain⟨p',a,b2,c2⟩:=jfb (r:=r) (n-m) p m (by omega) c;rw[a];exact⟨p',rfl,(Array.perm_iff_toList_perm.mp b2).trans hb,by rw[show n=m+(n-m) by omega];exact c2⟩
 ·rw[if_neg hm];exact⟨p,rfl,hb,by rw[show n=m by omega];exact c⟩
end
def xR {α:Type}(n:Nat)(R:α->Prop):KasT α->Prop
 |.ret a=>R a
 |.ask i j k=>i<n/\j<n/\∀b,xR n R (k b)
theorem xR.bind {α β:Type}{n:Nat}{R:α->Prop}{S:β->Prop}{f:α->KasT β}(hf:∀a,R a->xR n S (f a)):∀{t:KasT α},xR n R t->xR n S (t.bind f)
 |.ret a,h=>hf a h
 |.ask _ _ k,h=>⟨h.1,h.2.1,λb=>xR.bind hf (h.2.2 b)⟩
theorem jdz {α:Type}{n:Nat}{R:α->Prop}{lt:Nat->Nat->Bool}{cmp:Nat->Nat->(Bool->Shared->Prop)->Shared->Prop}{Q:α->Shared->Prop}{s:Shared}(hc:∀i j C,i<n->j<n->C (lt i j) s->cmp i j C s):∀t:KasT α,xR n R t->Q (run lt t) s->t.kasWp cmp Q s
 |.ret _,_,h=>h
 |.ask i j k,g,h=>hc i j _ g.1 g.2.1 (jdz hc (k (lt i j)) (g.2.2 _) h)
def Low (n:Nat)(p:Array Nat):Prop:=∀i,p.getD i 0<n
theorem jid {n:Nat}{p q:Array Nat}(h:p.Perm q)(hq:Low n q)(h0:0<n):Low n p:=by
 intro i;rw[getD_eq_getD_getElem?]
 by_cases hi:i<p.size
 ·rw[Array.getElem?_eq_getElem hi,getD_some];have hm:p[i]∈q:=h.mem_iff.mp (Array.getElem_mem hi);obtain⟨j,hj,e⟩:=Array.getElem_of_mem hm
  have:=hq j
  rw[getD_eq_getD_getElem?,Array.getElem?_eq_getElem hj,getD_some,e]at this;exact this
 ·rw[Array.getElem?_eq_none (by omega)];exact h0
section
variable {n:Nat}(h0:0<n)
include h0
theorem Jf {p:Array Nat}{i j:Nat}(h:Low n p):Low n (kas_rev p i j):=jid (vQ _ _ _) h h0
theorem xa {α:Type}{R:α->Prop}{c:Prop}[Decidable c]{t u:KasT α}(h1:xR n R t)(h2:xR n R u):xR n R (if c then t else u):=by
 by_cases h:c
 ·rw[if_pos h];exact h1
 ·rw[if_neg h];exact h2
theorem jac {p:Array Nat}(hp:Low n p):∀(f k:Nat),xR n (λ_=>True) (kas_asc p f k)
 |0,_=>trivial
 |f+1,k=>⟨hp _,hp _,λb=>xa h0 trivial (jac hp f (k+1))⟩
theorem JD:∀(f:Nat) (p:Array Nat) (k q:Nat),Low n p->xR n (λx:Array Nat×Nat×Nat=>Low n x.1) (kas_desc f p k q)
 |0,_,_,_,hp=>hp
 |f+1,p,k,q,hp=>⟨hp _,hp _,λb=>xa h0 (xa h0 (JD f _ _ _ (Jf h0 hp)) (JD f _ _ _ hp)) ⟨hp _,hp _,λc=>xa h0 hp (JD f _ _ _ hp)⟩⟩
theorem jbL {p:Array Nat}{m x:Nat}(hp:Low n p):xR n (λz:Nat×Array Nat=>Low n z.2) (kas_tail3 m x p):=by
 unfold kas_tail3;refine xR.bind (R:=λ_=>True) (λa _=>?_) (jac h0 (Jf h0 hp) _ _);exact Jf h0 hp
theorem jbM {p:Array Nat}{m x:Nat}(hp:Low n p):xR n (λz:Nat×Array Nat=>Low n z.2) (kas_descPart m x p):=by
 unfold kas_descPart;refine xR.bind (λa ha=>?_) (JD h0 _ _ _ _ hp);exact xa h0 (jbL h0 (Jf h0 ha)) (jbL h0 ha)
theorem jgD {p:Array Nat}{x:Nat}(hp:Low n p):xR n (λz:Nat×Array Nat=>Low n z.2) (kas_count x p):=by
 unfold kas_count;refine xR.bind (R:=λ_=>True) (λa _=>?_) (jac h0 hp _ _);refine xa h0 ?_ (xa h0 ?_ (jbM h0 hp))
 ·exact hp
 ·exact⟨hp _,hp _,λb=>xa h0 (show Low n p from hp) (jbM h0 (Jf h0 hp))⟩
theorem Yn {p:Array Nat}{k:Nat}(hp:Low n p):∀(f l x:Nat),xR n (λ_=>True) (kas_place p k f l x)
 |0,_,_=>trivial
 |f+1,l,x=>xa h0 trivial ⟨hp _,hp _,λb=>xa h0 (Yn hp f _ _) (Yn hp f _ _)⟩
theorem jff:∀(f:Nat) (p:Array Nat) (k:Nat),Low n p->xR n (λ_=>True) (kas_bin f p k)
 |0,_,_,_=>trivial
 |f+1,p,k,hp=>xR.bind (λa _=>jff f _ _ (jid (bubble_perm _ _ _) hp h0)) (Yn h0 hp _ _ _)
theorem jjj:xR n (λ_=>True) (kas_sort n):=by
 have hl:Low n (toArray (List.range n)):=λi=>by
  rw[getD_eq_getD_getElem?]
  by_cases hi:i<n
  ·simp[hi]
  ·simp[hi];exact h0
 unfold kas_sort;refine xR.bind (λa ha=>?_) (jgD h0 hl);refine xa h0 (jff h0 _ _ _ ha) ?_;exact trivial
end
def jrn (x y:Int×Int):Bool:=if x.1=y.1 then decide (x.2<y.2)else decide (x.1<y.1)
def T2 (h:Heap)(v:Value)(k:Int×Int):Prop:=∃a o t u n,v= .ref a/\h.get? a=some o/\o.cls= .type "tuple"/\o.data= .seq #[.int k.1 t,.int k.2 u] n
def jpj (h:Heap):List Value->List (Int×Int)->Prop
 |[],[]=>True
 |v::vs,k::ks=>T2 h v k/\jpj h vs ks
 |_,_=>False
theorem jpj.length {h:Heap}:∀{vs:List Value}{ks:List (Int×Int)},jpj h vs ks->vs.length=ks.length
 |[],[],_=>rfl
 |_::_,_::_,q=>by simp[q.2.length]
 |[],_::_,q=>q.elim
 |_::_,[],q=>q.elim
section
def outOf (vs:List Value)(p:List Nat):Array Value:=(p.map λi=>vs.getD i Value.none).toArray
def Rises (ks:List (Int×Int))(p:List Nat):Prop:=p.Perm (List.range ks.length)/\(p.map λi=>ks.getD i (0,0)).Pairwise λx y=>jrn y x=false
theorem jcQ (vs:List Value):(List.range vs.length).map (λi=>vs.getD i Value.none)=vs:=by
 refine ext_getElem (by simp) λi h1 h2=>?_;simp[getD_eq_getElem?_getD,h2]
end
end Srt
namespace L3
open PySem L2
def prP (k:Int×Int):PV:=.tup [.int k.1,.int k.2]
theorem JM {W:Wd}{xs:List PV}{vs:List V}(r:yd W xs vs):∀p:List Nat,(∀i∈p,i<xs.length)->yd W (p.map λi=>xs.getD i .non) (p.map λi=>vs.getD i .non)
 |[],_=>rfl
 |i::p,h=>by
  have hi:=h i mem_cons_self;obtain⟨v,e,q⟩:=r.get (i:=i) (getElem?_eq_getElem hi);refine⟨_,_,rfl,?_,JM r p λj hj=>h j (mem_cons_of_mem _ hj)⟩;show Rep W (xs.getD i .non) (vs.getD i .non);rw[getD_eq_getElem?_getD,getD_eq_getElem?_getD,e,getElem?_eq_getElem hi];exact q
section
def jrK (i:Nat)(d:DS):DS:=λρ M=>match ρ[i]? with
 |some (some (.ref c))=>(match M.g c with
  |some (.lst xs)=>d (ρ.set i (some (.lst xs))) (M.drop c)
  |_=>.bad)
 |_=>.bad
end
open PyProof.Rows (envOfC)
theorem jaO {W:Wd}{f:Str}{x:PV}{v:V}(r:Rep W x v):∀{fs:List (Str×PV)}{vs:List (Str×V)},vN W fs vs->vN W (Vf f x fs) (vB f v vs)
 |[],_,e=>by cases e;exact⟨v,[],rfl,r,rfl⟩
 |p::fs,_,⟨u,t,e,a,b⟩=>by
  subst e;unfold Vf vB
  by_cases h:p.1=f
  ·rw[if_pos (by rw[h];exact beq_self_eq_true f),if_pos h];exact⟨v,t,rfl,r,b⟩
  ·rw[if_neg (by simpa using λz:f=p.1=>h z.symm),if_neg h];exact⟨u,_,rfl,a,jaO r b⟩
def VB (M:Sto)(k:Nat):PV->Option (Nat×List (Str×PV))
 |.ref i=>(match M.g i with
  |some (.ins c fs)=>if c=k then some (i,fs)else none
  |_=>none)
 |_=>none
theorem jcK {W:Wd}{M:Sto}{H:Hp}{k i:Nat}{x:PV}{v:V}{fs:List (Str×PV)}(hh:Held W M H)(r:Rep W x v)(e:VB M k x=some (i,fs)):∃a dx vs,v= .ref a/\W.α i=some a/\M.g i=some (.ins k fs)/\H a=some (.ins (W.T.C k) dx vs)/\vN W fs vs:=by
 cases x with
 |ref j=>
  have e:(match M.g j with
   |some (.ins c fs)=>if c=k then some (j,fs)else none
   |_=>none)=some (i,fs):=e
  split at e
  ·rename_i c gs hg;split at e
   ·rename_i hc;cases e;subst hc;obtain⟨a,rfl,ha⟩:=r;obtain⟨b,o,h1,h2,h3,dx,vs,rfl,rf⟩:=hh.m _ _ hg;rw[ha]at h1;cases h1;exact⟨a,dx,vs,rfl,ha,hg,h3,rf⟩
   ·cases e
  ·cases e
 |_=>cases e
def uv (k:Nat)(f:Str)(d:DE):DE:=λρ M=>(d ρ M).bind λx M1=>match VB M1 k x with
 |some (_,fs)=>ofO (fs.lookup f) M1
 |none=>.bad
def uW (k:Nat)(f:Str)(d do_:DE):DS:=λρ M=>(d ρ M).st ρ λy M1=>(do_ ρ M1).st ρ λx M2=>match VB M2 k x with
 |some (i,fs)=>if fs.length<1000 then .nx ρ (M2.set i (.ins k (Vf f y fs)))else .bad
 |none=>.bad
section
variable {X:Cx}{T:Tb}{ES:St->XK}{o e:Expr}{es:List Expr}{f m x:Str}{k j:Nat}{pos cO apos p:Pos}{d do_:DE}{da dk:DA}{ps ks:List Str}{a b:Nat}{sl:List Sl}{dP:List PV}{D:tD0}{cV:List Keyword}
theorem jX (hT:T.K=X.K)(c:Cls X.K (T.C k))(n:jn X.K (T.C k) f)(he:QE X T ES o d)(hb:attributeBase o f X.env (eval o X.env)=eval o X.env:=by rfl):QE X T ES (.Attribute o f pos) (uv k f d):=
 ⟨jN (jnt he.h hb) λσ H Q bH=>jC bH λW ρ M kT hh hs p=>⟨W,ρ,M,kT,hh,hs,yh.bind p λW1 M1 x v H1 l1 h1 r1 p1=>by
  split at p1
  ·rename_i i fs e1;obtain⟨ad,dx,vs,rfl,_,_,h3,rf⟩:=jcK h1 r1 e1;rw[l1.k,kT]at h3;cases e2:fs.lookup f with
   |none=>rw[e2]at p1;exact p1.elim
   |some y=>
    rw[e2]at p1;obtain⟨u,e3,r3⟩:=rf.get e2;exact⟨ad,T.C k,dx,vs,u,rfl,h3,c,n,e3,p1 W1 H1 u (.refl W1) h1 r3⟩
  ·exact p1.elim⟩⟩
theorem Uq (hT:T.K=X.K)(c:Cls X.K (T.C k))(n:jn X.K (T.C k) f)(ho:QE X T ES o do_)(he:QE X T ES e d)(iy:swapsWith e (some (.Attribute o f cO)) pos.line X.env=pure false:=by rfl):QS X T ES (.Assign [.Attribute o f cO] e pos) (uW k f d do_):=
 ⟨xi (jnk ho.h he.h iy) λD σ H bH=>yL bH λW ρ M kT hh hs q=>⟨W,ρ,M,kT,hh,hs,yo.bind hs q λW1 M1 y v H1 l1 h1 r1 q1=>⟨W1,ρ,M1,l1.k.trans kT,h1,hs.up l1,yo.bind (hs.up l1) q1 λW2 M2 x u H2 l2 h2 r2 q2=>by
  split at q2
  ·rename_i i fs e1;split at q2
   ·rename_i hz;obtain⟨ad,dx,vs,rfl,ha,hg,h3,rf⟩:=jcK h2 r2 e1;have kk:=l2.k.trans (l1.k.trans kT);have h3':=h3;rw[kk]at h3';refine⟨ad,T.C k,dx,vs,rfl,h3',c,n,by rw[rf.length];exact hz,?_⟩;have hu:=h2.upd (c':=.ins k (Vf f y fs)) (o:=.ins (T.C k) dx (vB f v vs)) hg ha ⟨dx,_,by rw[kk],jaO (r1.up l2) rf⟩;exact q2 W2 σ _ (.refl W2) hu ((hs.up l1).up l2)
   ·exact q2.elim
  ·exact q2.elim⟩⟩⟩
structure MetD (P:Program)(w:World)(K:Frag)(mg:tM0)(base:Heap)(T:Tb)(k:Nat)(m:Str)(j:Nat)(ps ks:List Str)(a b:Nat)(sl:List Sl)(dP:List PV)(D:tD0):Prop where
 ex:∃f fd dV ds,FnOk P w K mg base (CX1 P w) j f fd ps (spD T D)/\Meth K (T.C k) m f/\Cls K (T.C k)/\KBinds K fd ps ks (yk a b sl ds) (yk a b sl dV)/\∀W:Wd,W.T=T->yd W dP dV
def xQ (k:Nat)(m:Str)(D:tD0)(a b:Nat)(sl:List Sl)(dP:List PV)(do_:DE)(da dk:DA):DE:=λρ M=>(do_ ρ M).bind λx M0=>match VB M0 k x with
 |some (_,fs)=>if fs.lookup m=none then(da ρ M0).bind λxs M1=>(dk ρ M1).bind λzs M2=>D (yk a b sl dP (x::xs) zs) M2 else .bad
 |none=>.bad
theorem yG {pl:Sem Bool}(N:MetD X.prog X.w X.K X.mg X.base T k m j ps ks a b sl dP D)(hr:Room j X.A)(hx:vO (CX1 X.prog X.w) X ES)(ho:QE X T ES o do_)(ha:QA X T ES (e::es) da)(kn:QK X T ES cV dk)(cC:(backToKw pos (keywordEach cV X.env)).all (·.1.isSome)=true:=by rfl) (d9:(backToKw pos (keywordEach cV X.env)).filterMap (·.1)=ks:=by rfl)
  (he:starEach (e::es) X.env=(false,eval e X.env)::starEach es X.env:=by rfl)
  (cM:((backTo pos (starEach (e::es) X.env)).any (·.1) || (backToKw pos (keywordEach cV X.env)).any (·.1.isNone))=false:=by rfl)
  (ht:eval (.Call (.Attribute o m apos) (e::es) cV pos) X.env=(do
   let ov <-eval o X.env
   standAt apos.atName
   let (f,first) <-holding [ov] (getMethod ov m pl)
   callWith pos f first (backTo pos (starEach (e::es) X.env)) (backToKw pos (keywordEach cV X.env))):=by rfl):QE X T ES (.Call (.Attribute o m apos) (e::es) cV pos) (xQ k m D a b sl dP do_ da dk):=⟨by
 obtain⟨f,fd,dV,ds,F,hm,c,hb,kD⟩:=N.ex;rintro bF s σ H Q I ⟨W,ρ,M,kT,hh,hs,q⟩
 refine PySem.W.methodCall_KW (pl:=pl) (thn (ho.h bF s σ H (λv H1=>∃W1 M1 x i fs,W1.T=T/\Held W1 M1 H1/\yq W1 ρ σ/\Rep W1 x v/\VB M1 k x=some (i,fs)/\fs.lookup m=none/\yh W1 Rep ((da ρ M1).bind λxs M1=>(dk ρ M1).bind λzs M2=>D (yk a b sl dP (x::xs) zs) M2) Q (ES σ)) I ⟨W,ρ,M,kT,hh,hs,yh.bind q
   λW1 M1 x v H1 l1 h1 r1 q1=>by
    split at q1
    ·rename_i i fs e1;split at q1
     ·rename_i e2;exact⟨W1,M1,x,i,fs,l1.k.trans kT,h1,hs.up l1,r1,e1,e2,q1⟩
     ·exact q1.elim
    ·exact q1.elim⟩) λu s1 bH=>?_) ht
 obtain⟨v,H1,I1,rx,W1,M1,x,i,fs,k1,h1,cQ,r1,e1,e2,q1⟩:=bH;obtain⟨ad,dx,vf,rfl,lj,hg,h3,rf⟩:=jcK h1 r1 e1;obtain rfl:u=Value.ref ad:=rx;rw[k1]at h3;refine jcO I1 h3 c hm (rf.none e2) ?_
 refine callWith_KW (first:=[.ref ad]) (h₀:=X.base) I.ok.mod.kin hm.kp cC (thn (ha.h pos bF s1 σ H1 (λvs H2=>∃W2 M2 xs,W2.T=T/\Held W2 M2 H2/\yq W2 ρ σ/\Rep W2 x (.ref ad)/\yd W2 xs vs/\yh W2 Rep ((dk ρ M2).bind λzs M3=>D (yk a b sl dP (x::xs) zs) M3) Q (ES σ)) I1 ⟨W1,ρ,M1,k1,h1,cQ,yh.bind q1
   λW2 M2 xs vs H2 l2 h2 r2 q2=>⟨W2,M2,xs,l2.k.trans k1,h2,cQ.up l2,r1.up l2,r2,q2⟩⟩) λus s2 bH=>?_) cM he
 obtain⟨vs,H2,I2,r,W2,M2,xs,k2,h2,cY,rx2,r2,q2⟩:=bH;refine thn (kn.h pos bF s2 σ H2 (λzs H3=>spD T D (yk a b sl dV (.ref ad::vs) zs) H3 Q (ES σ)) I2 ⟨W2,ρ,M2,k2,h2,cY,yh.bind q2 λW3 M3 zs' zs H3 l3 h3 r3 q3=>⟨W3,_,M3,l3.k.trans k2,h3,Yd (kD W3 (l3.k.trans k2)) (show yd W3 (x::xs) (.ref ad::vs)from⟨_,_,rfl,rx2.up l3,r2.up l3⟩) r3,q3⟩⟩) λws s3 bH=>?_;obtain⟨zs,H3,I3,rz,q3⟩:=bH;refine⟨I3.aI,?_⟩;rw[d9]
 exact jlB (us:=.ref ad::us) (vs:=.ref ad::vs) F hr hb hx I3 (.cons rfl r) rz q3⟩
structure NewD (P:Program)(w:World)(K:Frag)(mg:tM0)(base:Heap)(T:Tb)(k:Nat)(x:Str)(j:Nat)(ps ks:List Str)(a b:Nat)(sl:List Sl)(dP:List PV)(D:tD0):Prop where
 ex:∃f fd dV ds,FnOk P w K mg base (CX1 P w) j f fd ps (spD T D)/\Mk K (T.C k) f/\mg x=some (.ref (T.C k))/\KBinds K fd ps ks (yk a b sl ds) (yk a b sl dV)/\∀W:Wd,W.T=T->yd W dP dV
def made (k:Nat)(D:tD0)(vs:PV->List PV)(M:Sto):Res PV:=match D (vs (.ref M.n)) (M.new (.ins k []))with
 |.ok .non M3=>.ok (.ref M.n) M3
 |.ok _ _=>.bad
 |.exc c M3=>.exc c M3
 |.bad=>.bad
def jiZ (k:Nat)(D:tD0)(a b:Nat)(sl:List Sl)(dP:List PV)(da dk:DA):DE:=λρ M=>(da ρ M).bind λxs M1=>(dk ρ M1).bind λzs M2=>made k D (λx=>yk a b sl dP (x::xs) zs) M2
theorem jch {f C:Addr}{fd:FuncData}{dV:List V}{ds:List Value}{bF:tP0}{σ:St}{H:Hp}{s:Shared}{Q:VK}{us ws:List Value}{vs zs:List V}{sp:Sp}(M:Mk X.K C f)(F:FnOk X.prog X.w X.K X.mg X.base (CX1 X.prog X.w) j f fd ps sp)(hr:Room (j+1) X.A)(hb:KBinds X.K fd ps ks (yk a b sl ds) (yk a b sl dV))(hx:vO (CX1 X.prog X.w) X ES)(I:Inv X bF σ H s) (r:yg vs us) (rz:yg zs ws) (h:∀x dx,H x=none->H dx=none->dx≠x->sp (yk a b sl dV (.ref x::vs) zs) (L2.upd (L2.upd H dx (.own x)) x (.ins C dx [])) (λv H2=>v= .non/\Q (.ref x) H2) (ES σ)) :
  wpAny (model X.prog X.w) X.A (call (.ref C) us (ks.zip ws)) (EP X bF σ Q) X.xe s:=by
 have hq:=h (s.heap.objs.size+1) s.heap.objs.size (I.hok.fresh (le_succ _)) (I.hok.fresh (le_refl _)) (ne_of_lt (lt_succ_self _));have I2:=Inv.made (C:=C) I;have r2:=hb.rel (vs:=V.ref (s.heap.objs.size+1)::vs) (us:=Value.ref (s.heap.objs.size+1)::us) (.cons rfl r) rz;have hl:(yk a b sl ds (Value.ref (s.heap.objs.size+1)::us) ws).length=ps.length:=by
  rw[<-r2.length];exact F.len _ _ _ _ hq
 refine wpAny_call (jic (f:=f) I.aI M.makes M.init (beq_iff_eq.mp M.fn) (codeAny_mono (F.run _ X.stack _ _ ⟨Value.ref (s.heap.objs.size+1)::us,ks.zip ws⟩ _ _ _ (ES σ) (hr.make C us (ks.zip ws)) (I2.bc.make C us (ks.zip ws)) (hb.to _ (Value.ref (s.heap.objs.size+1)::us) ws I2.aI hl) r2 hq) λr s' kl=>?_))
 match r,kl with
 |.error e,kl=>exact hx bF σ _ _ e s' I2 kl
 |.ok (.ret u),kl=>
  obtain⟨v,H',I3,rv,ev,q3⟩:=I2.after kl;subst ev;exact⟨rv,⟨V.ref (s.heap.objs.size+1),H',I3,rfl,q3⟩⟩
theorem made_post {W:Wd}{M:Sto}{H:Hp}{Q:VK}{E:XK}{xs zs:List PV}{vs us:List V}{dV:List V}(kT:W.T=T)(hh:Held W M H)(hd:∀W:Wd,W.T=T->yd W dP dV)(rx:yd W xs vs)(rz:yd W zs us)(q:yh W Rep (made k D (λx=>yk a b sl dP (x::xs) zs) M) Q E) :
  ∀x dx,H x=none->H dx=none->dx≠x->spD T D (yk a b sl dV (.ref x::vs) us) (L2.upd (L2.upd H dx (.own x)) x (.ins (T.C k) dx [])) (λv H2=>v= .non/\Q (.ref x) H2) E:=by
 intro x dx hx hdx cZ;obtain⟨l1,h1,f1⟩:=hh.frz (l:=dx) (o:=.own x) hdx;have e2:L2.upd H dx (.own x) x=none:=by rw[jk (λz=>cZ z.symm)];exact hx
 obtain⟨l2,h2,a2⟩:=h1.put (l:=x) (o:=.ins (T.C k) dx []) (c:=.ins k []) e2 ⟨dx,[],by rw[l1.k,kT],rfl⟩;have gK:=l1.trans l2;refine⟨_,yk a b sl dP (.ref M.n::xs) zs,M.new (.ins k []),gK.k.trans kT,h2,Yd (hd _ (gK.k.trans kT)) ⟨_,_,rfl,⟨x,rfl,a2⟩,rx.up gK⟩ (rz.up gK),?_⟩;unfold made at q
 cases e:D (yk a b sl dP (.ref M.n::xs) zs) (M.new (.ins k []))with
 |ok v M3=>
  simp only[e]at q;cases v with
  |non=>exact λW3 H3 u l3 h3 r3=>⟨r3,q W3 H3 (.ref x) (gK.trans l3) h3 ⟨x,rfl,l3.a _ _ a2⟩⟩
  |_=>exact q.elim
 |exc c M3=>
  simp only[e]at q;intro W3 H3 dd l3 h3 dx
  have:=q W3 H3 dd (gK.trans l3) h3 dx
  rw[<-gK.k]at this;exact this
 |bad=>
  simp only[e]at q;exact q.elim
theorem jht (N:NewD X.prog X.w X.K X.mg X.base T k x j ps ks a b sl dP D)(hr:Room (j+1) X.A)(hg:Gl X x)(hx:vO (CX1 X.prog X.w) X ES)(ha:QA X T ES (e::es) da)(kn:QK X T ES cV dk)(cC:(backToKw pos (keywordEach cV X.env)).all (·.1.isSome)=true:=by rfl) (d9:(backToKw pos (keywordEach cV X.env)).filterMap (·.1)=ks:=by rfl)
  (f6:(x==("__debug__":Str))=false:=by decide) (he:starEach (e::es) X.env=(false,eval e X.env)::starEach es X.env:=by rfl)
  (cM:((backTo pos (starEach (e::es) X.env)).any (·.1) || (backToKw pos (keywordEach cV X.env)).any (·.1.isNone))=false:=by rfl):QE X T ES (.Call (.Name x p) (e::es) cV pos) (jiZ k D a b sl dP da dk):=⟨by
 obtain⟨f,fd,dV,ds,F,mk,hm,hb,kD⟩:=N.ex;rintro bF s σ H Q I ⟨W,ρ,M,kT,hh,hs,q⟩;refine wpAny_Call_Name_kw (UC I hg hm ?_ f6)
 refine callWith_KW (h₀:=X.base) I.ok.mod.kin mk.kp cC (thn (ha.h pos bF s σ H (λvs H1=>∃W1 M1 xs,W1.T=T/\Held W1 M1 H1/\yq W1 ρ σ/\yd W1 xs vs/\yh W1 Rep ((dk ρ M1).bind λzs M2=>made k D (λx=>yk a b sl dP (x::xs) zs) M2) Q (ES σ)) I ⟨W,ρ,M,kT,hh,hs,yh.bind q
   λW1 M1 xs vs H1 l1 h1 r1 q1=>⟨W1,M1,xs,l1.k.trans kT,h1,hs.up l1,r1,q1⟩⟩) λus s1 bH=>?_) cM he
 obtain⟨vs,H1,I1,r,W1,M1,xs,k1,h1,cQ,r1,q1⟩:=bH;refine thn (kn.h pos bF s1 σ H1 (λzs H2=>∀x dx,H2 x=none->H2 dx=none->dx≠x->spD T D (yk a b sl dV (.ref x::vs) zs) (L2.upd (L2.upd H2 dx (.own x)) x (.ins (T.C k) dx [])) (λv H2=>v= .non/\Q (.ref x) H2) (ES σ)) I1 ⟨W1,ρ,M1,k1,h1,cQ,yh.bind q1 λW2 M2 zs' zs H2 l2 h2 r2 q2=>made_post (l2.k.trans k1) h2 kD (r1.up l2) r2 q2⟩) λws s2 bH=>?_;obtain⟨zs,H2,I2,rz,q2⟩:=bH;refine⟨I2.aI,?_⟩;rw[d9]
 exact jch mk F hr hb hx I2 r rz q2⟩
end
def jai (xs ys:List PV):List PV:=List.zipWith (λx y=>PV.tup [x,y]) xs ys
theorem jgH {xs ys:List PV}{i:Nat}{z:PV}(h:(jai xs ys)[i]?= some z):∃x y,xs[i]?= some x/\ys[i]?= some y/\z= .tup [x,y]:=by
 unfold jai at h;rw[List.getElem?_zipWith]at h;cases e1:xs[i]? with
 |none=>rw[e1]at h;cases h
 |some x=>
  cases e2:ys[i]? with
  |none=>rw[e1,e2]at h;cases h
  |some y=>
   rw[e1,e2]at h;cases h;exact⟨x,y,rfl,rfl,rfl⟩
theorem jfx {xs ys:List PV}{i:Nat}(h:(jai xs ys)[i]?= none):xs.length<=i\/ys.length<=i:=by
 unfold jai at h;rw[List.getElem?_eq_none_iff,List.length_zipWith]at h;omega
def jlg (ds:DA):En->Sto->Res ItP:=λρ M=>(ds ρ M).bind λxs M1=>match xs with
 |[.lst xs,.lst ys]=>.ok (.fix (jai xs ys)) M1
 |[.tup [],.tup _]=>.ok (.fix []) M1
 |_=>.bad
section
variable {X:Cx}{T:Tb}{ES:St->XK}{p pos:Pos}{ds:DA}
theorem jmY {l m:Expr}{cX:List Expr}{x1:Nat}{dS:Pos}(hT:T.K=X.K)(hg:Gl X "zip")(hm:X.mg "zip" = none)(ha:QA X T ES [l,m] ds)(hs:starEach [l,m] X.env=(false,eval l X.env)::starEach [m] X.env:=by rfl)(cY:starEach [m] X.env=[(false,eval m X.env)]:=by rfl) :
  QI X T ES (.Tuple cX x1 dS) (.Call (.Name "zip" p) [l,m] [] pos) (jlg ds):=
 ⟨uE (jnm hg hm ha.h hs cY) λσ H R bH=>jC bH λW ρ M k hh hs q=>⟨W,ρ,M,k,hh,hs,yh.bind q λW1 M1 xs vs H1 l1 h1 r1 p1=>by
  split at p1
  ·rename_i xs ys;obtain⟨u,v,rfl,ru,rv⟩:=uS r1;obtain⟨a,us,rfl,ha,ra⟩:=ru;obtain⟨b,ws,rfl,hb,rb⟩:=rv;refine⟨a,b,rfl,.inl ⟨⟨us,SqL.of (h1.f _ _ ha)⟩,⟨ws,SqL.of (h1.f _ _ hb)⟩,p1 W1 H1 _ (.refl W1) h1 λW' M' H' le cB i=>?_⟩⟩;have qa:H' a=some (.lst us):=cB.f _ _ (le.f _ _ ha);have qb:H' b=some (.lst ws):=cB.f _ _ (le.f _ _ hb);refine⟨λz e=>?_,λe=>?_⟩
   ·have e:(jai xs ys)[i]?= some z:=Option.some.inj e;obtain⟨x,y,ex,ey,rfl⟩:=jgH e;obtain⟨u,eu,ru⟩:=ra.get ex;obtain⟨v,ev,rv⟩:=rb.get ey;refine⟨⟨us,ws,u,v,SqL.of qa,SqL.of qb,eu,ev⟩,λt fJ bH=>?_⟩;obtain⟨c,u',v',et,hc,hu,hv,eH⟩:=bH;subst et;subst eH;have hu:=hu us (SqL.of qa);have hv:=hv ws (SqL.of qb);rw[eu]at hu;rw[ev]at hv;cases hu;cases hv;exact uq (xs:=[x,y]) cB (show yd W' _ [u,v]from⟨_,_,rfl,ru.ah le,_,_,rfl,rv.ah le,rfl⟩) hc
   ·have e:(jai xs ys)[i]?= none:=Option.some.inj e;exact⟨us,ws,SqL.of qa,SqL.of qb,by rw[ra.length,rb.length];exact jfx e⟩
  ·rename_i ys;obtain⟨u,v,rfl,ru,rv⟩:=uS r1;obtain⟨a,us,rfl,ha,ra⟩:=ru;obtain⟨b,ws,rfl,hb,rb⟩:=rv;cases ra;have kk:W1.T.K=X.K:=by rw[l1.k,k];exact hT
   refine⟨a,b,rfl,.inr ⟨kk ▸ YY h1.f ha.toT,⟨ws,kk ▸ YY h1.f hb.toT⟩,p1 W1 H1 _ (.refl W1) h1 λW' M' H' le cB i=>?_⟩⟩;refine⟨λz e=>?_,λe=>?_⟩
   ·have e:([]:List PV)[i]?= some z:=Option.some.inj e;simp at e
   ·have:SqT X.K H' a []:=kk ▸ YY (λb o q=>cB.f b o (le.f b o q)) ha.toT
    exact this
  ·exact p1.elim⟩⟩
end
def getL (l:List (List Int×Int))(k:List Int):Option Int:=(l.find? λp=>decide (p.1=k)).map (·.2)
theorem jkS {a b:List Int}:(a.map (Sum.inl:Int->Key)=b.map Sum.inl)↔a=b:=by
 constructor
 ·intro h
  induction a generalizing b with
  |nil=>cases b with
   |nil=>rfl
   |cons _ _=>cases h
  |cons x a ih=>cases b with
   |nil=>cases h
   |cons y b=>
    rw[map_cons,map_cons]at h;injection h with h1 h2
    rw[Sum.inl.inj h1,ih h2]
 ·rintro rfl;rfl
theorem jkP (ns:List Int):(ns.map (Sum.inl:Int->Key)).map kV=ns.map V.int:=by
 rw[map_map];rfl
section
theorem hu1 {A:Around}{k:Nat}(hr:Room k A):A.units+1<cLine:=by have:=jeB hr;omega
end
end L3
namespace L2
open PySem PySem.Spec PyProof.Rows
section
variable {X:Cx}{tg:Expr}{bF:tP0}{σ:St}{H:Hp}{s:Shared}
def jrr (K:Frag)(tl:TE):TI:=λσ H R=>tl σ H λx H1=>∃a,x= .ref a/\(((∃xs,SqL K H1 a xs)/\R (Itl K a) H1)\/((∃xs,SqT K H1 a xs)/\R (Itt K a) H1))
theorem jno {l:Expr}{tl:TE}(hl:PE X l tl):PI X tg l (jrr X.K tl):=by
 intro bF s σ H R I h;refine thn (hl bF s σ H _ I h) λv s1 hS=>?_;obtain⟨x,H1,I1,r1,a,e,q1⟩:=hS;subst e;cases r1;have fp:∀b∈[s1.heap.objs.size],xb X bF H1 b:=λb hb=>by
  cases (List.mem_singleton.mp hb);exact I1.au (le_refl _) (I1.hok.fresh (le_refl _))
 rcases q1 with⟨⟨xs,hq⟩,q⟩|⟨⟨xs,hq⟩,q⟩
 ·obtain⟨its,_,p,_⟩:=I1.list hq;exact wpAny_pyIter_list p.isList ⟨_,_,_,_,H1,rfl,I1.kept (t':=s1.toks) λb o e=>get?_push_of_some _ e,Vn a _,⟨_,get?_push_size _ rfl,rfl,rfl⟩,fp,q⟩
 ·obtain⟨its,_,p,_⟩:=I1.tuple hq;exact wpAny_pyIter_tuple (show s1.heap.IsTuple a its.toArray from p) ⟨_,_,_,_,H1,rfl,I1.kept (t':=s1.toks) λb o e=>get?_push_of_some _ e,YT a _,⟨_,get?_push_size _ rfl,rfl,rfl⟩,fp,q⟩
end
end L2
namespace L3
open PySem L2
section
variable {X:Cx}{T:Tb}{ES:St->XK}{a b e tg:Expr}{d:DE}
def jlh (d:DE):En->Sto->Res ItP:=λρ M=>(d ρ M).bind λx M1=>match x with
 |.tup xs=>.ok (.fix xs) M1
 |x=>ofO (jqm M1 x) M1
theorem jna (hT:T.K=X.K)(h:QE X T ES e d):QI X T ES tg e (jlh d):=⟨uE (jno h.h) λσ H R hS=>jC hS λW ρ M k hh hs q=>⟨W,ρ,M,k,hh,hs,yh.bind q λW1 M1 x v H1 l1 h1 r1 p1=>by
 cases x with
 |tup xs=>
  obtain⟨a,vs,rfl,ha,rr⟩:=r1
  have kk:W1.T.K=X.K:=by rw[l1.k,k];exact hT
  have lj:SqT X.K H1 a vs:=kk ▸ YY h1.f ha.toT;refine⟨a,rfl,.inr ⟨⟨vs,lj⟩,p1 W1 H1 _ (.refl W1) h1 λW' M' H' le cB i=>?_⟩⟩;have hq:SqT X.K H' a vs:=kk ▸ YY (λb o q=>cB.f b o (le.f b o q)) ha.toT;refine⟨λz e=>?_,λe=>?_⟩
  ·obtain⟨u,e2,r2⟩:=rr.get (show xs[i]?= some z from Option.some.inj e);refine⟨⟨vs,u,hq,e2⟩,λw fJ hS=>?_⟩;obtain⟨eH,q⟩:=hS;subst eH
   have:=q vs hq
   rw[e2]at this;cases this;exact⟨W',.refl W',cB,r2.ah le⟩
  ·exact⟨vs,hq,by rw[rr.length];exact List.getElem?_eq_none_iff.mp (show xs[i]?= none from Option.some.inj e)⟩
 |lst xs=>
  obtain⟨a,vs,rfl,ha,rr⟩:=r1;refine⟨a,rfl,.inl ⟨⟨vs,SqL.of (h1.f _ _ ha)⟩,p1 W1 H1 _ (.refl W1) h1 (YJ rfl (λW' M' H' le cB ys hy=>?_) λM=>.inl ⟨xs,λi=>rfl⟩)⟩⟩
  have:ys=xs:=ext_getElem? (λi=>(Option.some.inj (hy i)).symm)
  subst this;exact⟨vs,cB.f _ _ (le.f _ _ ha),rr.ah le⟩
 |ref j=>
  have p1:yh W1 RI (ofO (match M1.g j with
   |some (.lst _)=>some (ItP.live j)
   |_=>none) M1) R (ES σ):=p1
  split at p1
  ·rename_i xs e1;obtain⟨a,rfl,ea⟩:=r1;obtain⟨b,o,h2,h3,h4,vs,rfl,rr⟩:=h1.m j _ e1;rw[ea]at h2;cases h2;refine⟨a,rfl,.inl ⟨⟨vs,SqL.of h4⟩,p1 W1 H1 _ (.refl W1) h1 (YJ rfl (λW' M' H' le cB ys hy=>?_) λM=>?_)⟩⟩
   ·cases e2:yz M' (.ref j)with
    |none=>
     have:=hy 0
     rw[xk e2]at this;cases this
    |some zs=>
     have:ys=zs:=ext_getElem? (λi=>by
      have:=hy i
      rw[Jc e2]at this
      exact(Option.some.inj this).symm)
     subst this;obtain⟨a',fC,e3,h5,r5⟩:=yW (v:=.ref a) cB (show Rep W' (.ref j) (.ref a)from⟨a,rfl,le.a _ _ ea⟩) e2;cases e3;exact⟨fC,h5,r5⟩
   ·cases e2:yz M (.ref j)with
    |none=>exact .inr λi=>xk e2
    |some zs=>exact .inl ⟨zs,λi=>Jc e2⟩
  ·exact p1.elim
 |_=>exact p1.elim⟩⟩
end
theorem Held.release {W:Wd}{M:Sto}{H G0:Hp}{l:Addr}{ys:List PV}{vs:List V}(h:Held W M H)(e:W.G l=some (.lst vs))(hg:∀b u,G0 b=some u->W.G b=some u/\b≠l)(r:yd W ys vs):W.le0 (W.aH G0 M.n l)/\Held (W.aH G0 M.n l) (M.new (.lst ys)) H/\(W.aH G0 M.n l).α M.n=some l:=by
 obtain⟨g1,g2,g3⟩:=h.gd l _ e;have at_:∀i,i≠M.n->(W.aH G0 M.n l).α i=W.α i:=λi z=>if_neg z;have here:(W.aH G0 M.n l).α M.n=some l:=if_pos rfl
 have le:W.le0 (W.aH G0 M.n l):=⟨rfl,λ_ _ e=>e,λi a q=>by
  have z:i≠M.n:=λz=>by
   have:=h.top i (by omega)
   rw[this]at q;cases q
  rw[at_ i z];exact q⟩
 refine⟨le,⟨h.f,λi c q=>?_,λi j a c c' q1 q2 e1 e2=>?_,λi hi=>?_,λb u q=>?_,λb u q=>h.gl b u (hg b u q).1⟩,here⟩
 ·by_cases z:i=M.n
  ·subst z;rw[Sto.af]at q;cases q;exact⟨l,.lst vs,here,g2,g1,vs,rfl,r.ah le⟩
  ·rw[Sto.ae z]at q;obtain⟨a,o,h1,h2,h3,h4⟩:=h.m i c q;exact⟨a,o,by rw[at_ i z];exact h1,h2,h3,h4.ah le⟩
 ·by_cases z:i=M.n
  ·by_cases y:j=M.n
   ·rw[z,y]
   ·subst z;rw[here]at e1;cases e1;rw[Sto.ae y]at q2;rw[at_ j y]at e2;exact absurd e2 (g3 j c' q2)
  ·by_cases y:j=M.n
   ·subst y;rw[here]at e2;cases e2;rw[Sto.ae z]at q1;rw[at_ i z]at e1;exact absurd e1 (g3 i c q1)
   ·rw[Sto.ae z]at q1;rw[Sto.ae y]at q2;rw[at_ i z]at e1;rw[at_ j y]at e2;exact h.inj i j a c c' q1 q2 e1 e2
 ·have hi:M.n+1<=i:=hi;rw[at_ i (by omega)];exact h.top i (by omega)
 ·obtain⟨q1,z⟩:=hg b u q;obtain⟨h1,h2,h3⟩:=h.gd b u q1;refine⟨h1,h2,λi c qc w=>?_⟩
  by_cases y:i=M.n
  ·subst y;rw[here]at w;cases w;exact z rfl
  ·rw[Sto.ae y]at qc;rw[at_ i y]at w;exact h3 i c qc w
def US (di:tI0)(bnd:DG)(js:List Nat)(dt:DT)(de:DE):DE:=jcX (λ_ M=>.ref M.n) (λys M=>M.new (.lst ys)) di bnd js dt de
section
variable {X:Cx}{T:Tb}{ES:St->XK}{osc sc:Scope}{own fr:List Str}{js:List Nat}{bU bG iter a b:Expr}{ifs:List Expr}{pos:Pos}{di:tI0}{g:TG}{bnd:DG}{dt:DT}{de:DE}
theorem jdb {on:Nat}{σ:St}{H:Hp}{Q:VK}(B:Bnd T on g bnd)(h:lft T Rep ES (US di bnd js dt de) σ H Q):YU (lft T RI ES di) on js g (lft T RB ES0 dt) (lft T Rep ES0 de) σ H Q:=
 XO B _ _ (λ{W M H G0 l ys vs} h e hg r=>by
  obtain⟨l2,h2,h3⟩:=h.release e hg r
  exact⟨W.aH G0 M.n l,l2,rfl,h2,l,rfl,h3⟩) h
theorem jhw (B:Bnd T own.length g bnd)(hc:X.calm=true)(ho:X.env.scope=osc)(S:CompScope osc sc own fr)(hj:js.map (λj=>X.N[j]?)=fr.map some)(hi:QI X T ES bG iter di)(hg:∀b3 b4 fp,PG (jQ X (own++fr) sc b3 b4 fp) bG g) (ht:∀b3 b4 fp,QIf (jQ X (own++fr) sc b3 b4 fp) T ES0 ifs dt) (he:∀b3 b4 fp,QE (jQ X (own++fr) sc b3 b4 fp) T ES0 bU de)(hs:∀x,foldedSetIterable iter X.env x=pure x:=by intro _;rfl):QE X T ES (.ListComp bU [⟨bG,iter,ifs,0⟩] sc pos) (US di bnd js dt de):=
 ⟨jN (jeq hc ho S hj hi.h hg (λa b c=>(ht a b c).h) (λa b c=>(he a b c).h) hs) λ_ _ _=>jdb B⟩
end
end L3
namespace L2
open PySem PySem.Spec PyProof.Rows
section
variable {prog:Program}{w:World}{A:Around}{R:Result->Shared->Prop}{s:Shared}
theorem jgU {bU:Expr}{gens:tC0}{scope:Scope}{pos:Pos}{d:Nat}{it acc:Value}{env:Env}{bG iter:Expr}(h0:gens[d]?= some ⟨bG,iter,[],0⟩)(h:codeAny (model prog w) A (.compLoop (.ListComp bU gens scope pos) d it acc env) R s)(hi:∀E,wpAny (model prog w) A (pyIter it) (λd5 s'=>codeAny (model prog w) A (.compLoop (.ListComp bU gens scope pos) d d5 acc env) R s') E s) :
  codeAny (model prog w) A (.compStart (.ListComp bU gens scope pos) d it acc env) R s:=by
 refine codeAny_of_tree ?_;show wpAny _ A ((compStart (.ListComp bU gens scope pos) d it acc env).onRaise (λx=>do noteFrame x env;standAt theWindowsPlace)) _ _ s;refine wpAny_onRaise ?_;unfold compStart;have hc:(clausesOf (.ListComp bU gens scope pos))[d]?= some ⟨bG,iter,[],0⟩:=h0;rw[hc];rw[if_neg (by simp)];refine wpAny_bind (wpAny_askSetting ?_);split
 ·exact wpAny_pure ⟨rfl,h⟩
 ·refine wpAny_bind (wpAny_rule ?_);refine wpAny_bind (wpAny_standAt ?_);exact wpAny_bind (wpAny_mono (hi _) (λd5 s' h'=>wpAny_pure ⟨rfl,h'⟩) λ_ _ z=>z)
theorem jie {bU:Expr}{gens:tC0}{scope:Scope}{pos:Pos}{d:Nat}{it acc:Value}{env:Env}{bG iter cN cP:Expr}(h0:gens[d]?= some ⟨bG,iter,[],0⟩)(h1:gens[d+1]?= some ⟨cN,cP,[],0⟩)(hs:∀x,foldedSetIterable cP env x=pure x) (I:Nat->Shared->Prop)(bZ:∀n s,I n s->wpAny (model prog w) A (pyNext it) (λr b6=>match r with
   |none=>R (.ok .next) b6
   |some v=>wpAny (model prog w) A (letOwnedTupleGo bG it v) (λ_ bw=>wpAny (model prog w) A (assign bG env v) (λ_ b9=>
     wpAny (model prog w) A (eval cP env) (λx b3=>wpAny (model prog w) A (pyIter x) (λd5 bt=>
      codeAny (model prog w) A (.compStart (.ListComp bU gens scope pos) (d+1) d5 acc env) (λr b8=>match r with
       |.ok _=>∃m,m<n/\I m b8
       |.error _=>False) bt) (λ_ _=>False) b3) (λ_ _=>False) b9) (λ_ _=>False) bw) (λ_ _=>False) b6) (λ_ _=>False) s)
  (n:Nat) (h:I n s):codeAny (model prog w) A (.compLoop (.ListComp bU gens scope pos) d it acc env) R s:=by
 refine codeAny_loop rfl I (λn s hI=>?_) n h;show wpAny _ A ((compTurn (.ListComp bU gens scope pos) d it acc env).onRaise (λx=>do noteFrame x env;theTreesLotGoes x)) _ _ s;refine wpAny_noted ?_;unfold compTurn;simp only[h0,h1,hs];refine wpAny_bind (wpAny_standAt ?_);rw[if_neg (by simp)];refine wpAny_bind (wpAny_mono (bZ n s hI) (λr b6 b7=>?_) λ_ _ h'=>h'.elim);cases r with
 |none=>exact wpAny_pure b7
 |some v=>
  refine wpAny_bind (wpAny_mono b7 (λ_ bw bz=>?_) λ_ _ h'=>h'.elim);refine wpAny_bind (wpAny_mono bz (λ_ b9 bu=>?_) λ_ _ h'=>h'.elim);refine wpAny_bind (wpAny_tests_nil ?_);rw[if_pos rfl];refine wpAny_bind (wpAny_mono bu (λx b3 bC=>?_) λ_ _ h'=>h'.elim);refine wpAny_bind (wpAny_standAt ?_);rw[if_neg (by simp)];refine wpAny_bind (wpAny_pure ?_);rw[if_neg (by simp)];refine wpAny_bind (wpAny_holding (wpAny_mono bC (λd5 bt bB=>?_) λ_ _ h'=>h'.elim));refine wpAny_bind (wpAny_runOwn (codeAny_mono bB λr b8 bx=>?_));cases r with
  |ok f=>exact wpAny_pure ⟨rfl,bx⟩
  |error e=>exact bx.elim
theorem jgc {bU:Expr}{gens:tC0}{scope:Scope}{pos:Pos}{d:Nat}{it acc:Value}{env:Env}{bG iter:Expr}(h0:gens[d]?= some ⟨bG,iter,[],0⟩)(h1:gens[d+1]?= none)(I:Nat->Shared->Prop)(bZ:∀n s,I n s->wpAny (model prog w) A (pyNext it) (λr b6=>match r with
   |none=>R (.ok .next) b6
   |some v=>wpAny (model prog w) A (letOwnedTupleGo bG it v) (λ_ bw=>wpAny (model prog w) A (assign bG env v) (λ_ b9=>
     wpAny (model prog w) A (eval bU env) (λx bt=>
       wpAny (model prog w) A (call (.builtin "list.append") [acc,x]) (λ_ b8=>∃m,m<n/\I m b8) (λ_ _=>False) bt) (λ_ _=>False) b9) (λ_ _=>False) bw) (λ_ _=>False) b6) (λ_ _=>False) s)
  (n:Nat) (h:I n s):codeAny (model prog w) A (.compLoop (.ListComp bU gens scope pos) d it acc env) R s:=by
 refine codeAny_loop rfl I (λn s hI=>?_) n h;show wpAny _ A ((compTurn (.ListComp bU gens scope pos) d it acc env).onRaise (λx=>do noteFrame x env;theTreesLotGoes x)) _ _ s;refine wpAny_noted ?_;unfold compTurn;simp only[h0,h1];refine wpAny_bind (wpAny_standAt ?_);rw[if_neg (by simp)];refine wpAny_bind (wpAny_mono (bZ n s hI) (λr b6 b7=>?_) λ_ _ h'=>h'.elim);cases r with
 |none=>exact wpAny_pure b7
 |some v=>
  refine wpAny_bind (wpAny_mono b7 (λ_ bw bz=>?_) λ_ _ h'=>h'.elim);refine wpAny_bind (wpAny_mono bz (λ_ b9 bu=>?_) λ_ _ h'=>h'.elim);refine wpAny_bind (wpAny_tests_nil ?_);rw[if_pos rfl];exact wpAny_bind (wpAny_bind (wpAny_mono bu (λx bt bB=>wpAny_bind (wpAny_mono bB (λ_ b8 bx=>wpAny_pure (wpAny_pure ⟨rfl,bx⟩)) λ_ _ h'=>h'.elim)) λ_ _ h'=>h'.elim))
end
def BodyOk (X:Cx)(bU:Expr)(gens:tC0)(scope:Scope)(pos:Pos)(d:Nat)(acc:Addr)(s:Shared)(Po:Shared->Prop):Prop:=match gens[d+1]? with
 |none=>wpAny (model X.prog X.w) X.A (eval bU X.env) (λx bt=>wpAny (model X.prog X.w) X.A (call (.builtin "list.append") [.ref acc,x]) (λ_ b8=>Po b8) (λ_ _=>False) bt) (λ_ _=>False) s
 |some g=>wpAny (model X.prog X.w) X.A (eval g.iter X.env) (λx b3=>wpAny (model X.prog X.w) X.A (pyIter x) (λd5 bt=>
   codeAny (model X.prog X.w) X.A (.compStart (.ListComp bU gens scope pos) (d+1) d5 (.ref acc) X.env) (λr b8=>match r with
    |.ok _=>Po b8
    |.error _=>False) bt) (λ_ _=>False) b3) (λ_ _=>False) s
theorem BodyOk.mono {X:Cx}{bU:Expr}{gens:tC0}{scope:Scope}{pos:Pos}{d:Nat}{acc:Addr}{s:Shared}{Po kK:Shared->Prop}(h:BodyOk X bU gens scope pos d acc s Po)(k:∀s,Po s->kK s):BodyOk X bU gens scope pos d acc s kK:=by
 unfold BodyOk at h ⊢;split
 ·rename_i e;rw[e]at h;exact wpAny_mono h (λx bt bB=>wpAny_mono bB (λ_ b8 bx=>k b8 bx) λ_ _ z=>z) λ_ _ z=>z
 ·rename_i g e;rw[e]at h;refine wpAny_mono h (λx bt bB=>wpAny_mono bB (λ_ b8 bx=>codeAny_mono bx λr s h=>?_) λ_ _ z=>z) λ_ _ z=>z;cases r with
  |ok f=>exact k s h
  |error e=>exact h
structure Plainly (env:Env)(gens:tC0)(d:Nat):Prop where
 h:∀g,gens[d+1]?= some g->g.ifs=[]/\g.is_async=0/\∀x,foldedSetIterable g.iter env x=pure x
theorem jaY {X:Cx}{R:Result->Shared->Prop}{s:Shared}{bU:Expr}{gens:tC0}{scope:Scope}{pos:Pos}{d:Nat}{it:Value}{acc:Addr}{bG iter:Expr}(h0:gens[d]?= some ⟨bG,iter,[],0⟩)(h1:Plainly X.env gens d)(I:Nat->Shared->Prop)(bZ:∀n s,I n s->wpAny (model X.prog X.w) X.A (pyNext it) (λr b6=>match r with
   |none=>R (.ok .next) b6
   |some v=>wpAny (model X.prog X.w) X.A (letOwnedTupleGo bG it v) (λ_ bw=>wpAny (model X.prog X.w) X.A (assign bG X.env v) (λ_ b9=>
     BodyOk X bU gens scope pos d acc b9 λb8=>∃m,m<n/\I m b8) (λ_ _=>False) bw) (λ_ _=>False) b6) (λ_ _=>False) s)
  (n:Nat) (h:I n s):codeAny (model X.prog X.w) X.A (.compLoop (.ListComp bU gens scope pos) d it (.ref acc) X.env) R s:=by
 cases e:gens[d+1]? with
 |none=>
  refine jgc h0 e I (λn s hI=>wpAny_mono (bZ n s hI) (λr b6 b7=>?_) λ_ _ z=>z) n h;cases r with
  |none=>exact b7
  |some v=>
   refine wpAny_mono b7 (λ_ bw bz=>wpAny_mono bz (λ_ b9 bu=>?_) λ_ _ z=>z) λ_ _ z=>z;unfold BodyOk at bu;rw[e]at bu;exact bu
 |some g=>
  obtain⟨cN,cP,ifs',ml⟩:=g;obtain⟨a,b,c⟩:=h1.h _ e;dsimp only at a b c;subst a;subst b;refine jie h0 e c I (λn s hI=>wpAny_mono (bZ n s hI) (λr b6 b7=>?_) λ_ _ z=>z) n h
  cases r with
  |none=>exact b7
  |some v=>
   refine wpAny_mono b7 (λ_ bw bz=>wpAny_mono bz (λ_ b9 bu=>?_) λ_ _ z=>z) λ_ _ z=>z;unfold BodyOk at bu;rw[e]at bu;exact bu
abbrev TB:=Addr->St->Hp->(St->Hp->Prop)->Prop
def PMb (X:Cx)(bU:Expr)(gens:tC0)(scope:Scope)(pos:Pos)(d:Nat)(tb:TB):Prop:=
 ∀(acc:Addr) (bF:tP0) (s:Shared) (σ:St) (H:Hp) (N:St->Hp->Prop),Inv X bF σ H s->tb acc σ H N->BodyOk X bU gens scope pos d acc s λs'=>∃σ' H',Inv X bF σ' H' s'/\N σ' H'
def jjL (J:It)(acc:Addr)(own:Nat)(js:List Nat)(g:TG)(tb:TB)(σ:St)(Q:VK)(H1:Hp):Prop:=
 ∃W:Nat->Nat->St->Hp->Prop,(∃m,W 0 m (yZ own js σ) (upd H1 acc (.lst [])))/\∀i m σ2 H2,W i m σ2 H2->(J.stop i H2/\Q (.ref acc) H2) \/
  (J.go i H2/\∃N:St->Hp->Prop,(∀σ' H',N σ' H'->∃m',m'<m/\W (i+1) m' σ' H')/\∀x H3,J.yld i H2 x H3->g x σ2 H3 λσ4 H4=>tb acc σ4 H4 N)
def jgQ (wi:TI)(own:Nat)(js:List Nat)(g:TG)(tb:TB):TE:=λσ H Q=>wi σ H λJ H1=>∀acc,H1 acc=none->jjL J acc own js g tb σ Q H1
def jjU (wi:TI)(g:TG)(tb:TB):TB:=λacc σ H N=>wi σ H λJ H1=>∃W:Nat->Nat->St->Hp->Prop,(∃m,W 0 m σ H1)/\∀i m σ2 H2,W i m σ2 H2->(J.stop i H2/\N σ2 H2) \/
  (J.go i H2/\∃N':St->Hp->Prop,(∀σ' H',N' σ' H'->∃m',m'<m/\W (i+1) m' σ' H')/\∀x H3,J.yld i H2 x H3->g x σ2 H3 λσ4 H4=>tb acc σ4 H4 N')
theorem jfT {X:Cx}{bU:Expr}{gens:tC0}{scope:Scope}{pos:Pos}{d:Nat}{bG iter:Expr}{wi:TI}{g:TG}{tb:TB}(fo:X.xe=λ_ _=>False)(hc:X.calm=true)(h1:gens[d+1]?= some ⟨bG,iter,[],0⟩)(h2:Plainly X.env gens (d+1))(hi:PI X bG iter wi)(hg:PG X bG g)(hb:PMb X bU gens scope pos (d+1) tb):PMb X bU gens scope pos d (jjU wi g tb):=by
 intro acc bF s σ H N I h;unfold BodyOk;rw[h1];have fh:=hi bF s σ H _ I h;rw[fo]at fh;refine thn fh λv s1 h1'=>thn h1' λiw s2 h2'=>?_;obtain⟨it,fp,tn,J,H2,e,I2,T,fE,f2,W,⟨m0,w0⟩,bZ⟩:=h2';subst e;have eS:∀{H':Hp},(∀b∈fp,H' b=none)->∀b∈fp,xb X bF H' b:=λhn b hb=>⟨hn b hb,(f2 b hb).2⟩
 have c5:codeAny (model X.prog X.w) X.A (.compLoop (.ListComp bU gens scope pos) (d+1) (.ref it) (.ref acc) X.env) (λr b8=>match r with
    |.ok _=>∃σ' H',Inv X bF σ' H' b8/\N σ' H'
    |.error _=>False) s2:=by
  refine jaY h1 h2 (λn s'=>∃i σ' H',Inv X bF σ' H' s'/\tn i s'.heap/\(∀b∈fp,H' b=none)/\W i n σ' H') ?_ m0 ⟨0,σ,H2,I2,fE,λb hb=>(f2 b hb).1,w0⟩;rintro n s3 ⟨i,σ3,H3,I3,j3,kH,w3⟩;rcases bZ i n σ3 H3 w3 with⟨stop,qn⟩|⟨go,N',hN,step⟩
  ·refine thn (T.done X rfl rfl rfl hc i bF s3 σ3 H3 _ I3 (eS kH) j3 stop) λr s4 bH=>?_;obtain⟨hr,I4⟩:=bH;subst hr;exact⟨σ3,H3,I4,qn⟩
  ·refine thn (T.item X rfl rfl rfl hc i bF s3 σ3 H3 _ I3 (eS kH) j3 go) λr s4 bH=>?_;obtain⟨u,hr,h4⟩:=bH;subst hr;refine thn h4 λ_ s5 bH=>?_;obtain⟨x,H5,I5,r5,y5,eJ,fI⟩:=bH;have i6:=I5.pinned (eS fI) (T.obj _ _ eJ);have hg':=hg _ s5 σ3 H5 x u _ i6 r5 (step x H5 y5);rw[fo]at hg';refine thn hg' λ_ s6 bH=>?_;obtain⟨σ6,H6,I6,q6⟩:=bH;refine(hb acc _ s6 σ6 H6 N' I6 q6).mono λs7 bH=>?_;obtain⟨σ7,H7,I7,n7⟩:=bH;obtain⟨m',hm,w7⟩:=hN σ7 H7 n7;refine⟨m',hm,i+1,σ7,H7,I7.aj,T.keep _ _ _ eJ λb hb o e=>(I7.pin (b,o) (mem_append_right _ (mem_append_right _ (yC hb e)))).1,λb hb=>?_,w7⟩;obtain⟨o,e,d⟩:=T.obj _ _ eJ b hb;exact(I7.pin (b,o) (mem_append_right _ (mem_append_right _ (yC hb e)))).2.1
 exact jgU h1 c5 λE=>T.self _ 0 _ _ _ fE c5
def jpz (te:TE):TB:=λacc σ H N=>te σ H λy H6=>∃xs,H6 acc=some (.lst xs)/\xs.length<sizeLine/\N σ (upd H6 acc (.lst (xs++[y])))
theorem jkv {X:Cx}{bU:Expr}{gens:tC0}{scope:Scope}{pos:Pos}{d:Nat}{te:TE}(fo:X.xe=λ_ _=>False)(h1:gens[d+1]?= none)(he:PE X bU te):PMb X bU gens scope pos d (jpz te):=by
 intro acc bF s σ H N I h;unfold BodyOk;rw[h1];have iM:=he bF s σ H _ I h;rw[fo]at iM;refine thn iM λy kQ bH=>?_;obtain⟨v,i7,kN,j7,xs,mn,hz,lE⟩:=bH;have ap:=JW _ kQ σ i7 (.ref acc) [v] (.ref acc) [y] (λz kO=>z= .non/\kO=upd i7 acc (.lst (xs++[v]))) kN rfl (.cons j7 .nil) ⟨_,xs,v,rfl,rfl,mn,hz,rfl,rfl⟩;rw[fo]at ap;refine thn ap λz s11 bH=>?_;obtain⟨z',kO,mq,_,_,mh⟩:=bH;subst mh;exact⟨σ,_,mq,lE⟩
section
variable {X:Cx}{bF:tP0}{σ:St}{H:Hp}{s:Shared}{osc sc:Scope}{own fr:List Str}{js:List Nat}{fp:List Addr}
theorem jdc {bU bG iter:Expr}{rest:tC0}{pos:Pos}{it:Addr}{tn:Nat->Heap->Prop}{J:It}{g:TG}{tb:TB}{Q:VK}{RR:Value->Addr->Result->Shared->Prop}{E:tE0}(hc:X.calm=true) (ho:X.env.scope=osc) (S:CompScope osc sc own fr) (hj:js.map (λj=>X.N[j]?)=fr.map some)(hg:∀b3 b4 fp,PG (jQ X (own++fr) sc b3 b4 fp) bG g) (cM:∀b3 b4 fp,Plainly (jQ X (own++fr) sc b3 b4 fp).env (⟨bG,iter,[],0⟩::rest) 0) (hb:∀b3 b4 fp,PMb (jQ X (own++fr) sc b3 b4 fp) bU (⟨bG,iter,[],0⟩::rest) sc pos 0 tb)(I:Inv X bF σ H s) (T:Turn X.prog X.w X.K bG J fp it tn) (st:tn 0 s.heap) (hf:∀b∈fp,xb X bF H b)(h:∀acc,H acc=none->jjL J acc own.length js g tb σ Q H)(fin:∀acc C H' s',Inv X bF σ H' s'->xb X bF H' C->(∃m,s'.heap.Ns C m)->Q (.ref acc) H'->RR (.ref acc) C (.ok .next) s') :
  wpAny (model X.prog X.w) X.A (newList []) (λacc b3=>wpAny (model X.prog X.w) X.A (newFunctionEnv sc X.env.globals (xH sc X.env) [] X.env.qual none .none (some X.env)) (λeD bt=>
   codeAny (model X.prog X.w) X.A (.compStart (.ListComp bU (⟨bG,iter,[],0⟩::rest) sc pos) 0 (.ref it) acc { eD with scope:=relabel sc X.env }) (RR acc eD.locals) bt) E b3) E s:=by
 obtain⟨W,⟨m0,w0⟩,bZ⟩:=h s.heap.objs.size (I.hok.fresh (le_refl _))
 have cz:∀b∈fp,b<s.heap.objs.size:=λb hb=>by
  obtain⟨o,e,_⟩:=T.obj _ _ st b hb;exact lt_size e
 refine wpAny_newList ?_;have I3:Inv X bF σ (upd H s.heap.objs.size (.lst [])) { s with heap:=s.heap.push eL0 }:=I.aW (its:=[]) (ys:=[]) (t':=s.toks) .nil (zero_le _);have f3:∀b∈fp,xb X bF (upd H s.heap.objs.size (.lst [])) b:=λb hb=>⟨by rw[jk (ne_of_lt (cz b hb))];exact(hf b hb).1,(hf b hb).2⟩
 have d6:(s.heap.push eL0).objs.size=s.heap.objs.size+1:=size_push ..;refine xJ ?_;dsimp only
 obtain⟨b7,bA⟩:∃b7,b7=pushCells ((s.heap.push eL0).push { cls:=.type "dict",data:=.dict #[] }) sc.names:=⟨_,rfl⟩
 rw[<-bA];have bD:b7.Ns (s.heap.push eL0).objs.size λ_=>none:=by
  rw[bA];exact UA _ (Heap.Ns.new ..)
 have dG:∀b o,(s.heap.push eL0).get? b=some o->b7.get? b=some o:=λb o e=>by
  rw[bA];exact pushCells_keeps _ _ _ _ (get?_push_of_some _ e)
 have bE:∀x c,(cellsFrom ((s.heap.push eL0).objs.size+1) sc.names (xH sc X.env)).lookup x=some c->∃v,b7.IsCell c v:=λx c e=>by
  rw[bA];refine Jx sc.names _ (xH sc X.env) (λy d q=>?_) (by rw[size_push];exact e);obtain⟨v,hv⟩:=I3.cell y d (uf I3 ho S q);exact⟨v,hv.keeps λb o e=>get?_push_of_some _ e⟩
 have fQ:∀b∈fp,b<(s.heap.push eL0).objs.size:=λb hb=>by rw[d6];exact lt_succ_of_lt (cz b hb)
 have I4:=XC (own:=own) (fr:=fr) (js:=js) (tk:=s.toks) I3 ho S hj f3 fQ bD dG bE;have hV:tn 0 b7:=T.keep _ _ _ st λb _ o e=>dG b o (get?_push_of_some _ e);have gb:∀{H':Hp},(∀b∈fp,H' b=none)->∀b∈fp,xb (jQ X (own++fr) sc { s with heap:=s.heap.push eL0 } (upd H s.heap.objs.size (.lst [])) fp) [] H' b:=λhn b hb=>
  ⟨hn b hb,ne_of_lt (fQ b hb),λhm=>by
   rcases List.mem_cons.mp (I.aw b hm)with z|z
   ·exact(hf b hb).2.1 z
   ·exact(hf b hb).2.2.1 z,.inl hb,λx c e=>(XX I3 ho S e).elim (λz=>(hf b hb).2.2.2.2.1 x c z) (λz=>ne_of_gt (lt_trans (fQ b hb) z)),λp hp=>absurd (show p∈([]:tP0)from hp) (by simp)⟩
 have c5:∀b3:Shared,b3={ s with heap:=b7 }->
   codeAny (model X.prog X.w) X.A (.compLoop (.ListComp bU (⟨bG,iter,[],0⟩::rest) sc pos) 0 (.ref it) (.ref s.heap.objs.size) (compEnvC sc (cellsFrom ((s.heap.push eL0).objs.size+1) sc.names (xH sc X.env)) (s.heap.push eL0).objs.size X.env))
    (RR (.ref s.heap.objs.size) (s.heap.push eL0).objs.size) b3:=by
  rintro b3 rfl;refine jaY (X:=jQ X (own++fr) sc { s with heap:=s.heap.push eL0 } (upd H s.heap.objs.size (.lst [])) fp) rfl (cM _ _ _) (λn s'=>∃i σ' H',Inv (jQ X (own++fr) sc { s with heap:=s.heap.push eL0 } (upd H s.heap.objs.size (.lst [])) fp) [] σ' H' s'/\tn i s'.heap/\(∀b∈fp,H' b=none)/\W i n σ' H')
   ?_ m0 ⟨0,_,_,I4,hV,λb hb=>(f3 b hb).1,w0⟩
  rintro n s5 ⟨i,σ5,H5,I5,eJ,fI,w5⟩;have fw:(jQ X (own++fr) sc { s with heap:=s.heap.push eL0 } (upd H s.heap.objs.size (.lst [])) fp).calm=true:=hc;rcases bZ i n σ5 H5 w5 with⟨stop,qn⟩|⟨go,N,hN,step⟩
  ·refine thn (T.done (jQ X (own++fr) sc { s with heap:=s.heap.push eL0 } (upd H s.heap.objs.size (.lst [])) fp) rfl rfl rfl fw i [] s5 _ H5 _ I5 (gb fI) eJ stop) λr s6 bH=>?_;obtain⟨hr,I6⟩:=bH;subst hr;have B:=VI I rfl (tk:=s.toks) hf I6;refine fin _ _ H5 s6 B ?_ ?_ qn
   ·refine I.au ?_ I6.free;show s.heap.objs.size<=(s.heap.push eL0).objs.size;rw[d6];exact le_succ _
   ·obtain⟨m,hm,_⟩:=I6.loc;exact⟨m,hm⟩
  ·refine thn (T.item (jQ X (own++fr) sc { s with heap:=s.heap.push eL0 } (upd H s.heap.objs.size (.lst [])) fp) rfl rfl rfl fw i [] s5 _ H5 _ I5 (gb fI) eJ go) λr s6 bH=>?_;obtain⟨u,hr,h6⟩:=bH;subst hr;refine thn h6 λ_ s7 bH=>?_;obtain⟨x,H7,I7,r7,y7,fM,kG⟩:=bH;have kM:=I7.pinned (gb kG) (T.obj _ _ fM);refine thn (hg _ _ _ _ s7 _ H7 x u _ kM r7 (step x H7 y7)) λ_ s8 bH=>?_;obtain⟨σ8,H8,I8,q8⟩:=bH;refine(hb _ _ _ _ _ s8 σ8 H8 N I8 q8).mono λs9 bH=>?_;obtain⟨σ9,H9,I9,n9⟩:=bH;obtain⟨m',hm,w9⟩:=hN σ9 H9 n9;refine⟨m',hm,i+1,σ9,H9,I9.aj,T.keep _ _ _ fM λb hb o e=>(I9.pin (b,o) (mem_append_right _ (mem_append_right _ (yC hb e)))).1,λb hb=>?_,w9⟩;obtain⟨o,e,d⟩:=T.obj _ _ fM b hb;exact(I9.pin (b,o) (mem_append_right _ (mem_append_right _ (yC hb e)))).2.1
 exact codeAny_compStart_list (c5 _ rfl) (T.self _ 0 _ _ _ hV (c5 _ rfl))
end
section
variable {X:Cx}{osc sc:Scope}{own fr:List Str}{js:List Nat}{bU bG iter:Expr}{rest:tC0}{pos:Pos}{wi:TI}{g:TG}{tb:TB}
theorem jhR (hc:X.calm=true)(ho:X.env.scope=osc)(S:CompScope osc sc own fr)(hj:js.map (λj=>X.N[j]?)=fr.map some)(hi:PI X bG iter wi)(hg:∀b3 b4 fp,PG (jQ X (own++fr) sc b3 b4 fp) bG g) (cM:∀b3 b4 fp,Plainly (jQ X (own++fr) sc b3 b4 fp).env (⟨bG,iter,[],0⟩::rest) 0) (hb:∀b3 b4 fp,PMb (jQ X (own++fr) sc b3 b4 fp) bU (⟨bG,iter,[],0⟩::rest) sc pos 0 tb)(hs:∀x,foldedSetIterable iter X.env x=pure x:=by intro _;rfl):PE X (.ListComp bU (⟨bG,iter,[],0⟩::rest) sc pos) (jgQ wi own.length js g tb):=by
 intro bF s σ H Q I h;rw[eval_ListComp];refine wpAny_comprehension_free (use:=none) rfl hs (vL (jbG I ho S)) S.kind S.loc (thn (hi bF s σ H _ I h) λv s1 h1=>thn h1 λiw s2 h2=>?_);obtain⟨it,fp,tn,J,H2,e,I2,T,fE,f2,q2⟩:=h2;subst e;refine jdc (RR:=λacc C=>compPost (model X.prog X.w) X.A X.xe none (EP X bF σ Q) acc C) hc ho S hj hg cM hb I2 T fE f2 q2 λacc C H' s' J hC hn q=>?_;obtain⟨m,hm⟩:=hn;refine⟨m,hm,λh' d7=>⟨.ref acc,H',?_,rfl,q⟩⟩;obtain⟨f0,f1,mf,f3,f4,f5⟩:=hC;exact J.turned (t':=s'.toks) (λb o hb e=>d7.extBut b o hb e) f0 f1 f3 f4 f5
end
end L2
namespace L3
open PySem L2
abbrev EM:=En->Sto->Res (List PV)
def emE (de:DE):EM:=λρ M=>(de ρ M).ar.bind λy M1=>.ok [y] M1
def jjJ (W:Wd)(acc:Addr)(ρ:En)(vs:List V)(N:St->Hp->Prop)(r:Res (List PV)):Prop:=match r with
 |.ok zs M'=>vs.length+zs.length<=sizeLine/\∀W' σ' H' ws,W.le0 W'->W'.G=L2.upd W.G acc (.lst (vs++ws))->Held W' M' H'->yd W' zs ws->yq W' ρ σ'->N σ' H'
 |_=>False
def lfM (T:Tb)(own d:Nat)(em:EM):TB:=λacc σ H N=>∃W ρ M vs,W.T=T/\Held W M H/\yq W ρ σ/\W.G acc=some (.lst vs)/\(∀j,d<j->j<own->ρ[j]?= some none)/\jjJ W acc ρ vs N (em ρ M)
theorem yq.ah {W W':Wd}{ρ:En}{σ:St}(l:W.le0 W')(h:yq W ρ σ):yq W' ρ σ:=⟨h.1,λi x e=>by
 obtain⟨v,e1,r⟩:=h.2 i x e
 exact⟨v,e1,r.ah l⟩⟩
section
variable {own:Nat}
theorem uB {W:Wd}{ρ:En}{σ:St}{i:Nat}{x:PV}(hn:ρ[i]?= some none)(h:yq W (ρ.set i (some x)) σ):yq W ρ σ:=by
 refine⟨by rw[h.1,length_set],λj y e=>h.2 j y ?_⟩
 have hj:j≠i:=λz=>by rw[z,hn]at e;cases e
 rw[getElem?_set_ne (λz=>hj z.symm)];exact e
theorem jgI {G:Hp}{a:Addr}{o:HO}(h:G a=some o):L2.upd G a o=G:=by
 funext b
 by_cases e:b=a
 ·subst e;rw[jr,h]
 ·rw[jk e]
theorem Vr {W:Wd}{ρ:En}{σ:St}{js:List Nat}(own:Nat)(h:yq W ρ σ):yq W (replicate own none++rest js ρ) (yZ own js σ):=by
 have r:=Xh (js:=js) h;refine⟨by unfold yZ;simp[rest],λi x e=>?_⟩;unfold yZ
 by_cases hi:i<own
 ·rw[getElem?_append_left (by simpa using hi),getElem?_replicate]at e;split at e <;> cases e
 ·rw[getElem?_append_right (by simpa using le_of_not_lt hi),length_replicate]at e;rw[getElem?_append_right (by simpa using le_of_not_lt hi),length_replicate];exact r.2 _ x e
end
theorem jlE {env:Env}{gens:tC0}{d:Nat}{g:Comprehension}(h:gens[d+1]?= some g)(h1:g.ifs=[])(h2:g.is_async=0)(h3:∀x,foldedSetIterable g.iter env x=pure x):Plainly env gens d:=⟨λg' e=>by
 rw[h]at e;cases e
 exact⟨h1,h2,h3⟩⟩
theorem jcr {env:Env}{gens:tC0}{d:Nat}(h:gens[d+1]?= none):Plainly env gens d:=⟨λg' e=>by
 rw[h]at e;cases e⟩
abbrev Pr:=List Int×Int
abbrev EMD:=En->Sto->Res (List Pr)
end L3
namespace L2
open PySem PySem.Spec PyProof.Rows
section
variable {prog:Program}{w:World}{A:Around}{E:tE0}{s:Shared}{xs:List (List Key×Addr×Value)}
theorem jkc {d a:Addr}{k:List Key}{v:Value}{Q:tE0}(hu:A.units<cLine)(dU:(tupleKind (ye prog w)).is s.heap k a)(hm:s.heap.DictOfH (tupleKind (ye prog w)) d xs)(h1:∀p,atKey xs k=some p->Q p.2 { s with toks:=s.toks+(tupleKind (ye prog w)).draws k })
  (h2:atKey xs k=none->∀h',h'.DictOfH (tupleKind (ye prog w)) d (storedH xs k a v)->SameBut d s.heap h'->Q v { s with heap:=h',toks:=s.toks+(tupleKind (ye prog w)).draws k })
  (hsz:xs.length<=sizeLine):wpAny (model prog w) A (dictSetDefault d (.ref a) v) Q E s:=by
 obtain⟨o,es,ep,ho,hc,hd,he,his,hn⟩:=hm;unfold dictSetDefault
 try with_reducible refine wpAny_holding ?_
 refine wpAny_bind ((tupleKind (ye prog w)).pyHash hu dU ?_);refine wpAny_bind (wpAny_dictFind_heap (knd:=tupleKind (ye prog w)) (s:={ s with toks:=s.toks+(tupleKind (ye prog w)).draws k }) hu dU ho hd he his hn ?_ ?_)
 ·intro gL;have hnot:k∉xs.map (·.1):=not_mem_keys_of_get gL;have kX:=atKey_none_of_get gL;refine wpAny_bind (wpAny_rule (wpAny_bind (wpAny_updateDictKeys (hz:=by have e:=size_of_entries he;omega) (s:={ s with toks:=s.toks+(tupleKind (ye prog w)).draws k }) ho hd (wpAny_pure (h2 kX _ ⟨_,_,ep+1,get?_update_self _ ho (Obj.isFreed_of_dict (Obj.data_mapDictKeys hd _)),
   hc.mapDictKeys _,Obj.data_mapDictKeys hd _,?_,?_,?_⟩ (Heap.SameBut.update ..))))))
  ·rw[storedH_new kX];simp[he,entryOfKey]
  ·rw[storedH_new kX];intro x hx;rcases List.mem_append.mp hx with hx|hx
   ·exact(tupleKind (ye prog w)).keeps (his x hx) ho hd (Heap.SameBut.update ..)
   ·simp only[mem_singleton]at hx;subst hx;exact(tupleKind (ye prog w)).keeps dU ho hd (Heap.SameBut.update ..)
  ·rw[storedH_new kX,map_append,List.nodup_append];refine⟨hn,by simp,?_⟩;intro x hx y hy;simp only[map_cons,map_nil,mem_singleton]at hy;subst hy;exact λe=>hnot (e ▸ hx)
 ·intro j p hj;refine wpAny_bind (wpAny_dictEntries (s:={ s with toks:=s.toks+(tupleKind (ye prog w)).draws k }) ho hd ?_);rw[entry_at he j,hj];exact wpAny_bind (wpAny_rule (wpAny_pure (h1 p (atKey_of_get hn hj))))
theorem Vg (d a:Addr)(hd:(d==sysModules)=false)(dflt:Value) :
  MeetsIn prog w (Builtin.«dict.setdefault» ⟨[.ref d,.ref a,dflt],[]⟩) (λA R s=>A.units+1<cLine/\∃k xs,(tupleKind (ye prog w)).is s.heap k a/\s.heap.DictOfH (tupleKind (ye prog w)) d xs/\xs.length<=sizeLine /\
   (∀p,atKey xs k=some p->R (.ok (.ret p.2)) { s with toks:=s.toks+(tupleKind (ye prog w)).draws k }) /\
   (atKey xs k=none->∀h',h'.DictOfH (tupleKind (ye prog w)) d (storedH xs k a dflt)->SameBut d s.heap h'->R (.ok (.ret dflt)) { s with heap:=h',toks:=s.toks+(tupleKind (ye prog w)).draws k })):=
 .of_wp λA R s bH=>by
  obtain⟨hu,k,xs,dU,hm,hsz,h1,h2⟩:=bH;unfold Builtin.«dict.setdefault»;refine wpAny_bind ?_;unfold Builtin.Dict.keyAndDefault;refine wpAny_bind (wpAny_notOrdered_dict hm.typeIs ?_);show wpAny _ _ (pure (d,Value.ref a,some dflt)) _ _ s;refine wpAny_pure ?_;show wpAny _ _ (if(d==sysModules)=true then _ else(dictSetDefault d (.ref a) dflt >>= _)) _ _ s;rw[if_neg (by rw[hd];exact Bool.false_ne_true)];exact wpAny_bind (jkc (by show A.units+1<cLine;omega) dU hm (λp hp=>wpAny_pure ⟨p.2,rfl,h1 p hp⟩) (λhn h' hm' d7=>wpAny_pure ⟨dflt,rfl,h2 hn h' hm' d7⟩) hsz)
end
section
variable {X:Cx}{bF:tP0}{σ:St}{H:Hp}{s:Shared}{a b:Addr}{d:V}{r:Value}{A:Around}{E:tE0}{kvs:List (List Key×V)}{k:List Key}
theorem jiV {Q:tE0}(hu:A.units+1<cLine)(I:Inv X bF σ H s)(e:H a=some (.dT kvs))(eb:H b=some (.tup (k.map kV)))(l:kvs.length<sizeLine)(rd:RelV d r)(h1:∀v w' s',yT kvs k=some v->Inv X bF σ H s'->RelV v w'->Q w' s') (h2:yT kvs k=none->∀s',Inv X bF σ (upd H a (.dT (vp kvs k d))) s'->Q r s'):wpAny (model X.prog X.w) A (call (.builtin "dict.setdefault") [.ref a,.ref b,r]) Q E s:=by
 obtain⟨z,hd,xs,rel,dd⟩:=jlP I.hok e
 have hz:xs.length<=sizeLine:=by rw[<-Paired.length rel];exact z
 have hl:(vp kvs k d).length<=sizeLine:=by have:=vX kvs k d;omega
 have rv:=rel.val k;refine call_meetsIn PySem.F.slot_dict_setdefault dd.typeIs PySem.F.entry_dict_setdefault (PySem.F.args_dict_setdefault_3 _ _ _) (Vg a b hd r) ⟨hu,k,xs,XA I.hok eb,dd,hz,λp hp=>?_,λhn h' i5 hs=>?_⟩
 ·rw[hp]at rv;cases ev:yT kvs k with
  |none=>rw[ev]at rv;exact absurd rv (by intro z;cases z)
  |some v=>
   rw[ev]at rv;exact h1 v _ _ ev (I.tok _) rv
 ·rw[hn]at rv;have en:yT kvs k=none:=by
   cases ev:yT kvs k with
   |none=>rfl
   |some v=>rw[ev]at rv;exact absurd rv (by intro z;cases z)
  refine h2 en _ ?_;obtain⟨q,es,ep,hq,g2,g3,g4,_,g5⟩:=i5;refine YR I (by rw[e];exact True.intro) hs ⟨q,hq⟩ ⟨hl,hd,_,(rel.put k eb rd).keeps λc ys ec=>?_,q,es,ep,hq,g2,g3,g4,g5⟩;rw[jk (jib ec e (λz=>nomatch z))];exact ec
end
section
variable {X:Cx}{o e f:Expr}{apos bQ:Pos}{td ty tx:TE}
def jmr (td ty tx:TE):TE:=λσ H Q=>td σ H λx H1=>∃a,x= .ref a/\IsD H1 a/\ty σ H1 λy H2=>tx σ H2 λz H3=>∃b k kvs,y= .ref b/\H3 b=some (.tup (k.map kV))/\H3 a=some (.dT kvs)/\kvs.length<sizeLine /\
 (∀v,yT kvs k=some v->Q v H3)/\(yT kvs k=none->Q z (upd H3 a (.dT (vp kvs k z))))
theorem jct (hu:X.A.units+1<cLine)(ho:PE X o td)(he:PE X e ty)(hf:PE X f tx)(m:M2 X o "setdefault" apos e f bQ):PE X (.Call (.Attribute o "setdefault" apos) [e,f] [] bQ) (jmr td ty tx):=by
 intro bF s σ H Q I h;refine wpAny_Call_method m.base m.few m.line PySem.F.plainAttrs_dict PySem.F.slot_dict_setdefault PySem.F.type_dict_setdefault (thn (ho bF s σ H _ I h) λu s1 bH=>?_);obtain⟨x,H1,I1,rx,a,ex,d,q1⟩:=bH;subst ex;obtain rfl:u=Value.ref a:=rx;obtain⟨t1,t2,_⟩:=jcJ I1 d;refine⟨t1,t2,?_⟩;rw[m.trees];refine Calls.callWith_builtin rfl (Calls.evalArgs_plain (Calls.spliced_cons (thn (he bF s1 σ H1 _ I1 q1) λiv s2 bH=>?_)));obtain⟨y,H2,I2,ry,q2⟩:=bH;refine Calls.spliced_cons (thn (hf bF s2 σ H2 _ I2 q2) λfv s3 bH=>?_);obtain⟨z,H3,I3,rz,b,k,kvs,ey,hb,ha,hl,c1,c2⟩:=bH;subst ey;cases ry;refine Calls.spliced_nil ?_;exact jiV hu I3 ha hb hl rz (λv w' s4 ev I4 ig=>⟨v,H3,I4,ig,c1 v ev⟩) λen s4 I4=>⟨z,_,I4,rz,c2 en⟩
end
open PySem.W
section
variable {prog:Program}{w:World}{A:Around}{E:tE0}{s:Shared}
theorem jlL {d:Addr}{od:Obj}{es:Array DictEntry}{ep:Nat}{Q:tE0}(nd:(d==sysModules)=false)(ho:s.heap.get? d=some od)(hx:od.ExactDict)(hd:od.data= .dict es ep)(hQ:Q (.ref s.heap.objs.size) { s with heap:=s.heap.push { cls:=.type "dict_keyiterator",data:=.fields #[.ref d,.int 0 0,.int es.size 0,.int ep 0] } }):wpAny (model prog w) A (pyIter (.ref d)) Q E s:=by
 have hT:s.TypeIs (.ref d) "dict":=⟨od,ho,hx.1⟩
 refine wpAny_pyIter_slot hT PySem.F.slot_dict_iter (wpAny_call_entry PySem.F.slot_dict_iter hT PySem.F.entry_dict_iter ?_ (PySem.F.args_dict_iter_1 _));unfold Builtin.«dict.__iter__»;refine wpAny_bind ?_;unfold Builtin.Dict.dictSlotNone;refine wpAny_bind (wpAny_notOrdered_dict hT ?_);show wpAny _ _ (pure (Value.ref d)) _ _ s;refine wpAny_pure ?_;show wpAny _ _ (Builtin.Dict.showsAll d >>= _) _ _ s;unfold Builtin.Dict.showsAll;rw[if_neg (by rw[nd];exact Bool.false_ne_true)];refine wpAny_bind (wpAny_pure ?_);refine wpAny_bind (wpAny_dictEntries ho hd ?_);refine wpAny_bind (wpAny_dictEpoch ho hd ?_);refine wpAny_bind (wpAny_newObj_type (wpAny_pure ⟨_,rfl,"dict_keyiterator",_,⟨_,get?_push_size _ rfl,rfl⟩,PySem.F.slot_dict_keyiterator_next.lookup,?_⟩));simpa[rawInt]using hQ
theorem Xv {it d:Addr}{i ep:Nat}{es:Array DictEntry}{od:Obj}{Q:Option Value->Shared->Prop}(hit:s.heap.IsKeyIter it d i es.size ep)(fX:s.heap.get? d=some od)(eB:od.data= .dict es ep)(iG:i<es.size)(hQ:∀h',h'.IsKeyIter it d (i+1) es.size ep->SameBut it s.heap h'->Q (some es[i].key) { s with heap:=h' }):wpAny (model prog w) A (pyNext (.ref it)) Q E s:=by
 obtain⟨o,ho,hc,hd⟩:=id hit;unfold pyNext
 refine wpAny_bind (wpAny_attempt (wpAny_callSpecial?_slot (name:=Str.ofString "__next__") hit.typeIs PySem.F.slot_dict_keyiterator_next
  (wpAny_call_entry PySem.F.slot_dict_keyiterator_next hit.typeIs PySem.F.entry_dict_keyiterator_next ?_ (PySem.F.args_dict_keyiterator_next_1 _))))
 refine wpAny_bind (wpAny_pure ?_);refine wpAny_bind ?_;refine wpAny_bind ?_
 first|refine wpAny_bind (wpAny_typeNameOfWhole_keyiter hit.typeIs (wpAny_pure ?_))|refine wpAny_bind (wpAny_typeNameOf_keyiter hit.typeIs (wpAny_pure ?_))
 refine wpAny_bind (wpAny_fieldsOf ho hd ?_);have cW:Builtin.Dict_items.ownsTuple "dict_keyiterator" = false:=by decide
 simp only[cW,false_eq_true,if_false];show wpAny _ _ (if(Value.ref d==Value.none)=true then _ else _) _ _ s;rw[if_neg (show ¬((Value.ref d==Value.none)=true)from Bool.false_ne_true)];refine wpAny_bind (wpAny_pure ?_);refine wpAny_bind (wpAny_dictEntries fX eB ?_);rw[if_neg (by simp)];refine wpAny_bind (wpAny_pure ?_);refine wpAny_bind (wpAny_dictEpoch fX eB ?_);rw[if_neg (by simp)];refine wpAny_pure ?_;simp only[show ¬((i:Int)<0)from by omega,if_false,Int.toNat_natCast,Array.getElem?_eq_getElem iG];refine wpAny_bind ?_
 first|refine wpAny_bind (wpAny_typeNameOfWhole_keyiter hit.typeIs (wpAny_pure ?_))|refine wpAny_bind (wpAny_typeNameOf_keyiter hit.typeIs (wpAny_pure ?_))
 refine wpAny_bind (wpAny_isOneOf_keyiter hit.typeIs ?_);show wpAny _ _ (setField (.ref it) 1 (rawInt ((i:Int)+1)) >>= _) _ _ s;refine wpAny_bind (wpAny_setField ho hd (by simp) ?_);have ez:(s.heap.update it (Obj.mapFields (·.setIfInBounds 1 (rawInt ((i:Int)+1))))).IsKeyIter it d (i+1) es.size ep:=
  ⟨_,get?_update_self _ ho (Obj.isFreed_of_fields (Obj.data_mapFields hd _)),(Obj.cls_mapFields ..).trans hc,by rw[Obj.data_mapFields hd];simp[rawInt]⟩
 refine wpAny_bind (wpAny_holding ?_);refine wpAny_bind (wpAny_isOneOf_keyiter (s:={ s with heap:=s.heap.update it (Obj.mapFields (·.setIfInBounds 1 (rawInt ((i:Int)+1)))) }) ez.typeIs ?_);show wpAny _ _ (pure es[i].key) _ _ _;exact wpAny_pure (wpAny_pure ⟨_,rfl,wpAny_pure (hQ _ ez (Heap.SameBut.update ..))⟩)
theorem Vw {it d:Addr}{i ep:Nat}{es:Array DictEntry}{od:Obj}{Q:Option Value->Shared->Prop}(hh:A.handled=none)(hit:s.heap.IsKeyIter it d i es.size ep)(fX:s.heap.get? d=some od)(eB:od.data= .dict es ep)(kz:es.size<=i)(hQ:∀h',ExtBut it s.heap h'->Q none { s with heap:=h' }):wpAny (model prog w) A (pyNext (.ref it)) Q E s:=by
 obtain⟨o,ho,hc,hd⟩:=id hit;unfold pyNext
 refine wpAny_bind (wpAny_attempt (wpAny_callSpecial?_slot (name:=Str.ofString "__next__") hit.typeIs PySem.F.slot_dict_keyiterator_next
  (wpAny_call_entry PySem.F.slot_dict_keyiterator_next hit.typeIs PySem.F.entry_dict_keyiterator_next ?_ (PySem.F.args_dict_keyiterator_next_1 _))))
 refine wpAny_bind (wpAny_pure ?_);refine wpAny_bind ?_;refine wpAny_bind ?_
 first|refine wpAny_bind (wpAny_typeNameOfWhole_keyiter hit.typeIs (wpAny_pure ?_))|refine wpAny_bind (wpAny_typeNameOf_keyiter hit.typeIs (wpAny_pure ?_))
 refine wpAny_bind (wpAny_fieldsOf ho hd ?_);have cW:Builtin.Dict_items.ownsTuple "dict_keyiterator" = false:=by decide
 simp only[cW,false_eq_true,if_false];show wpAny _ _ (if(Value.ref d==Value.none)=true then _ else _) _ _ s;rw[if_neg (show ¬((Value.ref d==Value.none)=true)from Bool.false_ne_true)];refine wpAny_bind (wpAny_pure ?_);refine wpAny_bind (wpAny_dictEntries fX eB ?_);rw[if_neg (by simp)];refine wpAny_bind (wpAny_pure ?_);refine wpAny_bind (wpAny_dictEpoch fX eB ?_);rw[if_neg (by simp)];refine wpAny_pure ?_;simp only[show ¬((i:Int)<0)from by omega,if_false,Int.toNat_natCast,Array.getElem?_eq_none kz];refine wpAny_bind ?_
 first|refine wpAny_bind (wpAny_typeNameOfWhole_keyiter hit.typeIs (wpAny_pure ?_))|refine wpAny_bind (wpAny_typeNameOf_keyiter hit.typeIs (wpAny_pure ?_))
 show wpAny _ _ (setField (.ref it) 0 .none >>= _) _ _ s;refine wpAny_bind (wpAny_setField ho hd (by simp) ?_);show wpAny _ _ (newExc (.type "StopIteration") [] >>= _) _ _ _;refine wpAny_bind ?_;simp only[newExc,newTuple];refine wpAny_bind (wpAny_newObj_type ?_ (by size_fits));refine wpAny_bind (m:=firstArgMember _ _) (wpAny_of_eq (a:=Value.none) (by first|rfl|(simp only[firstArgMember];rfl)) ?_);refine wpAny_newObj_type ?_ (by size_fits);simp only[raiseNew];refine wpAny_bind (wpAny_handled ?_);rw[show A.in1.handled=none from hh];refine wpAny_bind (wpAny_pure (wpAny_throw ?_));refine wpAny_bind (wpAny_isInstance (T:="StopIteration") (b:=true) ⟨_,get?_push_size _ rfl,rfl⟩ isSubtype_stop ?_);exact wpAny_pure (hQ _ (((Heap.SameBut.update ..).extBut.push _).push _))
theorem jmf (hh:A.handled=none)(I d:Addr)(cZ:d≠I){od:Obj}{es:Array DictEntry}{ep:Nat}(eB:od.data= .dict es ep) :
  Walks prog w A I [I,d] [I] es.size (λi v=>∃e,es[i]?= some e/\v=e.key) (λi h=>h.IsKeyIter I d i es.size ep/\h.get? d=some od) where
 sub:=λb hb=>by simp at hb;simp[hb]
 frame:=λ_ _ _ st hk=>⟨st.1.at λo e=>hk I (by simp) o e,hk d (by simp) _ st.2⟩
 item:=λi s Q E hi st hQ=>by
  refine Xv st.1 st.2 eB hi λh' ez d7=>?_;exact hQ _ h' s.toks ⟨es[i],Array.getElem?_eq_getElem hi,rfl⟩ ⟨ez,(d7.2 d cZ).trans st.2⟩ λb o hb e=>d7.extBut b o (λh=>hb (by simp[h])) e
 done:=λs Q E st hQ=>Vw hh st.1 st.2 eB (le_refl _) λh' iM=>hQ h' s.toks λb o hb e=>iM b o (λh=>hb (by simp[h])) e
 self:=λ_ _ _ _ st hQ=>wpAny_pyIter_keyiter st.1 hQ
theorem jqZ {d:Addr}{od:Obj}{es:Array DictEntry}{ep:Nat}(nd:(d==sysModules)=false)(hx:od.ExactDict)(eB:od.data= .dict es ep):KdlSrc prog w "dict" d d es.size (λi v=>∃e,es[i]?= some e/\v=e.key) (λh=>h.get? d=some od) where
 type:=λ_ ho=>⟨od,ho,hx.1⟩
 there:=λ_ ho=>⟨lt_size ho,lt_size ho⟩
 keep:=λ_ _ ho hk=>hk d (.inl rfl) _ ho
 notList:=by decide
 notTuple:=by decide
 hint:=λ_ _ _ _ ho hq=>kdl_hint_dict ⟨od,ho,hx.1⟩ hq
 iter:=λ_ _ hh ho=>⟨_,_,(λ_ _ hq=>jlL nd ho hx eB hq),jmf hh _ d (ne_of_lt (lt_size ho)) eB,⟨⟨_,get?_push_size _ rfl,rfl,rfl⟩,get?_push_of_some _ ho⟩⟩
end
theorem jgg {P:Program}{w:World}{H:Hp}{kvs:List (List Key×V)}{xs:List (List Key×Addr×Value)}(r:KT H kvs xs):∃bs:List Addr,bs.length=kvs.length/\(xs.map λx=>Value.ref x.2.1)=bs.map Value.ref/\∀(j:Nat) (kv:List Key×V) (b:Addr),kvs[j]?= some kv->bs[j]?= some b->H b=some (.tup (kv.1.map kV)):=by
 refine⟨xs.map λx=>x.2.1,by rw[length_map];exact(Paired.length r).symm,by rw[map_map];rfl,λj kv b e1 e2=>?_⟩;obtain⟨q,hq,z1,z2,z3⟩:=L2.Paired.at r e1;rw[getElem?_map,hq]at e2;cases e2;exact z2
theorem JI:∀bs:List Addr,yg (bs.map V.ref) (bs.map Value.ref)
 |[]=>.nil
 |_::bs=>.cons rfl (JI bs)
end L2
namespace L3
open PySem L2
section
variable {α κ:Type}[DecidableEq α][DecidableEq κ]
def xf (l:List (α×PV))(k:α):Option PV:=(l.find? λp=>decide (p.1=k)).map (·.2)
def xD (l:List (α×PV))(k:α)(x:PV):List (α×PV):=
 if(l.any λp=>decide (p.1=k))=true then l.map (λp=>if p.1=k then(p.1,x)else p)else l++[(k,x)]
variable {W:Wd}{f:α->κ}
theorem yM.length:∀{l:List (α×PV)}{vs:List (κ×V)},yM W f l vs->vs.length=l.length
 |[],_,e=>by cases e;rfl
 |_::_,_,⟨_,_,e,_,t⟩=>by subst e;rw[length_cons,length_cons,yM.length t]
theorem yM.any (hf:∀a b,f a=f b->a=b)(k:α):∀{l:List (α×PV)}{vs:List (κ×V)},yM W f l vs->(vs.any λp=>decide (p.1=f k))=l.any λp=>decide (p.1=k)
 |[],_,e=>by cases e;rfl
 |p::_,_,⟨_,_,e,_,t⟩=>by
  subst e;rw[any_cons,any_cons,yM.any hf k t];congr 1;exact decide_eq_decide.mpr ⟨hf _ _,λz=>by rw[z]⟩
theorem yM.get (hf:∀a b,f a=f b->a=b)(k:α):∀{l:List (α×PV)}{vs:List (κ×V)},yM W f l vs->(xf l k=none/\yT vs (f k)=none)\/∃x v,xf l k=some x/\yT vs (f k)=some v/\Rep W x v
 |[],_,e=>by cases e;exact .inl ⟨rfl,rfl⟩
 |p::r,_,⟨v,rs,e,rv,t⟩=>by
  subst e;unfold xf;rw[find?_cons]
  by_cases h:p.1=k
  ·rw[decide_eq_true h];exact .inr ⟨p.2,v,rfl,uP (by rw[h]),rv⟩
  ·rw[decide_eq_false h];have hv:yT ((f p.1,v)::rs) (f k)=yT rs (f k):=uQ (λz=>h (hf _ _ z));rw[hv];exact yM.get hf k t
theorem yM.snoc {k:α}{x:PV}{v:V}(rv:Rep W x v):∀{l:List (α×PV)}{vs:List (κ×V)},yM W f l vs->yM W f (l++[(k,x)]) (vs++[(f k,v)])
 |[],_,e=>by cases e;exact⟨v,[],rfl,rv,rfl⟩
 |_::_,_,⟨u,rs,e,r,t⟩=>by subst e;exact⟨u,_,rfl,r,yM.snoc rv t⟩
theorem yM.aG (hf:∀a b,f a=f b->a=b){k:α}{x:PV}{v:V}(rv:Rep W x v):∀{l:List (α×PV)}{vs:List (κ×V)},yM W f l vs->yM W f (l.map λp=>if p.1=k then(p.1,x)else p) (vs.map λp=>if p.1=f k then(p.1,v)else p)
 |[],_,e=>by cases e;exact rfl
 |p::_,_,⟨u,rs,e,r,t⟩=>by
  subst e;rw[map_cons,map_cons]
  by_cases h:p.1=k
  ·rw[if_pos h,if_pos (by rw[h])];exact⟨v,_,rfl,rv,yM.aG hf rv t⟩
  ·rw[if_neg h,if_neg (λz=>h (hf _ _ z))];exact⟨u,_,rfl,r,yM.aG hf rv t⟩
theorem yM.put (hf:∀a b,f a=f b->a=b){k:α}{x:PV}{v:V}{l:List (α×PV)}{vs:List (κ×V)}(r:yM W f l vs)(rv:Rep W x v):yM W f (xD l k x) (vp vs (f k) v):=by
 unfold xD vp;rw[r.any hf k];split
 ·exact r.aG hf rv
 ·exact r.snoc rv
end
theorem yY (a b:List Int)(h:xA a=xA b):a=b:=jkS.mp h
theorem xE (ns:List Int):(xA ns).map kV=ns.map V.int:=jkP ns
def jgs:DE:=λ_ M=>.ok (.ref M.n) (M.new (.dtv []))
def vo (M:Sto)(o:PV)(ks:List PV)(x:PV):Option Sto:=match o with
 |.ref i=>(match M.g i with
  |some (.dtv l)=>(match xZ ks with
   |some ns=>if ns.length<=sizeLine/\l.length<sizeLine then some (M.set i (.dtv (xD l ns x)))else none
   |none=>none)
  |_=>none)
 |_=>none
def Ul (d do_:DE)(dk:DA):DS:=λρ M=>(d ρ M).st ρ λx M1=>(do_ ρ M1).st ρ λo M2=>(dk ρ M2).st ρ λks M3=>match vo M3 o ks x with
 |some M4=>.nx ρ M4
 |none=>.bad
def jkT (neg:Bool)(M:Sto)(ks:List PV)(o:PV):Option PV:=match o with
 |.ref i=>(match M.g i with
  |some (.dtv l)=>(match xZ ks with
   |some ns=>if ns.length<=sizeLine then some (.bl (if neg then !(xf l ns).isSome else(xf l ns).isSome))else none
   |none=>none)
  |_=>none)
 |_=>none
def UR (do_:DE)(dk:DA)(dz:DE):DE:=λρ M=>(do_ ρ M).bind λo M1=>match o with
 |.ref i=>(match M1.g i with
  |some (.dtv _)=>(dk ρ M1).bind λks M2=>(match xZ ks with
   |some ns=>if ns.length<=sizeLine then(dz ρ M2).bind λz M3=>(match M3.g i with
    |some (.dtv l)=>.ok ((xf l ns).getD z) M3
    |_=>.bad)else .bad
   |none=>.bad)
  |_=>.bad)
 |_=>.bad
section
variable {X:Cx}{T:Tb}{ES:St->XK}{e o f:Expr}{es:List Expr}{pos p2 kp:Pos}{x1:Nat}{d do_ dz:DE}{dk:DA}
theorem Us:QE X T ES (.Dict [] [] pos) jgs:=⟨jN jhP λσ H Q bH=>jC bH λW ρ M k hh hs q=>λp hp=>by
 obtain⟨le,h1,h2⟩:=hh.put (l:=p) (o:=.dT []) (c:=.dtv []) hp ⟨[],rfl,rfl⟩
 exact q _ _ _ le h1 ⟨p,rfl,h2⟩⟩
theorem jhn (hu:X.A.units+1<cLine)(he:QE X T ES e d)(ho:QE X T ES o do_)(hk:QA X T ES es dk)(hw:swapsWith e (some (.Subscript o (.Tuple es x1 kp) p2)) pos.line X.env=pure false:=by rfl) :
  QS X T ES (.Assign [.Subscript o (.Tuple es x1 kp) p2] e pos) (Ul d do_ dk):=
 ⟨xi (Ux hu ho.h (Uz hk.h) he.h hw) λD σ H bH=>yL bH λW ρ M k hh hs q=>⟨W,ρ,M,k,hh,hs,yo.bind hs q λW1 M1 x v H1 l1 h1 r1 q1=>by
  have cQ:=hs.up l1;refine⟨W1,ρ,M1,l1.k.trans k,h1,cQ,yo.bind cQ q1 λW2 M2 o' ov H2 l2 h2 r2 q2=>?_⟩;have cY:=cQ.up l2;refine⟨W2,ρ,M2,l2.k.trans (l1.k.trans k),h2,cY,yo.bind cY q2 λW3 M3 ks kv H3 l3 h3 r3 q3=>?_⟩;split at q3
  rotate_left
  ·exact q3.elim
  rename_i M4 e4;unfold vo at e4;split at e4
  rotate_left
  ·cases e4
  rename_i i;split at e4
  rotate_left
  ·cases e4
  rename_i l e5;split at e4
  rotate_left
  ·cases e4
  rename_i ns e6;split at e4
  rotate_left
  ·cases e4
  rename_i hc;cases e4;have ek:=xt e6;subst ek;have ev:kv=ns.map V.int:=yd.ints.mp r3;subst ev;obtain⟨a,rfl,ea⟩:=r2.up l3;obtain⟨b,ob,g1,g2,g3,vs,rfl,ra⟩:=h3.m i _ e5;rw[ea]at g1;cases g1;refine⟨by rw[length_map];exact hc.1,λp hp=>?_⟩;obtain⟨l4,h4,f4⟩:=h3.frz (o:=.tup (ns.map V.int)) hp;have na:a≠p:=jv g3 hp;refine⟨a,_,rfl,jdw.t (k:=xA ns) (kvs:=vs) (by rw[jk na];exact g3) (by rw[jr,xE]) (by rw[ra.length];exact hc.2),?_⟩;exact q3 _ σ _ l4 (h4.upd e5 (l4.a _ _ ea) (c':=.dtv (xD l ns x)) (o:=.dT (vp vs (xA ns) v)) ⟨_,rfl,(ra.ah l4.toLe0).put yY (((r1.up l2).up l3).up l4)⟩) ((cY.up l3).up l4)⟩⟩
theorem jhv {apos bQ:Pos}(hu:X.A.units+1<cLine)(ho:QE X T ES o do_)(hk:QA X T ES es dk)(hz:QE X T ES f dz)(m:M2 X o "get" apos (.Tuple es x1 kp) f bQ):QE X T ES (.Call (.Attribute o "get" apos) [.Tuple es x1 kp,f] [] bQ) (UR do_ dk dz):=
 ⟨jN (jhQ hu ho.h (Uz hk.h) hz.h m) λσ H Q bH=>jC bH λW ρ M k hh hs q=>⟨W,ρ,M,k,hh,hs,yh.bind q λW1 M1 x v H1 l1 h1 r1 q1=>by
  split at q1
  rotate_left
  ·exact q1.elim
  rename_i i;split at q1
  rotate_left
  ·exact q1.elim
  rename_i l0 e0;obtain⟨a,rfl,ea⟩:=r1;obtain⟨b,ob,g1,g2,g3,vs0,rfl,ra0⟩:=h1.m i _ e0;rw[ea]at g1;cases g1;refine⟨a,rfl,.inr ⟨vs0,.inl g3⟩,W1,ρ,M1,l1.k.trans k,h1,hs.up l1,yh.bind q1 λW2 M2 ks kv H2 l2 h2 r2 q2=>?_⟩;split at q2
  rotate_left
  ·exact q2.elim
  rename_i ns e6;split at q2
  rotate_left
  ·exact q2.elim
  rename_i hzz;have ek:=xt e6;subst ek;have ev:kv=ns.map V.int:=yd.ints.mp r2;subst ev;refine⟨by rw[length_map];exact hzz,λp hp=>?_⟩;obtain⟨l4,h4,f4⟩:=h2.frz (o:=.tup (ns.map V.int)) hp;refine⟨_,ρ,M2,l4.k.trans (l2.k.trans (l1.k.trans k)),h4,((hs.up l1).up l2).up l4,yh.bind (q2.up l4) λW3 M3 z zv H3 l3 h3 r3 q3=>?_⟩;split at q3
  rotate_left
  ·exact q3.elim
  rename_i l e5;have ly:W3.α i=some a:=l3.a _ _ (l4.a _ _ (l2.a _ _ ea));obtain⟨b,ob,g1,g2',kF,vs,rfl,ra⟩:=h3.m i _ e5;rw[ly]at g1;cases g1;refine⟨_,jdx.t (k:=xA ns) kF (by rw[xE];exact h3.f _ _ (l3.f _ _ f4)),?_⟩;rcases ra.get yY ns with⟨a1,a2⟩|⟨x,v',a1,a2,rv⟩
  ·rw[a2];rw[a1]at q3;exact q3 W3 H3 _ (.refl W3) h3 r3
  ·rw[a2];rw[a1]at q3;exact q3 W3 H3 _ (.refl W3) h3 rv⟩⟩
theorem jdm {M:Sto}{H:Hp}:∀(l:List (List Int×PV)) (bs:List Addr) {W:Wd},Held W M H->bs.length=l.length->(∀(j:Nat) (p:List Int×PV) (b:Addr),l[j]?= some p->bs[j]?= some b->H b=some (.tup (p.1.map V.int)))->
  ∃W',W.le W'/\Held W' M H/\yd W' (l.map λp=>PV.tup (p.1.map PV.int)) (bs.map V.ref)
 |[],bs,W,h,hl,_=>by
  cases bs with
  |nil=>exact⟨W,.refl W,h,rfl⟩
  |cons _ _=>cases hl
 |p::l,bs,W,h,hl,hb=>by
  cases bs with
  |nil=>cases hl
  |cons b bs=>
   obtain⟨W1,l1,h1,f1⟩:=h.adopt (hb 0 p b rfl rfl);obtain⟨W2,l2,h2,r2⟩:=jdm l bs h1 (Nat.succ.inj hl) λj p' b' e1 e2=>hb (j+1) p' b' e1 e2;exact⟨W2,l1.trans l2,h2,.ref b,bs.map V.ref,rfl,⟨b,p.1.map V.int,rfl,.inl (l2.f _ _ f1),yd.ints.mpr rfl⟩,r2⟩
end
end L3
namespace L2
open PySem PySem.Spec PyProof.Rows PySem.W
def Itk (a:Addr)(o:Obj)(kvs:List (List Key×V)):It:=
 ⟨λi H=>H a=some (.frz o (.dT kvs))/\i<kvs.length,λi H x H'=>∃b kv,x= .ref b/\kvs[i]?= some kv/\H b=some (.tup (kv.1.map kV))/\H'=H,λi H=>H a=some (.frz o (.dT kvs))/\kvs.length<=i⟩
theorem jfC {P:Program}{w:World}{K:Frag}{tg:Expr}{a it:Addr}{o:Obj}{es:Array DictEntry}{ep:Nat}{kvs:List (List Key×V)}(hd:o.data= .dict es ep)(hz:es.size=kvs.length) :
  Turn P w K tg (Itk a o kvs) [it] it (λi h=>h.IsKeyIter it a i es.size ep) where
 mem:=by simp
 obj:=λi h st c hc=>by
  obtain⟨oi,h1,h2,h3⟩:=st
  have hc:c=it:=by simpa using hc
  subst hc;exact⟨_,h1,λv e=>by rw[h3]at e;cases e⟩
 keep:=λi h h' st k=>by
  obtain⟨oi,h1,h2,h3⟩:=st;exact⟨oi,k it (by simp) _ h1,h2,h3⟩
 item:=by
  intro X hP hw hK hc i bF s σ H E I hf st hg;subst hP hw hK;obtain⟨ha,lt⟩:=hg
  obtain⟨ho,_,_,xs,rel,o',dE,kI,dj,hX,fH,eX,nd⟩:=(show yl X.prog X.w H s.heap a (.frz o (.dT kvs))from I.hok a _ ha)
  rw[ho]at dj;cases dj;rw[hd]at fH;cases fH;have kg:i<es.size:=by rw[hz];exact lt
  obtain⟨f0,f1,f2,f3,f4,f5⟩:=hf it (by simp);refine Xv st ho hd kg λh' out same=>?_;have e1:es[i]?= (xs[i]?).map (entryOfKey (tupleKind (ye X.prog X.w))):=entry_at eX i
  obtain⟨kv,eK⟩:∃kv,kvs[i]?= some kv:=⟨_,getElem?_eq_getElem lt⟩
  obtain⟨q,hq,z1,z2,z3⟩:=L2.Paired.at rel eK
  have e2:es[i]=entryOfKey (tupleKind (ye X.prog X.w)) q:=by
   rw[hq,Array.getElem?_eq_getElem kg]at e1;exact Option.some.inj e1
  have kk:es[i].key= .ref q.2.1:=by rw[e2];rfl
  obtain⟨oi,h1,h2,h3⟩:=id out;refine⟨_,rfl,jbg (s:={ s with heap:=h' }) h1 h2 h3 (by decide) ⟨.ref q.2.1,H,I.turned (t':=s.toks) (λb ob hb e=>same.extBut b ob hb e) f0 f1 f3 f4 f5,by rw[kk];rfl,⟨q.2.1,kv,rfl,eK,z2,rfl⟩,out,λc hc=>?_⟩⟩
  have hc:c=it:=by simpa using hc
  rw[hc];exact f0
 done:=by
  intro X hP hw hK hc i bF s σ H E I hf st hg;subst hP hw hK;obtain⟨ha,ge⟩:=hg
  obtain⟨ho,_⟩:=(show yl X.prog X.w H s.heap a (.frz o (.dT kvs))from I.hok a _ ha)
  obtain⟨f0,f1,f2,f3,f4,f5⟩:=hf it (by simp)
  exact Vw (I.ok.hd hc) st ho hd (by rw[hz];exact ge) λh' eb=>⟨rfl,I.turned (t':=s.toks) (λb o hb q=>eb b o hb q) f0 f1 f3 f4 f5⟩
 self:=λA i s Q E st h=>wpAny_pyIter_keyiter st h
section
variable {X:Cx}{bF:tP0}{σ:St}{H:Hp}{s:Shared}{a:Addr}{o:Obj}{kvs:List (List Key×V)}
theorem Inv.bp (I:Inv X bF σ H s)(e:H a=some (.frz o (.dT kvs)))(nf:∀o u,X.H₀ a≠some (.frz o u)):Inv X bF σ (upd H a (.dT kvs)) s:=by
 have nn:∀b,H b=none->b≠a:=λb q z=>by rw[z,e]at q;cases q
 have nt:∀b xs,H b=some (.tup xs)->b≠a:=λb xs q z=>by rw[z,e]at q;cases q
 have no:∀b c,H b=some (.own c)->b≠a:=λb c q z=>by rw[z,e]at q;cases q
 refine⟨I.ok,I.os,I.bare,⟨I.base.keep,I.base.slot,λb ob q n hx=>?_,I.base.there,λb xs q=>?_,λb ob u q=>?_,λb ps q=>?_⟩,I.loc,I.cell,?_,λx c q=>?_,λp hp=>?_,λb u q=>?_,I.len⟩
 ·have:=I.base.free b ob q n hx
  rw[jk (nn b this)];exact this
 ·have:=I.base.tups b xs q
  rw[jk (nt b xs this)];exact this
 ·rw[jk (λz:b=a=>nf ob u (by rw[<-z];exact q))];exact I.base.frzs b ob u q
 ·obtain⟨more,h⟩:=I.base.tbls b ps q;exact⟨more,by rw[jk (λz=>by rw[z,e]at h;cases h)];exact h⟩
 ·rw[jk (nn _ I.free)];exact I.free
 ·rw[jk (nn _ (I.freeC x c q))];exact I.freeC x c q
 ·obtain⟨h1,h2,h3⟩:=I.pin p hp;exact⟨h1,by rw[jk (nn _ h2)];exact h2,h3⟩
 ·have st:∀{b u},yl X.prog X.w H s.heap b u->yl X.prog X.w (upd H a (.dT kvs)) s.heap b u:=λ{b u} ob=>ob.az (λc v _ r=>r) (λc r=>by rw[jk (no c _ r)];exact r) λc xs r=>by rw[jk (nt c xs r)];exact r
  by_cases z:b=a
  ·subst z;rw[jr]at q;cases q
   obtain⟨_,ob⟩:=(show yl X.prog X.w H s.heap b (.frz o (.dT kvs))from I.hok b _ e)
   exact st ob
  ·rw[jk z]at q;exact st (I.hok b u q)
end
section
variable {X:Cx}{tg l e:Expr}{te:TE}
def jlO (X:Cx)(te:TE):TI:=λσ H R=>te σ H λx H1=>∃a kvs,x= .ref a/\H1 a=some (.dT kvs)/\∀o,(∀o u,X.H₀ a≠some (.frz o u))->R (Itk a o kvs) (upd H1 a (.frz o (.dT kvs)))
theorem jky (he:PE X l te):PI X tg l (jlO X te):=by
 intro bF s σ H R I h;refine thn (he bF s σ H _ I h) λv s1 bH=>?_;obtain⟨x,H1,I1,rx,a,kvs,rfl,ha,q⟩:=bH;obtain rfl:v=Value.ref a:=rx;have nf:∀o u,X.H₀ a≠some (.frz o u):=λo u z=>by
  have:=I1.base.frzs a o u z
  rw[ha]at this;cases this
 obtain⟨o,I2⟩:=I1.aM ha
 obtain⟨ho,hl,hd,xs,rel,o',es,ep,dj,hx,dW,eX,nd⟩:=(show yl X.prog X.w _ s1.heap a (.frz o (.dT kvs))from I2.hok a _ jr)
 rw[ho]at dj;cases dj;have hz:es.size=kvs.length:=by rw[size_of_entries eX];exact(Paired.length rel).symm
 refine jlL hd ho hx dW ?_;refine⟨_,[_],_,_,upd H1 a (.frz o (.dT kvs)),rfl,I2.kept (t':=s1.toks) (λb ob e=>get?_push_of_some _ e),jfC dW hz,⟨_,get?_push_size _ rfl,rfl,rfl⟩,λc hc=>?_,q o nf⟩;have hc:c=s1.heap.objs.size:=by simpa using hc
 have le:s1.heap.objs.size<=c:=by rw[hc];exact le_refl _
 exact I2.au le (I2.hok.fresh le)
def jpy (X:Cx)(te:TE):TE:=λσ H Q=>te σ H λx H1=>∃a o kvs,(∀o u,X.H₀ a≠some (.frz o u))/\H1 a=some (.frz o (.dT kvs))/\Q x (upd H1 a (.dT kvs))
end
end L2
namespace L3
open PySem L2
def jey (l:List (List Int×PV)):List PV:=l.map λp=>PV.tup (p.1.map PV.int)
theorem jcG {W:Wd}:∀{l:List (List Int×PV)}{vs:List (List Key×V)},yM W xA l vs->∀(j:Nat) (p:List Int×PV),l[j]?= some p->∃kv,vs[j]?= some kv/\kv.1=xA p.1
 |[],_,_,_,_,e=>by cases e
 |_::_,_,⟨_,_,e,_,_⟩,0,p,q=>by subst e;cases q;exact⟨_,rfl,rfl⟩
 |_::_,_,⟨_,_,e,_,t⟩,j+1,p,q=>by subst e;exact jcG t j p q
theorem YG.length {W:Wd}:∀{l:List (NK×PV)}{xs:List (NK×Addr×Value)},YG W l xs->xs.length=l.length
 |[],_,e=>by cases e;rfl
 |_::_,_,⟨_,_,_,_,e,_,_,_,t⟩=>by subst e;rw[length_cons,length_cons,YG.length t]
theorem YG.get {W:Wd}(k:NK):∀{l:List (NK×PV)}{xs:List (NK×Addr×Value)},YG W l xs->(xf l k=none/\atKey xs k=none)\/∃x b u v,xf l k=some x/\atKey xs k=some (b,u)/\Rep W x v/\RelV v u
 |[],_,e=>by cases e;exact .inl ⟨rfl,rfl⟩
 |p::r,_,⟨b,u,rs,v,e,_,rv,ru,t⟩=>by
  subst e;unfold xf atKey;rw[find?_cons,find?_cons]
  by_cases h:p.1=k
  ·rw[decide_eq_true h];exact .inr ⟨p.2,b,u,v,rfl,rfl,rv,ru⟩
  ·rw[decide_eq_false h];exact YG.get k t
end L3
namespace Srt
open PySem PySem.W PyProof.Rows
section
variable {prog:Program}{w:World}{A:Around}{E:tE0}{s:Shared}
theorem YB {T:String}{r d:Addr}{n:Nat}{P:Nat->Value->Prop}{OK:Heap->Prop}{Q:List Value->Shared->Prop}(K:KdlSrc prog w T r d n P OK)(hh:A.handled=none)(hok:OK s.heap)(hn:n<=sizeLine)(hQ:∀h' tk (vs:List Value),(∀b o,s.heap.get? b=some o->h'.get? b=some o)->s.heap.objs.size<=h'.objs.size->vs.length=n->(∀j v,vs[j]?= some v->P j v)->Q vs { s with heap:=h',toks:=tk }):wpAny (model prog w) A (collect (.ref r)) Q E s:=by
 have cz:=K.there _ hok;unfold collect;refine wpAny_bind (wpAny_runValue (codeAny_builtin PySem.F.entry_proto_collect ?_));rw[Around.under_plainId PySem.F.plain_proto_collect _];show wpAny _ A.in1 (newList [] >>= λl=>again (.builtin "list.__iadd__" ⟨[l,.ref r],[]⟩)) _ _ s;refine wpAny_bind (wpAny_newObj_type (wpAny_pure ⟨plainId_quiet PySem.F.plain_list_iadd _,codeAny_builtin PySem.F.entry_list_iadd ?_⟩));rw[Around.under_plainId PySem.F.plain_list_iadd _];have hS:(s.heap.push eL0).get? s.heap.objs.size=some { cls:=.type "list",data:=.seq #[] }:=get?_push_size _ rfl;show wpAny _ A.in1 (Builtin.List.listExtendWith (.ref s.heap.objs.size) (.ref r) (.ref s.heap.objs.size)) _ _ _;refine kdl_extend (A:=A) (R:=λr s'=>match r with
  |.ok (.ret v)=>wpAny (model prog w) A (match v with
   |.ref a=>(do
    let o <-load a
    match o.data with
    |.seq xs _=>pure xs.toList
    |_=>unsupported "internal:collect")
   |_=>unsupported "internal:collect") Q E s'
  |.ok _=>False
  |.error e=>E e s') (s:={ s with heap:=s.heap.push eL0 }) K hh (K.keep _ _ hok λb _ o e=>get?_push_of_some _ e) s.heap.objs.size (ne_of_gt cz.1) (ne_of_gt cz.2) _ _ hS (λh' tk acc' c' hk lq bX=>?_) hn
 show wpAny _ A (load s.heap.objs.size >>= _) _ _ _;refine wpAny_bind (wpAny_load lq (wpAny_pure (hQ h' tk acc'.toList (λb o e=>hk b o (ne_of_lt (lt_size e)) (get?_push_of_some _ e)) (le_of_lt (lt_size lq)) (by rw[length_toList];exact bX.1) λj v e=>bX.2 j v (by rw[<-getElem?_toList];exact e))))
theorem sorted_src {T:String}{r d:Addr}{n:Nat}{P:Nat->Value->Prop}{OK:Heap->Prop}{ns:List Int}{Q:tE0}(K:KdlSrc prog w T r d n P OK)(hh:A.handled=none)(hok:OK s.heap)(hE:n<64)(hi:∀vs:List Value,vs.length=n->(∀j v,vs[j]?= some v->P j v)->IntsAre vs ns)(h:∀h' tk a e (out:Array Value) (gS:List Int),(∀b o,s.heap.get? b=some o->h'.get? b=some o)->s.heap.objs.size<=a->h'.get? a=some (seqObj "list" out e)->IntsAre out.toList gS->gS.Perm ns->gS.Pairwise (·<=·)->Q (.ref a) { s with heap:=h',toks:=tk }):wpAny (model prog w) A (call (.builtin "sorted") [.ref r]) Q E s:=by
 refine Calls.call_function_entry kind_sorted plain_sorted entry_sorted (args_sorted1 _) ?_;unfold Builtin.«sorted»;refine wpAny_bind (m:=checkCount "sorted" 1 1 _) (wpAny_pure (wpAny_bind (YB K hh hok (by rw[sizeLine_eq];omega) λh1 tk vs k1 z1 hl hp=>?_)));have hI:=hi vs hl hp;refine wpAny_bind (wpAny_newList ?_ (by show vs.length<=_;rw[sizeLine_eq];omega));show wpAny _ _ _ _ _ { s with heap:=h1.push (seqObj "list" vs.toArray 0),toks:=tk };have g2:(h1.push (seqObj "list" vs.toArray 0)).get? h1.objs.size=some (seqObj "list" vs.toArray 0):=get?_push_size _ rfl;refine wpAny_bind (wpAny_holding (wpAny_call_entry slot_list_sort ⟨_,g2,rfl⟩ entry_list_sort (list_sort_tree (s:={ s with heap:=h1.push (seqObj "list" vs.toArray 0),toks:=tk }) g2 hI (by omega) λout gS a1 a2 a3=>⟨_,rfl,?_⟩) (args_list_sort _)));refine wpAny_pure ⟨_,rfl,?_⟩;unfold sortedHeap
 obtain⟨e1,g3⟩:∃e,((h1.push (seqObj "list" vs.toArray 0)).update h1.objs.size (Obj.mapSeq λ_=>#[])).get? h1.objs.size=some (seqObj "list" #[] e):=⟨_,get?_update_seq g2 λ_=>#[]⟩
 have g4:((((h1.push (seqObj "list" vs.toArray 0)).update h1.objs.size (Obj.mapSeq λ_=>#[])).push (seqObj "tuple" vs.toArray 0)).push (seqObj "list" #[] 0)).get? h1.objs.size=some (seqObj "list" #[] e1):=get?_push_of_some _ (get?_push_of_some _ g3);refine h _ tk h1.objs.size _ out gS (λb o q=>?_) z1 (get?_update_seq g4 λ_=>out) a1 a2 a3;have hb:b<h1.objs.size:=lt_size (k1 b o q);rw[get?_update_ne _ _ _ _ (ne_of_lt hb)];refine get?_push_of_some _ (get?_push_of_some _ ?_);rw[get?_update_ne _ _ _ _ (ne_of_lt hb)];exact get?_push_of_some _ (k1 b o q)
end
end Srt
namespace Sml
open PySem
theorem UL (xs:Array Nat)(j:Nat)(pw:xs.toList.Pairwise (· < ·)):∀(cj lo hi:Nat),hi-lo<=cj->hi<=xs.size->lo<=hi->(∀i,i<lo->xs.getD i j<j)->(∀i,hi<=i->i<xs.size->j<=xs.getD i j)->
  (∀i,i<SetTable.below.go xs j cj lo hi->xs.getD i j<j)/\(∀i,SetTable.below.go xs j cj lo hi<=i->i<xs.size->j<=xs.getD i j)/\SetTable.below.go xs j cj lo hi<=xs.size
 |0,lo,hi,hf,hs,hl,h1,h2=>by
  have:lo=hi:=by omega
  subst this;unfold SetTable.below.go;exact⟨h1,h2,hs⟩
 |cj+1,lo,hi,hf,hs,hl,h1,h2=>by
  have gQ:∀a b,a<b->b<xs.size->xs.getD a j<xs.getD b j:=λa b fA hb=>by
   have:=List.pairwise_iff_getElem.mp pw a b (by rw[length_toList];omega) (by rw[length_toList];exact hb) fA
   rw[getElem_toList,getElem_toList]at this;rw[getD_eq_getD_getElem?,getD_eq_getD_getElem?,Array.getElem?_eq_getElem (by omega),Array.getElem?_eq_getElem hb];exact this
  unfold SetTable.below.go
  by_cases cz:lo<hi
  ·rw[if_pos cz];dsimp only
   by_cases hm:xs.getD ((lo+hi)/2) j<j
   ·rw[if_pos hm];refine UL xs j pw cj _ hi (by omega) hs (by omega) (λi fh=>?_) h2
    by_cases he:i=(lo+hi)/2
    ·rw[he];exact hm
    ·exact lt_trans (gQ i ((lo+hi)/2) (by omega) (by omega)) hm
   ·rw[if_neg hm];refine UL xs j pw cj lo _ (by omega) (by omega) (by omega) h1 λi fh d7=>?_
    by_cases he:i=(lo+hi)/2
    ·rw[he];omega
    ·exact le_of_lt (lt_of_le_of_lt (by omega) (gQ ((lo+hi)/2) i (by omega) d7))
  ·rw[if_neg cz]
   have:lo=hi:=by omega
   subst this;exact⟨h1,h2,hs⟩
theorem below_spec {p:List Nat}(pw:p.Pairwise (· < ·))(j:Nat):SetTable.below p.toArray j<=p.length/\(∀x∈p.take (SetTable.below p.toArray j),x<j)/\(∀x∈p.drop (SetTable.below p.toArray j),j<=x):=by
 obtain⟨h1,h2,h3⟩:=UL p.toArray j pw p.toArray.size 0 p.toArray.size (by omega) (le_refl _) (zero_le _) (λi hi=>absurd hi (not_lt_zero _)) (λi a b=>by omega);have hs:p.toArray.size=p.length:=size_toArray;unfold SetTable.below;generalize SetTable.below.go p.toArray j p.toArray.size 0 p.toArray.size=b at h1 h2 h3 ⊢;refine⟨by omega,λx hx=>?_,λx hx=>?_⟩
 ·obtain⟨i,hi,e⟩:=getElem_of_mem hx;rw[length_take]at hi;rw[getElem_take]at e
  have:=h1 i (by omega)
  rw[getD_eq_getD_getElem?,getElem?_toArray,getElem?_eq_getElem (by omega)]at this;rw[<-e];exact this
 ·obtain⟨i,hi,e⟩:=getElem_of_mem hx;rw[length_drop]at hi;rw[List.getElem_drop]at e
  have:=h2 (b+i) (by omega) (by omega)
  rw[getD_eq_getD_getElem?,getElem?_toArray,getElem?_eq_getElem (by omega)]at this;rw[<-e];exact this
theorem ins_rise {p:List Nat}(pw:p.Pairwise (· < ·)){j:Nat}(hj:j∉p):(p.take (SetTable.below p.toArray j)++j::p.drop (SetTable.below p.toArray j)).Pairwise (· < ·):=by
 obtain⟨_,h1,h2⟩:=below_spec pw j;generalize SetTable.below p.toArray j=b at h1 h2;have e:p.take b++p.drop b=p:=take_append_drop b p;have kR:=pw;rw[<-e]at kR;obtain⟨q1,q2,q3⟩:=List.pairwise_append.mp kR;refine List.pairwise_append.mpr ⟨q1,List.pairwise_cons.mpr ⟨λx hx=>?_,q2⟩,λa ha x hx=>?_⟩
 ·have:=h2 x hx
  have:x≠j:=λz=>hj (z ▸ List.mem_of_mem_drop hx)
  omega
 ·rcases List.mem_cons.mp hx with rfl|hx
  ·exact h1 a ha
  ·exact q3 a ha x hx
theorem put_eq {t:SetTable}{p:List Nat}(hp:t.place=p.toArray)(hd:t.dummies= #[])(j:Nat):t.put j=({ t with place:=(p.take (SetTable.below p.toArray j)++j::p.drop (SetTable.below p.toArray j)).toArray,dummies:=#[] },SetTable.below p.toArray j):=by
 unfold SetTable.put;have hh:SetTable.has t.dummies j=false:=by rw[hd];rfl
 rw[hh,hp];dsimp only
 have:SetTable.insertAt p.toArray (SetTable.below p.toArray j) j=(p.take (SetTable.below p.toArray j)++j::p.drop (SetTable.below p.toArray j)).toArray:=by
  apply Array.toList_inj.mp;rw[SetTable.toList_insertAt]
 rw[this,hd];rfl
theorem fits_of {t:SetTable}{p:List Nat}(hp:t.place=p.toArray)(hd:t.dummies= #[]){n:Nat}(h1:p.length=n)(h2:p.length<=t.mask):t.fits n=true:=by
 unfold SetTable.fits SetTable.fill;rw[hp,hd];simp[h1];omega
theorem fm_congr {α β:Type}{f g:α->Option β}:∀{l:List α},(∀x∈l,f x=g x)->l.filterMap f=l.filterMap g
 |[],_=>rfl
 |a::l,h=>by
  rw[filterMap_cons,filterMap_cons,h a mem_cons_self,fm_congr λx hx=>h x (mem_cons_of_mem _ hx)]
theorem sublen {α:Type}[DecidableEq α]:∀(l m:List α),l.Nodup->(∀x∈l,x∈m)->l.length<=m.length
 |[],_,_,_=>zero_le _
 |a::l,m,hn,h=>by
  obtain⟨h1,h2⟩:=List.nodup_cons.mp hn;have ha:=h a mem_cons_self
  have:=sublen l (m.erase a) h2 λx hx=>(List.mem_erase_of_ne (λz:x=a=>h1 (by rw[<-z];exact hx))).mpr (h x (mem_cons_of_mem _ hx))
  rw[List.length_erase_of_mem ha]at this
  have:m.length≠0:=λz=>by rw[eq_nil_of_length_eq_zero z]at ha;cases ha
  rw[length_cons];omega
end Sml
namespace Prb
open PySem
def nx (m:Nat)(p:SetTable.Probe):SetTable.Probe:=
 if p.more > 0 then{ p with j:=p.j+1,more:=p.more-1 }else
 { p with j:=(SetTable.leap m p.i p.perturb).1,more:=SetTable.runEnd m (SetTable.leap m p.i p.perturb).1-(SetTable.leap m p.i p.perturb).1,i:=(SetTable.leap m p.i p.perturb).1,perturb:=(SetTable.leap m p.i p.perturb).2 }
def lst (m i q:Nat):SetTable.Probe:={ j:=i,more:=SetTable.runEnd m i-i,i:=i,perturb:=q,dummy:=none }
def st (m:Nat)(h:Int):Nat->SetTable.Probe
 |0=>lst m (SetTable.bits h%(m+1)) (SetTable.bits h)
 |k+1=>nx m (st m h k)
def pos (m:Nat)(h:Int)(k:Nat):Nat:=(st m h k).j
theorem jar (t:SetTable)(h:Int):t.probeStart h=st t.mask h 0:=rfl
def lv (m:Nat)(h:Int):Nat->Nat×Nat
 |0=>(SetTable.bits h%(m+1),SetTable.bits h)
 |n+1=>SetTable.leap m (lv m h n).1 (lv m h n).2
def ks (m:Nat)(h:Int):Nat->Nat
 |0=>0
 |n+1=>ks m h n+(SetTable.runEnd m (lv m h n).1-(lv m h n).1)+1
section
variable {m:Nat}{h:Int}
theorem jmV (m i:Nat):SetTable.runEnd m i-i<=9:=by
 unfold SetTable.runEnd;split <;> omega
theorem jci {k i q:Nat}(e:st m h k=lst m i q):∀r,r<=SetTable.runEnd m i-i->st m h (k+r)={ j:=i+r,more:=SetTable.runEnd m i-i-r,i:=i,perturb:=q,dummy:=none }
 |0,_=>e
 |r+1,hr=>by
  have ih:=jci e r (by omega);show nx m (st m h (k+r))=_;rw[ih];unfold nx;rw[if_pos (by show SetTable.runEnd m i-i-r > 0;omega)];show SetTable.Probe.mk _ _ _ _ _=_;congr 1
theorem lev (m:Nat)(h:Int):∀n,st m h (ks m h n)=lst m (lv m h n).1 (lv m h n).2
 |0=>rfl
 |n+1=>by
  have ih:=jci (lev m h n) _ (le_refl _);show nx m (st m h (ks m h n+(SetTable.runEnd m (lv m h n).1-(lv m h n).1)))=_;rw[ih];unfold nx;rw[if_neg (by show ¬(_-_ > 0);omega)];rfl
theorem um (m:Nat)(h:Int)(n r:Nat)(hr:r<=SetTable.runEnd m (lv m h n).1-(lv m h n).1):pos m h (ks m h n+r)=(lv m h n).1+r:=by
 unfold pos;rw[jci (lev m h n) r hr]
theorem dum (m:Nat)(h:Int):∀k,(st m h k).dummy=none
 |0=>rfl
 |k+1=>by
  show(nx m (st m h k)).dummy=none;unfold nx;split
  ·exact dum m h k
  ·exact dum m h k
theorem jim (m:Nat)(h:Int):∀n,ks m h n<=10*n
 |0=>le_refl _
 |n+1=>by
  have:=jim m h n
  have:=jmV m (lv m h n).1
  show ks m h n+_+1<=_;omega
theorem jlr (h:Int):SetTable.bits h<2 ^ 64:=by
 unfold SetTable.bits;have h1:=Int.emod_nonneg h (show(2 ^ 64:Int)≠0 by decide);have h2:=Int.emod_lt_of_pos h (show(0:Int)<2 ^ 64 by decide);omega
theorem jeu (m:Nat)(h:Int):∀n,(lv m h n).2=SetTable.bits h/32 ^ n
 |0=>by rw[Nat.pow_zero,Nat.div_one];rfl
 |n+1=>by
  show(lv m h n).2/32=_;rw[jeu m h n,Nat.div_div_eq_div_mul,<-Nat.pow_succ]
theorem jpM (m:Nat)(h:Int)(r:Nat):(lv m h (13+r)).2=0:=by
 rw[jeu];refine Nat.div_eq_of_lt (lt_of_lt_of_le (jlr h) ?_)
 calc 2 ^ 64<=32 ^ 13:=by decide
  _<=32 ^ (13+r):=Nat.pow_le_pow_right (by decide) (by omega)
def it (m:Nat):Nat->Nat->Nat
 |0,i=>i
 |r+1,i=>(it m r i*5+1)%(m+1)
theorem jlM (m:Nat)(h:Int):∀r,(lv m h (13+r)).1=it m r (lv m h 13).1
 |0=>rfl
 |r+1=>by
  show((lv m h (13+r)).1*5+1+(lv m h (13+r)).2/32)%(m+1)=_;rw[jpM,jlM m h r];rfl
theorem UF (m:Nat)(i a:Nat):∀b,it m b (it m a i)=it m (b+a) i
 |0=>by rw[zero_add];rfl
 |b+1=>by
  rw[show b+1+a=b+a+1 by omega];show(it m b (it m a i)*5+1)%(m+1)=_;rw[UF m i a b];rfl
def orb (m:Nat):Nat->Nat->List Nat
 |0,_=>[]
 |n+1,i=>i::orb m n ((i*5+1)%(m+1))
theorem jiq (m i:Nat):∀r,it m r ((i*5+1)%(m+1))=it m (r+1) i
 |0=>rfl
 |r+1=>by
  show(it m r ((i*5+1)%(m+1))*5+1)%(m+1)=_;rw[jiq m i r];rfl
theorem jhV (m:Nat):∀(n i x:Nat),x∈orb m n i->∃r,r<n/\it m r i=x
 |0,_,_,hx=>by cases hx
 |n+1,i,x,hx=>by
  rcases List.mem_cons.mp hx with rfl|hx
  ·exact⟨0,succ_pos _,rfl⟩
  ·obtain⟨r,hr,e⟩:=jhV m n _ x hx;exact⟨r+1,by omega,by rw[<-e,jiq]⟩
def Mk (m:Nat):Prop:=m=7\/m=31\/m=127
def jiF (m:Nat):Bool:=(List.range (m+1)).all (λj=>(orb m (m+1) 0).contains j) && decide (it m (m+1) 0=0)
theorem jqt:jiF 7=true:=by decide +kernel
theorem joL:jiF 31=true:=by decide +kernel
theorem jlb:jiF 127=true:=by decide +kernel
theorem hit {m:Nat}(hm:Mk m){i j:Nat}(hi:i<=m)(hj:j<=m):∃r,r<=m/\it m r i=j:=by
 have hf:jiF m=true:=by
  rcases hm with rfl|rfl|rfl
  ·exact jqt
  ·exact joL
  ·exact jlb
 unfold jiF at hf;rw[and_eq_true,decide_eq_true_eq]at hf;have key:∀x,x<=m->∃r,r<m+1/\it m r 0=x:=λx hx=>by
  have:=List.all_eq_true.mp hf.1 x (List.mem_range.mpr (by omega))
  exact jhV m (m+1) 0 x (List.contains_iff_mem.mp this)
 obtain⟨a,ha,ea⟩:=key i hi;obtain⟨b,hb,eb⟩:=key j hj
 by_cases fA:a<=b
 ·refine⟨b-a,by omega,?_⟩;rw[<-ea,UF,show b-a+a=b by omega,eb]
 ·refine⟨m+1+b-a,by omega,?_⟩;rw[<-ea,UF,show m+1+b-a+a=b+(m+1) by omega,<-UF,hf.2,eb]
theorem jlI (m:Nat)(h:Int):∀n,(lv m h n).1<=m
 |0=>Nat.le_of_lt_succ (mod_lt _ (succ_pos _))
 |n+1=>Nat.le_of_lt_succ (mod_lt _ (succ_pos _))
theorem jqA (hm:Mk m)(h:Int){j:Nat}(hj:j<=m):∃n,n<=13+m/\pos m h (ks m h n)=j:=by
 obtain⟨r,hr,e⟩:=hit hm (jlI m h 13) hj;refine⟨13+r,by omega,?_⟩
 have:=um m h (13+r) 0 (zero_le _)
 rw[add_zero,add_zero]at this;rw[this,jlM,e]
theorem jit (m:Nat)(h:Int):∀k,∃n r,k=ks m h n+r/\r<=SetTable.runEnd m (lv m h n).1-(lv m h n).1
 |0=>⟨0,0,rfl,zero_le _⟩
 |k+1=>by
  obtain⟨n,r,e,hr⟩:=jit m h k
  by_cases cz:r<SetTable.runEnd m (lv m h n).1-(lv m h n).1
  ·exact⟨n,r+1,by omega,cz⟩
  ·exact⟨n+1,0,by show _=ks m h n+_+1+0;omega,zero_le _⟩
theorem jcp (m:Nat)(h:Int)(k:Nat):pos m h k<=m:=by
 obtain⟨n,r,rfl,hr⟩:=jit m h k;rw[um m h n r hr]
 have:=jlI m h n
 unfold SetTable.runEnd at hr;split at hr <;> omega
theorem XG (hm:Mk m)(h:Int){p:List Nat}(hf:∃j,j<=m/\j∉p):∃K n,K<=ks m h n/\n<=13+m/\pos m h K∉p/\∀l,l<K->pos m h l∈p:=by
 obtain⟨j,hj,hjp⟩:=hf;obtain⟨n,hn,e⟩:=jqA hm h hj
 have key:∀k,pos m h k∉p->∃K,K<=k/\pos m h K∉p/\∀l,l<K->pos m h l∈p:=by
  intro k
  induction k using Nat.strongRecOn with
  |ind k ih=>
   intro hk
   by_cases hl:∀l,l<k->pos m h l∈p
   ·exact⟨k,le_refl _,hk,hl⟩
   ·have ⟨l,hl⟩:=Classical.not_forall.mp hl;have ⟨h1,h2⟩:=Classical.not_imp.mp hl;obtain⟨K,a,b,c⟩:=ih l h1 h2;exact⟨K,by omega,b,c⟩
 obtain⟨K,a,b,c⟩:=key (ks m h n) (by rw[e];exact hjp);exact⟨K,n,a,hn,b,c⟩
def Reach (m:Nat)(h:Int)(j:Nat)(p:List Nat):Prop:=∃k,k<10*SetTable.turns m/\pos m h k=j/\∀l,l<k->pos m h l∈p
theorem Reach.mono {j:Nat}{p q:List Nat}(r:Reach m h j p)(s:∀x∈p,x∈q):Reach m h j q:=by
 obtain⟨k,a,b,c⟩:=r;exact⟨k,a,b,λl hl=>s _ (c l hl)⟩
end
section
variable {t:SetTable}{p:List Nat}{f:Nat->Int}{h:Int}
theorem Vp (hp:t.place=p.toArray)(pw:p.Pairwise (· < ·)){j:Nat}(hj:j∈p):∃i,t.slot j= .live i/\p[i]?= some j:=by
 obtain⟨h1,h2,h3⟩:=Sml.below_spec pw j;obtain⟨i,hi,e⟩:=getElem_of_mem hj
 have hb:SetTable.below p.toArray j=i:=by
  generalize SetTable.below p.toArray j=b at h1 h2 h3;have a:¬ i<b:=λcz=>by
   have:=h2 p[i] (List.mem_iff_getElem.mpr ⟨i,by rw[length_take];omega,by rw[getElem_take]⟩)
   omega
  have c:¬ b<i:=λcz=>by
   have h4:=h3 p[b] (List.mem_iff_getElem.mpr ⟨0,by rw[length_drop];omega,by rw[List.getElem_drop];congr 1⟩);have h5:=List.pairwise_iff_getElem.mp pw b i (by omega) hi cz;omega
  omega
 refine⟨i,?_,by rw[getElem?_eq_getElem hi,e]⟩;unfold SetTable.slot;rw[hp,hb];dsimp only;rw[getElem?_toArray,getElem?_eq_getElem hi,e,if_pos (by rw[beq_iff_eq])]
theorem jfH (hp:t.place=p.toArray)(hd:t.dummies= #[]){j:Nat}(hj:j∉p):t.slot j= .empty:=by
 unfold SetTable.slot;rw[hp,hd];dsimp only;rw[if_neg (λz=>by
  rw[beq_iff_eq,getElem?_toArray]at z;exact hj (mem_of_getElem? z))]
 rfl
theorem jiy (hp:t.place=p.toArray)(pw:p.Pairwise (· < ·)):∀(d k cj:Nat),d<cj->(∀l,k<=l->l<k+d->pos t.mask h l∈p/\∀i,p[i]?= some (pos t.mask h l)->f i≠h)->SetTable.probe.go t f h cj (st t.mask h k)=SetTable.probe.go t f h (cj-d) (st t.mask h (k+d))
 |0,k,cj,_,_=>rfl
 |d+1,k,0,hf,_=>absurd hf (not_lt_zero _)
 |d+1,k,cj+1,hf,hl=>by
  obtain⟨h1,h2⟩:=hl k (le_refl _) (by omega);obtain⟨i,e1,e2⟩:=Vp hp pw h1;have ih:=jiy hp pw d (k+1) cj (by omega) λl a b=>hl l (by omega) (by omega);rw[show k+(d+1)=k+1+d by omega,show cj+1-(d+1)=cj-d by omega,<-ih]
  conv=>lhs;unfold SetTable.probe.go
  show(match t.slot (pos t.mask h k)with
   |.empty=>_
   |.dummy=>_
   |.live i=>_)=_
  rw[e1];dsimp only;rw[if_neg (by rw[beq_iff_eq];exact h2 i e2)];rfl
theorem jco (hp:t.place=p.toArray)(hd:t.dummies= #[])(pw:p.Pairwise (· < ·)){K:Nat}(hK:K<10*SetTable.turns t.mask)(hl:∀l,l<K->pos t.mask h l∈p)(hn:∀i j,p[i]?= some j->f i≠h)(dn:pos t.mask h K∉p):t.probe f h (t.probeStart h)=some (.empty (pos t.mask h K) none):=by
 unfold SetTable.probe;rw[jar,jiy hp pw K 0 _ hK λl _ b=>⟨hl l (by omega),λi e=>hn i _ e⟩,zero_add]
 obtain⟨x,hx⟩:∃x,10*SetTable.turns t.mask-K=x+1:=⟨10*SetTable.turns t.mask-K-1,by omega⟩
 rw[hx];unfold SetTable.probe.go
 show(match t.slot (pos t.mask h K)with
   |.empty=>_
   |.dummy=>_
   |.live i=>_)=_
 rw[jfH hp hd dn];dsimp only;rw[dum];rfl
theorem jfQ (hp:t.place=p.toArray)(pw:p.Pairwise (· < ·)){i0 j0:Nat}(h0:p[i0]?= some j0)(hf:f i0=h)(hr:Reach t.mask h j0 p):∃j i q,t.probe f h (t.probeStart h)=some (.candidate j i q)/\p[i]?= some j/\f i=h:=by
 obtain⟨k,hk,e,hl⟩:=hr
 have key:∀n,(∃i,p[i]?= some (pos t.mask h n)/\f i=h)->∃K,K<=n/\(∃i,p[i]?= some (pos t.mask h K)/\f i=h)/\∀l,l<K->∀i,p[i]?= some (pos t.mask h l)->f i≠h:=by
  intro n
  induction n using Nat.strongRecOn with
  |ind n ih=>
   intro hn
   by_cases hq:∀l,l<n->∀i,p[i]?= some (pos t.mask h l)->f i≠h
   ·exact⟨n,le_refl _,hn,hq⟩
   ·have ⟨l,hq⟩:=Classical.not_forall.mp hq;have ⟨h1,hq⟩:=Classical.not_imp.mp hq;have ⟨i,hq⟩:=Classical.not_forall.mp hq;have ⟨h2,h3⟩:=Classical.not_imp.mp hq;obtain⟨K,a,b,c⟩:=ih l h1 ⟨i,h2,Classical.not_not.mp h3⟩;exact⟨K,by omega,b,c⟩
 obtain⟨K,a,⟨i,b1,b2⟩,c⟩:=key k ⟨i0,by rw[e];exact h0,hf⟩;have hm:pos t.mask h K∈p:=mem_of_getElem? b1;obtain⟨i',s1,s2⟩:=Vp hp pw hm
 have hi:i'=i:=by
  obtain⟨x1,y1⟩:=List.getElem?_eq_some_iff.mp s2;obtain⟨x2,y2⟩:=List.getElem?_eq_some_iff.mp b1
  rcases Nat.lt_trichotomy i' i with q|q|q
  ·have:=List.pairwise_iff_getElem.mp pw i' i x1 x2 q
   omega
  ·exact q
  ·have:=List.pairwise_iff_getElem.mp pw i i' x2 x1 q
   omega
 subst hi;refine⟨pos t.mask h K,i',t.advance (st t.mask h K),?_,s2,b2⟩;unfold SetTable.probe;rw[jar,jiy hp pw K 0 _ (by omega) λl _ q=>⟨hl l (by omega),c l (by omega)⟩,zero_add]
 obtain⟨x,hx⟩:∃x,10*SetTable.turns t.mask-K=x+1:=⟨10*SetTable.turns t.mask-K-1,by omega⟩
 rw[hx];unfold SetTable.probe.go
 show(match t.slot (pos t.mask h K)with
   |.empty=>_
   |.dummy=>_
   |.live i=>_)=_
 rw[s1];dsimp only;rw[if_pos (by rw[beq_iff_eq];exact b2)];rfl
end
def ixN (ps:List Nat)(j:Nat):Option Nat:=ps.findIdx? λx=>decide (x=j)
theorem jio (ps:List Nat)(n j:Nat):ixN (ps++[n]) j=(match ixN ps j with
  |some k=>some k
  |none=>if j=n then some ps.length else none):=by
 unfold ixN;rw[List.findIdx?_append];cases ps.findIdx? λx=>decide (x=j)with
 |some k=>rfl
 |none=>
  rw[List.findIdx?_cons]
  by_cases h:j=n
  ·subst h;simp
  ·have h':¬(n=j):=λz=>h z.symm;simp[h,h']
theorem jbd {ps:List Nat}{n:Nat}(h:n∉ps):ixN ps n=none:=by
 unfold ixN;rw[List.findIdx?_eq_none_iff];intro x hx;rw[decide_eq_false];exact λz=>h (z ▸ hx)
theorem vY {ps:List Nat}{j k:Nat}(h:ixN ps j=some k):ps[k]?= some j:=by
 unfold ixN at h;obtain⟨hk,h1,_⟩:=List.findIdx?_eq_some_iff_getElem.mp h;rw[getElem?_eq_getElem hk,of_decide_eq_true h1]
theorem jip {ps:List Nat}(nd:ps.Nodup){j k:Nat}(h:ps[k]?= some j):ixN ps j=some k:=by
 obtain⟨hk,e⟩:=List.getElem?_eq_some_iff.mp h;unfold ixN;refine List.findIdx?_eq_some_iff_getElem.mpr ⟨hk,decide_eq_true e,λi hi=>?_⟩
 have:=List.pairwise_iff_getElem.mp nd i k (by omega) hk hi
 rw[e]at this;simpa using this
theorem joC {ps:List Nat}{j:Nat}(h:j∈ps):(ixN ps j).isNone=false:=by
 cases e:ixN ps j with
 |some k=>rfl
 |none=>
  unfold ixN at e
  have:=List.findIdx?_eq_none_iff.mp e j h
  simp at this
theorem jmW (m i:Nat):i<=SetTable.runEnd m i:=by
 unfold SetTable.runEnd;split <;> omega
theorem jeF {m:Nat}{h:Int}{owner:Array (Option Nat)}{K:Nat}(cW:∀l,l<K->(owner.getD (pos m h l) (some 0)).isNone=false)(dn:(owner.getD (pos m h K) (some 0)).isNone=true) :
  ∀(d cG cj:Nat),ks m h cG<=K->K<=ks m h (cG+d)->d<cj->SetTable.layClean.free m owner cj (lv m h cG).1 (lv m h cG).2=some (pos m h K)
 |_,_,0,_,_,hf=>absurd hf (not_lt_zero _)
 |d,cG,cj+1,h1,h2,hf=>by
  unfold SetTable.layClean.free;have hg:=jmW m (lv m h cG).1;have hr:SetTable.runEnd m (lv m h cG).1+1-(lv m h cG).1=SetTable.runEnd m (lv m h cG).1-(lv m h cG).1+1:=by omega
  rw[hr]
  by_cases g7:K-ks m h cG<=SetTable.runEnd m (lv m h cG).1-(lv m h cG).1
  ·have e:(List.range (SetTable.runEnd m (lv m h cG).1-(lv m h cG).1+1)).find? (λk=>(owner.getD ((lv m h cG).1+k) (some 0)).isNone)=some (K-ks m h cG):=by
    rw[List.find?_range_eq_some];refine⟨?_,List.mem_range.mpr (by omega),λj hj=>?_⟩
    ·rw[<-um m h cG _ g7,show ks m h cG+(K-ks m h cG)=K by omega];exact dn
    ·rw[<-um m h cG j (by omega),cW _ (by omega)];rfl
   rw[e];dsimp only;rw[<-um m h cG _ g7,show ks m h cG+(K-ks m h cG)=K by omega]
  ·have e:(List.range (SetTable.runEnd m (lv m h cG).1-(lv m h cG).1+1)).find? (λk=>(owner.getD ((lv m h cG).1+k) (some 0)).isNone)=none:=by
    rw[List.find?_range_eq_none];intro j hj;rw[<-um m h cG j (by omega),cW _ (by omega)];rfl
   rw[e];dsimp only;cases d with
   |zero=>exact absurd h2 (by rw[add_zero];omega)
   |succ d=>
    exact jeF cW dn d (cG+1) cj (by show ks m h cG+_+1<=K;omega) (by rw[show cG+1+d=cG+(d+1) by omega];exact h2) (by omega)
structure LI (m:Nat)(pre:List Int)(ps:List Nat)(owner:Array (Option Nat)):Prop where
 sz:owner.size=m+1
 ow:∀j,j<=m->owner[j]?= some (ixN ps j)
 nd:ps.Nodup
 le:∀x∈ps,x<=m
 ln:ps.length=pre.length
 rc:∀x∈pre.zip ps,Reach m x.1 x.2 ps
def jdH (m:Nat)(acc:Option (Array (Option Nat)×Nat))(h:Int):Option (Array (Option Nat)×Nat):=do
 let (owner,k) <-acc
 let j <-SetTable.layClean.free m owner (SetTable.turns m) (SetTable.bits h%(m+1)) (SetTable.bits h)
 pure (owner.setIfInBounds j (some k),k+1)
theorem room {m:Nat}{p:List Nat}(hl:p.length<=m):∃j,j<=m/\j∉p:=by
 refine Classical.byContradiction λhn=>?_
 have:=Sml.sublen (List.range (m+1)) p List.nodup_range λx hx=>Classical.byContradiction λhx2=>hn ⟨x,by have:=List.mem_range.mp hx;omega,hx2⟩
 rw[length_range]at this;omega
theorem jkN {m:Nat}(hm:Mk m){pre:List Int}{ps:List Nat}{owner:Array (Option Nat)}(L:LI m pre ps owner)(hl:pre.length+1<=m)(h:Int):∃df lB,jdH m (some (owner,pre.length)) h=some (df,(pre++[h]).length)/\LI m (pre++[h]) lB df:=by
 obtain⟨K,n,hK,hn,hf,hb⟩:=XG hm h (room (p:=ps) (m:=m) (by rw[L.ln];omega))
 have get:∀k,owner.getD (pos m h k) (some 0)=ixN ps (pos m h k):=λk=>by
  rw[getD_eq_getD_getElem?,L.ow _ (jcp m h k)];rfl
 have lY:=jeF (m:=m) (h:=h) (owner:=owner) (K:=K) (λl hl=>by rw[get];exact joC (hb l hl)) (by rw[get,jbd hf];rfl) n 0 (SetTable.turns m) (zero_le _) (by rw[zero_add];exact hK) (by unfold SetTable.turns;omega);have hk10:=jim m h n;have cM:=jcp m h K;refine⟨owner.setIfInBounds (pos m h K) (some pre.length),ps++[pos m h K],?_,⟨by rw[Array.size_setIfInBounds];exact L.sz,λj hj=>?_,List.nodup_append.mpr ⟨L.nd,List.nodup_cons.mpr ⟨by simp,nodup_nil⟩,λa ha b hb e=>hf (by rw[<-List.mem_singleton.mp hb,<-e];exact ha)⟩,λx hx=>?_,by rw[length_append,length_append,L.ln];rfl,λx hx=>?_⟩⟩
 ·unfold jdH;show(SetTable.layClean.free m owner (SetTable.turns m) (SetTable.bits h%(m+1)) (SetTable.bits h)).bind _=_;rw[show SetTable.layClean.free m owner (SetTable.turns m) (SetTable.bits h%(m+1)) (SetTable.bits h)=_ from lY,length_append];rfl
 ·rw[jio]
  by_cases lS:j=pos m h K
  ·subst lS;rw[jbd hf,if_pos rfl,Array.getElem?_setIfInBounds_self_of_lt (by rw[L.sz];omega),L.ln]
  ·rw[Array.getElem?_setIfInBounds_ne (Ne.symm lS),L.ow j hj];cases ixN ps j with
   |some k=>rfl
   |none=>rw[if_neg lS]
 ·rcases List.mem_append.mp hx with hx|hx
  ·exact L.le x hx
  ·rw[List.mem_singleton.mp hx];exact cM
 ·rw[List.zip_append L.ln.symm]at hx;rcases List.mem_append.mp hx with hx|hx
  ·exact(L.rc x hx).mono λy hy=>List.mem_append.mpr (.inl hy)
  ·have hx:x=(h,pos m h K):=List.mem_singleton.mp hx;subst hx;exact⟨K,by unfold SetTable.turns;omega,rfl,λl hl=>List.mem_append.mpr (.inl (hb l hl))⟩
theorem jba {m:Nat}(hm:Mk m):∀(hs pre:List Int) (ps:List Nat) (owner:Array (Option Nat)),LI m pre ps owner->(pre++hs).length<=m->
  ∃df lB,hs.foldl (jdH m) (some (owner,pre.length))=some (df,(pre++hs).length)/\LI m (pre++hs) lB df
 |[],pre,ps,owner,L,_=>⟨owner,ps,by rw[append_nil];rfl,by rw[append_nil];exact L⟩
 |h::hs,pre,ps,owner,L,hl=>by
  rw[length_append,length_cons]at hl;obtain⟨o1,p1,e1,L1⟩:=jkN hm L (by omega) h;have e:pre++h::hs=(pre++[h])++hs:=by simp
  obtain⟨o2,p2,e2,L2⟩:=jba hm hs (pre++[h]) p1 o1 L1 (by rw[<-e,length_append,length_cons];omega);refine⟨o2,p2,?_,by rw[e];exact L2⟩;rw[foldl_cons,e1,e];exact e2
def lvP (m:Nat)(ps:List Nat):List (Nat×Nat):=(List.range (m+1)).filterMap λj=>(ixN ps j).map (j,·)
theorem xY {m:Nat}{ps:List Nat}{x:Nat×Nat}:x∈lvP m ps↔x.1<=m/\ixN ps x.1=some x.2:=by
 unfold lvP;rw[List.mem_filterMap];constructor
 ·rintro⟨j,hj,e⟩;obtain⟨k,hk,rfl⟩:=Option.map_eq_some_iff.mp e;exact⟨by have:=List.mem_range.mp hj;show j<=m;omega,hk⟩
 ·rintro⟨h1,h2⟩;exact⟨x.1,List.mem_range.mpr (by omega),by rw[h2];rfl⟩
theorem jaW (m:Nat)(ps:List Nat):(lvP m ps).Pairwise (λa b=>a.1<b.1):=by
 unfold lvP;refine List.Pairwise.filterMap _ (λa a' h b hb b' iZ=>?_) List.pairwise_lt_range;obtain⟨_,_,rfl⟩:=Option.map_eq_some_iff.mp hb;obtain⟨_,_,rfl⟩:=Option.map_eq_some_iff.mp iZ;exact h
structure Sg (es:tA0)(t:SetTable)(p:List Nat):Prop where
 pl:t.place=p.toArray
 du:t.dummies= #[]
 pn:t.plain=true
 pw:p.Pairwise (· < ·)
 sz:p.length=es.size
 mm:Mk t.mask
 le:∀x∈p,x<=t.mask
 rc:∀x∈es.toList.zip p,Reach t.mask x.1.1 x.2 p
theorem relay {es:tA0}{t:SetTable}(pn:t.plain=true){wanted m:Nat}(hw:SetTable.sizeAbove wanted-1=m)(hm:Mk m)(hl:es.size<=m) :
  ∃(t':SetTable) (order:Array Nat) (p':List Nat),t.relaid (es.map (·.1)) wanted=some (t',order)/\t'.led=t.led/\t'.mask=m/\(order.filterMap (es[·]?)).toList.Perm es.toList/\Sg (order.filterMap (es[·]?)) t' p'/\order.toList.Perm (List.range es.size):=by
 obtain⟨hs,lW⟩:∃hs,hs=es.toList.map (·.1):=⟨_,rfl⟩
 have hmap:(es.map (·.1)).toList=hs:=by rw[Array.toList_map,lW]
 have bM:hs.length=es.size:=by rw[lW,length_map,length_toList]
 obtain⟨owner,ps,g1,L⟩:=jba hm hs [] [] (Array.replicate (m+1) none) ⟨by simp,λj hj=>by
  rw[Array.getElem?_replicate,if_pos (by omega)];rfl,nodup_nil,λx hx=>(by cases hx),rfl,λx hx=>(by cases hx)⟩ (by rw[nil_append,bM];exact hl)
 rw[nil_append]at g1 L;have c1:SetTable.layClean m (es.map (·.1))=some owner:=by
  unfold SetTable.layClean;rw[<-Array.foldl_toList,hmap];show(hs.foldl (jdH m) (some (Array.replicate (m+1) none,0))).map (·.1)=_;rw[show(some (Array.replicate (m+1) (none:Option Nat),0))=some (Array.replicate (m+1) none,([]:List Int).length)from rfl,g1];rfl
 have hlive:((List.range (m+1)).filterMap λj=>(owner.getD j none).map (j,·))=lvP m ps:=by
  unfold lvP;refine Sml.fm_congr λj hj=>?_;rw[getD_eq_getD_getElem?,L.ow j (by have:=List.mem_range.mp hj;omega)];rfl
 obtain⟨p',eV⟩:∃p',p'=(lvP m ps).map (·.1):=⟨_,rfl⟩
 obtain⟨order,fW⟩:∃o,o=(lvP m ps).map (·.2):=⟨_,rfl⟩
 obtain⟨t',gW⟩:∃t':SetTable,t'=⟨m,p'.toArray,#[],t.finger,t.led,t.movedTo m,t.plain⟩:=⟨_,rfl⟩
 have iA:t.relaid (es.map (·.1)) wanted=some (t',order.toArray):=by
  unfold SetTable.relaid;rw[hw];unfold SetTable.laid;rw[c1];show some ((⟨m,(((List.range (m+1)).filterMap λj=>(owner.getD j none).map (j,·)).map (·.1)).toArray,#[],t.finger,t.led,t.movedTo m,t.plain⟩:SetTable),(((List.range (m+1)).filterMap λj=>(owner.getD j none).map (j,·)).map (·.2)).toArray)=_;rw[hlive,gW,eV,fW]
 have nd2:order.Nodup:=by
  rw[fW];refine List.pairwise_map.mpr (List.Pairwise.imp_of_mem (λ{a b} ha hb h z=>?_) (jaW m ps));have h1:=vY (xY.mp ha).2;have h2:=vY (xY.mp hb).2;rw[z,h2]at h1
  have:=Option.some.inj h1
  omega
 have perm:order.Perm (List.range es.size):=by
  refine(List.perm_ext_iff_of_nodup nd2 List.nodup_range).mpr λk=>?_;rw[fW,List.mem_map,List.mem_range];constructor
  ·rintro⟨x,hx,rfl⟩
   have:=(List.getElem?_eq_some_iff.mp (vY (xY.mp hx).2)).1
   rw[L.ln]at this;omega
  ·intro hk;have hk:k<ps.length:=by rw[L.ln];omega
   exact⟨(ps[k],k),xY.mpr ⟨L.le _ (getElem_mem hk),jip L.nd (getElem?_eq_getElem hk)⟩,rfl⟩
 obtain⟨dE,g8⟩:∃dE:Array (Int×Value),dE=order.toArray.filterMap (es[·]?):=⟨_,rfl⟩
 have dH:dE.toList.Perm es.toList:=by
  rw[g8,Array.toList_filterMap];exact(perm.filterMap _).trans (by rw[filterMap_getElem?_range])
 have hsz:dE.size=es.size:=by rw[<-length_toList,dH.length_eq,length_toList]
 have hp5:p'.length=es.size:=by
  have:=perm.length_eq
  rw[fW,length_map,length_range]at this;rw[eV,length_map,this]
 have pin:∀x∈ps,x∈p':=λx hx=>by
  obtain⟨k,hk,e⟩:=getElem_of_mem hx;rw[eV];exact List.mem_map.mpr ⟨(x,k),xY.mpr ⟨L.le x hx,jip L.nd (by rw[getElem?_eq_getElem hk,e])⟩,rfl⟩
 refine⟨t',order.toArray,p',iA,by rw[gW],by rw[gW],by rw[<-g8];exact dH,?_,by rw[List.toList_toArray];exact perm⟩;rw[<-g8];refine⟨by rw[gW],by rw[gW],by rw[gW];exact pn,by rw[eV];exact List.pairwise_map.mpr (jaW m ps),by rw[hp5,hsz],by rw[gW];exact hm,λx hx=>?_,λx hx=>?_⟩
 ·rw[eV]at hx;obtain⟨y,hy,rfl⟩:=List.mem_map.mp hx;rw[gW];exact(xY.mp hy).1
 ·have hmk:t'.mask=m:=by rw[gW]
  rw[hmk];rw[g8,Array.toList_filterMap,fW,eV]at hx;have key:∀l:List (Nat×Nat),(∀y∈l,y∈lvP m ps)->∀x∈((l.map (·.2)).filterMap (es[·]?)).zip (l.map (·.1)),∃y∈l,es[y.2]?= some x.1/\x.2=y.1:=by
   intro l
   induction l with
   |nil=>intro _ x hx;cases hx
   |cons y l ih=>
    intro h x hx;have h1:=vY (xY.mp (h y mem_cons_self)).2;have hk:y.2<es.size:=by
     have:=(List.getElem?_eq_some_iff.mp h1).1
     rw[L.ln]at this;omega
    have he:es[y.2]?= some es[y.2]:=Array.getElem?_eq_getElem hk;rw[map_cons,map_cons,List.filterMap_cons_some (b:=es[y.2]) he,List.zip_cons_cons]at hx;rcases List.mem_cons.mp hx with rfl|hx
    ·exact⟨y,mem_cons_self,he,rfl⟩
    ·obtain⟨z,hz,q⟩:=ih (λz hz=>h z (mem_cons_of_mem _ hz)) x hx;exact⟨z,mem_cons_of_mem _ hz,q⟩
  obtain⟨y,hy,e1,e2⟩:=key (lvP m ps) (λy hy=>hy) x (by rw[List.toList_toArray]at hx;exact hx);have h1:=vY (xY.mp hy).2
  have h2:hs[y.2]?= some x.1.1:=by
   rw[lW,getElem?_map,getElem?_toList,e1];rfl
  have:=L.rc (x.1.1,y.1) (mem_of_getElem? (i:=y.2) (by rw[getElem?_zip_eq_some];exact⟨h2,h1⟩))
  rw[e2];exact this.mono pin
theorem jdy {α β:Type}{l l':List α}{p p':List β}(d:Nat)(h1:∀i a,l'[i]?= some a->l[d+i]?= some a)(h2:∀i a,p'[i]?= some a->p[d+i]?= some a){x:α×β}(hx:x∈l'.zip p'):x∈l.zip p:=by
 obtain⟨i,hi⟩:=List.mem_iff_getElem?.mp hx;rw[getElem?_zip_eq_some]at hi;exact mem_of_getElem? (i:=d+i) (by rw[getElem?_zip_eq_some];exact⟨h1 i _ hi.1,h2 i _ hi.2⟩)
theorem jfc {α:Type}{l:List α}{b i:Nat}{a:α}(h:(l.take b)[i]?= some a):l[0+i]?= some a:=by
 rw[List.getElem?_take]at h;split at h
 ·rw[zero_add];exact h
 ·cases h
theorem jfd {α:Type}{l:List α}{b i:Nat}{a:α}(h:(l.drop b)[i]?= some a):l[b+i]?= some a:=by
 rw[getElem?_drop]at h;exact h
theorem put {es:tA0}{t:SetTable}{p:List Nat}(S:Sg es t p)(hl:p.length+1<=t.mask)(h:Int)(x:Value){f:Nat->Int}(hn:∀i,i<es.size->f i≠h) :
  ∃j p',t.probe f h (t.probeStart h)=some (.empty j none)/\Sg (SetTable.insertAt es (t.put j).2 (h,x)) (t.put j).1 p'/\(t.put j).1.led=t.led/\(t.put j).1.mask=t.mask/\p'.length=p.length+1:=by
 obtain⟨K,n,hK,iE,hf,hb⟩:=XG S.mm h (room (p:=p) (m:=t.mask) (by omega));have hk10:=jim t.mask h n
 have hKl:K<10*SetTable.turns t.mask:=by unfold SetTable.turns;omega
 obtain⟨j,hj⟩:∃j,j=pos t.mask h K:=⟨_,rfl⟩
 obtain⟨b,lh⟩:∃b,b=SetTable.below p.toArray j:=⟨_,rfl⟩
 obtain⟨p',eV⟩:∃p',p'=p.take b++j::p.drop b:=⟨_,rfl⟩
 rw[<-hj]at hf;have gX:=Sml.put_eq S.pl S.du j;rw[<-lh,<-eV]at gX;have fP:∀y,y∈p'↔y∈p\/y=j:=λy=>by
  rw[eV,mem_append,mem_cons]
  have:y∈p↔y∈p.take b\/y∈p.drop b:=by rw[<-mem_append,take_append_drop]
  rw[this];exact⟨λz=>z.elim (λz=>.inl (.inl z)) λz=>z.elim .inr λz=>.inl (.inr z),λz=>z.elim (λz=>z.elim .inl λz=>.inr (.inr z)) λz=>.inr (.inl z)⟩
 have bM:p'.length=p.length+1:=by
  rw[eV,length_append,length_cons]
  have:=congrArg List.length (take_append_drop b p)
  rw[length_append]at this;omega
 refine⟨j,p',?_,?_,by rw[gX],by rw[gX],bM⟩
 ·rw[hj];refine jco S.pl S.du S.pw hKl hb (λi j' e=>hn i (by rw[<-S.sz];exact(List.getElem?_eq_some_iff.mp e).1)) (by rw[<-hj];exact hf)
 ·rw[gX];have eX:(SetTable.insertAt es b (h,x)).toList=es.toList.take b++(h,x)::es.toList.drop b:=SetTable.toList_insertAt ..;refine⟨rfl,rfl,S.pn,by rw[eV,lh];exact Sml.ins_rise S.pw hf,?_,S.mm,λy hy=>?_,λy hy=>?_⟩
  ·rw[<-length_toList,eX,length_append,length_cons,bM,S.sz,<-length_toList]
   have:=congrArg List.length (take_append_drop b es.toList)
   rw[length_append]at this;omega
  ·rcases(fP y).mp hy with hy|rfl
   ·exact S.le y hy
   ·rw[hj];exact jcp _ _ _
  ·have sub:∀z∈p,z∈p':=λz hz=>(fP z).mpr (.inl hz);rw[show(SetTable.insertAt es b (h,x)).toList=_ from eX,eV,List.zip_append (by
    rw[length_take,length_take,S.sz,length_toList]),List.zip_cons_cons]at hy
   have dG:y∈es.toList.zip p->Reach t.mask y.1.1 y.2 p':=λhy=>(S.rc y hy).mono sub;rcases List.mem_append.mp hy with hy|hy
   ·exact dG (jdy 0 (λ_ _=>jfc) (λ_ _=>jfc) hy)
   ·rcases List.mem_cons.mp hy with rfl|hy
    ·exact⟨K,hKl,hj.symm,λl hl=>sub _ (hb l hl)⟩
    ·exact dG (jdy b (λ_ _=>jfd) (λ_ _=>jfd) hy)
theorem met {es:tA0}{t:SetTable}{p:List Nat}(S:Sg es t p){h:Int}{e:Int×Value}(he:e∈es.toList)(hh:e.1=h) :
  ∃j i q y,t.probe (λi=>(es[i]?.map (·.1)).getD 0) h (t.probeStart h)=some (.candidate j i q)/\es[i]?= some y/\y.1=h:=by
 obtain⟨i0,lV,e0⟩:=getElem_of_mem he
 have hi1:i0<p.length:=by rw[S.sz,<-length_toList];exact lV
 have iI:i0<es.size:=by rw[<-length_toList];exact lV
 have hz:(e,p[i0])∈es.toList.zip p:=mem_of_getElem? (i:=i0) (by rw[getElem?_zip_eq_some];exact⟨by rw[getElem?_eq_getElem lV,e0],getElem?_eq_getElem hi1⟩);have hr:=S.rc _ hz;rw[show((e,p[i0]):(Int×Value)×Nat).1.1=h from hh]at hr;have hf:(λi=>(es[i]?.map (·.1)).getD 0) i0=h:=by
  show(es[i0]?.map (·.1)).getD 0=h;rw[Array.getElem?_eq_getElem iI,<-getElem_toList,e0];exact hh
 obtain⟨j,i,q,a1,a2,a3⟩:=jfQ (f:=λi=>(es[i]?.map (·.1)).getD 0) S.pl S.pw (getElem?_eq_getElem hi1) hf hr
 have hi:i<es.size:=by rw[<-S.sz];exact(List.getElem?_eq_some_iff.mp a2).1
 refine⟨j,i,q,es[i],a1,Array.getElem?_eq_getElem hi,?_⟩;have a3:(es[i]?.map (·.1)).getD 0=h:=a3;rw[Array.getElem?_eq_getElem hi]at a3;exact a3
theorem Sg.fit {es:tA0}{t:SetTable}{p:List Nat}(S:Sg es t p)(h:p.length<=t.mask):t.fits es.size=true:=Sml.fits_of S.pl S.du S.sz h
theorem jqg {m n:Nat}(hm:Mk m)(h1:¬ n*5<m*3)(h2:(n-1)*5<m*3)(h3:n<=60):(m=7/\n=5)\/(m=31/\n=19):=by
 rcases hm with rfl|rfl|rfl
 ·exact .inl ⟨rfl,by omega⟩
 ·exact .inr ⟨rfl,by omega⟩
 ·omega
theorem Sg.a6 {es:tA0}{t:SetTable}{p:List Nat}(S:Sg es t p):t.fill=p.length:=by
 unfold SetTable.fill;rw[S.pl,S.du];simp
theorem Sg.aZ {es:tA0}{t:SetTable}{p:List Nat}(S:Sg es t p)(h:¬ t.tooFull=true):p.length*5<t.mask*3:=by
 unfold SetTable.tooFull at h;rw[S.a6,decide_eq_true_eq]at h;omega
theorem grow {es:tA0}{t:SetTable}{p:List Nat}(S:Sg es t p)(h1:(p.length-1)*5<t.mask*3)(h2:t.tooFull=true)(h3:es.size<=60):∃m,Mk m/\SetTable.sizeAbove (SetTable.grown es.size)-1=m/\es.size<=m/\es.size*5<m*3:=by
 have hs:=S.sz;have kz:¬ p.length*5<t.mask*3:=by
  unfold SetTable.tooFull at h2;rw[S.a6,decide_eq_true_eq]at h2;omega
 rcases jqg S.mm kz h1 (by omega)with⟨_,h⟩|⟨_,h⟩
 ·exact⟨31,.inr (.inl rfl),by rw[show es.size=5 by omega];decide,by omega,by omega⟩
 ·exact⟨127,.inr (.inr rfl),by rw[show es.size=19 by omega];decide,by omega,by omega⟩
end Prb
namespace Sml
open PySem PySem.Spec PyProof.Rows
structure Sm (es:tA0)(t:SetTable)(p:List Nat):Prop where
 g:Prb.Sg es t p
 fu:p.length*5<t.mask*3
 el:∀e∈es.toList,∃(n:Nat) (k:Tok),n<16/\e=((n:Int),Value.int n k)
 nd:(es.toList.map (·.1)).Nodup
section
variable {prog:Program}{w:World}{A:Around}{E:tE0}{s:Shared}
def jpd (h:Heap)(a:Addr)(es:tA0)(L:Bool):Prop:=∃o ep t p,h.get? a=some o/\o.ExactSet/\o.data= .set es ep t/\Sm es t p/\t.led=L
theorem Sm.small {es:tA0}{t:SetTable}{p:List Nat}(S:Sm es t p):es.size<=16:=by
 have:=sublen (es.toList.map (·.1)) ((List.range 16).map λk:Nat=>(k:Int)) S.nd λx hx=>by
  obtain⟨e,he,rfl⟩:=List.mem_map.mp hx;obtain⟨n,_,hn,rfl⟩:=S.el e he;exact List.mem_map.mpr ⟨n,List.mem_range.mpr hn,rfl⟩
 rw[length_map,length_map,length_range,length_toList]at this;exact this
theorem Sm.le {es:tA0}{t:SetTable}{p:List Nat}(S:Sm es t p):p.length+1<=t.mask:=by
 have:=S.fu
 rcases S.g.mm with h|h|h <;> rw[h]at this ⊢ <;> omega
theorem Sm.fit {es:tA0}{t:SetTable}{p:List Nat}(S:Sm es t p):t.fits es.size=true:=S.g.fit (by have:=S.le;omega)
theorem jix {n:Nat}(h:n<16):(intKind prog w).hash (n:Int)=(n:Int):=by
 have:((List.range 16).all λn=>decide (hashInt (n:Int)=(n:Int)))=true:=by decide +kernel
 exact of_decide_eq_true (List.all_eq_true.mp this n (List.mem_range.mpr h))
theorem Sm.elems {es:tA0}{t:SetTable}{p:List Nat}(S:Sm es t p):ElemsOf (intKind prog w) es.toList:=λe he=>by
 obtain⟨n,k,hn,rfl⟩:=S.el e he;exact⟨⟨(n:Int),intKind_is _ _ _ _,(jix hn).symm⟩,rfl⟩
theorem jgE {a:Addr}{es:tA0}{L:Bool}{n:Nat}{k:Tok}{Q:Bool->Shared->Prop}(S:jpd s.heap a es L)(hn:n<16)(lr:(n:Int)∈es.toList.map (·.1)->Q false s)(kE:(n:Int)∉es.toList.map (·.1)->∀h' dE,SameBut a s.heap h'->jpd h' a dE L->(dE.toList.map (·.1)).Perm (es.toList.map (·.1)++[(n:Int)])->Q true { s with heap:=h' }) :
  wpAny (model prog w) A (setAddHashed a (.int n k) ((intKind prog w).hash (n:Int))) Q E s:=by
 obtain⟨o,ep,t,p,ho,iL,hd,S,hL⟩:=S;have kA:=S.elems (prog:=prog) (w:=w);have hf:=S.fit
 have hb:es.size<scanBound:=by have:=S.small;unfold scanBound;omega
 have dU:(intKind prog w).is (n:Int) (.int n k)=true:=intKind_is _ _ _ _;unfold setAddHashed setAddHashedIn;refine wpAny_holding (wpAny_bind (wpAny_setState_of ho hd hf ?_));dsimp only;rw[byScan_of (knd:=intKind prog w) rfl hb kA];simp only[↓reduceIte];unfold setAddByScan;refine wpAny_bind (wpAny_bind (wpAny_rule (wpAny_bind (wpAny_setScan_of dU ho hd hf kA ?_))));cases hr:List.findIdx? (λe=>(intKind prog w).is (n:Int) e.2) es.toList with
 |some j=>
  dsimp only;obtain⟨hj,hpj,_⟩:=List.findIdx?_eq_some_iff_getElem.mp hr;refine wpAny_pure (wpAny_pure (lr ?_));obtain⟨m,k',hm,e⟩:=S.el es.toList[j] (getElem_mem hj);rw[e]at hpj
  have:(n:Int)=(m:Int):=(intKind prog w).inj (.int m k') _ _ hpj (intKind_is _ _ _ _)
  exact List.mem_map.mpr ⟨es.toList[j],getElem_mem hj,by rw[e,this]⟩
 |none=>
  dsimp only;have hm:(n:Int)∉es.toList.map (·.1):=λz=>by
   obtain⟨e,he,ee⟩:=List.mem_map.mp z
   have:=List.findIdx?_eq_none_iff.mp hr e he
   obtain⟨m,k',hm,rfl⟩:=S.el e he;have ee:(m:Int)=(n:Int):=ee;rw[ee,intKind_is]at this;cases this
  rw[jix hn]
  obtain⟨j,p1,pr,S1,l1,m1,n1⟩:=Prb.put S.g S.le (n:Int) (.int n k) (f:=λ_=>(n:Int)+1) λ_ _=>by omega
  obtain⟨t1,ix⟩:∃t1,t1=(t.put j).1:=⟨_,rfl⟩
  obtain⟨cn,eW⟩:∃cn,cn=SetTable.insertAt es (t.put j).2 ((n:Int),Value.int n k):=⟨_,rfl⟩
  rw[<-ix,<-eW]at S1;rw[<-ix]at l1 m1;have c9:cn.toList.Perm (es.toList++[((n:Int),Value.int n k)]):=by
   rw[eW];refine(SetTable.insertAt_perm es _ _).trans ?_;rw[toList_push]
  have z1:cn.size=es.size+1:=by rw[<-length_toList,c9.length_eq,length_append,length_toList];rfl
  have z16:es.size<=16:=S.small;have hpz:=S.g.sz;have hsle:=S.le;have fit1:t1.fits cn.size=true:=S1.fit (by omega);have gZ:layNew t es (n:Int) (.int n k)=(cn,t1,false,false):=by
   have hf:t.freeSlot (n:Int)=some (j,false):=by
    unfold SetTable.freeSlot;rw[pr];rfl
   unfold layNew;rw[hf];show(SetTable.insertAt es (t.put j).2 ((n:Int),Value.int n k),(t.put j).1.orStandIn (SetTable.insertAt es (t.put j).2 ((n:Int),Value.int n k)).size,false,!(t.put j).1.fits (SetTable.insertAt es (t.put j).2 ((n:Int),Value.int n k)).size)=_;rw[<-ix,<-eW];unfold SetTable.orStandIn;rw[fit1];rfl
  rw[gZ];dsimp only;have el1:∀e∈cn.toList,∃(n:Nat) (k:Tok),n<16/\e=((n:Int),Value.int n k):=λe he=>by
   rcases List.mem_append.mp (c9.mem_iff.mp he)with he|he
   ·exact S.el e he
   ·rw[List.mem_singleton.mp he];exact⟨n,k,hn,rfl⟩
  have fR:(cn.toList.map (·.1)).Perm (es.toList.map (·.1)++[(n:Int)]):=by
   have:=c9.map (·.1)
   rw[map_append]at this;exact this
  have nd1:(cn.toList.map (·.1)).Nodup:=fR.nodup_iff.mpr (List.nodup_append.mpr ⟨S.nd,List.nodup_cons.mpr ⟨λz=>(by cases z),.nil⟩,λx hx y hy e=>hm (by rw[List.mem_singleton.mp hy]at e;exact e ▸ hx)⟩);refine wpAny_bind (wpAny_pure ?_);rw[S1.pn];simp only[↓reduceIte];refine wpAny_bind ?_;rw[hashByValue_scannable 8 (x:=.int n k) rfl];refine wpAny_pure ?_;simp only[plainKind,↓reduceIte];refine wpAny_bind (wpAny_storeSet_of ho hd ?_ (by rw[z1,sizeLine_eq];omega));have g1:(s.heap.update a (Obj.putSet cn t1)).get? a=some { o with data:=.set cn (ep+1) t1 }:=by
   have:=get?_update_self (Obj.putSet cn t1) ho (by rw[putSet_of cn t1 hd];rfl)
   rw[putSet_of cn t1 hd]at this;exact this
  have fV:=Heap.SameBut.update s.heap a (Obj.putSet cn t1)
  by_cases cR:t1.tooFull=true
  ·obtain⟨m,iF,hw,lQ,l7⟩:=Prb.grow S1 (by rw[n1,m1];exact S.fu) cR (by omega);obtain⟨t2,order,p2,r1,r2,r3,r4,S2,r5⟩:=Prb.relay (t:=t1) (es:=cn) S1.pn hw iF lQ
   obtain⟨dJ,fZ⟩:∃dJ,dJ=order.filterMap (cn[·]?):=⟨_,rfl⟩
   rw[<-fZ]at r4 S2;have z2:dJ.size=cn.size:=by rw[<-length_toList,r4.length_eq,length_toList]
   have iA:relayAll t1 cn (SetTable.grown cn.size)=(dJ,t2,false):=by
    unfold relayAll;rw[r1];dsimp only;rw[<-fZ,S2.fit (by have:=S2.sz;omega)]
    have:coversAll order cn.size=true:=by
     unfold coversAll;exact List.isPerm_iff.mpr r5
    rw[this];rfl
   rw[if_pos (by rw[cR];rfl),iA];dsimp only;refine wpAny_bind (wpAny_pure ?_);refine wpAny_bind (wpAny_storeSet_of g1 rfl ?_ (by rw[z2,z1,sizeLine_eq];omega));have g2:((s.heap.update a (Obj.putSet cn t1)).update a (Obj.putSet dJ t2)).get? a=some { o with data:=.set dJ (ep+1+1) t2 }:=by
    have:=get?_update_self (Obj.putSet dJ t2) g1 (by rw[putSet_of dJ t2 rfl];rfl)
    rw[putSet_of dJ t2 rfl]at this;exact this
   exact wpAny_pure (wpAny_pure (kE hm _ dJ (fV.trans (Heap.SameBut.update _ a _)) ⟨_,_,t2,p2,g2,iL,rfl,⟨S2,by rw[S2.sz,z2,r3];exact l7,λe he=>el1 e (r4.mem_iff.mp he),(r4.map (·.1)).nodup_iff.mpr nd1⟩,by rw[r2,l1,hL]⟩ ((r4.map (·.1)).trans fR)))
  ·rw[if_neg (by simpa using cR)];exact wpAny_pure (wpAny_pure (kE hm _ cn fV ⟨_,_,t1,p1,g1,iL,rfl,⟨S1,S1.aZ cR,el1,nd1⟩,by rw[l1,hL]⟩ fR))
end
section
variable {prog:Program}{w:World}{A:Around}{E:tE0}{s:Shared}
def Got (h:Heap)(a:Addr)(val:Nat->Nat)(i:Nat)(L:Bool):Prop:=∃es,jpd h a es L/\∀x:Int,x∈es.toList.map (·.1)↔∃j,j<i/\x=val j
theorem Got.keep {h h':Heap}{a:Addr}{val:Nat->Nat}{i:Nat}{L:Bool}(g:Got h a val i L)(k:∀o,h.get? a=some o->h'.get? a=some o):Got h' a val i L:=by
 obtain⟨es,⟨o,ep,t,p,ho,r⟩,m⟩:=g;exact⟨es,⟨o,ep,t,p,k o ho,r⟩,m⟩
theorem add_got {a:Addr}{val:Nat->Nat}{i:Nat}{L:Bool}{k:Tok}{Q:Bool->Shared->Prop}(g:Got s.heap a val i L)(hv:val i<16)(h:∀b h',SameBut a s.heap h'->Got h' a val (i+1) L->Q b { s with heap:=h' }) :
  wpAny (model prog w) A (setAddHashed a (.int (val i) k) ((intKind prog w).hash (val i:Int))) Q E s:=by
 obtain⟨es,S,m⟩:=g;refine jgE S hv (λhm=>?_) λhm h' dE same S' perm=>h true h' same ⟨dE,S',λx=>?_⟩
 ·have:=h false s.heap (Heap.SameBut.refl a s.heap) ⟨es,S,λx=>?_⟩
  ·exact this
  rw[m];constructor
  ·rintro⟨j,hj,e⟩;exact⟨j,by omega,e⟩
  ·rintro⟨j,hj,e⟩
   by_cases lU:j=i
   ·subst lU;rw[e];exact(m _).mp hm
   ·exact⟨j,by omega,e⟩
 ·rw[perm.mem_iff,mem_append,mem_singleton,m];constructor
  ·rintro(⟨j,hj,e⟩|e)
   ·exact⟨j,by omega,e⟩
   ·exact⟨i,by omega,e⟩
  ·rintro⟨j,hj,e⟩
   by_cases lU:j=i
   ·subst lU;exact .inr e
   ·exact .inl ⟨j,by omega,e⟩
theorem jkm {R:Result->Shared->Prop}{I:Addr}{fp wr:List Addr}{G:Array GenState->Array GenState->Prop}{n:Nat}{P:Nat->Value->Prop}{St:Nat->Shared->Prop}(W:WalksS prog w A.in1 I fp wr G n P St){a:Addr}(ha:a∉fp){Gt:Heap->Nat->Prop}(gk:∀{h h':Heap}{i:Nat},Gt h i->(∀b o,b∉wr->h.get? b=some o->h'.get? b=some o)->Gt h' i)(add:∀(i:Nat) (v:Value) (s:Shared) (E:tE0) (Q:Bool->Shared->Prop),P i v->Gt s.heap i->(∀b h' tk,SameBut a s.heap h'->s.toks<=tk->Gt h' (i+1)->Q b { s with heap:=h',toks:=tk })->wpAny (model prog w) A.in1 (setAdd a v) Q E s) :
  ∀(k i:Nat) (s:Shared),i+k=n->St i s->Gt s.heap i->(∀s',Moved (a::wr) G s s'->Gt s'.heap n->R (.ok (.ret .none)) s')->codeAny (model prog w) A (.builtin "set.update.loop" ⟨[.ref a,.ref I],[]⟩) R s:=by
 have more:∀b∈wr,b∈a::wr:=λb hb=>mem_cons_of_mem _ hb;intro k
 induction k with
 |zero=>
  intro i s hk st g hR;have hk:i=n:=hk;subst hk;refine codeAny_builtin F.entry_set_update_loop ?_;rw[Around.under_plainId F.plain_set_update_loop _];exact wpAny_bind (W.done s _ _ st λs' mv=>wpAny_pure (hR s' (mv.mono more) (gk g λb o hb e=>mv.heap b _ hb e)))
 |succ k ih=>
  intro i s hk st g hR;have lt:i<n:=by omega
  refine codeAny_builtin F.entry_set_update_loop ?_;rw[Around.under_plainId F.plain_set_update_loop _];refine wpAny_bind (W.item i s _ _ lt st λv s1 hp st1 mv=>?_);refine wpAny_bind (m:=holding [v] (setAdd a v)) (wpAny_holding (add i v s1 _ _ hp (gk g λb o hb e=>mv.heap b _ hb e) λb h2 tk same ht g2=>?_));refine wpAny_pure ⟨plainId_quiet F.plain_set_update_loop _,ih (i+1) _ (by omega) (W.frame _ s1 _ _ st1 ht λb hb o e=>?_) g2 λs3 mv3 g3=>hR s3 (Moved.trans W.gtrans ((mv.mono more).then_heap ht λb o hb e=>?_) mv3) g3⟩
  ·rw[same.2 b λz=>ha (z ▸ hb)];exact e
  ·rw[same.2 b λz=>hb (z ▸ mem_cons_self)];exact e
end
section
variable {prog:Program}{w:World}{A:Around}{E:tE0}{s:Shared}
abbrev byT (w:World):Bool:=w.params.followText "set-order"
abbrev set0 (w:World):Obj:={ cls:=.type "set",dict:=none,data:=.set #[] 0 (.fresh 0 0 (!byT w)) }
theorem sm0 (b:Bool):Sm #[] (.fresh 0 0 b) []:=⟨⟨rfl,rfl,rfl,.nil,rfl,.inl rfl,λx hx=>(by cases hx),λx hx=>(by cases hx)⟩,by show 0*5<7*3;decide,λe he=>by simp at he,by simp⟩
theorem got0 {h:Heap}{a:Addr}(e:h.get? a=some (set0 w))(val:Nat->Nat):Got h a val 0 (!byT w):=
 ⟨#[],⟨_,_,_,[],e,⟨rfl,rfl,rfl⟩,rfl,sm0 _,rfl⟩,λx=>⟨λz=>by simp at z,λ⟨_,h,_⟩=>absurd h (not_lt_zero _)⟩⟩
theorem jjc (x:Value){Q:tE0}(h:Q (.ref s.heap.objs.size) { s with heap:=s.heap.push (set0 w) }):codeAny (model prog w) A (.call (.builtin "set.__new__") ⟨[.type "set",x],[]⟩) (wants Q E) s:=by
 refine codeAny_of_tree (show wpAny _ A.in1 (checkBuiltinCall "set.__new__" ⟨[.type "set",x],[]⟩ >>= λ_=>again (.builtin "set.__new__" ⟨[.type "set",x],[]⟩)) _ _ s from ?_);refine wpAny_bind (wpAny_of_eq (F.newCall_set_1 x) (wpAny_pure ⟨plainId_quiet F.plain_set_new _,codeAny_builtin F.entry_set_new ?_⟩));rw[Around.under_plainId F.plain_set_new _];have hsub:=sub_set_self;unfold Builtin.«set.__new__» Builtin.Frozenset.newClass;obtain⟨h0,g0,d0,k0,o0⟩:=s;dsimp only
 wp_walk
 refine wpAny_askSetting (wpAny_pure ?_);dsimp only;simp only[newObj];exact wpAny_bind (wpAny_alloc (wpAny_pure (wpAny_pure h)))
set_option maxHeartbeats 3200000 in
theorem set_callG {l:Addr}{items:Array Value}{Gt:Heap->Nat->Prop}{Q:tE0}(hh:A.handled=none)(hl:s.heap.IsList l items)(gk:∀{h h':Heap}{i:Nat},Gt h i->(∀b o,b≠s.heap.objs.size+1->h.get? b=some o->h'.get? b=some o)->Gt h' i)(g0:∀h:Heap,h.get? s.heap.objs.size=some (set0 w)->(∀b o,s.heap.get? b=some o->h.get? b=some o)->Gt h 0)(add:∀(A':Around) (i:Nat) (v:Value) (s':Shared) (E:tE0) (Q:Bool->Shared->Prop),A'.units<=A.units+8->items[i]?= some v->Gt s'.heap i->(∀b h' tk,SameBut s.heap.objs.size s'.heap h'->s'.toks<=tk->Gt h' (i+1)->Q b { s' with heap:=h',toks:=tk })->wpAny (model prog w) A' (setAdd s.heap.objs.size v) Q E s')
  (h:∀(h':Heap) (tk:Nat),Gt h' items.size->(∀b o,b<s.heap.objs.size->s.heap.get? b=some o->h'.get? b=some o)->Q (.ref s.heap.objs.size) { s with heap:=h',toks:=tk }) :
  wpAny (model prog w) A (call (.type "set") [.ref l]) Q E s:=by
 obtain⟨N,hN⟩:∃N,N=s.heap.push (set0 w):=⟨_,rfl⟩
 have kS:N.objs.size=s.heap.objs.size+1:=by rw[hN,size_push]
 have atN:N.get? s.heap.objs.size=some (set0 w):=by rw[hN];exact get?_push_size _ rfl
 have fS:∀b o,s.heap.get? b=some o->N.get? b=some o:=λb o e=>by rw[hN];exact get?_push_of_some _ e
 have lsz:l<s.heap.objs.size:=by obtain⟨_,z,_⟩:=hl;exact lt_size z
 obtain⟨c,tl,hmro⟩:=F.called_set.mro;have hmade:=F.called_set.made;have hsub:=F.called_set.sub;have n1:=F.called_set.notType;have n2:=F.called_set.canCreate;have n3:=F.typeCall_set_1 (.ref l);refine wpAny_call (codeAny_of_tree (show wpAny _ _ (callAny (.type "set") _) _ _ _ from wpAny_pure ⟨Code.quiet_builtin _ (by decide +kernel),codeAny_builtin F.entry_type_call ?_⟩));rw[Around.under_plain (weight_type_call_type "set" [.ref l] []) rfl]
 repeat (any_goals (first|assumption|wp_step))
 refine codeAny_mono (jjc (.ref l) (E:=E) (Q:=λv s1=>v= .ref s.heap.objs.size/\s1={ s with heap:=N }) ⟨rfl,by rw[hN]⟩) λr s1 hr=>?_;cases r with
 |error e=>exact hr
 |ok fl=>
  cases fl with
  |ret v=>
   obtain⟨rfl,rfl⟩:=hr
   have ty:Shared.TypeIs { s with heap:=N } (.ref s.heap.objs.size) "set":=⟨_,atN,rfl⟩
   have i1:=F.called_set.init.lookup;have i2:=F.called_set.init.bind (.ref s.heap.objs.size)
   repeat (any_goals (first|assumption|wp_step))
   refine codeAny_mono (codeAny_call_builtin (R:=wants (λr s2=>r= .none/\∃h' tk,s2={ s with heap:=h',toks:=tk }/\Gt h' items.size/\∀b o,b<s.heap.objs.size->s.heap.get? b=some o->h'.get? b=some o) E) F.called_set.init.plain F.entry_set_init (check_set_init_1 ty ?_)) λr2 s2 hZ=>?_
   ·obtain⟨ol,hol,lg,nl,hdl⟩:=hl;obtain⟨ocls,odict,odata,oslots⟩:=ol;simp only at lg hdl;subst lg;subst hdl;have hol':=fS l _ hol;have z1:=F.sub_list_set;have z2:=F.sub_list_frozenset
    have z3:(Value.type "list"==Value.type "dict")=false:=by decide
    have isl:N.IsList l items:=⟨_,hol',rfl,nl,rfl⟩
    unfold Builtin.«set.__init__» noKeywords Builtin.Frozenset.updateFrom;generalize hPI:pyIter=PI
    wp_walk
    subst hPI;refine wpAny_pyIter_list isl (wpAny_bind (wpAny_runValue ?_));have cZ:l≠N.objs.size:=by rw[kS];exact ne_of_lt (lt_succ_of_lt lsz)
    have hh3:A.in1.in1.in1.handled=none:=by simp[hh]
    refine jkm ((Walks.list hh3 _ l cZ items).toS) (a:=s.heap.objs.size) (Gt:=Gt) ?_ (λg k=>gk g λb o hb e=>k b o (by
     simp only[mem_cons,mem_singleton,not_mem_nil,or_false];rw[kS];exact hb) e) (λi v s' E Q hp=>add _ i v s' E Q (by show A.units+1+1+1<=_;omega) hp) items.size 0 _ (zero_add _) ⟨⟨_,get?_push_size _ rfl,rfl,rfl⟩,isl.push _⟩ (g0 _ (get?_push_of_some _ atN) λb o e=>get?_push_of_some _ (fS b o e)) λs' mv g=>?_
    ·simp only[mem_cons,mem_singleton,not_mem_nil,or_false,not_or];exact⟨by rw[kS];exact ne_of_lt (lt_succ_self _),ne_of_gt lsz⟩
    ·obtain⟨h',g',d',tk',lC⟩:=s';have eg:g'=s.gens:=mv.gens;have ed:d'=s.drawn:=mv.drawn;have eo:lC=s.os:=mv.os;subst eg;subst ed;subst eo;refine wpAny_pure (wpAny_pure ⟨rfl,h',tk',rfl,g,λb o hb e=>mv.heap b o ?_ (get?_push_of_some _ (fS b o e))⟩);simp only[mem_cons,mem_singleton,not_mem_nil,or_false,not_or];exact⟨ne_of_lt hb,by rw[kS];exact ne_of_lt (lt_succ_of_lt hb)⟩
   ·cases r2 with
    |error e=>exact hZ
    |ok me=>
     cases me with
     |ret r=>
      obtain⟨rfl,h',tk,rfl,g,hk⟩:=hZ
      repeat (any_goals (first|assumption|wp_step))
      exact h _ _ g hk
     |next=>exact hZ.elim
     |brk=>exact hZ.elim
     |cont=>exact hZ.elim
  |next=>exact hr.elim
  |brk=>exact hr.elim
  |cont=>exact hr.elim
theorem set_call {l:Addr}{items:Array Value}{val:Nat->Nat}{Q:tE0}(hh:A.handled=none)(hl:s.heap.IsList l items)(hv:∀i v,items[i]?= some v->∃t,v=Value.int (val i) t)(hs:∀i,i<items.size->val i<16)(h:∀(h':Heap) (tk:Nat),Got h' s.heap.objs.size val items.size (!byT w)->(∀b o,b<s.heap.objs.size->s.heap.get? b=some o->h'.get? b=some o)->Q (.ref s.heap.objs.size) { s with heap:=h',toks:=tk }) :
  wpAny (model prog w) A (call (.type "set") [.ref l]) Q E s:=
 set_callG (Gt:=λh i=>Got h s.heap.objs.size val i (!byT w)) hh hl (λg k=>g.keep λo e=>k _ o (by omega) e) (λh e _=>got0 e val) (λA' i v s' E Q _ hp g h=>by
  obtain⟨t,rfl⟩:=hv i v hp;unfold setAdd
  exact wpAny_holding (wpAny_bind ((intKind prog w).pyHash (k:=(val i:Int)) (intKind_is _ _ _ _) (add_got (s:={ s' with toks:=s'.toks+1 }) g (hs i (Array.getElem?_eq_some_iff.mp hp).1) λb h2 same g2=>h b h2 _ same (le_succ _) g2)))) h
end
theorem YI:Slot "set_iterator" "__next__" "set_iterator.__next__" :=
 .of (owner:="set_iterator") (n:="__next__") (by rw[typeLookup_type,builtinLookup_eq_fast];kernel_rfl) (by decide +kernel) (by decide +kernel) (by decide +kernel) (by first|exact .inl (by decide +kernel)|exact .inr (by decide +kernel)) (by rw[isSubtype_type];kernel_rfl)
theorem jiJ:entryFor table "set_iterator.__next__" = some Builtin.«set_iterator.__next__»:=entryFor_of_tree (by kernel_rfl)
theorem jiK:entryFor table "set.__iter__" = some Builtin.«frozenset.__iter__»:=entryFor_alias (id':="frozenset.__iter__") (by kernel_rfl) (by first|rfl|decide +kernel) (by decide +kernel) (by kernel_rfl)
theorem jaQ:Manifest.owners.lookup (String.ofList ['r','o','t','a','r','e','t','i','_','t','e','s'].reverse)=some Manifest.sig_set_iterator:=by kernel_rfl
theorem jlw (a:Value):argsOk "set_iterator.__next__" ⟨[a],[]⟩:=by
 unfold argsOk;rw[signature?_of (id:="set_iterator.__next__") (n:=['_','_','t','x','e','n','_','_']) (o:=['r','o','t','a','r','e','t','i','_','t','e','s']) (by kernel_rfl) jaQ]
 kernel_rfl
theorem jls {p:List Nat}(pw:p.Pairwise (· < ·)):SetTable.below p.toArray 0=0:=by
 obtain⟨h1,h2,_⟩:=below_spec pw 0;generalize SetTable.below p.toArray 0=b at h1 h2
 cases b with
 |zero=>rfl
 |succ b=>
  cases p with
  |nil=>exact absurd h1 (by simp)
  |cons x p=>exact absurd (h2 x (by simp)) (not_lt_zero _)
theorem jdh {p:List Nat}(pw:p.Pairwise (· < ·)){i j:Nat}(e:p[i]?= some j):SetTable.below p.toArray (j+1)=i+1:=by
 obtain⟨h1,h2,h3⟩:=below_spec pw (j+1);generalize SetTable.below p.toArray (j+1)=b at h1 h2 h3;obtain⟨hi,e⟩:=List.getElem?_eq_some_iff.mp e
 have a:i<b:=by
  refine Nat.lt_of_not_le λhb=>?_
  have:=h3 j (by rw[<-e];exact List.mem_iff_getElem.mpr ⟨i-b,by rw[length_drop];omega,by rw[List.getElem_drop];congr 1;omega⟩)
  omega
 have c:b<=i+1:=by
  refine le_of_not_lt λhb=>?_;have cz:i+1<p.length:=by omega
  have h4:=h2 p[i+1] (List.mem_iff_getElem.mpr ⟨i+1,by rw[length_take];omega,by rw[getElem_take]⟩);have h5:=List.pairwise_iff_getElem.mp pw i (i+1) hi cz (lt_succ_self _);omega
 omega
structure Sx (es:tA0)(t:SetTable)(p:List Nat):Prop where
 pl:t.place=p.toArray
 pn:t.plain=true
 pw:p.Pairwise (· < ·)
 sz:p.length=es.size
 fit:t.fits es.size=true
theorem Sm.x {es:tA0}{t:SetTable}{p:List Nat}(S:Sm es t p):Sx es t p:=⟨S.g.pl,S.g.pn,S.g.pw,S.g.sz,S.fit⟩
section
variable {prog:Program}{w:World}{A:Around}{E:tE0}{s:Shared}
def jbP (h:Heap)(it a:Addr)(slot i n ep:Nat):Prop:=∃o,h.get? it=some o/\o.cls= .type "set_iterator"/\o.data= .fields #[rawInt slot,rawInt i,.ref a,rawInt n,rawInt ep]
theorem jql {a:Addr}{o:Obj}{es:tA0}{ep:Nat}{t:SetTable}{p:List Nat}{Q:tE0}(ho:s.heap.get? a=some o)(hx:o.ExactSet)(hd:o.data= .set es ep t)(S:Sx es t p)(hQ:Q (.ref s.heap.objs.size) { s with heap:=s.heap.push { cls:=.type "set_iterator",data:=.fields #[rawInt 0,rawInt 0,.ref a,rawInt es.size,rawInt ep] } }):wpAny (model prog w) A (pyIter (.ref a)) Q E s:=by
 have hT:s.TypeIs (.ref a) "set":=⟨o,ho,hx.1⟩
 have hf:=S.fit;refine wpAny_pyIter_slot hT F.slot_set_iter (wpAny_call_entry F.slot_set_iter hT jiK ?_ (F.args_set_iter_1 _));unfold Builtin.«frozenset.__iter__» Builtin.Frozenset.slot0 slotArgs;simp only[isEmpty_nil,Bool.not_true,false_eq_true,↓reduceIte,bind_assoc,length_nil,bne_self_eq_false];unfold Builtin.Frozenset.addrOf Builtin.Frozenset.sizeOf;refine wpAny_bind (wpAny_pure ?_)
 try dsimp only
 refine wpAny_bind (wpAny_pure ?_);refine wpAny_bind (wpAny_bind (wpAny_setEntries_of ho hd hf (wpAny_pure ?_)));have hdr:wpAny (model prog w) A.in1 (setDrawn a) (λb s'=>b=false/\s'=s) E s:=by
  unfold setDrawn setsByText;refine wpAny_bind (wpAny_setState_of ho hd hf (wpAny_bind (wpAny_bind (wpAny_askSetting (wpAny_pure (wpAny_pure ⟨?_,rfl⟩))))));show(_ && (!t.plain && _))=false;rw[S.pn];simp
 refine wpAny_bind (wpAny_mono hdr (λb s' hb=>?_) λ_ _ h=>h);obtain⟨rfl,rfl⟩:=hb;simp only[false_eq_true,↓reduceIte];refine wpAny_bind (wpAny_pure (wpAny_bind (wpAny_setEpoch_of ho hd hf ?_)));unfold newFields;exact wpAny_bind (wpAny_newObj_type (wpAny_pure ⟨_,rfl,"set_iterator",_,⟨_,get?_push_size _ rfl,rfl⟩,YI.lookup,hQ⟩))
theorem jbP.ty {it a:Addr}{slot i n ep:Nat}(h:jbP s.heap it a slot i n ep):s.TypeIs (.ref it) "set_iterator":=by
 obtain⟨o,ho,hc,_⟩:=h;exact⟨o,ho,hc⟩
theorem jbP.at {h h':Heap}{it a:Addr}{slot i n ep:Nat}(x:jbP h it a slot i n ep)(k:∀o,h.get? it=some o->h'.get? it=some o):jbP h' it a slot i n ep:=by
 obtain⟨o,ho,r⟩:=x;exact⟨o,k o ho,r⟩
def ord (w:World)(a:Addr)(ep:Nat)(es:tA0):Array (Int×Value):=if byT w=true then pickOrder (w.params.setOrder a ep) es else es
def jbV (w:World)(t:SetTable)(slot i:Nat):Prop:=byT w=true\/SetTable.below t.place slot=i
theorem jkI {a:Addr}{o:Obj}{es:tA0}{ep:Nat}{t:SetTable}{p:List Nat}{slot i:Nat}{Q:Option (Value×Nat)->Shared->Prop}(ho:s.heap.get? a=some o)(hd:o.data= .set es ep t)(S:Sx es t p)(hL:t.led= !byT w)(hA:jbV w t slot i)(h1:∀e nx,(ord w a ep es)[i]?= some e->jbV w t nx (i+1)->Q (some (e.2,nx)) s) (h2:(ord w a ep es)[i]?= none->Q none s):wpAny (model prog w) A (setNext a slot i ep) Q E s:=by
 have hf:=S.fit;unfold setNext;refine wpAny_bind (wpAny_setState_of ho hd hf ?_);dsimp only;unfold setsByText;refine wpAny_bind (wpAny_bind (wpAny_askSetting (wpAny_pure ?_)));dsimp only
 by_cases hb:byT w=true
 ·rw[if_pos (show(model prog w).w.params.followText "set-order" = true from hb),if_neg (by simp)];have fG:ord w a ep es=pickOrder (w.params.setOrder a ep) es:=if_pos hb;rw[fG]at h1 h2;unfold setWalk setsByText;refine wpAny_bind (wpAny_bind (wpAny_setState_of ho hd hf ?_));dsimp only;refine wpAny_bind (wpAny_bind (wpAny_askSetting (wpAny_pure ?_)));dsimp only;rw[if_pos (show(model prog w).w.params.followText "set-order" = true from hb)];refine wpAny_bind (wpAny_askSetting (wpAny_pure (wpAny_pure ?_)));show Q (map (λe=>(e.2,slot)) (pickOrder (w.params.setOrder a ep) es)[i]?) s;cases e:(pickOrder (w.params.setOrder a ep) es)[i]? with
  |none=>exact h2 e
  |some x=>exact h1 x slot e (.inl hb)
 ·rw[if_neg (show ¬(model prog w).w.params.followText "set-order" = true from hb)];have fG:ord w a ep es=es:=if_neg hb;rw[fG]at h1 h2;split
  ·rename_i h;exact absurd h (by
    show ¬((!t.plain && _)=true);rw[S.pn];simp)
  ·refine wpAny_bind (show wpAny _ _ (if(!t.led && !es.isEmpty)=true then unsupported "set:maker-not-led" else pure ()) _ _ _ from ?_)
   have:byT w=false:=by simpa using hb
   rw[hL,this,if_neg (by simp)];refine wpAny_pure (wpAny_pure ?_);have f7:SetTable.below t.place slot=i:=hA.resolve_left hb;rw[f7,S.pl]
   by_cases hi:i<es.size
   ·have hp:i<p.length:=by rw[S.sz];exact hi
    have e1:es[i]?= some es[i]:=Array.getElem?_eq_getElem hi;have e2:p.toArray[i]?= some p[i]:=by rw[getElem?_toArray];exact getElem?_eq_getElem hp
    rw[e1,e2];exact h1 es[i] (p[i]+1) (Array.getElem?_eq_getElem hi) (.inr (by rw[S.pl];exact jdh S.pw (getElem?_eq_getElem hp)))
   ·have e1:es[i]?= none:=Array.getElem?_eq_none (by omega);rw[e1];exact h2 e1
theorem jlH {it a:Addr}{o:Obj}{es:tA0}{ep:Nat}{t:SetTable}{p:List Nat}{slot i:Nat}{Q:Option Value->Shared->Prop}(hh:A.handled=none)(hit:jbP s.heap it a slot i es.size ep)(ho:s.heap.get? a=some o)(hd:o.data= .set es ep t)(S:Sx es t p)(hL:t.led= !byT w)(hA:jbV w t slot i)(h1:∀e nx h',(ord w a ep es)[i]?= some e->jbV w t nx (i+1)->jbP h' it a nx (i+1) es.size ep->SameBut it s.heap h'->Q (some e.2) { s with heap:=h' }) (h2:(ord w a ep es)[i]?= none->∀h',ExtBut it s.heap h'->Q none { s with heap:=h' }) :
  wpAny (model prog w) A (pyNext (.ref it)) Q E s:=by
 have hf:=S.fit;obtain⟨oi,h9,hc,g9⟩:=id hit;unfold pyNext;refine wpAny_bind (wpAny_attempt (wpAny_callSpecial?_slot (name:=Str.ofString "__next__") hit.ty YI (wpAny_call_entry YI hit.ty jiJ ?_ (jlw _))));unfold Builtin.«set_iterator.__next__» slotArgs;simp only[isEmpty_nil,Bool.not_true,false_eq_true,↓reduceIte,bind_assoc,length_nil,bne_self_eq_false];refine wpAny_bind (wpAny_pure ?_);dsimp only;refine wpAny_bind (wpAny_fieldsOf h9 g9 ?_);simp only[rawInt]at g9 ⊢;refine wpAny_bind (wpAny_setEntries_of ho hd hf ?_);rw[if_neg (by simp)];simp only[Int.toNat_natCast];refine wpAny_bind (jkI ho hd S hL hA (λe nx he ha=>?_) λhe=>?_)
 ·dsimp only;have d1:=Obj.data_mapFields g9 (·.setIfInBounds 0 (Value.int nx 0));have g1:=get?_update_self (Obj.mapFields (·.setIfInBounds 0 (Value.int nx 0))) h9 (Obj.isFreed_of_fields d1);refine wpAny_bind (wpAny_setField h9 g9 (by simp) ?_);have d2:=Obj.data_mapFields d1 (·.setIfInBounds 1 (Value.int ((i:Int)+1) 0));have g2:=get?_update_self (Obj.mapFields (·.setIfInBounds 1 (Value.int ((i:Int)+1) 0))) g1 (Obj.isFreed_of_fields d2);refine wpAny_bind (wpAny_setField g1 d1 (by simp) ?_);refine wpAny_pure ⟨_,rfl,wpAny_pure (h1 e nx _ he ha ⟨_,g2,?_,?_⟩ ((Heap.SameBut.update ..).trans (Heap.SameBut.update ..)))⟩
  ·rw[Obj.cls_mapFields,Obj.cls_mapFields];exact hc
  ·rw[d2];simp[rawInt]
 ·dsimp only;refine wpAny_bind (wpAny_setField h9 g9 (by simp) ?_);simp only[newExc,newTuple];refine wpAny_bind (wpAny_bind (wpAny_newObj_type ?_ (by size_fits)));refine wpAny_bind (m:=firstArgMember _ _) (wpAny_of_eq (a:=Value.none) (by first|rfl|(simp only[firstArgMember];rfl)) ?_);refine wpAny_newObj_type ?_ (by size_fits);simp only[raiseNew];refine wpAny_bind (wpAny_handled ?_);rw[show A.in1.handled=none from hh];refine wpAny_bind (wpAny_pure (wpAny_throw ?_));refine wpAny_bind (wpAny_isInstance (T:="StopIteration") (b:=true) ⟨_,get?_push_size _ rfl,rfl⟩ isSubtype_stop ?_);exact wpAny_pure (h2 he _ (((Heap.SameBut.update ..).extBut.push _).push _))
end
open PySem.W
theorem jav:Slot "set_iterator" "__iter__" "set_iterator.__iter__" :=
 .of (owner:="set_iterator") (n:="__iter__") (by rw[typeLookup_type,builtinLookup_eq_fast];kernel_rfl) (by decide +kernel) (by decide +kernel) (by decide +kernel) (by first|exact .inl (by decide +kernel)|exact .inr (by decide +kernel)) (by rw[isSubtype_type];kernel_rfl)
theorem jgp:entryFor table "set_iterator.__iter__" = some Builtin.«dict_keyiterator.__iter__»:=entryFor_alias (id':="dict_keyiterator.__iter__") (by kernel_rfl) (by first|rfl|decide +kernel) (by decide +kernel) (by kernel_rfl)
theorem jjk (a:Value):argsOk "set_iterator.__iter__" ⟨[a],[]⟩:=by
 unfold argsOk;rw[signature?_of (id:="set_iterator.__iter__") (n:=['_','_','r','e','t','i','_','_']) (o:=['r','o','t','a','r','e','t','i','_','t','e','s']) (by kernel_rfl) jaQ]
 kernel_rfl
theorem jeo {α:Type}(next:Nat->Nat):∀(n k:Nat) (left:List α) (out:Array α),left.length=n->(pickOrder.go next n k left out).toList.Perm (out.toList++left)
 |0,k,left,out,h=>by
  rw[eq_nil_of_length_eq_zero h,append_nil];unfold pickOrder.go;exact .rfl
 |n+1,k,left,out,h=>by
  have hl:next k%left.length<left.length:=mod_lt _ (by omega);unfold pickOrder.go;rw[getElem?_eq_getElem hl];dsimp only;refine(jeo next n (k+1) _ _ (by rw[List.length_eraseIdx_of_lt hl];omega)).trans ?_;rw[toList_push,append_assoc];refine List.Perm.append_left _ ?_;rw[List.eraseIdx_eq_take_drop_succ]
  conv=>rhs;rw[<-take_append_drop (next k%left.length) left,List.drop_eq_getElem_cons hl]
  exact(List.perm_middle (a:=left[next k%left.length]) (l₁:=left.take (next k%left.length)) (l₂:=left.drop (next k%left.length+1))).symm
theorem jfV {α:Type}(next:Nat->Nat)(xs:Array α):(pickOrder next xs).toList.Perm xs.toList:=by
 have:=jeo next xs.size 0 xs.toList #[] (by rw[length_toList])
 unfold pickOrder;simpa using this
theorem ord_perm (w:World)(a:Addr)(ep:Nat)(es:tA0):(ord w a ep es).toList.Perm es.toList:=by
 unfold ord;split
 ·exact jfV _ _
 ·exact .rfl
section
variable {prog:Program}{w:World}{A:Around}{E:tE0}{s:Shared}
theorem jqq {r:Addr}{Q:Bool->Shared->Prop}(hT:s.TypeIs (.ref r) "set")(h:Q false s):wpAny (model prog w) A (Builtin.List.listLengthHint (.ref r)) Q E s:=by
 unfold Builtin.List.listLengthHint;refine wpAny_bind (wpAny_specialOf hT F.slot_set_len.lookup ?_);generalize hid:("set.__len__":String)=id0
 wp_delta
 rw[show splitId id0=some ("set","__len__")from by subst hid;decide +kernel];subst hid;refine wpAny_bind (wpAny_isInstance (T:="set") (b:=true) hT (by rw[isSubtype_type];kernel_rfl) ?_);refine wpAny_ite_split (λfA=>absurd fA (by decide)) (λ_=>?_);refine wpAny_ite_split (λ_=>?_) (λfA=>absurd (by decide +kernel) fA);exact wpAny_bind (wpAny_typeOf hT (wpAny_pure h))
theorem jaR {a:Addr}{ep:Nat}{es:tA0}:(ord w a ep es).size=es.size:=by
 rw[<-length_toList,(ord_perm w a ep es).length_eq,length_toList]
theorem jme (hh:A.handled=none){I a:Addr}(cZ:a≠I){o:Obj}{es:tA0}{ep:Nat}{t:SetTable}{p:List Nat}(hd:o.data= .set es ep t)(S:Sx es t p)(hL:t.led= !byT w) :
  Walks prog w A I [I,a] [I] es.size (λi v=>∃e,(ord w a ep es)[i]?= some e/\v=e.2) (λi h=>∃slot,jbP h I a slot i es.size ep/\h.get? a=some o/\jbV w t slot i) where
 sub:=λb hb=>by simp at hb;simp[hb]
 frame:=λ_ _ _ st hk=>by
  obtain⟨slot,h1,h2,h3⟩:=st;exact⟨slot,h1.at λo e=>hk I (by simp) o e,hk a (by simp) _ h2,h3⟩
 item:=λi s Q E hi st hQ=>by
  obtain⟨slot,h1,h2,h3⟩:=st;refine jlH hh h1 h2 hd S hL h3 (λe nx h' he ha hit same=>?_) λhe=>?_
  ·exact hQ _ h' s.toks ⟨e,he,rfl⟩ ⟨nx,hit,(same.2 a cZ).trans h2,ha⟩ λb o hb e=>same.extBut b o (λh=>hb (by simp[h])) e
  ·have:=Array.getElem?_eq_none_iff.mp he
   rw[jaR]at this;omega
 done:=λs Q E st hQ=>by
  obtain⟨slot,h1,h2,h3⟩:=st;refine jlH hh h1 h2 hd S hL h3 (λe nx h' he ha hit same=>?_) λhe h' ext=>hQ h' s.toks λb o hb e=>ext b o (λh=>hb (by simp[h])) e
  have:=(Array.getElem?_eq_some_iff.mp he).1
  rw[jaR]at this;omega
 self:=λ_ _ _ _ st hQ=>by
  obtain⟨slot,h1,h2,h3⟩:=st;exact wpAny_pyIter_slot h1.ty jav (wpAny_call_entry jav h1.ty jgp (wpAny_pure ⟨_,rfl,"set_iterator",_,h1.ty,YI.lookup,hQ⟩) (jjk _))
theorem srcS {a:Addr}{o:Obj}{es:tA0}{ep:Nat}{t:SetTable}{p:List Nat}(hx:o.ExactSet)(hd:o.data= .set es ep t)(S:Sx es t p)(hL:t.led= !byT w):KdlSrc prog w "set" a a es.size (λi v=>∃e,(ord w a ep es)[i]?= some e/\v=e.2) (λh=>h.get? a=some o) where
 type:=λ_ ho=>⟨o,ho,hx.1⟩
 there:=λ_ ho=>⟨lt_size ho,lt_size ho⟩
 keep:=λ_ _ ho hk=>hk a (.inl rfl) _ ho
 notList:=by decide
 notTuple:=by decide
 hint:=λ_ _ _ _ ho hq=>jqq ⟨o,ho,hx.1⟩ hq
 iter:=λ_ _ hh ho=>⟨_,_,(λ_ _ hq=>jql ho hx hd S hq),jme hh (ne_of_lt (lt_size ho)) hd S hL,⟨0,⟨_,get?_push_size _ rfl,rfl,rfl⟩,get?_push_of_some _ ho,.inr (by rw[S.pl];exact jls S.pw)⟩⟩
end
end Sml
namespace L2
open PySem PySem.Spec PyProof.Rows PySem.W
def valN (ns:List Int)(i:Nat):Nat:=(ns.getD i 0).toNat
def yB (w:World)(a:Addr)(ns:List Int):HO:=.ext λh=>Sml.Got h a (valN ns) ns.length (!Sml.byT w)
def yV (ns:List Int):List Int:=((List.range 16).map λk:Nat=>(k:Int)).filter λx=>decide (x∈ns)
theorem jei:∀(l m:List Int),l.Pairwise (· < ·)->m.Pairwise (· < ·)->(∀x,x∈l↔x∈m)->l=m
 |[],[],_,_,_=>rfl
 |[],b::m,_,_,h=>by cases (h b).mpr mem_cons_self
 |a::l,[],_,_,h=>by cases (h a).mp mem_cons_self
 |a::l,b::m,pl,pm,h=>by
  obtain⟨l1,l2⟩:=List.pairwise_cons.mp pl;obtain⟨m1,m2⟩:=List.pairwise_cons.mp pm
  have e:a=b:=by
   rcases List.mem_cons.mp ((h a).mp mem_cons_self)with e|e
   ·exact e
   ·rcases List.mem_cons.mp ((h b).mpr mem_cons_self)with e'|e'
    ·exact e'.symm
    ·have h1:=m1 a e;have h2:=l1 b e';omega
  subst e;rw[jei l m l2 m2 λx=>?_];constructor
  ·intro hx
   have:=l1 x hx
   rcases List.mem_cons.mp ((h x).mp (mem_cons_of_mem _ hx))with e|e
   ·omega
   ·exact e
  ·intro hx
   have:=m1 x hx
   rcases List.mem_cons.mp ((h x).mpr (mem_cons_of_mem _ hx))with e|e
   ·omega
   ·exact e
theorem jcb (ns:List Int):(yV ns).Pairwise (· < ·):=List.Pairwise.filter _ (List.pairwise_map.mpr (List.pairwise_lt_range.imp λh=>by omega))
theorem jfG {ns:List Int}(h:∀n∈ns,0<=n/\n<16)(x:Int):x∈yV ns↔x∈ns:=by
 unfold yV;rw[mem_filter,decide_eq_true_eq];refine⟨λz=>z.2,λz=>⟨List.mem_map.mpr ⟨x.toNat,List.mem_range.mpr ?_,?_⟩,z⟩⟩
 ·have:=h x z;omega
 ·have:=h x z;omega
theorem jjN {ns:List Int}(h:∀n∈ns,0<=n/\n<16)(x:Int):(∃j,j<ns.length/\x=(valN ns j:Int))↔x∈ns:=by
 have g:∀j (hj:j<ns.length),(valN ns j:Int)=ns[j]:=λj hj=>by
  unfold valN;rw[getD_eq_getElem?_getD,getElem?_eq_getElem hj]
  have:=h ns[j] (getElem_mem hj)
  show((ns[j].toNat:Nat):Int)=_;omega
 constructor
 ·rintro⟨j,hj,e⟩;rw[e,g j hj];exact getElem_mem hj
 ·intro hx;obtain⟨j,hj,e⟩:=getElem_of_mem hx;exact⟨j,hj,by rw[g j hj,e]⟩
section
variable {X:Cx}
theorem Uh {P:Program}{w:World}{H:Hp}{h:Heap}{a:Addr}{ns:List Int}(g:Sml.Got h a (valN ns) ns.length (!Sml.byT w)):yl P w H h a (yB w a ns):=by
 refine⟨g,?_,λh1 h2 g1 k=>g1.keep k⟩;obtain⟨es,⟨o,ep,t,p,ho,_⟩,_⟩:=g;exact⟨o,ho⟩
theorem jgw (hc:X.calm=true):yK X (.type "set") (λxs H Q=>∃(p:Addr) (ns:List Int),xs=[.ref p]/\SqL X.K H p (ns.map V.int)/\(∀n∈ns,0<=n/\n<16)/\∀l:Addr,H l=none->Q (.ref l) (upd H l (yB X.w l ns))):=by
 intro bF s σ H xs us Q I r h;obtain⟨p,ns,rfl,hq,hb,q⟩:=h;obtain⟨u,rfl,rx⟩:=vals1 r;cases rx;obtain⟨its,r',pl,hz⟩:=I.list hq;have hI:=UI r';have bM:=r'.length;rw[length_map]at bM;have e1:its.toArray.size=ns.length:=by rw[size_toArray];omega
 have hv:∀i v,its.toArray[i]?= some v->∃t,v=Value.int (valN ns i) t:=λi v e=>by
  have hi:i<ns.length:=by
   have:=(Array.getElem?_eq_some_iff.mp e).1
   omega
  obtain⟨t,e2⟩:=IntsAre.int_at hI i v (by rw[<-getElem?_toList]at e;exact e);refine⟨t,?_⟩;rw[e2];unfold valN;rw[getD_eq_getElem?_getD,getElem?_eq_getElem hi]
  have:=hb ns[i] (getElem_mem hi)
  show Value.int ns[i] t=Value.int ((ns[i].toNat:Nat):Int) t;rw[show((ns[i].toNat:Nat):Int)=ns[i] by omega]
 refine Sml.set_call (val:=valN ns) (I.ok.hd hc) pl.isList hv (λi hi=>?_) λh' tk g hk=>?_
 ·rw[e1]at hi;unfold valN;rw[getD_eq_getElem?_getD,getElem?_eq_getElem hi]
  have:=hb ns[i] (getElem_mem hi)
  show ns[i].toNat<16;omega
 ·rw[e1]at g;exact⟨.ref s.heap.objs.size,_,I.laid (a:=s.heap.objs.size) (o:=yB X.w _ ns) (t':=tk) (λb o z=>hk b o (lt_size z) z) (le_refl _) (Uh g),rfl,q _ (I.hok.fresh (le_refl _))⟩
theorem Jy (hc:X.calm=true):yK X (.builtin "sorted") (λxs H Q=>∃(p:Addr) (ns:List Int),xs=[.ref p]/\H p=some (yB X.w p ns)/\(∀n∈ns,0<=n/\n<16)/\∀l:Addr,H l=none->Q (.ref l) (upd H l (.lst ((yV ns).map V.int)))):=by
 intro bF s σ H xs us Q I r h;obtain⟨p,ns,rfl,hq,hb,q⟩:=h;obtain⟨u,rfl,rx⟩:=vals1 r;cases rx
 obtain⟨⟨es,⟨o,ep,t,pl,ho,hx,hd,S,hL⟩,hm⟩,_⟩:=(show yl X.prog X.w H s.heap p (yB X.w p ns)from I.hok p _ hq)
 obtain⟨ks,d9⟩:∃ks,ks=(Sml.ord X.w p ep es).toList.map (·.1):=⟨_,rfl⟩
 have dH:ks.Perm (es.toList.map (·.1)):=by rw[d9];exact(Sml.ord_perm X.w p ep es).map _
 have hsz:=S.small;have bM:ks.length=es.size:=by rw[dH.length_eq,length_map,length_toList]
 have intsI:∀(ms:List Int) (vs:List Value),vs.length=ms.length->(∀(j:Nat) (v:Value),vs[j]?= some v->∃n t,ms[j]?= some n/\v=Value.int n t)->IntsAre vs ms:=by
  intro ms
  induction ms with
  |nil=>intro vs h _;cases vs with|nil=>exact .nil|cons _ _=>cases h
  |cons m ms ih=>
   intro vs h hp;cases vs with
   |nil=>cases h
   |cons v vs=>
    obtain⟨n,t,e1,e2⟩:=hp 0 v rfl;cases e1;subst e2;exact .cons _ _ (ih vs (by simpa using h) λj v e=>hp (j+1) v (by simpa using e))
 refine Srt.sorted_src (ns:=ks) (Sml.srcS hx hd S.x hL) (I.ok.hd hc) ho (by omega) (λvs hv hp=>intsI _ _ (by omega) λj v e=>?_) λh' tk a e out gS k1 z1 g a1 a2 a3=>?_
 ·obtain⟨x,e1,e2⟩:=hp j v e;have hx:x∈es.toList:=(Sml.ord_perm X.w p ep es).mem_iff.mp (mem_of_getElem? (by rw[getElem?_toList];exact e1));obtain⟨n,k,_,rfl⟩:=S.el x hx;exact⟨(n:Int),k,by rw[d9,getElem?_map,getElem?_toList,e1];rfl,e2⟩
 ·have nd:gS.Nodup:=(a2.trans dH).nodup_iff.mpr S.nd;have gQ:gS.Pairwise (· < ·):=by
   have:=List.pairwise_iff_getElem.mp a3
   refine List.pairwise_iff_getElem.mpr λi j hi hj eA=>?_;have h1:=this i j hi hj eA;have h2:=List.pairwise_iff_getElem.mp nd i j hi hj eA;omega
  have dE:gS=yV ns:=jei _ _ gQ (jcb ns) λx=>by rw[(a2.trans dH).mem_iff,hm,jjN hb,jfG hb]
  subst dE;have d8:(yV ns).length=es.size:=by rw[a2.length_eq,bM]
  refine⟨.ref a,_,I.laid (a:=a) (o:=.lst ((yV ns).map V.int)) (h':=h') (t':=tk) k1 z1 ?_,rfl,q a (I.hok.fresh z1)⟩;refine⟨by rw[length_map,sizeLine_eq];omega,out.toList,e,VX a1,?_⟩;rw[g]
end
end L2
namespace L3
open PySem L2
def uA (ns:List Int):Bool:=ns.all λn=>decide (0<=n) && decide (n<16)
theorem JJ {ns:List Int}(h:uA ns=true):∀n∈ns,0<=n/\n<16:=λn hn=>by
 have:=List.all_eq_true.mp h n hn
 rw[and_eq_true,decide_eq_true_eq,decide_eq_true_eq]at this;exact this
def jcV (d:DE):DE:=λρ M=>(d ρ M).bind λx M1=>match jcH M1 x with
 |some ns=>if uA ns=true then .ok (.lst ((yV ns).map PV.int)) M1 else .bad
 |none=>.bad
section
variable {X:Cx}{T:Tb}{ES:St->XK}{e:Expr}{d:DE}{p p2 pos dF:Pos}
theorem jhr (hT:T.K=X.K)(hc:X.calm=true)(hg:Gl X "sorted")(hm:X.mg "sorted" = none)(hv:bootBuiltins "sorted" = some (.builtin "sorted"))(lX:Gl X "set")(iF:X.mg "set" = none)(gU:bootBuiltins "set" = some (.type "set"))(he:QE X T ES e d)(cQ:starEach [e] X.env=[(false,eval e X.env)]:=by rfl) (cY:starEach [.Call (.Name "set" p2) [e] [] dF] X.env=[(false,eval (.Call (.Name "set" p2) [e] [] dF) X.env)]:=by rfl) :
  QE X T ES (.Call (.Name "sorted" p) [.Call (.Name "set" p2) [e] [] dF] [] pos) (jcV d):=
 ⟨jN (Ja (Jy hc) hg hm hv (uo (JS (jgw hc) lX iF gU (uo he.h JT (by rw[cQ];rfl)) (by decide) (by decide) (by rw[cQ];rfl) (by rfl)) JT (by rw[cY];rfl)) (by decide) (by decide) (by rw[cY];rfl) (by rfl)) λσ H Q bH=>jC bH λW ρ M k hh hs q=>⟨W,ρ,M,k,hh,hs,yh.bind q λW1 M1 x v H1 l1 h1 r1 q1=>by
  split at q1
  rotate_left
  ·exact q1.elim
  rename_i ns e1;split at q1
  rotate_left
  ·exact q1.elim
  rename_i hz;obtain⟨a,rfl,ha⟩:=jkR h1 r1 e1;refine⟨a,ns,rfl,SqL.of ha,JJ hz,λl hl=>⟨l,ns,rfl,jr,JJ hz,λl2 km=>?_⟩⟩;obtain⟨l4,h4,f4⟩:=h1.frz (o:=yB X.w l ns) hl;obtain⟨l5,h5,f5⟩:=h4.frz (o:=.lst ((yV ns).map V.int)) km;exact q1 _ _ _ (l4.trans l5) h5 ⟨l2,_,rfl,f5,yd.ints.mpr rfl⟩⟩⟩
end
end L3
namespace L2
open PySem PySem.Spec PyProof.Rows
section
variable {prog:Program}{w:World}{A:Around}{R:Result->Shared->Prop}{s:Shared}
theorem jca {kx:Expr}{gens:tC0}{scope:Scope}{pos:Pos}{d:Nat}{it acc:Value}{env:Env}{bG iter:Expr}(h0:gens[d]?= some ⟨bG,iter,[],0⟩)(h:codeAny (model prog w) A (.compLoop (.SetComp kx gens scope pos) d it acc env) R s)(hi:∀E,wpAny (model prog w) A (pyIter it) (λd5 s'=>codeAny (model prog w) A (.compLoop (.SetComp kx gens scope pos) d d5 acc env) R s') E s) :
  codeAny (model prog w) A (.compStart (.SetComp kx gens scope pos) d it acc env) R s:=by
 refine codeAny_of_tree ?_;show wpAny _ A ((compStart (.SetComp kx gens scope pos) d it acc env).onRaise (λx=>do noteFrame x env;standAt theWindowsPlace)) _ _ s;refine wpAny_onRaise ?_;unfold compStart;have hc:(clausesOf (.SetComp kx gens scope pos))[d]?= some ⟨bG,iter,[],0⟩:=h0;rw[hc];rw[if_neg (by simp)];refine wpAny_bind (wpAny_askSetting ?_);split
 ·exact wpAny_pure ⟨rfl,h⟩
 ·refine wpAny_bind (wpAny_rule ?_);refine wpAny_bind (wpAny_standAt ?_);exact wpAny_bind (wpAny_mono (hi _) (λd5 s' h'=>wpAny_pure ⟨rfl,h'⟩) λ_ _ z=>z)
theorem jcE {kx:Expr}{gens:tC0}{scope:Scope}{pos:Pos}{d:Nat}{it acc:Value}{env:Env}{bG iter cN cP:Expr}(h0:gens[d]?= some ⟨bG,iter,[],0⟩)(h1:gens[d+1]?= some ⟨cN,cP,[],0⟩)(hs:∀x,foldedSetIterable cP env x=pure x) (I:Nat->Shared->Prop)(bZ:∀n s,I n s->wpAny (model prog w) A (pyNext it) (λr b6=>match r with
   |none=>R (.ok .next) b6
   |some v=>wpAny (model prog w) A (letOwnedTupleGo bG it v) (λ_ bw=>wpAny (model prog w) A (assign bG env v) (λ_ b9=>
     wpAny (model prog w) A (eval cP env) (λx b3=>wpAny (model prog w) A (pyIter x) (λd5 bt=>
      codeAny (model prog w) A (.compStart (.SetComp kx gens scope pos) (d+1) d5 acc env) (λr b8=>match r with
       |.ok _=>∃m,m<n/\I m b8
       |.error _=>False) bt) (λ_ _=>False) b3) (λ_ _=>False) b9) (λ_ _=>False) bw) (λ_ _=>False) b6) (λ_ _=>False) s)
  (n:Nat) (h:I n s):codeAny (model prog w) A (.compLoop (.SetComp kx gens scope pos) d it acc env) R s:=by
 refine codeAny_loop rfl I (λn s hI=>?_) n h;show wpAny _ A ((compTurn (.SetComp kx gens scope pos) d it acc env).onRaise (λx=>do noteFrame x env;theTreesLotGoes x)) _ _ s;refine wpAny_noted ?_;unfold compTurn;simp only[h0,h1,hs];refine wpAny_bind (wpAny_standAt ?_);rw[if_neg (by simp)];refine wpAny_bind (wpAny_mono (bZ n s hI) (λr b6 b7=>?_) λ_ _ h'=>h'.elim);cases r with
 |none=>exact wpAny_pure b7
 |some v=>
  refine wpAny_bind (wpAny_mono b7 (λ_ bw bz=>?_) λ_ _ h'=>h'.elim);refine wpAny_bind (wpAny_mono bz (λ_ b9 bu=>?_) λ_ _ h'=>h'.elim);refine wpAny_bind (wpAny_tests_nil ?_);rw[if_pos rfl];refine wpAny_bind (wpAny_mono bu (λx b3 bC=>?_) λ_ _ h'=>h'.elim);refine wpAny_bind (wpAny_standAt ?_);rw[if_neg (by simp)];refine wpAny_bind (wpAny_pure ?_);rw[if_neg (by simp)];refine wpAny_bind (wpAny_holding (wpAny_mono bC (λd5 bt bB=>?_) λ_ _ h'=>h'.elim));refine wpAny_bind (wpAny_runOwn (codeAny_mono bB λr b8 bx=>?_));cases r with
  |ok f=>exact wpAny_pure ⟨rfl,bx⟩
  |error e=>exact bx.elim
theorem jaX {kx:Expr}{gens:tC0}{scope:Scope}{pos:Pos}{d:Nat}{it:Value}{acc:Addr}{env:Env}{bG iter:Expr}(h0:gens[d]?= some ⟨bG,iter,[],0⟩)(h1:gens[d+1]?= none)(I:Nat->Shared->Prop)(bZ:∀n s,I n s->wpAny (model prog w) A (pyNext it) (λr b6=>match r with
   |none=>R (.ok .next) b6
   |some v=>wpAny (model prog w) A (letOwnedTupleGo bG it v) (λ_ bw=>wpAny (model prog w) A (assign bG env v) (λ_ b9=>
     wpAny (model prog w) A (eval kx env) (λkv b3=>wpAny (model prog w) A (call (.builtin "set.add") [.ref acc,kv]) (λ_ b8=>∃m,m<n/\I m b8) (λ_ _=>False) b3) (λ_ _=>False) b9) (λ_ _=>False) bw) (λ_ _=>False) b6) (λ_ _=>False) s)
  (n:Nat) (h:I n s):codeAny (model prog w) A (.compLoop (.SetComp kx gens scope pos) d it (.ref acc) env) R s:=by
 refine codeAny_loop rfl I (λn s hI=>?_) n h;show wpAny _ A ((compTurn (.SetComp kx gens scope pos) d it (.ref acc) env).onRaise (λx=>do noteFrame x env;theTreesLotGoes x)) _ _ s;refine wpAny_noted ?_;unfold compTurn;simp only[h0,h1];refine wpAny_bind (wpAny_standAt ?_);rw[if_neg (by simp)];refine wpAny_bind (wpAny_mono (bZ n s hI) (λr b6 b7=>?_) λ_ _ h'=>h'.elim);cases r with
 |none=>exact wpAny_pure b7
 |some v=>
  refine wpAny_bind (wpAny_mono b7 (λ_ bw bz=>?_) λ_ _ h'=>h'.elim);refine wpAny_bind (wpAny_mono bz (λ_ b9 bu=>?_) λ_ _ h'=>h'.elim);refine wpAny_bind (wpAny_tests_nil ?_);rw[if_pos rfl];exact wpAny_bind (wpAny_bind (wpAny_mono bu (λkv b3 bC=>wpAny_bind (wpAny_standAt (wpAny_bind (wpAny_mono bC (λ_ b8 bx=>wpAny_pure (wpAny_pure ⟨rfl,bx⟩)) λ_ _ h'=>h'.elim)))) λ_ _ h'=>h'.elim))
end
def xc (X:Cx)(kx:Expr)(gens:tC0)(scope:Scope)(pos:Pos)(d:Nat)(acc:Addr)(s:Shared)(Po:Shared->Prop):Prop:=match gens[d+1]? with
 |none=>wpAny (model X.prog X.w) X.A (eval kx X.env) (λkv b3=>wpAny (model X.prog X.w) X.A (call (.builtin "set.add") [.ref acc,kv]) (λ_ b8=>Po b8) (λ_ _=>False) b3) (λ_ _=>False) s
 |some g=>wpAny (model X.prog X.w) X.A (eval g.iter X.env) (λx b3=>wpAny (model X.prog X.w) X.A (pyIter x) (λd5 bt=>
   codeAny (model X.prog X.w) X.A (.compStart (.SetComp kx gens scope pos) (d+1) d5 (.ref acc) X.env) (λr b8=>match r with
    |.ok _=>Po b8
    |.error _=>False) bt) (λ_ _=>False) b3) (λ_ _=>False) s
theorem xc.mono {X:Cx}{kx:Expr}{gens:tC0}{scope:Scope}{pos:Pos}{d:Nat}{acc:Addr}{s:Shared}{Po kK:Shared->Prop}(h:xc X kx gens scope pos d acc s Po)(k:∀s,Po s->kK s):xc X kx gens scope pos d acc s kK:=by
 unfold xc at h ⊢;split
 ·rename_i e;rw[e]at h;exact wpAny_mono h (λx b3 bC=>wpAny_mono bC (λ_ b8 bx=>k b8 bx) λ_ _ z=>z) λ_ _ z=>z
 ·rename_i g e;rw[e]at h;refine wpAny_mono h (λx bt bB=>wpAny_mono bB (λ_ b8 bx=>codeAny_mono bx λr s h=>?_) λ_ _ z=>z) λ_ _ z=>z;cases r with
  |ok f=>exact k s h
  |error e=>exact h
theorem jcF {X:Cx}{R:Result->Shared->Prop}{s:Shared}{kx:Expr}{gens:tC0}{scope:Scope}{pos:Pos}{d:Nat}{it:Value}{acc:Addr}{bG iter:Expr}(h0:gens[d]?= some ⟨bG,iter,[],0⟩)(h1:Plainly X.env gens d)(I:Nat->Shared->Prop)(bZ:∀n s,I n s->wpAny (model X.prog X.w) X.A (pyNext it) (λr b6=>match r with
   |none=>R (.ok .next) b6
   |some v=>wpAny (model X.prog X.w) X.A (letOwnedTupleGo bG it v) (λ_ bw=>wpAny (model X.prog X.w) X.A (assign bG X.env v) (λ_ b9=>
     xc X kx gens scope pos d acc b9 λb8=>∃m,m<n/\I m b8) (λ_ _=>False) bw) (λ_ _=>False) b6) (λ_ _=>False) s)
  (n:Nat) (h:I n s):codeAny (model X.prog X.w) X.A (.compLoop (.SetComp kx gens scope pos) d it (.ref acc) X.env) R s:=by
 cases e:gens[d+1]? with
 |none=>
  refine jaX h0 e I (λn s hI=>wpAny_mono (bZ n s hI) (λr b6 b7=>?_) λ_ _ z=>z) n h;cases r with
  |none=>exact b7
  |some v=>
   refine wpAny_mono b7 (λ_ bw bz=>wpAny_mono bz (λ_ b9 bu=>?_) λ_ _ z=>z) λ_ _ z=>z;unfold xc at bu;rw[e]at bu;exact bu
 |some g=>
  obtain⟨cN,cP,ifs',ml⟩:=g;obtain⟨a,b,c⟩:=h1.h _ e;dsimp only at a b c;subst a;subst b;refine jcE h0 e c I (λn s hI=>wpAny_mono (bZ n s hI) (λr b6 b7=>?_) λ_ _ z=>z) n h
  cases r with
  |none=>exact b7
  |some v=>
   refine wpAny_mono b7 (λ_ bw bz=>wpAny_mono bz (λ_ b9 bu=>?_) λ_ _ z=>z) λ_ _ z=>z;unfold xc at bu;rw[e]at bu;exact bu
def jfl (X:Cx)(kx:Expr)(gens:tC0)(scope:Scope)(pos:Pos)(d:Nat)(tb:TB):Prop:=
 ∀(acc:Addr) (bF:tP0) (s:Shared) (σ:St) (H:Hp) (N:St->Hp->Prop),Inv X bF σ H s->tb acc σ H N->xc X kx gens scope pos d acc s λs'=>∃σ' H',Inv X bF σ' H' s'/\N σ' H'
def jbU (w:World)(J:It)(acc:Addr)(own:Nat)(js:List Nat)(g:TG)(tb:TB)(σ:St)(Q:VK)(H1:Hp):Prop:=
 ∃W:Nat->Nat->St->Hp->Prop,(∃m,W 0 m (yZ own js σ) (upd H1 acc (yB w acc [])))/\∀i m σ2 H2,W i m σ2 H2->(J.stop i H2/\Q (.ref acc) H2) \/
  (J.go i H2/\∃N:St->Hp->Prop,(∀σ' H',N σ' H'->∃m',m'<m/\W (i+1) m' σ' H')/\∀x H3,J.yld i H2 x H3->g x σ2 H3 λσ4 H4=>tb acc σ4 H4 N)
def jdG (w:World)(wi:TI)(own:Nat)(js:List Nat)(g:TG)(tb:TB):TE:=λσ H Q=>wi σ H λJ H1=>∀acc,H1 acc=none->jbU w J acc own js g tb σ Q H1
theorem jlz {h:Heap}{a:Addr}{v v':Nat->Nat}{i:Nat}{L:Bool}(g:Sml.Got h a v i L)(e:∀j,j<i->v j=v' j):Sml.Got h a v' i L:=by
 obtain⟨es,S,m⟩:=g;refine⟨es,S,λx=>(m x).trans ⟨λ⟨j,hj,q⟩=>⟨j,hj,by rw[q,e j hj]⟩,λ⟨j,hj,q⟩=>⟨j,hj,by rw[q,e j hj]⟩⟩⟩
theorem jjn {prog:Program}{w:World}{A:Around}{E:tE0}{s:Shared}{a:Addr}{val:Nat->Nat}{i:Nat}{L:Bool}{k:Tok}{Q:tE0}(g:Sml.Got s.heap a val i L)(hv:val i<16)(h:∀h',SameBut a s.heap h'->Sml.Got h' a val (i+1) L->Q .none { s with heap:=h',toks:=s.toks+1 }) :
  wpAny (model prog w) A (call (.builtin "set.add") [.ref a,.int (val i) k]) Q E s:=by
 have hT:s.TypeIs (.ref a) "set":=by
  obtain⟨es,⟨o,ep,t,p,ho,hx,_⟩,_⟩:=g;exact⟨o,ho,hx.1⟩
 refine wpAny_call_entry F.slot_set_add hT F.entry_set_add ?_ (F.args_set_add_2 _ _);unfold Builtin.«set.add» Builtin.Frozenset.oneOther;simp only[isEmpty_nil,bind_assoc];unfold Builtin.Frozenset.addrOf setAdd;refine wpAny_bind (wpAny_pure ?_)
 try dsimp only
 refine wpAny_bind (wpAny_pure ?_)
 try dsimp only
 refine wpAny_bind ?_;refine wpAny_holding ?_;refine wpAny_bind ((intKind prog w).pyHash (k:=(val i:Int)) (intKind_is _ _ _ _) ?_);refine Sml.add_got (s:={ s with toks:=s.toks+1 }) g hv λb h' iz lq=>?_;show wpAny _ _ (ret Value.none) _ _ _;exact wpAny_pure ⟨_,rfl,h h' iz lq⟩
theorem jka {X:Cx}{bF:tP0}{σ:St}{H:Hp}{s:Shared}{a:Addr}{A:Around}{E:tE0}{ns:List Int}{n:Int}{r:Value}{Q:tE0}(I:Inv X bF σ H s)(e:H a=some (yB X.w a ns))(h0:0<=n/\n<16)(rv:RelV (.int n) r)(h:∀s',Inv X bF σ (upd H a (yB X.w a (ns++[n]))) s'->Q .none s') :
  wpAny (model X.prog X.w) A (call (.builtin "set.add") [.ref a,r]) Q E s:=by
 obtain⟨t,rfl⟩:=rv
 obtain⟨p,_⟩:=(show yl X.prog X.w H s.heap a (yB X.w a ns)from I.hok a _ e)
 have p:Sml.Got s.heap a (valN ns) ns.length (!Sml.byT X.w):=p;have hv:valN (ns++[n]) ns.length=n.toNat:=by
  unfold valN;rw[getD_eq_getElem?_getD,getElem?_append_right (le_refl _),Nat.sub_self];rfl
 have g:Sml.Got s.heap a (valN (ns++[n])) ns.length (!Sml.byT X.w):=jlz p λj hj=>by
  unfold valN;rw[getD_eq_getElem?_getD,getD_eq_getElem?_getD,getElem?_append_left hj]
 have hn:n=((valN (ns++[n]) ns.length:Nat):Int):=by rw[hv];omega
 have:=jjn (prog:=X.prog) (w:=X.w) (A:=A) (E:=E) (s:=s) (k:=t) (Q:=Q) g (by rw[hv];omega) λh' iz g'=>h _ ?_
 ·rw[<-hn]at this;exact this
 ·have g'':Sml.Got h' a (valN (ns++[n])) (ns++[n]).length (!Sml.byT X.w):=by
   rw[length_append];exact g'
  have ho:∃o,h'.get? a=some o:=by
   obtain⟨es,⟨o,_,_,_,q,_⟩,_⟩:=g'';exact⟨o,q⟩
  exact I.write (x:=a) (e:=a) (t':=s.toks+1) (h':=h') (by rw[e];exact True.intro) (.inl rfl) (λb z hb q=>(iz.2 b hb).trans q) ho (Uh g'')
def jjT (w:World)(tk:TE):TB:=λacc σ H N=>tk σ H λy H6=>∃ns n,y= .int n/\(0<=n/\n<16)/\H6 acc=some (yB w acc ns)/\N σ (upd H6 acc (yB w acc (ns++[n])))
theorem jfS {X:Cx}{kx:Expr}{gens:tC0}{scope:Scope}{pos:Pos}{d:Nat}{tk:TE}(fo:X.xe=λ_ _=>False)(h1:gens[d+1]?= none)(hk:PE X kx tk):jfl X kx gens scope pos d (jjT X.w tk):=by
 intro acc bF s σ H N I h;unfold xc;rw[h1];have hk':=hk bF s σ H _ I h;rw[fo]at hk';refine thn hk' λy kQ bH=>?_;obtain⟨ky,i7,kN,j7,ns,n,rfl,hn,ha,n11⟩:=bH;exact jka kN ha hn j7 λs12 I12=>⟨σ,_,I12,n11⟩
theorem UB {prog:Program}{w:World}{A:Around}{E:tE0}{s:Shared}{Q:tE0}(h:Q (.ref s.heap.objs.size) { s with heap:=s.heap.push (Sml.set0 w) }):wpAny (model prog w) A (newSet (.type "set")) Q E s:=by
 unfold newSet;unfold setsByText;refine wpAny_bind (wpAny_bind (wpAny_askSetting (wpAny_pure ?_)));dsimp only;simp only[newObj];exact wpAny_bind (wpAny_alloc (wpAny_pure h))
section
variable {X:Cx}{bF:tP0}{σ:St}{H:Hp}{s:Shared}{osc sc:Scope}{own fr:List Str}{js:List Nat}{fp:List Addr}
theorem jbE {acc:Addr}{s':Shared}{σ':St}{H':Hp}{N':List Str}(I:Inv X bF σ H s)(bX:acc=s.heap.objs.size){tk:Nat}(hf:∀b∈fp,xb X bF H b)(J:Inv (jQ X N' sc { s with heap:=s.heap.push (Sml.set0 X.w),toks:=tk } (upd H acc (yB X.w acc [])) fp) [] σ' H' s'):Inv X bF σ H' s':=by
 subst bX;refine I.aR J.os ?_ J.hok J.bare λb hb=>⟨(hf b hb).2.2.2.1,(hf b hb).2.1,(hf b hb).2.2.2.2.1,(hf b hb).2.2.2.2.2⟩
 exact Un.trans (Un.laid (o:=yB X.w s.heap.objs.size []) (λb u e=>get?_push_of_some _ e) (le_refl _) (I.hok.fresh (le_refl _))) J.base
theorem jbD {kx bG iter:Expr}{rest:tC0}{pos:Pos}{it:Addr}{tn:Nat->Heap->Prop}{J:It}{g:TG}{tb:TB}{Q:VK}{RR:Value->Addr->Result->Shared->Prop}{E:tE0}(hc:X.calm=true) (ho:X.env.scope=osc) (S:CompScope osc sc own fr) (hj:js.map (λj=>X.N[j]?)=fr.map some)(hg:∀b3 b4 fp,PG (jQ X (own++fr) sc b3 b4 fp) bG g) (cM:∀b3 b4 fp,Plainly (jQ X (own++fr) sc b3 b4 fp).env (⟨bG,iter,[],0⟩::rest) 0) (hb:∀b3 b4 fp,jfl (jQ X (own++fr) sc b3 b4 fp) kx (⟨bG,iter,[],0⟩::rest) sc pos 0 tb)(I:Inv X bF σ H s) (T:Turn X.prog X.w X.K bG J fp it tn) (st:tn 0 s.heap) (hf:∀b∈fp,xb X bF H b)(h:∀acc,H acc=none->jbU X.w J acc own.length js g tb σ Q H)(fin:∀acc C H' s',Inv X bF σ H' s'->xb X bF H' C->(∃m,s'.heap.Ns C m)->Q (.ref acc) H'->RR (.ref acc) C (.ok .next) s') :
  wpAny (model X.prog X.w) X.A (newSet (.type "set")) (λacc b3=>wpAny (model X.prog X.w) X.A (newFunctionEnv sc X.env.globals (xH sc X.env) [] X.env.qual none .none (some X.env)) (λeD bt=>
   codeAny (model X.prog X.w) X.A (.compStart (.SetComp kx (⟨bG,iter,[],0⟩::rest) sc pos) 0 (.ref it) acc { eD with scope:=relabel sc X.env }) (RR acc eD.locals) bt) E b3) E s:=by
 obtain⟨W,⟨m0,w0⟩,bZ⟩:=h s.heap.objs.size (I.hok.fresh (le_refl _))
 have cz:∀b∈fp,b<s.heap.objs.size:=λb hb=>by
  obtain⟨o,e,_⟩:=T.obj _ _ st b hb;exact lt_size e
 refine UB ?_;have I3:Inv X bF σ (upd H s.heap.objs.size (yB X.w s.heap.objs.size [])) { s with heap:=s.heap.push (Sml.set0 X.w) }:=I.laid (a:=s.heap.objs.size) (o:=yB X.w s.heap.objs.size []) (t':=s.toks) (λ_ _ q=>get?_push_of_some _ q) (le_refl _) (Uh (Sml.got0 (get?_push_size _ rfl) _));have f3:∀b∈fp,xb X bF (upd H s.heap.objs.size (yB X.w s.heap.objs.size [])) b:=λb hb=>⟨by rw[jk (ne_of_lt (cz b hb))];exact(hf b hb).1,(hf b hb).2⟩
 have d6:(s.heap.push (Sml.set0 X.w)).objs.size=s.heap.objs.size+1:=size_push ..;refine xJ ?_;dsimp only
 obtain⟨b7,bA⟩:∃b7,b7=pushCells ((s.heap.push (Sml.set0 X.w)).push { cls:=.type "dict",data:=.dict #[] }) sc.names:=⟨_,rfl⟩
 rw[<-bA];have bD:b7.Ns (s.heap.push (Sml.set0 X.w)).objs.size λ_=>none:=by
  rw[bA];exact UA _ (Heap.Ns.new ..)
 have dG:∀b o,(s.heap.push (Sml.set0 X.w)).get? b=some o->b7.get? b=some o:=λb o e=>by
  rw[bA];exact pushCells_keeps _ _ _ _ (get?_push_of_some _ e)
 have bE:∀x c,(cellsFrom ((s.heap.push (Sml.set0 X.w)).objs.size+1) sc.names (xH sc X.env)).lookup x=some c->∃v,b7.IsCell c v:=λx c e=>by
  rw[bA];refine Jx sc.names _ (xH sc X.env) (λy d q=>?_) (by rw[size_push];exact e);obtain⟨v,hv⟩:=I3.cell y d (uf I3 ho S q);exact⟨v,hv.keeps λb o e=>get?_push_of_some _ e⟩
 have fQ:∀b∈fp,b<(s.heap.push (Sml.set0 X.w)).objs.size:=λb hb=>by rw[d6];exact lt_succ_of_lt (cz b hb)
 have I4:=XC (own:=own) (fr:=fr) (js:=js) (tk:=s.toks) I3 ho S hj f3 fQ bD dG bE;have hV:tn 0 b7:=T.keep _ _ _ st λb _ o e=>dG b o (get?_push_of_some _ e);have gb:∀{H':Hp},(∀b∈fp,H' b=none)->∀b∈fp,xb (jQ X (own++fr) sc { s with heap:=s.heap.push (Sml.set0 X.w) } (upd H s.heap.objs.size (yB X.w s.heap.objs.size [])) fp) [] H' b:=λhn b hb=>
  ⟨hn b hb,ne_of_lt (fQ b hb),λhm=>by
   rcases List.mem_cons.mp (I.aw b hm)with z|z
   ·exact(hf b hb).2.1 z
   ·exact(hf b hb).2.2.1 z,.inl hb,λx c e=>(XX I3 ho S e).elim (λz=>(hf b hb).2.2.2.2.1 x c z) (λz=>ne_of_gt (lt_trans (fQ b hb) z)),λp hp=>absurd (show p∈([]:tP0)from hp) (by simp)⟩
 have c5:∀b3:Shared,b3={ s with heap:=b7 }->
   codeAny (model X.prog X.w) X.A (.compLoop (.SetComp kx (⟨bG,iter,[],0⟩::rest) sc pos) 0 (.ref it) (.ref s.heap.objs.size) (compEnvC sc (cellsFrom ((s.heap.push (Sml.set0 X.w)).objs.size+1) sc.names (xH sc X.env)) (s.heap.push (Sml.set0 X.w)).objs.size X.env))
    (RR (.ref s.heap.objs.size) (s.heap.push (Sml.set0 X.w)).objs.size) b3:=by
  rintro b3 rfl;refine jcF (X:=jQ X (own++fr) sc { s with heap:=s.heap.push (Sml.set0 X.w) } (upd H s.heap.objs.size (yB X.w s.heap.objs.size [])) fp) rfl (cM _ _ _) (λn s'=>∃i σ' H',Inv (jQ X (own++fr) sc { s with heap:=s.heap.push (Sml.set0 X.w) } (upd H s.heap.objs.size (yB X.w s.heap.objs.size [])) fp) [] σ' H' s'/\tn i s'.heap/\(∀b∈fp,H' b=none)/\W i n σ' H')
   ?_ m0 ⟨0,_,_,I4,hV,λb hb=>(f3 b hb).1,w0⟩
  rintro n s5 ⟨i,σ5,H5,I5,eJ,fI,w5⟩;have fw:(jQ X (own++fr) sc { s with heap:=s.heap.push (Sml.set0 X.w) } (upd H s.heap.objs.size (yB X.w s.heap.objs.size [])) fp).calm=true:=hc;rcases bZ i n σ5 H5 w5 with⟨stop,qn⟩|⟨go,N,hN,step⟩
  ·refine thn (T.done (jQ X (own++fr) sc { s with heap:=s.heap.push (Sml.set0 X.w) } (upd H s.heap.objs.size (yB X.w s.heap.objs.size [])) fp) rfl rfl rfl fw i [] s5 _ H5 _ I5 (gb fI) eJ stop) λr s6 bH=>?_;obtain⟨hr,I6⟩:=bH;subst hr;have B:=jbE I rfl (tk:=s.toks) hf I6;refine fin _ _ _ s6 B ?_ ?_ qn
   ·refine I.au ?_ I6.free;show s.heap.objs.size<=(s.heap.push (Sml.set0 X.w)).objs.size;rw[d6];exact le_succ _
   ·obtain⟨m,hm,_⟩:=I6.loc;exact⟨m,hm⟩
  ·refine thn (T.item (jQ X (own++fr) sc { s with heap:=s.heap.push (Sml.set0 X.w) } (upd H s.heap.objs.size (yB X.w s.heap.objs.size [])) fp) rfl rfl rfl fw i [] s5 _ H5 _ I5 (gb fI) eJ go) λr s6 bH=>?_;obtain⟨u,hr,h6⟩:=bH;subst hr;refine thn h6 λ_ s7 bH=>?_;obtain⟨x,H7,I7,r7,y7,fM,kG⟩:=bH;have kM:=I7.pinned (gb kG) (T.obj _ _ fM);refine thn (hg _ _ _ _ s7 _ H7 x u _ kM r7 (step x H7 y7)) λ_ s8 bH=>?_;obtain⟨σ8,H8,I8,q8⟩:=bH;refine(hb _ _ _ _ _ s8 σ8 H8 N I8 q8).mono λs9 bH=>?_;obtain⟨σ9,H9,I9,n9⟩:=bH;obtain⟨m',hm,w9⟩:=hN σ9 H9 n9;refine⟨m',hm,i+1,σ9,H9,I9.aj,T.keep _ _ _ fM λb hb o e=>(I9.pin (b,o) (mem_append_right _ (mem_append_right _ (yC hb e)))).1,λb hb=>?_,w9⟩;obtain⟨o,e,d⟩:=T.obj _ _ fM b hb;exact(I9.pin (b,o) (mem_append_right _ (mem_append_right _ (yC hb e)))).2.1
 exact jca rfl (c5 _ rfl) λE=>T.self _ 0 _ _ _ hV (c5 _ rfl)
end
section
variable {X:Cx}{osc sc:Scope}{own fr:List Str}{js:List Nat}{kx bG iter:Expr}{rest:tC0}{pos:Pos}{wi:TI}{g:TG}{tb:TB}
theorem jfX (hc:X.calm=true)(ho:X.env.scope=osc)(S:CompScope osc sc own fr)(hj:js.map (λj=>X.N[j]?)=fr.map some)(hi:PI X bG iter wi)(hg:∀b3 b4 fp,PG (jQ X (own++fr) sc b3 b4 fp) bG g) (cM:∀b3 b4 fp,Plainly (jQ X (own++fr) sc b3 b4 fp).env (⟨bG,iter,[],0⟩::rest) 0) (hb:∀b3 b4 fp,jfl (jQ X (own++fr) sc b3 b4 fp) kx (⟨bG,iter,[],0⟩::rest) sc pos 0 tb)(hs:∀x,foldedSetIterable iter X.env x=pure x:=by intro _;rfl):PE X (.SetComp kx (⟨bG,iter,[],0⟩::rest) sc pos) (jdG X.w wi own.length js g tb):=by
 intro bF s σ H Q I h;rw[arm_eval_SetComp];refine wpAny_comprehension_free (use:=none) rfl hs (vL (jbG I ho S)) S.kind S.loc (thn (hi bF s σ H _ I h) λv s1 h1=>thn h1 λiw s2 h2=>?_);obtain⟨it,fp,tn,J,H2,e,I2,T,fE,f2,q2⟩:=h2;subst e;refine jbD (RR:=λacc C=>compPost (model X.prog X.w) X.A X.xe none (EP X bF σ Q) acc C) hc ho S hj hg cM hb I2 T fE f2 q2 λacc C H' s' J hC hn q=>?_;obtain⟨m,hm⟩:=hn;refine⟨m,hm,λh' d7=>⟨.ref acc,H',?_,rfl,q⟩⟩;obtain⟨f0,f1,mf,f3,f4,f5⟩:=hC;exact J.turned (t':=s'.toks) (λb o hb e=>d7.extBut b o hb e) f0 f1 f3 f4 f5
end
end L2
namespace L3
open PySem L2
abbrev EMS:=En->Sto->Res (List Int)
def jld (dv:DE):EMS:=λρ M=>(dv ρ M).ar.bind λy M1=>match y with
 |.int n=>if 0<=n/\n<16 then .ok [n] M1 else .bad
 |_=>.bad
def Yg (p:ItP)(g:DG)(em:EMS)(ρ:En):Nat->Nat->Sto->Res (List Int)
 |0,_,_=>.bad
 |n+1,k,M=>match nxt p M k with
  |none=>.bad
  |some none=>.ok [] M
  |some (some x)=>match g x ρ with
   |none=>.bad
   |some ρ'=>(em ρ' M).ar.bind λys M2=>(Yg p g em ρ n (k+1) M2).ar.bind λzs M3=>.ok (ys++zs) M3
def UP (di:tI0)(g:DG)(own:Nat)(js:List Nat)(em:EMS):DE:=λρ M=>(di ρ M).bind λp M1=>(Yg p g em (replicate own none++rest js ρ) (yp p M1) 0 M1).ar.bind λys M2=>if uA ys=true then .ok (.lst ((yV ys).map PV.int)) M2 else .bad
def jlA (w:World)(W:Wd)(acc:Addr)(ρ:En)(l:List Int)(N:St->Hp->Prop)(r:Res (List Int)):Prop:=match r with
 |.ok zs M'=>∀W' σ' H',W.le0 W'->W'.G=L2.upd W.G acc (yB w acc (l++zs))->Held W' M' H'->yq W' ρ σ'->N σ' H'
 |_=>False
def lfS (w:World)(T:Tb)(own d:Nat)(em:EMS):TB:=λacc σ H N=>∃W ρ M l,W.T=T/\Held W M H/\yq W ρ σ/\W.G acc=some (yB w acc l)/\(∀j,d<j->j<own->ρ[j]?= some none)/\jlA w W acc ρ l N (em ρ M)
structure QMS (X:Cx)(T:Tb)(own:Nat)(kx:Expr)(gens:tC0)(sc:Scope)(pos:Pos)(d e:Nat)(em:EMS):Prop where
 h:jfl X kx gens sc pos d (lfS X.w T own e em)
def JE (g:DG)(own i e:Nat):Prop:=∀(x:PV) (ρ ρ':En),g x ρ=some ρ'->(∀j,i<=j->j<own->ρ[j]?= some none)->(∀(W:Wd) (σ:St),yq W ρ' σ->yq W ρ σ)/\∀j,e<j->j<own->ρ'[j]?= some none
theorem VZ {own i:Nat}(hi:i<own):JE (gN i) own i i:=λx ρ ρ' h hn=>by
 cases h;refine⟨λW σ s=>uB (hn i (le_refl _) hi) s,λj h1 h2=>?_⟩;rw[getElem?_set_ne (by omega)];exact hn j (by omega) h2
theorem jdC {own i:Nat}(hi:i+1<own):JE (gT 2 (yJ (gN i) (yJ (gN (i+1)) Ji))) own i (i+1):=λx ρ ρ' h hn=>by
 unfold gT at h;split at h
 rotate_left
 ·cases h
 rename_i xs;split at h
 rotate_left
 ·cases h
 rename_i hl
 match xs,hl with
 |[a,b],_=>
  cases h;have h1:(ρ.set i (some a))[i+1]?= some none:=by
   rw[getElem?_set_ne (by omega)];exact hn _ (le_succ _) hi
  refine⟨λW σ s=>uB (hn i (le_refl _) (by omega)) (uB h1 s),λj h1 h2=>?_⟩;rw[getElem?_set_ne (by omega),getElem?_set_ne (by omega)];exact hn j (by omega) h2
theorem jdK {w:World}{a:Addr}{ns:List Int}:∀vs,yB w a ns≠.tup vs:=λvs z=>by
 unfold yB at z;cases z
section
variable {X:Cx}{T:Tb}{ES:St->XK}{own d:Nat}{kx:Expr}{gens:tC0}{sc:Scope}{pos:Pos}{di:tI0}{em:EMS}{dv:DE}{w:World}
theorem jhp {e:Nat}(fo:X.xe=λ_ _=>False)(h1:gens[d+1]?= none)(hv:QE X T ES0 kx dv):QMS X T own kx gens sc pos d e (jld dv):=by
 refine⟨λacc bF s σ H N I hQ=>jfS fo h1 hv.h acc bF s σ H N I ?_⟩;obtain⟨W,ρ,M,l,k,hh,hs,ga,hN,f⟩:=hQ;refine⟨W,ρ,M,k,hh,hs,?_⟩;unfold jld at f
 cases e2:dv ρ M with
 |bad=>rw[e2]at f;exact f.elim
 |exc _ _=>rw[e2]at f;exact f.elim
 |ok y M2=>
  rw[e2]at f;intro W5 H5 u l5 h5 r5
  obtain⟨n,rfl⟩:∃n,y= .int n:=by
   cases y with
   |int n=>exact⟨n,rfl⟩
   |_=>exact f.elim
  have f:jlA X.w W acc ρ l N (if 0<=n/\n<16 then .ok [n] M2 else .bad):=f
  by_cases hn:0<=n/\n<16
  rotate_left
  ·rw[if_neg hn]at f;exact f.elim
  rw[if_pos hn]at f;cases (show u= .int n from r5);have ga5:W5.G acc=some (yB X.w acc l):=by rw[l5.g];exact ga
  refine⟨l,n,rfl,hn,(h5.gd _ _ ga5).1,?_⟩;refine f (W5.gd acc (yB X.w acc (l++[n]))) σ _ (l5.toLe0.trans Wd.ag) ?_ (h5.aF jdK ga5) ((hs.up l5).ah Wd.ag);show L2.upd W5.G acc _=L2.upd W.G acc _;rw[l5.g]
theorem jmk {W0:Wd}{it:ItP}{J:It}{acc:Addr}{ρ:En}{l:List Int}{N:St->Hp->Prop}{g:DG}{i0 e0:Nat}{M0:Sto}{σ:St}{H0:Hp}{tb:TB}(k0:W0.T=T)(ri:RI W0 it J)(g0:W0.G acc=some (yB w acc l))(un:JE g own i0 e0)(hn:∀j,i0<=j->j<own->ρ[j]?= some none)(h0:Held W0 M0 H0)(hs:yq W0 ρ σ)(f:jlA w W0 acc ρ l N (Yg it g em ρ (yp it M0) 0 M0))(body:∀(W:Wd) (M:Sto) (ρ':En) (l':List Int) (N':St->Hp->Prop) (σ4:St) (H4:Hp),W.T=T->Held W M H4->yq W ρ' σ4->(∀j,e0<j->j<own->ρ'[j]?= some none)->W.G acc=some (yB w acc l')->jlA w W acc ρ' l' N' (em ρ' M)->tb acc σ4 H4 N') :
  ∃Wk:Nat->Nat->St->Hp->Prop,(∃m,Wk 0 m σ H0)/\∀i m σ2 H2,Wk i m σ2 H2->(J.stop i H2/\N σ2 H2) \/
   (J.go i H2/\∃N':St->Hp->Prop,(∀σ' H',N' σ' H'->∃m',m'<m/\Wk (i+1) m' σ' H')/\∀v H3,J.yld i H2 v H3->jik T g v σ2 H3 λσ4 H4=>tb acc σ4 H4 N'):=by
 let kL:Nat->Nat->St->Hp->Prop:=λi m σ2 H2=>∃W1 M1 ys,W0.le0 W1/\W1.G=L2.upd W0.G acc (yB w acc (l++ys))/\Held W1 M1 H2/\yq W1 ρ σ2/\(match Yg it g em ρ m i M1 with
  |.ok zs M'=>∀W' σ' H',W0.le0 W'->W'.G=L2.upd W0.G acc (yB w acc (l++(ys++zs)))->Held W' M' H'->yq W' ρ σ'->N σ' H'
  |_=>False)
 refine⟨kL,⟨yp it M0,W0,M0,[],(Wd.le.refl W0).toLe0,by rw[append_nil];exact(jgI g0).symm,h0,hs,?_⟩,?_⟩
 ·cases e:Yg it g em ρ (yp it M0) 0 M0 with
  |bad=>rw[e]at f;exact f.elim
  |exc _ _=>rw[e]at f;exact f.elim
  |ok zs M'=>
   rw[e]at f;exact λW' σ' H' le g h s=>f W' σ' H' le g h s
 intro i m σ2 H2 hI;obtain⟨W1,M1,ys,eT,g1,h1,s1,f1⟩:=hI;have k1:W1.T=T:=eT.k.trans k0;cases m with
 |zero=>exact f1.elim
 |succ m=>
  unfold Yg at f1;obtain⟨eY,c8⟩:=ri W1 M1 H2 eT h1 i;split at f1
  rotate_left
  ·exact f1.elim
  rename_i zs M' ef;split at ef
  ·cases ef
  ·rename_i en;cases ef;exact .inl ⟨c8 en,f1 W1 σ2 H2 eT (by rw[append_nil];exact g1) h1 s1⟩
  ·rename_i x en;obtain⟨go,yld⟩:=eY x en;refine .inr ⟨go,kL (i+1) m,λσ' H' q=>⟨m,lt_succ_self _,q⟩,λv H3 hy=>?_⟩;obtain⟨W2,l2,h2,r2⟩:=yld v H3 hy;have ga:W2.G acc=some (yB w acc (l++ys)):=by rw[l2.g,g1,jr]
   cases eg:g x ρ with
   |none=>rw[eg]at ef;cases ef
   |some ρ'=>
   rw[eg]at ef;have ef:((em ρ' M1).ar.bind λys M2=>(Yg it g em ρ m (i+1) M2).ar.bind λzs M3=>Res.ok (ys++zs) M3)= .ok zs M':=ef;obtain⟨jjh,fr⟩:=un x ρ ρ' eg hn;refine⟨W2,ρ,M1,x,ρ',l2.k.trans k1,h2,s1.up l2,r2,eg,λσ4 s4=>?_⟩;refine body W2 M1 ρ' (l++ys) _ σ4 H3 (l2.k.trans k1) h2 s4 fr ga ?_;cases e1:em ρ' M1 with
   |bad=>rw[e1]at ef;cases ef
   |exc _ _=>rw[e1]at ef;cases ef
   |ok i8 M2=>
    rw[e1]at ef;have ef:((Yg it g em ρ m (i+1) M2).ar.bind λzs M3=>Res.ok (i8++zs) M3)= .ok zs M':=ef;cases e2:Yg it g em ρ m (i+1) M2 with
    |bad=>rw[e2]at ef;cases ef
    |exc _ _=>rw[e2]at ef;cases ef
    |ok zs1 M3=>
     rw[e2]at ef;cases ef;intro W' σ' H' le gg h s;refine⟨W',M2,ys++i8,(eT.trans l2.toLe0).trans le,?_,h,jjh W' σ' s,?_⟩
     ·rw[gg,l2.g,g1,uk,append_assoc]
     ·rw[e2];exact λW' σ' H' le g h s=>f1 W' σ' H' le (by rw[<-append_assoc ys];exact g) h s
theorem jcZ {js:List Nat}{σ:St}{H:Hp}{Q:VK}{g:DG}{e:Nat}(un:JE g own 0 e)(h:lft T Rep ES (UP di g own js em) σ H Q) :
  jdG w (lft T RI ES di) own js (jik T g) (lfS w T own e em) σ H λx H1=>∃(p:Addr) (ns:List Int),[x]=[.ref p]/\H1 p=some (yB w p ns)/\(∀n∈ns,0<=n/\n<16)/\∀l:Addr,H1 l=none->Q (.ref l) (L2.upd H1 l (.lst ((yV ns).map V.int))):=by
 obtain⟨W,ρ,M,k,hh,hs,p⟩:=h;refine⟨W,ρ,M,k,hh,hs,yh.bind p λW0 M0 it J H0 l0 h0 ri p0=>λacc bX=>?_⟩;have k0:W0.T=T:=l0.k.trans k;have iV:=hs.up l0
 have fB:W0.G acc=none:=by
  cases q:W0.G acc with
  |none=>rfl
  |some o=>
   rw[(h0.gd acc o q).1]at bX;cases bX
 have p0:yh W0 Rep ((Yg it g em (replicate own none++rest js ρ) (yp it M0) 0 M0).ar.bind λys M2=>if uA ys=true then .ok (.lst ((yV ys).map PV.int)) M2 else .bad) Q (ES σ):=p0;cases e:Yg it g em (replicate own none++rest js ρ) (yp it M0) 0 M0 with
 |bad=>rw[e]at p0;exact p0.elim
 |exc _ _=>rw[e]at p0;exact p0.elim
 |ok zs M'=>
 rw[e]at p0;have p0:yh W0 Rep (if uA zs=true then .ok (.lst ((yV zs).map PV.int)) M' else .bad) Q (ES σ):=p0
 by_cases hz:uA zs=true
 rotate_left
 ·rw[if_neg hz]at p0;exact p0.elim
 rw[if_pos hz]at p0;have p0:∀W' H' v,W0.le W'->Held W' M' H'->Rep W' (.lst ((yV zs).map PV.int)) v->Q v H':=p0;have hn:∀j,0<=j->j<own->(replicate own none++rest js ρ)[j]?= some none:=λj _ hj=>by
  rw[getElem?_append_left (by simpa using hj),getElem?_replicate,if_pos hj]
 have gn:(W0.gd acc (yB w acc [])).G acc=some (yB w acc []):=jr;refine jmk (T:=T) (em:=em) (M0:=M0) (W0:=W0.gd acc (yB w acc [])) (l:=[]) (N:=λ_ H1=>∃(p:Addr) (ns:List Int),[V.ref acc]=[.ref p]/\H1 p=some (yB w p ns)/\(∀n∈ns,0<=n/\n<16)/\∀l:Addr,H1 l=none->Q (.ref l) (L2.upd H1 l (.lst ((yV ns).map V.int)))) (ρ:=replicate own none++rest js ρ) k0 (λW' M' H' le=>ri W' M' H' (Wd.ag.trans le)) gn un hn (h0.aP jdK bX) ((Vr own iV).ah Wd.ag) ?_ ?_
 ·rw[e];intro W' σ' H' le gg h s;have g':W'.G=L2.upd W0.G acc (yB w acc zs):=by
   rw[gg];show L2.upd (L2.upd W0.G acc (yB w acc [])) acc _=_;rw[uk];rfl
  have i3:W'.G acc=some (yB w acc zs):=by rw[g',jr]
  obtain⟨ha,_,_⟩:=h.gd acc _ i3
  obtain⟨l2,h2⟩:=h.aB (G0:=W0.G) i3 λb u q=>by
   have z:b≠acc:=λz=>by rw[z,fB]at q;cases q
   refine⟨?_,z⟩;rw[g',jk z];exact q
  refine⟨acc,zs,rfl,ha,JJ hz,λl hl=>?_⟩;obtain⟨l3,h3,f3⟩:=h2.frz (o:=.lst ((yV zs).map V.int)) hl
  have l4:W0.le (W'.out W0.G acc (yB w acc zs)):=⟨(Wd.ag.trans le).trans l2,rfl⟩
  exact p0 _ _ (.ref l) (l4.trans l3) h3 ⟨l,_,rfl,f3,yd.ints.mpr rfl⟩
 ·intro W1 M1 ρ' us N' σ4 H4 k1 h1 s1 fr g1 f1;exact⟨W1,ρ',M1,us,k1,h1,s1,g1,fr,f1⟩
end
section
variable {X:Cx}{T:Tb}{ES:St->XK}{osc sc:Scope}{own fr:List Str}{js:List Nat}{kx bG iter:Expr}{rest:tC0}{pos p gR:Pos}{di:tI0}{em:EMS}{g:DG}{e:Nat}
theorem jhs (un:JE g own.length 0 e)(hc:X.calm=true)(ho:X.env.scope=osc)(S:CompScope osc sc own fr)(hj:js.map (λj=>X.N[j]?)=fr.map some)(hgl:Gl X "sorted")(hm:X.mg "sorted" = none)(hv:bootBuiltins "sorted" = some (.builtin "sorted"))(hi:QI X T ES bG iter di)(hg:∀b3 b4 fp,QG (jQ X (own++fr) sc b3 b4 fp) T bG g) (cM:∀b3 b4 fp,Plainly (jQ X (own++fr) sc b3 b4 fp).env (⟨bG,iter,[],0⟩::rest) 0) (hb:∀b3 b4 fp,QMS (jQ X (own++fr) sc b3 b4 fp) T own.length kx (⟨bG,iter,[],0⟩::rest) sc pos 0 e em)(hs:∀x,foldedSetIterable iter X.env x=pure x:=by intro _;rfl) (cQ:starEach [.SetComp kx (⟨bG,iter,[],0⟩::rest) sc pos] X.env=[(false,eval (.SetComp kx (⟨bG,iter,[],0⟩::rest) sc pos) X.env)]:=by rfl) :
  QE X T ES (.Call (.Name "sorted" p) [.SetComp kx (⟨bG,iter,[],0⟩::rest) sc pos] [] gR) (UP di g own.length js em):=
 ⟨jN (Ja (Jy hc) hgl hm hv (uo (jfX hc ho S hj hi.h (λa b c=>(hg a b c).h) cM (λa b c=>(hb a b c).h) hs) JT (by rw[cQ];rfl)) (by decide) (by decide) (by rw[cQ];rfl) (by rfl)) λσ H Q bH=>jcZ un bH⟩
end
end L3
namespace L2
open PySem PySem.Spec PyProof.Rows
theorem jkO {X:Cx}{bF:tP0}{σ:St}{H:Hp}{s:Shared}{b:Addr}{ks:List Key}(I:Inv X bF σ H s)(e:SqT X.K H b (ks.map kV)):(tupleKind (ye X.prog X.w)).is s.heap ks b:=by
 obtain⟨its,r,⟨o,h1,h2,n,h3⟩,_⟩:=I.tuple e;exact⟨o,its.toArray,n,h1,h2,h3,by simpa using JZ r⟩
def jgO (K:Frag)(neg:Bool)(ty td:TE):TE:=λσ H Q=>ty σ H λy H1=>td σ H1 λx H2=>∃a kvs k b,x= .ref a/\y= .ref b/\H2 a=some (.dT kvs)/\SqT K H2 b (k.map kV)/\Q (.bl (if neg then !(yT kvs k).isSome else(yT kvs k).isSome)) H2
section
variable {X:Cx}{o i:Expr}{td ty:TE}
theorem jcu (hu:X.A.units+1<cLine)(hi:PE X i ty)(ho:PE X o td):PC X .NotIn i o (jgO X.K true ty td):=by
 intro bF s σ H Q I h;refine thn (hi bF s σ H _ I h) λiv s1 ⟨y,H1,I1,ry,q1⟩=>thn (ho bF s1 σ H1 _ I1 q1) λu s2 bH=>?_;obtain⟨x,H2,I2,rx,a,kvs,k,b,rfl,rfl,ha,hb,q2⟩:=bH;obtain rfl:u=Value.ref a:=rx;cases (show iv=Value.ref b from ry);obtain⟨z,hd,xs,rel,dd⟩:=jbt I2.hok (.inl ha);refine wpAny_notIn_heap (tupleKind_room_in1 hu) (jkO I2 hb) hd dd ?_;have q:=(rel.val k).aq;rw[isSome_map]at q;rw[<-q];exact⟨.bl _,H2,I2.tok _,rfl,q2⟩
end
end L2
namespace L3
open PySem L2
theorem Held.aX {W:Wd}{M:Sto}{H:Hp}{i:Nat}{a:Addr}{c0:Cell}{v:HO}(h:Held W M H)(e:M.g i=some c0)(ea:W.α i=some a)(o:Obj) :
  W.le (W.frz a (.frz o v))/\Held (W.frz a (.frz o v)) (M.drop i) (L2.upd H a (.frz o v)):=by
 obtain⟨b,u,g1,g2,g3,g4⟩:=h.m i _ e;rw[ea]at g1;cases g1;have le:=Wd.ay (o:=.frz o v) g2;have hd:=h.drop i;refine⟨le,⟨λb u q=>?_,λj c q=>?_,λj k b c1 c2 q1 q2 e1 e2=>hd.inj j k b c1 c2 q1 q2 e1 e2,h.top,λb u q=>?_,h.gl⟩⟩
 ·have q:L2.upd W.F a (.frz o v) b=some u:=q
  by_cases z:b=a
  ·subst z;rw[jr]at q ⊢;exact q
  ·rw[jk z]at q ⊢;exact h.f b u q
 ·have q:(if j=i then none else M.g j)=some c:=q
  by_cases z:j=i
  ·rw[if_pos z]at q;cases q
  ·rw[if_neg z]at q;obtain⟨b,u',h1,h2,h3,h4⟩:=h.m j c q;have nb:b≠a:=λzz=>z (h.inj j i a c _ q e (zz ▸ h1) ea);refine⟨b,u',h1,?_,by rw[jk nb];exact h3,h4.up le⟩;show L2.upd W.F a _ b=none;rw[jk nb];exact h2
 ·obtain⟨h1,h2,h3⟩:=hd.gd b u q;have nb:b≠a:=λz:b=a=>(h.gd b u q).2.2 i _ e (z ▸ ea);refine⟨by rw[jk nb];exact h1,?_,h3⟩;show L2.upd W.F a _ b=none;rw[jk nb];exact h2
def jiu (neg:Bool)(M:Sto)(y o:PV):Option PV:=match y with
 |.tup ks=>jkT neg M ks o
 |_=>none
def UQ (neg:Bool)(dy do_:DE):DE:=λρ M=>(dy ρ M).bind λy M1=>(do_ ρ M1).bind λo M2=>match jiu neg M2 y o with
 |some z=>.ok z M2
 |none=>.bad
def jhf (i:Nat)(dk:DA)(d do_:DE):DS:=λρ M=>(dk ρ M).st ρ λks M0=>if ks.length<=sizeLine/\i < ρ.length then(d (ρ.set i (some (.tup ks))) M0).st (ρ.set i (some (.tup ks))) λx M1=>(do_ (ρ.set i (some (.tup ks))) M1).st (ρ.set i (some (.tup ks))) λo M2=>(match vo M2 o ks x with
 |some M4=>.nx (ρ.set i (some (.tup ks))) M4
 |none=>.bad)else .bad
section
variable {X:Cx}{T:Tb}{ES:St->XK}{e o y:Expr}{d do_ dy:DE}{dk:DA}{pos:Pos}
theorem jmu {K K':Frag}{F H:Hp}{b:Addr}{xs:List V}(e:K=K')(h:SqT K F b xs)(f:∀a o,F a=some o->H a=some o):SqT K' H b xs:=by
 subst e;rcases h with(h|⟨o,h⟩)|h
 ·exact .inl (.inl (f _ _ h))
 ·exact .inl (.inr ⟨o,f _ _ h⟩)
 ·exact .inr h
theorem jcM {neg:Bool}{σ:St}{H:Hp}{Q:VK}(hT:T.K=X.K)(h:lft T Rep ES (UQ neg dy do_) σ H Q):jgO X.K neg (lft T Rep ES dy) (lft T Rep ES do_) σ H Q:=by
 refine jC h λW ρ M k hh hs q=>⟨W,ρ,M,k,hh,hs,yh.bind q λW1 M1 yy yv H1 l1 h1 r1 q1=>⟨W1,ρ,M1,l1.k.trans k,h1,hs.up l1,yh.bind q1 λW2 M2 o' ov H2 l2 h2 r2 q2=>?_⟩⟩
 split at q2
 rotate_left
 ·exact q2.elim
 rename_i z e4;unfold jiu at e4;split at e4
 rotate_left
 ·cases e4
 rename_i ks;unfold jkT at e4;split at e4
 rotate_left
 ·cases e4
 rename_i i;split at e4
 rotate_left
 ·cases e4
 rename_i l e5;split at e4
 rotate_left
 ·cases e4
 rename_i ns e6;split at e4
 rotate_left
 ·cases e4
 cases e4;have ek:=xt e6;subst ek;obtain⟨b,kv,rfl,hb,rk⟩:=r1.up l2;have ev:kv=ns.map V.int:=yd.ints.mp rk;subst ev;obtain⟨a,rfl,ea⟩:=r2;obtain⟨b',ob,g1,g2,g3,vs,rfl,ra⟩:=h2.m i _ e5;rw[ea]at g1;cases g1;have kT:W2.T.K=X.K:=by rw[l2.k,l1.k,k,hT]
 refine⟨a,vs,xA ns,b,rfl,rfl,g3,by rw[xE];exact jmu kT hb.toT λa o e=>h2.f a o e,?_⟩
 have hv:(yT vs (xA ns)).isSome=(xf l ns).isSome:=by
  rcases ra.get yY ns with⟨a1,a2⟩|⟨x,v,a1,a2,_⟩
  ·rw[a1,a2];rfl
  ·rw[a1,a2];rfl
 rw[hv];exact q2 W2 H2 _ (.refl W2) h2 rfl
theorem jaK (hT:T.K=X.K)(hu:X.A.units+1<cLine)(hy:QE X T ES y dy)(ho:QE X T ES o do_)(hm:behindInMarks .NotIn o=false):QT X T ES (.Compare y [.NotIn] [o] pos) (yj (UQ true dy do_)):=
 ⟨Uv (jhB (jcu hu hy.h ho.h) hm) λσ H Q bH=>jC bH λW ρ M k hh hs p=>show jgO X.K true _ _ σ H (λv H'=>∃b,v=V.bl b/\Q b H')from jcM (Q:=λv H'=>∃b,v=V.bl b/\Q b H') (neg:=true) (dy:=dy) (do_:=do_) (T:=T) (ES:=ES) hT ⟨W,ρ,M,k,hh,hs,yh.bind (R1:=Rep) p λW1 M1 x v H1 l1 h1 r1 p1=>by
  cases x with
  |bl b=>exact⟨b,r1,p1 W1 H1 b (.refl W1) h1 rfl⟩
  |_=>exact p1.elim⟩⟩
theorem jce {α:Type}{r:Res α}{ρ:En}{k:α->Sto->RS}{d2:DS}:(r.st ρ k).then d2=r.st ρ λa M=>(k a M).then d2:=by
 cases r <;> rfl
theorem jki {i:Nat}{x:Str}{es:List Expr}{x1:Nat}{kp px pn p2 gR dF:Pos}{rest:List Stmt}{d2:DS}(hu:X.A.units+1<cLine)(hN:X.N.Nodup)(hi:X.N[i]?= some x)(hx:Loc X.env.scope x)(hk:QA X T ES es dk)(hn:PE X (.Name x pn) (jao i))(he:QE X T ES e d)(ho:QE X T ES o do_)(hr:QSs X T ES rest d2)(hs:swapsWith (.Tuple es x1 kp) (some (.Name x px)) gR.line X.env=pure false:=by rfl) (hf:X.fn x=true\/X.env.scope.names.lookup x=some .local:=by first|exact .inl rfl|exact .inr rfl|assumption)
  (hw:swapsWith e (some (.Subscript o (.Name x pn) p2)) dF.line X.env=pure false:=by rfl) :
  QSs X T ES (.Assign [.Name x px] (.Tuple es x1 kp) gR::.Assign [.Subscript o (.Name x pn) p2] e dF::rest) (yf (jhf i dk d do_) d2):=
 ⟨Uw (Xn (jhC hN hi hx (Uz hk.h) hs hf) (Xn (Ux hu ho.h hn he.h hw) hr.h)) λD σ H bH=>yL bH λW ρ M k hh hs q=>by
  unfold yf jhf at q;rw[jce]at q;refine⟨W,ρ,M,k,hh,hs,yo.bind hs q λW1 M1 ks kv H1 l1 h1 r1 q1=>?_⟩
  by_cases hz:ks.length<=sizeLine/\i < ρ.length
  rotate_left
  ·rw[if_neg hz]at q1;exact q1.elim
  rw[if_pos hz,jce]at q1;refine⟨by rw[r1.length];exact hz.1,λp hp=>?_⟩;obtain⟨l4,h4,f4⟩:=h1.frz (o:=.tup kv) hp;have rp:Rep (W1.frz p (.tup kv)) (.tup ks) (.ref p):=⟨p,kv,rfl,.inl f4,r1.up l4⟩
  have lM:=((hs.up l1).up l4).set (i:=i) rp;have q4:=yo.up q1 l4;refine⟨_,ρ.set i (some (.tup ks)),M1,l4.k.trans (l1.k.trans k),h4,lM,yo.bind lM q4 λW5 M5 xx xv H5 l5 h5 r5 q5=>?_⟩;rw[jce]at q5;have lL:=lM.up l5;refine⟨W5,_,M5,l5.k.trans (l4.k.trans (l1.k.trans k)),h5,lL,yo.bind lL q5 λW6 M6 o' ov H6 l6 h6 r6 q6=>?_⟩;have hs6:=lL.up l6;have q6:yo W6 ((match vo M6 o' ks xx with
   |some M4=>RS.nx (ρ.set i (some (.tup ks))) M4
   |none=>.bad).then d2) D ES:=q6
  cases e4:vo M6 o' ks xx with
  |none=>rw[e4]at q6;exact q6.elim
  |some M4=>
  rw[e4]at q6;have q6:yo W6 (d2 (ρ.set i (some (.tup ks))) M4) D ES:=q6;unfold vo at e4;split at e4
  rotate_left
  ·cases e4
  rename_i j;split at e4
  rotate_left
  ·cases e4
  rename_i l e5;split at e4
  rotate_left
  ·cases e4
  rename_i ns e6;split at e4
  rotate_left
  ·cases e4
  rename_i hc;cases e4;have ek:=xt e6;subst ek;have ev:kv=ns.map V.int:=yd.ints.mp r1;subst ev;obtain⟨a,rfl,ea⟩:=r6;obtain⟨b,ob,g1,g2,g3,vs,rfl,ra⟩:=h6.m j _ e5;rw[ea]at g1;cases g1;have hσ:(σ.set i (some (.ref p)))[i]?= some (some (.ref p)):=by
   rw[getElem?_set_self (by rw[hs.1];exact hz.2)]
  refine⟨.ref p,hσ,a,_,rfl,jdw.t (k:=xA ns) (kvs:=vs) g3 (by rw[xE];exact h6.f _ _ (l6.f _ _ (l5.f _ _ f4))) (by rw[ra.length];exact hc.2),?_⟩
  exact⟨W6,_,_,l6.k.trans (l5.k.trans (l4.k.trans (l1.k.trans k))),h6.upd e5 ea (c':=.dtv (xD l ns xx)) (o:=.dT (vp vs (xA ns) xv)) ⟨_,rfl,ra.put yY (r5.up l6)⟩,hs6,q6⟩⟩
end
def joD:Value->Bool
 |.int _ _=>true
 |_=>false
def jis (o:Obj):Bool:=match o.data with
 |.seq its _=>(its.size==2 || its.size==3) && its.toList.all joD
 |_=>false
theorem jaj:∀{ns:List Int}{us:List Value},yg (ns.map V.int) us->us.all joD=true
 |[],_,.nil=>rfl
 |n::ns,_,.cons r t=>by
  obtain⟨k,rfl⟩:=r;have h:=jaj (ns:=ns) t;rw[all_cons,h];rfl
def Yt (K:Frag):Bool:=K.all λp=>!jis p.2
theorem jaZ:∀{K:Frag}{a:Addr}{o:Obj},List.lookup a K=some o->(a,o)∈K
 |[],_,_,h=>by cases h
 |(b,u)::K,a,o,h=>by
  rw[lookup_cons]at h
  by_cases z:(a==b)=true
  ·rw[z]at h;cases h;rw[beq_iff_eq.mp z];exact mem_cons_self
  ·rw[not_eq_true]at z;rw[z]at h;exact mem_cons_of_mem _ (jaZ h)
theorem jhj {K:Frag}{F:Hp}{b:Addr}{ns:List Int}(hn:Yt K=true)(h3:(ns.map V.int).length=2\/(ns.map V.int).length=3)(h:SqF K F b (ns.map V.int)):F b=some (.tup (ns.map V.int)):=by
 rcases h with h|⟨o,its,n,hk,hc,hd,hz,r⟩
 ·exact h
 ·exfalso
  have q:=List.all_eq_true.mp hn _ (jaZ hk);have e:=r.length;have e:(ns.map V.int).length=its.size:=by rw[<-length_toList];exact e
  have:jis o=true:=by
   unfold jis;rw[hd];show((its.size==2 || its.size==3) && its.toList.all joD)=true;rw[<-e,jaj r];rcases h3 with h|h
   ·rw[h];rfl
   ·rw[h];rfl
  rw[this]at q;cases q
def jcn (M:Sto)(o y x:PV):Option Sto:=match y with
 |.tup ks=>if ks.length=3 then vo M o ks x else none
 |_=>none
def uV (d do_ dy:DE):DS:=λρ M=>(d ρ M).st ρ λx M1=>(do_ ρ M1).st ρ λo M2=>(dy ρ M2).st ρ λy M3=>match jcn M3 o y x with
 |some M4=>.nx ρ M4
 |none=>.bad
section
variable {X:Cx}{T:Tb}{ES:St->XK}{e o f:Expr}{d do_ dy:DE}{pos p2:Pos}
theorem Vt (gL:Yt T.K=true)(hu:X.A.units+1<cLine)(he:QE X T ES e d)(ho:QE X T ES o do_)(hy:QE X T ES f dy)(hw:swapsWith e (some (.Subscript o f p2)) pos.line X.env=pure false:=by rfl) :
  QS X T ES (.Assign [.Subscript o f p2] e pos) (uV d do_ dy):=
 ⟨xi (Ux hu ho.h hy.h he.h hw) λD σ H bH=>yL bH λW ρ M k hh hs q=>⟨W,ρ,M,k,hh,hs,yo.bind hs q λW1 M1 x v H1 l1 h1 r1 q1=>by
  have cQ:=hs.up l1;refine⟨W1,ρ,M1,l1.k.trans k,h1,cQ,yo.bind cQ q1 λW2 M2 o' ov H2 l2 h2 r2 q2=>?_⟩;have cY:=cQ.up l2;refine⟨W2,ρ,M2,l2.k.trans (l1.k.trans k),h2,cY,yo.bind cY q2 λW3 M3 y yv H3 l3 h3 r3 q3=>?_⟩;split at q3
  rotate_left
  ·exact q3.elim
  rename_i M4 e4;unfold jcn at e4;split at e4
  rotate_left
  ·cases e4
  rename_i ks;split at e4
  rotate_left
  ·cases e4
  rename_i h3l;unfold vo at e4;split at e4
  rotate_left
  ·cases e4
  rename_i i;split at e4
  rotate_left
  ·cases e4
  rename_i l e5;split at e4
  rotate_left
  ·cases e4
  rename_i ns e6;split at e4
  rotate_left
  ·cases e4
  rename_i hc;cases e4;have ek:=xt e6;subst ek;obtain⟨b,kv,rfl,hb,rk⟩:=r3;have ev:kv=ns.map V.int:=yd.ints.mp rk;subst ev;have kT:W3.T=T:=l3.k.trans (l2.k.trans (l1.k.trans k));have hF:W3.F b=some (.tup (ns.map V.int)):=jhj (by rw[kT];exact gL) (.inr (by rw[length_map]at h3l ⊢;exact h3l)) hb;obtain⟨a,rfl,ea⟩:=r2.up l3;obtain⟨b',ob,g1,g2,g3,vs,rfl,ra⟩:=h3.m i _ e5;rw[ea]at g1;cases g1;refine⟨a,_,rfl,jdw.t (k:=xA ns) (kvs:=vs) g3 (by rw[xE];exact h3.f _ _ hF) (by rw[ra.length];exact hc.2),?_⟩;exact q3 W3 σ _ (.refl W3) (h3.upd e5 ea (c':=.dtv (xD l ns x)) (o:=.dT (vp vs (xA ns) v)) ⟨_,rfl,ra.put yY ((r1.up l2).up l3)⟩) (cY.up l3)⟩⟩
end
end L3
namespace L2
open PySem PySem.Spec PyProof.Rows PySem.W
def vT (cx:List (List Key×V))(kv:List Key×V):Bool:=!(yT cx kv.1).isSome
inductive Keys (H:Hp):List (List Key×V)->List V->Prop
 |nil:Keys H [] []
 |cons {kv:List Key×V}{kvs:List (List Key×V)}{c:Addr}{xs:List V}(h:H c=some (.tup (kv.1.map kV))) (t:Keys H kvs xs):Keys H (kv::kvs) (.ref c::xs)
theorem Keys.snoc {H:Hp}{kvs:List (List Key×V)}{xs:List V}{kv:List Key×V}{c:Addr}(k:Keys H kvs xs)(h:H c=some (.tup (kv.1.map kV))):Keys H (kvs++[kv]) (xs++[.ref c]):=by
 induction k with
 |nil=>exact .cons h .nil
 |cons a _ ih=>exact .cons a ih
theorem Keys.length {H:Hp}{kvs:List (List Key×V)}{xs:List V}(k:Keys H kvs xs):xs.length=kvs.length:=by
 induction k with
 |nil=>rfl
 |cons a _ ih=>rw[length_cons,length_cons,ih]
def jpx (j:Nat)(te:TE):TE:=λσ H Q=>te σ H λx H1=>∃a kvs b cx,x= .ref a/\H1 a=some (.dT kvs)/\σ[j]?= some (some (.ref b))/\H1 b=some (.dT cx)/\kvs.length<=sizeLine /\
 ∀acc xs,H1 acc=none->Keys H1 (kvs.filter (vT cx)) xs->Q (.ref acc) (upd H1 acc (.lst xs))
theorem jqe {X:Cx}{j:Nat}{te:TE}{σ:St}{H:Hp}{Q:VK}(mono:∀{σ:St}{H:Hp}{Q Q':VK},te σ H Q->(∀v H',Q v H'->Q' v H')->te σ H Q')(h:jpx j te σ H Q) :
  jpy X (YU (jlO X te) 1 [j] (vc 0) (tB (jdF (jao 0) (jao 1))) (jao 0)) σ H Q:=by
 refine mono h λv H bH=>?_;obtain⟨a,kvs,b,cx,rfl,ha,hs,hb,hl,q⟩:=bH;refine⟨a,kvs,rfl,ha,λo nf acc bX=>?_⟩;have cZ:acc≠a:=λz=>by rw[z,jr]at bX;cases bX
 have f9:H acc=none:=by rw[jk cZ]at bX;exact bX
 have hnb:acc≠b:=λz=>by rw[z,hb]at f9;cases f9
 obtain⟨F,hF⟩:∃F,F=upd H a (.frz o (.dT kvs)):=⟨_,rfl⟩
 have fa:∀l:HO,upd F acc l a=some (.frz o (.dT kvs)):=λl=>by rw[jk (Ne.symm cZ),hF,jr]
 have fb:∀l:HO,Rd (upd F acc l) b (.dT cx):=λl=>by
  by_cases z:b=a
  ·subst z;rw[ha]at hb;cases hb;exact .inr ⟨o,fa l⟩
  ·refine .inl ?_;rw[jk (Ne.symm hnb),hF,jk z];exact hb
 have ft:∀l c ys,upd F acc (.lst l) c=some (.tup ys)->H c=some (.tup ys):=λl c ys e=>by
  by_cases z:c=acc
  ·rw[z,jr]at e;cases e
  ·rw[jk z,hF]at e
   by_cases y:c=a
   ·rw[y,jr]at e;cases e
   ·rw[jk y]at e;exact e
 rw[<-hF];refine⟨λi m xs H2=>i+m=kvs.length/\Keys H ((kvs.take i).filter (vT cx)) xs/\H2=upd F acc (.lst xs),⟨kvs.length,by omega,.nil,rfl⟩,?_⟩;rintro i m xs H2 ⟨h1,h2,rfl⟩
 by_cases hi:kvs.length<=i
 ·refine .inl ⟨⟨fa _,hi⟩,a,o,kvs,nf,fa _,?_⟩;have e1:upd (upd F acc (.lst xs)) a (.dT kvs)=upd H acc (.lst xs):=by
   funext c
   by_cases z:c=a
   ·subst z;rw[jr,jk (Ne.symm cZ),ha]
   ·rw[jk z]
    by_cases y:c=acc
    ·subst y;rw[jr,jr]
    ·rw[jk y,jk y,hF,jk z]
  rw[e1];rw[List.take_of_length_le hi]at h2;exact q acc xs f9 h2
 ·have cz:i<kvs.length:=by omega
  have hle:((kvs.take i).filter (vT cx)).length<=i:=le_trans (length_filter_le _ _) (by rw[length_take];exact Nat.min_le_left _ _);refine .inr ⟨⟨fa _,cz⟩,by rw[h2.length];omega,λys H'=>Keys H ((kvs.take (i+1)).filter (vT cx)) ys/\H'=upd F acc (.lst ys),λys H' hN=>⟨m-1,by omega,by omega,hN.1,hN.2⟩,?_⟩;rintro x H3 ⟨c,kv,rfl,eK,hc,rfl⟩;have ei:yZ 1 [j] σ=[none,some (.ref b)]:=by
   show [none]++[(σ[j]?).getD none]=_;rw[hs];rfl
  rw[ei];have tk:kvs.take (i+1)=kvs.take i++[kv]:=by
   rw[take_succ,eK];rfl
  refine⟨jlK,?_⟩;refine⟨.ref c,rfl,.ref b,rfl,b,yT cx kv.1,rfl,.inr ⟨cx,kv.1,c,fb _,rfl,hc,rfl⟩,!(yT cx kv.1).isSome,rfl,?_⟩
  by_cases hv:(!(yT cx kv.1).isSome)=true
  ·dsimp only;rw[if_pos hv];refine⟨.ref c,rfl,jr,?_,uk⟩;rw[tk,filter_append]
   have:[kv].filter (vT cx)=[kv]:=by
    rw[filter_cons,if_pos (show vT cx kv=true from hv)];rfl
   rw[this];exact h2.snoc (ft _ _ _ hc)
  ·dsimp only;rw[if_neg hv];refine⟨?_,rfl⟩;rw[tk,filter_append]
   have:[kv].filter (vT cx)=[]:=by
    rw[filter_cons,if_neg (show ¬ vT cx kv=true from hv)];rfl
   rw[this,append_nil];exact h2
def jmq (X:Cx)(t:TS):TS:=λD σ H=>t { D with nx:=λσ' H'=>∃a o kvs,(∀o u,X.H₀ a≠some (.frz o u))/\H' a=some (.frz o (.dT kvs))/\D.nx σ' (upd H' a (.dT kvs)) } σ H
theorem jkr {X:Cx}{st:Stmt}{t:TS}(h:PS X st t):PS X st (jmq X t):=by
 intro bF s σ H D I hq;refine thn (h bF s σ H _ I hq) λf s1 q=>?_;cases f with
 |next=>
  obtain⟨σ1,H1,I1,a,o,kvs,nf,ha,q⟩:=q;exact⟨σ1,_,I1.bp ha nf,q⟩
 |_=>exact q
end L2
namespace L3
open PySem L2
def uH (m:List (List Int×PV))(p:List Int×PV):Bool:=!(xf m p.1).isSome
def Je (M:Sto)(x y:PV):Option (List PV):=match x,y with
 |.ref i,.ref j=>(match M.g i,M.g j with
  |some (.dtv l),some (.dtv m)=>if l.length<=sizeLine then some (jey (l.filter (uH m)))else none
  |_,_=>none)
 |_,_=>none
def Jv (d:DE)(j:Nat):DE:=λρ M=>(d ρ M).bind λx M1=>match ρ[j]? with
 |some (some y)=>(match Je M1 x y with
  |some xs=>.ok (.lst xs) M1
  |none=>.bad)
 |_=>.bad
theorem Xz {M:Sto}{H:Hp}:∀(l:List (List Int×PV)) {kvs:List (List Key×V)}{xs:List V}{W:Wd},Held W M H->Keys H kvs xs->kvs.map (·.1)=l.map (λp=>xA p.1)->∃W',W.le W'/\Held W' M H/\yd W' (jey l) xs
 |[],kvs,xs,W,h,k,e=>by
  cases k with
  |nil=>exact⟨W,.refl W,h,rfl⟩
  |cons _ _=>cases e
 |p::l,kvs,xs,W,h,k,e=>by
  cases k with
  |nil=>cases e
  |cons hc t=>
   rw[map_cons,map_cons]at e;obtain⟨e1,e2⟩:=List.cons.inj e;rw[e1,xE]at hc;obtain⟨W1,l1,h1,f1⟩:=h.adopt hc;obtain⟨W2,l2,h2,r2⟩:=Xz l h1 t e2;exact⟨W2,l1.trans l2,h2,_,_,rfl,⟨_,_,rfl,.inl (l2.f _ _ f1),yd.ints.mpr rfl⟩,r2⟩
theorem joM {W:Wd}{m:List (List Int×PV)}{i9:List (List Key×V)}(rm:yM W xA m i9):∀{l:List (List Int×PV)}{vs:List (List Key×V)},yM W xA l vs->(vs.filter (vT i9)).map (·.1)=(l.filter (uH m)).map λp=>xA p.1
 |[],_,e=>by
  have e:_=[]:=e;subst e;rfl
 |p::l,_,⟨v,rs,e,_,t⟩=>by
  subst e;have hv:vT i9 (xA p.1,v)=uH m p:=by
   unfold vT uH;rcases rm.get yY p.1 with⟨a1,a2⟩|⟨x,v',a1,a2,_⟩
   ·rw[a1,a2];rfl
   ·rw[a1,a2];rfl
  rw[filter_cons,filter_cons,hv]
  by_cases z:uH m p=true
  ·rw[if_pos z,if_pos z,map_cons,map_cons,joM rm t]
  ·rw[if_neg z,if_neg z,joM rm t]
section
variable {X:Cx}{T:Tb}{ES:St->XK}{osc sc:Scope}{xr xs':Str}{j:Nat}{iter:Expr}{pos p1 p2 p3 p4 p5:Pos}{d:DE}
theorem jii {d:DE}{σ:St}{H:Hp}{Q Q':VK}(h:lft T Rep ES d σ H Q)(f:∀v H',Q v H'->Q' v H'):lft T Rep ES d σ H Q':=by
 obtain⟨W,ρ,M,k,hh,hs,p⟩:=h;refine⟨W,ρ,M,k,hh,hs,?_⟩
 cases e:d ρ M with
 |ok x M1=>
  rw[e]at p;exact λW1 H1 v l1 h1 r1=>f _ _ (p W1 H1 v l1 h1 r1)
 |exc c M1=>
  rw[e]at p;exact p
 |bad=>
  rw[e]at p;exact p
theorem jia {σ:St}{H:Hp}{Q:VK}(h:lft T Rep ES (Jv d j) σ H Q):jpx j (lft T Rep ES d) σ H Q:=by
 refine jC h λW ρ M k hh hs q=>⟨W,ρ,M,k,hh,hs,yh.bind q λW1 M1 x v H1 l1 h1 r1 q1=>?_⟩
 split at q1
 rotate_left
 ·exact q1.elim
 rename_i y ey;split at q1
 rotate_left
 ·exact q1.elim
 rename_i ks e2;unfold Je at e2;split at e2
 rotate_left
 ·cases e2
 rename_i i i2;split at e2
 rotate_left
 ·cases e2
 rename_i l m e5 e6;split at e2
 rotate_left
 ·cases e2
 rename_i hz;cases e2;obtain⟨a,rfl,ea⟩:=r1;obtain⟨w,hw,ry⟩:=(hs.up l1).2 j _ ey;obtain⟨b,rfl,eb⟩:=ry;obtain⟨_,_,g1,_,g3,vs,rfl,ra⟩:=h1.m i _ e5;rw[ea]at g1;cases g1;obtain⟨_,_,g1',_,kF,i9,rfl,ra2⟩:=h1.m i2 _ e6;rw[eb]at g1';cases g1';refine⟨a,vs,b,i9,rfl,g3,hw,kF,by rw[ra.length];exact hz,λacc xs bX hk=>?_⟩;obtain⟨W2,l2,h2,r2⟩:=Xz (l.filter (uH m)) h1 hk (joM ra2 ra);obtain⟨W3,l3,h3,r3⟩:=xX h2 r2 bX;exact q1 W3 _ _ (l2.trans l3) h3 r3
theorem jck {i:Nat}{x:Str}{px dZ:Pos}(hu:X.A.units+1<cLine)(hc:X.calm=true)(ho:X.env.scope=osc)(S:CompScope osc sc [xr] [xs'])(hj:[j].map (λj=>X.N[j]?)=[xs'].map some)(hN:X.N.Nodup)(fh:X.N[i]?= some x)(hx:X.env.scope.names.lookup x=some .local)(hi:QE X T ES iter d)(hg:∀b3 b4 fp,PG (jQ X ([xr]++[xs']) sc b3 b4 fp) (.Name xr p1) (vc 0)) (h0:∀b3 b4 fp,PE (jQ X ([xr]++[xs']) sc b3 b4 fp) (.Name xr p2) (jao 0)) (h0':∀b3 b4 fp,PE (jQ X ([xr]++[xs']) sc b3 b4 fp) (.Name xr p4) (jao 0)) (h1:∀b3 b4 fp,PE (jQ X ([xr]++[xs']) sc b3 b4 fp) (.Name xs' p5) (jao 1))(hm:behindInMarks .NotIn (.Name xs' p5)=false) (iy:swapsWith (.ListComp (.Name xr p2) [⟨.Name xr p1,iter,[.Compare (.Name xr p4) [.NotIn] [.Name xs' p5] p3],0⟩] sc pos) (some (.Name x px)) dZ.line X.env=pure true) (hs:∀x,foldedSetIterable iter X.env x=pure x:=by intro _;rfl) :
  QS X T ES (.Assign [.Name x px] (.ListComp (.Name xr p2) [⟨.Name xr p1,iter,[.Compare (.Name xr p4) [.NotIn] [.Name xs' p5] p3],0⟩] sc pos) dZ) (yH i (Jv d j)):=
 ⟨xi (jkr (jel hc ho S hj hN fh hx (jky hi.h) hg (λa b c=>jiv (jhB (jfY hu (h0' a b c) (h1 a b c)) hm)) (λa b c=>h0 a b c) iy hs)) λD σ H h=>by
  have:=YX h
  exact jqe (X:=X) (λh f=>jii h f) (jia this)⟩
end
end L3
namespace Sr3
open PySem PySem.W PyProof.Rows Srt
def lexB3 (x y:Int×Int×Int):Bool:=if x.1=y.1 then(if x.2.1=y.2.1 then decide (x.2.2<y.2.2)else decide (x.2.1<y.2.1))else decide (x.1<y.1)
theorem lex_iff3 {x y:Int×Int×Int}:lexB3 x y=true↔x.1<y.1\/(x.1=y.1/\(x.2.1<y.2.1\/(x.2.1=y.2.1/\x.2.2<y.2.2))):=by
 unfold lexB3
 by_cases h:x.1=y.1
 ·rw[if_pos h]
  by_cases h2:x.2.1=y.2.1
  ·rw[if_pos h2,decide_eq_true_eq];omega
  ·rw[if_neg h2,decide_eq_true_eq];omega
 ·rw[if_neg h,decide_eq_true_eq];omega
def jaJ (ks:List (Int×Int×Int))(x:Int×Int×Int):Int:=((ks.filter λy=>lexB3 y x).length:Nat)
theorem Xj {x y:Int×Int×Int}(h:lexB3 y x=false):∀ks:List (Int×Int×Int),(ks.filter λz=>lexB3 z x).length<=(ks.filter λz=>lexB3 z y).length
 |[]=>le_refl _
 |k::ks=>by
  have ih:=Xj h ks;rw[filter_cons,filter_cons];cases h1:lexB3 k x with
  |false=>
   rw[if_neg (by simp)];split
   ·simp;omega
   ·exact ih
  |true=>
   have h2:lexB3 k y=true:=by
    have a:=lex_iff3.mp h1;have b:¬ _:=λz=>by rw[lex_iff3.mpr z]at h;cases h
    exact lex_iff3.mpr (by omega)
   rw[h2,if_pos rfl,if_pos rfl];simp;exact ih
theorem jaI {x y:Int×Int×Int}(h:lexB3 x y=true):∀{ks:List (Int×Int×Int)},x∈ks->(ks.filter λz=>lexB3 z x).length<(ks.filter λz=>lexB3 z y).length
 |k::ks,hm=>by
  have hxy:lexB3 y x=false:=by
   cases e:lexB3 y x with
   |false=>rfl
   |true=>have a:=lex_iff3.mp h;have b:=lex_iff3.mp e;omega
  have le:=Xj hxy ks;rw[filter_cons,filter_cons]
  by_cases hk:k=x
  ·subst hk
   have:lexB3 k k=false:=by
    cases e:lexB3 k k with
    |false=>rfl
    |true=>have b:=lex_iff3.mp e;omega
   rw[this,h,if_neg (by simp),if_pos rfl];simp;omega
  ·have iF:x∈ks:=by
    rcases List.mem_cons.mp hm with z|z
    ·exact absurd z.symm hk
    ·exact z
   have ih:=jaI h iF;cases h1:lexB3 k x with
   |false=>
    rw[if_neg (by simp)];split
    ·simp;omega
    ·exact ih
   |true=>
    have h2:lexB3 k y=true:=lex_iff3.mpr (by have a:=lex_iff3.mp h;have b:=lex_iff3.mp h1;omega);rw[h2,if_pos rfl,if_pos rfl];simp;exact ih
theorem Vs {ks:List (Int×Int×Int)}{x y:Int×Int×Int}(hx:x∈ks):lexB3 x y=decide (jaJ ks x<jaJ ks y):=by
 unfold jaJ;cases h:lexB3 x y with
 |true=>
  have:=jaI h hx
  rw[decide_eq_true (by omega)]
 |false=>
  have:=Xj h ks
  rw[decide_eq_false (by omega)]
def T3 (h:Heap)(v:Value)(k:Int×Int×Int):Prop:=∃a o t u r n,v= .ref a/\h.get? a=some o/\o.cls= .type "tuple"/\o.data= .seq #[.int k.1 t,.int k.2.1 u,.int k.2.2 r] n
theorem T3.mono {h h':Heap}{v:Value}{k:Int×Int×Int}(q:T3 h v k)(e:∀b o,v= .ref b->h.get? b=some o->h'.get? b=some o):T3 h' v k:=by
 obtain⟨a,o,t,u,r,n,rfl,h1,h2,h3⟩:=q;exact⟨a,o,t,u,r,n,rfl,e a o rfl h1,h2,h3⟩
def All3 (h:Heap):List Value->List (Int×Int×Int)->Prop
 |[],[]=>True
 |v::vs,k::ks=>T3 h v k/\All3 h vs ks
 |_,_=>False
theorem All3.mono {h h':Heap}:∀{vs:List Value}{ks:List (Int×Int×Int)},All3 h vs ks->(∀b o,.ref b∈vs->h.get? b=some o->h'.get? b=some o)->All3 h' vs ks
 |[],[],_,_=>trivial
 |v::vs,k::ks,q,e=>⟨q.1.mono λb o z=>e b o (by rw[z];exact mem_cons_self),q.2.mono λb o z=>e b o (mem_cons_of_mem _ z)⟩
 |[],_::_,q,_=>q.elim
 |_::_,[],q,_=>q.elim
theorem All3.length {h:Heap}:∀{vs:List Value}{ks:List (Int×Int×Int)},All3 h vs ks->vs.length=ks.length
 |[],[],_=>rfl
 |_::_,_::_,q=>by simp[q.2.length]
 |[],_::_,q=>q.elim
 |_::_,[],q=>q.elim
theorem All3.at {h:Heap}:∀{vs:List Value}{ks:List (Int×Int×Int)}{i:Nat},All3 h vs ks->i<vs.length->T3 h (vs.getD i .none) (ks.getD i (0,0,0))
 |_::_,_::_,0,q,_=>q.1
 |_::_,_::_,i+1,q,hi=>q.2.at (i:=i) (by simpa using hi)
 |[],[],i,_,hi=>absurd hi (not_lt_zero _)
 |[],_::_,_,q,_=>q.elim
 |_::_,[],_,q,_=>q.elim
theorem All3.aQ {h:Heap}:∀{vs:List Value}{ks:List (Int×Int×Int)},All3 h vs ks->∃fs,KatTups h vs fs/\fs.length=vs.length/\∀v∈fs,∃i t,v=Value.int i t
 |[],[],_=>⟨[],trivial,rfl,λ_ h=>by cases h⟩
 |_::_,k::_,q=>by
  obtain⟨fs,a,b,c⟩:=q.2.aQ;obtain⟨ad,o,t,u,r,n,rfl,h1,h2,h3⟩:=q.1
  exact⟨.int k.1 t::fs,KatTups.cons h1 h2 h3 rfl a,by simp[b],λv hv=>by
   rcases List.mem_cons.mp hv with e|e
   ·exact⟨_,_,e⟩
   ·exact c v e⟩
 |[],_::_,q=>q.elim
 |_::_,[],q=>q.elim
section
variable {prog:Program}{w:World}{A:Around}{E:tE0}{s:Shared}
theorem jjd {x y:Value}{k l:Int×Int×Int}{Q:Bool->Shared->Prop}(hx:T3 s.heap x k)(hy:T3 s.heap y l)(h:Q (lexB3 k l) s):wpAny (model prog w) A (keyLt' (tuples' true) x y) Q E s:=by
 obtain⟨a,o,t,u,r,n,rfl,x1,_,x3⟩:=hx;obtain⟨b,o',t',u',r',n',rfl,y1,_,y3⟩:=hy;refine kat_lt x1 x3 y1 y3 (kat_cons (wpAny_eqBool_int ?_));unfold lexB3 at h
 by_cases he:k.1=l.1
 ·rw[if_pos he]at h;rw[show(k.1==l.1)=true by simpa using he];refine kat_yes (kat_cons (wpAny_eqBool_int ?_))
  by_cases iY:k.2.1=l.2.1
  ·rw[if_pos iY]at h;rw[show(k.2.1==l.2.1)=true by simpa using iY];refine kat_yes (kat_cons (wpAny_eqBool_int ?_))
   by_cases he3:k.2.2=l.2.2
   ·rw[show(k.2.2==l.2.2)=true by simpa using he3];refine kat_yes (kat_nil ?_);rw[decide_eq_false (by omega)]at h;exact h
   ·rw[show(k.2.2==l.2.2)=false by simpa using he3];exact kat_no (kat_one _ _ (lt_int h))
  ·rw[if_neg iY]at h;rw[show(k.2.1==l.2.1)=false by simpa using iY];exact kat_no (kat_one _ _ (lt_int h))
 ·rw[if_neg he]at h;rw[show(k.1==l.1)=false by simpa using he];exact kat_no (oneLt_int h)
theorem jgf {vs:List Value}{ks:List (Int×Int×Int)}{Q:SortKind->Shared->Prop}(q:All3 s.heap vs ks)(h2:2<=vs.length)(h:Q (tuples' true) s):wpAny (model prog w) A (keyKind' vs.toArray) Q E s:=by
 obtain⟨fs,a,b,c⟩:=q.aQ;refine kat_kind (T:=Value.type "int") a (by omega) (λv hv=>?_) rfl h;obtain⟨i,t,rfl⟩:=c v hv;exact Looks.now
def Rises (ks:List (Int×Int×Int))(p:List Nat):Prop:=p.Perm (List.range ks.length)/\(p.map λi=>ks.getD i (0,0,0)).Pairwise λx y=>lexB3 y x=false
theorem sort_tup3 {a:Addr}{vs:List Value}{ks:List (Int×Int×Int)}{n:Nat}{P:Fin->Shared->Prop}(ho:s.heap.get? a=some (seqObj "list" vs.toArray n))(q:All3 s.heap vs ks)(hna:.ref a∉vs)(hE:vs.length<64)(h:∀p,Rises ks p->P (.done (.ret .none)) { s with heap:=sortedHeap s.heap a vs (outOf vs p) }):wpAny (model prog w) A (Builtin.«list.sort» ⟨[.ref a],[]⟩) P E s:=by
 have ko:=q.length;rw[list_sort_plain];have cz:a<s.heap.objs.size:=lt_size ho;have zz:vs.toArray.size<=sizeLine:=by rw[size_toArray,sizeLine_eq];omega
 refine wpAny_bind (listItems_at ho rfl (wpAny_bind (listUpdate_at ho rfl ?_ zz (zero_le _))))
 obtain⟨e1,g1⟩:∃e,(s.heap.update a (Obj.mapSeq λ_=>(#[]:Array Value))).get? a=some (seqObj "list" #[] e):=⟨_,get?_update_seq ho λ_=>#[]⟩
 refine wpAny_bind (seqEpoch_at g1 rfl (wpAny_bind (wpAny_newTuple (wpAny_bind (wpAny_newList (wpAny_holding ?_) (zero_le _))) (by show vs.length<=_;rw[sizeLine_eq];omega))))
 obtain⟨h5,e5⟩:∃h5,h5=((s.heap.update a (Obj.mapSeq λ_=>(#[]:Array Value))).push (seqObj "tuple" vs.toArray 0)).push (seqObj "list" #[] 0):=⟨_,rfl⟩
 have dG:∀b o,b≠a->s.heap.get? b=some o->h5.get? b=some o:=λb o hb z=>by
  rw[e5];exact get?_push_of_some _ (get?_push_of_some _ (by rw[get?_update_ne _ _ _ _ hb];exact z))
 have g5:h5.get? a=some (seqObj "list" #[] e1):=by
  rw[e5];exact get?_push_of_some _ (get?_push_of_some _ g1)
 have q5:All3 h5 vs ks:=q.mono λb o hb z=>dG b o (λy=>hna (by rw[<-y];exact hb)) z;show wpAny (model prog w) A _ P E { s with heap:=((s.heap.update a (Obj.mapSeq λ_=>(#[]:Array Value))).push (seqObj "tuple" vs.toArray 0)).push (seqObj "list" #[] 0) };rw[<-e5];have fin:∀p,Rises ks p->P (.done (.ret .none)) { s with heap:=h5.update a (Obj.mapSeq λ_=>outOf vs p) }:=λp hp=>by
  have:=h p hp
  unfold sortedHeap at this;rw[e5];exact this
 have osz:∀p,Rises ks p->(outOf vs p).size<=sizeLine:=λp hp=>by
  have:(outOf vs p).size=ks.length:=by
   unfold outOf;rw[size_toArray,length_map,hp.1.length_eq,length_range]
  rw[this,sizeLine_eq];omega
 dsimp only
 by_cases h2:vs.toArray.size<2
 ·have hR:Rises ks (List.range ks.length):=⟨.refl _,by
   have h2:ks.length<2:=by rw[<-ko];simpa using h2
   match ks,h2 with
   |[],_=>exact .nil
   |[k],_=>exact List.pairwise_singleton _ _⟩
  have eO:((vs.toArray.zip vs.toArray).map (·.2))=outOf vs (List.range ks.length):=by
   unfold outOf;rw[<-ko,jcQ];apply Array.toList_inj.mp;rw[Array.toList_map,Array.toList_zip];exact List.map_snd_zip (le_refl _)
  rw[if_pos h2,if_pos h2];refine wpAny_bind (wpAny_pure ?_);rw[StateT.run_pure];refine wpAny_bind (wpAny_pure (wpAny_bind (seqEpoch_at g5 rfl (wpAny_bind (listUpdate_at g5 rfl ?_ (zero_le _) (by show((vs.toArray.zip vs.toArray).map (·.2)).size<=_;rw[eO];exact Nat.le_succ_of_le (osz _ hR)))))));simp only[bne_self_eq_false,false_eq_true,if_false];refine wpAny_pure ?_
  have:=fin _ hR
  rw[<-eO]at this;exact this
 ·have h2:2<=vs.length:=by simpa using h2
  rw[if_neg (by simpa using h2),if_neg (by simpa using h2)];refine wpAny_bind (jgf (s:={ s with heap:=h5 }) q5 h2 ?_);obtain⟨p,ep,pp,up⟩:=jgX (r:=λi=>jaJ ks (ks.getD i (0,0,0))) (n:=vs.length) (by omega);have hR:Rises ks p.toList:=by
   refine⟨by rw[<-ko];exact pp,?_⟩;rw[List.pairwise_iff_getElem];intro i j hi hj eA;rw[length_map]at hi hj
   have hsz:p.toList.length=vs.length:=by rw[pp.length_eq,length_range]
   rw[length_toList]at hi hj hsz;have u:=up i j (by omega) (by omega);unfold Kp at u;dsimp only at u;rw[getD_eq_getD_getElem?,getD_eq_getD_getElem?,Array.getElem?_eq_getElem hi,Array.getElem?_eq_getElem hj,getD_some,getD_some]at u;have hm:ks.getD p[j] (0,0,0)∈ks:=by
    have:p[j]∈List.range vs.length:=pp.mem_iff.mp (by simp)
    have cz:=List.mem_range.mp this;rw[getD_eq_getElem?_getD,getElem?_eq_getElem (by omega),getD_some];exact getElem_mem _
   rw[getElem_map,getElem_map,getElem_toList,getElem_toList,Vs hm];exact decide_eq_false (by omega)
  refine wpAny_bind (wpAny_mono (kat_run (ks:=vs) (vs:=vs) (κ:=tuples' true) (s:={ s with heap:=h5 }) (G:=λp' s'=>p'=p/\s'={ s with heap:=h5 })
   (Q:=λe9 s'=>arrOf e9=p.map (kas_item (vs.toArray.zip vs.toArray))/\failedOf e9=none/\s'={ s with heap:=h5 }) rfl h2 hE (λp' e9 s' _ a2 a3 a4=>by rw[a4.1]at a2;exact⟨a2,a3,a4.2⟩) ?_) ?_ λ_ _ z=>z)
  ·refine jdz (n:=vs.length) (lt:=lo λi=>jaJ ks (ks.getD i (0,0,0))) (λi j C hi hj hC=>?_) (kas_sort vs.length) (jjj (by omega)) ⟨ep,rfl⟩;refine jjd (All3.at q5 hi) (All3.at q5 hj) ?_;have hm:ks.getD i (0,0,0)∈ks:=by
    rw[getD_eq_getElem?_getD,getElem?_eq_getElem (by omega),getD_some];exact getElem_mem _
   rw[Vs hm];exact hC
  ·rintro⟨⟨⟩,e9⟩ s' ⟨a1,a2,rfl⟩;dsimp only;have eO:(arrOf e9).map (·.2)=outOf vs p.toList:=kat_snds rfl a1;refine wpAny_bind (seqEpoch_at g5 rfl (wpAny_bind (listUpdate_at g5 rfl ?_ (zero_le _) (by rw[eO];exact Nat.le_succ_of_le (osz _ hR)))));rw[a2,eO];simp only[bne_self_eq_false,false_eq_true,if_false];exact wpAny_pure (fin _ hR)
end
end Sr3
namespace Srt
open PySem PySem.W PyProof.Rows
section
variable {prog:Program}{w:World}{A:Around}{E:tE0}{s:Shared}
theorem sorted_src3 {T:String}{r d:Addr}{n:Nat}{P:Nat->Value->Prop}{OK:Heap->Prop}{ks:List (Int×Int×Int)}{vs0:List Value}{Q:tE0}(K:KdlSrc prog w T r d n P OK)(hh:A.handled=none)(hok:OK s.heap)(hE:n<64)(hi:∀vs:List Value,vs.length=n->(∀j v,vs[j]?= some v->P j v)->vs=vs0)(ha:Sr3.All3 s.heap vs0 ks) (hl0:∀b,Value.ref b∈vs0->b<s.heap.objs.size)(h:∀h' tk a e (q:List Nat),(∀b o,s.heap.get? b=some o->h'.get? b=some o)->s.heap.objs.size<=a->h'.get? a=some (seqObj "list" (outOf vs0 q) e)->Sr3.Rises ks q->Q (.ref a) { s with heap:=h',toks:=tk }):wpAny (model prog w) A (call (.builtin "sorted") [.ref r]) Q E s:=by
 refine Calls.call_function_entry kind_sorted plain_sorted entry_sorted (args_sorted1 _) ?_;unfold Builtin.«sorted»;refine wpAny_bind (m:=checkCount "sorted" 1 1 _) (wpAny_pure (wpAny_bind (YB K hh hok (by rw[sizeLine_eq];omega) λh1 tk vs k1 z1 hl hp=>?_)));obtain rfl:=hi vs hl hp;refine wpAny_bind (wpAny_newList ?_ (by show vs.length<=_;rw[sizeLine_eq];omega));show wpAny _ _ _ _ _ { s with heap:=h1.push (seqObj "list" vs.toArray 0),toks:=tk };have g2:(h1.push (seqObj "list" vs.toArray 0)).get? h1.objs.size=some (seqObj "list" vs.toArray 0):=get?_push_size _ rfl;have ha2:Sr3.All3 (h1.push (seqObj "list" vs.toArray 0)) vs ks:=ha.mono λb o _ e=>get?_push_of_some _ (k1 b o e);refine wpAny_bind (wpAny_holding (wpAny_call_entry slot_list_sort ⟨_,g2,rfl⟩ entry_list_sort (Sr3.sort_tup3 (s:={ s with heap:=h1.push (seqObj "list" vs.toArray 0),toks:=tk }) g2 ha2 (λhm=>absurd (hl0 _ hm) (Nat.not_lt.mpr z1)) (by omega) λq hq=>⟨_,rfl,?_⟩) (args_list_sort _)))
 refine wpAny_pure ⟨_,rfl,?_⟩;unfold sortedHeap
 obtain⟨e1,g3⟩:∃e,((h1.push (seqObj "list" vs.toArray 0)).update h1.objs.size (Obj.mapSeq λ_=>#[])).get? h1.objs.size=some (seqObj "list" #[] e):=⟨_,get?_update_seq g2 λ_=>#[]⟩
 have g4:((((h1.push (seqObj "list" vs.toArray 0)).update h1.objs.size (Obj.mapSeq λ_=>#[])).push (seqObj "tuple" vs.toArray 0)).push (seqObj "list" #[] 0)).get? h1.objs.size=some (seqObj "list" #[] e1):=get?_push_of_some _ (get?_push_of_some _ g3);refine h _ tk h1.objs.size _ q (λb o q=>?_) z1 (get?_update_seq g4 λ_=>outOf vs q) hq;have hb:b<h1.objs.size:=lt_size (k1 b o q);rw[get?_update_ne _ _ _ _ (ne_of_lt hb)];refine get?_push_of_some _ (get?_push_of_some _ ?_);rw[get?_update_ne _ _ _ _ (ne_of_lt hb)];exact get?_push_of_some _ (k1 b o q)
end
end Srt
namespace L2
open PySem PySem.Spec PyProof.Rows PySem.W
def jbb (k:Int×Int×Int):List Key:=[Sum.inl k.1,Sum.inl k.2.1,Sum.inl k.2.2]
section
variable {X:Cx}
theorem jfh {prog:Program}{w:World}{H:Hp}{h:Heap}(ok:HOk prog w H h):∀{bs:List Addr}{ks:List (Int×Int×Int)},bs.length=ks.length->(∀(j:Nat) (k:Int×Int×Int) (b:Addr),ks[j]?= some k->bs[j]?= some b->H b=some (.tup ((jbb k).map kV)))->Sr3.All3 h (bs.map Value.ref) ks
 |[],[],_,_=>trivial
 |[],_::_,e,_=>by cases e
 |_::_,[],e,_=>by cases e
 |b::bs,k::ks,e,f=>by
  refine⟨?_,jfh ok (Nat.succ.inj e) λj k b e1 e2=>f (j+1) k b e1 e2⟩
  obtain⟨_,its,r,o,h1,h2,n,h3⟩:=(show yl prog w H h b (.tup ((jbb k).map kV))from ok b _ (f 0 k b rfl rfl))
  cases r with
  |cons r1 t1=>
   cases t1 with
   |cons r2 t2=>
    cases t2 with
    |cons r3 t3=>
     cases t3;obtain⟨u1,rfl⟩:=r1;obtain⟨u2,rfl⟩:=r2;obtain⟨u3,rfl⟩:=r3;exact⟨b,o,u1,u2,u3,n,rfl,h1,h2,h3⟩
theorem Jz (hc:X.calm=true):yK X (.builtin "sorted") (λxs H Q=>∃p kvs ks,xs=[.ref p]/\H p=some (.dT kvs)/\kvs.length<64/\kvs.map (·.1)=ks.map jbb /\
  ∀(l:Addr) (bs:List Addr) (q:List Nat),H l=none->bs.length=kvs.length->(∀(j:Nat) (kv:List Key×V) (b:Addr),kvs[j]?= some kv->bs[j]?= some b->H b=some (.tup (kv.1.map kV)))->Sr3.Rises ks q->Q (.ref l) (upd H l (.lst (q.map λi=>V.ref (bs.getD i 0))))):=by
 intro bF s σ H xs us Q I r h;obtain⟨p,kvs,ks,rfl,hp,hE,d9,q⟩:=h;obtain⟨u,rfl,rx⟩:=vals1 r;cases rx
 obtain⟨hz,hd,ys,rel,o,es,ep,ho,hx,dW,eX,nd⟩:=(show yl X.prog X.w H s.heap p (.dT kvs)from I.hok p _ hp)
 obtain⟨bs,f7,hbv,iN⟩:=jgg (P:=X.prog) (w:=X.w) rel;have hsz:es.size=ys.length:=size_of_entries eX;have hyl:ys.length=kvs.length:=(Paired.length rel).symm
 have ko:kvs.length=ks.length:=by
  have:=congrArg List.length d9
  simpa using this
 have hb3:∀(j:Nat) (k:Int×Int×Int) (b:Addr),ks[j]?= some k->bs[j]?= some b->H b=some (.tup ((jbb k).map kV)):=λj k b e1 e2=>by
  obtain⟨kv,eK⟩:∃kv,kvs[j]?= some kv:=by
   have hj:j<ks.length:=by
    rcases Nat.lt_or_ge j ks.length with z|z
    ·exact z
    ·rw[getElem?_eq_none z]at e1;cases e1
   exact⟨_,getElem?_eq_getElem (by omega)⟩
  have e3:(kvs.map (·.1))[j]?= (ks.map jbb)[j]?:=by rw[d9]
  rw[getElem?_map,getElem?_map,eK,e1]at e3;have e4:kv.1=jbb k:=Option.some.inj e3;rw[<-e4];exact iN j kv b eK e2
 refine Srt.sorted_src3 (ks:=ks) (vs0:=bs.map Value.ref) (jqZ hd hx dW) (I.ok.hd hc) ho (by rw[hsz,hyl];exact hE) (λvs hv hp=>?_) (jfh I.hok (by rw[f7,ko]) hb3) (λb hb=>?_) λh' tk a e qs k1 z1 g hr=>?_
 ·rw[<-hbv];refine ext_getElem? λj=>?_
  by_cases hj:j<es.size
  ·obtain⟨v,gU⟩:∃v,vs[j]?= some v:=⟨_,getElem?_eq_getElem (by omega)⟩
   obtain⟨e1,e2,e3⟩:=hp j v gU;rw[entry_at eX j]at e2;rw[gU,getElem?_map]
   cases ey:ys[j]? with
   |none=>rw[ey]at e2;cases e2
   |some y=>
    rw[ey]at e2;cases e2;rw[e3];rfl
  ·rw[getElem?_eq_none (by omega),getElem?_map,getElem?_eq_none (by omega)];rfl
 ·obtain⟨c,fw,e⟩:=List.mem_map.mp hb;cases e;obtain⟨j,hj,e⟩:=List.mem_iff_getElem.mp fw
  obtain⟨kv,eK⟩:∃kv,kvs[j]?= some kv:=⟨_,getElem?_eq_getElem (by omega)⟩
  have hb:=iN j kv b eK (by rw[getElem?_eq_getElem hj,e])
  obtain⟨_,its,r,o',h1,_⟩:=(show yl X.prog X.w H s.heap b (.tup (kv.1.map kV))from I.hok b _ hb)
  exact lt_size h1
 ·have hq:∀i∈qs,i<bs.length:=λi hi=>by
   have:=hr.1.mem_iff.mp hi
   rw[List.mem_range]at this;omega
  have ev:Srt.outOf (bs.map Value.ref) qs=((qs.map λi=>bs.getD i 0).map Value.ref).toArray:=by
   unfold Srt.outOf;congr 1;rw[map_map];refine map_congr_left λi hi=>?_;show(bs.map Value.ref).getD i Value.none=Value.ref (bs.getD i 0)
   have:=hq i hi
   simp[getD_eq_getElem?_getD,this]
  have ql:qs.length=ks.length:=by
   have:=hr.1.length_eq
   rw[length_range]at this;exact this
  refine⟨.ref a,_,I.laid (a:=a) (o:=.lst (qs.map λi=>V.ref (bs.getD i 0))) (h':=h') (t':=tk) k1 z1 ?_,rfl,q a bs qs (I.hok.fresh z1) f7 iN hr⟩;refine⟨by rw[length_map,sizeLine_eq];omega,(qs.map λi=>bs.getD i 0).map Value.ref,e,?_,?_⟩
  ·have:=JI (qs.map λi=>bs.getD i 0)
   rw[map_map]at this;exact this
  ·rw[g,ev]
end
end L2
namespace L3
open PySem L2
def jgk (k:Int×Int×Int):List (Int×Int×Int)->List (Int×Int×Int)
 |[]=>[k]
 |m::ms=>if Sr3.lexB3 m k=true then m::jgk k ms else k::m::ms
def ym:List (Int×Int×Int)->List (Int×Int×Int)
 |[]=>[]
 |k::ks=>jgk k (ym ks)
theorem Yb (k:Int×Int×Int):∀ms:List (Int×Int×Int),(jgk k ms).Perm (k::ms)
 |[]=>.refl _
 |m::ms=>by
  unfold jgk;split
  ·exact((Yb k ms).cons m).trans (List.Perm.swap k m ms)
  ·exact .refl _
theorem yi:∀ks:List (Int×Int×Int),(ym ks).Perm ks
 |[]=>.refl _
 |k::ks=>(Yb k _).trans ((yi ks).cons k)
def Vl (ks:List (Int×Int×Int)):Prop:=ks.Pairwise λx y=>Sr3.lexB3 y x=false
theorem jkK {x y z:Int×Int×Int}(h1:Sr3.lexB3 y x=false)(h2:Sr3.lexB3 z y=false):Sr3.lexB3 z x=false:=by
 cases e:Sr3.lexB3 z x with
 |false=>rfl
 |true=>
  have a:=Sr3.lex_iff3.mp e;have b:¬ _:=λw=>by rw[Sr3.lex_iff3.mpr w]at h1;cases h1
  have c:¬ _:=λw=>by rw[Sr3.lex_iff3.mpr w]at h2;cases h2
  omega
theorem Yy {k:Int×Int×Int}:∀{ms:List (Int×Int×Int)},Vl ms->Vl (jgk k ms)
 |[],_=>List.pairwise_singleton _ _
 |m::ms,h=>by
  unfold jgk;have h':=List.pairwise_cons.mp h;split
  ·rename_i hc;refine List.pairwise_cons.mpr ⟨λz hz=>?_,Yy h'.2⟩;rcases List.mem_cons.mp ((Yb k ms).mem_iff.mp hz)with e|e
   ·subst e;cases e2:Sr3.lexB3 z m with
    |false=>rfl
    |true=>have a:=Sr3.lex_iff3.mp hc;have b:=Sr3.lex_iff3.mp e2;omega
   ·exact h'.1 z e
  ·rename_i hc;have hc:Sr3.lexB3 m k=false:=by simpa using hc
   refine List.pairwise_cons.mpr ⟨λz hz=>?_,h⟩;rcases List.mem_cons.mp hz with e|e
   ·rw[e];exact hc
   ·exact jkK hc (h'.1 z e)
theorem yE:∀ks:List (Int×Int×Int),Vl (ym ks)
 |[]=>.nil
 |k::ks=>Yy (yE ks)
theorem jkL {x y:Int×Int×Int}(h1:Sr3.lexB3 y x=false)(h2:Sr3.lexB3 x y=false):x=y:=by
 have b:¬ _:=λw=>by rw[Sr3.lex_iff3.mpr w]at h1;cases h1
 have c:¬ _:=λw=>by rw[Sr3.lex_iff3.mpr w]at h2;cases h2
 exact Prod.ext (by omega) (Prod.ext (by omega) (by omega))
theorem Jg:∀{xs ys:List (Int×Int×Int)},xs.Perm ys->Vl xs->Vl ys->xs=ys
 |[],ys,h,_,_=>(List.nil_perm.mp h).symm
 |x::xs,[],h,_,_=>absurd h.length_eq (by simp)
 |x::xs,y::ys,h,hx,hy=>by
  have hX:=List.pairwise_cons.mp hx;have hy':=List.pairwise_cons.mp hy;have e:x=y:=by
   rcases List.mem_cons.mp (h.subset mem_cons_self)with z|z
   ·exact z
   ·rcases List.mem_cons.mp (h.symm.subset mem_cons_self)with w|w
    ·exact w.symm
    ·exact jkL (hX.1 y w) (hy'.1 x z)
  subst e;rw[Jg ((List.perm_cons x).mp h) hX.2 hy'.2]
def tri (ns:List Int):Option (Int×Int×Int):=match ns with
 |[a,b,c]=>some (a,b,c)
 |_=>none
def jbY:List (List Int×PV)->Option (List (Int×Int×Int))
 |[]=>some []
 |p::l=>(tri p.1).bind λk=>(jbY l).map λks=>k::ks
def yb (k:Int×Int×Int):PV:=.tup [.int k.1,.int k.2.1,.int k.2.2]
def vZ (M:Sto)(x:PV):Option PV:=match x with
 |.ref i=>(match M.g i with
  |some (.dtv l)=>(match jbY l with
   |some ks=>if l.length<64 then some (.lst ((ym ks).map yb))else none
   |none=>none)
  |_=>none)
 |_=>none
theorem jmn {ns:List Int}{k:Int×Int×Int}(h:tri ns=some k):ns=[k.1,k.2.1,k.2.2]:=by
 unfold tri at h;split at h
 ·cases h;rfl
 ·cases h
theorem Ub:∀{l:List (List Int×PV)}{ks:List (Int×Int×Int)},jbY l=some ks->l.map (·.1)=ks.map λk=>[k.1,k.2.1,k.2.2]
 |[],_,h=>by cases h;rfl
 |p::l,_,h=>by
  unfold jbY at h;cases h1:tri p.1 with
  |none=>rw[h1]at h;cases h
  |some k=>
   rw[h1]at h;cases h2:jbY l with
   |none=>rw[h2]at h;cases h
   |some ks=>
    rw[h2]at h;cases h;rw[map_cons,map_cons,jmn h1,Ub h2]
theorem JO {W:Wd}:∀{l:List (List Int×PV)}{vs:List (List Key×V)},yM W xA l vs->vs.map (·.1)=(l.map (·.1)).map xA
 |[],_,e=>by
  have e:_=[]:=e;subst e;rfl
 |p::l,_,⟨v,rs,e,_,t⟩=>by
  subst e;rw[map_cons,map_cons,map_cons,JO t]
section
variable {X:Cx}{T:Tb}
theorem jgC (hc:X.calm=true):yK X (.builtin "sorted") (rC T (one vZ)):=uu (Jz hc) λW M H x v z Q k hh r e q=>by
 unfold vZ at e;split at e
 rotate_left
 ·cases e
 rename_i i;split at e
 rotate_left
 ·cases e
 rename_i l e5;split at e
 rotate_left
 ·cases e
 rename_i ks e6;split at e
 rotate_left
 ·cases e
 rename_i hE;cases e;obtain⟨a,rfl,ea⟩:=r;obtain⟨b,ob,g1,g2,g3,vs,rfl,ra⟩:=hh.m i _ e5;rw[ea]at g1;cases g1;have hk:=Ub e6;have hv:vs.map (·.1)=ks.map jbb:=by
  rw[JO ra,hk,map_map];rfl
 have lR:l.length=ks.length:=by
  have:=congrArg List.length hk
  simpa using this
 refine⟨a,vs,ks,rfl,g3,by rw[ra.length];exact hE,hv,λl' bs qs d8 f7 iN hr=>?_⟩
 obtain⟨W1,l1,h1,r1⟩:=jdm l bs hh (by rw[f7,ra.length]) λj p b e1 e2=>by
  obtain⟨kv,e3,e4⟩:=jcG ra j p e1
  have:=iN j kv b e3 e2
  rw[e4,xE]at this;exact this
 have el:(l.map λp=>PV.tup (p.1.map PV.int))=ks.map yb:=by
  have:(l.map λp=>PV.tup (p.1.map PV.int))=(l.map (·.1)).map λns=>PV.tup (ns.map PV.int):=by rw[map_map];rfl
  rw[this,hk,map_map];rfl
 rw[el]at r1;have hq:∀i∈qs,i<ks.length:=λi hi=>List.mem_range.mp (hr.1.mem_iff.mp hi);have r2:=JM r1 qs λi hi=>by rw[length_map];exact hq i hi
 have e2:(qs.map λi=>(ks.map yb).getD i .non)=(ym ks).map yb:=by
  have e3:(qs.map λi=>ks.getD i (0,0,0))=ym ks:=by
   refine Jg ?_ hr.2 (yE ks);have e4:(List.range ks.length).map (λi=>ks.getD i (0,0,0))=ks:=by
    refine ext_getElem (by simp) λi h1 h2=>?_;simp[getD_eq_getElem?_getD,h2]
   have:=hr.1.map λi=>ks.getD i (0,0,0)
   rw[e4]at this;exact this.trans (yi ks).symm
  rw[<-e3,map_map];refine map_congr_left λi hi=>?_
  have:=hq i hi
  show(ks.map yb).getD i .non=yb (ks.getD i (0,0,0));rw[getD_eq_getElem?_getD,getD_eq_getElem?_getD,getElem?_map,getElem?_eq_getElem this];rfl
 have e7:(qs.map λi=>(bs.map V.ref).getD i .non)=qs.map λi=>V.ref (bs.getD i 0):=map_congr_left λi hi=>by
  have h1:=hq i hi;have h2:i<bs.length:=by rw[f7,ra.length,lR];exact h1
  rw[getD_eq_getElem?_getD,getD_eq_getElem?_getD,getElem?_map,getElem?_eq_getElem h2];rfl
 rw[e2,e7]at r2;obtain⟨W2,l2,h2,r3⟩:=xX h1 r2 d8;exact q W2 _ _ (l1.trans l2) h2 r3
end
end L3
namespace L2
open PySem PySem.Spec PyProof.Rows PySem.W
section
variable {prog:Program}{w:World}{A:Around}{E:tE0}{s:Shared}
theorem jcz {it d:Addr}{i ep:Nat}{es:Array DictEntry}{od:Obj}{Q:Option Value->Shared->Prop}(hit:s.heap.IsValIter it d i es.size ep)(fX:s.heap.get? d=some od)(eB:od.data= .dict es ep)(iG:i<es.size)(hQ:∀h',h'.IsValIter it d (i+1) es.size ep->SameBut it s.heap h'->Q (some es[i].val) { s with heap:=h' }):wpAny (model prog w) A (pyNext (.ref it)) Q E s:=by
 obtain⟨o,ho,hc,hd⟩:=id hit;unfold pyNext
 refine wpAny_bind (wpAny_attempt (wpAny_callSpecial?_slot (name:=Str.ofString "__next__") hit.typeIs PySem.F.slot_dict_valueiterator_next
  (wpAny_call_entry PySem.F.slot_dict_valueiterator_next hit.typeIs PySem.F.entry_dict_valueiterator_next ?_ (PySem.F.args_dict_valueiterator_next_1 _))))
 refine wpAny_bind (wpAny_pure ?_);refine wpAny_bind ?_;refine wpAny_bind ?_
 first|refine wpAny_bind (wpAny_typeNameOfWhole_valiter hit.typeIs (wpAny_pure ?_))|refine wpAny_bind (wpAny_typeNameOf_valiter hit.typeIs (wpAny_pure ?_))
 refine wpAny_bind (wpAny_fieldsOf ho hd ?_);have cW:Builtin.Dict_items.ownsTuple "dict_valueiterator" = false:=by decide
 simp only[cW,false_eq_true,if_false];show wpAny _ _ (if(Value.ref d==Value.none)=true then _ else _) _ _ s;rw[if_neg (show ¬((Value.ref d==Value.none)=true)from Bool.false_ne_true)];refine wpAny_bind (wpAny_pure ?_);refine wpAny_bind (wpAny_dictEntries fX eB ?_);rw[if_neg (by simp)];refine wpAny_bind (wpAny_pure ?_);refine wpAny_bind (wpAny_dictEpoch fX eB ?_);rw[if_neg (by simp)];refine wpAny_pure ?_;simp only[show ¬((i:Int)<0)from by omega,if_false,Int.toNat_natCast,Array.getElem?_eq_getElem iG];refine wpAny_bind ?_
 first|refine wpAny_bind (wpAny_typeNameOfWhole_valiter hit.typeIs (wpAny_pure ?_))|refine wpAny_bind (wpAny_typeNameOf_valiter hit.typeIs (wpAny_pure ?_))
 refine wpAny_bind (wpAny_isOneOf_valiter hit.typeIs ?_);show wpAny _ _ (setField (.ref it) 1 (rawInt ((i:Int)+1)) >>= _) _ _ s;refine wpAny_bind (wpAny_setField ho hd (by simp) ?_);have ez:(s.heap.update it (Obj.mapFields (·.setIfInBounds 1 (rawInt ((i:Int)+1))))).IsValIter it d (i+1) es.size ep:=
  ⟨_,get?_update_self _ ho (Obj.isFreed_of_fields (Obj.data_mapFields hd _)),(Obj.cls_mapFields ..).trans hc,by rw[Obj.data_mapFields hd];simp[rawInt]⟩
 refine wpAny_bind (wpAny_holding ?_);refine wpAny_bind (wpAny_isOneOf_valiter (s:={ s with heap:=s.heap.update it (Obj.mapFields (·.setIfInBounds 1 (rawInt ((i:Int)+1)))) }) ez.typeIs ?_);rw[if_neg (by decide)];refine wpAny_bind (wpAny_isOneOf_valiter (s:={ s with heap:=s.heap.update it (Obj.mapFields (·.setIfInBounds 1 (rawInt ((i:Int)+1)))) }) ez.typeIs ?_);show wpAny _ _ (pure es[i].val) _ _ _;exact wpAny_pure (wpAny_pure ⟨_,rfl,wpAny_pure (hQ _ ez (Heap.SameBut.update ..))⟩)
theorem jga {it d:Addr}{i ep:Nat}{es:Array DictEntry}{od:Obj}{Q:Option Value->Shared->Prop}(hh:A.handled=none)(hit:s.heap.IsValIter it d i es.size ep)(fX:s.heap.get? d=some od)(eB:od.data= .dict es ep)(kz:es.size<=i)(hQ:∀h',ExtBut it s.heap h'->Q none { s with heap:=h' }):wpAny (model prog w) A (pyNext (.ref it)) Q E s:=by
 obtain⟨o,ho,hc,hd⟩:=id hit;unfold pyNext
 refine wpAny_bind (wpAny_attempt (wpAny_callSpecial?_slot (name:=Str.ofString "__next__") hit.typeIs PySem.F.slot_dict_valueiterator_next
  (wpAny_call_entry PySem.F.slot_dict_valueiterator_next hit.typeIs PySem.F.entry_dict_valueiterator_next ?_ (PySem.F.args_dict_valueiterator_next_1 _))))
 refine wpAny_bind (wpAny_pure ?_);refine wpAny_bind ?_;refine wpAny_bind ?_
 first|refine wpAny_bind (wpAny_typeNameOfWhole_valiter hit.typeIs (wpAny_pure ?_))|refine wpAny_bind (wpAny_typeNameOf_valiter hit.typeIs (wpAny_pure ?_))
 refine wpAny_bind (wpAny_fieldsOf ho hd ?_);have cW:Builtin.Dict_items.ownsTuple "dict_valueiterator" = false:=by decide
 simp only[cW,false_eq_true,if_false];show wpAny _ _ (if(Value.ref d==Value.none)=true then _ else _) _ _ s;rw[if_neg (show ¬((Value.ref d==Value.none)=true)from Bool.false_ne_true)];refine wpAny_bind (wpAny_pure ?_);refine wpAny_bind (wpAny_dictEntries fX eB ?_);rw[if_neg (by simp)];refine wpAny_bind (wpAny_pure ?_);refine wpAny_bind (wpAny_dictEpoch fX eB ?_);rw[if_neg (by simp)];refine wpAny_pure ?_;simp only[show ¬((i:Int)<0)from by omega,if_false,Int.toNat_natCast,Array.getElem?_eq_none kz];refine wpAny_bind ?_
 first|refine wpAny_bind (wpAny_typeNameOfWhole_valiter hit.typeIs (wpAny_pure ?_))|refine wpAny_bind (wpAny_typeNameOf_valiter hit.typeIs (wpAny_pure ?_))
 show wpAny _ _ (setField (.ref it) 0 .none >>= _) _ _ s;refine wpAny_bind (wpAny_setField ho hd (by simp) ?_);show wpAny _ _ (newExc (.type "StopIteration") [] >>= _) _ _ _;refine wpAny_bind ?_;simp only[newExc,newTuple];refine wpAny_bind (wpAny_newObj_type ?_ (by size_fits));refine wpAny_bind (m:=firstArgMember _ _) (wpAny_of_eq (a:=Value.none) (by first|rfl|(simp only[firstArgMember];rfl)) ?_);refine wpAny_newObj_type ?_ (by size_fits);simp only[raiseNew];refine wpAny_bind (wpAny_handled ?_);rw[show A.in1.handled=none from hh];refine wpAny_bind (wpAny_pure (wpAny_throw ?_));refine wpAny_bind (wpAny_isInstance (T:="StopIteration") (b:=true) ⟨_,get?_push_size _ rfl,rfl⟩ isSubtype_stop ?_);exact wpAny_pure (hQ _ (((Heap.SameBut.update ..).extBut.push _).push _))
theorem jop {P:Program}{W:World}(d:Addr)(nd:(d==sysModules)=false):MeetsIn P W (Builtin.«dict.values» ⟨[.ref d],[]⟩) (λ_ R s=>(∃o,s.heap.get? d=some o/\o.ExactDict)/\R (.ok (.ret (.ref s.heap.objs.size))) { s with heap:=s.heap.push { cls:=.type "dict_values",data:=.fields #[.ref d] } }):=
 .of_wp λA R s hR=>by
  obtain⟨⟨o,ho,hx⟩,h⟩:=hR;unfold Builtin.«dict.values»;refine wpAny_bind ?_;unfold Builtin.Dict.noArgs;refine wpAny_bind (wpAny_notOrdered_dict ⟨o,ho,hx.1⟩ ?_);show wpAny _ _ (pure d) _ _ s;refine wpAny_pure ?_;show wpAny _ _ (Builtin.Dict.showsAll d >>= _) _ _ s;unfold Builtin.Dict.showsAll;rw[if_neg (by rw[nd];exact Bool.false_ne_true)];refine wpAny_bind (wpAny_pure ?_);exact wpAny_bind (wpAny_newObj_type (wpAny_pure ⟨_,rfl,h⟩))
theorem jqk {v d:Addr}{od:Obj}{es:Array DictEntry}{ep:Nat}{Q:tE0}(hv:s.heap.IsValuesView v d)(ho:s.heap.get? d=some od)(hd:od.data= .dict es ep)(hQ:Q (.ref s.heap.objs.size) { s with heap:=s.heap.push { cls:=.type "dict_valueiterator",data:=.fields #[.ref d,.int 0 0,.int es.size 0,.int ep 0] } }):wpAny (model prog w) A (pyIter (.ref v)) Q E s:=by
 obtain⟨ov,hov,l8,hdv⟩:=id hv;refine wpAny_pyIter_slot hv.typeIs F.slot_dict_values_iter (wpAny_call_entry F.slot_dict_values_iter hv.typeIs F.entry_dict_values_iter ?_ (F.args_dict_values_iter_1 _));unfold Builtin.«dict_values.__iter__»;refine wpAny_bind (wpAny_pure ?_);refine wpAny_bind ?_;unfold Builtin.Dict_items.dictOf;refine wpAny_bind (wpAny_field hov hdv (x:=.ref d) rfl (wpAny_pure ?_));refine wpAny_bind ?_;unfold Builtin.Dict_items.newIterator;refine wpAny_bind (wpAny_dictEntries ho hd ?_);refine wpAny_bind (wpAny_dictEpoch ho hd ?_)
 have cW:Builtin.Dict_items.ownsTuple "dict_valueiterator" = false:=by decide
 simp only[cW,false_eq_true,if_false];refine wpAny_newObj_type (wpAny_pure ⟨_,rfl,"dict_valueiterator",_,⟨_,get?_push_size _ rfl,rfl⟩,F.slot_dict_valueiterator_next.lookup,?_⟩);simpa[rawInt]using hQ
end
def Itv (a:Addr)(o:Obj)(kvs:List (List Key×V)):It:=
 ⟨λi H=>H a=some (.frz o (.dT kvs))/\i<kvs.length,λi H x H'=>∃kv,kvs[i]?= some kv/\x=kv.2/\H'=H,λi H=>H a=some (.frz o (.dT kvs))/\kvs.length<=i⟩
theorem jfB {P:Program}{w:World}{K:Frag}{tg:Expr}{a it:Addr}{o:Obj}{es:Array DictEntry}{ep:Nat}{kvs:List (List Key×V)}(hd:o.data= .dict es ep)(hz:es.size=kvs.length) :
  Turn P w K tg (Itv a o kvs) [it] it (λi h=>h.IsValIter it a i es.size ep) where
 mem:=by simp
 obj:=λi h st c hc=>by
  obtain⟨oi,h1,h2,h3⟩:=st
  have hc:c=it:=by simpa using hc
  subst hc;exact⟨_,h1,λv e=>by rw[h3]at e;cases e⟩
 keep:=λi h h' st k=>by
  obtain⟨oi,h1,h2,h3⟩:=st;exact⟨oi,k it (by simp) _ h1,h2,h3⟩
 item:=by
  intro X hP hw hK hc i bF s σ H E I hf st hg;subst hP hw hK;obtain⟨ha,lt⟩:=hg
  obtain⟨ho,_,_,xs,rel,o',dE,kI,dj,hX,fH,eX,nd⟩:=(show yl X.prog X.w H s.heap a (.frz o (.dT kvs))from I.hok a _ ha)
  rw[ho]at dj;cases dj;rw[hd]at fH;cases fH;have kg:i<es.size:=by rw[hz];exact lt
  obtain⟨f0,f1,f2,f3,f4,f5⟩:=hf it (by simp);refine jcz st ho hd kg λh' out same=>?_;have e1:es[i]?= (xs[i]?).map (entryOfKey (tupleKind (ye X.prog X.w))):=entry_at eX i
  obtain⟨kv,eK⟩:∃kv,kvs[i]?= some kv:=⟨_,getElem?_eq_getElem lt⟩
  obtain⟨q,hq,z1,z2,z3⟩:=L2.Paired.at rel eK
  have e2:es[i]=entryOfKey (tupleKind (ye X.prog X.w)) q:=by
   rw[hq,Array.getElem?_eq_getElem kg]at e1;exact Option.some.inj e1
  have kk:es[i].val=q.2.2:=by rw[e2];rfl
  obtain⟨oi,h1,h2,h3⟩:=id out;refine⟨_,rfl,jbg (s:={ s with heap:=h' }) h1 h2 h3 (by decide) ⟨kv.2,H,I.turned (t':=s.toks) (λb ob hb e=>same.extBut b ob hb e) f0 f1 f3 f4 f5,by rw[kk];exact z3,⟨kv,eK,rfl,rfl⟩,out,λc hc=>?_⟩⟩
  have hc:c=it:=by simpa using hc
  rw[hc];exact f0
 done:=by
  intro X hP hw hK hc i bF s σ H E I hf st hg;subst hP hw hK;obtain⟨ha,ge⟩:=hg
  obtain⟨ho,_⟩:=(show yl X.prog X.w H s.heap a (.frz o (.dT kvs))from I.hok a _ ha)
  obtain⟨f0,f1,f2,f3,f4,f5⟩:=hf it (by simp)
  exact jga (I.ok.hd hc) st ho hd (by rw[hz];exact ge) λh' eb=>⟨rfl,I.turned (t':=s.toks) (λb o hb q=>eb b o hb q) f0 f1 f3 f4 f5⟩
 self:=λA i s Q E st h=>wpAny_pyIter_valiter st h
def joF (te:TE):TI:=λσ H R=>te σ H λx H1=>∃a kvs,x= .ref a/\H1 a=some (.dT kvs)/\∀o,R (Itv a o kvs) (upd H1 a (.frz o (.dT kvs)))
theorem jhK {X:Cx}{tg l:Expr}{te:TE}{apos bQ:Pos}(he:PE X l te)(dw:attributeBase l "values" X.env (eval l X.env)=eval l X.env:=by rfl)(dm:(apos.endLine==bQ.line)=true:=by rfl) :
  PI X tg (.Call (.Attribute l "values" apos) [] [] bQ) (joF te):=by
 intro bF s σ H R I h;refine wpAny_Call_method0_late dw dm (thn (he bF s σ H _ I h) λv s1 bH=>?_);obtain⟨x,H1,I1,rx,a,kvs,rfl,ha,q⟩:=bH;obtain rfl:v=Value.ref a:=rx;obtain⟨o,I2⟩:=I1.aM ha
 obtain⟨ho,hl,hd,xs,rel,o',es,ep,dj,hx,dW,eX,nd⟩:=(show yl X.prog X.w _ s1.heap a (.frz o (.dT kvs))from I2.hok a _ jr)
 rw[ho]at dj;cases dj;have hz:es.size=kvs.length:=by rw[size_of_entries eX];exact(Paired.length rel).symm
 have t1:s1.TypeIs (.ref a) "dict":=⟨o,ho,hx.1⟩
 have t2:∀b,Value.ref a= .ref b->∃ob,s1.heap.get? b=some ob/\ob.dict=none:=λb q=>by
  cases q;exact⟨o,ho,hx.2.1⟩
 refine⟨"dict","dict.values",PySem.F.plainAttrs_dict,PySem.F.slot_dict_values,PySem.F.type_dict_values,t1,t2,Calls.callWith_builtin rfl (PySem.evalArgs_none ?_)⟩;refine call_meetsIn PySem.F.slot_dict_values t1 PySem.F.entry_dict_values (PySem.F.args_dict_values_1 _) (jop a hd) ⟨⟨o,ho,hx⟩,?_⟩;have up:∀b ob,s1.heap.get? b=some ob->(s1.heap.push { cls:=.type "dict_values",data:=.fields #[.ref a] }).get? b=some ob:=λb ob e=>get?_push_of_some _ e;refine jqk (od:=o) (es:=es) (ep:=ep) ⟨_,get?_push_size _ rfl,rfl,rfl⟩ (up _ _ ho) dW ?_;have sz:(s1.heap.push { cls:=.type "dict_values",data:=.fields #[.ref a] }).objs.size=s1.heap.objs.size+1:=size_push ..;refine⟨_,[_],_,_,upd H1 a (.frz o (.dT kvs)),rfl,I2.kept (t':=s1.toks) (λb ob e=>get?_push_of_some _ (up b ob e)),jfB dW hz,⟨_,get?_push_size _ rfl,rfl,rfl⟩,λc hc=>?_,q o⟩
 have hc:c=(s1.heap.push { cls:=.type "dict_values",data:=.fields #[.ref a] }).objs.size:=by simpa using hc
 have le:s1.heap.objs.size<=c:=by rw[hc,sz];exact le_succ _
 exact I2.au le (I2.hok.fresh le)
end L2
namespace L3
open PySem L2
def jdA (M:Sto)(x:PV):Option (List PV×Sto):=match x with
 |.ref j=>(match M.g j with
  |some (.dtv l)=>some (l.map (·.2),M.drop j)
  |_=>none)
 |_=>none
def UO (d:DE):En->Sto->Res ItP:=λρ M=>(d ρ M).bind λx M1=>match jdA M1 x with
 |some (xs,M2)=>.ok (.fix xs) M2
 |none=>.bad
theorem jdB {W:Wd}:∀{l:List (List Int×PV)}{vs:List (List Key×V)},yM W xA l vs->∀(i:Nat) (z:PV),(l.map (·.2))[i]?= some z->∃kv,vs[i]?= some kv/\Rep W z kv.2
 |[],_,_,_,_,e=>by cases e
 |_::_,_,⟨_,_,e,r,_⟩,0,z,q=>by subst e;cases q;exact⟨_,rfl,r⟩
 |_::_,_,⟨_,_,e,_,t⟩,i+1,z,q=>by subst e;exact jdB t i z q
section
variable {X:Cx}{T:Tb}{ES:St->XK}{e:Expr}{d:DE}
theorem jhq {tg:Expr}{apos bQ:Pos}(h:QE X T ES e d)(dw:attributeBase e "values" X.env (eval e X.env)=eval e X.env:=by rfl)(dm:(apos.endLine==bQ.line)=true:=by rfl) :
  QI X T ES tg (.Call (.Attribute e "values" apos) [] [] bQ) (UO d):=
 ⟨uE (jhK h.h dw dm) λσ H R bH=>jC bH λW ρ M k hh hs q=>⟨W,ρ,M,k,hh,hs,yh.bind q λW1 M1 x v H1 l1 h1 r1 p1=>by
  split at p1
  rotate_left
  ·exact p1.elim
  rename_i xs M2 e2;unfold jdA at e2;split at e2
  rotate_left
  ·cases e2
  rename_i j;split at e2
  rotate_left
  ·cases e2
  rename_i l e5;cases e2;obtain⟨a,rfl,ea⟩:=r1;obtain⟨b,u,g1,g2,g3,vs,rfl,ra⟩:=h1.m j _ e5;rw[ea]at g1;cases g1;refine⟨a,vs,rfl,g3,λob=>?_⟩;obtain⟨le,h2⟩:=h1.aX (v:=.dT vs) e5 ea ob;have fa:(W1.frz a (.frz ob (.dT vs))).F a=some (.frz ob (.dT vs)):=jr;refine p1 _ _ _ le h2 λW' M' H' lH cB i=>⟨λz e=>?_,λe=>?_⟩
  ·have e:(l.map (·.2))[i]?= some z:=Option.some.inj e;obtain⟨kv,eK,rz⟩:=jdB ra i z e;have hi:i<vs.length:=by
    rcases Nat.lt_or_ge i vs.length with q|q
    ·exact q
    ·rw[getElem?_eq_none q]at eK;cases eK
   refine⟨⟨cB.f _ _ (lH.f _ _ fa),hi⟩,λw H3 hy=>?_⟩;obtain⟨kv',hkv',rfl,rfl⟩:=hy;rw[eK]at hkv';cases hkv';exact⟨W',.refl W',cB,(rz.ah le.toLe0).ah lH⟩
  ·have e:(l.map (·.2))[i]?= none:=Option.some.inj e;refine⟨cB.f _ _ (lH.f _ _ fa),?_⟩;rw[List.getElem?_eq_none_iff,length_map]at e;rw[ra.length];exact e⟩⟩
end
def emG (p:ItP)(g:DG)(em:EM)(ρ:En):Nat->Nat->Sto->Res (List PV)
 |0,_,_=>.bad
 |n+1,k,M=>match nxt p M k with
  |none=>.bad
  |some none=>.ok [] M
  |some (some x)=>match g x ρ with
   |none=>.bad
   |some ρ'=>(em ρ' M).ar.bind λys M2=>(emG p g em ρ n (k+1) M2).ar.bind λzs M3=>.ok (ys++zs) M3
def jbs (g:DG)(di:tI0)(em:EM):EM:=λρ M=>(di ρ M).ar.bind λp M1=>emG p g em ρ (yp p M1) 0 M1
def Yi (di:tI0)(g:DG)(own:Nat)(js:List Nat)(em:EM):DE:=λρ M=>(di ρ M).bind λp M1=>(emG p g em (replicate own none++rest js ρ) (yp p M1) 0 M1).ar.bind λys M2=>if ys.length<=sizeLine then .ok (.lst ys) M2 else .bad
structure QMG (X:Cx)(T:Tb)(own:Nat)(bU:Expr)(gens:tC0)(sc:Scope)(pos:Pos)(d e:Nat)(em:EM):Prop where
 h:PMb X bU gens sc pos d (lfM T own e em)
section
variable {X:Cx}{T:Tb}{ES:St->XK}{own d:Nat}{bU bG iter:Expr}{gens:tC0}{sc:Scope}{pos:Pos}{di:tI0}{em:EM}{de:DE}
theorem jaL {e0:Nat}(fo:X.xe=λ_ _=>False)(h1:gens[d+1]?= none)(he:QE X T ES0 bU de):QMG X T own bU gens sc pos d e0 (emE de):=by
 refine⟨λacc bF s σ H N I hQ=>jkv fo h1 he.h acc bF s σ H N I ?_⟩;obtain⟨W,ρ,M,vs,k,hh,hs,ga,hN,f⟩:=hQ;refine⟨W,ρ,M,k,hh,hs,?_⟩;unfold emE at f
 cases e:de ρ M with
 |bad=>rw[e]at f;exact f.elim
 |exc _ _=>rw[e]at f;exact f.elim
 |ok y M1=>
  rw[e]at f;have f:jjJ W acc ρ vs N (.ok [y] M1):=f;obtain⟨hz,f⟩:=f;intro W' H' v l h' r;have ga':W'.G acc=some (.lst vs):=by rw[l.g];exact ga
  refine⟨vs,(h'.gd _ _ ga').1,hz,?_⟩;refine f (W'.gd acc (.lst (vs++[v]))) σ _ [v] (l.toLe0.trans Wd.ag) ?_ (h'.aK ga') ⟨v,[],rfl,r.ah Wd.ag,rfl⟩ ((hs.up l).ah Wd.ag);show L2.upd W'.G acc _=_;rw[l.g]
theorem jgL {W0:Wd}{it:ItP}{J:It}{acc:Addr}{ρ:En}{vs:List V}{N:St->Hp->Prop}{g:DG}{i0 e0:Nat}{M0:Sto}{σ:St}{H0:Hp}{tb:TB}(k0:W0.T=T)(ri:RI W0 it J)(g0:W0.G acc=some (.lst vs))(un:JE g own i0 e0)(hn:∀j,i0<=j->j<own->ρ[j]?= some none)(h0:Held W0 M0 H0)(hs:yq W0 ρ σ)(f:jjJ W0 acc ρ vs N (emG it g em ρ (yp it M0) 0 M0))(body:∀(W:Wd) (M:Sto) (ρ':En) (us:List V) (N':St->Hp->Prop) (σ4:St) (H4:Hp),W.T=T->Held W M H4->yq W ρ' σ4->(∀j,e0<j->j<own->ρ'[j]?= some none)->W.G acc=some (.lst us)->jjJ W acc ρ' us N' (em ρ' M)->tb acc σ4 H4 N') :
  ∃Wk:Nat->Nat->St->Hp->Prop,(∃m,Wk 0 m σ H0)/\∀i m σ2 H2,Wk i m σ2 H2->(J.stop i H2/\N σ2 H2) \/
   (J.go i H2/\∃N':St->Hp->Prop,(∀σ' H',N' σ' H'->∃m',m'<m/\Wk (i+1) m' σ' H')/\∀v H3,J.yld i H2 v H3->jik T g v σ2 H3 λσ4 H4=>tb acc σ4 H4 N'):=by
 let kL:Nat->Nat->St->Hp->Prop:=λi m σ2 H2=>∃W1 M1 us ys,W0.le0 W1/\W1.G=L2.upd W0.G acc (.lst (vs++us))/\Held W1 M1 H2/\yd W1 ys us/\yq W1 ρ σ2/\(match emG it g em ρ m i M1 with
  |.ok zs M'=>vs.length+(ys.length+zs.length)<=sizeLine/\∀W' σ' H' ws,W0.le0 W'->W'.G=L2.upd W0.G acc (.lst (vs++ws))->Held W' M' H'->yd W' (ys++zs) ws->yq W' ρ σ'->N σ' H'
  |_=>False)
 refine⟨kL,⟨yp it M0,W0,M0,[],[],(Wd.le.refl W0).toLe0,by rw[append_nil,jgI g0],h0,rfl,hs,?_⟩,?_⟩
 ·cases e:emG it g em ρ (yp it M0) 0 M0 with
  |bad=>rw[e]at f;exact f.elim
  |exc _ _=>rw[e]at f;exact f.elim
  |ok zs M'=>
   rw[e]at f;refine⟨by simpa using f.1,λW' σ' H' ws le g h r s=>f.2 W' σ' H' ws le g h (by simpa using r) s⟩
 rintro i m σ2 H2 ⟨W1,M1,us,ys,eT,g1,h1,r1,s1,f1⟩;have k1:W1.T=T:=eT.k.trans k0;have rl:=r1.length;cases m with
 |zero=>exact f1.elim
 |succ m=>
  unfold emG at f1;obtain⟨eY,c8⟩:=ri W1 M1 H2 eT h1 i;split at f1
  rotate_left
  ·exact f1.elim
  rename_i zs M' ef;split at ef
  ·cases ef
  ·rename_i en;cases ef;exact .inl ⟨c8 en,f1.2 W1 σ2 H2 us eT g1 h1 (by simpa using r1) s1⟩
  ·rename_i x en;obtain⟨go,yld⟩:=eY x en;refine .inr ⟨go,kL (i+1) m,λσ' H' q=>⟨m,lt_succ_self _,q⟩,λv H3 hy=>?_⟩;obtain⟨W2,l2,h2,r2⟩:=yld v H3 hy;have ga:W2.G acc=some (.lst (vs++us)):=by rw[l2.g,g1,jr]
   cases eg:g x ρ with
   |none=>rw[eg]at ef;cases ef
   |some ρ'=>
   rw[eg]at ef;have ef:((em ρ' M1).ar.bind λys M2=>(emG it g em ρ m (i+1) M2).ar.bind λzs M3=>Res.ok (ys++zs) M3)= .ok zs M':=ef;obtain⟨jjh,fr⟩:=un x ρ ρ' eg hn;refine⟨W2,ρ,M1,x,ρ',l2.k.trans k1,h2,s1.up l2,r2,eg,λσ4 s4=>?_⟩;refine body W2 M1 ρ' (vs++us) _ σ4 H3 (l2.k.trans k1) h2 s4 fr ga ?_;cases e1:em ρ' M1 with
   |bad=>rw[e1]at ef;cases ef
   |exc _ _=>rw[e1]at ef;cases ef
   |ok i8 M2=>
    rw[e1]at ef;have ef:((emG it g em ρ m (i+1) M2).ar.bind λzs M3=>Res.ok (i8++zs) M3)= .ok zs M':=ef;cases e2:emG it g em ρ m (i+1) M2 with
    |bad=>rw[e2]at ef;cases ef
    |exc _ _=>rw[e2]at ef;cases ef
    |ok zs1 M3=>
     rw[e2]at ef;cases ef;obtain⟨hz,f1⟩:=f1;simp only[length_append]at hz;refine⟨by simp only[length_append];omega,λW' σ' H' ws le gg h r s=>?_⟩;refine⟨W',M2,us++ws,ys++i8,(eT.trans l2.toLe0).trans le,?_,h,((r1.up l2).ah le).append r,jjh W' σ' s,?_⟩
     ·rw[gg,l2.g,g1,uk,append_assoc]
     ·rw[e2];refine⟨by simp only[length_append];omega,λW' σ' H' ws' le g h r s=>f1 W' σ' H' ws' le g h (by simpa[append_assoc]using r) s⟩
theorem Xl {e i e':Nat}{g:DG}(fo:X.xe=λ_ _=>False)(hc:X.calm=true)(h1:gens[d+1]?= some ⟨bG,iter,[],0⟩)(h2:Plainly X.env gens (d+1))(hi:QI X T ES0 bG iter di)(hg:QG X T bG g)(un:JE g own i e')(hei:e<i)(hb:QMG X T own bU gens sc pos (d+1) e' em):QMG X T own bU gens sc pos d e (jbs g di em):=by
 refine⟨λacc bF s σ H N I hQ=>jfT fo hc h1 h2 hi.h hg.h hb.h acc bF s σ H N I ?_⟩;obtain⟨W,ρ,M,vs,k,hh,hs,ga,hN,f⟩:=hQ;refine⟨W,ρ,M,k,hh,hs,?_⟩;unfold jbs at f
 cases ed:di ρ M with
 |bad=>rw[ed]at f;exact f.elim
 |exc _ _=>rw[ed]at f;exact f.elim
 |ok it M0=>
  rw[ed]at f;have f:jjJ W acc ρ vs N (emG it g em ρ (yp it M0) 0 M0):=f;intro W0 H0 J l0 h0 ri;have g0:W0.G acc=some (.lst vs):=by rw[l0.g];exact ga
  refine jgL (T:=T) (em:=em) (M0:=M0) (l0.k.trans k) ri g0 un (λj h1 h2=>hN j (by omega) h2) h0 (hs.up l0) ?_ ?_
  ·cases e2:emG it g em ρ (yp it M0) 0 M0 with
   |bad=>rw[e2]at f;exact f.elim
   |exc _ _=>rw[e2]at f;exact f.elim
   |ok zs M'=>
    rw[e2]at f;exact⟨f.1,λW' σ' H' ws le g h r s=>f.2 W' σ' H' ws (l0.toLe0.trans le) (by rw[g,l0.g]) h r s⟩
  ·intro W1 M1 ρ' us N' σ4 H4 k1 h1 s1 fr g1 f1;exact⟨W1,ρ',M1,us,k1,h1,s1,g1,fr,f1⟩
theorem jda {g:DG}{e0:Nat}{js:List Nat}{σ:St}{H:Hp}{Q:VK}(un:JE g own 0 e0)(h:lft T Rep ES (Yi di g own js em) σ H Q):jgQ (lft T RI ES di) own js (jik T g) (lfM T own e0 em) σ H Q:=by
 obtain⟨W,ρ,M,k,hh,hs,p⟩:=h;refine⟨W,ρ,M,k,hh,hs,yh.bind p λW0 M0 it J H0 l0 h0 ri p0=>λacc bX=>?_⟩;have k0:W0.T=T:=l0.k.trans k;have iV:=hs.up l0
 have fB:W0.G acc=none:=by
  cases q:W0.G acc with
  |none=>rfl
  |some o=>
   rw[(h0.gd acc o q).1]at bX;cases bX
 have p0:yh W0 Rep ((emG it g em (replicate own none++rest js ρ) (yp it M0) 0 M0).ar.bind λys M2=>if ys.length<=sizeLine then .ok (.lst ys) M2 else .bad) Q (ES σ):=p0;cases e:emG it g em (replicate own none++rest js ρ) (yp it M0) 0 M0 with
 |bad=>rw[e]at p0;exact p0.elim
 |exc _ _=>rw[e]at p0;exact p0.elim
 |ok zs M'=>
 rw[e]at p0;have p0:yh W0 Rep (if zs.length<=sizeLine then .ok (.lst zs) M' else .bad) Q (ES σ):=p0
 by_cases hz:zs.length<=sizeLine
 rotate_left
 ·rw[if_neg hz]at p0;exact p0.elim
 rw[if_pos hz]at p0;have p0:∀W' H' v,W0.le W'->Held W' M' H'->Rep W' (.lst zs) v->Q v H':=p0;have hn:∀j,0<=j->j<own->(replicate own none++rest js ρ)[j]?= some none:=λj _ hj=>by
  rw[getElem?_append_left (by simpa using hj),getElem?_replicate,if_pos hj]
 have gn:(W0.gd acc (.lst [])).G acc=some (.lst []):=jr;refine jgL (T:=T) (em:=em) (M0:=M0) (W0:=W0.gd acc (.lst [])) (vs:=[]) (N:=λ_ H2=>Q (.ref acc) H2) (ρ:=replicate own none++rest js ρ) k0 (λW' M' H' le=>ri W' M' H' (Wd.ag.trans le)) gn un hn (h0.guard bX) ((Vr own iV).ah Wd.ag) ?_ ?_
 ·rw[e];refine⟨by simpa using hz,λW' σ' H' ws le gg h r s=>?_⟩;rw[nil_append]at gg;have g':W'.G=L2.upd W0.G acc (.lst ws):=by
   rw[gg];show L2.upd (L2.upd W0.G acc (.lst [])) acc _=_;rw[uk]
  have i3:W'.G acc=some (.lst ws):=by rw[g',jr]
  obtain⟨l2,h2⟩:=h.aB (G0:=W0.G) i3 λb u q=>by
   have z:b≠acc:=λz=>by rw[z,fB]at q;cases q
   exact⟨by rw[g',jk z];exact q,z⟩
  exact p0 (W'.out W0.G acc (.lst ws)) H' (.ref acc) ⟨(Wd.ag.trans le).trans l2,rfl⟩ h2 ⟨acc,ws,rfl,jr,r.ah l2⟩
 ·intro W1 M1 ρ' us N' σ4 H4 k1 h1 s1 fr g1 f1;exact⟨W1,ρ',M1,us,k1,h1,s1,g1,fr,f1⟩
end
section
variable {X:Cx}{T:Tb}{ES:St->XK}{osc sc:Scope}{own fr:List Str}{js:List Nat}{bU bG iter:Expr}{rest:tC0}{pos:Pos}{di:tI0}{em:EM}{g:DG}{e0:Nat}
theorem jaN (un:JE g own.length 0 e0)(hc:X.calm=true)(ho:X.env.scope=osc)(S:CompScope osc sc own fr)(hj:js.map (λj=>X.N[j]?)=fr.map some)(hi:QI X T ES bG iter di)(hg:∀b3 b4 fp,QG (jQ X (own++fr) sc b3 b4 fp) T bG g) (cM:∀b3 b4 fp,Plainly (jQ X (own++fr) sc b3 b4 fp).env (⟨bG,iter,[],0⟩::rest) 0) (hb:∀b3 b4 fp,QMG (jQ X (own++fr) sc b3 b4 fp) T own.length bU (⟨bG,iter,[],0⟩::rest) sc pos 0 e0 em)(hs:∀x,foldedSetIterable iter X.env x=pure x:=by intro _;rfl):QE X T ES (.ListComp bU (⟨bG,iter,[],0⟩::rest) sc pos) (Yi di g own.length js em):=
 ⟨jN (jhR hc ho S hj hi.h (λa b c=>(hg a b c).h) cM (λa b c=>(hb a b c).h) hs) λ_ _ _=>jda un⟩
end
def jeh (y:PV):Option (List Int):=match y with
 |.tup ks=>if ks.length=2\/ks.length=3 then xZ ks else none
 |_=>none
def vz (do_ dy dz:DE):DE:=λρ M=>(do_ ρ M).bind λo M1=>match o with
 |.ref i=>(match M1.g i with
  |some (.dtv _)=>(dy ρ M1).bind λy M2=>(match jeh y with
   |some ns=>(dz ρ M2).bind λz M3=>(match M3.g i with
    |some (.dtv l)=>if l.length<sizeLine then(match xf l ns with
     |some x=>.ok x M3
     |none=>.ok z (M3.set i (.dtv (xD l ns z))))else .bad
    |_=>.bad)
   |none=>.bad)
  |_=>.bad)
 |_=>.bad
section
variable {X:Cx}{T:Tb}{ES:St->XK}{o e f:Expr}{do_ dy dz:DE}
theorem jcl {apos bQ:Pos}(gL:Yt T.K=true)(hu:X.A.units+1<cLine)(ho:QE X T ES o do_)(hy:QE X T ES e dy)(hz:QE X T ES f dz)(m:M2 X o "setdefault" apos e f bQ):QE X T ES (.Call (.Attribute o "setdefault" apos) [e,f] [] bQ) (vz do_ dy dz):=
 ⟨jN (jct hu ho.h hy.h hz.h m) λσ H Q bH=>jC bH λW ρ M k hh hs q=>⟨W,ρ,M,k,hh,hs,yh.bind q λW1 M1 x v H1 l1 h1 r1 q1=>by
  split at q1
  rotate_left
  ·exact q1.elim
  rename_i i;split at q1
  rotate_left
  ·exact q1.elim
  rename_i l0 e0;obtain⟨a,rfl,ea⟩:=r1;obtain⟨b,ob,g1,g2,g3,vs0,rfl,ra0⟩:=h1.m i _ e0;rw[ea]at g1;cases g1;refine⟨a,rfl,.inr ⟨vs0,.inl g3⟩,W1,ρ,M1,l1.k.trans k,h1,hs.up l1,yh.bind q1 λW2 M2 y yv H2 l2 h2 r2 q2=>?_⟩;split at q2
  rotate_left
  ·exact q2.elim
  rename_i ns e6;unfold jeh at e6;split at e6
  rotate_left
  ·cases e6
  rename_i ks;split at e6
  rotate_left
  ·cases e6
  rename_i h23;have ek:=xt e6;subst ek;obtain⟨p,kv,rfl,hb,rk⟩:=r2;have ev:kv=ns.map V.int:=yd.ints.mp rk;subst ev;have kT:W2.T=T:=l2.k.trans (l1.k.trans k);have hF:W2.F p=some (.tup (ns.map V.int)):=jhj (by rw[kT];exact gL) (by rw[length_map]at h23 ⊢;exact h23) hb;refine⟨W2,ρ,M2,kT,h2,(hs.up l1).up l2,yh.bind q2 λW3 M3 z zv H3 l3 h3 r3 q3=>?_⟩;split at q3
  rotate_left
  ·exact q3.elim
  rename_i l e5;split at q3
  rotate_left
  ·exact q3.elim
  rename_i hl;have ly:W3.α i=some a:=l3.a _ _ (l2.a _ _ ea);obtain⟨b,ob,g1,g2',kF,vs,rfl,ra⟩:=h3.m i _ e5;rw[ly]at g1;cases g1;refine⟨p,xA ns,vs,rfl,by rw[xE];exact h3.f _ _ (l3.f _ _ hF),kF,by rw[ra.length];exact hl,λv hv=>?_,λhv=>?_⟩
  ·rcases ra.get yY ns with⟨a1,a2⟩|⟨x,v',a1,a2,rv⟩
   ·rw[a2]at hv;cases hv
   ·rw[a2]at hv;cases hv;rw[a1]at q3;exact q3 W3 H3 _ (.refl W3) h3 rv
  ·rcases ra.get yY ns with⟨a1,a2⟩|⟨x,v',a1,a2,rv⟩
   ·rw[a1]at q3;exact q3 W3 _ _ (.refl W3) (h3.upd e5 ly (c':=.dtv (xD l ns z)) (o:=.dT (vp vs (xA ns) zv)) ⟨_,rfl,ra.put yY r3⟩) r3
   ·rw[a2]at hv;cases hv⟩⟩
end
end L3
namespace Prb
open PySem PySem.Spec PyProof.Rows
section
variable {prog:Program}{w:World}{A:Around}{E:tE0}{s:Shared}
theorem jeg {ks:List Int}{vs:List Value}(h:ItemsAre (intKind prog w) ks vs):∀v∈vs,∃n t,v=Value.int n t:=by
 induction h with
 |nil=>intro v hv;cases hv
 |cons h1 _ ih=>
  intro v hv;rcases List.mem_cons.mp hv with rfl|hv
  ·obtain⟨t,rfl⟩:=Value.isInt_shape h1;exact⟨_,t,rfl⟩
  ·exact ih v hv
theorem jbI {ks:List Int}{a:Addr}{Q:Bool->Shared->Prop}(hk:IsTupleKey (intKind prog w) s.heap ks a)(h:Q true s):wpAny (model prog w) A (hashByValue 8 (.ref a)) Q E s:=by
 have hT:=hk.typeIs;obtain⟨o,items,n,ho,_,hd,hi⟩:=hk;unfold hashByValue;refine wpAny_bind (wpAny_specialOf hT F.slot_tuple_hash.lookup ?_);show wpAny _ _ (seqItems? (.ref a) >>= _) _ _ s;refine wpAny_bind (wpAny_seqItems ho hd ?_);refine wpAny_bind ?_;show wpAny _ _ (forIn items _ _) _ _ s;rw[<-Array.forIn_toList];refine wpAny_forIn_list _ (λrest r s'=>r.1=none/\s'=s/\∀v∈rest,∃n t,v=Value.int n t) _ ?_ ?_ _ _ ⟨rfl,rfl,jeg hi⟩
 ·rintro v rest r s' ⟨hr,rfl,cC⟩;obtain⟨n,t,rfl⟩:=cC v mem_cons_self;rw[hashByValue_scannable 7 (x:=.int n t) rfl];refine wpAny_bind (wpAny_pure ?_);simp only[plainKind,Bool.not_true,false_eq_true,if_false];exact wpAny_pure ⟨rfl,rfl,λu kj=>cC u (mem_cons_of_mem _ kj)⟩
 ·rintro⟨r1,r2⟩ s' ⟨hr,rfl,_⟩;simp only at hr;subst hr;exact wpAny_pure h
theorem jlk (n:Nat)(k:Int)(t:Tok):ofAClassStatement n (.int k t)=pure false:=by
 cases n <;> (unfold ofAClassStatement;rfl)
theorem jeV {ks:List Int}{a:Addr}{Q:Bool->Shared->Prop}(hk:IsTupleKey (intKind prog w) s.heap ks a)(h:Q false s):wpAny (model prog w) A (ofAClassStatement 8 (.ref a)) Q E s:=by
 have hT:=hk.typeIs;obtain⟨o,items,n,ho,_,hd,hi⟩:=hk;unfold ofAClassStatement;refine wpAny_bind (wpAny_typeOf hT ?_);dsimp only;rw[if_pos (by decide)];refine wpAny_bind (wpAny_pure ?_);simp only[Bool.not_true,false_eq_true,if_false];refine wpAny_bind (wpAny_seqItems ho hd ?_);dsimp only;refine wpAny_bind ?_;show wpAny _ _ (forIn items _ _) _ _ s;rw[<-Array.forIn_toList];refine wpAny_forIn_list _ (λrest r s'=>r.1=none/\s'=s/\∀v∈rest,∃n t,v=Value.int n t) _ ?_ ?_ _ _ ⟨rfl,rfl,jeg hi⟩
 ·rintro v rest r s' ⟨hr,rfl,cC⟩;obtain⟨n,t,rfl⟩:=cC v mem_cons_self;rw[jlk];refine wpAny_bind (wpAny_pure ?_);simp only[false_eq_true,if_false];exact wpAny_pure ⟨rfl,rfl,λu kj=>cC u (mem_cons_of_mem _ kj)⟩
 ·rintro⟨r1,r2⟩ s' ⟨hr,rfl,_⟩;simp only at hr;subst hr;exact wpAny_pure h
theorem jmg {ks:List Int}{a:Addr}{l:List Value}{Q:Bool->Shared->Prop}(hk:IsTupleKey (intKind prog w) s.heap ks a)(hl:∀y∈l,∃fk b,y= .ref b/\IsTupleKey (intKind prog w) s.heap fk b)(h:Q false s):wpAny (model prog w) A (searchCouldBeSeen (.ref a) l) Q E s:=by
 unfold searchCouldBeSeen;refine wpAny_bind ?_;show wpAny _ _ (forIn l _ _) _ _ s;refine wpAny_forIn_list _ (λrest r s'=>r.1=none/\s'=s/\∀y∈rest,∃fk b,y= .ref b/\IsTupleKey (intKind prog w) s.heap fk b) _ ?_ ?_ _ _ ⟨rfl,rfl,hl⟩
 ·rintro y rest r s' ⟨hr,rfl,cC⟩;obtain⟨fk,b,rfl,hb⟩:=cC y mem_cons_self;have more:∀y∈rest,∃fk b,y=Value.ref b/\IsTupleKey (intKind prog w) s'.heap fk b:=λu kj=>cC u (mem_cons_of_mem _ kj);dsimp only;refine wpAny_ite_split (λ_=>wpAny_pure ⟨rfl,rfl,more⟩) λ_=>?_;refine wpAny_bind (wpAny_eqIsQuiet_tuple hk ?_);simp only[Bool.not_true,false_eq_true,if_false];refine wpAny_bind (wpAny_eqIsQuiet_tuple hb ?_);simp only[Bool.not_true,false_eq_true,if_false];refine wpAny_bind (jeV hk ?_);simp only[false_eq_true,if_false];refine wpAny_bind (jeV hb ?_);simp only[false_eq_true,if_false];exact wpAny_pure ⟨rfl,rfl,more⟩
 ·rintro⟨r1,r2⟩ s' ⟨hr,rfl,_⟩;simp only at hr;subst hr;exact wpAny_pure h
def rowH (ks:List Int):Int:=reduceHash (Builtin.Tuple.tupleHashOf (ks.map hashInt))
theorem jkg (ks:List Int):tupleKeyHash (intKind prog w) ks=rowH ks:=rfl
def jpe (h:Heap)(a:Addr)(es:tA0)(L:Bool):Prop:=∃o ep t p,h.get? a=some o/\o.ExactSet/\o.data= .set es ep t/\Sg es t p/\t.led=L/\p.length*5<t.mask*3
theorem jly {a b:Addr}{es:tA0}{L:Bool}{ks:List Int}{Q:Bool->Shared->Prop}(hu:A.units<cLine)(S:jpe s.heap a es L)(hk:IsTupleKey (intKind prog w) s.heap ks b)(kA:∀e∈es.toList,∃fk b',e=(rowH fk,Value.ref b')/\IsTupleKey (intKind prog w) s.heap fk b'/\(rowH fk=rowH ks->fk=ks)) (hr:es.size<60)(lr:(∃e∈es.toList,e.1=rowH ks)->Q false s)(kE:(∀e∈es.toList,e.1≠rowH ks)->∀h' dE,SameBut a s.heap h'->jpe h' a dE L->dE.toList.Perm (es.toList++[(rowH ks,.ref b)])->Q true { s with heap:=h' }) :
  wpAny (model prog w) A (setAddHashed a (.ref b) (rowH ks)) Q E s:=by
 obtain⟨o,ep,t,p,ho,iL,hd,S,hL,k4⟩:=S;have hsz:=S.sz
 have lN:p.length+1<=t.mask:=by
  rcases S.mm with h|h|h <;> rw[h]at k4 ⊢ <;> omega
 have hf:=S.fit (by omega);have hgw:t.gaveWay=false:=by
  unfold SetTable.gaveWay;rcases S.mm with h|h|h <;> rw[h] <;> rfl
 unfold setAddHashed setAddHashedIn;refine wpAny_holding (wpAny_bind (wpAny_setState_of ho hd hf ?_));dsimp only;rw[show byScan (.ref b) es=false from rfl];simp only[false_eq_true,↓reduceIte];refine wpAny_bind ?_;unfold setSearch setSearchFrom;refine wpAny_bind (wpAny_setState_of ho hd hf ?_);dsimp only;rw[hgw];simp only[false_eq_true,↓reduceIte]
 by_cases g7:∃e∈es.toList,e.1=rowH ks
 ·obtain⟨e,he,eh⟩:=id g7;obtain⟨j,i,q,y,pr,hy,hyh⟩:=met S he eh;have hym:y∈es.toList:=mem_of_getElem? (by rw[getElem?_toList];exact hy);obtain⟨fk,b',rfl,iZ,hinj⟩:=kA y hym;have d9:fk=ks:=hinj hyh
  show wpAny _ _ (match t.probe (λi=>(es[i]?.map (·.1)).getD 0) (rowH ks) (t.probeStart (rowH ks))with
   |some met=>_
   |_=>_) _ _ _
  rw[pr];dsimp only;have ok:wpAny (model prog w) A (eqBool (.ref b') (.ref b)) (λr s'=>r=true/\s'=s) E s:=wpAny_eqBool_tuple hu iZ hk ⟨decide_eq_true d9,rfl⟩
  by_cases hled:t.led=true
  ·rw[hled];simp only[Bool.not_true,false_eq_true,↓reduceIte];rw[hy];dsimp only;refine wpAny_bind (wpAny_holding (wpAny_mono ok (λr s' hr=>?_) λ_ _ h=>h));obtain⟨rfl,rfl⟩:=hr;refine wpAny_bind (wpAny_setState_of ho hd hf ?_);simp only[Bool.and_self,↓reduceIte];exact wpAny_pure (wpAny_pure (lr g7))
  ·rw[show t.led=false by simpa using hled];simp only[Bool.not_false,↓reduceIte];refine wpAny_bind (jmg hk (λy hy=>?_) ?_)
   ·obtain⟨e,he,rfl⟩:=List.mem_map.mp hy;rw[Array.toList_filter]at he;obtain⟨k2,b2,rfl,h2,_⟩:=kA e (List.mem_filter.mp he).1;exact⟨k2,b2,rfl,h2⟩
   ·simp only[false_eq_true,↓reduceIte];rw[hy];dsimp only;refine wpAny_bind (wpAny_holding (wpAny_mono ok (λr s' hr=>?_) λ_ _ h=>h));obtain⟨rfl,rfl⟩:=hr;refine wpAny_bind (wpAny_setState_of ho hd hf ?_);simp only[Bool.and_self,↓reduceIte];exact wpAny_pure (wpAny_pure (lr g7))
 ·have iD:∀e∈es.toList,e.1≠rowH ks:=λe he z=>g7 ⟨e,he,z⟩
  obtain⟨j,p',pr,S1,l1,m1,n1⟩:=put S lN (rowH ks) (.ref b) (f:=λi=>(es[i]?.map (·.1)).getD 0) λi hi=>by
   rw[Array.getElem?_eq_getElem hi];exact iD _ (by rw[<-getElem_toList];exact getElem_mem _)
  show wpAny _ _ (match t.probe (λi=>(es[i]?.map (·.1)).getD 0) (rowH ks) (t.probeStart (rowH ks))with
   |some met=>_
   |_=>_) _ _ _
  rw[pr];dsimp only;refine wpAny_pure ?_;dsimp only;refine wpAny_bind (wpAny_setState_of ho hd hf ?_);dsimp only
  obtain⟨t1,ix⟩:∃t1,t1=(t.put j).1:=⟨_,rfl⟩
  obtain⟨cn,eW⟩:∃cn,cn=SetTable.insertAt es (t.put j).2 (rowH ks,Value.ref b):=⟨_,rfl⟩
  rw[<-ix,<-eW]at S1;rw[<-ix]at l1 m1;rw[<-ix,S1.pn];simp only[↓reduceIte];refine wpAny_bind (jbI hk ?_);simp only[↓reduceIte];have c9:cn.toList.Perm (es.toList++[(rowH ks,.ref b)]):=by
   rw[eW];refine(SetTable.insertAt_perm es _ _).trans ?_;rw[toList_push]
  have z1:cn.size=es.size+1:=by rw[<-length_toList,c9.length_eq,length_append,length_toList];rfl
  rw[<-eW];refine wpAny_bind (wpAny_storeSet_of ho hd ?_ (by rw[z1,sizeLine_eq];omega));have g1:(s.heap.update a (Obj.putSet cn t1)).get? a=some { o with data:=.set cn (ep+1) t1 }:=by
   have:=get?_update_self (Obj.putSet cn t1) ho (by rw[putSet_of cn t1 hd];rfl)
   rw[putSet_of cn t1 hd]at this;exact this
  have fV:=Heap.SameBut.update s.heap a (Obj.putSet cn t1)
  by_cases cR:t1.tooFull=true
  ·obtain⟨m,hm,hw,lQ,l7⟩:=grow S1 (by rw[n1,m1];exact k4) cR (by omega);rw[z1]at hw
   have hsl:¬ SetTable.sizeAbove (SetTable.grown (es.size+1)) > sizeLine:=by
    rcases hm with rfl|rfl|rfl <;> (rw[sizeLine_eq];omega)
   obtain⟨t2,order,p2,r1,r2,r3,r4,S2,_⟩:=relay (t:=t1) (es:=cn) S1.pn hw hm lQ
   obtain⟨dJ,fZ⟩:∃dJ,dJ=order.filterMap (cn[·]?):=⟨_,rfl⟩
   rw[<-fZ]at r4 S2;have z2:dJ.size=cn.size:=by rw[<-length_toList,r4.length_eq,length_toList]
   have hf1:t1.fits cn.size=true:=S1.fit (by omega);rw[cR];simp only[Bool.not_false,Bool.and_self,↓reduceIte];unfold setRelay;refine wpAny_bind (wpAny_bind (wpAny_setState_of g1 rfl hf1 ?_));dsimp only;rw[if_neg hsl];refine wpAny_bind (show wpAny _ _ (match t1.relaid (cn.map (·.1)) (SetTable.grown (es.size+1))with
    |some (t,order)=>_
    |_=>_) _ _ _ from ?_)
   rw[r1];dsimp only;rw[<-fZ,if_neg (by rw[z2];simp)];refine wpAny_pure ?_;dsimp only;refine wpAny_storeSet_of g1 rfl ?_ (by rw[z2,z1,sizeLine_eq];omega);have g2:((s.heap.update a (Obj.putSet cn t1)).update a (Obj.putSet dJ t2)).get? a=some { o with data:=.set dJ (ep+1+1) t2 }:=by
    have:=get?_update_self (Obj.putSet dJ t2) g1 (by rw[putSet_of dJ t2 rfl];rfl)
    rw[putSet_of dJ t2 rfl]at this;exact this
   exact wpAny_pure (kE iD _ dJ (fV.trans (Heap.SameBut.update _ a _)) ⟨_,_,t2,p2,g2,iL,rfl,S2,by rw[r2,l1,hL],by rw[S2.sz,z2,r3];exact l7⟩ (r4.trans c9))
  ·rw[show t1.tooFull=false by simpa using cR];simp only[Bool.and_false,false_eq_true,↓reduceIte];refine wpAny_pure (kE iD _ cn fV ⟨_,_,t1,p',g1,iL,rfl,S1,by rw[l1,hL],S1.aZ cR⟩ c9)
end
abbrev R3:=Int×Int×Int
def r3L (k:R3):List Int:=[k.1,k.2.1,k.2.2]
def ent (x:R3×Addr):Int×Value:=(rowH (r3L x.1),Value.ref x.2)
theorem perm_of_map {α β:Type}{f:α->β}{A B:List β}(h:A.Perm B):∀l:List α,B=l.map f->∃l':List α,A=l'.map f/\l'.Perm l:=by
 induction h with
 |nil=>
  intro l e;exact⟨l,e,.refl _⟩
 |cons x _ ih=>
  intro l e;cases l with
  |nil=>cases e
  |cons a l=>
   injection e with e1 e2
   obtain⟨l',e3,p⟩:=ih l e2;exact⟨a::l',by rw[map_cons,e1,e3],p.cons a⟩
 |swap x y t=>
  intro l e;cases l with
  |nil=>cases e
  |cons a l=>
   cases l with
   |nil=>injection e with _ e;cases e
   |cons b l=>
    injection e with e1 e2
    injection e2 with e2 e3
    exact⟨b::a::l,by rw[map_cons,map_cons,e1,e2,e3],List.Perm.swap a b l⟩
 |trans _ _ ih1 ih2=>
  intro l e;obtain⟨l2,e2,p2⟩:=ih2 l e;obtain⟨l1,e1,p1⟩:=ih1 l2 e2;exact⟨l1,e1,p1.trans p2⟩
section
variable {prog:Program}{w:World}{A:Around}{E:tE0}{s:Shared}
theorem UE {h h':Heap}{ks:List Int}{b:Addr}(x:IsTupleKey (intKind prog w) h ks b)(k:∀o,h.get? b=some o->h'.get? b=some o):IsTupleKey (intKind prog w) h' ks b:=by
 obtain⟨o,items,n,ho,r⟩:=x;exact⟨o,items,n,k o ho,r⟩
def GotR (h:Heap)(a:Addr)(L:List (R3×Addr))(lb:Bool):Prop:=∃(es:tA0) (l:List (R3×Addr)),jpe h a es lb/\es.toList=l.map ent/\(∀x∈l,x∈L)/\(∀x∈L,∃y∈l,y.1=x.1)/\(l.map (·.1)).Nodup/\l.length<=L.length
theorem GotR.keep {h h':Heap}{a:Addr}{L:List (R3×Addr)}{lb:Bool}(g:GotR h a L lb)(k:∀o,h.get? a=some o->h'.get? a=some o):GotR h' a L lb:=by
 obtain⟨es,l,⟨o,ep,t,p,ho,r⟩,m⟩:=g;exact⟨es,l,⟨o,ep,t,p,k o ho,r⟩,m⟩
def HInj (L:List (R3×Addr)):Prop:=∀x∈L,∀y∈L,rowH (r3L x.1)=rowH (r3L y.1)->x.1=y.1
theorem jjm {a:Addr}{L:List (R3×Addr)}{lb:Bool}{x:R3×Addr}{Q:Bool->Shared->Prop}(hu:A.units<cLine)(g:GotR s.heap a L lb)(hl:L.length<60)(hi:HInj (L++[x]))(hk:∀y∈L++[x],IsTupleKey (intKind prog w) s.heap (r3L y.1) y.2)(h:∀b h',SameBut a s.heap h'->GotR h' a (L++[x]) lb->Q b { s with heap:=h' }):wpAny (model prog w) A (setAddHashed a (.ref x.2) (rowH (r3L x.1))) Q E s:=by
 obtain⟨es,l,S,e,m1,m2,nd,ll⟩:=g;have hx:x∈L++[x]:=List.mem_append.mpr (.inr (List.mem_singleton.mpr rfl));have hL:∀y∈L,y∈L++[x]:=λy hy=>List.mem_append.mpr (.inl hy)
 have hsz:es.size=l.length:=by rw[<-length_toList,e,length_map]
 refine jly hu S (hk x hx) (λy hy=>?_) (by omega) (λg7=>?_) λgL h' dE same S' perm=>?_
 ·rw[e]at hy;obtain⟨z,hz,rfl⟩:=List.mem_map.mp hy;exact⟨r3L z.1,z.2,rfl,hk z (hL z (m1 z hz)),λq=>by rw[hi z (hL z (m1 z hz)) x hx q]⟩
 ·have:=h false s.heap (Heap.SameBut.refl a s.heap) ⟨es,l,S,e,λy hy=>hL y (m1 y hy),λy hy=>?_,nd,by rw[length_append];show _<=_+1;omega⟩
  ·exact this
  rcases List.mem_append.mp hy with hy|hy
  ·exact m2 y hy
  ·obtain⟨z,hz,q⟩:=g7;rw[e]at hz;obtain⟨u,hu,rfl⟩:=List.mem_map.mp hz;rw[List.mem_singleton.mp hy];exact⟨u,hu,hi u (hL u (m1 u hu)) x hx q⟩
 ·rw[e,show l.map ent++[(rowH (r3L x.1),Value.ref x.2)]=(l++[x]).map ent by rw[map_append];rfl]at perm;obtain⟨l',e',p'⟩:=perm_of_map perm (l++[x]) rfl;refine h true h' same ⟨dE,l',S',e',λy hy=>?_,λy hy=>?_,?_,by rw[p'.length_eq,length_append,length_append];show _+1<=_+1;omega⟩
  ·rcases List.mem_append.mp (p'.mem_iff.mp hy)with hy|hy
   ·exact hL y (m1 y hy)
   ·exact List.mem_append.mpr (.inr hy)
  ·rcases List.mem_append.mp hy with hy|hy
   ·obtain⟨z,hz,q⟩:=m2 y hy;exact⟨z,p'.mem_iff.mpr (List.mem_append.mpr (.inl hz)),q⟩
   ·exact⟨x,p'.mem_iff.mpr (List.mem_append.mpr (.inr (List.mem_singleton.mpr rfl))),by rw[List.mem_singleton.mp hy]⟩
  ·rw[(p'.map (·.1)).nodup_iff,map_append];refine List.nodup_append.mpr ⟨nd,by simp,λu hu v hv q=>?_⟩;obtain⟨z,hz,rfl⟩:=List.mem_map.mp hu;have hv:v=x.1:=List.mem_singleton.mp hv;refine gL (ent z) (by rw[e];exact List.mem_map.mpr ⟨z,hz,rfl⟩) ?_;show rowH (r3L z.1)=_;rw[q,hv]
theorem sg0 (b:Bool):Sg #[] (.fresh 0 0 b) []:=⟨rfl,rfl,rfl,.nil,rfl,.inl rfl,λx hx=>(by cases hx),λx hx=>(by cases hx)⟩
theorem jqr {h:Heap}{a:Addr}(e:h.get? a=some (Sml.set0 w)):GotR h a [] (!Sml.byT w):=
 ⟨#[],[],⟨_,_,_,[],e,⟨rfl,rfl,rfl⟩,rfl,sg0 _,rfl,by show 0*5<7*3;decide⟩,rfl,λx hx=>(by cases hx),λx hx=>(by cases hx),nodup_nil,le_refl _⟩
theorem set_callR {l:Addr}{items:Array Value}{L:List (R3×Addr)}{Q:tE0}(hu:A.units+8<cLine)(hh:A.handled=none)(hl:s.heap.IsList l items)(hv:items.toList=L.map λx=>Value.ref x.2)(hs:L.length<60)(hi:HInj L)(hk:∀x∈L,IsTupleKey (intKind prog w) s.heap (r3L x.1) x.2)(h:∀(h':Heap) (tk:Nat),GotR h' s.heap.objs.size L (!Sml.byT w)->(∀b o,b<s.heap.objs.size->s.heap.get? b=some o->h'.get? b=some o)->Q (.ref s.heap.objs.size) { s with heap:=h',toks:=tk }) :
  wpAny (model prog w) A (call (.type "set") [.ref l]) Q E s:=by
 have tsz:∀x∈L,x.2<s.heap.objs.size:=λx hx=>by obtain⟨_,_,_,z,_⟩:=hk x hx;exact lt_size z
 have isz:items.size=L.length:=by rw[<-length_toList,hv,length_map]
 refine Sml.set_callG (Gt:=λh i=>GotR h s.heap.objs.size (L.take i) (!Sml.byT w)/\∀x∈L,IsTupleKey (intKind prog w) h (r3L x.1) x.2) hh hl (λg k=>⟨g.1.keep λo e=>k _ o (by omega) e,λx hx=>UE (g.2 x hx) λo e=>k _ o (ne_of_lt (lt_succ_of_lt (tsz x hx))) e⟩) (λh e k=>⟨jqr e,λx hx=>UE (hk x hx) λo z=>k _ o z⟩) (λA' i v s' E Q hA hp g h=>?_) λh' tk g=>h h' tk (by have:=g.1;rw[isz,take_length]at this;exact this);rw[<-getElem?_toList,hv,getElem?_map,map_eq_some_iff]at hp;obtain⟨x,hx,rfl⟩:=hp;have hxm:x∈L:=mem_of_getElem? hx;have lt:i<L.length:=(List.getElem?_eq_some_iff.mp hx).1;have tk:L.take i++[x]=L.take (i+1):=by rw[take_succ,hx];rfl
 have sub:∀y∈L.take i++[x],y∈L:=λy hy=>by rw[tk]at hy;exact List.mem_of_mem_take hy
 have hu1:A'.units<cLine:=by omega
 unfold setAdd;refine wpAny_holding (wpAny_bind (wpAny_pyHash_tuple hu1 (g.2 x hxm) ?_));rw[jkg];refine jjm (s:={ s' with toks:=s'.toks+((r3L x.1).length+1) }) (x:=x) hu1 g.1 (by rw[length_take];omega) (λu hu v hv=>hi u (sub u hu) v (sub v hv)) (λy hy=>g.2 y (sub y hy)) λb h2 same g2=>?_;rw[tk]at g2;exact h b h2 _ same (le_add_right _ _) ⟨g2,λy hy=>UE (g.2 y hy) λo e=>by rw[same.2 _ (ne_of_lt (tsz y hy))];exact e⟩
end
end Prb
namespace L2
open PySem PySem.Spec PyProof.Rows PySem.W
def jfJ (w:World)(a:Addr)(L:List (Prb.R3×Addr)):HO:=.ext λh=>Prb.GotR h a L (!Sml.byT w)
section
variable {X:Cx}
theorem jkb {P:Program}{w:World}{H:Hp}{h:Heap}{a:Addr}{L:List (Prb.R3×Addr)}(g:Prb.GotR h a L (!Sml.byT w)):yl P w H h a (jfJ w a L):=by
 refine⟨g,?_,λh1 h2 g1 k=>g1.keep k⟩;obtain⟨es,l,⟨o,ep,t,p,ho,_⟩,_⟩:=g;exact⟨o,ho⟩
theorem yU {bF:tP0}{σ:St}{H:Hp}{s:Shared}(I:Inv X bF σ H s){b:Addr}{k:Prb.R3}(h:SqT X.K H b ((Prb.r3L k).map V.int)):∃o t u r n,s.heap.get? b=some o/\o.cls= .type "tuple"/\o.data= .seq #[.int k.1 t,.int k.2.1 u,.int k.2.2 r] n:=by
 obtain⟨its,r,⟨o,h1,h2,n,h3⟩,_⟩:=I.tuple h
 cases r with
 |cons r1 t1=>
  cases t1 with
  |cons r2 t2=>
   cases t2 with
   |cons r3 t3=>
    cases t3;obtain⟨u1,rfl⟩:=r1;obtain⟨u2,rfl⟩:=r2;obtain⟨u3,rfl⟩:=r3;exact⟨o,u1,u2,u3,n,h1,h2,h3⟩
theorem jjQ {bF:tP0}{σ:St}{H:Hp}{s:Shared}(I:Inv X bF σ H s){b:Addr}{k:Prb.R3}(h:SqT X.K H b ((Prb.r3L k).map V.int)):IsTupleKey (intKind X.prog X.w) s.heap (Prb.r3L k) b:=by
 obtain⟨o,t,u,r,n,h1,h2,h3⟩:=yU I h;exact⟨o,_,n,h1,h2,h3,.cons (intKind_is _ _ _ _) (.cons (intKind_is _ _ _ _) (.cons (intKind_is _ _ _ _) .nil))⟩
theorem jgx (hu:X.A.units+8<cLine)(hc:X.calm=true):yK X (.type "set") (λxs H Q=>∃(p:Addr) (L:List (Prb.R3×Addr)),xs=[.ref p]/\SqL X.K H p (L.map λx=>V.ref x.2)/\(∀x∈L,SqT X.K H x.2 ((Prb.r3L x.1).map V.int))/\L.length<60/\Prb.HInj L/\∀l:Addr,H l=none->Q (.ref l) (upd H l (jfJ X.w l L))):=by
 intro bF s σ H xs us Q I r h;obtain⟨p,L,rfl,hq,ht,hl,hi,q⟩:=h;obtain⟨u,rfl,rx⟩:=vals1 r;cases rx;obtain⟨its,r',pl,hz⟩:=I.list hq;have hv:its=L.map λx=>Value.ref x.2:=by
  have key:∀(l:List (Prb.R3×Addr)) (vs:List Value),yg (l.map λx=>V.ref x.2) vs->vs=l.map λx=>Value.ref x.2:=by
   intro l
   induction l with
   |nil=>intro vs h;cases h;rfl
   |cons x l ih=>
    intro vs h;cases h with
    |cons r1 t1=>
     cases r1;rw[ih _ t1];rfl
  exact key L its r'
 refine Prb.set_callR (L:=L) hu (I.ok.hd hc) pl.isList (by rw[List.toList_toArray];exact hv) hl hi (λx hx=>jjQ I (ht x hx)) λh' tk g hk=>?_;exact⟨.ref s.heap.objs.size,_,I.laid (a:=s.heap.objs.size) (o:=jfJ X.w _ L) (t':=tk) (λb o z=>hk b o (lt_size z) z) (le_refl _) (jkb g),rfl,q _ (I.hok.fresh (le_refl _))⟩
theorem jfi {h:Heap}:∀{l:List (Prb.R3×Addr)},(∀x∈l,∃o t u r n,h.get? x.2=some o/\o.cls= .type "tuple"/\o.data= .seq #[.int x.1.1 t,.int x.1.2.1 u,.int x.1.2.2 r] n)->Sr3.All3 h (l.map λx=>Value.ref x.2) (l.map (·.1))
 |[],_=>trivial
 |x::l,f=>by
  obtain⟨o,t,u,r,n,h1,h2,h3⟩:=f x mem_cons_self;exact⟨⟨x.2,o,t,u,r,n,rfl,h1,h2,h3⟩,jfi λy hy=>f y (mem_cons_of_mem _ hy)⟩
theorem UX (hc:X.calm=true):yK X (.builtin "sorted") (λxs H Q=>∃(p:Addr) (L:List (Prb.R3×Addr)),xs=[.ref p]/\H p=some (jfJ X.w p L)/\(∀x∈L,SqT X.K H x.2 ((Prb.r3L x.1).map V.int))/\L.length<60 /\
  ∀(l:Addr) (out:List (Prb.R3×Addr)),H l=none->(∀x∈out,x∈L)->(∀x∈L,∃y∈out,y.1=x.1)->(out.map (·.1)).Nodup->(out.map (·.1)).Pairwise (λx y=>Sr3.lexB3 y x=false)->Q (.ref l) (upd H l (.lst (out.map λx=>V.ref x.2)))):=by
 intro bF s σ H xs us Q I r h;obtain⟨p,L,rfl,hq,ht,hl,q⟩:=h;obtain⟨u,rfl,rx⟩:=vals1 r;cases rx
 obtain⟨⟨es,l,⟨o,ep,t,pl,ho,hx,hd,S,hL,k4⟩,e,m1,m2,nd,ll⟩,_⟩:=(show yl X.prog X.w H s.heap p (jfJ X.w p L)from I.hok p _ hq)
 have lN:pl.length<=t.mask:=by
  rcases S.mm with h|h|h <;> rw[h]at k4 ⊢ <;> omega
 have Sx:Sml.Sx es t pl:=⟨S.pl,S.pn,S.pw,S.sz,S.fit lN⟩
 have hsz:es.size=l.length:=by rw[<-length_toList,e,length_map]
 have op:=Sml.ord_perm X.w p ep es;obtain⟨lo,e1,p1⟩:=Prb.perm_of_map (f:=Prb.ent) op l e;have kY:lo.length=es.size:=by rw[p1.length_eq,hsz]
 have iH:∀x∈lo,x∈L:=λx hx=>m1 x (p1.mem_iff.mp hx);refine Srt.sorted_src3 (ks:=lo.map (·.1)) (vs0:=lo.map λx=>Value.ref x.2) (Sml.srcS hx hd Sx hL) (I.ok.hd hc) ho (by omega) (λvs hv hp=>?_) (jfi λx hx=>yU I (ht x (iH x hx))) (λb hb=>?_) λh' tk a ee qs k1 z1 g hr=>?_
 ·refine ext_getElem? λj=>?_
  by_cases hj:j<es.size
  ·obtain⟨v,gU⟩:∃v,vs[j]?= some v:=⟨_,getElem?_eq_getElem (by omega)⟩
   obtain⟨x,e2,e3⟩:=hp j v gU;rw[<-getElem?_toList,e1,getElem?_map,map_eq_some_iff]at e2;obtain⟨y,e4,e5⟩:=e2;rw[gU,getElem?_map,e4,e3,<-e5];rfl
  ·rw[getElem?_eq_none (by omega),getElem?_map,getElem?_eq_none (by omega)];rfl
 ·obtain⟨x,hX,e2⟩:=List.mem_map.mp hb;cases e2;obtain⟨_,_,_,_,_,z,_⟩:=yU I (ht x (iH x hX));exact lt_size z
 ·have hq2:∀i∈qs,i<lo.length:=λi hi=>by
   have:=List.mem_range.mp (hr.1.mem_iff.mp hi)
   rw[length_map]at this;exact this
  obtain⟨out,fG⟩:∃out,out=qs.map λi=>lo.getD i ((0,0,0),0):=⟨_,rfl⟩
  have gY:out.Perm lo:=by
   have e4:(List.range lo.length).map (λi=>lo.getD i ((0,0,0),0))=lo:=by
    refine ext_getElem (by simp) λi h1 h2=>?_;simp[getD_eq_getElem?_getD,h2]
   have hr1:=hr.1;rw[length_map]at hr1
   have:=hr1.map λi=>lo.getD i ((0,0,0),0)
   rw[e4]at this;rw[fG];exact this
  have e1':(qs.map λi=>(lo.map (·.1)).getD i (0,0,0))=out.map (·.1):=by
   rw[fG,map_map];refine map_congr_left λi hi=>?_
   have:=hq2 i hi
   show(lo.map (·.1)).getD i (0,0,0)=(lo.getD i ((0,0,0),0)).1;simp[getD_eq_getElem?_getD,this]
  have ev:Srt.outOf (lo.map λx=>Value.ref x.2) qs=(out.map λx=>Value.ref x.2).toArray:=by
   unfold Srt.outOf;congr 1;rw[fG,map_map];refine map_congr_left λi hi=>?_
   have:=hq2 i hi
   show(lo.map λx=>Value.ref x.2).getD i Value.none=Value.ref (lo.getD i ((0,0,0),0)).2;simp[getD_eq_getElem?_getD,this]
  refine⟨.ref a,_,I.laid (a:=a) (o:=.lst (out.map λx=>V.ref x.2)) (h':=h') (t':=tk) k1 z1 ?_,rfl,q a out (I.hok.fresh z1) (λx hx=>iH x (gY.mem_iff.mp hx)) (λx hx=>?_) ?_ ?_⟩
  ·refine⟨by rw[length_map,gY.length_eq,sizeLine_eq];omega,out.map λx=>Value.ref x.2,ee,?_,?_⟩
   ·have:=JI (out.map (·.2))
    rw[map_map,map_map]at this;exact this
   ·rw[g,ev]
  ·obtain⟨y,hy,e3⟩:=m2 x hx;exact⟨y,gY.mem_iff.mpr (p1.mem_iff.mpr hy),e3⟩
  ·exact((gY.trans p1).map (·.1)).nodup_iff.mpr nd
  ·have:=hr.2
   rw[e1']at this;exact this
end
end L2
namespace L3
open PySem L2
def YD:List Prb.R3:=((List.range 6).map λh:Nat=>[(0:Int),1,99].map λp=>[(5:Int),6,-1000000].map λx=>((h:Int),p,x)).flatten.flatten
def jbZ:List PV->Option (List Prb.R3)
 |[]=>some []
 |.tup [.int a,.int b,.int c]::xs=>(jbZ xs).map λl=>(a,b,c)::l
 |_=>none
def jjo (l:List Prb.R3)(k:Prb.R3):List Prb.R3:=if k∈l then l else l++[k]
def jdJ (l:List Prb.R3):List Prb.R3:=ym (l.foldl jjo [])
def XM (d:DE):DE:=λρ M=>(d ρ M).bind λx M1=>match(yz M1 x).bind jbZ with
 |some l=>if l.all (λk=>decide (k∈YD))=true/\l.length<60 then .ok (.lst ((jdJ l).map yb)) M1 else .bad
 |none=>.bad
theorem jjP:∀x∈YD,∀y∈YD,Prb.rowH (Prb.r3L x)=Prb.rowH (Prb.r3L y)->x=y:=by
 have h:(YD.map λx=>Prb.rowH (Prb.r3L x)).Nodup:=by decide +kernel
 intro x hx y hy e;obtain⟨i,hi,e1⟩:=getElem_of_mem hx;obtain⟨j,hj,e2⟩:=getElem_of_mem hy;rcases Nat.lt_trichotomy i j with q|q|q
 ·have:=List.pairwise_iff_getElem.mp h i j (by rw[length_map];exact hi) (by rw[length_map];exact hj) q
  rw[getElem_map,getElem_map,e1,e2]at this;exact absurd e this
 ·subst q;rw[<-e1,<-e2]
 ·have:=List.pairwise_iff_getElem.mp h j i (by rw[length_map];exact hj) (by rw[length_map];exact hi) q
  rw[getElem_map,getElem_map,e1,e2]at this;exact absurd e.symm this
theorem jbN:∀(xs l:List Prb.R3) (k:Prb.R3),k∈xs.foldl jjo l↔k∈l\/k∈xs
 |[],l,k=>by simp
 |x::xs,l,k=>by
  rw[foldl_cons,jbN xs,mem_cons];unfold jjo;split
  ·rename_i h;exact⟨λz=>z.imp id .inr,λz=>z.elim .inl λz=>z.elim (λe=>.inl (e ▸ h)) .inr⟩
  ·rw[mem_append,mem_singleton,or_assoc]
theorem jfj:∀(xs l:List Prb.R3),l.Nodup->(xs.foldl jjo l).Nodup
 |[],l,h=>h
 |x::xs,l,h=>by
  rw[foldl_cons];refine jfj xs _ ?_;unfold jjo;split
  ·exact h
  ·rename_i z;exact List.nodup_append.mpr ⟨h,by simp,λa ha b hb e=>z (by rw[<-List.mem_singleton.mp hb,<-e];exact ha)⟩
theorem jas {l ms:List Prb.R3}(nd:ms.Nodup)(so:Vl ms)(h:∀k,k∈ms↔k∈l):ms=jdJ l:=by
 refine Jg ?_ so (yE _);refine List.Perm.trans ?_ (yi _).symm;refine(List.perm_ext_iff_of_nodup nd (jfj l [] nodup_nil)).mpr λk=>?_;rw[jbN,h];simp
theorem jdD {W:Wd}:∀{xs:List PV}{vs:List V}{l:List Prb.R3},yd W xs vs->jbZ xs=some l->∃L:List (Prb.R3×Addr),L.map (·.1)=l/\vs=L.map (λx=>V.ref x.2)/\∀x∈L,Rep W (yb x.1) (.ref x.2)
 |[],vs,l,r,e=>by
  have r:vs=[]:=r;subst r;cases e;exact⟨[],rfl,rfl,λx hx=>(by cases hx)⟩
 |x::xs,vs,l,⟨v,rs,e1,r1,r2⟩,e=>by
  subst e1;unfold jbZ at e;split at e
  ·cases ‹_::_=[]›
  ·rename_i a b c ys he;injection he with h1 h2
   subst h1 h2;rw[map_eq_some_iff]at e;obtain⟨l',e2,rfl⟩:=e;obtain⟨L,q1,q2,q3⟩:=jdD r2 e2;obtain⟨ad,us,rfl,_⟩:=id r1
   exact⟨((a,b,c),ad)::L,by rw[map_cons,q1],by rw[map_cons,q2],λy hy=>by
    rcases List.mem_cons.mp hy with rfl|hy
    ·exact r1
    ·exact q3 y hy⟩
  ·cases e
theorem jej {W:Wd}:∀{L:List (Prb.R3×Addr)},(∀x∈L,Rep W (yb x.1) (.ref x.2))->yd W (L.map λx=>yb x.1) (L.map λx=>V.ref x.2)
 |[],_=>rfl
 |x::L,h=>⟨_,_,rfl,h x mem_cons_self,jej λy hy=>h y (mem_cons_of_mem _ hy)⟩
def YQ:G1:=λM xs=>match xs with
 |[x]=>(vZ M x).bind λz=>match z with
  |.lst ys=>some (.ref M.n,M.new (.lst ys))
  |_=>none
 |_=>none
section
variable {X:Cx}{T:Tb}{ES:St->XK}{e:Expr}{d:DE}{p p2 pos dF:Pos}
theorem jgV {W:Wd}{M:Sto}{H:Hp}(hh:Held W M H)(hK:W.T.K=X.K){k:Prb.R3}{b:Addr}(r:Rep W (yb k) (.ref b)):SqT X.K H b ((Prb.r3L k).map V.int):=by
 obtain⟨a,vs,e,q,rs⟩:=r;cases e;obtain⟨v1,r1,rfl,e1,v2,r2,rfl,e2,v3,r3,rfl,e3,e4⟩:=rs;have e1:v1= .int k.1:=e1;have e2:v2= .int k.2.1:=e2;have e3:v3= .int k.2.2:=e3;have e4:r3=[]:=e4;subst e1 e2 e3 e4;rw[hK]at q;exact(jpC hh.f q).toT
theorem jaM (hT:T.K=X.K)(hu:X.A.units+8<cLine)(hc:X.calm=true)(hg:Gl X "sorted")(hm:X.mg "sorted" = none)(hv:bootBuiltins "sorted" = some (.builtin "sorted"))(lX:Gl X "set")(iF:X.mg "set" = none)(gU:bootBuiltins "set" = some (.type "set"))(he:QE X T ES e d)(cQ:starEach [e] X.env=[(false,eval e X.env)]:=by rfl) (cY:starEach [.Call (.Name "set" p2) [e] [] dF] X.env=[(false,eval (.Call (.Name "set" p2) [e] [] dF) X.env)]:=by rfl) :
  QE X T ES (.Call (.Name "sorted" p) [.Call (.Name "set" p2) [e] [] dF] [] pos) (XM d):=
 ⟨jN (Ja (UX hc) hg hm hv (uo (JS (jgx hu hc) lX iF gU (uo he.h JT (by rw[cQ];rfl)) (by decide) (by decide) (by rw[cQ];rfl) (by rfl)) JT (by rw[cY];rfl)) (by decide) (by decide) (by rw[cY];rfl) (by rfl)) λσ H Q bH=>jC bH λW ρ M k hh hs q=>⟨W,ρ,M,k,hh,hs,yh.bind q λW1 M1 x v H1 l1 h1 r1 q1=>by
  split at q1
  rotate_left
  ·exact q1.elim
  rename_i l e1;split at q1
  rotate_left
  ·exact q1.elim
  rename_i hz;rw[Option.bind_eq_some_iff]at e1;obtain⟨xs,e1,e2⟩:=e1;obtain⟨a,vs,rfl,ha,rr⟩:=yW h1 r1 e1;obtain⟨L,q2,rfl,q3⟩:=jdD rr e2;have hK:W1.T.K=X.K:=by rw[l1.k,k];exact hT
  have bM:L.length<60:=by
   have:=congrArg List.length q2
   rw[length_map]at this;omega
  have hmem:∀x∈L,x.1∈YD:=λx hx=>by
   have:=List.all_eq_true.mp hz.1 x.1 (by rw[<-q2];exact List.mem_map.mpr ⟨x,hx,rfl⟩)
   exact of_decide_eq_true this
  refine⟨a,L,rfl,SqL.of ha,λx hx=>jgV h1 hK (q3 x hx),bM,λx hx y hy=>jjP x.1 (hmem x hx) y.1 (hmem y hy),λl' hl=>?_⟩;obtain⟨l4,h4,f4⟩:=h1.frz (o:=jfJ X.w l' L) hl;refine⟨l',L,rfl,jr,λx hx=>jgV h4 hK ((q3 x hx).up l4),bM,λl2 out km o1 o2 o3 o4=>?_⟩
  have hs:out.map (·.1)=jdJ l:=jas o3 o4 λk=>by
   rw[<-q2];constructor
   ·intro hk;obtain⟨y,hy,rfl⟩:=List.mem_map.mp hk;exact List.mem_map.mpr ⟨y,o1 y hy,rfl⟩
   ·intro hk;obtain⟨y,hy,rfl⟩:=List.mem_map.mp hk;obtain⟨z,hz,e⟩:=o2 y hy;exact List.mem_map.mpr ⟨z,hz,e⟩
  obtain⟨W5,l5,h5,r5⟩:=xX h4 (jej λx hx=>(q3 x (o1 x hx)).up l4) km;rw[show(out.map λx=>yb x.1)=(jdJ l).map yb by rw[<-hs,map_map];rfl]at r5
  exact q1 _ _ _ (l4.trans l5) h5 r5⟩⟩
theorem jdj (hc:X.calm=true):yK X (.builtin "sorted") (rC T YQ):=Yl (Jz hc) λvs H Q bH=>by
 obtain⟨W,M,xs,z,M',k,hh,rx,e,q⟩:=bH;unfold YQ at e;split at e
 rotate_left
 ·cases e
 rename_i x;obtain⟨zz,e1,e⟩:=Option.bind_eq_some_iff.mp e;obtain⟨v,rfl,r⟩:=xW rx;unfold vZ at e1;split at e1
 rotate_left
 ·cases e1
 rename_i i;split at e1
 rotate_left
 ·cases e1
 rename_i l e5;split at e1
 rotate_left
 ·cases e1
 rename_i ks e6;split at e1
 rotate_left
 ·cases e1
 rename_i hE;cases e1;cases e;obtain⟨a,rfl,ea⟩:=r;obtain⟨b,ob,g1,g2,g3,vs,rfl,ra⟩:=hh.m i _ e5;rw[ea]at g1;cases g1;have hk:=Ub e6;have hv:vs.map (·.1)=ks.map jbb:=by
  rw[JO ra,hk,map_map];rfl
 have lR:l.length=ks.length:=by
  have:=congrArg List.length hk
  simpa using this
 refine⟨a,vs,ks,rfl,g3,by rw[ra.length];exact hE,hv,λl' bs qs d8 f7 iN hr=>?_⟩
 obtain⟨W1,l1,h1,r1⟩:=jdm l bs hh (by rw[f7,ra.length]) λj p b e1 e2=>by
  obtain⟨kv,e3,e4⟩:=jcG ra j p e1
  have:=iN j kv b e3 e2
  rw[e4,xE]at this;exact this
 have el:(l.map λp=>PV.tup (p.1.map PV.int))=ks.map yb:=by
  have:(l.map λp=>PV.tup (p.1.map PV.int))=(l.map (·.1)).map λns=>PV.tup (ns.map PV.int):=by rw[map_map];rfl
  rw[this,hk,map_map];rfl
 rw[el]at r1;have hq:∀i∈qs,i<ks.length:=λi hi=>List.mem_range.mp (hr.1.mem_iff.mp hi);have r2:=JM r1 qs λi hi=>by rw[length_map];exact hq i hi
 have e2:(qs.map λi=>(ks.map yb).getD i .non)=(ym ks).map yb:=by
  have e3:(qs.map λi=>ks.getD i (0,0,0))=ym ks:=by
   refine Jg ?_ hr.2 (yE ks);have e4:(List.range ks.length).map (λi=>ks.getD i (0,0,0))=ks:=by
    refine ext_getElem (by simp) λi h1 h2=>?_;simp[getD_eq_getElem?_getD,h2]
   have:=hr.1.map λi=>ks.getD i (0,0,0)
   rw[e4]at this;exact this.trans (yi ks).symm
  rw[<-e3,map_map];refine map_congr_left λi hi=>?_
  have:=hq i hi
  show(ks.map yb).getD i .non=yb (ks.getD i (0,0,0));rw[getD_eq_getElem?_getD,getD_eq_getElem?_getD,getElem?_map,getElem?_eq_getElem this];rfl
 have e7:(qs.map λi=>(bs.map V.ref).getD i .non)=qs.map λi=>V.ref (bs.getD i 0):=map_congr_left λi hi=>by
  have h1:=hq i hi;have h2:i<bs.length:=by rw[f7,ra.length,lR];exact h1
  rw[getD_eq_getElem?_getD,getD_eq_getElem?_getD,getElem?_map,getElem?_eq_getElem h2];rfl
 rw[e2,e7]at r2;obtain⟨le,h2,h3⟩:=h1.put (l:=l') (o:=.lst (qs.map λi=>V.ref (bs.getD i 0))) (c:=.lst ((ym ks).map yb)) d8 ⟨_,rfl,r2⟩;exact q _ _ _ (l1.trans le) h2 ⟨l',rfl,h3⟩
end
end L3
set_option maxHeartbeats 4000000
namespace My
open PySem L2 L3
def top (i:Nat):Stmt:=PySem.Challenge.pw_liarclocks_k27_whole_books.main.body.getD i (.Pass ⟨0,0,0,0⟩)
abbrev tb (w:World)(K:Frag)(C:Nat->Addr):Tb:=⟨K,C,w⟩
abbrev jdX:Stmt:=top 27
abbrev jdW:Stmt:=top 28
abbrev jdZ:Stmt:=top 30
abbrev jdQ:Stmt:=top 10
abbrev jdV:Stmt:=top 11
abbrev jec:Stmt:=top 16
abbrev jeb:Stmt:=top 17
abbrev jdP:Stmt:=top 14
abbrev jaz:Stmt:=top 15
abbrev jaE:Stmt:=top 18
abbrev Xa:Stmt:=xm (top 25) 0
abbrev jdU:Stmt:=top 29
abbrev jea:Stmt:=top 19
abbrev jee:Stmt:=xm (top 25) 2
abbrev jdT:Stmt:=top 12
abbrev jdS:Stmt:=xm (top 25) 4
abbrev jdO:Stmt:=xm (top 25) 3
abbrev jay:Stmt:=top 22
abbrev jdR:Stmt:=xm (top 25) 5
abbrev jaC:Stmt:=xm (top 25) 6
abbrev jaB:Stmt:=top 31
abbrev jdY:Stmt:=xm (top 25) 7
abbrev jax:Stmt:=top 24
abbrev jaA:Stmt:=xm (top 25) 8
abbrev jaD:Stmt:=xm (top 25) 9
abbrev jdM:Stmt:=top 13
abbrev jdN:Stmt:=top 23
abbrev jed:Stmt:=xm (top 25) 7
abbrev vk:Stmt:=top 32
theorem jmJ:FnScope ["_law_script"] ["_law_script"] (jc jdX):=by refine⟨rfl,rfl,rfl,?_,rfl,?_,?_⟩ <;> decide +kernel
theorem JK:FnScope ["_law_town_here","_law_many","_law_row","_law_at","_law_cell","_law_mixed"] ["_law_town_here","_law_many"] (jc jdW):=by refine⟨rfl,rfl,rfl,?_,rfl,?_,?_⟩ <;> decide +kernel
theorem jcf:FnScope ["_law_town_here","_law_crew","_law_most","_law_found","_law_house"] ["_law_town_here","_law_crew","_law_most"] (jc jdZ):=by refine⟨rfl,rfl,rfl,?_,rfl,?_,?_⟩ <;> decide +kernel
theorem jmC:FnScope ["thing"] ["thing"] (jc jdQ):=by refine⟨rfl,rfl,rfl,?_,rfl,?_,?_⟩ <;> decide +kernel
theorem jmI:FnScope ["thing","least","most"] ["thing","least","most"] (jc jdV):=by refine⟨rfl,rfl,rfl,?_,rfl,?_,?_⟩ <;> decide +kernel
theorem jmN:FnScope ["thing","least","most"] ["thing","least","most"] (jc jec):=by refine⟨rfl,rfl,rfl,?_,rfl,?_,?_⟩ <;> decide +kernel
theorem jmM:FnScope ["houses"] ["houses"] (jc jeb):=by refine⟨rfl,rfl,rfl,?_,rfl,?_,?_⟩ <;> decide +kernel
theorem jmB:FnScope ["thing","houses"] ["thing","houses"] (jc jdP):=by refine⟨rfl,rfl,rfl,?_,rfl,?_,?_⟩ <;> decide +kernel
theorem jmH:FnScope ["numbers"] ["numbers"] (jc jaz):=by refine⟨rfl,rfl,rfl,?_,rfl,?_,?_⟩ <;> decide +kernel
theorem jmR:FnScope ["some","houses","most"] ["some","houses","most"] (jc jaE):=by refine⟨rfl,rfl,rfl,?_,rfl,?_,?_⟩ <;> decide +kernel
theorem jmP:FnScope ["self","houses","liars"] ["self","houses","liars"] (jc Xa):=by refine⟨rfl,rfl,rfl,?_,rfl,?_,?_⟩ <;> decide +kernel
theorem jmG:FnScope ["_law_town_here","_law_some"] ["_law_town_here","_law_some"] (jc jdU):=by refine⟨rfl,rfl,rfl,?_,rfl,?_,?_⟩ <;> decide +kernel
theorem jmL:FnScope ["house","houses"] ["house","houses"] (jc jea):=by refine⟨rfl,rfl,rfl,?_,rfl,?_,?_⟩ <;> decide +kernel
theorem jmS:FnScope ["self","house"] ["self","house"] (jc jee):=by refine⟨rfl,rfl,rfl,?_,rfl,?_,?_⟩ <;> decide +kernel
theorem jmF:FnScope ["thing"] ["thing"] (jc jdT):=by refine⟨rfl,rfl,rfl,?_,rfl,?_,?_⟩ <;> decide +kernel
theorem jmE:FnScope ["self","house","place","number"] ["self","house","place","number"] (jc jdS):=by refine⟨rfl,rfl,rfl,?_,rfl,?_,?_⟩ <;> decide +kernel
theorem jhd:FnScope ["self","house","place","number","row"] ["self","house","place","number"] (jc jdO):=by refine⟨rfl,rfl,rfl,?_,rfl,?_,?_⟩ <;> decide +kernel
theorem jmD:FnScope ["thing"] ["thing"] (jc jay):=by refine⟨rfl,rfl,rfl,?_,rfl,?_,?_⟩ <;> decide +kernel
theorem jhe:FnScope ["self","house","row","seen"] ["self","house","row"] (jc jdR):=by refine⟨rfl,rfl,rfl,?_,rfl,?_,?_⟩ <;> decide +kernel
theorem Uj:FnScope ["self","house","other","seen","new","row"] ["self","house","other"] (jc jaC):=by refine⟨rfl,rfl,rfl,?_,rfl,?_,?_⟩ <;> decide +kernel
theorem Ui:FnScope ["_law_rows","_law_found","_law_one"] ["_law_rows"] (jc jaB):=by refine⟨rfl,rfl,rfl,?_,rfl,?_,?_⟩ <;> decide +kernel
theorem jmK:FnScope ["self","house"] ["self","house"] (jc jdY):=by refine⟨rfl,rfl,rfl,?_,rfl,?_,?_⟩ <;> decide +kernel
theorem jmA:FnScope ["rows"] ["rows"] (jc jax):=by refine⟨rfl,rfl,rfl,?_,rfl,?_,?_⟩ <;> decide +kernel
theorem jcg:FnScope ["self","house","groups","row"] ["self","house"] (jc jaA):=by refine⟨rfl,rfl,rfl,?_,rfl,?_,?_⟩ <;> decide +kernel
theorem jmQ:FnScope ["self","house"] ["self","house"] (jc jaD):=by refine⟨rfl,rfl,rfl,?_,rfl,?_,?_⟩ <;> decide +kernel
theorem jmy:FnScope ["thing"] ["thing"] (jc jdM):=by refine⟨rfl,rfl,rfl,?_,rfl,?_,?_⟩ <;> decide +kernel
theorem jmz:FnScope ["pair"] ["pair"] (jc jdN):=by refine⟨rfl,rfl,rfl,?_,rfl,?_,?_⟩ <;> decide +kernel
theorem jmO:FnScope ["self","house"] ["self","house"] (jc jed):=by refine⟨rfl,rfl,rfl,?_,rfl,?_,?_⟩ <;> decide +kernel
theorem yF:FnScope ["_law_script","_law_town_here","_law_crew","_law_foes","_law_book","_law_said","_law_seen","_law_turn","_law_house","_law_other","_law_kind","_law_place","_law_number","_law_others","_law_row","_law_new","_law_rows","_law_pairs"] ["_law_script"] (jc vk):=by refine⟨rfl,rfl,rfl,?_,rfl,?_,?_⟩ <;> decide +kernel
def jqy:DS:=(yI (XN (jb (dIf (yj (dOp joI (ya 0) (xB yc))) (dCB (jcR) (jb (ya 0) yc)) (XN (jb (dC (.int 0)) yc))) (jb (dC (.int 0)) yc))))
def jfq:List PV->Sto->Res PV:=yu 1 1 jqy
def jiQ:DS:=(yf (yH 2 (dOp gIx (ya 0) (dC (.int 0))))
 (yf (Yq (dOp uG (dOp gIx (ya 0) (dC (.int 1))) (dC (.int 1))) (ya 0) (dC (.int 1)))
 (yf (yH 3 (dOp jbl (dOp gIx (ya 0) (dC (.int 1))) (dCB (one ua) (jb (ya 2) yc))))
 (yf (yH 4 (dOp gIx (ya 2) (ya 3)))
 (yf (sIf (yj (dOp gGe (ya 4) (dC (.int 1000000000000000000)))) (yf (Yq (dOp jiE (ya 4) (ya 1)) (ya 2) (ya 3))
 (yI (dOp jbl (ya 4) (ya 1)))) yN)
 (yf (yH 5 (dOp jbl (dOp uG (ya 4) (dOp jla (dC (.int 104729)) (dOp gIx (ya 0) (dC (.int 1))))) (dC (.int 4294967291))))
 (yf (yH 5 (dOp jbl (dOp joJ (ya 5) (dC (.int 5))) (dC (.int 4294967279))))
 (yI (dOp jbl (dOp jiE (dOp jbl (dOp uG (dOp jla (dOp jiE (ya 5) (dC (.int 64))) (dC (.int 69621))) (ya 5)) (dC (.int 4294967231))) (dC (.int 8))) (ya 1))))))))))
def vA:List PV->Sto->Res PV:=yu 2 6 jiQ
def ud:DS:=(sIf (jja (yj (dOp gLt (dCB (one ua) (jb (ya 3) yc)) (ya 2))) (yj (dOp (eqG false) (jo vA 2 0 [.p 0,.p 1] [] (jb (ya 0) (jb (dC (.int 3)) yc)) yc) (dC (.int 0))))) (yO (dMt xF (ya 3) (jb (ya 4) yc))) yN)
def jiR:DS:=(yf (yH 3 (XN yc))
 (yf (Ve 200 (uy (jb (ya 1) yc)) (gN 4) ud)
 (yI (joS (ya 3)))))
def jbS:List PV->Sto->Res PV:=JV (yu 3 5 jiR)
def jiM:DS:=(yI (uz (dCB (Vh) (jb (ya 0) (jb (dC (.ty "int")) yc))) (jiY (dCB (Vh) (jb (ya 0) (jb (dC (.ty "bool")) yc))))))
def VU:List PV->Sto->Res PV:=yu 1 1 jiM
def jiP:DS:=(yI (uz (jo VU 1 0 [.p 0] [] (jb (ya 0) yc) yc) (UT gLe gLe (ya 1) (ya 0) (ya 2))))
def XY:List PV->Sto->Res PV:=yu 3 3 jiP
def jiU:DS:=(sIf (Ju (Jt (jo XY 3 0 [.p 0,.p 1,.p 2] [] (jb (ya 0) (jb (ya 1) (jb (ya 2) yc))) yc))) jaF yN)
def Vb:List PV->Sto->Res PV:=yu 3 3 jiU
def jiT:DS:=(yO (jo Vb 3 0 [.p 0,.p 1,.p 2] [] (jb (ya 0) (jb (dC (.int 1)) (jb (dC (.int 16)) yc))) yc))
def jjK:List PV->Sto->Res PV:=yu 1 1 jiT
def jlU:DS:=(yI (jo XY 3 0 [.p 0,.p 1,.p 2] [] (jb (ya 0) (jb (dC (.int 0)) (jb (dOp jgo (ya 1) (dC (.int 1))) yc))) yc))
def VT:List PV->Sto->Res PV:=yu 2 2 jlU
def jlX:DS:=(yI (dCB (one Vi) (jb (yQ (jlg (jb (ya 0) (jb (dSl (ya 0) (dOS (dC (.int 1))) dON) yc))) jgA [] vy (dOp gLt (ya 0) (ya 1))) yc)))
def jbR:List PV->Sto->Res PV:=yu 1 1 jlX
def YS:DE:=(jo VT 2 0 [.p 0,.p 1] [] (jb (ya 0) (jb (ya 1) yc)) yc)
def jbz:DS:=(yf (sIf (dOr (Ju (Jt (dCB (Vh) (jb (ya 0) (jb (vw (jb (dC (.ty "list")) (jb (dC (.ty "tuple")) yc))) yc))))) (yj (dOp gGt (dCB (one ua) (jb (ya 0) yc)) (ya 2)))) jaF yN)
 (sIf (dOr (Ju (Jt (dCB (one Vi) (jb (yQ (jlh (ya 0)) ug [1] vy YS) yc)))) (Ju (Jt (jo jbR 1 0 [.p 0] [] (jb (ya 0) yc) yc)))) jaF yN))
def Vc:List PV->Sto->Res PV:=yu 3 3 jbz
def jma:DS:=(yf (yO (jo jjK 1 0 [.p 0] [] (jb (ya 1) yc) yc))
 (yf (yO (jo Vc 3 0 [.p 0,.p 1,.p 2] [] (jb (ya 2) (jb (ya 1) (jb (ya 1) yc))) yc))
 (yf (uW 10 "liars" (dCB (one jbo) (jb (ya 2) yc)) (ya 0))
 (yf (uW 10 "said" jgs (ya 0))
 (yf (uW 10 "bound" jgs (ya 0))
 (uW 10 "seen" (yQ (uy (jb (ya 1) yc)) ug [] vy jgs) (ya 0)))))))
def JG:List PV->Sto->Res PV:=yu 3 3 jma
def jiO:DS:=(yI (dOp gIx (ya 1) (jo vA 2 0 [.p 0,.p 1] [] (jb (ya 0) (jb (dCB (one ua) (jb (ya 1) yc)) yc)) yc)))
def YC:List PV->Sto->Res PV:=yu 2 2 jiO
def jiS:DS:=(sIf (Ju (Jt (jo VT 2 0 [.p 0,.p 1] [] (jb (ya 0) (jb (ya 1) yc)) yc))) jaF yN)
def jfr:List PV->Sto->Res PV:=yu 2 2 jiS
def jmc:DS:=(yO (jo jfr 2 0 [.p 0,.p 1] [] (jb (ya 1) (jb (dCB (one ua) (jb (uv 10 "seen" (ya 0)) yc)) yc)) yc))
def JH:List PV->Sto->Res PV:=yu 2 2 jmc
def jiN:DS:=(yI (jo XY 3 0 [.p 0,.p 1,.p 2] [] (jb (ya 0) (jb (dUn joK (dC (.int 1000000))) (jb (dC (.int 1000000)) yc))) yc))
def VW:List PV->Sto->Res PV:=yu 1 1 jiN
def jlW:DS:=(yf (sIf (yj (dOp (eqG true) (UR (uv 10 "bound" (ya 0)) (jb (ya 1) (jb (ya 2) yc)) (ya 3)) (ya 3))) jaF yN)
 (Ul (ya 3) (uv 10 "bound" (ya 0)) (jb (ya 1) (jb (ya 2) yc))))
def jfp:List PV->Sto->Res PV:=yu 4 4 jlW
def jlT:DS:=(yf (yO (xQ 10 "check_is_house" JH 2 0 [.p 0,.p 1] [] (ya 0) (jb (ya 1) yc) yc))
 (yf (yO (jo Vb 3 0 [.p 0,.p 1,.p 2] [] (jb (ya 2) (jb (dC (.int 0)) (jb (dC (.int 99)) yc))) yc))
 (yf (sIf (Ju (Jt (jo VW 1 0 [.p 0] [] (jb (ya 3) yc) yc))) jaF yN)
 (yf (sIf (yj (dOp (gIn true) (ya 1) (uv 10 "liars" (ya 0)))) (yO (xQ 10 "bind" jfp 4 0 [.p 0,.p 1,.p 2,.p 3] [] (ya 0) (jb (ya 1) (jb (ya 2) (jb (ya 3) yc))) yc)) yN)
 (yf (jhf 4 (jb (ya 1) (jb (ya 2) (jb (ya 3) yc))) (dC (.bl true)) (uv 10 "said" (ya 0)))
 (yI (ya 4)))))))
def jbQ:List PV->Sto->Res PV:=yu 4 5 jlT
def jln:DE:=(jo VU 1 0 [.p 0] [] (jb (ya 0) yc) yc)
def jqx:DS:=(yI (uz (dCB (Vh) (jb (ya 0) (jb (dC (.ty "tuple")) yc))) (uz (dOp (eqG false) (dCB (one ua) (jb (ya 0) yc)) (dC (.int 3))) (dCB (one Vi) (jb (yQ (jqz (ya 0)) ug [] vy jln) yc)))))
def VV:List PV->Sto->Res PV:=yu 1 1 jqx
def jlV:DS:=(yf (yO (xQ 10 "check_is_house" JH 2 0 [.p 0,.p 1] [] (ya 0) (jb (ya 1) yc) yc))
 (yf (sIf (dOr (Ju (Jt (jo VV 1 0 [.p 0] [] (jb (ya 2) yc) yc))) (yj (UQ true (ya 2) (uv 10 "said" (ya 0))))) jaF yN)
 (yf (yH 3 (dOp gIx (uv 10 "seen" (ya 0)) (ya 1)))
 (uV (dC (.bl true)) (ya 3) (ya 2)))))
def jfo:List PV->Sto->Res PV:=yu 3 4 jlV
def jby:DS:=(uV (dC (.bl true)) (ya 3) (ya 5))
def jeN:DS:=(yf (yO (xQ 10 "check_is_house" JH 2 0 [.p 0,.p 1] [] (ya 0) (jb (ya 1) yc) yc))
 (yf (yO (xQ 10 "check_is_house" JH 2 0 [.p 0,.p 1] [] (ya 0) (jb (ya 2) yc) yc))
 (yf (yH 3 (dOp gIx (uv 10 "seen" (ya 0)) (ya 2)))
 (yf (yH 4 (Jv (dOp gIx (uv 10 "seen" (ya 0)) (ya 1)) 3))
 (yf (Ve 200 (dIt (ya 4)) (gN 5) jby)
 (yI (dCB (one ua) (jb (ya 4) yc))))))))
def jfs:List PV->Sto->Res PV:=JV (yu 3 6 jeN)
def jdE:DT:=(jja (yj (dOp (eqG false) (dSl (ya 1) dON (dOS (dC (.int 2)))) (dSl (ya 0) dON (dOS (dC (.int 2)))))) (yj (dOp gLt (dOp gIx (ya 1) (dC (.int 2))) (dOp gIx (ya 0) (dC (.int 2))))))
def Jr:DS:=(yH 1 (dOp uG (ya 1) (yQ (dIt (ya 0)) ug [2] jdE (vw (jb (ya 1) (jb (ya 0) yc))))))
def jeM:DS:=(yf (yH 1 (xB yc))
 (yf (Ve 200 (dIt (ya 0)) (gN 2) Jr)
 (yI (ya 1))))
def jbT:List PV->Sto->Res PV:=JV (yu 1 3 jeM)
def jlY:DS:=(yf (yO (xQ 10 "check_is_house" JH 2 0 [.p 0,.p 1] [] (ya 0) (jb (ya 1) yc) yc))
 (yI (dCB (one vZ) (jb (dOp gIx (uv 10 "seen" (ya 0)) (ya 1)) yc))))
def XZ:List PV->Sto->Res PV:=yu 2 2 jlY
def jlS:DS:=(yI (Yi (jeQ (jb (ya 0) yc)) (gT 2 (yJ (gN 0) (yJ (gN 1) Ji))) 3 [0] (jbs (gN 2) (dIt (dSl (ya 3) (dOS (dOp uG (ya 0) (dC (.int 1)))) dON)) (emE (vw (jb (ya 1) (jb (ya 2) yc)))))))
def VS:List PV->Sto->Res PV:=yu 1 1 jlS
def yt:DS:=(yO (dMt xF (vz (ya 2) (dSl (ya 3) dON (dOS (dC (.int 2)))) (XN yc)) (jb (ya 3) yc)))
def jeL:DS:=(yf (yH 2 jgs)
 (yf (Ve 200 (dIt (xQ 10 "known" XZ 2 0 [.p 0,.p 1] [] (ya 0) (jb (ya 1) yc) yc)) (gN 3) yt)
 (yI (Yi (UO (ya 2)) (gN 0) 2 [] (jbs (gN 1) (dIt (jo VS 1 0 [.p 0] [] (jb (ya 0) yc) yc)) (emE (ya 1)))))))
def Va:List PV->Sto->Res PV:=JV (yu 2 4 jeL)
def jmb:DS:=(yI (UP (dIt (xQ 10 "clashes" Va 2 0 [.p 0,.p 1] [] (ya 0) (jb (ya 1) yc) yc)) (gT 2 (yJ (gN 0) (yJ (gN 1) Ji))) 2 [] (jld (dOp gIx (ya 0) (dC (.int 0))))))
def jfu:List PV->Sto->Res PV:=yu 2 2 jmb
def jqw:DS:=(yI (uz (dCB (Vh) (jb (ya 0) (jb (dC (.ty "tuple")) yc))) (dOp (eqG false) (dCB (one ua) (jb (ya 0) yc)) (dC (.int 2)))))
def jfm:List PV->Sto->Res PV:=yu 1 1 jqw
def jlR:DS:=(yf (sIf (dOr (Ju (Jt (jo jfm 1 0 [.p 0] [] (jb (ya 0) yc) yc))) (dOr (Ju (Jt (jo VV 1 0 [.p 0] [] (jb (dOp gIx (ya 0) (dC (.int 0))) yc) yc))) (Ju (Jt (jo VV 1 0 [.p 0] [] (jb (dOp gIx (ya 0) (dC (.int 1))) yc) yc))))) (yI (dC (.bl false))) yN)
 (yI (uz (dOp (eqG false) (dSl (dOp gIx (ya 0) (dC (.int 0))) dON (dOS (dC (.int 2)))) (dSl (dOp gIx (ya 0) (dC (.int 1))) dON (dOS (dC (.int 2))))) (dOp (eqG true) (dOp gIx (dOp gIx (ya 0) (dC (.int 0))) (dC (.int 2))) (dOp gIx (dOp gIx (ya 0) (dC (.int 1))) (dC (.int 2)))))))
def jfn:List PV->Sto->Res PV:=yu 1 1 jlR
def jlZ:DS:=(yf (yO (xQ 10 "check_is_house" JH 2 0 [.p 0,.p 1] [] (ya 0) (jb (ya 1) yc) yc))
 (yI (dCB YQ (jb (dOp gIx (uv 10 "seen" (ya 0)) (ya 1)) yc))))
def jft:List PV->Sto->Res PV:=yu 2 2 jlZ
def Ue:DT:=(Ju (Jt (jo jfn 1 0 [.p 0] [] (jb (ya 0) yc) yc)))
def Ud:DT:=(yj (dOp (eqG true) (ya 0) (vw (jb (ya 1) (jb (ya 2) (jb (ya 3) yc))))))
def Uc:DT:=(jja (yj (dOp (eqG false) (dSl (ya 0) dON (dOS (dC (.int 2)))) (vw (jb (ya 2) (jb (ya 3) yc))))) (yj (dOp (eqG true) (dOp gIx (ya 0) (dC (.int 2))) (ya 1))))
def jfN:DS:=(yf (jfM (vw (jb (jo YC 2 0 [.p 0,.p 1] [] (jb (ya 1) (jb (xB (jb (dC (.int 0)) (jb (dC (.int 1)) (jb (dC (.int 99)) yc)))) yc)) yc) (jb (jo YC 2 0 [.p 0,.p 1] [] (jb (ya 1) (jb (xB (jb (dC (.int 5)) (jb (dC (.int 5)) (jb (dC (.int 6)) (jb (dOp jgo (dC (.int 0)) (dC (.int 1000000))) yc))))) yc)) yc) yc))) (gT 2 (yJ (gN 11) (yJ (gN 12) Ji)))) (yf (yH 13 (yQ (dIt (ya 5)) ug [12,8,11] Uc (ya 0))) (sIf (dOr (yj (dOp (gIn false) (ya 8) (ya 3))) (yj (dOp (eqG false) (ya 13) (xB yc)))) (yf (sIf (yj (dOp (eqG true) (xQ 10 "say" jbQ 4 0 [.p 0,.p 1,.p 2,.p 3] [] (ya 4) (jb (ya 8) (jb (ya 11) (jb (ya 12) yc))) yc) (vw (jb (ya 8) (jb (ya 11) (jb (ya 12) yc)))))) (yI (dC (.bl false))) yN) (yH 5 (dOp uG (yQ (dIt (ya 5)) ug [8,11,12] Ud (ya 0)) (xB (jb (vw (jb (ya 8) (jb (ya 11) (jb (ya 12) yc)))) yc))))) yN)))
def jhi:DS:=(yf (yH 14 (jo YC 2 0 [.p 0,.p 1] [] (jb (ya 1) (jb (ya 5) yc)) yc)) (yf (yO (xQ 10 "show" jfo 3 0 [.p 0,.p 1,.p 2] [] (ya 4) (jb (ya 9) (jb (ya 14) yc)) yc)) (Yq (XM (dOp uG (dOp gIx (ya 6) (ya 9)) (xB (jb (ya 14) yc)))) (ya 6) (ya 9))))
def jhh:DS:=(yf (yH 15 (yQ (dIt (dOp gIx (ya 6) (ya 8))) ug [6,9] (yj (dOp (gIn true) (ya 0) (dOp gIx (ya 1) (ya 2)))) (ya 0))) (yf (sIf (yj (dOp (eqG true) (xQ 10 "pass_on" jfs 3 0 [.p 0,.p 1,.p 2] [] (ya 4) (jb (ya 8) (jb (ya 9) yc)) yc) (dCB (one ua) (jb (ya 15) yc)))) (yI (dC (.bl false))) yN) (Yq (XM (dOp uG (dOp gIx (ya 6) (ya 9)) (ya 15))) (ya 6) (ya 9))))
def jkd:DS:=(yf (yH 16 (dOp gIx (ya 6) (ya 9))) (yf (yH 17 (jo jbT 1 0 [.p 0] [] (jb (ya 16) yc) yc)) (yf (sIf (dOr (yj (dOp (eqG true) (xQ 10 "known" XZ 2 0 [.p 0,.p 1] [] (ya 4) (jb (ya 9) yc) yc) (ya 16))) (yj (dOp (eqG true) (xQ 10 "clashes" Va 2 0 [.p 0,.p 1] [] (ya 4) (jb (ya 9) yc) yc) (ya 17)))) (yI (dC (.bl false))) yN) (yf (sIf (yj (dOp (eqG true) (xQ 10 "convicted" jfu 2 0 [.p 0,.p 1] [] (ya 4) (jb (ya 9) yc) yc) (jcV (yQ (dIt (ya 17)) jgA [] vy (dOp gIx (ya 0) (dC (.int 0))))))) (yI (dC (.bl false))) yN) (yf (sIf (yj (dOp (eqG true) (yQ (dIt (xQ 10 "clashes" Va 2 0 [.p 0,.p 1] [] (ya 4) (jb (ya 9) yc) yc)) ug [] Ue (ya 0)) (xB yc))) (yI (dC (.bl false))) yN) (yO (dMt xF (xQ 10 "known" jft 2 0 [.p 0,.p 1] [] (ya 4) (jb (ya 9) yc) yc) (jb (vw (jb (dC (.int 9)) (jb (dC (.int 9)) (jb (dC (.int 9)) yc)))) yc))))))))
def Js:DS:=(yf (jfM (vw (jb (jo vA 2 0 [.p 0,.p 1] [] (jb (ya 1) (jb (ya 2) yc)) yc) (jb (jo vA 2 0 [.p 0,.p 1] [] (jb (ya 1) (jb (ya 2) yc)) yc) yc))) (gT 2 (yJ (gN 8) (yJ (gN 9) Ji)))) (yf (yH 10 (jo vA 2 0 [.p 0,.p 1] [] (jb (ya 1) (jb (dC (.int 4)) yc)) yc)) (yf (sIf (dOr (yj (dOp (eqG false) (ya 10) (dC (.int 0)))) (yj (dOp (eqG false) (ya 5) (xB yc)))) jfN (sIf (yj (dOp (eqG false) (ya 10) (dC (.int 1)))) jhi jhh)) jkd)))
def jbA:DS:=(yf (yH 1 (jo jfq 1 0 [.p 0] [] (jb (ya 0) yc) yc))
 (yf (yH 2 (dOp uG (dC (.int 1)) (jo vA 2 0 [.p 0,.p 1] [] (jb (ya 1) (jb (dC (.int 6)) yc)) yc)))
 (yf (yH 3 (jo jbS 3 0 [.p 0,.p 1,.p 2] [] (jb (ya 1) (jb (ya 2) (jb (ya 2) yc))) yc))
 (yf (yH 4 (dIf (yj (dOp (eqG true) (ya 3) (xB yc))) (jiZ 10 JG 2 1 [.p 0,.p 1,.k 0] [] (jb (ya 2) yc) (jb (ya 3) yc)) (jiZ 10 JG 2 0 [.p 0,.p 1,.d 0] [.tup []] (jb (ya 2) yc) yc)))
 (yf (yH 5 (xB yc))
 (yf (yH 6 (US (uy (jb (ya 2) yc)) ug [] vy (xB yc)))
 (yf (Ve 200 (uy (jb (dC (.int 36)) yc)) (gN 7) Js)
 (yI (dOp (eqG false) (xQ 10 "known" XZ 2 0 [.p 0,.p 1] [] (ya 4) (jb (dC (.int 0)) yc) yc) (dOp gIx (ya 6) (dC (.int 0))))))))))))
def Tw (M:Sto):Prop:=∃ns c,Town M ns c
theorem jjR (ns:List Int):∃M,jfq [.scr ns] ⟨0,λ_=>none⟩= .ok (.ref 1) M/\Tw M/\M.n=2:=by
 cases ns with
 |nil=>exact⟨_,rfl,⟨[0],0,rfl,rfl,by simp,le_refl _⟩,rfl⟩
 |cons n r=>exact⟨_,rfl,⟨n::r,0,rfl,rfl,by simp,le_refl _⟩,rfl⟩
theorem ut {M:Sto}(T:Tw M){k:Int}(h1:1<=k)(h2:k<1073741824):∃d M',vA [.ref 1,.int k] M= .ok (.int d) M'/\0<=d/\d<k/\Tw M'/\Off M M':=by
 obtain⟨ns,c,T⟩:=T
 have hl:(0:Int)<(ns.length:Int):=by
  have:ns.length≠0:=λz=>T.ne (eq_nil_of_length_eq_zero z)
  omega
 have e0:vA [.ref 1,.int k] M=fin (jiQ [some (.ref 1),some (.int k),none,none,none,none] M):=rfl;rw[e0];have a1:=xy T.tw;have a0:=xy T.row
 obtain⟨M1,kJ⟩:∃M1,M1=M.set 1 (.lst [.ref 0,.int (c+1)]):=⟨_,rfl⟩
 have g0:M1.g 0=some (.lst (ns.map PV.int)):=by rw[kJ,Sto.ab (by decide)];exact T.row
 have g1:M1.g 1=some (.lst [.ref 0,.int (c+1)]):=by rw[kJ,Sto.set_same]
 have gi:∀i,2<=i->i<M.n->M1.g i=M.g i:=λi hi _=>by rw[kJ,Sto.ab (by omega)]
 have n1:M1.n=M.n:=by rw[kJ];rfl
 have p1:jfP M (.ref 1) (.int 1) (.int (c+1))=some M1:=by
  show(match M.g 1 with
   |some (.lst xs)=>(ixN xs.length 1).map λn=>M.set 1 (.lst (xs.set n (.int (c+1))))
   |_=>none)=_
  rw[T.tw,kJ];rfl
 have mj:0<=(c+1)%(ns.length:Int):=Int.emod_nonneg _ (by omega);have mi:(c+1)%(ns.length:Int)<ns.length:=Int.emod_lt_of_pos _ hl
 obtain⟨at_,eat⟩:∃a,a=(c+1)%(ns.length:Int):=⟨_,rfl⟩
 rw[<-eat]at mj mi
 obtain⟨cell,ecell⟩:∃z,ns[at_.toNat]?= some z:=⟨_,getElem?_eq_getElem (by omega)⟩
 have b1:=xy g1;have b0:=xy g0;unfold jiQ;have s1:dOp gIx (ya 0) (dC (.int 0)) [some (.ref 1),some (.int k),none,none,none,none] M= .ok (.ref 0) M:=by
  simp[vg a1];rfl
 have ix0:atI (ns.map PV.int) at_=some (.int cell):=by
  rw[uM mj (by simpa using mi),getElem?_map,ecell];rfl
 simp[s1,vg a1,vg b1,vg b0,vH b0,Yq,p1,uM,vt hl,<-eat,ix0,dMt]
 by_cases hc:1000000000000000000<=cell
 ·rw[if_pos hc,XE (by omega) h2]
  obtain⟨M2,i4⟩:∃M2,M2=M1.set 0 (.lst ((ns.set at_.toNat (cell/k)).map PV.int)):=⟨_,rfl⟩
  have p2:jfP M1 (.ref 0) (.int at_) (.int (cell/k))=some M2:=by
   show(match M1.g 0 with
    |some (.lst xs)=>(ixN xs.length at_).map λn=>M1.set 0 (.lst (xs.set n (.int (cell/k))))
    |_=>none)=_
   rw[g0,i4]
   have:ixN (ns.map PV.int).length at_=some at_.toNat:=by
    unfold ixN;rw[if_pos mj,if_pos (by simpa using mi)]
   simp only[this];rw[List.map_set];rfl
  simp[p2,vt (show 0<k by omega)];refine⟨_,_,⟨rfl,rfl⟩,Int.emod_nonneg _ (by omega),Int.emod_lt_of_pos _ (by omega),⟨ns.set at_.toNat (cell/k),c+1,?_,?_,?_,?_⟩,?_,λi hi hn=>?_⟩
  ·rw[i4,Sto.set_same]
  ·rw[i4,Sto.ab (by decide)];exact g1
  ·intro z
   have:=congrArg List.length z
   rw[length_set]at this;exact T.ne (eq_nil_of_length_eq_zero this)
  ·rw[i4];show 2<=M1.n;rw[n1];exact T.n
  ·rw[i4];exact le_of_eq n1.symm
  ·rw[i4,Sto.ab (by omega)];exact gi i hi hn
 ·rw[if_neg hc]
  obtain⟨x,ex⟩:∃x,x=(cell+104729*(c+1))%4294967291:=⟨_,rfl⟩
  have x0:0<=x:=by rw[ex];exact Int.emod_nonneg _ (by decide)
  have x1:x<4294967291:=by rw[ex];exact Int.emod_lt_of_pos _ (by decide)
  obtain⟨y,ey⟩:∃y,y=x ^ 5%4294967279:=⟨_,rfl⟩
  have y0:0<=y:=by rw[ey];exact Int.emod_nonneg _ (by decide)
  have y1:y<4294967279:=by rw[ey];exact Int.emod_lt_of_pos _ (by decide)
  have ix1:atI [PV.ref 0,PV.int (c+1)] 1=some (.int (c+1)):=rfl;simp[vg b1,ix1,jbk (i:=104729) (j:=c+1) (.inl (by decide)),vt (show(0:Int)<4294967291 by decide),<-ex,jiC (i:=x) (j:=5) (by decide) (by decide) (by omega),vt (show(0:Int)<4294967279 by decide),<-ey,
   XE (show(0:Int)<64 by decide) (by decide),jbk (i:=y/64) (j:=69621) (.inr (by decide)),vt (show(0:Int)<4294967231 by decide),XE (show(0:Int)<8 by decide) (by decide),vt (show 0<k by omega)]
  exact⟨_,_,⟨rfl,rfl⟩,Int.emod_nonneg _ (by omega),Int.emod_lt_of_pos _ (by omega),⟨ns,c+1,g0,g1,T.ne,by rw[n1];exact T.n⟩,le_of_eq n1.symm,gi⟩
theorem jen {M:Sto}(T:Tw M){xs:List PV}(cZ:xs≠[])(hl:xs.length<1073741824):∃x M',YC [.ref 1,.lst xs] M= .ok x M'/\x∈xs/\Tw M'/\Off M M':=by
 have h0:xs.length≠0:=λz=>cZ (eq_nil_of_length_eq_zero z);obtain⟨d,M',e,d0,d1,T',o⟩:=ut T (k:=(xs.length:Int)) (by omega) (by omega);have hd:d.toNat<xs.length:=by omega
 refine⟨xs[d.toNat],M',?_,getElem_mem hd,T',o⟩;have e0:YC [.ref 1,.lst xs] M=fin (jiO [some (.ref 1),some (.lst xs)] M):=rfl;rw[e0];unfold jiO;simp[yk,gen,vH (M:=M) (x:=.lst xs) rfl,e,vg (M:=M') (x:=.lst xs) rfl,uM d0 d1,getElem?_eq_getElem hd]
theorem jih {M:Sto}(T:Tw M){crew most:Int}(h0:0<=crew)(h1:crew<=1000)(hm:0<=most):∃(fs:List Int) (M':Sto),jbS [.ref 1,.int crew,.int most] M= .ok (.lst (fs.map PV.int)) M'/\(fs.length:Int)<=most/\(∀f∈fs,0<=f/\f<crew)/\fs.Pairwise (· < ·)/\Tw M'/\Off M M':=by
 have iE:2<=M.n:=by obtain⟨ns,c,t⟩:=T;exact t.n
 have e0:jbS [.ref 1,.int crew,.int most] M=(fin (jiR [some (.ref 1),some (.int crew),some (.int most),none,none] M)).ar:=rfl;have sz:(0:Nat)<=sizeLine:=zero_le _;have T0:Tw (M.new (.lst [])):=by
  obtain⟨ns,c,t⟩:=T;exact⟨ns,c,by rw[Sto.ae (by omega)];exact t.row,by rw[Sto.ae (by omega)];exact t.tw,t.ne,Nat.le_succ_of_le t.n⟩
 have dr:uy (jb (ya 1) yc) [some (.ref 1),some (.int crew),some (.int most),some (.ref M.n),none] (M.new (.lst []))= .ok (.fix (vd 0 crew.toNat)) (M.new (.lst [])):=by
  have:small crew=true:=vh.mpr (by omega)
  simp[uy,this]
 have lp:=vV (g:=gN 4) (db:=ud)
  (λi ρ M'=>∃(h:Option PV) (fs:List Int),ρ=[some (.ref 1),some (.int crew),some (.int most),some (.ref M.n),h]/\M'.g M.n=some (.lst (fs.map PV.int))/\Tw M'/\M.n<M'.n/\(∀j,2<=j->j<M.n->M'.g j=M.g j)/\(fs.length:Int)<=most/\(∀f∈fs,0<=f/\f<i)/\fs.Pairwise (· < ·)/\fs.length<=i)
  (vd 0 crew.toNat) 0 [some (.ref 1),some (.int crew),some (.int most),some (.ref M.n),none] (M.new (.lst []))
  ⟨none,[],rfl,Sto.af,T0,lt_succ_self _,λj _ hj=>Sto.ae (by omega),by simpa using hm,by simp,.nil,le_refl _⟩ (by
   rintro i x hx ρ M1 ⟨hh,fs,rfl,g1,T1,n1,of1,len1,mem1,lA,li1⟩;rw[Xe]at hx;split at hx
   ·rename_i hi;cases hx;generalize hzi:(0+(i:Int))=z;obtain⟨d,M2,ed,d0,d1,T2,o2⟩:=ut T1 (k:=3) (by decide) (by decide);have g2:M2.g M.n=some (.lst (fs.map PV.int)):=by rw[o2.g M.n iE n1];exact g1
    have of2:∀j,2<=j->j<M.n->M2.g j=M.g j:=λj hj hn=>by rw[o2.g j hj (by omega)];exact of1 j hj hn
    have n2:M.n<M2.n:=lt_of_lt_of_le n1 o2.n;have iq:∀f∈fs,0<=f/\f<((0+i+1:Nat):Int):=λf hf=>by have:=mem1 f hf;omega
    have stay1:∃(h:Option PV) (fs:List Int),[some (.ref 1),some (.int crew),some (.int most),some (.ref M.n),some (PV.int z)]=[some (.ref 1),some (.int crew),some (.int most),some (.ref M.n),h]/\M1.g M.n=some (.lst (fs.map PV.int))/\Tw M1/\M.n<M1.n/\(∀j,2<=j->j<M.n->M1.g j=M.g j)/\(fs.length:Int)<=most/\(∀f∈fs,0<=f/\f<((0+i+1:Nat):Int))/\fs.Pairwise (· < ·)/\fs.length<=0+i+1:=⟨_,fs,rfl,g1,T1,n1,of1,len1,iq,lA,by omega⟩
    have ir:ua M1 (.ref M.n)=some (.int fs.length):=by
     rw[vH (xy g1),length_map]
    by_cases hl:(fs.length:Int)<most
    ·by_cases hd:d=0
     ·subst hd;have eq:eqG false M2 (.int 0) (.int 0)=some (.bl true):=rfl;have hz:fs.length<sizeLine:=by
       exact lt_of_le_of_lt (show fs.length<=1000 by omega) (by decide)
      have ap:xF M2 (.ref M.n) [.int z]=some (.non,M2.set M.n (.lst ((fs++[z]).map PV.int))):=by
       unfold xF
       have:jeZ M2 (.ref M.n)=some (M.n,fs.map PV.int):=by
        show(match M2.g M.n with
         |some (.lst xs)=>some (M.n,xs)
         |_=>none)=_
        rw[g2]
       rw[this];simp[hz]
      refine⟨_,[some (.ref 1),some (.int crew),some (.int most),some (.ref M.n),some (PV.int z)],M2.set M.n (.lst ((fs++[z]).map PV.int)),rfl,?_,_,fs++[z],rfl,Sto.set_same,?_,n2,λj hj hn=>?_,by simp;omega,λf hf=>?_,?_,by simp;omega⟩
      ·have sq:yz M2 (.ref M.n)=some (fs.map PV.int):=vj g2;simp[ud,yk,gen,gN,ir,hl,ed,eq,dMt,sq,ap]
      ·obtain⟨ns,c,t⟩:=T2;exact⟨ns,c,by rw[Sto.ab (by omega)];exact t.row,by rw[Sto.ab (by omega)];exact t.tw,t.ne,t.n⟩
      ·rw[Sto.ab (by omega)];exact of2 j hj hn
      ·rcases List.mem_append.mp hf with hf|hf
       ·exact iq f hf
       ·rw[List.mem_singleton.mp hf];omega
      ·refine List.pairwise_append.mpr ⟨lA,List.pairwise_singleton _ _,λa ha b hb=>?_⟩;rw[List.mem_singleton.mp hb]
       have:=mem1 a ha
       omega
     ·have eq:eqG false M2 (.int d) (.int 0)=some (.bl false):=by
       show some (PV.bl (d==0))=_;rw[show(d==0)=false by simpa using hd]
      refine⟨_,[some (.ref 1),some (.int crew),some (.int most),some (.ref M.n),some (PV.int z)],M2,rfl,?_,_,fs,rfl,g2,T2,n2,of2,len1,iq,lA,by omega⟩;simp[ud,yk,gen,gN,ir,hl,ed,eq]
    ·refine⟨_,[some (.ref 1),some (.int crew),some (.int most),some (.ref M.n),some (PV.int z)],M1,rfl,?_,stay1⟩;simp[ud,gN,ir,hl]
   ·cases hx)
 obtain⟨ρ',M',e,hh,fs,rfl,g',T',n',of',len',fP,kR,_⟩:=lp;rw[vn]at fP;refine⟨fs,M'.drop M.n,?_,len',λf hf=>by have:=fP f hf;omega,kR,?_,le_of_lt n',λi hi hn=>?_⟩
 ·rw[e0];unfold jiR;have e1:(XN yc [some (.ref 1),some (.int crew),some (.int most),none,none] M)= .ok (.ref M.n) (M.new (.lst [])):=by simp[sz]
  simp only[jke,Uk,e1,Res.ai,RS.aU,set_cons_succ,set_cons_zero];rw[Xc dr,e];simp[joS,g']
 ·obtain⟨ns,c,t⟩:=T';exact⟨ns,c,by show(if 0=M.n then none else M'.g 0)=_;rw[if_neg (by omega)];exact t.row,by show(if 1=M.n then none else M'.g 1)=_;rw[if_neg (by omega)];exact t.tw,t.ne,t.n⟩
 ·show(if i=M.n then none else M'.g i)=_;rw[if_neg (by omega)];exact of' i hi hn
def jbW:PV->Bool
 |.int _=>true
 |_=>false
def jcL (x:PV)(a b:Int):Bool:=match x with
 |.int i=>decide (a<=i) && decide (i<=b)
 |_=>false
def Kd (M:Sto)(x:PV):Prop:=∃n,Yw M x=some n
theorem jir {M:Sto}{x:PV}{n m:String}(h:Yw M x=some n)(hm:m∈xq):Vh M [x,.ty m]=some (.bl (sub n m),M):=by
 show(match Yw M x with
  |some n=>if m∈xq then some (PV.bl (sub n m),M)else none
  |none=>none)=_
 rw[h];exact if_pos hm
theorem jfz {M:Sto}{x:PV}{n:String}(h:Yw M x=some n):(sub n "int" && !sub n "bool")=jbW x:=by
 cases x with
 |ref i=>
  have h:(match M.g i with
   |some (.lst _)=>some "list"
   |_=>none)=some n:=h
  split at h
  ·cases h;rfl
  ·cases h
 |non=>cases h;rfl
 |bl _=>cases h;rfl
 |int _=>cases h;rfl
 |str _=>cases h;rfl
 |tup _=>cases h;rfl
 |lst _=>cases h;rfl
 |dct _=>cases h;rfl
 |dod _ _=>cases h;rfl
 |_=>cases h
theorem jbe {M:Sto}{x:PV}(h:Kd M x):VU [x] M= .ok (.bl (jbW x)) M:=by
 obtain⟨n,h⟩:=h;have e0:VU [x] M=fin (jiM [some x] M):=rfl;rw[e0,<-jfz h];unfold jiM;simp[uz,jiY,jir h (show "int"∈xq by decide),jir h (show "bool"∈xq by decide)];cases sub n "int" <;> simp
theorem vG {M:Sto}{x:PV}{a b:Int}(h:Kd M x):XY [x,.int a,.int b] M= .ok (.bl (jcL x a b)) M:=by
 have e0:XY [x,.int a,.int b] M=fin (jiP [some x,some (.int a),some (.int b)] M):=rfl;rw[e0];unfold jiP;simp[yk,gen,jbe h,uz,UT];cases x with
 |int i=>
  simp[jbW,jcL]
  by_cases h:a<=i <;> simp[h]
 |_=>rfl
theorem UH {M:Sto}{x:PV}(h:Kd M x):VW [x] M= .ok (.bl (jcL x (-1000000) 1000000)) M:=by
 have e0:VW [x] M=fin (jiN [some x] M):=rfl;rw[e0];unfold jiN;simp[yk,gen,vG h]
theorem Kd.int {M:Sto}(i:Int):Kd M (.int i):=⟨_,rfl⟩
theorem jA {M:Sto}{x:PV}{a b:Int}(h:Kd M x)(ha:small a=true)(hb:small b=true):Vb [x,.int a,.int b] M=if jcL x a b=true then .ok .non M else .bad:=by
 have e0:Vb [x,.int a,.int b] M=fin (jiU [some x,some (.int a),some (.int b)] M):=rfl;rw[e0];unfold jiU;simp[yk,gen,vG h];cases jcL x a b with
 |true=>simp
 |false=>
  rfl
theorem jap {n:Nat}(h:n<=1000):n<sizeLine:=lt_of_le_of_lt h (by decide)
theorem jjY {M:Sto}{c:Nat}{x y:Cell}:(M.set c x).set c y=M.set c y:=by
 unfold Sto.set;congr 1;funext j
 by_cases h:j=c <;> simp[h]
theorem jgY {M:Sto}{c:Nat}{x:Cell}(h:M.g c=some x):M.set c x=M:=by
 cases M with
 |mk n g=>
  show Sto.mk n _=_;congr 1;funext j
  by_cases hj:j=c
  ·subst hj;simp;exact h.symm
  ·simp[hj]
structure Ex (M M':Sto):Prop where
 n:M.n<=M'.n
 g:∀i,i<M.n->M'.g i=M.g i
theorem Ex.trans {A B C:Sto}(h:Ex A B)(k:Ex B C):Ex A C:=⟨le_trans h.n k.n,λi hi=>(k.g i (lt_of_lt_of_le hi h.n)).trans (h.g i hi)⟩
theorem Ex.tw {M M':Sto}(h:Ex M M')(T:Tw M):Tw M':=by
 obtain⟨ns,c,t⟩:=T
 have:=t.n
 exact⟨ns,c,by rw[h.g 0 (by omega)];exact t.row,by rw[h.g 1 (by omega)];exact t.tw,t.ne,le_trans t.n h.n⟩
theorem jcU {M:Sto}{c:Cell}:Ex M (M.new c):=⟨le_succ _,λi hi=>Sto.ae (by omega)⟩
theorem VC:∀ns:List Int,xu (ns.map PV.int)=0
 |[]=>rfl
 |_::ns=>by
  show max 0 (xu (ns.map PV.int))=0;rw[VC ns];rfl
theorem Jm {neg:Bool}{M:Sto}{x y z:PV}(hx:look M x=z)(hy:look M y=z)(p:plain z=true)(d:dep z<=60):eqG neg M x y=some (.bl (!neg)):=by
 unfold eqG;rw[hx,hy,if_pos ⟨p,p,d⟩,Jn p];cases neg <;> rfl
theorem Ys (ns:List Int):plain (.lst (ns.map PV.int))=true:=vR ns
theorem VD (ns:List Int):dep (.lst (ns.map PV.int))<=60:=by
 show xu (ns.map PV.int)+1<=60;rw[VC];decide
theorem Jh {M:Sto}{i k:Nat}{fs:List (Str×PV)}(h:M.g i=some (.ins k fs)):VB M k (.ref i)=some (i,fs):=by
 show(match M.g i with
  |some (.ins c fs)=>if c=k then some (i,fs)else none
  |_=>none)=_
 rw[h];exact if_pos rfl
def hon (n:Nat)(fs:List Int):List Int:=((List.range n).map λk:Nat=>(0+(k:Int))).filter λh=>!decide (h∈fs)
def hv (ws:List Int)(l:List (List Int×Int))(h:Int)(k:Nat):Int:=(getL l [(k:Int),h]).getD (ws.getD k 0)
theorem Yx {M:Sto}{h n:Int}:VT [.int h,.int n] M= .ok (.bl (jcL (.int h) 0 (n-1))) M:=by
 refine jV (ρ:=[some (.int h),some (.int n)]) rfl rfl ?_;unfold jlU;refine jO ?_;simp only[jT,jp,jz,jF,ju,jeR,jY,Res.aa,jbj,jy];exact vG (Kd.int h)
theorem XD {h a b:Int}(h0:a<=h)(h1:h<=b):jcL (.int h) a b=true:=by
 show(decide (a<=h) && decide (h<=b))=true;simp[h0,h1]
theorem jrC (fs:List Int):Yj (fs.map PV.int) (some 1) none=(fs.drop 1).map PV.int:=by
 cases fs with
 |nil=>rfl
 |cons a r=>
  unfold Yj;have e1:HT.sIx ((a::r).map PV.int).length 0 (some 1)=1:=by
   unfold HT.sIx;simp
  have e2:HT.sIx ((a::r).map PV.int).length ((a::r).map PV.int).length none=((a::r).map PV.int).length:=rfl;rw[e1,e2,List.map_drop,List.take_of_length_le];rw[length_drop];exact le_refl _
theorem UG {M:Sto}{fs:List Int}(h:fs.Pairwise (· < ·))(hl:fs.length<=40):jbR [.lst (fs.map PV.int)] M= .ok (.bl true) M:=by
 refine jV (ρ:=[some (.lst (fs.map PV.int))]) rfl rfl ?_;unfold jlX;refine jO ?_;have gs:gSl M (.lst (fs.map PV.int)) (some 1) none=some (.lst ((fs.drop 1).map PV.int)):=by
  show some (PV.lst (Yj (fs.map PV.int) (some 1) none))=_;rw[jrC]
 have q2:yQ (jlg (jb (ya 0) (jb (dSl (ya 0) (dOS (dC (.int 1))) dON) yc))) jgA [] vy (dOp gLt (ya 0) (ya 1)) [some (.lst (fs.map PV.int))] M= .ok (.lst ((fs.zip (fs.drop 1)).map λ_=>.bl true)) M:=by
  refine jK (xs:=(fs.zip (fs.drop 1)).map λp=>PV.tup [.int p.1,.int p.2]) (M1:=M) ?_ (by rw[length_map,List.length_zip];exact jap (by omega)) ?_
  ·have e3:dSl (ya 0) (dOS (dC (.int 1))) dON [some (.lst (fs.map PV.int))] M= .ok (.lst ((fs.drop 1).map PV.int)) M:=by
    show ofO (gSl M (.lst (fs.map PV.int)) (some 1) none) M=_;rw[gs];rfl
   unfold jlg;simp only[jp,jz,e3,ju,Res.aa];congr 2;unfold jai;rw[List.zipWith_map];unfold List.zip;rw[List.map_zipWith]
  ·refine jW (λp:Int×Int=>PV.tup [.int p.1,.int p.2]) (λ_=>.bl true) _ λp hp=>⟨[some (.int p.1),some (.int p.2)],rfl,rfl,?_⟩
   have lt:p.1<p.2:=by
    obtain⟨k,hk⟩:=List.getElem?_of_mem hp;rw[getElem?_zip_eq_some]at hk;obtain⟨k1,k2⟩:=hk;rw[getElem?_drop]at k2;obtain⟨l1,e1⟩:=List.getElem?_eq_some_iff.mp k1;obtain⟨l2,e2⟩:=List.getElem?_eq_some_iff.mp k2;rw[<-e1,<-e2];exact List.pairwise_iff_getElem.mp h k (1+k) l1 l2 (by omega)
   have gl:gLt M (.int p.1) (.int p.2)=some (.bl true):=by
    show some (PV.bl (decide (p.1<p.2)))=_;rw[decide_eq_true lt]
   simp only[jY,jz,jF,Res.aa,gl,jy]
 have q3:Vi M (.lst ((fs.zip (fs.drop 1)).map λ_=>PV.bl true))=some (.bl true):=by
  have e1:((fs.zip (fs.drop 1)).map λ_=>PV.bl true)=((fs.zip (fs.drop 1)).map λ_=>true).map PV.bl:=by rw[map_map];rfl
  unfold Vi jje;rw[e1];simp only[jaw,bind_some,uK]
  have:((fs.zip (fs.drop 1)).map λ_=>true).all id=true:=by simp
  rw[this]
 simp only[jcY,jp,q2,ju,Res.aa,one,q3,map_some]
theorem YV {M:Sto}{fs:List Int}{n s:Int}(h:fs.Pairwise (· < ·))(hb:∀f∈fs,0<=f/\f<n)(hl:(fs.length:Int)<=s)(s5:s<=40):Vc [.lst (fs.map PV.int),.int n,.int s] M= .ok .non M:=by
 show fin (jbz [some (.lst (fs.map PV.int)),some (.int n),some (.int s)] M)=_;unfold jbz;have q1:Vh M [.lst (fs.map PV.int),.tup [.ty "list",.ty "tuple"]]=some (.bl true,M):=rfl;have bM:ua M (.lst (fs.map PV.int))=some (.int fs.length):=by rw[vH (x:=.lst (fs.map PV.int)) rfl,length_map]
 have hg:gGt M (.int fs.length) (.int s)=some (.bl false):=by
  show some (PV.bl (decide (s<(fs.length:Int))))=_;rw[decide_eq_false (by omega)]
 have q2:yQ (jlh (ya 0)) ug [1] vy YS [some (.lst (fs.map PV.int)),some (.int n),some (.int s)] M= .ok (.lst (fs.map λ_=>.bl true)) M:=by
  refine jK (xs:=fs.map PV.int) (M1:=M) rfl (by rw[length_map];exact jap (by omega)) ?_;refine jW PV.int (λ_=>.bl true) _ λf hf=>⟨[some (.int f),some (.int n)],rfl,rfl,?_⟩
  obtain⟨f0,f1⟩:=hb f hf;unfold YS;simp only[jT,jp,jz,jF,ju,Res.aa];rw[show VT (yk 2 0 [Sl.p 0,Sl.p 1] [] [PV.int f,PV.int n] []) M=_ from Yx,XD f0 (by omega)]
 have q3:Vi M (.lst (fs.map λ_=>PV.bl true))=some (.bl true):=by
  have e1:(fs.map λ_=>PV.bl true)=(fs.map λ_=>true).map PV.bl:=by rw[map_map];rfl
  unfold Vi jje;rw[e1];simp only[jaw,bind_some,uK]
  have:(fs.map λ_=>true).all id=true:=by simp
  rw[this]
 have s2:(2:Nat)<=sizeLine:=by decide
 simp[yk,gen,q1,bM,hg,q2,q3,jfE,UG h (by omega),s2]
theorem jM {M M1 M2:Sto}{i c a b:Nat}{fl:List (Str×PV)}{nm:Str}{D:tD0}{sl:List Sl}{dP xs zs:List PV}{do_:DE}{da dk:DA}{ρ:En}(ho:do_ ρ M= .ok (.ref i) M)(hi:M.g i=some (.ins c fl))(hn:fl.lookup nm=none)(ha:da ρ M= .ok xs M1)(hk:dk ρ M1= .ok zs M2) :
  xQ c nm D a b sl dP do_ da dk ρ M=D (yk a b sl dP (.ref i::xs) zs) M2:=by
 unfold xQ;rw[ho];simp only[Res.aa,Jh hi,hn,if_true];rw[ha];simp only[Res.aa];rw[hk];simp only[Res.aa]
theorem jP {M:Sto}{i c:Nat}{fl:List (Str×PV)}{x:Str}{v:PV}{d:DE}{ρ:En}(ho:d ρ M= .ok (.ref i) M)(hi:M.g i=some (.ins c fl))(hx:fl.lookup x=some v):uv c x d ρ M= .ok v M:=by
 unfold uv;rw[ho];simp only[Res.aa,Jh hi,hx,jy]
theorem jcx {M Ma:Sto}{i k:Nat}{iR:List (Str×PV)}{f:Str}{v:PV}{d do_:DE}{c:DS}{ρ:En}{r:RS}(hd:d ρ M= .ok v Ma)(ho:do_ ρ Ma= .ok (.ref i) Ma)(hg:Ma.g i=some (.ins k iR))(hl:iR.length<1000)(hc:c ρ (Ma.set i (.ins k (Vf f v iR)))=r):yf (uW k f d do_) c ρ M=r:=by
 unfold yf uW;rw[hd];simp only[Res.ai];rw[ho];simp only[Res.ai,Jh hg,hl,if_true];exact hc
theorem jkH {M Ma:Sto}{i k:Nat}{iR:List (Str×PV)}{f:Str}{v:PV}{d do_:DE}{ρ:En}(hd:d ρ M= .ok v Ma)(ho:do_ ρ Ma= .ok (.ref i) Ma)(hg:Ma.g i=some (.ins k iR))(hl:iR.length<1000):uW k f d do_ ρ M= .nx ρ (Ma.set i (.ins k (Vf f v iR))):=by
 unfold uW;rw[hd];simp only[Res.ai];rw[ho];simp only[Res.ai,Jh hg,hl,if_true]
theorem UB {M:Sto}{c d:Cell}:(M.new c).set M.n d=M.new d:=by
 unfold Sto.new Sto.set;congr 1;funext j
 by_cases h:j=M.n
 ·rw[if_pos h,if_pos h]
 ·rw[if_neg h,if_neg h];exact if_neg h
structure Ck where
 f:Int
 r:Int
 t:Int
def Ck.at (q:Ck)(b:Int):Int:=q.f+b*(1000+q.r)/1000+q.t
def Ck.to (q:Ck)(x b:Int):Ck:=⟨q.f,q.r,q.t+(x-q.at b)⟩
theorem yr {d:DE}{ρ:En}{M M1:Sto}{b:Bool}(h:d ρ M= .ok (.bl b) M1):yj d ρ M= .ok b M1:=by
 rw[jiW,h];rfl
theorem jer {t1 t2:DT}{ρ:En}{M M1 M2:Sto}(h1:t1 ρ M= .ok false M1)(h2:t2 ρ M1= .ok false M2):dOr t1 t2 ρ M= .ok false M2:=by
 unfold dOr;rw[h1];exact h2
theorem yn {g:G2}{da db:DE}{ρ:En}{M M1 M2:Sto}{x y z:PV}(h1:da ρ M= .ok x M1)(h2:db ρ M1= .ok y M2)(h3:g M2 x y=some z):dOp g da db ρ M= .ok z M2:=by
 rw[jY,h1];simp only[Res.aa];rw[h2];simp only[Res.aa];rw[h3];rfl
theorem jqd {t:DT}{A B c:DS}{ρ ρ':En}{M M1 M2:Sto}{bb:Bool}{r:RS}(h:t ρ M= .ok bb M1)(hb:(if bb=true then A else B) ρ M1= .nx ρ' M2)(k:c ρ' M2=r):yf (sIf t A B) c ρ M=r:=by
 unfold yf sIf;rw[h];have e:(Res.ok bb M1).st ρ (λb M1=>if b=true then A ρ M1 else B ρ M1)= .nx ρ' M2:=by
  rw[<-hb];cases bb <;> rfl
 rw[e];exact k
theorem joT {xs:List PV}{n:Int}(h0:0<=n)(h1:n<=xs.length):Yj xs (some n) none=xs.drop n.toNat:=by
 unfold Yj;have e1:HT.sIx xs.length xs.length none=xs.length:=rfl;have e2:HT.sIx xs.length 0 (some n)=n.toNat:=by
  simp only[HT.sIx];rw[if_neg (by omega)];omega
 rw[e1,e2,List.take_of_length_le (by simp)]
theorem jhg {t:DT}{A B:DS}{ρ:En}{M M1:Sto}{r:RS}(h:t ρ M= .ok true M1)(k:A ρ M1=r):sIf t A B ρ M=r:=by
 unfold sIf;rw[h];exact k
theorem jef {t:DT}{A B:DS}{ρ:En}{M M1:Sto}{r:RS}(h:t ρ M= .ok false M1)(k:B ρ M1=r):sIf t A B ρ M=r:=by
 unfold sIf;rw[h];exact k
theorem yA {d:DE}{ρ:En}{M M1:Sto}{x:PV}(h:d ρ M= .ok x M1):jb d yc ρ M= .ok [x] M1:=by
 rw[jp,h];rfl
abbrev Row:=Int×Int×Int
def rk (a:Row):Int×Int:=(a.1,a.2.1)
def prs {α:Type}:List α->List (α×α)
 |[]=>[]
 |a::l=>l.map (λb=>(a,b))++prs l
def cls:List Row->List (Row×Row)
 |[]=>[]
 |a::l=>(l.filter λb=>decide (rk a=rk b)).map (λb=>(a,b))++cls l
structure Bl (B:List (List Row)):Prop where
 ne:∀b∈B,b≠[]
 same:∀b∈B,∀x∈b,∀y∈b,rk x=rk y
 off:B.Pairwise λb c=>∀x∈b,∀y∈c,rk x≠rk y
theorem Um {x y:Row}(h:Sr3.lexB3 y x=false):x.1<y.1\/(x.1=y.1/\(x.2.1<y.2.1\/(x.2.1=y.2.1/\x.2.2<=y.2.2))):=by
 have:¬ Sr3.lexB3 y x=true:=by rw[h];simp
 rw[Sr3.lex_iff3]at this;omega
theorem Vq {x y:Row}:rk x=rk y↔x.1=y.1/\x.2.1=y.2.1:=by
 unfold rk;rw[Prod.mk.injEq]
theorem jjf:∀(R:List Row),Vl R->∃B,Bl B/\B.flatten=R
 |[],_=>⟨[],⟨λb hb=>(by cases hb),λb hb=>(by cases hb),.nil⟩,rfl⟩
 |a::R,h=>by
  obtain⟨h1,h2⟩:=List.pairwise_cons.mp h;obtain⟨B,hB,e⟩:=jjf R h2
  cases B with
  |nil=>
   have e:[]=R:=e;subst e
   exact⟨[[a]],⟨λb hb=>by cases List.mem_singleton.mp hb;simp,λb hb x hx y hy=>by
    cases List.mem_singleton.mp hb;cases List.mem_singleton.mp hx;cases List.mem_singleton.mp hy;rfl,List.pairwise_singleton _ _⟩,rfl⟩
  |cons b B=>
   obtain⟨o1,o2⟩:=List.pairwise_cons.mp hB.off
   cases b with
   |nil=>exact absurd rfl (hB.ne [] mem_cons_self)
   |cons y b=>
    have hy:y∈R:=by rw[<-e];simp
    by_cases hk:rk a=rk y
    ·refine⟨(a::y::b)::B,⟨λc hc=>?_,λc hc=>?_,List.pairwise_cons.mpr ⟨λc hc x hx z hz=>?_,o2⟩⟩,by rw[<-e];rfl⟩
     ·rcases List.mem_cons.mp hc with rfl|hc
      ·simp
      ·exact hB.ne c (mem_cons_of_mem _ hc)
     ·rcases List.mem_cons.mp hc with rfl|hc
      ·have q:∀x∈a::y::b,rk x=rk y:=λx hx=>by
        rcases List.mem_cons.mp hx with rfl|hx
        ·exact hk
        ·exact hB.same _ mem_cons_self x hx y mem_cons_self
       intro x hx z hz;rw[q x hx,q z hz]
      ·exact hB.same c (mem_cons_of_mem _ hc)
     ·rcases List.mem_cons.mp hx with rfl|hx
      ·rw[hk];exact o1 c hc y mem_cons_self z hz
      ·exact o1 c hc x hx z hz
    ·refine⟨[a]::(y::b)::B,⟨λc hc=>?_,λc hc=>?_,List.pairwise_cons.mpr ⟨λc hc x hx z hz=>?_,hB.off⟩⟩,by rw[<-e];rfl⟩
     ·rcases List.mem_cons.mp hc with rfl|hc
      ·simp
      ·exact hB.ne c hc
     ·rcases List.mem_cons.mp hc with rfl|hc
      ·intro x hx z hz;cases List.mem_singleton.mp hx;cases List.mem_singleton.mp hz;rfl
      ·exact hB.same c hc
     ·cases List.mem_singleton.mp hx;intro lI;have hzR:z∈R:=by rw[<-e];exact List.mem_flatten.mpr ⟨c,hc,hz⟩
      have l1:=Um (h1 y hy);have l2:y=z\/Sr3.lexB3 z y=false:=by
       have e:y::(b++B.flatten)=R:=e;rw[<-e]at hzR h2;rcases List.mem_cons.mp hzR with r|r
       ·exact .inl r.symm
       ·exact .inr ((List.pairwise_cons.mp h2).1 z r)
      rcases l2 with l2|l2
      ·subst l2;exact hk lI
      ·have l2:=Um l2;apply hk;rw[Vq]at lI ⊢;omega
theorem jeW:∀{b c:List Row},(∀x∈b,∀y∈c,rk x≠rk y)->cls (b++c)=cls b++cls c
 |[],_,_=>rfl
 |a::b,c,h=>by
  show((b++c).filter λy=>decide (rk a=rk y)).map (λy=>(a,y))++cls (b++c)=_;rw[jeW λx hx=>h x (mem_cons_of_mem _ hx),filter_append,show c.filter (λy=>decide (rk a=rk y))=[]from List.filter_eq_nil_iff.mpr λy hy=>by simpa using h a mem_cons_self y hy,append_nil,<-append_assoc];rfl
theorem jbF:∀{b:List Row},(∀x∈b,∀y∈b,rk x=rk y)->cls b=prs b
 |[],_=>rfl
 |a::b,h=>by
  show(b.filter λy=>decide (rk a=rk y)).map (λy=>(a,y))++cls b=_;rw[jbF λx hx y hy=>h x (mem_cons_of_mem _ hx) y (mem_cons_of_mem _ hy),List.filter_eq_self.mpr λy hy=>by simpa using h a mem_cons_self y (mem_cons_of_mem _ hy)];rfl
theorem XR:∀{B:List (List Row)},Bl B->cls B.flatten=(B.map prs).flatten
 |[],_=>rfl
 |b::B,h=>by
  obtain⟨o1,o2⟩:=List.pairwise_cons.mp h.off
  rw[flatten_cons,jeW λx hx y hy=>by
   obtain⟨c,hc,hy⟩:=List.mem_flatten.mp hy
   exact o1 c hc x hx y hy,jbF (h.same b mem_cons_self),XR ⟨λc hc=>h.ne c (mem_cons_of_mem _ hc),λc hc=>h.same c (mem_cons_of_mem _ hc),o2⟩]
  rfl
theorem UV:∀{R:List Row}{p:Row×Row},p∈cls R->p.1∈R/\p.2∈R/\rk p.1=rk p.2/\(R.Nodup->p.1≠p.2)
 |a::R,p,h=>by
  rcases List.mem_append.mp h with h|h
  ·obtain⟨b,hb,rfl⟩:=List.mem_map.mp h;obtain⟨hb,hk⟩:=List.mem_filter.mp hb
   exact⟨mem_cons_self,mem_cons_of_mem _ hb,of_decide_eq_true hk,λnd z=>by
    have z:a=b:=z;subst z
    exact(List.nodup_cons.mp nd).1 hb⟩
  ·obtain⟨h1,h2,h3,h4⟩:=UV (R:=R) h;exact⟨mem_cons_of_mem _ h1,mem_cons_of_mem _ h2,h3,λnd=>h4 (List.nodup_cons.mp nd).2⟩
theorem UW:∀(R:List Row),(cls R).length<=R.length*R.length
 |[]=>le_refl _
 |a::R=>by
  have e:cls (a::R)=(R.filter λy=>decide (rk a=rk y)).map (λy=>(a,y))++cls R:=rfl
  have:=UW R
  have h2:=length_filter_le (λy=>decide (rk a=rk y)) R;rw[e,length_append,length_map,length_cons]
  have:(R.length+1)*(R.length+1)=R.length*R.length+R.length+R.length+1:=by
   rw[Nat.add_mul,Nat.mul_add];omega
  omega
theorem jem {α:Type}:∀(R:List α),(prs R).length<=R.length*R.length
 |[]=>le_refl _
 |a::R=>by
  have e:prs (a::R)=R.map (λy=>(a,y))++prs R:=rfl
  have:=jem R
  rw[e,length_append,length_map,length_cons]
  have:(R.length+1)*(R.length+1)=R.length*R.length+R.length+R.length+1:=by
   rw[Nat.add_mul,Nat.mul_add];omega
  omega
theorem jhF {α β:Type}(d:α)(f:α×α->β):∀(R:List α),(prs R).map f=((List.range R.length).map λk=>(R.drop (k+1)).map λb=>f (R.getD k d,b)).flatten
 |[]=>rfl
 |a::R=>by
  rw[length_cons,List.range_succ_eq_map,map_cons,flatten_cons,map_map];show(R.map (λy=>(a,y))++prs R).map f=_;rw[map_append,map_map,jhF d f R];rfl
theorem szB {n:Nat}(h:n<=100000):n<sizeLine:=lt_of_le_of_lt h (by decide)
theorem UN {n N:Nat}{cg:List PV}{ρ ρ':En}{dd:DS}{M M1:Sto}(hn:cg.length=n)(hρ:cg.map some++replicate (N-n) none=ρ)(h:dd ρ M= .nx ρ' M1):yu n N dd cg M= .ok .non M1:=by
 unfold yu;rw[if_pos hn,hρ,h];rfl
theorem jcW {g:GM}{do_:DE}{da:DA}{ρ:En}{M M1 M2 M3:Sto}{x z:PV}{ys xs:List PV}(h1:do_ ρ M= .ok x M1)(h2:yz M1 x=some ys)(h3:da ρ M1= .ok xs M2)(h4:g M2 x xs=some (z,M3)):dMt g do_ da ρ M= .ok z M3:=by
 unfold dMt;rw[h1];simp only[Res.aa];rw[h2];simp only[];rw[h3];simp only[Res.aa];rw[h4]
theorem jdl {M:Sto}{j:Nat}{xs:List PV}{y:PV}(h:M.g j=some (.lst xs))(hl:xs.length<sizeLine):xF M (.ref j) [y]=some (.non,M.set j (.lst (xs++[y]))):=by
 unfold xF
 have:jeZ M (.ref j)=some (j,xs):=by
  show(match M.g j with
   |some (.lst xs)=>some (j,xs)
   |_=>none)=_
  rw[h]
 rw[this];exact if_pos hl
theorem Xr {f:Sto->PV->Option PV}{d:DE}{ρ:En}{M M1:Sto}{x z:PV}(h1:d ρ M= .ok x M1)(h2:f M1 x=some z):dCB (one f) (jb d yc) ρ M= .ok z M1:=by
 rw[jcY,jp,h1];simp only[Res.aa,ju,jnE,h2]
theorem Jl {d:DE}{ρ:En}{M M1:Sto}{v:PV}(h:d ρ M= .ok v M1):yO d ρ M= .nx ρ M1:=by
 unfold yO;rw[h];rfl
theorem jha {d1 d2:DS}{ρ ρ':En}{M M1:Sto}{r:RS}(h:d1 ρ M= .nx ρ' M1)(k:d2 ρ' M1=r):yf d1 d2 ρ M=r:=by
 unfold yf;rw[h];exact k
theorem jiB {do_ dz:DE}{dk:DA}{ρ:En}{M:Sto}{j:Nat}{l:List (List Int×PV)}{ks:List PV}{ns:List Int}{z:PV}(h1:do_ ρ M= .ok (.ref j) M)(h2:M.g j=some (.dtv l))(h3:dk ρ M= .ok ks M)(h4:xZ ks=some ns)(h5:ns.length<=sizeLine)(h6:dz ρ M= .ok z M):UR do_ dk dz ρ M= .ok ((xf l ns).getD z) M:=by
 unfold UR;rw[h1];simp only[Res.aa,h2,h3,h4,h5,h6,if_true]
theorem uZ {M:Sto}{j:Nat}{l:List (List Int×PV)}{ks:List PV}{ns:List Int}{x:PV}(h2:M.g j=some (.dtv l))(h4:xZ ks=some ns)(h5:ns.length<=1000)(h6:l.length<=1000):vo M (.ref j) ks x=some (M.set j (.dtv (xD l ns x))):=by
 unfold vo;simp only[h2,h4];rw[if_pos ⟨le_of_lt (szB (by omega)),szB (by omega)⟩]
theorem jfL {d do_:DE}{dk:DA}{ρ:En}{M M4:Sto}{x o:PV}{ks:List PV}(h1:d ρ M= .ok x M)(h2:do_ ρ M= .ok o M)(h3:dk ρ M= .ok ks M)(h4:vo M o ks x=some M4):Ul d do_ dk ρ M= .nx ρ M4:=by
 unfold Ul;rw[h1];simp only[Res.ai];rw[h2];simp only[Res.ai];rw[h3];simp only[Res.ai,h4]
theorem Xb {d do_ dy:DE}{ρ:En}{M M4:Sto}{x o:PV}{ks:List PV}(h1:d ρ M= .ok x M)(h2:do_ ρ M= .ok o M)(h3:dy ρ M= .ok (.tup ks) M)(hk:ks.length=3)(h4:vo M o ks x=some M4):uV d do_ dy ρ M= .nx ρ M4:=by
 unfold uV;rw[h1];simp only[Res.ai];rw[h2];simp only[Res.ai];rw[h3];simp only[Res.ai,jcn,hk,if_true,h4]
theorem jkf {i:Nat}{dk:DA}{d do_:DE}{ρ:En}{M M4:Sto}{x o:PV}{ks:List PV}(h3:dk ρ M= .ok ks M)(hk:ks.length<=1000)(hi:i < ρ.length)(h1:d (ρ.set i (some (.tup ks))) M= .ok x M)(h2:do_ (ρ.set i (some (.tup ks))) M= .ok o M)(h4:vo M o ks x=some M4):jhf i dk d do_ ρ M= .nx (ρ.set i (some (.tup ks))) M4:=by
 unfold jhf;rw[h3];simp only[Res.ai];rw[if_pos ⟨le_of_lt (szB (by omega)),hi⟩,h1];simp only[Res.ai];rw[h2];simp only[Res.ai,h4]
def uT (k:Row):List Int:=[k.1,k.2.1,k.2.2]
def kr (k:Row):List Int×PV:=(uT k,.bl true)
def uw (T:List Row)(k:Row):List Row:=if k∈T then T else T++[k]
theorem jgN {a b:Row}(h:uT a=uT b):a=b:=by
 unfold uT at h;injection h with h1 h
 injection h with h2 h
 injection h with h3 _
 exact Prod.ext h1 (Prod.ext h2 h3)
theorem jjl (T:List Row)(k:Row):((T.map kr).any λp=>decide (p.1=uT k))=decide (k∈T):=by
 rw[Bool.eq_iff_iff,any_eq_true,decide_eq_true_eq];constructor
 ·rintro⟨x,hx,e⟩;obtain⟨y,hy,rfl⟩:=List.mem_map.mp hx;rw[<-jgN (a:=y) (b:=k) (of_decide_eq_true e)];exact hy
 ·intro hm;exact⟨kr k,List.mem_map.mpr ⟨_,hm,rfl⟩,decide_eq_true rfl⟩
theorem jiA (T:List Row)(k:Row):(xf (T.map kr) (uT k)).isSome=decide (k∈T):=by
 rw[<-jjl];unfold xf;rw[isSome_map,Bool.eq_iff_iff,List.find?_isSome,any_eq_true]
theorem jcm (T:List Row)(k:Row):xD (T.map kr) (uT k) (.bl true)=(uw T k).map kr:=by
 unfold xD uw;rw[jjl]
 by_cases h:k∈T
 ·rw[decide_eq_true h,if_pos rfl,if_pos h,map_map];refine map_congr_left λy hy=>?_;show(if uT y=uT k then(uT y,PV.bl true)else kr y)=kr y;split <;> rfl
 ·rw[decide_eq_false h,if_neg (by simp),if_neg h,map_append];rfl
theorem xp {T:List Row}{k x:Row}:x∈uw T k↔x∈T\/x=k:=by
 unfold uw;split
 ·rename_i h;exact⟨.inl,λz=>z.elim id λe=>e ▸ h⟩
 ·rw[mem_append,mem_singleton]
theorem jaf {T:List Row}{k:Row}(h:T.Nodup):(uw T k).Nodup:=by
 unfold uw;split
 ·exact h
 ·rename_i z;exact List.nodup_append.mpr ⟨h,List.nodup_cons.mpr ⟨by simp,nodup_nil⟩,λa ha b hb e=>z (by rw[<-List.mem_singleton.mp hb,<-e];exact ha)⟩
theorem jjp (T:List Row)(k:Row):(uw T k).length<=T.length+1:=by
 unfold uw;split
 ·omega
 ·rw[length_append];exact le_refl _
theorem Ua:∀T:List Row,jbY (T.map kr)=some T
 |[]=>rfl
 |k::T=>by
  show(tri (uT k)).bind (λk=>(jbY (T.map kr)).map λks=>k::ks)=_;rw[Ua T];rfl
def bkF (i n:Nat)(fs:List Int):List (Str×PV):=[("liars",.lst (fs.map PV.int)),("said",.ref (i+1)),("bound",.ref (i+2)),("seen",.lst ((List.range n).map λh=>PV.ref (i+3+h)))]
structure Bk (M:Sto)(i n:Nat)(fs:List Int)(sd:List Row)(bd:List (List Int×PV))(T:Nat->List Row):Prop where
 bk:M.g i=some (.ins 10 (bkF i n fs))
 sa:M.g (i+1)=some (.dtv (sd.map kr))
 bo:M.g (i+2)=some (.dtv bd)
 sn:∀h,h<n->M.g (i+3+h)=some (.dtv ((T h).map kr))
 ln:i+3+n<=M.n
 n16:n<=16
structure FrB (M M':Sto)(i m:Nat):Prop where
 n:M.n<=M'.n
 g:∀j,j<M.n->(j<i\/m<=j)->M'.g j=M.g j
theorem FrB.trans {A B C:Sto}{i m:Nat}(h:FrB A B i m)(k:FrB B C i m):FrB A C i m:=⟨le_trans h.n k.n,λj a b=>(k.g j (lt_of_lt_of_le a h.n) b).trans (h.g j a b)⟩
theorem Ex.fr {A B:Sto}(h:Ex A B)(i m:Nat):FrB A B i m:=⟨h.n,λj a _=>h.g j a⟩
section
variable {M M':Sto}{i n:Nat}{fs:List Int}{sd:List Row}{bd:List (List Int×PV)}{T:Nat->List Row}
theorem Bk.off (B:Bk M i n fs sd bd T)(hn:M.n<=M'.n)(hg:∀j,i<=j->j<i+3+n->M'.g j=M.g j):Bk M' i n fs sd bd T:=by
 have:=B.ln
 exact⟨by rw[hg _ (by omega) (by omega)];exact B.bk,by rw[hg _ (by omega) (by omega)];exact B.sa,by rw[hg _ (by omega) (by omega)];exact B.bo,λh hh=>by rw[hg _ (by omega) (by omega)];exact B.sn h hh,le_trans B.ln hn,B.n16⟩
theorem Bk.ex (B:Bk M i n fs sd bd T)(h:Ex M M'):Bk M' i n fs sd bd T:=by
 have:=B.ln
 exact B.off h.n λj _ hj=>h.g j (by omega)
theorem Bk.fld {x:Str}{v:PV}{d:DE}{ρ:En}(B:Bk M i n fs sd bd T)(ho:d ρ M= .ok (.ref i) M)(hx:(bkF i n fs).lookup x=some v):uv 10 x d ρ M= .ok v M:=jP ho B.bk hx
theorem Bk.aE {M1 M2:Sto}{a b:Nat}{nm:Str}{D:tD0}{sl:List Sl}{dP xs zs:List PV}{do_:DE}{da dk:DA}{ρ:En}(B:Bk M i n fs sd bd T)(ho:do_ ρ M= .ok (.ref i) M)(hn:(bkF i n fs).lookup nm=none)(ha:da ρ M= .ok xs M1)(hk:dk ρ M1= .ok zs M2):xQ 10 nm D a b sl dP do_ da dk ρ M=D (yk a b sl dP (.ref i::xs) zs) M2:=jM ho B.bk hn ha hk
theorem VL (B:Bk M i n fs sd bd T){h:Int}(h0:0<=h)(h1:h<n):JH [.ref i,.int h] M= .ok .non M:=by
 have c1:jfr [.int h,.int n] M= .ok .non M:=by
  show fin (jiS [some (.int h),some (.int n)] M)=_;unfold jiS;have q:=Yx (M:=M) (h:=h) (n:=n);rw[XD h0 (by omega)]at q;simp[yk,gen,q]
 have ln:ua M (.lst ((List.range n).map λh=>PV.ref (i+3+h)))=some (.int n):=by rw[vH (x:=.lst _) rfl,length_map,length_range]
 refine UN (ρ:=[some (.ref i),some (.int h)]) (ρ':=[some (.ref i),some (.int h)]) rfl rfl ?_;unfold jmc;refine Jl (v:=.non) ?_;rw[jT,jp,jF,jz];simp only[Res.aa];rw[jp,Xr (B.fld (d:=ya 0) (ρ:=[some (.ref i),some (.int h)]) rfl rfl) ln];simp only[Res.aa,ju];exact c1
theorem uU (B:Bk M i n fs sd bd T){h:Int}(h0:0<=h)(h1:h<n){d0 d1:DE}{ρ:En}(e0:d0 ρ M= .ok (.ref i) M)(e1:d1 ρ M= .ok (.int h) M):dOp gIx (uv 10 "seen" d0) d1 ρ M= .ok (.ref (i+3+h.toNat)) M:=by
 refine yn (B.fld e0 rfl) e1 ?_;rw[vg (x:=.lst _) rfl,uM h0 (by rw[length_map,length_range];omega),getElem?_map,getElem?_range (by omega)];rfl
theorem joY (B:Bk M i n fs sd bd T){h p x:Int}(hb:(xf bd [h,p]).getD (.int x)= .int x)(hl:bd.length<=1000):jfp [.ref i,.int h,.int p,.int x] M= .ok .non (M.set (i+2) (.dtv (xD bd [h,p] (.int x)))):=by
 refine UN (ρ:=[some (.ref i),some (.int h),some (.int p),some (.int x)]) (ρ':=[some (.ref i),some (.int h),some (.int p),some (.int x)]) rfl rfl ?_;unfold jlW;refine Jd (M1:=M) ?_ ?_
 ·refine yr (yn (x:=.int x) (y:=.int x) (M1:=M) ?_ rfl ?_)
  ·rw[jiB (B.fld (d:=ya 0) (ρ:=[some (.ref i),some (.int h),some (.int p),some (.int x)]) rfl rfl) B.bo (ks:=[.int h,.int p]) rfl rfl (le_of_lt (szB (show 2<=100000 by decide))) (z:=.int x) rfl,hb]
  ·show some (PV.bl (!(x==x)))=_;rw[beq_self_eq_true];rfl
 ·exact jfL (x:=.int x) (ks:=[.int h,.int p]) rfl (B.fld (d:=ya 0) rfl rfl) rfl (uZ B.bo rfl (show 2<=1000 by decide) hl)
def bdS (fs:List Int)(bd:List (List Int×PV))(h p x:Int):List (List Int×PV):=if h∈fs then bd else xD bd [h,p] (.int x)
theorem jpD (B:Bk M i n fs sd bd T){h p x:Int}(h0:0<=h)(h1:h<n)(p0:0<=p)(p1:p<=99)(x0:-1000000<=x)(x1:x<=1000000)(hb:h∉fs->(xf bd [h,p]).getD (.int x)= .int x)(hl:bd.length<=1000)(hs:sd.length<=1000) :
  ∃M',jbQ [.ref i,.int h,.int p,.int x] M= .ok (yb (h,p,x)) M'/\Bk M' i n fs (uw sd (h,p,x)) (bdS fs bd h p x) T/\FrB M M' i (i+3+n):=by
 obtain⟨M1,gP⟩:∃M1,M1=if h∈fs then M else M.set (i+2) (.dtv (xD bd [h,p] (.int x))):=⟨_,rfl⟩
 have g1:∀j,j≠i+2->M1.g j=M.g j:=λj hj=>by
  rw[gP];split
  ·rfl
  ·exact Sto.ab hj
 have n1:M1.n=M.n:=by
  rw[gP];split <;> rfl
 have b1:M1.g (i+2)=some (.dtv (bdS fs bd h p x)):=by
  rw[gP];unfold bdS;split
  ·exact B.bo
  ·exact Sto.set_same
 have i1:M1.g i=some (.ins 10 (bkF i n fs)):=by rw[g1 _ (by omega)];exact B.bk
 have s1:M1.g (i+1)=some (.dtv (sd.map kr)):=by rw[g1 _ (by omega)];exact B.sa
 refine⟨M1.set (i+1) (.dtv ((uw sd (h,p,x)).map kr)),?_,⟨by rw[Sto.ab (by omega)];exact i1,Sto.set_same,by rw[Sto.ab (by omega)];exact b1,λj hj=>by rw[Sto.ab (by omega),g1 _ (by omega)];exact B.sn j hj,by show _<=M1.n;rw[n1];exact B.ln,B.n16⟩,⟨by show _<=M1.n;omega,λj _ hj=>by rw[Sto.ab (by omega),g1 _ (by omega)]⟩⟩;refine jV (ρ:=[some (.ref i),some (.int h),some (.int p),some (.int x),none]) rfl rfl ?_;unfold jlT;refine xl (v:=.non) (M1:=M) ?_ ?_
 ·rw[B.aE (xs:=[.int h]) (zs:=[]) (M1:=M) (M2:=M) rfl rfl rfl rfl];exact VL B h0 h1
 refine xl (v:=.non) (M1:=M) ?_ ?_
 ·simp only[jT,jp,jz,jF,jeR,ju,Res.aa];show Vb [.int p,.int 0,.int 99] M=_;rw[jA (Kd.int p) (by decide) (by decide),XD p0 p1];rfl
 refine Jd (M1:=M) ?_ ?_
 ·have q:VW [.int x] M= .ok (.bl true) M:=by rw[UH (Kd.int x),XD x0 x1]
  simp[yk,gen,q]
 refine jqd (bb:=!decide (h∈fs)) (M1:=M) (M2:=M1) (ρ':=[some (.ref i),some (.int h),some (.int p),some (.int x),none]) ?_ ?_ ?_
 ·exact yr (yn (x:=.int h) (y:=.lst (fs.map PV.int)) (M1:=M) rfl (B.fld (d:=ya 0) rfl rfl) (jbm (neg:=true) (M:=M) (x:=.lst (fs.map PV.int)) (k:=h) (ns:=fs) rfl))
 ·by_cases hf:h∈fs
  ·rw[decide_eq_true hf,gP,if_pos hf];rfl
  ·rw[decide_eq_false hf,gP,if_neg hf];refine Jl (v:=.non) ?_;rw[B.aE (xs:=[.int h,.int p,.int x]) (zs:=[]) (M1:=M) (M2:=M) rfl rfl rfl rfl];exact joY B (hb hf) hl
 refine jha (jkf (ks:=[.int h,.int p,.int x]) (x:=.bl true) (o:=.ref (i+1)) rfl (show 3<=1000 by decide) (show 4<5 by decide) rfl (jP (d:=ya 0) (i:=i) rfl i1 rfl) (uZ s1 rfl (show 3<=1000 by decide) (by rw[length_map];exact hs))) ?_;rw[show xD (sd.map kr) [h,p,x] (.bl true)=(uw sd (h,p,x)).map kr from jcm sd (h,p,x)];exact jO rfl
theorem JL {M:Sto}{k:Row}:VV [yb k] M= .ok (.bl true) M:=rfl
def upT (T:Nat->List Row)(h:Nat)(r:List Row):Nat->List Row:=λj=>if j=h then r else T j
theorem uR {T:Nat->List Row}{h:Nat}{r:List Row}:upT T h r h=r:=if_pos rfl
theorem VY {T:Nat->List Row}{h j:Nat}{r:List Row}(e:j≠h):upT T h r j=T j:=if_neg e
theorem Bk.up (B:Bk M i n fs sd bd T){h:Nat}(hh:h<n)(r:List Row):Bk (M.set (i+3+h) (.dtv (r.map kr))) i n fs sd bd (upT T h r):=
 ⟨by rw[Sto.ab (by omega)];exact B.bk,by rw[Sto.ab (by omega)];exact B.sa,by rw[Sto.ab (by omega)];exact B.bo,λj hj=>by
  by_cases e:j=h
  ·subst e;rw[uR];exact Sto.set_same
  ·rw[VY e,Sto.ab (by omega)];exact B.sn j hj,B.ln,B.n16⟩
theorem jmx (B:Bk M i n fs sd bd T){h:Int}(h0:0<=h)(h1:h<n){k:Row}(hk:k∈sd)(hl:(T h.toNat).length<=1000):jfo [.ref i,.int h,yb k] M= .ok .non (M.set (i+3+h.toNat) (.dtv ((uw (T h.toNat) k).map kr))):=by
 refine UN (ρ:=[some (.ref i),some (.int h),some (yb k),none]) (ρ':=[some (.ref i),some (.int h),some (yb k),some (.ref (i+3+h.toNat))]) rfl rfl ?_;unfold jlV;refine xl (v:=.non) (M1:=M) ?_ ?_
 ·rw[B.aE (xs:=[.int h]) (zs:=[]) (M1:=M) (M2:=M) rfl rfl rfl rfl];exact VL B h0 h1
 refine Jd (M1:=M) ?_ ?_
 ·refine jer (M1:=M) ?_ ?_
  ·simp[yk,gen,JL]
  ·refine yr ?_;unfold UQ;simp only[jz,jF,Res.aa];rw[B.fld (x:="said") (v:=.ref (i+1)) (d:=ya 0) (ρ:=[some (.ref i),some (.int h),some (yb k),none]) rfl rfl];simp only[Res.aa]
   have:jiu true M (yb k) (.ref (i+1))=some (.bl false):=by
    show jkT true M [.int k.1,.int k.2.1,.int k.2.2] (.ref (i+1))=_;unfold jkT;simp only[B.sa];show(if(3:Nat)<=sizeLine then some (PV.bl (if true=true then !(xf (sd.map kr) (uT k)).isSome else(xf (sd.map kr) (uT k)).isSome))else none)=_;rw[if_pos (by decide),jiA,decide_eq_true hk];rfl
   rw[this]
 refine jR (v:=.ref (i+3+h.toNat)) (M1:=M) (uU B h0 h1 rfl rfl) ?_;rw[<-jcm];exact Xb (x:=.bl true) (o:=.ref (i+3+h.toNat)) (ks:=[.int k.1,.int k.2.1,.int k.2.2]) rfl rfl rfl rfl (uZ (B.sn h.toNat (by omega)) rfl (show 3<=1000 by decide) (by rw[length_map];exact hl))
def uF (A C:List Row):List Row:=A.filter λk=>decide (k∉C)
theorem jon (A C:List Row):jey ((A.map kr).filter (uH (C.map kr)))=(uF A C).map yb:=by
 unfold uF jey;rw[List.filter_map,map_map];congr 1;refine List.filter_congr λk _=>?_;show(!(xf (C.map kr) (uT k)).isSome)=_;rw[jiA];simp
theorem jnv (B:Bk M i n fs sd bd T){h o:Int}(h0:0<=h)(h1:h<n)(o0:0<=o)(o1:o<n)(nd:(T h.toNat).Nodup)(hl:(T h.toNat).length<=400)(km:(T o.toNat).length<=400) :
  jfs [.ref i,.int h,.int o] M= .ok (.int (uF (T h.toNat) (T o.toNat)).length) (M.set (i+3+o.toNat) (.dtv ((T o.toNat++uF (T h.toNat) (T o.toNat)).map kr))):=by
 obtain⟨N,hN⟩:∃N,N=uF (T h.toNat) (T o.toNat):=⟨_,rfl⟩
 obtain⟨C,hC⟩:∃C,C=T o.toNat:=⟨_,rfl⟩
 have hNl:N.length<=400:=by rw[hN];exact le_trans (length_filter_le _ _) hl
 have Nnd:N.Nodup:=by rw[hN];exact nd.filter _
 have hNC:∀k∈N,k∉C:=λk hk=>by
  rw[hN]at hk;rw[hC];exact of_decide_eq_true (List.mem_filter.mp hk).2
 have gC:M.g (i+3+o.toNat)=some (.dtv (C.map kr)):=by rw[hC];exact B.sn _ (by omega)
 rw[<-hN,<-hC];have main:yu 3 6 jeN [.ref i,.int h,.int o] M= .ok (.int N.length) (M.set (i+3+o.toNat) (.dtv ((C++N).map kr))):=by
  refine jV (ρ:=[some (.ref i),some (.int h),some (.int o),none,none,none]) rfl rfl ?_;unfold jeN;refine xl (v:=.non) (M1:=M) ?_ ?_
  ·rw[B.aE (xs:=[.int h]) (zs:=[]) (M1:=M) (M2:=M) rfl rfl rfl rfl];exact VL B h0 h1
  refine xl (v:=.non) (M1:=M) ?_ ?_
  ·rw[B.aE (xs:=[.int o]) (zs:=[]) (M1:=M) (M2:=M) rfl rfl rfl rfl];exact VL B o0 o1
  refine jR (v:=.ref (i+3+o.toNat)) (M1:=M) (uU B o0 o1 rfl rfl) ?_;refine jR (v:=.lst (N.map yb)) (M1:=M) ?_ ?_
  ·unfold Jv;rw[uU B h0 h1 rfl rfl];simp only[Res.aa]
   have:Je M (.ref (i+3+h.toNat)) (.ref (i+3+o.toNat))=some (N.map yb):=by
    unfold Je;simp only[B.sn h.toNat (by omega),gC];rw[if_pos (by rw[length_map];exact le_of_lt (szB (by omega))),jon,hN,hC]
   show(match(match Je M (.ref (i+3+h.toNat)) (.ref (i+3+o.toNat))with
    |some xs=>Res.ok (PV.lst xs) M
    |none=>.bad)with
    |r=>r)=_
   rw[this]
  obtain⟨ρ',M',e,x5,hρ,hM⟩:=vV (g:=gN 5) (db:=jby)
   (λj ρ M'=>∃x5,ρ=[some (.ref i),some (.int h),some (.int o),some (.ref (i+3+o.toNat)),some (.lst (N.map yb)),x5]/\M'=M.set (i+3+o.toNat) (.dtv ((C++N.take j).map kr)))
   (N.map yb) 0 [some (.ref i),some (.int h),some (.int o),some (.ref (i+3+o.toNat)),some (.lst (N.map yb)),none] M
   ⟨none,rfl,by rw[List.take_zero,append_nil,jgY gC]⟩ (by
    rintro j x hx ρ M' ⟨x5,rfl,rfl⟩;rw[getElem?_map,map_eq_some_iff]at hx;obtain⟨k,hk,rfl⟩:=hx;have hj:j<N.length:=(List.getElem?_eq_some_iff.mp hk).1;rw[zero_add];refine⟨_,_,_,rfl,Xb (x:=.bl true) (o:=.ref (i+3+o.toNat)) (ks:=[.int k.1,.int k.2.1,.int k.2.2]) rfl rfl rfl rfl (uZ Sto.set_same rfl (show 3<=1000 by decide) (by rw[length_map,length_append,length_take,hC];omega)),_,rfl,?_⟩;rw[jjY,show xD ((C++N.take j).map kr) [k.1,k.2.1,k.2.2] (.bl true)=_ from jcm _ k];congr 2;unfold uw;rw[if_neg,append_assoc]
    ·rw[take_succ,hk];rfl
    ·rw[mem_append];rintro(z|z)
     ·exact hNC k (mem_of_getElem? hk) z
     ·obtain⟨j2,gM,e2⟩:=List.mem_iff_getElem.mp z;rw[length_take]at gM;rw[getElem_take]at e2
      have e3:N[j]?= some N[j2]:=by rw[e2];exact hk
      have:=((List.getElem?_inj hj Nnd).mp (by rw[e3,getElem?_eq_getElem (by omega)]):j=j2)
      omega)
  refine jcw (F:=200) (M1:=M) (xs:=N.map yb) rfl e ?_;subst hρ;rw[hM,length_map,zero_add,take_length];refine jO (Xr (x:=.lst (N.map yb)) rfl ?_);rw[vH (x:=.lst _) rfl,length_map]
 show(yu 3 6 jeN _ _).ar=_;rw[main];rfl
theorem UD (B:Bk M i n fs sd bd T){h:Int}(h0:0<=h)(h1:h<n)(hl:(T h.toNat).length<64):XZ [.ref i,.int h] M= .ok (.lst ((ym (T h.toNat)).map yb)) M:=by
 refine jV (ρ:=[some (.ref i),some (.int h)]) rfl rfl ?_;unfold jlY;refine xl (v:=.non) (M1:=M) ?_ ?_
 ·rw[B.aE (xs:=[.int h]) (zs:=[]) (M1:=M) (M2:=M) rfl rfl rfl rfl];exact VL B h0 h1
 refine jO (Xr (uU B h0 h1 rfl rfl) ?_);unfold vZ;simp only[B.sn h.toNat (by omega),Ua];rw[if_pos (by rw[length_map];exact hl)]
end
theorem Jo {p:ItP}{g:DG}{em:EM}{ρ:En}{xs:List PV}{outs:List (List PV)}(I:Sto->Prop)(hl:outs.length=xs.length)(hn:∀M,I M->∀k,nxt p M k=some (xs[k]?))(hs:∀(k:Nat) x o,xs[k]?= some x->outs[k]?= some o->∀M,I M->∃ρ' M',g x ρ=some ρ'/\em ρ' M= .ok o M'/\I M') :
  ∀(n k:Nat) (M:Sto),I M->xs.length<n+k->k<=xs.length->∃M',emG p g em ρ n k M= .ok (outs.drop k).flatten M'/\I M'
 |0,k,M,hI,hk,iW=>absurd hk (by omega)
 |n+1,k,M,hI,hk,iW=>by
  unfold emG;rw[hn M hI k];cases e:xs[k]? with
  |none=>
   have:xs.length<=k:=List.getElem?_eq_none_iff.mp e
   exact⟨M,by rw[List.drop_eq_nil_of_le (by omega)];rfl,hI⟩
  |some x=>
   have hk3:k<xs.length:=(List.getElem?_eq_some_iff.mp e).1;have kq:k<outs.length:=by omega
   obtain⟨ρ',M1,e1,e2,h1⟩:=hs k x _ e (getElem?_eq_getElem kq) M hI;obtain⟨M2,e3,h2⟩:=Jo I hl hn hs n (k+1) M1 h1 (by omega) (by omega);refine⟨M2,?_,h2⟩;simp only[e1,e2,e3,vF,Res.aa];rw[List.drop_eq_getElem_cons kq,flatten_cons]
theorem jbr {p:ItP}{g:DG}{em:EMS}{ρ:En}{xs:List PV}{outs:List (List Int)}(I:Sto->Prop)(hl:outs.length=xs.length)(hn:∀M,I M->∀k,nxt p M k=some (xs[k]?))(hs:∀(k:Nat) x o,xs[k]?= some x->outs[k]?= some o->∀M,I M->∃ρ' M',g x ρ=some ρ'/\em ρ' M= .ok o M'/\I M') :
  ∀(n k:Nat) (M:Sto),I M->xs.length<n+k->k<=xs.length->∃M',Yg p g em ρ n k M= .ok (outs.drop k).flatten M'/\I M'
 |0,k,M,hI,hk,iW=>absurd hk (by omega)
 |n+1,k,M,hI,hk,iW=>by
  unfold Yg;rw[hn M hI k];cases e:xs[k]? with
  |none=>
   have:xs.length<=k:=List.getElem?_eq_none_iff.mp e
   exact⟨M,by rw[List.drop_eq_nil_of_le (by omega)];rfl,hI⟩
  |some x=>
   have hk3:k<xs.length:=(List.getElem?_eq_some_iff.mp e).1;have kq:k<outs.length:=by omega
   obtain⟨ρ',M1,e1,e2,h1⟩:=hs k x _ e (getElem?_eq_getElem kq) M hI;obtain⟨M2,e3,h2⟩:=jbr I hl hn hs n (k+1) M1 h1 (by omega) (by omega);refine⟨M2,?_,h2⟩;simp only[e1,e2,e3,vF,Res.aa];rw[List.drop_eq_getElem_cons kq,flatten_cons]
theorem Jk {α β:Type}(f:α->β):∀l:List α,(l.map λx=>[f x]).flatten=l.map f
 |[]=>rfl
 |a::l=>by
  rw[map_cons,flatten_cons,Jk f l];rfl
def prP (p:Row×Row):PV:=.tup [yb p.1,yb p.2]
theorem jhT {M:Sto}{r:Nat}{R:List Row}(h:M.g r=some (.lst (R.map yb)))(hl:R.length<=200):VS [.ref r] M= .ok (.lst ((prs R).map prP)) M:=by
 refine jV (ρ:=[some (.ref r)]) rfl rfl ?_;unfold jlS;refine jO ?_;unfold Yi;have e1:jeQ (jb (ya 0) yc) [some (.ref r)] M= .ok (.gen λM=>(yz M (.ref r)).map (xN 0)) M:=by
  unfold jeQ;simp only[jp,jz,ju,Res.aa,h]
 rw[e1];simp only[Res.aa];have sq:yz M (.ref r)=some (R.map yb):=vj h;have ln:(xN 0 (R.map yb)).length=R.length:=by
  have:∀(xs:List PV) (n:Nat),(xN n xs).length=xs.length:=λxs=>by
   induction xs with
   |nil=>intro n;rfl
   |cons x xs ih=>intro n;show(xN (n+1) xs).length+1=_;rw[ih];rfl
  rw[this,length_map]
 obtain⟨M',e,rfl⟩:=Jo (p:=.gen λM=>(yz M (.ref r)).map (xN 0)) (g:=gT 2 (yJ (gN 0) (yJ (gN 1) Ji))) (em:=jbs (gN 2) (dIt (dSl (ya 3) (dOS (dOp uG (ya 0) (dC (.int 1)))) dON)) (emE (vw (jb (ya 1) (jb (ya 2) yc))))) (ρ:=replicate 3 none++L3.rest [0] [some (.ref r)])
  (xs:=xN 0 (R.map yb)) (outs:=(List.range R.length).map λk=>(R.drop (k+1)).map λb=>prP (R.getD k (0,0,0),b)) (λM'=>M'=M) (by rw[ln,length_map,length_range]) (by
   rintro M' rfl k;show((yz M' (.ref r)).map (xN 0)).map (λxs=>xs[k]?)=_;rw[sq];rfl) (by
   rintro k x o hx ho M' rfl;rw[vq,getElem?_map,Option.map_map,map_eq_some_iff]at hx;obtain⟨a,ha,rfl⟩:=hx;have hk:k<R.length:=(List.getElem?_eq_some_iff.mp ha).1;rw[getElem?_map,getElem?_range hk]at ho;cases ho;refine⟨[some (.int ((0+k:Nat):Int)),some (yb a),none,some (.ref r)],M',rfl,?_,rfl⟩;unfold jbs;have e2:dIt (dSl (ya 3) (dOS (dOp uG (ya 0) (dC (.int 1)))) dON) [some (.int ((0+k:Nat):Int)),some (yb a),none,some (.ref r)] M'= .ok (.fix ((R.drop (k+1)).map yb)) M':=by
    refine vK ?_;show ofO (gSl M' (.ref r) (some (((0+k:Nat):Int)+1)) none) M'=_
    have:gSl M' (.ref r) (some (((0+k:Nat):Int)+1)) none=(yz M' (.ref r)).map λxs=>.lst (Yj xs (some (((0+k:Nat):Int)+1)) none):=rfl
    rw[this,sq];show Res.ok (PV.lst (Yj (R.map yb) (some (((0+k:Nat):Int)+1)) none)) M'=_;rw[joT (by omega) (by rw[length_map];omega),show(((0+k:Nat):Int)+1).toNat=k+1 by omega,List.map_drop]
   rw[e2];simp only[vF,Res.aa]
   obtain⟨M2,e3,rfl⟩:=Jo (p:=.fix ((R.drop (k+1)).map yb)) (g:=gN 2) (em:=emE (vw (jb (ya 1) (jb (ya 2) yc)))) (ρ:=[some (.int ((0+k:Nat):Int)),some (yb a),none,some (.ref r)])
    (xs:=(R.drop (k+1)).map yb) (outs:=(R.drop (k+1)).map λb=>[prP (a,b)]) (λM2=>M2=M') (by rw[length_map,length_map]) (by
     rintro M2 rfl j;rfl) (by
     rintro j x o hx ho M2 rfl;rw[getElem?_map,map_eq_some_iff]at hx ho;obtain⟨b,hb,rfl⟩:=hx;obtain⟨b',iZ,rfl⟩:=ho;rw[hb]at iZ;cases iZ
     exact⟨_,M2,rfl,rfl,rfl⟩) (yp (.fix ((R.drop (k+1)).map yb)) M') 0 M' rfl (by show _<_+1+0;omega) (zero_le _)
   rw[e3,drop_zero,Jk]
   have:R.getD k (0,0,0)=a:=by rw[getD_eq_getElem?_getD,ha];rfl
   rw[this]) (yp (.gen λM=>(yz M (.ref r)).map (xN 0)) M) 0 M rfl (by
    show _<(((yz M (.ref r)).map (xN 0)).getD []).length+1+0;rw[sq];show _<(xN 0 (R.map yb)).length+1+0;omega) (zero_le _)
 rw[e,drop_zero,<-jhF (0,0,0) prP R];simp only[vF,Res.aa];rw[if_pos];rw[length_map]
 have:=jem R
 have:R.length*R.length<=200*200:=Nat.mul_le_mul hl hl
 exact le_of_lt (szB (by omega))
structure Gs (M0 M:Sto)(q:Nat)(G:List (List Int×Nat×List Row)):Prop where
 lo:∀j,j<q->M.g j=M0.g j
 dt:M.g q=some (.dtv (G.map λe=>(e.1,.ref e.2.1)))
 ce:∀e∈G,M.g e.2.1=some (.lst (e.2.2.map yb))/\q<e.2.1/\e.2.1<M.n
 nd:(G.map (·.2.1)).Nodup
 n:q<M.n
def rkL (x:Row):List Int:=[x.1,x.2.1]
theorem jkW {G:List (List Int×Nat×List Row)}{k:List Int}(h:∀e∈G,e.1≠k):xf (G.map λe=>(e.1,PV.ref e.2.1)) k=none:=by
 unfold xf;rw[Option.map_eq_none_iff,List.find?_eq_none];intro x hx e;obtain⟨y,hy,rfl⟩:=List.mem_map.mp hx;exact h y hy (of_decide_eq_true e)
theorem jkn {G:List (List Int×Nat×List Row)}{k:List Int}{v:PV}(h:∀e∈G,e.1≠k):xD (G.map λe=>(e.1,PV.ref e.2.1)) k v=(G.map λe=>(e.1,PV.ref e.2.1))++[(k,v)]:=by
 unfold xD;rw[if_neg];rw[any_eq_true];rintro⟨x,hx,e⟩;obtain⟨y,hy,rfl⟩:=List.mem_map.mp hx;exact h y hy (of_decide_eq_true e)
theorem jgn {G:List (List Int×Nat×List Row)}{k:List Int}{r:Nat}{b:List Row}(h:∀e∈G,e.1≠k):xf ((G++[(k,r,b)]).map λe=>(e.1,PV.ref e.2.1)) k=some (.ref r):=by
 unfold xf;rw[map_append,List.find?_append]
 have:(G.map λe=>(e.1,PV.ref e.2.1)).find? (λp=>decide (p.1=k))=none:=by
  rw[List.find?_eq_none];intro x hx e;obtain⟨y,hy,rfl⟩:=List.mem_map.mp hx;exact h y hy (of_decide_eq_true e)
 rw[this];simp
theorem jfI {do_ dy dz:DE}{ρ:En}{M M3:Sto}{q:Nat}{l:List (List Int×PV)}{y z:PV}{ns:List Int}(h1:do_ ρ M= .ok (.ref q) M)(h2:M.g q=some (.dtv l))(h3:dy ρ M= .ok y M)(h4:jeh y=some ns)(h5:dz ρ M= .ok z M3)(h6:M3.g q=some (.dtv l))(h7:l.length<=1000)(h8:xf l ns=none):vz do_ dy dz ρ M= .ok z (M3.set q (.dtv (xD l ns z))):=by
 unfold vz;rw[h1];simp only[Res.aa,h2];rw[h3];simp only[Res.aa,h4];rw[h5];simp only[Res.aa,h6,h8];rw[if_pos (szB (by omega))]
theorem jcc {do_ dy dz:DE}{ρ:En}{M M3:Sto}{q:Nat}{l:List (List Int×PV)}{y z x:PV}{ns:List Int}(h1:do_ ρ M= .ok (.ref q) M)(h2:M.g q=some (.dtv l))(h3:dy ρ M= .ok y M)(h4:jeh y=some ns)(h5:dz ρ M= .ok z M3)(h6:M3.g q=some (.dtv l))(h7:l.length<=1000)(h8:xf l ns=some x):vz do_ dy dz ρ M= .ok x M3:=by
 unfold vz;rw[h1];simp only[Res.aa,h2];rw[h3];simp only[Res.aa,h4];rw[h5];simp only[Res.aa,h6,h8];rw[if_pos (szB (by omega))]
section
variable {M0 M:Sto}{q:Nat}{G:List (List Int×Nat×List Row)}{v0 v1 v3:Option PV}
theorem jgT (S:Gs M0 M q G){a:Row}(h:∀e∈G,e.1≠rkL a)(hl:G.length<=1000):∃M' r,yt [v0,v1,some (.ref q),some (yb a)] M= .nx [v0,v1,some (.ref q),some (yb a)] M'/\Gs M0 M' q (G++[(rkL a,r,[a])]):=by
 have hq:=S.n
 obtain⟨M3,h3⟩:∃M3,M3=M.new (.lst []):=⟨_,rfl⟩
 obtain⟨l,d8⟩:∃l,l=G.map λe=>(e.1,PV.ref e.2.1):=⟨_,rfl⟩
 have e3:M3.g q=some (.dtv l):=by rw[h3,Sto.ae (by omega),S.dt,d8]
 obtain⟨M4,h4⟩:∃M4,M4=M3.set q (.dtv (l++[(rkL a,.ref M.n)])):=⟨_,rfl⟩
 have g4:M4.g M.n=some (.lst []):=by rw[h4,Sto.ab (by omega),h3];exact Sto.af
 refine⟨M4.set M.n (.lst [yb a]),M.n,?_,⟨λj hj=>?_,?_,λe he=>?_,?_,?_⟩⟩
 ·unfold yt;refine Jl (jcW (x:=.ref M.n) (M1:=M4) (ys:=[]) (xs:=[yb a]) ?_ (vj g4) rfl (jdl (xs:=[]) g4 (szB (show 0<=100000 by decide))));rw[h4,show l++[(rkL a,PV.ref M.n)]=xD l (rkL a) (.ref M.n) by rw[d8];exact(jkn h).symm];refine jfI (y:=.tup [.int a.1,.int a.2.1]) (ns:=rkL a) (l:=l) rfl (by rw[S.dt,d8]) rfl rfl ?_ e3 (by rw[d8,length_map];exact hl) (by rw[d8];exact jkW h);rw[jbB,ju];simp only[Res.aa];rw[h3];exact if_pos (zero_le _)
 ·rw[Sto.ab (by omega),h4,Sto.ab (by omega),h3,Sto.ae (by omega)];exact S.lo j hj
 ·rw[Sto.ab (by omega),h4,Sto.set_same,d8,map_append];rfl
 ·rcases List.mem_append.mp he with he|he
  ·obtain⟨c1,c2,c3⟩:=S.ce e he;refine⟨?_,c2,?_⟩
   ·rw[Sto.ab (by omega),h4,Sto.ab (by omega),h3,Sto.ae (by omega)];exact c1
   ·show _<M4.n;rw[h4,h3];exact lt_succ_of_lt c3
  ·cases List.mem_singleton.mp he;exact⟨Sto.set_same,hq,by show _<M4.n;rw[h4,h3];exact lt_succ_self _⟩
 ·rw[map_append,List.nodup_append];refine⟨S.nd,by simp,λx hx y hy e=>?_⟩;obtain⟨z,hz,rfl⟩:=List.mem_map.mp hx;have hy:y=M.n:=List.mem_singleton.mp hy
  have:=(S.ce z hz).2.2
  omega
 ·show _<M4.n;rw[h4,h3];exact lt_succ_of_lt hq
theorem jgS {k:List Int}{r:Nat}{b:List Row}(S:Gs M0 M q (G++[(k,r,b)])){a:Row}(h:∀e∈G,e.1≠k)(ha:rkL a=k)(hl:G.length<=900)(hb:b.length<=900):∃M',yt [v0,v1,some (.ref q),some (yb a)] M= .nx [v0,v1,some (.ref q),some (yb a)] M'/\Gs M0 M' q (G++[(k,r,b++[a])]):=by
 have hq:=S.n
 obtain⟨M3,h3⟩:∃M3,M3=M.new (.lst []):=⟨_,rfl⟩
 obtain⟨cr,r1,r2⟩:=S.ce (k,r,b) (List.mem_append.mpr (.inr (List.mem_singleton.mpr rfl)));have cr:M.g r=some (.lst (b.map yb)):=cr;have r1:q<r:=r1;have r2:r<M.n:=r2
 have e3:M3.g q=some (.dtv ((G++[(k,r,b)]).map λe=>(e.1,PV.ref e.2.1))):=by rw[h3,Sto.ae (by omega),S.dt]
 have g3:M3.g r=some (.lst (b.map yb)):=by rw[h3,Sto.ae (by omega)];exact cr
 have nr:∀e∈G,e.2.1≠r:=λe he z=>by
  have:=S.nd
  rw[map_append,List.nodup_append]at this;exact this.2.2 _ (List.mem_map.mpr ⟨e,he,rfl⟩) _ (List.mem_singleton.mpr rfl) z
 refine⟨M3.set r (.lst (b.map yb++[yb a])),?_,⟨λj hj=>?_,?_,λe he=>?_,?_,?_⟩⟩
 ·unfold yt;refine Jl (jcW (x:=.ref r) (M1:=M3) (ys:=b.map yb) (xs:=[yb a]) ?_ (vj g3) rfl (jdl g3 (by rw[length_map];exact szB (by omega))));refine jcc (y:=.tup [.int a.1,.int a.2.1]) (ns:=rkL a) (z:=.ref M.n) rfl S.dt rfl rfl ?_ e3 (by rw[length_map,length_append];show _+1<=_;omega) (by rw[ha];exact jgn h);rw[jbB,ju];simp only[Res.aa];rw[h3];exact if_pos (zero_le _)
 ·rw[Sto.ab (by omega),h3,Sto.ae (by omega)];exact S.lo j hj
 ·rw[Sto.ab (by omega),e3,map_append,map_append];rfl
 ·rcases List.mem_append.mp he with he|he
  ·obtain⟨c1,c2,c3⟩:=S.ce e (List.mem_append.mpr (.inl he));refine⟨?_,c2,?_⟩
   ·rw[Sto.ab (nr e he),h3,Sto.ae (by omega)];exact c1
   ·show _<M3.n;rw[h3];exact lt_succ_of_lt c3
  ·cases List.mem_singleton.mp he;refine⟨?_,r1,by show r<M3.n;rw[h3];exact lt_succ_of_lt r2⟩;rw[map_append];exact Sto.set_same
 ·have:=S.nd
  rw[map_append]at this ⊢;exact this
 ·show _<M3.n;rw[h3];exact lt_succ_of_lt hq
theorem jaG {k:List Int}{r:Nat}(h:∀e∈G,e.1≠k)(hl:G.length<=900):∀(bs b:List Row) (M:Sto) (v3:Option PV),Gs M0 M q (G++[(k,r,b)])->(∀x∈bs,rkL x=k)->b.length+bs.length<=900->∀ys:List PV,
  ∃M' ia,xg (gN 3) yt (bs.map yb++ys) [v0,v1,some (.ref q),v3] M=xg (gN 3) yt ys [v0,v1,some (.ref q),ia] M'/\Gs M0 M' q (G++[(k,r,b++bs)])
 |[],b,M,v3,S,_,_,ys=>⟨M,v3,rfl,by rw[append_nil];exact S⟩
 |a::bs,b,M,v3,S,hk,hb,ys=>by
  rw[length_cons]at hb;obtain⟨M1,e1,S1⟩:=jgS (v0:=v0) (v1:=v1) S h (hk a mem_cons_self) hl (by omega);obtain⟨M',ia,e2,S2⟩:=jaG h hl bs (b++[a]) M1 (some (yb a)) S1 (λx hx=>hk x (mem_cons_of_mem _ hx)) (by rw[length_append];show _+1+_<=_;omega) ys;refine⟨M',ia,?_,by rw[append_assoc]at S2;exact S2⟩;rw[<-e2,map_cons,List.cons_append]
  show(match gN 3 (yb a) [v0,v1,some (.ref q),v3]with
   |none=>RS.bad
   |some ρ1=>match yt ρ1 M with
    |.nx ρ2 M2=>xg (gN 3) yt (bs.map yb++ys) ρ2 M2
    |.ct ρ2 M2=>xg (gN 3) yt (bs.map yb++ys) ρ2 M2
    |.bk ρ2 M2=>.nx ρ2 M2
    |r=>r)=_
  show(match yt [v0,v1,some (.ref q),some (yb a)] M with
    |.nx ρ2 M2=>xg (gN 3) yt (bs.map yb++ys) ρ2 M2
    |.ct ρ2 M2=>xg (gN 3) yt (bs.map yb++ys) ρ2 M2
    |.bk ρ2 M2=>.nx ρ2 M2
    |r=>r)=_
  rw[e1]
theorem jhk {x y:Row}:rkL x=rkL y↔rk x=rk y:=by
 rw[Vq];unfold rkL;simp
theorem Xd:∀(B:List (List Row)) (G:List (List Int×Nat×List Row)) (M:Sto) (v3:Option PV),Bl B->(∀e∈G,∀b∈B,∀x∈b,e.1≠rkL x)->Gs M0 M q G->G.length+B.flatten.length<=800->
  ∃M' ia G',xg (gN 3) yt (B.flatten.map yb) [v0,v1,some (.ref q),v3] M= .nx [v0,v1,some (.ref q),ia] M'/\Gs M0 M' q (G++G')/\G'.map (·.2.2)=B
 |[],G,M,v3,_,_,S,_=>⟨M,v3,[],rfl,by rw[append_nil];exact S,rfl⟩
 |[]::B,_,_,_,hB,_,_,_=>absurd rfl (hB.ne [] mem_cons_self)
 |(a::bs)::B,G,M,v3,hB,hG,S,hl=>by
  obtain⟨o1,o2⟩:=List.pairwise_cons.mp hB.off;rw[flatten_cons,length_append,length_cons]at hl;have ha:a∈a::bs:=mem_cons_self;obtain⟨M1,r,e1,S1⟩:=jgT (v0:=v0) (v1:=v1) S (a:=a) (λe he=>hG e he _ mem_cons_self a ha) (by omega);obtain⟨M2,v2,e2,S2⟩:=jaG (v0:=v0) (v1:=v1) (λe he=>hG e he _ mem_cons_self a ha) (by omega) bs [a] M1 (some (yb a)) S1 (λx hx=>jhk.mpr (hB.same _ mem_cons_self x (mem_cons_of_mem _ hx) a ha)) (by show 1+_<=_;omega) (B.flatten.map yb)
  obtain⟨M',ia,G',e3,S3,e4⟩:=Xd B (G++[(rkL a,r,[a]++bs)]) M2 v2 ⟨λc hc=>hB.ne c (mem_cons_of_mem _ hc),λc hc=>hB.same c (mem_cons_of_mem _ hc),o2⟩ (λe he c hc x hx=>by
   rcases List.mem_append.mp he with he|he
   ·exact hG e he c (mem_cons_of_mem _ hc) x hx
   ·cases List.mem_singleton.mp he;show rkL a≠rkL x;rw[Ne,jhk];exact o1 c hc a ha x hx) S2 (by rw[length_append];show _+1+_<=_;omega)
  refine⟨M',ia,(rkL a,r,[a]++bs)::G',?_,by rw[append_assoc]at S3;exact S3,by rw[map_cons,e4];rfl⟩;rw[<-e3,<-e2,flatten_cons,map_append,map_cons,List.cons_append]
  show(match yt [v0,v1,some (.ref q),some (yb a)] M with
    |.nx ρ2 M2=>xg (gN 3) yt (bs.map yb++B.flatten.map yb) ρ2 M2
    |.ct ρ2 M2=>xg (gN 3) yt (bs.map yb++B.flatten.map yb) ρ2 M2
    |.bk ρ2 M2=>.nx ρ2 M2
    |r=>r)=_
  rw[e1]
end
section
variable {M M':Sto}{i n:Nat}{fs:List Int}{sd:List Row}{bd:List (List Int×PV)}{T:Nat->List Row}
theorem jeY (B:Bk M i n fs sd bd T){h:Int}(h0:0<=h)(h1:h<n)(hl:(T h.toNat).length<64):∃M',Va [.ref i,.int h] M= .ok (.lst ((cls (ym (T h.toNat))).map prP)) M'/\Ex M M':=by
 obtain⟨R,hR⟩:∃R,R=ym (T h.toNat):=⟨_,rfl⟩
 have hRl:R.length<64:=by rw[hR,(yi _).length_eq];exact hl
 obtain⟨C,hC,eC⟩:=jjf R (by rw[hR];exact yE _)
 obtain⟨q,hq⟩:∃q,q=M.n:=⟨_,rfl⟩
 obtain⟨M1,gP⟩:∃M1,M1=M.new (.dtv []):=⟨_,rfl⟩
 have x1:Ex M M1:=by rw[gP];exact jcU
 have S1:Gs M M1 q []:=⟨λj hj=>x1.g j (by omega),by rw[gP,hq];exact Sto.af,λe he=>(by cases he),nodup_nil,by rw[gP,hq];exact lt_succ_self _⟩
 obtain⟨M2,v3,G,e2,S2,eG⟩:=Xd (v0:=some (.ref i)) (v1:=some (.int h)) C [] M1 none hC (λe he=>(by cases he)) S1 (by rw[eC];show 0+_<=_;omega);rw[eC]at e2;have S2:Gs M M2 q G:=S2;have n2:M1.n<=M2.n\/True:=.inr trivial
 obtain⟨M3,lu⟩:∃M3,M3=M2.drop q:=⟨_,rfl⟩
 have c3:∀e∈G,M3.g e.2.1=some (.lst (e.2.2.map yb)):=λe he=>by
  obtain⟨a,b,_⟩:=S2.ce e he;rw[lu];show(if e.2.1=q then none else M2.g e.2.1)=_;rw[if_neg (by omega)];exact a
 have hb:∀e∈G,e.2.2.length<=200:=λe he=>by
  have hm:e.2.2∈C:=by rw[<-eG];exact List.mem_map.mpr ⟨e,he,rfl⟩
  have:=(List.sublist_flatten_of_mem hm).length_le
  rw[eC]at this;omega
 refine⟨M3,?_,⟨by rw[lu];show M.n<=M2.n;have:=S2.n;omega,λj hj=>?_⟩⟩
 ·have main:yu 2 4 jeL [.ref i,.int h] M= .ok (.lst ((cls R).map prP)) M3:=by
   refine jV (ρ:=[some (.ref i),some (.int h),none,none]) rfl rfl ?_;unfold jeL;refine jR (v:=.ref q) (M1:=M1) (by rw[hq,gP];rfl) ?_;refine jcw (F:=200) (M1:=M1) (xs:=R.map yb) (ρ':=[some (.ref i),some (.int h),some (.ref q),v3]) (M2:=M2) (vK ?_) e2 ?_
   ·rw[(B.ex x1).aE (xs:=[.int h]) (zs:=[]) (M1:=M1) (M2:=M1) rfl rfl rfl rfl,hR];exact UD (B.ex x1) h0 h1 hl
   refine jO ?_;unfold Yi;have ev:UO (ya 2) [some (.ref i),some (.int h),some (.ref q),v3] M2= .ok (.fix (G.map λe=>.ref e.2.1)) M3:=by
    unfold UO;simp only[jF,jz,Res.aa]
    have:jdA M2 (.ref q)=some (G.map λe=>.ref e.2.1,M3):=by
     unfold jdA;simp only[S2.dt];rw[map_map,lu];rfl
    rw[this]
   rw[ev];simp only[Res.aa]
   obtain⟨M4,e4,rfl⟩:=Jo (p:=.fix (G.map λe=>.ref e.2.1)) (g:=gN 0) (em:=jbs (gN 1) (dIt (jo VS 1 0 [.p 0] [] (jb (ya 0) yc) yc)) (emE (ya 1))) (ρ:=replicate 2 none++L3.rest [] [some (.ref i),some (.int h),some (.ref q),v3])
    (xs:=G.map λe=>.ref e.2.1) (outs:=G.map λe=>(prs e.2.2).map prP) (λM4=>M4=M3) (by rw[length_map,length_map]) (by
     rintro M4 rfl j;rfl) (by
     rintro j x o hx ho M4 rfl;rw[getElem?_map,map_eq_some_iff]at hx ho;obtain⟨e,he,rfl⟩:=hx;obtain⟨e',iM,rfl⟩:=ho;rw[he]at iM;cases iM;have hm:=mem_of_getElem? he;refine⟨[some (.ref e.2.1),none],M4,rfl,?_,rfl⟩;unfold jbs;have ep:dIt (jo VS 1 0 [.p 0] [] (jb (ya 0) yc) yc) [some (.ref e.2.1),none] M4= .ok (.fix ((prs e.2.2).map prP)) M4:=by
      refine vK ?_;rw[jT];simp only[jp,jz,ju,Res.aa];exact jhT (c3 e hm) (hb e hm)
     rw[ep];simp only[vF,Res.aa]
     obtain⟨M5,e5,rfl⟩:=Jo (p:=.fix ((prs e.2.2).map prP)) (g:=gN 1) (em:=emE (ya 1)) (ρ:=[some (.ref e.2.1),none])
      (xs:=(prs e.2.2).map prP) (outs:=((prs e.2.2).map prP).map λx=>[x]) (λM5=>M5=M4) (by rw[length_map]) (by
       rintro M5 rfl j;rfl) (by
       rintro j x o hx ho M5 rfl;rw[getElem?_map,hx]at ho;cases ho
       exact⟨_,M5,rfl,rfl,rfl⟩) (yp (.fix ((prs e.2.2).map prP)) M4) 0 M4 rfl (by show _<_+1+0;omega) (zero_le _)
     rw[e5,drop_zero,Jk (λx=>x),List.map_id']) (yp (.fix (G.map λe=>.ref e.2.1)) M3) 0 M3 rfl (by show _<_+1+0;omega) (zero_le _)
   rw[e4,drop_zero];simp only[vF,Res.aa];have ef:(G.map λe=>(prs e.2.2).map prP).flatten=(cls R).map prP:=by
    rw[<-eC,XR hC,List.map_flatten,<-eG,map_map,map_map];rfl
   rw[ef,if_pos];rw[length_map]
   have:=UW R
   have:R.length*R.length<=64*64:=Nat.mul_le_mul (by omega) (by omega)
   exact le_of_lt (szB (by omega))
  show(yu 2 4 jeL _ _).ar=_;rw[main,hR];rfl
 ·rw[lu];show(if j=q then none else M2.g j)=_;rw[if_neg (by omega)];exact S2.lo j (by omega)
def conv (R:List Row):List Int:=(cls (ym R)).map λp=>p.1.1
theorem jeU {R:List Row}{h:Int}(hh:h∈conv R):∃a∈R,a.1=h:=by
 unfold conv at hh;obtain⟨p,hp,e⟩:=List.mem_map.mp hh;exact⟨p.1,(yi R).mem_iff.mp (UV hp).1,e⟩
theorem jau {ns:List Int}(h:∀x∈ns,0<=x/\x<16):uA ns=true:=List.all_eq_true.mpr λx hx=>by
 have:=h x hx
 rw[and_eq_true,decide_eq_true_eq,decide_eq_true_eq];exact this
theorem joU (B:Bk M i n fs sd bd T){h:Int}(h0:0<=h)(h1:h<n)(hl:(T h.toNat).length<64)(hr:∀a∈T h.toNat,0<=a.1/\a.1<16):∃M',jfu [.ref i,.int h] M= .ok (.lst ((yV (conv (T h.toNat))).map PV.int)) M'/\Ex M M':=by
 obtain⟨M1,e1,x1⟩:=jeY B h0 h1 hl
 have sm:∀x∈conv (T h.toNat),0<=x/\x<16:=λx hx=>by
  obtain⟨a,ha,e⟩:=jeU hx;rw[<-e];exact hr a ha
 refine⟨M1,?_,x1⟩
 obtain⟨P,hP⟩:∃P,P=cls (ym (T h.toNat)):=⟨_,rfl⟩
 rw[<-hP]at e1;have hc:conv (T h.toNat)=P.map λp=>p.1.1:=by rw[hP];rfl
 rw[hc]at sm ⊢;refine jV (ρ:=[some (.ref i),some (.int h)]) rfl rfl ?_;unfold jmb;refine jO ?_;unfold UP;rw[vK (xs:=P.map prP) (M1:=M1) (by
  rw[B.aE (xs:=[.int h]) (zs:=[]) (M1:=M) (M2:=M) rfl rfl rfl rfl];exact e1)]
 simp only[Res.aa]
 obtain⟨M2,e2,rfl⟩:=jbr (p:=.fix (P.map prP)) (g:=gT 2 (yJ (gN 0) (yJ (gN 1) Ji))) (em:=jld (dOp gIx (ya 0) (dC (.int 0)))) (ρ:=replicate 2 none++L3.rest [] [some (.ref i),some (.int h)])
  (xs:=P.map prP) (outs:=P.map λp=>[p.1.1]) (λM2=>M2=M1) (by rw[length_map,length_map]) (by
   rintro M2 rfl j;rfl) (by
   rintro j x o hx ho M2 rfl;rw[getElem?_map,map_eq_some_iff]at hx ho;obtain⟨p,hp,rfl⟩:=hx;obtain⟨p',eV,rfl⟩:=ho;rw[hp]at eV;cases eV;refine⟨[some (yb p.1),some (yb p.2)],M2,rfl,?_,rfl⟩
   have:=sm p.1.1 (List.mem_map.mpr ⟨p,mem_of_getElem? hp,rfl⟩)
   show(if 0<=p.1.1/\p.1.1<16 then Res.ok [p.1.1] M2 else .bad)=_
   rw[if_pos this]) (yp (.fix (P.map prP)) M1) 0 M1 rfl (by show _<_+1+0;omega) (zero_le _)
 rw[e2,drop_zero,Jk];simp only[vF,Res.aa];rw[if_pos (jau sm)]
end
section
variable {M:Sto}{i n:Nat}{fs:List Int}
theorem jgz {F:PV}(hi:M.g i=some (.ins 10 []))(hn:M.n=i+1)(n1:1<=n)(n16:n<=16)(cF:∀M,Vc [F,.int n,.int n] M= .ok .non M)(lF:∀M,jbo M F=some (.lst (fs.map PV.int))) :
  ∃M',JG [.ref i,.int n,F] M= .ok .non M'/\Bk M' i n fs [] [] (λ_=>[])/\M'.n=i+3+n/\∀j,j<i->M'.g j=M.g j:=by
 obtain⟨L,hL⟩:∃L,L=PV.lst (fs.map PV.int):=⟨_,rfl⟩
 obtain⟨ρ,hρ⟩:∃ρ:En,ρ=[some (.ref i),some (.int n),some F]:=⟨_,rfl⟩
 have v0:∀M,ya 0 ρ M= .ok (.ref i) M:=λM=>by rw[hρ];rfl
 have v1:∀M,ya 1 ρ M= .ok (.int n) M:=λM=>by rw[hρ];rfl
 have v2:∀M,ya 2 ρ M= .ok F M:=λM=>by rw[hρ];rfl
 obtain⟨M1,e1⟩:∃M1,M1=M.set i (.ins 10 [("liars",L)]):=⟨_,rfl⟩
 obtain⟨M2,e2⟩:∃M2,M2=M1.new (.dtv []):=⟨_,rfl⟩
 obtain⟨M3,e3⟩:∃M3,M3=M2.set i (.ins 10 [("liars",L),("said",.ref (i+1))]):=⟨_,rfl⟩
 obtain⟨M4,e4⟩:∃M4,M4=M3.new (.dtv []):=⟨_,rfl⟩
 obtain⟨M5,e5⟩:∃M5,M5=M4.set i (.ins 10 [("liars",L),("said",.ref (i+1)),("bound",.ref (i+2))]):=⟨_,rfl⟩
 have lG:M1.n=i+1:=by rw[e1];exact hn
 have n3:M3.n=i+2:=by rw[e3,e2];show M1.n+1=_;rw[lG]
 have n5:M5.n=i+3:=by rw[e5,e4];show M3.n+1=_;rw[n3]
 have g1:M1.g i=some (.ins 10 [("liars",L)]):=by rw[e1];exact Sto.set_same
 have g2:M2.g i=some (.ins 10 [("liars",L)]):=by rw[e2,Sto.ae (by omega)];exact g1
 have g3:M3.g i=some (.ins 10 [("liars",L),("said",.ref (i+1))]):=by rw[e3];exact Sto.set_same
 have g4:M4.g i=some (.ins 10 [("liars",L),("said",.ref (i+1))]):=by rw[e4,Sto.ae (by omega)];exact g3
 have g5:M5.g i=some (.ins 10 [("liars",L),("said",.ref (i+1)),("bound",.ref (i+2))]):=by rw[e5];exact Sto.set_same
 have a5:M5.g (i+1)=some (.dtv []):=by rw[e5,Sto.ab (by omega),e4,Sto.ae (by omega),e3,Sto.ab (by omega),e2,<-lG];exact Sto.af
 have b5:M5.g (i+2)=some (.dtv []):=by rw[e5,Sto.ab (by omega),e4,<-n3];exact Sto.af
 have l5:∀j,j<i->M5.g j=M.g j:=λj hj=>by rw[e5,Sto.ab (by omega),e4,Sto.ae (by omega),e3,Sto.ab (by omega),e2,Sto.ae (by omega),e1,Sto.ab (by omega)]
 obtain⟨ys,M6,e6,q1,q2,q3,q4⟩:=XQ (bnd:=ug) (r:=L3.rest [] ρ) (dt:=vy) (de:=jgs)
  (λj acc M'=>acc=((List.range j).map λh=>PV.ref (i+3+h))/\M'.n=i+3+j/\(∀h,h<j->M'.g (i+3+h)=some (.dtv []))/\∀k,k<i+3->M'.g k=M5.g k)
  (vd 0 n) 0 [] M5 ⟨rfl,n5,λh hh=>absurd hh (not_lt_zero _),λ_ _=>rfl⟩ (by
   rintro j x hx acc M' ⟨r1,r2,r3,r4⟩;rw[zero_add]at r1 r2 r3 ⊢;refine⟨_,true,M',rfl,rfl,λz=>(by cases z),λ_=>⟨.ref M'.n,M'.new (.dtv []),rfl,?_,?_,λh hh=>?_,λk hk=>?_⟩⟩
   ·rw[r1,List.range_succ,map_append,r2];rfl
   ·show M'.n+1=_;omega
   ·by_cases e:h=j
    ·subst e;rw[<-r2];exact Sto.af
    ·rw[Sto.ae (by omega)];exact r3 h (by omega)
   ·rw[Sto.ae (by omega)];exact r4 k hk)
 rw[nil_append]at q1;rw[vn,zero_add]at q1 q2 q3
 obtain⟨M7,e7⟩:∃M7,M7=M6.set i (.ins 10 (bkF i n fs)):=⟨_,rfl⟩
 refine⟨M7,?_,⟨by rw[e7];exact Sto.set_same,by rw[e7,Sto.ab (by omega),q4 _ (by omega)];exact a5,by rw[e7,Sto.ab (by omega),q4 _ (by omega)];exact b5,λh hh=>by rw[e7,Sto.ab (by omega)];exact q3 h hh,by rw[e7];show _<=M6.n;omega,n16⟩,by rw[e7];exact q2,λj hj=>by rw[e7,Sto.ab (by omega),q4 _ (by omega)];exact l5 j hj⟩;refine UN (ρ:=ρ) (ρ':=ρ) rfl (by rw[hρ];rfl) ?_;unfold jma;refine xl (v:=.non) (M1:=M) ?_ ?_
 ·simp only[jT,jp,v1,ju,Res.aa];show fin (jiT [some (.int n)] M)=_;unfold jiT;simp[yk,gen,jA (M:=M) (a:=1) (b:=16) (Kd.int (n:Int)) (by decide) (by decide),XD (h:=(n:Int)) (a:=1) (b:=16) (by omega) (by omega)]
 refine xl (v:=.non) (M1:=M) ?_ ?_
 ·simp only[jT,jp,v1,v2,ju,Res.aa];exact cF M
 refine jcx (v:=L) (Ma:=M) (i:=i) (Xr (v2 M) (by rw[hL];exact lF M)) (v0 M) hi (by decide) ?_;rw[show M.set i (.ins 10 (Vf "liars" L []))=M1 from e1.symm];refine jcx (v:=.ref (i+1)) (Ma:=M2) (i:=i) (by show Res.ok (PV.ref M1.n) (M1.new (.dtv []))=_;rw[lG,e2]) (v0 M2) g2 (show 1<1000 by decide) ?_;rw[show M2.set i (.ins 10 (Vf "said" (.ref (i+1)) [("liars",L)]))=M3 from e3.symm];refine jcx (v:=.ref (i+2)) (Ma:=M4) (i:=i) (by show Res.ok (PV.ref M3.n) (M3.new (.dtv []))=_;rw[n3,e4]) (v0 M4) g4 (show 2<1000 by decide) ?_;rw[show M4.set i (.ins 10 (Vf "bound" (.ref (i+2)) [("liars",L),("said",.ref (i+1))]))=M5 from e5.symm];have g6:M6.g i=some (.ins 10 [("liars",L),("said",.ref (i+1)),("bound",.ref (i+2))]):=by rw[q4 _ (by omega)];exact g5
 rw[jkH (v:=.lst ys) (Ma:=M6) (i:=i) (jK (xs:=vd 0 n) (M1:=M5) (by
  have hs:small (n:Int)=true:=vh.mpr ⟨by omega,by omega⟩;unfold uy;simp only[jp,v1,ju,Res.aa,hs,if_true,Int.toNat_natCast]) (by rw[vn];exact jap (by omega)) e6) (v0 M6) g6 (show 3<1000 by decide)]
 rw[e7,q1,hL];rfl
theorem jbJ {F:PV}(n1:1<=n)(n16:n<=16)(cF:∀M,Vc [F,.int n,.int n] M= .ok .non M)(lF:∀M,jbo M F=some (.lst (fs.map PV.int))) :
  ∃M',made 10 JG (λx=>[x,.int n,F]) M= .ok (.ref M.n) M'/\Bk M' M.n n fs [] [] (λ_=>[])/\M'.n=M.n+3+n/\∀j,j<M.n->M'.g j=M.g j:=by
 obtain⟨M',e,B,h1,h2⟩:=jgz (M:=M.new (.ins 10 [])) (i:=M.n) Sto.af rfl n1 n16 cF lF;refine⟨M',?_,B,h1,λj hj=>by rw[h2 j hj,Sto.ae (by omega)]⟩;unfold made;simp only[e]
end
theorem jhI {M:Sto}(t:Tw M){l:List Int}(cZ:l≠[])(hl:l.length<=1000):∃x M',YC [.ref 1,.lst (l.map PV.int)] M= .ok (.int x) M'/\x∈l/\Tw M'/\Off M M':=by
 obtain⟨x,M1,e,hx,t1,o1⟩:=jen t (xs:=l.map PV.int) (λz=>cZ (List.map_eq_nil_iff.mp z)) (by rw[length_map];omega);obtain⟨y,hy,rfl⟩:=List.mem_map.mp hx;exact⟨y,M1,e,hy,t1,o1⟩
theorem jgK {M M':Sto}(t:Tw M)(h0:M'.g 0=M.g 0)(h1:M'.g 1=M.g 1)(hn:M.n<=M'.n):Tw M':=by
 obtain⟨ns,c,t⟩:=t;exact⟨ns,c,by rw[h0];exact t.row,by rw[h1];exact t.tw,t.ne,le_trans t.n hn⟩
theorem jhz {bd:List (List Int×PV)}{k:List Int}{v:PV}{e:List Int×PV}(h:e∈xD bd k v):e∈bd\/e=(k,v):=by
 unfold xD at h;split at h
 ·obtain⟨p,hp,rfl⟩:=List.mem_map.mp h
  by_cases z:p.1=k
  ·rw[if_pos z,z];exact .inr rfl
  ·rw[if_neg z];exact .inl hp
 ·rcases List.mem_append.mp h with h|h
  ·exact .inl h
  ·exact .inr (List.mem_singleton.mp h)
theorem jhA {bd:List (List Int×PV)}{k:List Int}{v:PV}:(xD bd k v).length<=bd.length+1:=by
 unfold xD;split
 ·rw[length_map];omega
 ·rw[length_append];exact le_refl _
theorem vU {A C:List Row}{a:Row}:a∈uF A C↔a∈A/\a∉C:=by
 unfold uF;rw[mem_filter,decide_eq_true_eq]
theorem Ym {D:tD0}{da:DA}{ρ:En}{M M1:Sto}{a b:PV}(h:da ρ M= .ok [a,b] M1):jo D 2 0 [.p 0,.p 1] [] da yc ρ M=D [a,b] M1:=by
 rw[jT,h];rfl
theorem XV {D:tD0}{da:DA}{ρ:En}{M M1:Sto}{a:PV}(h:da ρ M= .ok [a] M1):jo D 1 0 [.p 0] [] da yc ρ M=D [a] M1:=by
 rw[jT,h];rfl
theorem xw {d1 d2:DE}{ρ:En}{M M1 M2:Sto}{x y:PV}(h1:d1 ρ M= .ok x M1)(h2:d2 ρ M1= .ok y M2):jb d1 (jb d2 yc) ρ M= .ok [x,y] M2:=by
 rw[jp,h1];simp only[Res.aa];rw[jp,h2];rfl
theorem Xo {xs:List PV}(h:∀x∈xs,plain x=true):yx xs=true:=by
 induction xs with
 |nil=>rfl
 |cons x xs ih=>
  show(plain x && yx xs)=true;rw[h x mem_cons_self,ih λy hy=>h y (mem_cons_of_mem _ hy)];rfl
theorem jbu {xs:List PV}{k:Nat}(h:∀x∈xs,dep x<=k):xu xs<=k:=by
 induction xs with
 |nil=>exact zero_le _
 |cons x xs ih=>
  show max (dep x) (xu xs)<=k;exact Nat.max_le.mpr ⟨h x mem_cons_self,ih λy hy=>h y (mem_cons_of_mem _ hy)⟩
theorem vD (R:List Row):plain (.lst (R.map yb))=true:=Xo λx hx=>by
 obtain⟨a,_,rfl⟩:=List.mem_map.mp hx;rfl
theorem XJ (R:List Row):dep (.lst (R.map yb))<=60:=by
 have:xu (R.map yb)<=1:=jbu λx hx=>by
  obtain⟨a,_,rfl⟩:=List.mem_map.mp hx;exact(show 1<=1 from le_refl _)
 show xu (R.map yb)+1<=60;omega
theorem jcN {M:Sto}{n m:Int}(m0:0<=m):Vc [.tup [],.int n,.int m] M= .ok .non M:=by
 show fin (jbz [some (.tup []),some (.int n),some (.int m)] M)=_;unfold jbz;have q1:Vh M [.tup [],.tup [.ty "list",.ty "tuple"]]=some (.bl true,M):=rfl;have bM:ua M (.tup [])=some (.int 0):=rfl;have hg:gGt M (.int 0) (.int m)=some (.bl false):=by
  show some (PV.bl (decide (m<0)))=_;rw[decide_eq_false (by omega)]
 have s2:(2:Nat)<=sizeLine:=by decide
 have q2:yQ (jlh (ya 0)) ug [1] vy YS [some (.tup []),some (.int n),some (.int m)] M= .ok (.lst []) M:=rfl;have q3:Vi M (.lst [])=some (.bl true):=rfl;have q4:jbR [.tup []] M= .ok (.bl true) M:=rfl;simp[yk,gen,q1,bM,hg,s2,q2,q3,q4,jfE]
def lcl (R S:List Row):List (Row×Row):=(S.map λa=>(R.filter λb=>decide (rk a=rk b) && decide (a.2.2<b.2.2)).map λb=>(a,b)).flatten
theorem jev:∀(eI pre:List Row),Vl (pre++eI)->(pre++eI).Nodup->lcl (pre++eI) eI=cls eI
 |[],_,_,_=>rfl
 |a::eI,pre,so,nd=>by
  have e:pre++a::eI=(pre++[a])++eI:=by simp
  have ih:=jev eI (pre++[a]) (by rw[<-e];exact so) (by rw[<-e];exact nd);rw[<-e]at ih;have hd:lcl (pre++a::eI) (a::eI)=((pre++a::eI).filter λb=>decide (rk a=rk b) && decide (a.2.2<b.2.2)).map (λb=>(a,b))++lcl (pre++a::eI) eI:=rfl;rw[hd,ih];show _=(eI.filter λb=>decide (rk a=rk b)).map (λb=>(a,b))++cls eI;congr 2;obtain⟨_,s2,s3⟩:=List.pairwise_append.mp so;obtain⟨s4,_⟩:=List.pairwise_cons.mp s2;obtain⟨_,n2,_⟩:=List.nodup_append.mp nd;rw[filter_append,List.filter_eq_nil_iff.mpr λb hb=>?_,nil_append,List.filter_cons_of_neg (by simp)]
  ·refine List.filter_congr λb hb=>?_;have fA:=Um (s4 b hb);have cZ:a≠b:=λz=>(List.nodup_cons.mp n2).1 (by rw[z];exact hb)
   by_cases hk:rk a=rk b
   ·rw[decide_eq_true hk,Bool.true_and,decide_eq_true]
    have:=Vq.mp hk
    have:a.2.2≠b.2.2:=λz=>cZ (Prod.ext this.1 (Prod.ext this.2 z))
    omega
   ·rw[decide_eq_false hk,Bool.false_and]
  ·have hba:=Um (s3 b hb a mem_cons_self);intro z;rw[and_eq_true,decide_eq_true_eq,decide_eq_true_eq,Vq]at z;omega
theorem jou {R:List Row}(so:Vl R)(nd:R.Nodup):lcl R R=cls R:=jev R [] so nd
theorem UM (a b:Row):eqB (yb a) (yb b)=decide (a=b):=by
 show((a.1==b.1) && ((a.2.1==b.2.1) && ((a.2.2==b.2.2) && true)))=_;rw[Bool.eq_iff_iff];simp[Prod.ext_iff]
theorem jeG {neg:Bool}{M:Sto}(a b:Row):eqG neg M (yb a) (yb b)=some (.bl (if neg then !decide (a=b)else decide (a=b))):=by
 rw[<-UM];rfl
theorem jiD {neg:Bool}{M:Sto}{x:PV}{r:Row}{R:List Row}(h:uN M x=some (R.map yb)):gIn neg M (yb r) x=some (.bl (if neg then !decide (r∈R)else decide (r∈R))):=by
 have hd:vI (R.map yb)=true:=by
  have key:∀l:List Row,vI (l.map yb)=true:=λl=>by
   induction l with
   |nil=>rfl
   |cons a l ih=>show(decide (dep (yb a)<=60) && vI (l.map yb))=true;rw[ih];rfl
  exact key R
 have ha:((R.map yb).any λz=>eqB z (yb r))=decide (r∈R):=by
  rw[List.any_map,Bool.eq_iff_iff,any_eq_true,decide_eq_true_eq];constructor
  ·rintro⟨y,hy,e⟩;have e:eqB (yb y) (yb r)=true:=e;rw[UM,decide_eq_true_eq]at e;rw[<-e];exact hy
  ·intro hm;refine⟨r,hm,?_⟩;show eqB (yb r) (yb r)=true;rw[UM,decide_eq_true rfl]
 unfold gIn;rw[h];show(if _ then some (PV.bl (if neg=true then !((R.map yb).any λz=>eqB z (yb r))else(R.map yb).any λz=>eqB z (yb r)))else none)=_;rw[if_pos ⟨rfl,vD R,hd⟩,ha]
theorem jcy {neg:Bool}{d:DE}{ρ:En}{M M1:Sto}{R:List Row}(h:d ρ M= .ok (.lst (R.map yb)) M1):dOp (eqG neg) d (xB yc) ρ M= .ok (.bl (if neg then !decide (R=[])else decide (R=[]))) M1:=by
 refine yn h (y:=.lst []) (M2:=M1) ?_ ?_
 ·rw[xG,ju];simp only[Res.aa];exact if_pos (zero_le _)
 ·unfold eqG;rw[show look M1 (.lst (R.map yb))= .lst (R.map yb)from rfl,show look M1 (.lst [])= .lst []from rfl,if_pos ⟨vD R,rfl,XJ R⟩];cases R <;> rfl
theorem jfU (P:List (Row×Row)):plain (.lst (P.map prP))=true:=Xo λx hx=>by
 obtain⟨a,_,rfl⟩:=List.mem_map.mp hx;rfl
theorem jle (P:List (Row×Row)):dep (.lst (P.map prP))<=60:=by
 have:xu (P.map prP)<=2:=jbu λx hx=>by
  obtain⟨a,_,rfl⟩:=List.mem_map.mp hx;exact(show 2<=2 from le_refl _)
 show xu (P.map prP)+1<=60;omega
theorem jot {M:Sto}{R:List Row}(hl:R.length<=100):jbT [.lst (R.map yb)] M= .ok (.lst ((lcl R R).map prP)) M:=by
 have len:∀S:List Row,(lcl R S).length<=S.length*100:=λS=>by
  induction S with
  |nil=>exact zero_le _
  |cons a S ih=>
   have e:lcl R (a::S)=(R.filter λb=>decide (rk a=rk b) && decide (a.2.2<b.2.2)).map (λb=>(a,b))++lcl R S:=rfl
   have:=length_filter_le (λb=>decide (rk a=rk b) && decide (a.2.2<b.2.2)) R
   rw[e,length_append,length_map,length_cons];omega
 obtain⟨ρ',M',e,x2,hρ,hM⟩:=vV (g:=gN 2) (db:=Jr)
  (λj ρ M'=>∃x2,ρ=[some (.lst (R.map yb)),some (.lst ((lcl R (R.take j)).map prP)),x2]/\M'=M)
  (R.map yb) 0 [some (.lst (R.map yb)),some (.lst []),none] M ⟨none,rfl,rfl⟩ (by
   rintro j x hx ρ M' ⟨x2,rfl,rfl⟩;rw[getElem?_map,map_eq_some_iff]at hx;obtain⟨a,ha,rfl⟩:=hx;have hj:j<R.length:=(List.getElem?_eq_some_iff.mp ha).1;rw[zero_add];have et:lcl R (R.take (j+1))=lcl R (R.take j)++(R.filter λb=>decide (rk a=rk b) && decide (a.2.2<b.2.2)).map (λb=>(a,b)):=by
    rw[take_succ,ha];unfold lcl;rw[map_append,List.flatten_append];simp
   refine⟨_,_,M',rfl,?_,some (yb a),rfl,rfl⟩;show Jr [some (.lst (R.map yb)),some (.lst ((lcl R (R.take j)).map prP)),some (yb a)] M'= .nx [some (.lst (R.map yb)),some (.lst ((lcl R (R.take (j+1))).map prP)),some (yb a)] M';unfold Jr;rw[Uk,yn (x:=.lst ((lcl R (R.take j)).map prP)) (M1:=M') rfl (y:=.lst (((R.filter λb=>decide (rk a=rk b) && decide (a.2.2<b.2.2)).map (λb=>(a,b))).map prP)) (M2:=M') (z:=.lst ((lcl R (R.take (j+1))).map prP)) ?_ ?_]
   ·rfl
   ·rw[map_map];refine jK (xs:=R.map yb) (M1:=M') rfl (by rw[length_map];exact jap (by omega)) ?_;refine xj yb (λb=>decide (rk a=rk b) && decide (a.2.2<b.2.2)) (λb=>prP (a,b)) R λb hb=>⟨[some (yb b),some (yb a)],rfl,?_,λ_=>?_⟩
    ·unfold jdE;have q1:yj (dOp (eqG false) (dSl (ya 1) dON (dOS (dC (.int 2)))) (dSl (ya 0) dON (dOS (dC (.int 2))))) [some (yb b),some (yb a)] M'= .ok (decide (rk a=rk b)) M':=by
      refine yr (yn (x:=.tup [.int a.1,.int a.2.1]) (y:=.tup [.int b.1,.int b.2.1]) (M1:=M') rfl rfl ?_);show some (PV.bl ((a.1==b.1) && ((a.2.1==b.2.1) && true)))=_;congr 2;rw[Bool.eq_iff_iff];simp[Vq]
     have q2:yj (dOp gLt (dOp gIx (ya 1) (dC (.int 2))) (dOp gIx (ya 0) (dC (.int 2)))) [some (yb b),some (yb a)] M'= .ok (decide (a.2.2<b.2.2)) M':=yr (yn (x:=.int a.2.2) (y:=.int b.2.2) (M1:=M') rfl rfl rfl);rw[jeS,q1];simp only[Res.aa];rw[q2]
     by_cases hk:rk a=rk b
     ·rw[decide_eq_true hk,if_pos rfl];rfl
     ·rw[decide_eq_false hk,if_neg (by simp)];rfl
    ·show vw _ _ _=_;rw[vJ];simp only[jp,jz,jF,ju,Res.aa];exact if_pos (show 2<=sizeLine by decide)
   ·rw[Jj (xs:=(lcl R (R.take j)).map prP) (ys:=((R.filter λb=>decide (rk a=rk b) && decide (a.2.2<b.2.2)).map (λb=>(a,b))).map prP) rfl rfl ?_,<-map_append,<-et];rw[<-length_append,<-map_append,<-et,length_map]
    have:=len (R.take (j+1))
    rw[length_take]at this;have h2:min (j+1) R.length<=100:=by omega
    have:min (j+1) R.length*100<=100*100:=Nat.mul_le_mul_right _ h2
    exact le_of_lt (szB (by omega)))
 rw[hM]at e;have main:yu 1 3 jeM [.lst (R.map yb)] M= .ok (.lst ((lcl R R).map prP)) M:=by
  refine jV (ρ:=[some (.lst (R.map yb)),none,none]) rfl rfl ?_;unfold jeM;refine jR (v:=.lst []) (M1:=M) ?_ ?_
  ·rw[xG,ju];simp only[Res.aa];exact if_pos (zero_le _)
  refine jcw (F:=200) (M1:=M) (xs:=R.map yb) rfl e ?_;subst hρ;rw[zero_add,length_map,take_length];exact jO rfl
 show(yu 1 3 jeM _ _).ar=_;rw[main];rfl
theorem jbf {M:Sto}{p:Row×Row}(h1:rk p.1=rk p.2)(h2:p.1≠p.2):jfn [prP p] M= .ok (.bl true) M:=by
 have hk:=Vq.mp h1;have hn:p.1.2.2≠p.2.2.2:=λz=>h2 (Prod.ext hk.1 (Prod.ext hk.2 z));have a0:dOp gIx (ya 0) (dC (.int 0)) [some (prP p)] M= .ok (yb p.1) M:=rfl;have a1:dOp gIx (ya 0) (dC (.int 1)) [some (prP p)] M= .ok (yb p.2) M:=rfl;have pr:jfm [prP p] M= .ok (.bl true) M:=rfl;have no:∀{d:DE}{ρ:En},d ρ M= .ok (.bl true) M->Ju (Jt d) ρ M= .ok false M:=λh=>by rw[jeP,jeO,h];rfl
 refine jV (ρ:=[some (prP p)]) rfl rfl ?_;unfold jlR;refine Jd (M1:=M) (jer (M1:=M) (no ?_) (jer (M1:=M) (no ?_) (no ?_))) ?_
 ·rw[XV (yA (x:=prP p) (M1:=M) rfl)];exact pr
 ·rw[XV (yA a0)];exact JL
 ·rw[XV (yA a1)];exact JL
 refine jO ?_;have q1:dOp (eqG false) (dSl (dOp gIx (ya 0) (dC (.int 0))) dON (dOS (dC (.int 2)))) (dSl (dOp gIx (ya 0) (dC (.int 1))) dON (dOS (dC (.int 2)))) [some (prP p)] M= .ok (.bl true) M:=by
  refine yn (x:=.tup [.int p.1.1,.int p.1.2.1]) (y:=.tup [.int p.2.1,.int p.2.2.1]) (M1:=M) rfl rfl ?_;show some (PV.bl ((p.1.1==p.2.1) && ((p.1.2.1==p.2.2.1) && true)))=_;rw[hk.1,hk.2];simp
 have q2:dOp (eqG true) (dOp gIx (dOp gIx (ya 0) (dC (.int 0))) (dC (.int 2))) (dOp gIx (dOp gIx (ya 0) (dC (.int 1))) (dC (.int 2))) [some (prP p)] M= .ok (.bl true) M:=by
  refine yn (x:=.int p.1.2.2) (y:=.int p.2.2.2) (M1:=M) rfl rfl ?_;show some (PV.bl (!(p.1.2.2==p.2.2.2)))=_;rw[show(p.1.2.2==p.2.2.2)=false by simpa using hn];rfl
 unfold uz;rw[q1];exact q2
theorem jam:∀R:List Row,jbZ (R.map yb)=some R
 |[]=>rfl
 |a::R=>by
  show(jbZ (R.map yb)).map (λl=>(a.1,a.2.1,a.2.2)::l)=_;rw[jam R];rfl
theorem jat {d:DE}{ρ:En}{M M1:Sto}{R S:List Row}(h:d ρ M= .ok (.lst (R.map yb)) M1)(hu:∀a∈R,a∈YD)(hl:R.length<60)(nd:S.Nodup)(hm:∀a,a∈S↔a∈R):XM d ρ M= .ok (.lst ((ym S).map yb)) M1:=by
 unfold XM;rw[h];simp only[Res.aa]
 have:(yz M1 (.lst (R.map yb))).bind jbZ=some R:=jam R
 rw[this];simp only[];rw[if_pos ⟨List.all_eq_true.mpr λa ha=>decide_eq_true (hu a ha),hl⟩,<-jas (l:=R) ((yi S).nodup_iff.mpr nd) (yE S) λk=>by rw[(yi S).mem_iff,hm]]
theorem jdL {d do_ di:DE}{ρ:En}{M M1:Sto}{j:Nat}{xs:List PV}{x:PV}{k:Int}(h1:d ρ M= .ok x M1)(h2:do_ ρ M1= .ok (.ref j) M1)(h3:di ρ M1= .ok (.int k) M1)(hg:M1.g j=some (.lst xs))(k0:0<=k)(k1:k<xs.length):Yq d do_ di ρ M= .nx ρ (M1.set j (.lst (xs.set k.toNat x))):=by
 unfold Yq;rw[h1];simp only[Res.ai];rw[h2];simp only[Res.ai];rw[h3];simp only[Res.ai]
 have:jfP M1 (.ref j) (.int k) x=some (M1.set j (.lst (xs.set k.toNat x))):=by
  unfold jfP;simp only[hg];unfold ixN;rw[if_pos k0,if_pos k1];rfl
 rw[this]
def seP (T:Nat->List Row)(n:Nat):List PV:=(List.range n).map λh=>PV.lst ((ym (T h)).map yb)
theorem xS (T:Nat->List Row)(n:Nat):(seP T n).length=n:=by unfold seP;rw[length_map,length_range]
theorem YZ (T:Nat->List Row){n h:Nat}(hh:h<n):(seP T n)[h]?= some (.lst ((ym (T h)).map yb)):=by
 unfold seP;rw[getElem?_map,getElem?_range hh];rfl
theorem jhc (T:Nat->List Row){n o:Nat}(r:List Row):seP (upT T o r) n=(seP T n).set o (.lst ((ym r).map yb)):=by
 refine ext_getElem? λh=>?_
 by_cases hh:h<n
 ·rw[YZ _ hh,List.getElem?_set]
  by_cases e:o=h
  ·subst e;rw[uR,if_pos rfl,if_pos (by rw[xS];exact hh)]
  ·rw[VY (λz=>e z.symm),if_neg e,YZ _ hh]
 ·rw[getElem?_eq_none (by rw[xS];omega),getElem?_eq_none (by rw[length_set,xS];omega)]
structure J27 (M:Sto)(i n:Nat)(fs:List Int)(t:Nat)(sd SD:List Row)(bd:List (List Int×PV))(T:Nat->List Row):Prop where
 tw:Tw M
 b:Bk M i n fs sd bd T
 se:M.g (i+3+n)=some (.lst (seP T n))
 ln:i+3+n<M.n
 i2:2<=i
 nd:∀h,h<n->(T h).Nodup
 sub:∀h,h<n->∀a∈T h,a∈sd
 sn:sd.Nodup
 sm:∀a,a∈SD↔a∈sd
 un:∀a∈sd,a∈YD
 bg:∀e∈bd,∃h p y:Int,e=([h,p],.int y)/\(h,p,y)∈sd
 bl:bd.length<=t
 sl:sd.length<=t
 Sl:SD.length<=t
section
variable {M M':Sto}{i n:Nat}{fs:List Int}{t:Nat}{sd SD:List Row}{bd:List (List Int×PV)}{T:Nat->List Row}
theorem J27.off (J:J27 M i n fs t sd SD bd T)(o:Off M M')(w:Tw M'):J27 M' i n fs t sd SD bd T:=by
 have:=J.ln
 have:=J.i2
 exact⟨w,J.b.off o.n λj h1 h2=>o.g j (by omega) (by omega),by rw[o.g _ (by omega) (by omega)];exact J.se,lt_of_lt_of_le J.ln o.n,J.i2,J.nd,J.sub,J.sn,J.sm,J.un,J.bg,J.bl,J.sl,J.Sl⟩
theorem J27.ex (J:J27 M i n fs t sd SD bd T)(x:Ex M M'):J27 M' i n fs t sd SD bd T:=
 ⟨x.tw J.tw,J.b.ex x,by rw[x.g _ J.ln];exact J.se,lt_of_lt_of_le J.ln x.n,J.i2,J.nd,J.sub,J.sn,J.sm,J.un,J.bg,J.bl,J.sl,J.Sl⟩
theorem J27.le (J:J27 M i n fs t sd SD bd T){t':Nat}(h:t<=t'):J27 M i n fs t' sd SD bd T:=
 ⟨J.tw,J.b,J.se,J.ln,J.i2,J.nd,J.sub,J.sn,J.sm,J.un,J.bg,le_trans J.bl h,le_trans J.sl h,le_trans J.Sl h⟩
theorem J27.tl (J:J27 M i n fs t sd SD bd T){h:Nat}(hh:h<n):(T h).length<=t:=le_trans (Sml.sublen _ _ (J.nd h hh) (J.sub h hh)) J.sl
theorem J27.at (J:J27 M i n fs t sd SD bd T){h:Int}(h0:0<=h)(h1:h<n){d0 d1:DE}{ρ:En}(e0:d0 ρ M= .ok (.ref (i+3+n)) M)(e1:d1 ρ M= .ok (.int h) M):dOp gIx d0 d1 ρ M= .ok (.lst ((ym (T h.toNat)).map yb)) M:=by
 refine yn e0 e1 ?_;rw[vg (xy J.se),uM h0 (by rw[xS];exact h1),YZ T (by omega)]
theorem J27.up (J:J27 M i n fs t sd SD bd T){o:Nat}(ho:o<n){r:List Row}(nd:r.Nodup)(sub:∀a∈r,a∈sd):J27 ((M.set (i+3+o) (.dtv (r.map kr))).set (i+3+n) (.lst (seP (upT T o r) n))) i n fs t sd SD bd (upT T o r):=by
 have iI:=J.i2;have hln:=J.ln;have B1:=J.b.up ho r;refine⟨jgK J.tw (by rw[Sto.ab (by omega),Sto.ab (by omega)]) (by rw[Sto.ab (by omega),Sto.ab (by omega)]) (le_refl _),B1.off (le_refl _) λj _ hj=>Sto.ab (by omega),Sto.set_same,hln,iI,λh hh=>?_,λh hh a ha=>?_,J.sn,J.sm,J.un,J.bg,J.bl,J.sl,J.Sl⟩
 ·by_cases e:h=o
  ·subst e;rw[uR];exact nd
  ·rw[VY e];exact J.nd h hh
 ·by_cases e:h=o
  ·subst e;rw[uR]at ha;exact sub a ha
  ·rw[VY e]at ha;exact J.sub h hh a ha
end
theorem jqF:Js=yf (jfM (vw (jb (jo vA 2 0 [.p 0,.p 1] [] (jb (ya 1) (jb (ya 2) yc)) yc) (jb (jo vA 2 0 [.p 0,.p 1] [] (jb (ya 1) (jb (ya 2) yc)) yc) yc))) (gT 2 (yJ (gN 8) (yJ (gN 9) Ji)))) (yf (yH 10 (jo vA 2 0 [.p 0,.p 1] [] (jb (ya 1) (jb (dC (.int 4)) yc)) yc)) (yf (sIf (dOr (yj (dOp (eqG false) (ya 10) (dC (.int 0)))) (yj (dOp (eqG false) (ya 5) (xB yc)))) jfN (sIf (yj (dOp (eqG false) (ya 10) (dC (.int 1)))) jhi jhh)) jkd)):=rfl
section
variable {M:Sto}{i n:Nat}{fs:List Int}{t:Nat}{sd SD:List Row}{bd:List (List Int×PV)}{T:Nat->List Row}
def r27 (i n:Nat)(fs:List Int)(SD:List Row)(x0 x7 x8 x9 cU cE cD cA cK cJ cI cH:Option PV):En:=[x0,some (.ref 1),some (.int n),some (.lst (fs.map PV.int)),some (.ref i),some (.lst (SD.map yb)),some (.ref (i+3+n)),x7,x8,x9,cU,cE,cD,cA,cK,cJ,cI,cH]
theorem jmh {h p x:Int}(h0:0<=h)(h1:h<6)(hp:p=0\/p=1\/p=99)(hx:x=5\/x=6\/x= -1000000):(h,p,x)∈YD:=by
 have key:(List.range 6).all (λk=>[(0:Int),1,99].all λp=>[(5:Int),6,-1000000].all λx=>decide (((k:Int),p,x)∈YD))=true:=by decide +kernel
 have h2:=List.all_eq_true.mp key h.toNat (List.mem_range.mpr (by omega));have h3:=List.all_eq_true.mp h2 p (by simpa using hp);have h4:=of_decide_eq_true (List.all_eq_true.mp h3 x (by simpa using hx));rw[show((h.toNat:Nat):Int)=h by omega]at h4;exact h4
theorem jpq (J:J27 M i n fs t sd SD bd T)(ht:t<=40)(n6:n<=6){h:Int}(h0:0<=h)(h1:h<n)(x0 x7 x9 cU cE cD cA cK cJ cI cH:Option PV) :
  ∃eQ eP eN dX M' fN gc,jfN (r27 i n fs SD x0 x7 (some (.int h)) x9 cU cE cD cA cK cJ cI cH) M= .nx (r27 i n fs dX x0 x7 (some (.int h)) x9 cU eQ eP eN cK cJ cI cH) M'/\J27 M' i n fs (t+1) fN dX gc T:=by
 have hSl:=J.Sl;have hsl:=J.sl;have f7:=J.bl;have hln:=J.ln;have iI:=J.i2;obtain⟨p,M1,e1,hp,T1,o1⟩:=jhI J.tw (l:=[0,1,99]) (by simp) (by decide);have J1:=J.off o1 T1;obtain⟨x,M2,e2,hx,T2,o2⟩:=jhI J1.tw (l:=[5,5,6,-1000000]) (by simp) (by decide);have J2:=J1.off o2 T2;have hp3:p=0\/p=1\/p=99:=by simpa using hp
 have hx3:x=5\/x=6\/x= -1000000:=by
  simp only[mem_cons,mem_nil_iff,or_false]at hx;omega
 obtain⟨k,hk⟩:∃k:Row,k=(h,p,x):=⟨_,rfl⟩
 obtain⟨ρ,hρ⟩:∃ρ:En,ρ=r27 i n fs SD x0 x7 (some (.int h)) x9 cU (some (.int p)) (some (.int x)) cA cK cJ cI cH:=⟨_,rfl⟩
 obtain⟨O,hO⟩:∃O,O=SD.filter λr=>decide (rk r=(h,p)) && decide (r.2.2≠x):=⟨_,rfl⟩
 have eO:yQ (dIt (ya 5)) ug [12,8,11] Uc (ya 0) ρ M2= .ok (.lst (O.map yb)) M2:=by
  rw[hO];refine jK (xs:=SD.map yb) (M1:=M2) (by rw[hρ];rfl) (by rw[length_map];exact jap (by omega)) ?_;refine xj yb (λr=>decide (rk r=(h,p)) && decide (r.2.2≠x)) yb SD λr hr=>⟨[some (yb r),some (.int x),some (.int h),some (.int p)],by rw[hρ];rfl,?_,λ_=>rfl⟩
  unfold Uc;have q1:yj (dOp (eqG false) (dSl (ya 0) dON (dOS (dC (.int 2)))) (vw (jb (ya 2) (jb (ya 3) yc)))) [some (yb r),some (.int x),some (.int h),some (.int p)] M2= .ok (decide (rk r=(h,p))) M2:=by
   refine yr (yn (x:=.tup [.int r.1,.int r.2.1]) (y:=.tup [.int h,.int p]) (M1:=M2) rfl ?_ ?_)
   ·rw[vJ];simp only[jp,jz,jF,ju,Res.aa];exact if_pos (show 2<=sizeLine by decide)
   show some (PV.bl ((r.1==h) && ((r.2.1==p) && true)))=_;congr 2;rw[Bool.eq_iff_iff];unfold rk;simp
  have q2:yj (dOp (eqG true) (dOp gIx (ya 0) (dC (.int 2))) (ya 1)) [some (yb r),some (.int x),some (.int h),some (.int p)] M2= .ok (decide (r.2.2≠x)) M2:=by
   refine yr (yn (x:=.int r.2.2) (y:=.int x) (M1:=M2) rfl rfl ?_);show some (PV.bl (!(r.2.2==x)))=_;congr 2;rw[Bool.eq_iff_iff];simp
  rw[jeS,q1];simp only[Res.aa];rw[q2]
  by_cases hZ:rk r=(h,p)
  ·rw[decide_eq_true hZ,if_pos rfl];rfl
  ·rw[decide_eq_false hZ,if_neg (by simp)];rfl
 obtain⟨ρ3,fU⟩:∃ρ:En,ρ=r27 i n fs SD x0 x7 (some (.int h)) x9 cU (some (.int p)) (some (.int x)) (some (.lst (O.map yb))) cK cJ cI cH:=⟨_,rfl⟩
 have tup:∀M,vw (jb (ya 8) (jb (ya 11) (jb (ya 12) yc))) ρ3 M= .ok (yb k) M:=λM=>by
  rw[fU,vJ,hk];show(if(3:Nat)<=sizeLine then Res.ok (yb (h,p,x)) M else .bad)=_;exact if_pos (by decide)
 have eR:dOr (yj (dOp (gIn false) (ya 8) (ya 3))) (yj (dOp (eqG false) (ya 13) (xB yc))) ρ3 M2= .ok (decide (h∈fs) || decide (O=[])) M2:=by
  rw[jiX,yr (b:=decide (h∈fs)) (yn (x:=.int h) (y:=.lst (fs.map PV.int)) (M1:=M2) (by rw[fU];rfl) (by rw[fU];rfl) (jbm (neg:=false) (M:=M2) (x:=.lst (fs.map PV.int)) (k:=h) (ns:=fs) rfl))];simp only[Res.aa]
  by_cases hf:h∈fs
  ·rw[decide_eq_true hf,if_pos rfl];rfl
  ·rw[decide_eq_false hf,if_neg (by simp),yr (jcy (neg:=false) (R:=O) (M1:=M2) (by rw[fU];rfl))];simp
 have start:∀{r:RS},sIf (dOr (yj (dOp (gIn false) (ya 8) (ya 3))) (yj (dOp (eqG false) (ya 13) (xB yc)))) (yf (sIf (yj (dOp (eqG true) (xQ 10 "say" jbQ 4 0 [.p 0,.p 1,.p 2,.p 3] [] (ya 4) (jb (ya 8) (jb (ya 11) (jb (ya 12) yc))) yc) (vw (jb (ya 8) (jb (ya 11) (jb (ya 12) yc)))))) (yI (dC (.bl false))) yN) (yH 5 (dOp uG (yQ (dIt (ya 5)) ug [8,11,12] Ud (ya 0)) (xB (jb (vw (jb (ya 8) (jb (ya 11) (jb (ya 12) yc)))) yc))))) yN ρ3 M2=r->jfN (r27 i n fs SD x0 x7 (some (.int h)) x9 cU cE cD cA cK cJ cI cH) M=r:=λ{r} hr=>by
  unfold jfN;refine jhX (v:=.tup [.int p,.int x]) (M1:=M2) (ρ':=ρ) ?_ (by rw[hρ];rfl) ?_
  ·rw[vJ,xw (M1:=M1) (x:=.int p) (y:=.int x) (M2:=M2) ?_ ?_]
   ·simp only[Res.aa];exact if_pos (show 2<=sizeLine by decide)
   ·rw[Ym (a:=.ref 1) (b:=.lst ([(0:Int),1,99].map PV.int)) (M1:=M) (xw (M1:=M) rfl (by
     rw[xG];simp only[jp,jeR,ju,Res.aa];exact if_pos (show 3<=sizeLine by decide)))]
    exact e1
   ·rw[Ym (a:=.ref 1) (b:=.lst ([(5:Int),5,6,-1000000].map PV.int)) (M1:=M1) (xw (M1:=M1) rfl (by
     rw[xG];simp only[jp,jeR,ju,Res.aa,jY,jbj,jy];exact if_pos (show 4<=sizeLine by decide)))]
    exact e2
  refine jR (v:=.lst (O.map yb)) (M1:=M2) eO ?_
  have:ρ.set 13 (some (.lst (O.map yb)))=ρ3:=by rw[hρ,fU];rfl
  rw[this];exact hr
 by_cases hc:h∈fs\/O=[]
 ·have huk:k∈YD:=by rw[hk];exact jmh h0 (by omega) hp3 hx3
  obtain⟨M3,e3,B3,F3⟩:=jpD J2.b (x:=x) h0 h1 (p:=p) (by omega) (by omega) (by omega) (by omega) (λhf=>by
   have hOn:O=[]:=hc.resolve_left hf;cases z:xf bd [h,p]with
   |none=>rfl
   |some v=>
    unfold xf at z;rw[map_eq_some_iff]at z;obtain⟨q,hq,rfl⟩:=z;have m:=List.mem_of_find?_eq_some hq;have kk:q.1=[h,p]:=by simpa using List.find?_some hq
    obtain⟨h',p',y,rfl,hy⟩:=J.bg q m;have kk:[h',p']=[h,p]:=kk
    injection kk with k1 k2
    injection k2 with k2 _
    subst k1 k2
    by_cases hyx:y=x
    ·rw[hyx];rfl
    ·have:(h',p',y)∈O:=by
      rw[hO];refine List.mem_filter.mpr ⟨(J.sm _).mpr hy,?_⟩;unfold rk;simpa using hyx
     rw[hOn]at this;cases this) (by omega) (by omega)
  obtain⟨dX,iP⟩:∃dX,dX=(SD.filter λr=>decide (r≠k))++[k]:=⟨_,rfl⟩
  have hfl:=length_filter_le (λr=>decide (r≠k)) SD;rw[<-hk]at e3 B3;refine⟨some (.int p),some (.int x),some (.lst (O.map yb)),dX,M3,uw sd k,bdS fs bd h p x,start ?_,?_⟩
  ·refine jhg (M1:=M2) ?_ ?_
   ·rw[eR];rcases hc with hc|hc
    ·rw[decide_eq_true hc];rfl
    ·rw[decide_eq_true hc,Bool.or_true]
   refine Jd (M1:=M3) (yr (yn (x:=yb k) (y:=yb k) (M1:=M3) (M2:=M3) ?_ (tup M3) ?_)) ?_
   ·rw[J2.b.aE (xs:=[.int h,.int p,.int x]) (zs:=[]) (M1:=M2) (M2:=M2) (by rw[fU];rfl) rfl (by rw[fU];rfl) rfl];exact e3
   ·rw[jeG,decide_eq_true rfl];rfl
   rw[Uk,yn (x:=.lst ((SD.filter λr=>decide (r≠k)).map yb)) (y:=.lst ([k].map yb)) (M1:=M3) (M2:=M3) (z:=.lst (dX.map yb)) ?_ ?_ ?_]
   ·rw[fU];rfl
   ·refine jK (xs:=SD.map yb) (M1:=M3) (by rw[fU];rfl) (by rw[length_map];exact jap (by omega)) ?_;refine xj yb (λr=>decide (r≠k)) yb SD λr hr=>⟨[some (yb r),some (.int h),some (.int p),some (.int x)],by rw[fU];rfl,?_,λ_=>rfl⟩
    unfold Ud;refine yr (yn (x:=yb r) (y:=yb k) (M1:=M3) rfl ?_ ?_)
    ·rw[hk,vJ];show(if(3:Nat)<=sizeLine then Res.ok (yb (h,p,x)) M3 else .bad)=_;exact if_pos (by decide)
    ·rw[jeG];simp
   ·rw[xG,yA (tup M3)];simp only[Res.aa];exact if_pos (show 1<=sizeLine by decide)
   ·rw[Jj (xs:=(SD.filter λr=>decide (r≠k)).map yb) (ys:=[k].map yb) rfl rfl (by rw[length_map];show _+1<=_;exact le_of_lt (szB (by omega))),<-map_append,iP]
  ·have hal:=jjp sd k;refine⟨jgK J2.tw (F3.g 0 (by have:=J2.ln;omega) (.inl (by omega))) (F3.g 1 (by have:=J2.ln;omega) (.inl (by omega))) F3.n,B3,by rw[F3.g _ J2.ln (.inr (le_refl _))];exact J2.se,lt_of_lt_of_le J2.ln F3.n,iI,J.nd,λj hj a ha=>xp.mpr (.inl (J.sub j hj a ha)),jaf J.sn,λa=>?_,λa ha=>?_,λq hq=>?_,?_,by omega,?_⟩
   ·rw[iP,mem_append,mem_filter,mem_singleton,xp,J.sm,decide_eq_true_eq]
    by_cases l9:a=k
    ·exact⟨λ_=>.inr l9,λ_=>.inr l9⟩
    ·exact⟨λz=>z.elim (λz=>.inl z.1) .inr,λz=>z.elim (λz=>.inl ⟨z,l9⟩) .inr⟩
   ·rcases xp.mp ha with ha|rfl
    ·exact J.un a ha
    ·exact huk
   ·unfold bdS at hq;split at hq
    ·obtain⟨a,b,c,e,m⟩:=J.bg q hq;exact⟨a,b,c,e,xp.mpr (.inl m)⟩
    ·rcases jhz hq with hq|rfl
     ·obtain⟨a,b,c,e,m⟩:=J.bg q hq;exact⟨a,b,c,e,xp.mpr (.inl m)⟩
     ·exact⟨h,p,x,rfl,xp.mpr (.inr hk.symm)⟩
   ·unfold bdS;split
    ·omega
    ·have:=jhA (bd:=bd) (k:=[h,p]) (v:=.int x)
     omega
   ·rw[iP,length_append];show _+1<=_;omega
 ·refine⟨some (.int p),some (.int x),some (.lst (O.map yb)),SD,M2,sd,bd,start ?_,J2.le (by omega)⟩;have hf:h∉fs:=λz=>hc (.inl z);have hO2:O≠[]:=λz=>hc (.inr z);rw[jef (M1:=M2) (by rw[eR,decide_eq_false hf,decide_eq_false hO2];rfl) rfl,fU];rfl
theorem jpp (J:J27 M i n fs t sd SD bd T)(ht:t<=40){o:Int}(o0:0<=o)(o1:o<n)(cZ:SD≠[])(x0 x7 x8 cU cE cD cA cK cJ cI cH:Option PV) :
  ∃eM M' T',jhi (r27 i n fs SD x0 x7 x8 (some (.int o)) cU cE cD cA cK cJ cI cH) M= .nx (r27 i n fs SD x0 x7 x8 (some (.int o)) cU cE cD cA eM cJ cI cH) M'/\J27 M' i n fs t sd SD bd T':=by
 have hSl:=J.Sl;obtain⟨v,M1,e1,hv,T1,oo⟩:=jen J.tw (xs:=SD.map yb) (λz=>cZ (List.map_eq_nil_iff.mp z)) (by rw[length_map];omega);obtain⟨k,hk,rfl⟩:=List.mem_map.mp hv;have J1:=J.off oo T1;have d9:=(J.sm k).mp hk;have hon:o.toNat<n:=by omega
 have hT:=J1.tl hon
 obtain⟨M2,iQ⟩:∃M2,M2=M1.set (i+3+o.toNat) (.dtv ((uw (T o.toNat) k).map kr)):=⟨_,rfl⟩
 have e2:=jmx J1.b o0 o1 d9 (by omega);rw[<-iQ]at e2;have J3:=J1.up hon (jaf (k:=k) (J1.nd _ hon)) λa ha=>(xp.mp ha).elim (J1.sub _ hon a) λz=>by rw[z];exact d9
 rw[<-iQ]at J3;have j5:M2.g (i+3+n)=some (.lst (seP T n)):=by rw[iQ,Sto.ab (by omega)];exact J1.se
 refine⟨some (yb k),_,_,?_,J3⟩
 obtain⟨ρ,hρ⟩:∃ρ:En,ρ=r27 i n fs SD x0 x7 x8 (some (.int o)) cU cE cD cA (some (yb k)) cJ cI cH:=⟨_,rfl⟩
 unfold jhi;refine jR (v:=yb k) (M1:=M1) (by rw[Ym (xw (M1:=M) (x:=.ref 1) (y:=.lst (SD.map yb)) rfl rfl)];exact e1) ?_;show yf _ _ (r27 i n fs SD x0 x7 x8 (some (.int o)) cU cE cD cA (some (yb k)) cJ cI cH) M1= .nx (r27 i n fs SD x0 x7 x8 (some (.int o)) cU cE cD cA (some (yb k)) cJ cI cH) _;rw[<-hρ];refine xl (v:=.non) (M1:=M2) ?_ ?_
 ·rw[J1.b.aE (xs:=[.int o,yb k]) (zs:=[]) (M1:=M1) (M2:=M1) (by rw[hρ];rfl) rfl (by rw[hρ];rfl) rfl];exact e2
 rw[jhc];refine jdL (x:=.lst ((ym (uw (T o.toNat) k)).map yb)) (M1:=M2) (jat (R:=ym (T o.toNat)++[k]) (M1:=M2) ?_ (λa ha=>?_) ?_ (jaf (J1.nd _ hon)) λa=>?_) (by rw[hρ];rfl) (by rw[hρ];rfl) j5 o0 (by rw[xS];exact o1)
 ·refine yn (x:=.lst ((ym (T o.toNat)).map yb)) (y:=.lst ([k].map yb)) (M1:=M2) (M2:=M2) ?_ ?_ ?_
  ·refine yn (x:=.ref (i+3+n)) (y:=.int o) (M1:=M2) (by rw[hρ];rfl) (by rw[hρ];rfl) ?_;rw[vg (xy j5),uM o0 (by rw[xS];exact o1),YZ T hon]
  ·rw[xG,yA (x:=yb k) (M1:=M2) (by rw[hρ];rfl)];simp only[Res.aa];exact if_pos (show 1<=sizeLine by decide)
  ·rw[Jj (xs:=(ym (T o.toNat)).map yb) (ys:=[k].map yb) rfl rfl (by rw[length_map,(yi _).length_eq];show _+1<=_;exact le_of_lt (szB (by omega))),<-map_append]
 ·rcases List.mem_append.mp ha with ha|ha
  ·exact J.un a (J1.sub _ hon a ((yi _).mem_iff.mp ha))
  ·rw[List.mem_singleton.mp ha];exact J.un k d9
 ·rw[length_append,(yi _).length_eq];show _+1<60;omega
 ·rw[xp,mem_append,mem_singleton,(yi _).mem_iff]
theorem jpo (J:J27 M i n fs t sd SD bd T)(ht:t<=40){h o:Int}(h0:0<=h)(h1:h<n)(o0:0<=o)(o1:o<n)(x0 x7 cU cE cD cA cK cJ cI cH:Option PV) :
  ∃eL M' T',jhh (r27 i n fs SD x0 x7 (some (.int h)) (some (.int o)) cU cE cD cA cK cJ cI cH) M= .nx (r27 i n fs SD x0 x7 (some (.int h)) (some (.int o)) cU cE cD cA cK eL cI cH) M'/\J27 M' i n fs t sd SD bd T':=by
 have hon:o.toNat<n:=by omega
 have iJ:h.toNat<n:=by omega
 have hT:=J.tl hon;have hT2:=J.tl iJ
 obtain⟨N,hN⟩:∃N,N=(ym (T h.toNat)).filter λr=>decide (r∉ym (T o.toNat)):=⟨_,rfl⟩
 have fc:N.Perm (uF (T h.toNat) (T o.toNat)):=by
  rw[hN];unfold uF;have e:(λr=>decide (r∉ym (T o.toNat)))=λr=>decide (r∉T o.toNat):=funext λr=>decide_eq_decide.mpr (not_congr (yi _).mem_iff);rw[e];exact(yi _).filter _
 have kY:(T o.toNat++uF (T h.toNat) (T o.toNat)).length<=t:=by
  refine le_trans (Sml.sublen _ sd (List.nodup_append.mpr ⟨J.nd _ hon,(J.nd _ iJ).filter _,λa ha b hb e=>(vU.mp hb).2 (e ▸ ha)⟩) λa ha=>?_) J.sl;rcases List.mem_append.mp ha with ha|ha
  ·exact J.sub _ hon a ha
  ·exact J.sub _ iJ a (vU.mp ha).1
 have hlN:(ym (T o.toNat)++N).length<60:=by
  rw[length_append,(yi _).length_eq,fc.length_eq,<-length_append];omega
 have nd3:(T o.toNat++uF (T h.toNat) (T o.toNat)).Nodup:=List.nodup_append.mpr ⟨J.nd _ hon,(J.nd _ iJ).filter _,λa ha b hb e=>(vU.mp hb).2 (e ▸ ha)⟩;have sub3:∀a∈T o.toNat++uF (T h.toNat) (T o.toNat),a∈sd:=λa ha=>by
  rcases List.mem_append.mp ha with ha|ha
  ·exact J.sub _ hon a ha
  ·exact J.sub _ iJ a (vU.mp ha).1
 have e2:=jnv J.b h0 h1 o0 o1 (J.nd _ iJ) (by omega) (by omega)
 obtain⟨M2,iQ⟩:∃M2,M2=M.set (i+3+o.toNat) (.dtv ((T o.toNat++uF (T h.toNat) (T o.toNat)).map kr)):=⟨_,rfl⟩
 rw[<-iQ]at e2;have J3:=J.up hon nd3 sub3;rw[<-iQ]at J3;have j5:M2.g (i+3+n)=some (.lst (seP T n)):=by rw[iQ,Sto.ab (by omega)];exact J.se
 refine⟨some (.lst (N.map yb)),_,_,?_,J3⟩
 obtain⟨ρ,hρ⟩:∃ρ:En,ρ=r27 i n fs SD x0 x7 (some (.int h)) (some (.int o)) cU cE cD cA cK (some (.lst (N.map yb))) cI cH:=⟨_,rfl⟩
 unfold jhh;refine jR (v:=.lst (N.map yb)) (M1:=M) ?_ ?_
 ·rw[hN];refine jK (xs:=(ym (T h.toNat)).map yb) (M1:=M) (vK (J.at h0 h1 rfl rfl)) (by rw[length_map,(yi _).length_eq];exact jap (by omega)) ?_;refine xj yb (λr=>decide (r∉ym (T o.toNat))) yb _ λr hr=>⟨[some (yb r),some (.ref (i+3+n)),some (.int o)],rfl,?_,λ_=>rfl⟩
  refine yr (yn (x:=yb r) (y:=.lst ((ym (T o.toNat)).map yb)) (M1:=M) rfl (J.at o0 o1 rfl rfl) ?_);rw[jiD (neg:=true) (R:=ym (T o.toNat)) rfl];simp
 show yf _ _ (r27 i n fs SD x0 x7 (some (.int h)) (some (.int o)) cU cE cD cA cK (some (.lst (N.map yb))) cI cH) M= .nx (r27 i n fs SD x0 x7 (some (.int h)) (some (.int o)) cU cE cD cA cK (some (.lst (N.map yb))) cI cH) _;rw[<-hρ];refine Jd (M1:=M2) (yr (yn (x:=.int (uF (T h.toNat) (T o.toNat)).length) (y:=.int N.length) (M1:=M2) (M2:=M2) ?_ (Xr (x:=.lst (N.map yb)) (M1:=M2) (by rw[hρ];rfl) (by rw[vH (x:=.lst _) rfl,length_map])) ?_)) ?_
 ·rw[J.b.aE (xs:=[.int h,.int o]) (zs:=[]) (M1:=M) (M2:=M) (by rw[hρ];rfl) rfl (by rw[hρ];rfl) rfl];exact e2
 ·rw[fc.length_eq];show some (PV.bl (!(_==_)))=_;rw[beq_self_eq_true];rfl
 rw[jhc];refine jdL (x:=.lst ((ym (T o.toNat++uF (T h.toNat) (T o.toNat))).map yb)) (M1:=M2) (jat (R:=ym (T o.toNat)++N) (M1:=M2) ?_ (λa ha=>?_) hlN nd3 λa=>?_) (by rw[hρ];rfl) (by rw[hρ];rfl) j5 o0 (by rw[xS];exact o1)
 ·refine yn (x:=.lst ((ym (T o.toNat)).map yb)) (y:=.lst (N.map yb)) (M1:=M2) (M2:=M2) ?_ (by rw[hρ];rfl) ?_
  ·refine yn (x:=.ref (i+3+n)) (y:=.int o) (M1:=M2) (by rw[hρ];rfl) (by rw[hρ];rfl) ?_;rw[vg (xy j5),uM o0 (by rw[xS];exact o1),YZ T hon]
  ·rw[Jj (xs:=(ym (T o.toNat)).map yb) (ys:=N.map yb) rfl rfl (by rw[<-length_append,<-map_append,length_map];exact le_of_lt (szB (by omega))),<-map_append]
 ·refine J.un a ?_;rcases List.mem_append.mp ha with ha|ha
  ·exact J.sub _ hon a ((yi _).mem_iff.mp ha)
  ·exact J.sub _ iJ a (vU.mp (fc.mem_iff.mp ha)).1
 ·rw[mem_append,mem_append,(yi _).mem_iff,fc.mem_iff]
end
theorem jpm {a:Row}(h:a∈YD):0<=a.1/\a.1<16:=by
 have key:YD.all (λa=>decide (0<=a.1) && decide (a.1<16))=true:=by decide +kernel
 have:=List.all_eq_true.mp key a h
 rw[and_eq_true,decide_eq_true_eq,decide_eq_true_eq]at this;exact this
section
variable {M:Sto}{i n:Nat}{fs:List Int}{t:Nat}{sd SD:List Row}{bd:List (List Int×PV)}{T:Nat->List Row}
theorem jin (B:Bk M i n fs sd bd T){h:Int}(h0:0<=h)(h1:h<n)(hl:(T h.toNat).length<64):jft [.ref i,.int h] M= .ok (.ref M.n) (M.new (.lst ((ym (T h.toNat)).map yb))):=by
 refine jV (ρ:=[some (.ref i),some (.int h)]) rfl rfl ?_;unfold jlZ;refine xl (v:=.non) (M1:=M) ?_ ?_
 ·rw[B.aE (xs:=[.int h]) (zs:=[]) (M1:=M) (M2:=M) rfl rfl rfl rfl];exact VL B h0 h1
 refine jO ?_;rw[jcY,yA (uU B h0 h1 rfl rfl)];simp only[Res.aa]
 have:vZ M (.ref (i+3+h.toNat))=some (.lst ((ym (T h.toNat)).map yb)):=by
  unfold vZ;simp only[B.sn h.toNat (by omega),Ua];rw[if_pos (by rw[length_map];exact hl)]
 unfold YQ;simp only[this];rfl
theorem jpn (J:J27 M i n fs t sd SD bd T)(ht:t<=40){o:Int}(o0:0<=o)(o1:o<n)(x0 x7 x8 cU cE cD cA cK cJ cI cH:Option PV) :
  ∃gJ gH M',jkd (r27 i n fs SD x0 x7 x8 (some (.int o)) cU cE cD cA cK cJ cI cH) M= .nx (r27 i n fs SD x0 x7 x8 (some (.int o)) cU cE cD cA cK cJ gJ gH) M'/\J27 M' i n fs t sd SD bd T:=by
 have hon:o.toNat<n:=by omega
 have hT:=J.tl hon;have hl:(T o.toNat).length<64:=by omega
 have hr:∀a∈T o.toNat,0<=a.1/\a.1<16:=λa ha=>jpm (J.un a (J.sub _ hon a ha))
 obtain⟨R,hR⟩:∃R,R=ym (T o.toNat):=⟨_,rfl⟩
 have Rl:R.length<=40:=by rw[hR,(yi _).length_eq];omega
 have Rnd:R.Nodup:=by rw[hR];exact(yi _).nodup_iff.mpr (J.nd _ hon)
 have Rso:Vl R:=by rw[hR];exact yE _
 obtain⟨P,hP⟩:∃P,P=cls R:=⟨_,rfl⟩
 have Pl:P.length<=1600:=by
  have:=UW R
  have:R.length*R.length<=40*40:=Nat.mul_le_mul Rl Rl
  rw[hP];omega
 have e17:jbT [.lst (R.map yb)] M= .ok (.lst (P.map prP)) M:=by rw[jot (by omega),jou Rso Rnd,hP]
 have ek:∀{M'},J27 M' i n fs t sd SD bd T->XZ [.ref i,.int o] M'= .ok (.lst (R.map yb)) M':=λJ'=>by rw[hR];exact UD J'.b o0 o1 hl
 have ec:∀{M'},J27 M' i n fs t sd SD bd T->∃M2,Va [.ref i,.int o] M'= .ok (.lst (P.map prP)) M2/\Ex M' M2:=λJ'=>by rw[hP,hR];exact jeY J'.b o0 o1 hl
 obtain⟨ρ,hρ⟩:∃ρ:En,ρ=r27 i n fs SD x0 x7 x8 (some (.int o)) cU cE cD cA cK cJ (some (.lst (R.map yb))) (some (.lst (P.map prP))):=⟨_,rfl⟩
 have v4:∀M,ya 4 ρ M= .ok (.ref i) M:=λM=>by rw[hρ];rfl
 have v9:∀M,ya 9 ρ M= .ok (.int o) M:=λM=>by rw[hρ];rfl
 have v16:∀M,ya 16 ρ M= .ok (.lst (R.map yb)) M:=λM=>by rw[hρ];rfl
 have v17:∀M,ya 17 ρ M= .ok (.lst (P.map prP)) M:=λM=>by rw[hρ];rfl
 obtain⟨M1,e1,x1⟩:=ec J;have J1:=J.ex x1;obtain⟨M2,e2,x2⟩:=joU J1.b o0 o1 hl hr;have J2:=J1.ex x2
 have l8:conv (T o.toNat)=P.map λp=>p.1.1:=by rw[hP,hR];rfl
 rw[l8]at e2;obtain⟨M3,e3,x3⟩:=ec J2;have J3:=J2.ex x3;have e4:=jin J3.b o0 o1 hl;rw[<-hR]at e4;have g4:(M3.new (.lst (R.map yb))).g M3.n=some (.lst (R.map yb)):=Sto.af;have J5:J27 ((M3.new (.lst (R.map yb))).set M3.n (.lst (R.map yb++[yb (9,9,9)]))) i n fs t sd SD bd T:=by
  rw[UB];exact J3.ex jcU
 refine⟨some (.lst (R.map yb)),some (.lst (P.map prP)),_,?_,J5⟩;unfold jkd;refine jR (v:=.lst (R.map yb)) (M1:=M) (by rw[hR];exact J.at o0 o1 rfl rfl) ?_;refine jR (v:=.lst (P.map prP)) (M1:=M) (by rw[XV (yA (x:=.lst (R.map yb)) (M1:=M) rfl)];exact e17) ?_;show yf _ _ (r27 i n fs SD x0 x7 x8 (some (.int o)) cU cE cD cA cK cJ (some (.lst (R.map yb))) (some (.lst (P.map prP)))) M= .nx (r27 i n fs SD x0 x7 x8 (some (.int o)) cU cE cD cA cK cJ (some (.lst (R.map yb))) (some (.lst (P.map prP)))) _;rw[<-hρ];refine Jd (M1:=M1) (jer (M1:=M) (yr (yn (x:=.lst (R.map yb)) (M1:=M) ?_ (v16 M) (Jm (neg:=true) (z:=.lst (R.map yb)) rfl rfl (vD R) (XJ R)))) (yr (yn (x:=.lst (P.map prP)) (M1:=M1) ?_ (v17 M1) (Jm (neg:=true) (z:=.lst (P.map prP)) rfl rfl (jfU P) (jle P))))) ?_
 ·rw[J.b.aE (xs:=[.int o]) (zs:=[]) (M1:=M) (M2:=M) (v4 M) rfl (yA (v9 M)) rfl];exact ek J
 ·rw[J.b.aE (xs:=[.int o]) (zs:=[]) (M1:=M) (M2:=M) (v4 M) rfl (yA (v9 M)) rfl];exact e1
 refine Jd (M1:=M2) (yr (yn (x:=.lst ((yV (P.map λp=>p.1.1)).map PV.int)) (M1:=M2) ?_ (y:=.lst ((yV (P.map λp=>p.1.1)).map PV.int)) (M2:=M2) ?_ (Jm (neg:=true) (z:=.lst _) rfl rfl (Ys _) (VD _)))) ?_
 ·rw[J1.b.aE (xs:=[.int o]) (zs:=[]) (M1:=M1) (M2:=M1) (v4 M1) rfl (yA (v9 M1)) rfl];exact e2
 ·unfold jcV;have e6:yQ (dIt (ya 17)) jgA [] vy (dOp gIx (ya 0) (dC (.int 0))) ρ M2= .ok (.lst (P.map λp=>PV.int p.1.1)) M2:=by
   refine jK (xs:=P.map prP) (M1:=M2) (vK (v17 M2)) (by rw[length_map];exact szB (by omega)) ?_;exact jW prP (λp=>.int p.1.1) P λp hp=>⟨[some (yb p.1),some (yb p.2)],rfl,rfl,rfl⟩
  rw[e6];simp only[Res.aa]
  have:jcH M2 (.lst (P.map λp=>PV.int p.1.1))=some (P.map λp=>p.1.1):=by
   show xZ (P.map λp=>PV.int p.1.1)=_;rw[show(P.map λp=>PV.int p.1.1)=(P.map λp=>p.1.1).map PV.int by rw[map_map];rfl];exact VA _
  rw[this];simp only[];rw[if_pos (jau λx hx=>by
   rw[<-l8]at hx;obtain⟨a,ha,e⟩:=jeU hx;rw[<-e];exact hr a ha)]
 refine Jd (M1:=M3) (yr (jcy (neg:=true) (R:=[]) (M1:=M3) ?_)) ?_
 ·refine jK (xs:=P.map prP) (M1:=M3) (vK ?_) (by rw[length_map];exact szB (by omega)) ?_
  ·rw[J2.b.aE (xs:=[.int o]) (zs:=[]) (M1:=M2) (M2:=M2) (v4 M2) rfl (yA (v9 M2)) rfl];exact e3
  ·have:=xj (bnd:=ug) (r:=L3.rest [] ρ) (dt:=Ue) (de:=ya 0) (M:=M3) prP (λ_=>false) prP P λp hp=>⟨[some (prP p)],rfl,by
    unfold Ue;rw[hP]at hp;obtain⟨_,_,k1,k2⟩:=UV hp;rw[jeP,jeO,XV (yA (x:=prP p) (M1:=M3) rfl),jbf k1 (k2 Rnd)];rfl,λz=>by cases z⟩
   rw[this,List.filter_eq_nil_iff.mpr λx _=>by simp];rfl
 rw[Jl (v:=.non) (jcW (x:=.ref M3.n) (M1:=M3.new (.lst (R.map yb))) (M2:=M3.new (.lst (R.map yb))) (xs:=[yb (9,9,9)]) ?_ (vj g4) (yA ?_) (jdl g4 (by rw[length_map];exact szB (by omega))))]
 ·rw[J3.b.aE (xs:=[.int o]) (zs:=[]) (M1:=M3) (M2:=M3) (v4 M3) rfl (yA (v9 M3)) rfl];exact e4
 ·rw[vJ];show(if(3:Nat)<=sizeLine then Res.ok (yb (9,9,9)) _ else .bad)=_;exact if_pos (by decide)
theorem jml (J:J27 M i n fs t sd SD bd T)(ht:t<=38)(n1:1<=n)(n6:n<=6)(x0 x7 x8 x9 cU cE cD cA cK cJ cI cH:Option PV) :
  ∃y8 y9 iU eQ eP eN eM eL gJ gH dX M' fN gc T',Js (r27 i n fs SD x0 x7 x8 x9 cU cE cD cA cK cJ cI cH) M= .nx (r27 i n fs dX x0 x7 y8 y9 iU eQ eP eN eM eL gJ gH) M'/\J27 M' i n fs (t+1) fN dX gc T':=by
 obtain⟨h,M1,e1,h0,h1,T1,o1⟩:=ut J.tw (k:=(n:Int)) (by omega) (by omega);have J1:=J.off o1 T1;obtain⟨o,M2,e2,p0,p1,T2,o2⟩:=ut J1.tw (k:=(n:Int)) (by omega) (by omega);have J2:=J1.off o2 T2;obtain⟨k,M3,e3,k0,k1,T3,o3⟩:=ut J2.tw (k:=4) (by decide) (by decide);have J3:=J2.off o3 T3
 obtain⟨ρ,hρ⟩:∃ρ:En,ρ=r27 i n fs SD x0 x7 (some (.int h)) (some (.int o)) (some (.int k)) cE cD cA cK cJ cI cH:=⟨_,rfl⟩
 have hx:∃eQ eP eN eM eL dX M4 fN gc T',sIf (dOr (yj (dOp (eqG false) (ya 10) (dC (.int 0)))) (yj (dOp (eqG false) (ya 5) (xB yc)))) jfN (sIf (yj (dOp (eqG false) (ya 10) (dC (.int 1)))) jhi jhh) ρ M3= .nx (r27 i n fs dX x0 x7 (some (.int h)) (some (.int o)) (some (.int k)) eQ eP eN eM eL cI cH) M4/\J27 M4 i n fs (t+1) fN dX gc T':=by
  have eR:dOr (yj (dOp (eqG false) (ya 10) (dC (.int 0)))) (yj (dOp (eqG false) (ya 5) (xB yc))) ρ M3= .ok (decide (k=0) || decide (SD=[])) M3:=by
   have q1:yj (dOp (eqG false) (ya 10) (dC (.int 0))) ρ M3= .ok (decide (k=0)) M3:=by
    refine yr (yn (x:=.int k) (y:=.int 0) (M1:=M3) (by rw[hρ];rfl) rfl ?_);show some (PV.bl (k==0))=_;congr 2
   rw[jiX,q1];simp only[Res.aa]
   by_cases hk:k=0
   ·rw[decide_eq_true hk,if_pos rfl];rfl
   ·rw[decide_eq_false hk,if_neg (by simp),yr (jcy (neg:=false) (R:=SD) (M1:=M3) (by rw[hρ];rfl))];simp
  by_cases hc:k=0\/SD=[]
  ·obtain⟨eQ,eP,eN,dX,M4,fN,gc,e4,J4⟩:=jpq J3 (by omega) n6 h0 h1 x0 x7 (some (.int o)) (some (.int k)) cE cD cA cK cJ cI cH;refine⟨eQ,eP,eN,cK,cJ,dX,M4,fN,gc,T,jhg (M1:=M3) ?_ (by rw[hρ];exact e4),J4⟩;rw[eR]
   rcases hc with hc|hc
   ·rw[decide_eq_true hc];rfl
   ·rw[decide_eq_true hc,Bool.or_true]
  ·have hk:k≠0:=λz=>hc (.inl z);have hs:SD≠[]:=λz=>hc (.inr z);have t0:dOr (yj (dOp (eqG false) (ya 10) (dC (.int 0)))) (yj (dOp (eqG false) (ya 5) (xB yc))) ρ M3= .ok false M3:=by
    rw[eR,decide_eq_false hk,decide_eq_false hs];rfl
   have q2:yj (dOp (eqG false) (ya 10) (dC (.int 1))) ρ M3= .ok (decide (k=1)) M3:=by
    refine yr (yn (x:=.int k) (y:=.int 1) (M1:=M3) (by rw[hρ];rfl) rfl ?_);show some (PV.bl (k==1))=_;congr 2
   by_cases kZ:k=1
   ·obtain⟨eM,M4,T',e4,J4⟩:=jpp J3 (by omega) p0 p1 hs x0 x7 (some (.int h)) (some (.int k)) cE cD cA cK cJ cI cH;exact⟨cE,cD,cA,eM,cJ,SD,M4,sd,bd,T',jef t0 (jhg (M1:=M3) (by rw[q2,decide_eq_true kZ]) (by rw[hρ];exact e4)),J4.le (by omega)⟩
   ·obtain⟨eL,M4,T',e4,J4⟩:=jpo J3 (by omega) h0 h1 p0 p1 x0 x7 (some (.int k)) cE cD cA cK cJ cI cH;exact⟨cE,cD,cA,cK,eL,SD,M4,sd,bd,T',jef t0 (jef (M1:=M3) (by rw[q2,decide_eq_false kZ]) (by rw[hρ];exact e4)),J4.le (by omega)⟩
 obtain⟨eQ,eP,eN,eM,eL,dX,M4,fN,gc,T',e4,J4⟩:=hx;obtain⟨gJ,gH,M5,e5,J5⟩:=jpn J4 (by omega) p0 p1 x0 x7 (some (.int h)) (some (.int k)) eQ eP eN eM eL cI cH;refine⟨some (.int h),some (.int o),some (.int k),eQ,eP,eN,eM,eL,gJ,gH,dX,M5,fN,gc,T',?_,J5⟩;rw[jqF];refine jhX (v:=.tup [.int h,.int o]) (M1:=M2) (ρ':=r27 i n fs SD x0 x7 (some (.int h)) (some (.int o)) cU cE cD cA cK cJ cI cH) ?_ rfl ?_
 ·rw[vJ,xw (M1:=M1) (x:=.int h) (y:=.int o) (M2:=M2) (by rw[Ym (xw (M1:=M) (x:=.ref 1) (y:=.int n) rfl rfl)];exact e1) (by rw[Ym (xw (M1:=M1) (x:=.ref 1) (y:=.int n) rfl rfl)];exact e2)];simp only[Res.aa];exact if_pos (show 2<=sizeLine by decide)
 refine jR (v:=.int k) (M1:=M3) (by rw[Ym (xw (M1:=M2) (x:=.ref 1) (y:=.int 4) rfl rfl)];exact e3) ?_;show yf _ _ (r27 i n fs SD x0 x7 (some (.int h)) (some (.int o)) (some (.int k)) cE cD cA cK cJ cI cH) M3=_;rw[<-hρ];exact jha e4 e5
end
theorem law_true (ns:List Int)(hl:ns.length<=63):∃M',yu 1 18 jbA [.scr ns] ⟨0,λ_=>none⟩= .ok (.bl true) M':=by
 show Tru (jbA [some (.scr ns),none,none,none,none,none,none,none,none,none,none,none,none,none,none,none,none,none] ⟨0,λ_=>none⟩);obtain⟨M1,e1,T1,n1⟩:=jjR ns;obtain⟨k,M2,e2,k0,k1,T2,o2⟩:=ut T1 (k:=6) (by decide) (by decide)
 obtain⟨n,hn⟩:∃n:Nat,1+k=(n:Int):=⟨(1+k).toNat,by omega⟩
 obtain⟨fs,M3,e3,fl,fb,pw,T3,o3⟩:=jih T2 (crew:=(n:Int)) (most:=(n:Int)) (by omega) (by omega) (by omega)
 obtain⟨M4,e4,B4,n4,u4⟩:∃M4,dIf (yj (dOp (eqG true) (ya 3) (xB yc))) (jiZ 10 JG 2 1 [.p 0,.p 1,.k 0] [] (jb (ya 2) yc) (jb (ya 3) yc)) (jiZ 10 JG 2 0 [.p 0,.p 1,.d 0] [.tup []] (jb (ya 2) yc) yc) [some (.scr ns),some (.ref 1),some (.int n),some (.lst (fs.map PV.int)),none,none,none,none,none,none,none,none,none,none,none,none,none,none] M3= .ok (.ref M3.n) M4/\Bk M4 M3.n n fs [] [] (λ_=>[])/\M4.n=M3.n+3+n/\∀j,j<M3.n->M4.g j=M3.g j:=by
  have eR:yj (dOp (eqG true) (ya 3) (xB yc)) [some (.scr ns),some (.ref 1),some (.int n),some (.lst (fs.map PV.int)),none,none,none,none,none,none,none,none,none,none,none,none,none,none] M3= .ok (!decide (fs=[])) M3:=by
   refine yr (yn (x:=.lst (fs.map PV.int)) (y:=.lst []) (M1:=M3) rfl ?_ ?_)
   ·rw[xG,ju];simp only[Res.aa];exact if_pos (zero_le _)
   ·unfold eqG;rw[show look M3 (.lst (fs.map PV.int))= .lst (fs.map PV.int)from rfl,show look M3 (.lst [])= .lst []from rfl,if_pos ⟨Ys fs,rfl,VD fs⟩];cases fs <;> rfl
  rw[joR,eR];simp only[Res.aa]
  by_cases hf:fs=[]
  ·subst hf;rw[decide_eq_true rfl];obtain⟨M4,e4,r⟩:=jbJ (M:=M3) (n:=n) (fs:=[]) (F:=.tup []) (by omega) (by omega) (λM=>jcN (by omega)) (λM=>rfl);exact⟨M4,e4,r⟩
  ·rw[decide_eq_false hf];obtain⟨M4,e4,r⟩:=jbJ (M:=M3) (n:=n) (fs:=fs) (F:=.lst (fs.map PV.int)) (by omega) (by omega) (λM=>YV pw fb (by omega) (by omega)) (λM=>rfl);exact⟨M4,e4,r⟩
 obtain⟨i,hi⟩:∃i,i=M3.n:=⟨_,rfl⟩
 rw[<-hi]at e4 B4 n4 u4;have i2:2<=i:=by rw[hi];obtain⟨_,_,t⟩:=T3;exact t.n
 have T4:Tw M4:=jgK T3 (u4 0 (by omega)) (u4 1 (by omega)) (by omega);have J5:J27 (M4.new (.lst (seP (λ_=>[]) n))) i n fs 0 [] [] [] (λ_=>[]):=by
  have x:Ex M4 (M4.new (.lst (seP (λ_=>[]) n))):=jcU;exact⟨x.tw T4,B4.ex x,by rw[<-n4];exact Sto.af,by show _<M4.n+1;omega,i2,λh _=>nodup_nil,λh _ a ha=>(by cases ha),nodup_nil,λa=>Iff.rfl,λa ha=>(by cases ha),λa ha=>(by cases ha),le_refl _,le_refl _,le_refl _⟩
 unfold jbA;refine Yc (v:=.ref 1) (M1:=M1) (by simpa[yk,gen]using e1) ?_;simp only[set_cons_succ,set_cons_zero];refine Yc (v:=.int n) (M1:=M2) (by simp[yk,gen,e2,hn]) ?_;simp only[set_cons_succ,set_cons_zero];refine Yc (v:=.lst (fs.map PV.int)) (M1:=M3) (by simpa[yk,gen]using e3) ?_;simp only[set_cons_succ,set_cons_zero];refine Yc (v:=.ref i) (M1:=M4) e4 ?_;simp only[set_cons_succ,set_cons_zero];refine Yc (v:=.lst []) (M1:=M4) ?_ ?_
 ·rw[xG,ju];simp only[Res.aa];exact if_pos (zero_le _)
 simp only[set_cons_succ,set_cons_zero];refine Yc (v:=.ref (i+3+n)) (M1:=M4.new (.lst (seP (λ_=>[]) n))) ?_ ?_
 ·unfold US jcX;have hs:small (n:Int)=true:=vh.mpr ⟨by omega,by omega⟩;have er:uy (jb (ya 2) yc) [some (.scr ns),some (.ref 1),some (.int n),some (.lst (fs.map PV.int)),some (.ref i),some (.lst []),none,none,none,none,none,none,none,none,none,none,none,none] M4= .ok (.fix (vd 0 n)) M4:=by
   unfold uy;simp only[jp,jz,jF,ju,Res.aa,hs,if_true,Int.toNat_natCast]
  rw[er];simp only[Res.aa];rw[if_pos (show yp (.fix (vd 0 n)) M4<=sizeLine by show(vd 0 n).length+1<=_;rw[vn];exact le_of_lt (jap (by omega))),Yk (all:=vd 0 n) (xs:=vd 0 n) (i:=0) (n:=yp (.fix (vd 0 n)) M4) rfl (lt_succ_self _)];have ecp:=jW (bnd:=ug) (r:=L3.rest [] [some (.scr ns),some (.ref 1),some (.int n),some (.lst (fs.map PV.int)),some (.ref i),some (.lst []),none,none,none,none,none,none,none,none,none,none,none,none]) (dt:=vy) (de:=xB yc) (M:=M4) (λk:Nat=>PV.int (0+(k:Int))) (λ_=>.lst []) (List.range n) λa ha=>⟨_,rfl,rfl,by
   rw[xG,ju];simp only[Res.aa];exact if_pos (zero_le _)⟩
  rw[show vd 0 n=(List.range n).map (λk:Nat=>PV.int (0+(k:Int)))from rfl,ecp];simp only[Res.aa];rw[n4];rfl
 simp only[set_cons_succ,set_cons_zero]
 obtain⟨ρ6,M6,e6,y7,y8,y9,iU,eQ,eP,eN,eM,eL,gJ,gH,SD,sd,bd,T,hρ6,J6⟩:=vV (g:=gN 7) (db:=Js)
  (λj ρ M=>∃y7 y8 y9 iU eQ eP eN eM eL gJ gH SD sd bd T,ρ=r27 i n fs SD (some (.scr ns)) y7 y8 y9 iU eQ eP eN eM eL gJ gH/\J27 M i n fs j sd SD bd T)
  (vd 0 36) 0 (r27 i n fs [] (some (.scr ns)) none none none none none none none none none none none) (M4.new (.lst (seP (λ_=>[]) n)))
  ⟨none,none,none,none,none,none,none,none,none,none,none,[],[],[],λ_=>[],rfl,J5⟩ (by
   rintro j z hz ρ M ⟨y7,y8,y9,iU,eQ,eP,eN,eM,eL,gJ,gH,SD,sd,bd,T,rfl,J⟩;have hq:j<36:=by
    have:=(List.getElem?_eq_some_iff.mp hz).1
    rw[vn]at this;exact this
   rw[zero_add]at J ⊢;obtain⟨z8,z9,z10,z11,z12,z13,z14,z15,z16,z17,dX,M',fN,gc,T',e',J'⟩:=jml J (by omega) (by omega) (by omega) (some (.scr ns)) (some z) y8 y9 iU eQ eP eN eM eL gJ gH
   exact⟨_,_,M',rfl,e',some z,z8,z9,z10,z11,z12,z13,z14,z15,z16,z17,dX,fN,gc,T',rfl,J'⟩)
 rw[vn,zero_add]at J6;refine joH (M1:=M4.new (.lst (seP (λ_=>[]) n))) (xs:=vd 0 36) rfl e6 ?_;subst hρ6;have hz:(0:Int)<n:=by omega
 have hT:=J6.tl (h:=(0:Int).toNat) (by omega);refine joG (M1:=M6) (yn (x:=.lst ((ym (T (0:Int).toNat)).map yb)) (M1:=M6) ?_ (J6.at (Int.le_refl 0) hz rfl rfl) (Jm (neg:=false) (z:=.lst ((ym (T (0:Int).toNat)).map yb)) rfl rfl (vD _) (XJ _)));rw[J6.b.aE (xs:=[.int 0]) (zs:=[]) (M1:=M6) (M2:=M6) rfl rfl rfl rfl];exact UD J6.b (Int.le_refl 0) hz (by omega)
section
variable (P:Program)(w:World)(K:Frag)(mg:tM0)(base:Heap)(C:Nat->Addr)
abbrev jah:=CalD P w K mg base (tb w K C) "_law_draw" 1 ["_law_town_here","_law_many"] [] 2 0 [.p 0,.p 1] [] vA
abbrev jdp:=CalD P w K mg base (tb w K C) "is_whole" 1 ["thing"] [] 1 0 [.p 0] [] VU
abbrev jag:=CalD P w K mg base (tb w K C) "is_within" 2 ["thing","least","most"] [] 3 0 [.p 0,.p 1,.p 2] [] XY
abbrev jdt:=CalD P w K mg base (tb w K C) "check_within" 3 ["thing","least","most"] [] 3 0 [.p 0,.p 1,.p 2] [] Vb
abbrev jdo:=CalD P w K mg base (tb w K C) "is_house" 3 ["thing","houses"] [] 2 0 [.p 0,.p 1] [] VT
abbrev jjy:=CalD P w K mg base (tb w K C) "is_rising" 1 ["numbers"] [] 1 0 [.p 0] [] jbR
abbrev jjE:=CalD P w K mg base (tb w K C) "check_houses" 4 ["houses"] [] 1 0 [.p 0] [] jjK
abbrev jjH:=CalD P w K mg base (tb w K C) "check_some_houses" 4 ["some","houses","most"] [] 3 0 [.p 0,.p 1,.p 2] [] Vc
abbrev jjB:=CalD P w K mg base (tb w K C) "check_house" 4 ["house","houses"] [] 2 0 [.p 0,.p 1] [] jfr
abbrev jjw:=CalD P w K mg base (tb w K C) "is_number" 3 ["thing"] [] 1 0 [.p 0] [] VW
abbrev jjv:=MetD P w K mg base (tb w K C) 10 "bind" 1 ["self","house","place","number"] [] 4 0 [.p 0,.p 1,.p 2,.p 3] [] jfp
abbrev Yo:=MetD P w K mg base (tb w K C) 10 "check_is_house" 5 ["self","house"] [] 2 0 [.p 0,.p 1] [] JH
abbrev jdq:=CalD P w K mg base (tb w K C) "is_saying" 2 ["thing"] [] 1 0 [.p 0] [] VV
abbrev jjs:=CalD P w K mg base (tb w K C) "pairs_of" 1 ["rows"] [] 1 0 [.p 0] [] VS
abbrev jdr:=MetD P w K mg base (tb w K C) 10 "known" 6 ["self","house"] [] 2 0 [.p 0,.p 1] [] XZ
abbrev jds:=MetD P w K mg base (tb w K C) 10 "clashes" 7 ["self","house"] [] 2 0 [.p 0,.p 1] [] Va
abbrev jjq:=CalD P w K mg base (tb w K C) "is_pair" 1 ["thing"] [] 1 0 [.p 0] [] jfm
abbrev jjC:=CalD P w K mg base (tb w K C) "_law_clashes" 1 ["_law_rows"] [] 1 0 [.p 0] [] jbT
abbrev jjA:=CalD P w K mg base (tb w K C) "_law_liars" 2 ["_law_town_here","_law_crew","_law_most"] [] 3 0 [.p 0,.p 1,.p 2] [] jbS
abbrev jjx:=CalD P w K mg base (tb w K C) "_law_pick" 2 ["_law_town_here","_law_some"] [] 2 0 [.p 0,.p 1] [] YC
abbrev jjz:=CalD P w K mg base (tb w K C) "_law_town" 1 ["_law_script"] [] 1 0 [.p 0] [] jfq
abbrev jjr:=CalD P w K mg base (tb w K C) "is_clash" 3 ["pair"] [] 1 0 [.p 0] [] jfn
abbrev jjG:=MetD P w K mg base (tb w K C) 10 "convicted" 8 ["self","house"] [] 2 0 [.p 0,.p 1] [] jfu
abbrev jjF:=MetD P w K mg base (tb w K C) 10 "known" 6 ["self","house"] [] 2 0 [.p 0,.p 1] [] jft
abbrev jjD:=MetD P w K mg base (tb w K C) 10 "pass_on" 6 ["self","house","other"] [] 3 0 [.p 0,.p 1,.p 2] [] jfs
abbrev jjt:=MetD P w K mg base (tb w K C) 10 "say" 6 ["self","house","place","number"] [] 4 0 [.p 0,.p 1,.p 2,.p 3] [] jbQ
abbrev jju:=MetD P w K mg base (tb w K C) 10 "show" 6 ["self","house","row"] [] 3 0 [.p 0,.p 1,.p 2] [] jfo
abbrev jbO:=NewD P w K mg base (tb w K C) 10 "Book" 5 ["self","houses","liars"] [] 2 0 [.p 0,.p 1,.d 0] [.tup []] JG
abbrev uh:=NewD P w K mg base (tb w K C) 10 "Book" 5 ["self","houses","liars"] ["liars"] 2 1 [.p 0,.p 1,.k 0] [] JG
end
theorem jnT {P:Program}{w:World}{K:Frag}{mg:tM0}{base:Heap}{C:Nat->Addr}{f:Addr}{fd:FuncData}(F:Fun K "_law_town" "_law_town" jdX f fd)(cq:mg "list" = none):FnOk P w K mg base (CX1 P w) 1 f fd ["_law_script"] (spD (tb w K C) jfq):=
 have hT:(tb w K C).K=K:=rfl
 jI F jmJ λbV A outer s H E hr=>(jf (jt (YN (ja (jlD (jU (jpY hT (hu0 hr)) (qv 0) (xz jd) (jS _)) (Vu (jlt hT) rfl cq UZ (ja (qv 0) jd)) (YN (ja jm jd))) (ja jm jd)))))
theorem jnS {P:Program}{w:World}{K:Frag}{mg:tM0}{base:Heap}{C:Nat->Addr}{f:Addr}{fd:FuncData}(F:Fun K "_law_draw" "_law_draw" jdW f fd)(bR:mg "len" = none):FnOk P w K mg base (CX1 P w) 1 f fd ["_law_town_here","_law_many"] (spD (tb w K C) vA):=
 have hT:(tb w K C).K=K:=rfl
 jI F JK λbV A outer s H E hr=>(je (jD (i:=2) JK.nd rfl (Or.inl rfl) (yw (yS hT) (qv 0) jm (λ_ _=>rfl)))
   (je (YK (jw (Jb hT) (yw (yS hT) (qv 0) jm (λ_ _=>rfl)) jm) (qv 0) jm)
   (je (jD (i:=3) JK.nd rfl (Or.inl rfl) (jw (Vv) (yw (yS hT) (qv 0) jm (λ_ _=>rfl)) (jj (JC hT) rfl bR vM (ja (qv 2) jd))))
   (je (jD (i:=4) JK.nd rfl (Or.inl rfl) (yw (yS hT) (qv 2) (qv 3) (λ_ _=>rfl)))
   (je (yX (jU (jrm) (qv 4) jm (jS _)) (je (YK (jw (jhW) (qv 4) (qv 1)) (qv 2) (qv 3))
   (jf (jt (jw (Vv) (qv 4) (qv 1))))) jG)
   (je (jD (i:=5) JK.nd rfl (Or.inl rfl) (jw (Vv) (jw (Jb hT) (qv 4) (jw (jlG) jm (yw (yS hT) (qv 0) jm (λ_ _=>rfl)))) jm))
   (je (jD (i:=5) JK.nd rfl (Or.inl rfl) (jw (Vv) (jw (jqa) (qv 5) jm) jm))
   (jf (jt (jw (Vv) (jw (jhW) (jw (Vv) (jw (Jb hT) (jw (jlG) (jw (jhW) (qv 5) jm) jm) (qv 5)) jm) jm) (qv 1)))))))))))
theorem jnV {P:Program}{w:World}{K:Frag}{mg:tM0}{base:Heap}{C:Nat->Addr}{f:Addr}{fd:FuncData}(F:Fun K "_law_liars" "_law_liars" jdZ f fd)(cw:jah P w K mg base C)(bR:mg "len" = none)(bY:mg "range" = none):FnOk P w K mg base (CX1 P w) 2 f fd ["_law_town_here","_law_crew","_law_most"] (spD (tb w K C) jbS):=
 have hT:(tb w K C).K=K:=rfl
 Jq (jbw F jcf λbV A outer s H E hr=>(je (jD (i:=3) jcf.nd rfl (Or.inl rfl) (YN jd))
   (je (Xk 200 PassesOwn.never rfl (YL rfl bY (ja (qv 1) jd)) (yD (i:=4) jcf.nd rfl (Or.inl rfl)) (jf (yX (QW.qt (jcj (jU (joj) (jj (JC hT) rfl bR vM (ja (qv 3) jd)) (qv 2) (jS _)) (Uo (jU (Xu hT hr.units) (jh cw (hr.mono (by decide)) rfl jx (ja (qv 0) (ja jm jd)) jg) jm (jS _))))) (jf (jL (jhu PySem.F.slot_list_append PySem.F.type_list_append Xw (qv 3) (ja (qv 4) jd)))) jG)))
   (jf (jt (jnd (qv 3)))))))
theorem jnK {P:Program}{w:World}{K:Frag}{mg:tM0}{base:Heap}{C:Nat->Addr}{f:Addr}{fd:FuncData}(F:Fun K "is_whole" "is_whole" jdQ f fd)(e8:mg "bool" = none)(gG:mg "int" = none)(bK:mg "isinstance" = none):FnOk P w K mg base (CX1 P w) 1 f fd ["thing"] (spD (tb w K C) VU):=
 have hT:(tb w K C).K=K:=rfl
 jI F jmC λbV A outer s H E hr=>(jf (jt (JQ (jj (jbK hT) rfl bK jH (ja (qv 0) (ja (jfO rfl gG joX) jd))) (Xm (jnb (jj (jbK hT) rfl bK jH (ja (qv 0) (ja (jfO rfl e8 jlp) jd))))))))
theorem jnR {P:Program}{w:World}{K:Frag}{mg:tM0}{base:Heap}{C:Nat->Addr}{f:Addr}{fd:FuncData}(F:Fun K "is_within" "is_within" jdV f fd)(dO:jdp P w K mg base C):FnOk P w K mg base (CX1 P w) 2 f fd ["thing","least","most"] (spD (tb w K C) XY):=
 have hT:(tb w K C).K=K:=rfl
 jI F jmI λbV A outer s H E hr=>(jf (jt (JQ (jh dO (hr.mono (by decide)) rfl jB (ja (qv 0) jd) jg) (Xm (jhx (jqb) (jqb) (qv 1) (qv 0) (qv 2))))))
theorem job {P:Program}{w:World}{K:Frag}{mg:tM0}{base:Heap}{C:Nat->Addr}{f:Addr}{fd:FuncData}(F:Fun K "check_within" "check_within" jec f fd)(cS:jag P w K mg base C):FnOk P w K mg base (CX1 P w) 3 f fd ["thing","least","most"] (spD (tb w K C) Vb):=
 have hT:(tb w K C).K=K:=rfl
 jI F jmN λbV A outer s H E hr=>(jf (yX (xL (xK hT (jh cS (hr.mono (by decide)) rfl jB (ja (qv 0) (ja (qv 1) (ja (qv 2) jd))) jg))) (jf xM) jG))
theorem joa {P:Program}{w:World}{K:Frag}{mg:tM0}{base:Heap}{C:Nat->Addr}{f:Addr}{fd:FuncData}(F:Fun K "check_houses" "check_houses" jeb f fd){cf:Tok}(cm:mg "MOST_HOUSES" = some (.int 16 cf))(dQ:jdt P w K mg base C):FnOk P w K mg base (CX1 P w) 4 f fd ["houses"] (spD (tb w K C) jjK):=
 have hT:(tb w K C).K=K:=rfl
 jI F jmM λbV A outer s H E hr=>(jf (jL (jh dQ (hr.mono (by decide)) rfl jB (ja (qv 0) (ja jm (ja (Ut rfl cm) jd))) jg)))
theorem jnJ {P:Program}{w:World}{K:Frag}{mg:tM0}{base:Heap}{C:Nat->Addr}{f:Addr}{fd:FuncData}(F:Fun K "is_house" "is_house" jdP f fd)(cS:jag P w K mg base C):FnOk P w K mg base (CX1 P w) 3 f fd ["thing","houses"] (spD (tb w K C) VT):=
 have hT:(tb w K C).K=K:=rfl
 jI F jmB λbV A outer s H E hr=>(jf (jt (jh cS (hr.mono (by decide)) rfl jB (ja (qv 0) (ja jm (ja (jw (jlF) (qv 1) jm) jd))) jg)))
theorem jnQ {P:Program}{w:World}{K:Frag}{mg:tM0}{base:Heap}{C:Nat->Addr}{f:Addr}{fd:FuncData}(F:Fun K "is_rising" "is_rising" jaz f fd)(cT:mg "all" = none)(gF:mg "zip" = none):FnOk P w K mg base (CX1 P w) 1 f fd ["numbers"] (spD (tb w K C) jbR):=
 have hT:(tb w K C).K=K:=rfl
 jI F jmH λbV A outer s H E hr=>(jf (jt (jj (jji rfl) rfl cT jdg (ja (xV (osc:=(jc jaz)) (own:=["ahead","number"]) (fr:=[]) (js:=[]) (jmd (T:=tb w K C)) rfl rfl (by refine⟨rfl,?_,?_,?_,?_,?_⟩ <;> decide +kernel) rfl (jmY hT rfl gF (ja (qv 0) (ja (xo hT (qv 0) (xT jm) xU) jd))) (λ_ _ _=>(show PG _ _ (jkX K 2 (XF (vc 0) (XF (vc 1) jkZ)))from(jcs rfl (vS (jJ (i:=0) (show Nodup (["ahead","number"]:List Str)from by decide +kernel) rfl (Or.inl rfl)) (vS (jJ (i:=1) (show Nodup (["ahead","number"]:List Str)from by decide +kernel) rfl (Or.inl rfl)) Uy))))) (λ_ _ _=>ul) (λ_ _ _=>(JP (joj) (qv 0) (qv 1) (jS _)))) jd))))
theorem jof {P:Program}{w:World}{K:Frag}{mg:tM0}{base:Heap}{C:Nat->Addr}{f:Addr}{fd:FuncData}(F:Fun K "check_some_houses" "check_some_houses" jaE f fd)(dN:jdo P w K mg base C)(gu:jjy P w K mg base C)(cT:mg "all" = none)(bK:mg "isinstance" = none)(bR:mg "len" = none)(cq:mg "list" = none)(cc:mg "tuple" = none):FnOk P w K mg base (CX1 P w) 4 f fd ["some","houses","most"] (spD (tb w K C) Vc):=
 have hT:(tb w K C).K=K:=rfl
 jI F jmR λbV A outer s H E hr=>(je (yX (QW.qt (Yr (xL (xK hT (jj (jbK hT) rfl bK jH (ja (qv 0) (ja (ve (ja (jfO rfl cq UZ) (ja (jfO rfl cc XW) jd))) jd))))) (uC (jU (jrl) (jj (JC hT) rfl bR vM (ja (qv 0) jd)) (qv 2) (jS _))))) (jf xM) jG)
   (jf (yX (QW.qt (Yr (xL (xK hT (jj (jji rfl) rfl cT jdg (ja (xV (osc:=(jc jaE)) (own:=["house"]) (fr:=["houses"]) (js:=[1]) JB rfl rfl (by refine⟨rfl,?_,?_,?_,?_,?_⟩ <;> decide +kernel) rfl (jna hT (qv 0)) (λ_ _ _=>(jJ (i:=0) (show Nodup (["house","houses"]:List Str)from by decide +kernel) rfl (Or.inl rfl))) (λ_ _ _=>ul) (λ_ _ _=>(jh dN (hr.mono (by decide)) rfl jx (ja (qv 0) (ja (qv 1) jd)) jg))) jd)))) (uC (xL (xK hT (jh gu (hr.mono (by decide)) rfl jB (ja (qv 0) jd) jg)))))) (jf xM) jG)))
theorem jod {P:Program}{w:World}{K:Frag}{mg:tM0}{base:Heap}{C:Nat->Addr}{f:Addr}{fd:FuncData}(F:Fun K "__init__" "Book.__init__" Xa f fd)(bP:jn K (C 10) "bound")(bT:jn K (C 10) "liars")(bL:jn K (C 10) "said")(bJ:jn K (C 10) "seen")(gA:jjE P w K mg base C)(gE:jjH P w K mg base C)(cq:mg "list" = none)(bY:mg "range" = none)(bI:Cls K (C 10)):FnOk P w K mg base (CX1 P w) 5 f fd ["self","houses","liars"] (spD (tb w K C) JG):=
 have hT:(tb w K C).K=K:=rfl
 jI F jmP λbV A outer s H E hr=>(je (jL (jh gA (hr.mono (by decide)) rfl jB (ja (qv 1) jd) jg))
   (je (jL (jh gE (hr.mono (by decide)) rfl jB (ja (qv 2) (ja (qv 1) (ja (qv 1) jd))) jg))
   (je (Uq hT bI bT (qv 0) (Vu (jpa hT) rfl cq UZ (ja (qv 2) jd)))
   (je (Uq hT bI bL (qv 0) Us)
   (je (Uq hT bI bP (qv 0) Us)
   (jf (Uq hT bI bJ (qv 0) (xV (osc:=(jc Xa)) (own:=["house"]) (fr:=[]) (js:=[]) JB rfl rfl (by refine⟨rfl,?_,?_,?_,?_,?_⟩ <;> decide +kernel) rfl (YL rfl bY (ja (qv 1) jd)) (λ_ _ _=>(jJ (i:=0) (show Nodup (["house"]:List Str)from by decide +kernel) rfl (Or.inl rfl))) (λ_ _ _=>ul) (λ_ _ _=>Us)))))))))
theorem jnP {P:Program}{w:World}{K:Frag}{mg:tM0}{base:Heap}{C:Nat->Addr}{f:Addr}{fd:FuncData}(F:Fun K "_law_pick" "_law_pick" jdU f fd)(cw:jah P w K mg base C)(bR:mg "len" = none):FnOk P w K mg base (CX1 P w) 2 f fd ["_law_town_here","_law_some"] (spD (tb w K C) YC):=
 have hT:(tb w K C).K=K:=rfl
 jI F jmG λbV A outer s H E hr=>(jf (jt (yw (yS hT) (qv 1) (jh cw (hr.mono (by decide)) rfl jB (ja (qv 0) (ja (jj (JC hT) rfl bR vM (ja (qv 1) jd)) jd)) jg) (λ_ _=>rfl))))
theorem jnW {P:Program}{w:World}{K:Frag}{mg:tM0}{base:Heap}{C:Nat->Addr}{f:Addr}{fd:FuncData}(F:Fun K "check_house" "check_house" jea f fd)(dN:jdo P w K mg base C):FnOk P w K mg base (CX1 P w) 4 f fd ["house","houses"] (spD (tb w K C) jfr):=
 have hT:(tb w K C).K=K:=rfl
 jI F jmL λbV A outer s H E hr=>(jf (yX (xL (xK hT (jh dN (hr.mono (by decide)) rfl jB (ja (qv 0) (ja (qv 1) jd)) jg))) (jf xM) jG))
theorem jog {P:Program}{w:World}{K:Frag}{mg:tM0}{base:Heap}{C:Nat->Addr}{f:Addr}{fd:FuncData}(F:Fun K "check_is_house" "Book.check_is_house" jee f fd)(bJ:jn K (C 10) "seen")(gx:jjB P w K mg base C)(bR:mg "len" = none)(bI:Cls K (C 10)):FnOk P w K mg base (CX1 P w) 5 f fd ["self","house"] (spD (tb w K C) JH):=
 have hT:(tb w K C).K=K:=rfl
 jI F jmS λbV A outer s H E hr=>(jf (jL (jh gx (hr.mono (by decide)) rfl jB (ja (qv 1) (ja (jj (JC hT) rfl bR vM (ja (jX hT bI bJ (qv 0)) jd)) jd)) jg)))
theorem jnO {P:Program}{w:World}{K:Frag}{mg:tM0}{base:Heap}{C:Nat->Addr}{f:Addr}{fd:FuncData}(F:Fun K "is_number" "is_number" jdT f fd){cL:Tok}(cv:mg "FARTHEST" = some (.int 1000000 cL))(cS:jag P w K mg base C):FnOk P w K mg base (CX1 P w) 3 f fd ["thing"] (spD (tb w K C) VW):=
 have hT:(tb w K C).K=K:=rfl
 jI F jmF λbV A outer s H E hr=>(jf (jt (jh cS (hr.mono (by decide)) rfl jB (ja (qv 0) (ja (jnc (Ut rfl cv)) (ja (Ut rfl cv) jd))) jg)))
theorem jnN {P:Program}{w:World}{K:Frag}{mg:tM0}{base:Heap}{C:Nat->Addr}{f:Addr}{fd:FuncData}(F:Fun K "bind" "Book.bind" jdS f fd)(bP:jn K (C 10) "bound")(bI:Cls K (C 10)):FnOk P w K mg base (CX1 P w) 1 f fd ["self","house","place","number"] (spD (tb w K C) jfp):=
 have hT:(tb w K C).K=K:=rfl
 jI F jmE λbV A outer s H E hr=>(je (yX (jU (Xs hT hr.units) (jhv (hu1 hr) (jX hT bI bP (qv 0)) (ja (qv 1) (ja (qv 2) jd)) (qv 3) ⟨rfl,rfl,rfl,rfl⟩) (qv 3) (jS _)) (jf xM) jG)
   (jf (jhn (hu1 hr) (qv 3) (jX hT bI bP (qv 0)) (ja (qv 1) (ja (qv 2) jd)))))
theorem jnI {P:Program}{w:World}{K:Frag}{mg:tM0}{base:Heap}{C:Nat->Addr}{f:Addr}{fd:FuncData}(F:Fun K "say" "Book.say" jdO f fd){cp:Tok}(cu:mg "LAST_PLACE" = some (.int 99 cp))(bT:jn K (C 10) "liars")(bL:jn K (C 10) "said")(dQ:jdt P w K mg base C)(gr:jjw P w K mg base C)(gq:jjv P w K mg base C)(cb:Yo P w K mg base C)(bI:Cls K (C 10)):FnOk P w K mg base (CX1 P w) 6 f fd ["self","house","place","number"] (spD (tb w K C) jbQ):=
 have hT:(tb w K C).K=K:=rfl
 jI F jhd λbV A outer s H E hr=>(je (jL (yG cb (hr.mono (by decide)) jB (qv 0) (ja (qv 1) jd) jg))
   (je (jL (jh dQ (hr.mono (by decide)) rfl jB (ja (qv 2) (ja jm (ja (Ut rfl cu) jd))) jg))
   (je (yX (xL (xK hT (jh gr (hr.mono (by decide)) rfl jB (ja (qv 3) jd) jg))) (jf xM) jG)
   (je (yX (jU (jet hT (jeB hr)) (qv 1) (jX hT bI bT (qv 0)) (by with_unfolding_all rfl)) (jf (jL (yG gq (hr.mono (by decide)) jB (qv 0) (ja (qv 1) (ja (qv 2) (ja (qv 3) jd))) jg))) jG)
   (jki (i:=4) (hu1 hr) jhd.nd rfl (Or.inl rfl) (ja (qv 1) (ja (qv 2) (ja (qv 3) jd))) (Xq rfl (by first|exact Or.inl rfl|exact Or.inr (Or.inl rfl)|exact Or.inr (Or.inr rfl))) Uu (jX hT bI bL (qv 0))
   (jf (jt (qv 4))))))))
theorem jnM {P:Program}{w:World}{K:Frag}{mg:tM0}{base:Heap}{C:Nat->Addr}{f:Addr}{fd:FuncData}(F:Fun K "is_saying" "is_saying" jay f fd)(dO:jdp P w K mg base C)(cT:mg "all" = none)(bK:mg "isinstance" = none)(bR:mg "len" = none)(cc:mg "tuple" = none):FnOk P w K mg base (CX1 P w) 2 f fd ["thing"] (spD (tb w K C) VV):=
 have hT:(tb w K C).K=K:=rfl
 jI F jmD λbV A outer s H E hr=>(jf (jt (JQ (jj (jbK hT) rfl bK jH (ja (qv 0) (ja (jfO rfl cc XW) jd))) (JQ (JP (Xu hT hr.units) (jj (JC hT) rfl bR vM (ja (qv 0) jd)) jm (jS _)) (Xm (jj (jji rfl) rfl cT jdg (ja (xV (osc:=(jc jay)) (own:=["part"]) (fr:=[]) (js:=[]) JB rfl rfl (by refine⟨rfl,?_,?_,?_,?_,?_⟩ <;> decide +kernel) rfl (jmZ hT (qv 0)) (λ_ _ _=>(jJ (i:=0) (show Nodup (["part"]:List Str)from by decide +kernel) rfl (Or.inl rfl))) (λ_ _ _=>ul) (λ_ _ _=>(jh dO (hr.mono (by decide)) rfl jx (ja (qv 0) jd) jg))) jd)))))))
theorem jnL {P:Program}{w:World}{K:Frag}{mg:tM0}{base:Heap}{C:Nat->Addr}{f:Addr}{fd:FuncData}(F:Fun K "show" "Book.show" jdR f fd)(bL:jn K (C 10) "said")(bJ:jn K (C 10) "seen")(dA:jdq P w K mg base C)(cb:Yo P w K mg base C)(NR:Yt K=true)(bI:Cls K (C 10)):FnOk P w K mg base (CX1 P w) 6 f fd ["self","house","row"] (spD (tb w K C) jfo):=
 have hT:(tb w K C).K=K:=rfl
 jI F jhe λbV A outer s H E hr=>(je (jL (yG cb (hr.mono (by decide)) jB (qv 0) (ja (qv 1) jd) jg))
   (je (yX (QW.qt (Yr (xL (xK hT (jh dA (hr.mono (by decide)) rfl jB (ja (qv 2) jd) jg))) (uC (jaK hT (hu1 hr) (qv 2) (jX hT bI bL (qv 0)) (by with_unfolding_all rfl))))) (jf xM) jG)
   (je (jD (i:=3) jhe.nd rfl (Or.inl rfl) (yw (yS hT) (jX hT bI bJ (qv 0)) (qv 1) (λ_ _=>rfl)))
   (jf (Vt NR (hu1 hr) Uu (qv 3) (qv 2))))))
theorem jnZ {P:Program}{w:World}{K:Frag}{mg:tM0}{base:Heap}{C:Nat->Addr}{f:Addr}{fd:FuncData}(F:Fun K "pass_on" "Book.pass_on" jaC f fd)(bJ:jn K (C 10) "seen")(cb:Yo P w K mg base C)(bR:mg "len" = none)(NR:Yt K=true)(bI:Cls K (C 10)):FnOk P w K mg base (CX1 P w) 6 f fd ["self","house","other"] (spD (tb w K C) jfs):=
 have hT:(tb w K C).K=K:=rfl
 Jq (jbw F Uj λbV A outer s H E hr=>(je (jL (yG cb (hr.mono (by decide)) jx (qv 0) (ja (qv 1) jd) jg))
   (je (jL (yG cb (hr.mono (by decide)) jx (qv 0) (ja (qv 2) jd) jg))
   (je (jD (i:=3) Uj.nd rfl (Or.inr rfl) (yw (yS hT) (jX hT bI bJ (qv 0)) (qv 2) (λ_ _=>rfl)))
   (je (jck (osc:=(jc jaC)) (xr:="row") (xs':="seen") (j:=3) (i:=4) (hu1 hr) rfl rfl (by refine⟨rfl,?_,?_,?_,?_,?_⟩ <;> decide +kernel) rfl Uj.nd rfl rfl (yw (yS hT) (jX hT bI bJ (qv 0)) (qv 1) (λ_ _=>rfl)) (λ_ _ _=>(jJ (i:=0) (show Nodup (["row","seen"]:List Str)from by decide +kernel) rfl (Or.inl rfl))) (λ_ _ _=>(Xq rfl (by first|exact Or.inl rfl|exact Or.inr (Or.inl rfl)|exact Or.inr (Or.inr rfl)))) (λ_ _ _=>(Xq rfl (by first|exact Or.inl rfl|exact Or.inr (Or.inl rfl)|exact Or.inr (Or.inr rfl)))) (λ_ _ _=>(Xq rfl (by first|exact Or.inl rfl|exact Or.inr (Or.inl rfl)|exact Or.inr (Or.inr rfl)))) (by with_unfolding_all rfl) rfl)
   (je (Xk 200 PassesOwn.never rfl (yR (qv 4)) (yD (i:=5) Uj.nd rfl (Or.inl rfl)) (jf (Vt NR (hu1 hr) Uu (qv 3) (qv 5))))
   (jf (jt (jj (JC hT) rfl bR vM (ja (qv 4) jd))))))))))
theorem jnY {P:Program}{w:World}{K:Frag}{mg:tM0}{base:Heap}{C:Nat->Addr}{f:Addr}{fd:FuncData}(F:Fun K "_law_clashes" "_law_clashes" jaB f fd) :FnOk P w K mg base (CX1 P w) 1 f fd ["_law_rows"] (spD (tb w K C) jbT):=
 have hT:(tb w K C).K=K:=rfl
 Jq (jbw F Ui λbV A outer s H E hr=>(je (jD (i:=1) Ui.nd rfl (Or.inl rfl) (xz jd))
   (je (Xk 200 PassesOwn.never rfl (yR (qv 0)) (yD (i:=2) Ui.nd rfl (Or.inr rfl)) (jf (jD (i:=1) Ui.nd rfl (Or.inl rfl) (jw (Jb hT) (qv 1) (xV (osc:=(jc jaB)) (own:=["_law_two"]) (fr:=["_law_one"]) (js:=[2]) JB rfl rfl (by refine⟨rfl,?_,?_,?_,?_,?_⟩ <;> decide +kernel) rfl (yR (qv 0)) (λ_ _ _=>(jJ (i:=0) (show Nodup (["_law_two","_law_one"]:List Str)from by decide +kernel) rfl (Or.inl rfl))) (λ_ _ _=>(uY (QW.qt (jcj (jU (Xu hT hr.units) (xo hT (qv 1) xU (xT jm)) (xo hT (qv 0) xU (xT jm)) (jS _)) (Uo (jU (joj) (yw (yS hT) (qv 1) jm (λ_ _=>rfl)) (yw (yS hT) (qv 0) jm (λ_ _=>rfl)) (jS _))))))) (λ_ _ _=>(ve (ja (qv 1) (ja (qv 0) jd)))))))))
   (jf (jt (qv 1))))))
theorem jnU {P:Program}{w:World}{K:Frag}{mg:tM0}{base:Heap}{C:Nat->Addr}{f:Addr}{fd:FuncData}(F:Fun K "known" "Book.known" jdY f fd)(bJ:jn K (C 10) "seen")(cb:Yo P w K mg base C)(bO:mg "sorted" = none)(bI:Cls K (C 10)):FnOk P w K mg base (CX1 P w) 6 f fd ["self","house"] (spD (tb w K C) XZ):=
 have hT:(tb w K C).K=K:=rfl
 jI F jmK λbV A outer s H E hr=>(je (jL (yG cb (hr.mono (by decide)) jB (qv 0) (ja (qv 1) jd) jg))
   (jf (jt (jj (jgC rfl) rfl bO xI (ja (yw (yS hT) (jX hT bI bJ (qv 0)) (qv 1) (λ_ _=>rfl)) jd)))))
theorem jnH {P:Program}{w:World}{K:Frag}{mg:tM0}{base:Heap}{C:Nat->Addr}{f:Addr}{fd:FuncData}(F:Fun K "pairs_of" "pairs_of" jax f fd)(cy:mg "enumerate" = none):FnOk P w K mg base (CX1 P w) 1 f fd ["rows"] (spD (tb w K C) VS):=
 have hT:(tb w K C).K=K:=rfl
 jI F jmA λbV A outer s H E hr=>(jf (jt (jaN (osc:=(jc jax)) (own:=["at","row","other"]) (fr:=["rows"]) (js:=[0]) (jdC (by decide)) rfl rfl (by refine⟨rfl,?_,?_,?_,?_,?_⟩ <;> decide +kernel) rfl (jkk rfl cy (ja (qv 0) jd)) (λ_ _ _=>(Ur hT rfl (xn (yD (i:=0) (show Nodup (["at","row","other","rows"]:List Str)from by decide +kernel) rfl (Or.inl rfl)) (xn (yD (i:=1) (show Nodup (["at","row","other","rows"]:List Str)from by decide +kernel) rfl (Or.inl rfl)) YM)))) (λ_ _ _=>(jlE rfl rfl rfl (λ_=>rfl))) (λ_ _ _=>(Xl rfl rfl rfl (jcr rfl) (yR (xo hT (qv 3) (xT (jw (Jb hT) (qv 0) jm)) xU)) (yD (i:=2) (show Nodup (["at","row","other","rows"]:List Str)from by decide +kernel) rfl (Or.inl rfl)) (VZ (by decide)) (by decide) (jaL rfl rfl (ve (ja (qv 1) (ja (qv 2) jd)))))))))
theorem jnX {P:Program}{w:World}{K:Frag}{mg:tM0}{base:Heap}{C:Nat->Addr}{f:Addr}{fd:FuncData}(F:Fun K "clashes" "Book.clashes" jaA f fd)(gj:jjs P w K mg base C)(dB:jdr P w K mg base C)(NR:Yt K=true):FnOk P w K mg base (CX1 P w) 7 f fd ["self","house"] (spD (tb w K C) Va):=
 have hT:(tb w K C).K=K:=rfl
 Jq (jbw F jcg λbV A outer s H E hr=>(je (jD (i:=2) jcg.nd rfl (Or.inl rfl) Us)
   (je (Xk 200 PassesOwn.never rfl (yR (yG dB (hr.mono (by decide)) jx (qv 0) (ja (qv 1) jd) jg)) (yD (i:=3) jcg.nd rfl (Or.inl rfl)) (jf (jL (jhu PySem.F.slot_list_append PySem.F.type_list_append Xw (jcl NR (hu1 hr) (qv 2) (xo hT (qv 3) xU (xT jm)) (YN jd) ⟨rfl,rfl,rfl,rfl⟩) (ja (qv 3) jd)))))
   (jf (jt (jaN (osc:=(jc jaA)) (own:=["group","pair"]) (fr:=[]) (js:=[]) (VZ (by decide)) rfl rfl (by refine⟨rfl,?_,?_,?_,?_,?_⟩ <;> decide +kernel) rfl (jhq (qv 2)) (λ_ _ _=>(yD (i:=0) (show Nodup (["group","pair"]:List Str)from by decide +kernel) rfl (Or.inl rfl))) (λ_ _ _=>(jlE rfl rfl rfl (λ_=>rfl))) (λ_ _ _=>(Xl rfl rfl rfl (jcr rfl) (yR (jh gj (hr.mono (by decide)) rfl jx (ja (qv 0) jd) jg)) (yD (i:=1) (show Nodup (["group","pair"]:List Str)from by decide +kernel) rfl (Or.inl rfl)) (VZ (by decide)) (by decide) (jaL rfl rfl (qv 1))))))))))
theorem joe {P:Program}{w:World}{K:Frag}{mg:tM0}{base:Heap}{C:Nat->Addr}{f:Addr}{fd:FuncData}(F:Fun K "convicted" "Book.convicted" jaD f fd)(dD:jds P w K mg base C)(bO:mg "sorted" = none):FnOk P w K mg base (CX1 P w) 8 f fd ["self","house"] (spD (tb w K C) jfu):=
 have hT:(tb w K C).K=K:=rfl
 jI F jmQ λbV A outer s H E hr=>(jf (jt (jhs (osc:=(jc jaD)) (own:=["row","other"]) (fr:=[]) (js:=[]) (jdC (by decide)) rfl rfl (by refine⟨rfl,?_,?_,?_,?_,?_⟩ <;> decide +kernel) rfl rfl bO xI (yR (yG dD (hr.mono (by decide)) jB (qv 0) (ja (qv 1) jd) jg)) (λ_ _ _=>(Ur hT rfl (xn (yD (i:=0) (show Nodup (["row","other"]:List Str)from by decide +kernel) rfl (Or.inl rfl)) (xn (yD (i:=1) (show Nodup (["row","other"]:List Str)from by decide +kernel) rfl (Or.inl rfl)) YM)))) (λ_ _ _=>(jcr rfl)) (λ_ _ _=>(jhp rfl rfl (yw (yS hT) (qv 0) jm (λ_ _=>rfl)))))))
theorem jnF {P:Program}{w:World}{K:Frag}{mg:tM0}{base:Heap}{C:Nat->Addr}{f:Addr}{fd:FuncData}(F:Fun K "is_pair" "is_pair" jdM f fd)(bK:mg "isinstance" = none)(bR:mg "len" = none)(cc:mg "tuple" = none):FnOk P w K mg base (CX1 P w) 1 f fd ["thing"] (spD (tb w K C) jfm):=
 have hT:(tb w K C).K=K:=rfl
 jI F jmy λbV A outer s H E hr=>(jf (jt (JQ (jj (jbK hT) rfl bK jH (ja (qv 0) (ja (jfO rfl cc XW) jd))) (Xm (JP (Xu hT hr.units) (jj (JC hT) rfl bR vM (ja (qv 0) jd)) jm (jS _))))))
theorem jnG {P:Program}{w:World}{K:Frag}{mg:tM0}{base:Heap}{C:Nat->Addr}{f:Addr}{fd:FuncData}(F:Fun K "is_clash" "is_clash" jdN f fd)(gf:jjq P w K mg base C)(dA:jdq P w K mg base C):FnOk P w K mg base (CX1 P w) 3 f fd ["pair"] (spD (tb w K C) jfn):=
 have hT:(tb w K C).K=K:=rfl
 jI F jmz λbV A outer s H E hr=>(je (yX (QW.qt (Yr (xL (xK hT (jh gf (hr.mono (by decide)) rfl jB (ja (qv 0) jd) jg))) (Yr (xL (xK hT (jh dA (hr.mono (by decide)) rfl jB (ja (yw (yS hT) (qv 0) jm (λ_ _=>rfl)) jd) jg))) (uC (xL (xK hT (jh dA (hr.mono (by decide)) rfl jB (ja (yw (yS hT) (qv 0) jm (λ_ _=>rfl)) jd) jg))))))) (jf (jt Uu)) jG)
   (jf (jt (JQ (JP (Xu hT hr.units) (xo hT (yw (yS hT) (qv 0) jm (λ_ _=>rfl)) xU (xT jm)) (xo hT (yw (yS hT) (qv 0) jm (λ_ _=>rfl)) xU (xT jm)) (jS _)) (Xm (JP (Xs hT hr.units) (yw (yS hT) (yw (yS hT) (qv 0) jm (λ_ _=>rfl)) jm (λ_ _=>rfl)) (yw (yS hT) (yw (yS hT) (qv 0) jm (λ_ _=>rfl)) jm (λ_ _=>rfl)) (jS _)))))))
theorem joc {P:Program}{w:World}{K:Frag}{mg:tM0}{base:Heap}{C:Nat->Addr}{f:Addr}{fd:FuncData}(F:Fun K "known" "Book.known" jed f fd)(bJ:jn K (C 10) "seen")(cb:Yo P w K mg base C)(bO:mg "sorted" = none)(bI:Cls K (C 10)):FnOk P w K mg base (CX1 P w) 6 f fd ["self","house"] (spD (tb w K C) jft):=
 have hT:(tb w K C).K=K:=rfl
 jI F jmO λbV A outer s H E hr=>(je (jL (yG cb (hr.mono (by decide)) jB (qv 0) (ja (qv 1) jd) jg))
   (jf (jt (jj (jdj rfl) rfl bO xI (ja (yw (yS hT) (jX hT bI bJ (qv 0)) (qv 1) (λ_ _=>rfl)) jd)))))
theorem joh {P:Program}{w:World}{K:Frag}{mg:tM0}{base:Heap}{C:Nat->Addr}{f:Addr}{fd:FuncData}(F:Fun K "law" "law" vk f fd)(gy:jjC P w K mg base C)(cw:jah P w K mg base C)(gw:jjA P w K mg base C)(eE:jjx P w K mg base C)(gv:jjz P w K mg base C)(gh:jjr P w K mg base C)(dD:jds P w K mg base C)(gD:jjG P w K mg base C)(dB:jdr P w K mg base C)(gB:jjF P w K mg base C)(gz:jjD P w K mg base C)(gm:jjt P w K mg base C)(gp:jju P w K mg base C)(dY:jbO P w K mg base C)(ck:uh P w K mg base C)(bR:mg "len" = none)(bY:mg "range" = none)(eF:mg "set" = none)(bO:mg "sorted" = none):FnOk P w K mg base CX0 9 f fd ["_law_script"] (jgW (tb w K C) (yu 1 18 jbA)):=
 have hT:(tb w K C).K=K:=rfl
 jbw F yF λbV A outer s H E hr=>(je (jD (i:=1) yF.nd rfl (Or.inl rfl) (jh gv (hr.mono (by decide)) rfl jx (ja (qv 0) jd) jg))
   (je (jD (i:=2) yF.nd rfl (Or.inl rfl) (jw (Jb hT) jm (jh cw (hr.mono (by decide)) rfl jx (ja (qv 1) (ja jm jd)) jg)))
   (je (jD (i:=3) yF.nd rfl (Or.inl rfl) (jh gw (hr.mono (by decide)) rfl jx (ja (qv 1) (ja (qv 2) (ja (qv 2) jd))) jg))
   (je (jD (i:=4) yF.nd rfl (Or.inl rfl) (jlD (jU (Xs hT hr.units) (qv 3) (xz jd) (jS _)) (jht ck (hr.mono (by decide)) rfl jx (ja (qv 2) jd) (jkj (qv 3) jg)) (jht dY (hr.mono (by decide)) rfl jx (ja (qv 2) jd) jg)))
   (je (jD (i:=5) yF.nd rfl (Or.inl rfl) (xz jd))
   (je (jD (i:=6) yF.nd rfl (Or.inr rfl) (jhw (osc:=(jc vk)) (own:=["_law_house"]) (fr:=[]) (js:=[]) JB rfl rfl (by refine⟨rfl,?_,?_,?_,?_,?_⟩ <;> decide +kernel) rfl (YL rfl bY (ja (qv 2) jd)) (λ_ _ _=>(jJ (i:=0) (show Nodup (["_law_house"]:List Str)from by decide +kernel) rfl (Or.inl rfl))) (λ_ _ _=>ul) (λ_ _ _=>(xz jd))))
   (je (Xk 200 PassesOwn.never rfl (YL rfl bY (ja jm jd)) (yD (i:=7) yF.nd rfl (Or.inl rfl)) (je (jho (ve (ja (jh cw (hr.mono (by decide)) rfl jx (ja (qv 1) (ja (qv 2) jd)) jg) (ja (jh cw (hr.mono (by decide)) rfl jx (ja (qv 1) (ja (qv 2) jd)) jg) jd))) (Ur hT rfl (xn (yD (i:=8) yF.nd rfl (Or.inr rfl)) (xn (yD (i:=9) yF.nd rfl (Or.inr rfl)) YM))))
   (je (jD (i:=10) yF.nd rfl (Or.inl rfl) (jh cw (hr.mono (by decide)) rfl jx (ja (qv 1) (ja jm jd)) jg))
   (je (yX (QW.qt (Yr (jU (Xu hT hr.units) (qv 10) jm (jS _)) (uC (jU (Xu hT hr.units) (qv 5) (xz jd) (jS _))))) (je (jho (ve (ja (jh eE (hr.mono (by decide)) rfl jx (ja (qv 1) (ja (xz (ja jm (ja jm (ja jm jd)))) jd)) jg) (ja (jh eE (hr.mono (by decide)) rfl jx (ja (qv 1) (ja (xz (ja jm (ja jm (ja jm (ja (jw (jlF) jm jm) jd))))) jd)) jg) jd))) (Ur hT rfl (xn (yD (i:=11) yF.nd rfl (Or.inr rfl)) (xn (yD (i:=12) yF.nd rfl (Or.inr rfl)) YM))))
   (je (jek (i:=13) (osc:=(jc vk)) (own:=["_law_row"]) (fr:=["_law_number","_law_house","_law_place"]) (js:=[12,8,11]) JB rfl rfl (by refine⟨rfl,?_,?_,?_,?_,?_⟩ <;> decide +kernel) rfl yF.nd rfl rfl (yR (qv 5)) (λ_ _ _=>(jJ (i:=0) (show Nodup (["_law_row","_law_number","_law_house","_law_place"]:List Str)from by decide +kernel) rfl (Or.inl rfl))) (λ_ _ _=>(uY (QW.qt (jcj (jU (Xu hT hr.units) (xo hT (qv 0) xU (xT jm)) (ve (ja (qv 2) (ja (qv 3) jd))) (jS _)) (Uo (jU (Xs hT hr.units) (yw (yS hT) (qv 0) jm (λ_ _=>rfl)) (qv 1) (jS _))))))) (λ_ _ _=>(qv 0)) rfl)
   (jf (yX (QW.qt (Yr (jU (jrk hT (jeB hr)) (qv 8) (qv 3) (by with_unfolding_all rfl)) (uC (jU (Xu hT hr.units) (qv 13) (xz jd) (jS _))))) (je (yX (jU (Xs hT hr.units) (yG gm (hr.mono (by decide)) jx (qv 4) (ja (qv 8) (ja (qv 11) (ja (qv 12) jd))) jg) (ve (ja (qv 8) (ja (qv 11) (ja (qv 12) jd)))) (jS _)) (jf (jt Uu)) jG)
   (jf (jD (i:=5) yF.nd rfl (Or.inl rfl) (jw (Jb hT) (xV (osc:=(jc vk)) (own:=["_law_row"]) (fr:=["_law_house","_law_place","_law_number"]) (js:=[8,11,12]) JB rfl rfl (by refine⟨rfl,?_,?_,?_,?_,?_⟩ <;> decide +kernel) rfl (yR (qv 5)) (λ_ _ _=>(jJ (i:=0) (show Nodup (["_law_row","_law_house","_law_place","_law_number"]:List Str)from by decide +kernel) rfl (Or.inl rfl))) (λ_ _ _=>(uY (jU (Xs hT hr.units) (qv 0) (ve (ja (qv 1) (ja (qv 2) (ja (qv 3) jd)))) (jS _)))) (λ_ _ _=>(qv 0))) (xz (ja (ve (ja (qv 8) (ja (qv 11) (ja (qv 12) jd)))) jd)))))) jG)))) (jf (yX (jU (Xu hT hr.units) (qv 10) jm (jS _)) (je (jD (i:=14) yF.nd rfl (Or.inl rfl) (jh eE (hr.mono (by decide)) rfl jx (ja (qv 1) (ja (qv 5) jd)) jg))
   (je (jL (yG gp (hr.mono (by decide)) jx (qv 4) (ja (qv 9) (ja (qv 14) jd)) jg))
   (jf (YK (jaM hT (lt_of_le_of_lt (Nat.add_le_add_left (show 8<=64 by decide) _) hr.units) rfl rfl bO xI rfl eF rfl (jw (Jb hT) (yw (yS hT) (qv 6) (qv 9) (λ_ _=>rfl)) (xz (ja (qv 14) jd)))) (qv 6) (qv 9))))) (je (jek (i:=15) (osc:=(jc vk)) (own:=["_law_row"]) (fr:=["_law_seen","_law_other"]) (js:=[6,9]) JB rfl rfl (by refine⟨rfl,?_,?_,?_,?_,?_⟩ <;> decide +kernel) rfl yF.nd rfl rfl (yR (yw (yS hT) (qv 6) (qv 8) (λ_ _=>rfl))) (λ_ _ _=>(jJ (i:=0) (show Nodup (["_law_row","_law_seen","_law_other"]:List Str)from by decide +kernel) rfl (Or.inl rfl))) (λ_ _ _=>(uY (jU (jet hT (jeB hr)) (qv 0) (yw (yS hT) (qv 1) (qv 2) (λ_ _=>rfl)) (by with_unfolding_all rfl)))) (λ_ _ _=>(qv 0)) rfl)
   (je (yX (jU (Xs hT hr.units) (yG gz (hr.mono (by decide)) jx (qv 4) (ja (qv 8) (ja (qv 9) jd)) jg) (jj (JC hT) rfl bR vM (ja (qv 15) jd)) (jS _)) (jf (jt Uu)) jG)
   (jf (YK (jaM hT (lt_of_le_of_lt (Nat.add_le_add_left (show 8<=64 by decide) _) hr.units) rfl rfl bO xI rfl eF rfl (jw (Jb hT) (yw (yS hT) (qv 6) (qv 9) (λ_ _=>rfl)) (qv 15))) (qv 6) (qv 9))))))))
   (je (jD (i:=16) yF.nd rfl (Or.inl rfl) (yw (yS hT) (qv 6) (qv 9) (λ_ _=>rfl)))
   (je (jD (i:=17) yF.nd rfl (Or.inl rfl) (jh gy (hr.mono (by decide)) rfl jx (ja (qv 16) jd) jg))
   (je (yX (QW.qt (Yr (jU (Xs hT hr.units) (yG dB (hr.mono (by decide)) jx (qv 4) (ja (qv 9) jd) jg) (qv 16) (jS _)) (uC (jU (Xs hT hr.units) (yG dD (hr.mono (by decide)) jx (qv 4) (ja (qv 9) jd) jg) (qv 17) (jS _))))) (jf (jt Uu)) jG)
   (je (yX (jU (Xs hT hr.units) (yG gD (hr.mono (by decide)) jx (qv 4) (ja (qv 9) jd) jg) (jhr hT rfl rfl bO xI rfl eF rfl (xV (osc:=(jc vk)) (own:=["_law_one","_law_two"]) (fr:=[]) (js:=[]) (jmd (T:=tb w K C)) rfl rfl (by refine⟨rfl,?_,?_,?_,?_,?_⟩ <;> decide +kernel) rfl (yR (qv 17)) (λ_ _ _=>(show PG _ _ (jkX K 2 (XF (vc 0) (XF (vc 1) jkZ)))from(jcs rfl (vS (jJ (i:=0) (show Nodup (["_law_one","_law_two"]:List Str)from by decide +kernel) rfl (Or.inl rfl)) (vS (jJ (i:=1) (show Nodup (["_law_one","_law_two"]:List Str)from by decide +kernel) rfl (Or.inl rfl)) Uy))))) (λ_ _ _=>ul) (λ_ _ _=>(yw (yS hT) (qv 0) jm (λ_ _=>rfl))))) (jS _)) (jf (jt Uu)) jG)
   (je (yX (jU (Xs hT hr.units) (xV (osc:=(jc vk)) (own:=["_law_pair"]) (fr:=[]) (js:=[]) JB rfl rfl (by refine⟨rfl,?_,?_,?_,?_,?_⟩ <;> decide +kernel) rfl (yR (yG dD (hr.mono (by decide)) jx (qv 4) (ja (qv 9) jd) jg)) (λ_ _ _=>(jJ (i:=0) (show Nodup (["_law_pair"]:List Str)from by decide +kernel) rfl (Or.inl rfl))) (λ_ _ _=>(uY (xL (xK hT (jh gh (hr.mono (by decide)) rfl jx (ja (qv 0) jd) jg))))) (λ_ _ _=>(qv 0))) (xz jd) (jS _)) (jf (jt Uu)) jG)
   (jf (jL (jhu PySem.F.slot_list_append PySem.F.type_list_append Xw (yG gB (hr.mono (by decide)) jx (qv 4) (ja (qv 9) jd) jg) (ja (ve (ja jm (ja jm (ja jm jd)))) jd)))))))))))))
   (jf (jt (JP (Xu hT hr.units) (yG dB (hr.mono (by decide)) jx (qv 4) (ja jm jd) jg) (yw (yS hT) (qv 6) jm (λ_ _=>rfl)) (jS _)))))))))))
theorem ln0 {α:Type}:∀{us:List α},us.length=0->us=[]
 |[],_=>rfl
theorem ln1 {α:Type}{us:List α}(h:us.length=1):∃u0,us=[u0]:=by
 cases us with
 |nil=>cases h
 |cons x0 us=>exact⟨x0,by rw[ln0 (Nat.succ.inj h)]⟩
theorem ln2 {α:Type}{us:List α}(h:us.length=2):∃u0 u1,us=[u0,u1]:=by
 cases us with
 |nil=>cases h
 |cons x0 us=>obtain⟨v0,e⟩:=ln1 (Nat.succ.inj h);exact⟨x0,v0,by rw[e]⟩
theorem ln3 {α:Type}{us:List α}(h:us.length=3):∃u0 u1 u2,us=[u0,u1,u2]:=by
 cases us with
 |nil=>cases h
 |cons x0 us=>obtain⟨v0,v1,e⟩:=ln2 (Nat.succ.inj h);exact⟨x0,v0,v1,by rw[e]⟩
theorem ln4 {α:Type}{us:List α}(h:us.length=4):∃u0 u1 u2 u3,us=[u0,u1,u2,u3]:=by
 cases us with
 |nil=>cases h
 |cons x0 us=>obtain⟨v0,v1,v2,e⟩:=ln3 (Nat.succ.inj h);exact⟨x0,v0,v1,v2,by rw[e]⟩
def S0:Sto:=⟨0,λ_=>none⟩
def Uf (K:Frag):Sp:=λvs H Q _=>∃(a:Addr) (ns:List Int),vs=[.ref a]/\SqL K H a (ns.map V.int)/\ns.length<=63/\∀H',Q (.bl true) H'
theorem jov {P:Program}{w:World}{K:Frag}{mg:tM0}{base:Heap}{C:Nat->Addr}{f:Addr}{fd:FuncData}(h:FnOk P w K mg base CX0 9 f fd ["_law_script"] (jgW (tb w K C) (yu 1 18 jbA))):FnOk P w K mg base CX0 9 f fd ["_law_script"] (Uf K):=h.imp λvs H Q E ⟨a,ns,e,hq,hl,q⟩=>by
 subst e;obtain⟨M',e⟩:=law_true ns hl;exact⟨⟨tb w K C,H,λ_=>none,λ_=>none⟩,[.scr ns],S0,.bl true,M',rfl,⟨λ_ _ e=>e,(λ_ _ e=>nomatch e),(λ_ _ _ _ _ e=>nomatch e),λ_ _=>rfl,(λ_ _ e=>nomatch e),(λ_ _ e=>nomatch e)⟩,⟨.ref a,[],rfl,⟨a,rfl,hq,hl⟩,rfl⟩,e,λW' H' u _ _ r=>by cases r;exact q H'⟩
theorem kb1 {K:Frag}{fd:FuncData}{p0:Str}{pr:List Str}{sp:List Sl}(h:∀(s:Shared) (u0:Value),BindsTo s fd ⟨[u0],[]⟩ ((p0::pr).zip (gen sp [] [u0] []))):KBinds K fd (p0::pr) [] (yk 1 0 sp []) (yk 1 0 sp []):=jE (dV:=[]) .nil λs us ws KX h1 h2=>by obtain⟨u0,rfl⟩:=ln1 h1;obtain rfl:=ln0 h2;exact h s u0
theorem kb2 {K:Frag}{fd:FuncData}{p0:Str}{pr:List Str}{sp:List Sl}(h:∀(s:Shared) (u0 u1:Value),BindsTo s fd ⟨[u0,u1],[]⟩ ((p0::pr).zip (gen sp [] [u0,u1] []))):KBinds K fd (p0::pr) [] (yk 2 0 sp []) (yk 2 0 sp []):=jE (dV:=[]) .nil λs us ws KX h1 h2=>by obtain⟨u0,u1,rfl⟩:=ln2 h1;obtain rfl:=ln0 h2;exact h s u0 u1
theorem kb3 {K:Frag}{fd:FuncData}{p0:Str}{pr:List Str}{sp:List Sl}(h:∀(s:Shared) (u0 u1 u2:Value),BindsTo s fd ⟨[u0,u1,u2],[]⟩ ((p0::pr).zip (gen sp [] [u0,u1,u2] []))):KBinds K fd (p0::pr) [] (yk 3 0 sp []) (yk 3 0 sp []):=jE (dV:=[]) .nil λs us ws KX h1 h2=>by obtain⟨u0,u1,u2,rfl⟩:=ln3 h1;obtain rfl:=ln0 h2;exact h s u0 u1 u2
theorem kb4 {K:Frag}{fd:FuncData}{p0:Str}{pr:List Str}{sp:List Sl}(h:∀(s:Shared) (u0 u1 u2 u3:Value),BindsTo s fd ⟨[u0,u1,u2,u3],[]⟩ ((p0::pr).zip (gen sp [] [u0,u1,u2,u3] []))):KBinds K fd (p0::pr) [] (yk 4 0 sp []) (yk 4 0 sp []):=jE (dV:=[]) .nil λs us ws KX h1 h2=>by obtain⟨u0,u1,u2,u3,rfl⟩:=ln4 h1;obtain rfl:=ln0 h2;exact h s u0 u1 u2 u3
def FO (K:Frag)(nm ql:Str)(st:Stmt)(f:Addr)(fd:FuncData):Prop:=∃oc od sl kV dc pm an cd ct,fd=fnOf nm ql (jl st) (ji st) (jc st) .none kV dc pm an cd ct/\K.lookup f=some ⟨oc,od,.func fd,sl⟩/\codeIn K cd ql=true/\keepIn K (.ref f)=true
def FA (K:Frag)(nm:Str)(st:Stmt)(f:Addr)(fd:FuncData):Prop:=nsIn K mainGlobals nm=some (some (.ref f))/\FO K nm nm st f fd
def FM (K:Frag)(c:Addr)(nm ql:Str)(st:Stmt)(f:Addr)(fd:FuncData):Prop:=findIn K (.ref c) nm=some (some (.ref f))/\isFn K (.ref f)=true/\FO K nm ql st f fd
theorem FA.of {K:Frag}{nm:Str}{st:Stmt}{f:Addr}{od an:Option Addr}{sl:Array (Option Value)}{oc kV dc pm cd ct:Value}(a:nsIn K mainGlobals nm=some (some (.ref f)))(l:K.lookup f=some ⟨oc,od,.func (fnOf nm nm (jl st) (ji st) (jc st) .none kV dc pm an cd ct),sl⟩)(c:codeIn K cd nm=true)(k:keepIn K (.ref f)=true):FA K nm st f (fnOf nm nm (jl st) (ji st) (jc st) .none kV dc pm an cd ct):=⟨a,_,_,_,_,_,_,_,_,_,rfl,l,c,k⟩
theorem FM.of {K:Frag}{x:Addr}{nm ql:Str}{st:Stmt}{f:Addr}{od an:Option Addr}{sl:Array (Option Value)}{oc kV dc pm cd ct:Value}(a:findIn K (.ref x) nm=some (some (.ref f)))(i:isFn K (.ref f)=true)(l:K.lookup f=some ⟨oc,od,.func (fnOf nm ql (jl st) (ji st) (jc st) .none kV dc pm an cd ct),sl⟩)(c:codeIn K cd ql=true)(k:keepIn K (.ref f)=true):FM K x nm ql st f (fnOf nm ql (jl st) (ji st) (jc st) .none kV dc pm an cd ct):=⟨a,i,_,_,_,_,_,_,_,_,_,rfl,l,c,k⟩
theorem all_mk {l:PySem.W.OpenLaw}{w:World}{K:Frag}{h:Heap}{mg:tM0}{fa:Addr}(X:K.In h)(G:h.Ns mainGlobals mg)(hfa:mg "law" = some (.ref fa)){bN:Addr}{f_zan:Addr}{g_zan:FuncData}{f_zao:Addr}{g_zao:FuncData}{f_zal:Addr}{g_zal:FuncData}{f_zaw:Addr}{g_zaw:FuncData}{f_zap:Addr}{g_zap:FuncData}{f_zaf:Addr}{g_zaf:FuncData}{f_zag:Addr}{g_zag:FuncData}{f_zax:Addr}{g_zax:FuncData}{f_zaq:Addr}{g_zaq:FuncData}{f_zab:Addr}{g_zab:FuncData}{dI:Addr}{od_zad an_zad:Option Addr}{sl_zad:Array (Option Value)}{oc_zad  dc_zad pm_zad cd_zad ct_zad:Value}{kd_zad:Addr}{bS:Addr}{tq_zad_liars:Option Addr}{tn_zad_liars:Nat}{ts_zad_liars:Array (Option Value)}{f_zar:Addr}{g_zar:FuncData}{f_zak:Addr}{g_zak:FuncData}{f_zaa:Addr}{g_zaa:FuncData}{f_zas:Addr}{g_zas:FuncData}{f_zat:Addr}{g_zat:FuncData}{f_zay:Addr}{g_zay:FuncData}{f_zau:Addr}{g_zau:FuncData}{f_zav:Addr}{g_zav:FuncData}{f_zah:Addr}{g_zah:FuncData}{f_zai:Addr}{g_zai:FuncData}{f_zam:Addr}{g_zam:FuncData}{f_zaz:Addr}{g_zaz:FuncData}{f_zaj:Addr}{g_zaj:FuncData}{f_zac:Addr}{g_zac:FuncData}{f_zbb:Addr}{g_zbb:FuncData}{f_zba:Addr}{g_zba:FuncData}{f_zae:Addr}{g_zae:FuncData}{f_law:Addr}{g_law:FuncData}{cL:Tok}{cp:Tok}{cf:Tok}(a_Book:nsIn K mainGlobals "Book" = some (some (.ref bN)))(o_Book_pg:plainGet K bN Str.empty=true)(o_Book_hd:hasDictIn K bN=true)(o_Book_po:plainOver K bN=true)(o_Book_sa:findIn K (.ref bN) "__setattr__" = some (some (.builtin "object.__setattr__")))(o_Book_mk:makesIn K bN=true)(o_Book_kp:keepIn K (.ref bN)=true)(o_Book_n_bound:findIn K (.ref bN) "bound" = some none)(o_Book_n_liars:findIn K (.ref bN) "liars" = some none)(o_Book_n_said:findIn K (.ref bN) "said" = some none)(o_Book_n_seen:findIn K (.ref bN) "seen" = some none)(h_zan:FA K "_law_town" jdX f_zan g_zan)(h_zao:FA K "_law_draw" jdW f_zao g_zao)(h_zal:FA K "_law_liars" jdZ f_zal g_zal)(h_zaw:FA K "is_whole" jdQ f_zaw g_zaw)(h_zap:FA K "is_within" jdV f_zap g_zap)(h_zaf:FA K "check_within" jec f_zaf g_zaf)(h_zag:FA K "check_houses" jeb f_zag g_zag)(h_zax:FA K "is_house" jdP f_zax g_zax)(h_zaq:FA K "is_rising" jaz f_zaq g_zaq)(h_zab:FA K "check_some_houses" jaE f_zab g_zab)(a_zad:findIn K (.ref bN) "__init__" = some (some (.ref dI)))(i_zad:isFn K (.ref dI)=true)(l_zad:K.lookup dI=some ⟨oc_zad,od_zad,.func (fnOf "__init__" "Book.__init__" (jl Xa) (ji Xa) (jc Xa) .none (.ref kd_zad) dc_zad pm_zad an_zad cd_zad ct_zad),sl_zad⟩)(c_zad:codeIn K cd_zad "Book.__init__" = true)(k_zad:keepIn K (.ref dI)=true)(kd_zad_liars:nsIn K kd_zad "liars" = some (some (.ref bS)))(tu_zad_liars_o:K.lookup bS=some ⟨.type "tuple",tq_zad_liars,.seq #[] tn_zad_liars,ts_zad_liars⟩)(h_zar:FA K "_law_pick" jdU f_zar g_zar)(h_zak:FA K "check_house" jea f_zak g_zak)(h_zaa:FM K bN "check_is_house" "Book.check_is_house" jee f_zaa g_zaa)(h_zas:FA K "is_number" jdT f_zas g_zas)(h_zat:FM K bN "bind" "Book.bind" jdS f_zat g_zat)(h_zay:FM K bN "say" "Book.say" jdO f_zay g_zay)(h_zau:FA K "is_saying" jay f_zau g_zau)(h_zav:FM K bN "show" "Book.show" jdR f_zav g_zav)(h_zah:FM K bN "pass_on" "Book.pass_on" jaC f_zah g_zah)(h_zai:FA K "_law_clashes" jaB f_zai g_zai)(h_zam:FM K bN "known" "Book.known" jdY f_zam g_zam)(h_zaz:FA K "pairs_of" jax f_zaz g_zaz)(h_zaj:FM K bN "clashes" "Book.clashes" jaA f_zaj g_zaj)(h_zac:FM K bN "convicted" "Book.convicted" jaD f_zac g_zac)(h_zbb:FA K "is_pair" jdM f_zbb g_zbb)(h_zba:FA K "is_clash" jdN f_zba g_zba)(h_zae:FM K bN "known" "Book.known" jed f_zae g_zae)(h_law:FA K "law" vk f_law g_law)(n_FARTHEST:nsIn K mainGlobals "FARTHEST" = some (some (.int 1000000 cL)))(n_LAST_PLACE:nsIn K mainGlobals "LAST_PLACE" = some (some (.int 99 cp)))(n_MOST_HOUSES:nsIn K mainGlobals "MOST_HOUSES" = some (some (.int 16 cf)))(ei_norow:Yt K=true)(z_all:nsIn K mainGlobals "all" = some none)(z_bool:nsIn K mainGlobals "bool" = some none)(z_enumerate:nsIn K mainGlobals "enumerate" = some none)(z_int:nsIn K mainGlobals "int" = some none)(z_isinstance:nsIn K mainGlobals "isinstance" = some none)(z_len:nsIn K mainGlobals "len" = some none)(z_list:nsIn K mainGlobals "list" = some none)(z_range:nsIn K mainGlobals "range" = some none)(z_set:nsIn K mainGlobals "set" = some none)(z_sorted:nsIn K mainGlobals "sorted" = some none)(z_tuple:nsIn K mainGlobals "tuple" = some none)(z_zip:nsIn K mainGlobals "zip" = some none) :
  ∃fd:FuncData,(∀(s:Shared) (v:Value),BindsTo s fd ⟨[v],[]⟩ [("_law_script",v)])/\∀base:Heap,K.In base->base.Ns mainGlobals mg->FnOk l.prog w K mg base CX0 9 fa fd ["_law_script"] (Uf K):=by
 obtain⟨a_zan,_,_,_,_,_,_,_,_,_,rfl,l_zan,c_zan,k_zan⟩:=h_zan;obtain⟨a_zao,_,_,_,_,_,_,_,_,_,rfl,l_zao,c_zao,k_zao⟩:=h_zao;obtain⟨a_zal,_,_,_,_,_,_,_,_,_,rfl,l_zal,c_zal,k_zal⟩:=h_zal;obtain⟨a_zaw,_,_,_,_,_,_,_,_,_,rfl,l_zaw,c_zaw,k_zaw⟩:=h_zaw;obtain⟨a_zap,_,_,_,_,_,_,_,_,_,rfl,l_zap,c_zap,k_zap⟩:=h_zap;obtain⟨a_zaf,_,_,_,_,_,_,_,_,_,rfl,l_zaf,c_zaf,k_zaf⟩:=h_zaf;obtain⟨a_zag,_,_,_,_,_,_,_,_,_,rfl,l_zag,c_zag,k_zag⟩:=h_zag;obtain⟨a_zax,_,_,_,_,_,_,_,_,_,rfl,l_zax,c_zax,k_zax⟩:=h_zax;obtain⟨a_zaq,_,_,_,_,_,_,_,_,_,rfl,l_zaq,c_zaq,k_zaq⟩:=h_zaq;obtain⟨a_zab,_,_,_,_,_,_,_,_,_,rfl,l_zab,c_zab,k_zab⟩:=h_zab;obtain⟨a_zar,_,_,_,_,_,_,_,_,_,rfl,l_zar,c_zar,k_zar⟩:=h_zar;obtain⟨a_zak,_,_,_,_,_,_,_,_,_,rfl,l_zak,c_zak,k_zak⟩:=h_zak;obtain⟨a_zaa,i_zaa,_,_,_,_,_,_,_,_,_,rfl,l_zaa,c_zaa,k_zaa⟩:=h_zaa;obtain⟨a_zas,_,_,_,_,_,_,_,_,_,rfl,l_zas,c_zas,k_zas⟩:=h_zas;obtain⟨a_zat,i_zat,_,_,_,_,_,_,_,_,_,rfl,l_zat,c_zat,k_zat⟩:=h_zat
 obtain⟨a_zay,i_zay,_,_,_,_,_,_,_,_,_,rfl,l_zay,c_zay,k_zay⟩:=h_zay;obtain⟨a_zau,_,_,_,_,_,_,_,_,_,rfl,l_zau,c_zau,k_zau⟩:=h_zau;obtain⟨a_zav,i_zav,_,_,_,_,_,_,_,_,_,rfl,l_zav,c_zav,k_zav⟩:=h_zav;obtain⟨a_zah,i_zah,_,_,_,_,_,_,_,_,_,rfl,l_zah,c_zah,k_zah⟩:=h_zah;obtain⟨a_zai,_,_,_,_,_,_,_,_,_,rfl,l_zai,c_zai,k_zai⟩:=h_zai;obtain⟨a_zam,i_zam,_,_,_,_,_,_,_,_,_,rfl,l_zam,c_zam,k_zam⟩:=h_zam;obtain⟨a_zaz,_,_,_,_,_,_,_,_,_,rfl,l_zaz,c_zaz,k_zaz⟩:=h_zaz;obtain⟨a_zaj,i_zaj,_,_,_,_,_,_,_,_,_,rfl,l_zaj,c_zaj,k_zaj⟩:=h_zaj;obtain⟨a_zac,i_zac,_,_,_,_,_,_,_,_,_,rfl,l_zac,c_zac,k_zac⟩:=h_zac;obtain⟨a_zbb,_,_,_,_,_,_,_,_,_,rfl,l_zbb,c_zbb,k_zbb⟩:=h_zbb;obtain⟨a_zba,_,_,_,_,_,_,_,_,_,rfl,l_zba,c_zba,k_zba⟩:=h_zba;obtain⟨a_zae,i_zae,_,_,_,_,_,_,_,_,_,rfl,l_zae,c_zae,k_zae⟩:=h_zae;obtain⟨a_law,_,_,_,kVl,dcl,pml,anl,cdl,ctl,rfl,l_law,c_law,k_law⟩:=h_law;have e:=hfa.symm.trans (mg_of X G a_law)
 cases e
 let C:Nat->Addr:=λk=>([0,0,0,0,0,0,0,0,0,0,bN]:List Addr).getD k 0
 have cT:=mg_none_of X G z_all;have e8:=mg_none_of X G z_bool;have cy:=mg_none_of X G z_enumerate;have gG:=mg_none_of X G z_int;have bK:=mg_none_of X G z_isinstance;have bR:=mg_none_of X G z_len;have cq:=mg_none_of X G z_list;have bY:=mg_none_of X G z_range;have eF:=mg_none_of X G z_set;have bO:=mg_none_of X G z_sorted;have cc:=mg_none_of X G z_tuple;have gF:=mg_none_of X G z_zip;have cv:=mg_of X G n_FARTHEST;have cu:=mg_of X G n_LAST_PLACE;have cm:=mg_of X G n_MOST_HOUSES;have A_Book:mg "Book" = some (.ref (C 10)):=mg_of X G a_Book;have bI:Cls K (C 10):=⟨o_Book_pg,o_Book_hd,o_Book_po,o_Book_sa⟩
 have bP:jn K (C 10) "bound":=o_Book_n_bound;have bT:jn K (C 10) "liars":=o_Book_n_liars;have bL:jn K (C 10) "said":=o_Book_n_said;have bJ:jn K (C 10) "seen":=o_Book_n_seen;have NR:Yt K=true:=ei_norow;have F_zan:=jq (st:=jdX) l_zan c_zan k_zan;have F_zao:=jq (st:=jdW) l_zao c_zao k_zao;have F_zal:=jq (st:=jdZ) l_zal c_zal k_zal;have F_zaw:=jq (st:=jdQ) l_zaw c_zaw k_zaw;have F_zap:=jq (st:=jdV) l_zap c_zap k_zap;have F_zaf:=jq (st:=jec) l_zaf c_zaf k_zaf;have F_zag:=jq (st:=jeb) l_zag c_zag k_zag;have F_zax:=jq (st:=jdP) l_zax c_zax k_zax;have F_zaq:=jq (st:=jaz) l_zaq c_zaq k_zaq;have F_zab:=jq (st:=jaE) l_zab c_zab k_zab;have F_zad:=jq (st:=Xa) l_zad c_zad k_zad;have F_zar:=jq (st:=jdU) l_zar c_zar k_zar;have F_zak:=jq (st:=jea) l_zak c_zak k_zak;have F_zaa:=jq (st:=jee) l_zaa c_zaa k_zaa;have F_zas:=jq (st:=jdT) l_zas c_zas k_zas;have F_zat:=jq (st:=jdS) l_zat c_zat k_zat;have F_zay:=jq (st:=jdO) l_zay c_zay k_zay;have F_zau:=jq (st:=jay) l_zau c_zau k_zau;have F_zav:=jq (st:=jdR) l_zav c_zav k_zav;have F_zah:=jq (st:=jaC) l_zah c_zah k_zah;have F_zai:=jq (st:=jaB) l_zai c_zai k_zai;have F_zam:=jq (st:=jdY) l_zam c_zam k_zam;have F_zaz:=jq (st:=jax) l_zaz c_zaz k_zaz;have F_zaj:=jq (st:=jaA) l_zaj c_zaj k_zaj;have F_zac:=jq (st:=jaD) l_zac c_zac k_zac;have F_zbb:=jq (st:=jdM) l_zbb c_zbb k_zbb;have F_zba:=jq (st:=jdN) l_zba c_zba k_zba;have F_zae:=jq (st:=jed) l_zae c_zae k_zae;have F_law:=jq (st:=vk) l_law c_law k_law;refine⟨fnOf "law" "law" (jl vk) (ji vk) (jc vk) .none kVl dcl pml anl cdl ctl,λs v=>.of_eq rfl,λbase _ _=>?_⟩
 have gv:jjz l.prog w K mg base C:=⟨f_zan,_,[],[],(jnT F_zan cq),mg_of X G a_zan,k_zan,kb1 λ_ _=>.of_eq rfl,λW hW=>rfl⟩
 have cw:jah l.prog w K mg base C:=⟨f_zao,_,[],[],(jnS F_zao bR),mg_of X G a_zao,k_zao,kb2 λ_ _ _=>.of_eq rfl,λW hW=>rfl⟩
 have gw:jjA l.prog w K mg base C:=⟨f_zal,_,[],[],(jnV F_zal cw bR bY),mg_of X G a_zal,k_zal,kb3 λ_ _ _ _=>.of_eq rfl,λW hW=>rfl⟩
 have dO:jdp l.prog w K mg base C:=⟨f_zaw,_,[],[],(jnK F_zaw e8 gG bK),mg_of X G a_zaw,k_zaw,kb1 λ_ _=>.of_eq rfl,λW hW=>rfl⟩
 have cS:jag l.prog w K mg base C:=⟨f_zap,_,[],[],(jnR F_zap dO),mg_of X G a_zap,k_zap,kb3 λ_ _ _ _=>.of_eq rfl,λW hW=>rfl⟩
 have dQ:jdt l.prog w K mg base C:=⟨f_zaf,_,[],[],(job F_zaf cS),mg_of X G a_zaf,k_zaf,kb3 λ_ _ _ _=>.of_eq rfl,λW hW=>rfl⟩
 have gA:jjE l.prog w K mg base C:=⟨f_zag,_,[],[],(joa F_zag cm dQ),mg_of X G a_zag,k_zag,kb1 λ_ _=>.of_eq rfl,λW hW=>rfl⟩
 have dN:jdo l.prog w K mg base C:=⟨f_zax,_,[],[],(jnJ F_zax cS),mg_of X G a_zax,k_zax,kb2 λ_ _ _=>.of_eq rfl,λW hW=>rfl⟩
 have gu:jjy l.prog w K mg base C:=⟨f_zaq,_,[],[],(jnQ F_zaq cT gF),mg_of X G a_zaq,k_zaq,kb1 λ_ _=>.of_eq rfl,λW hW=>rfl⟩
 have gE:jjH l.prog w K mg base C:=⟨f_zab,_,[],[],(jof F_zab dN gu cT bK bR cq cc),mg_of X G a_zab,k_zab,kb3 λ_ _ _ _=>.of_eq rfl,λW hW=>rfl⟩
 have ok_zad_:=jod (P:=l.prog) (w:=w) (mg:=mg) (base:=base) (C:=C) F_zad bP bT bL bJ gA gE cq bY bI;have ck:uh l.prog w K mg base C:=⟨dI,_,[],[],ok_zad_,⟨o_Book_mk,a_zad,i_zad,o_Book_kp⟩,A_Book,jE (dV:=[]) (ds:=[]) .nil (λs us ws KX h1 h2=>by obtain⟨u0,u1,rfl⟩:=ln2 h1;obtain⟨w0,rfl⟩:=ln1 h2;exact .of_eq rfl),λW hW=>rfl⟩
 have dY:jbO l.prog w K mg base C:=⟨dI,_,[.ref bS],[.ref bS],ok_zad_,⟨o_Book_mk,a_zad,i_zad,o_Book_kp⟩,A_Book,jE (dV:=[.ref bS]) (ds:=[.ref bS]) (.cons rfl .nil) (λs us ws KX h1 h2=>by obtain⟨u0,u1,rfl⟩:=ln2 h1;obtain rfl:=ln0 h2;refine' jjg KX kd_zad_liars ?h1 ?h2 ?h3 ?h4;rotate_left 5;(case h1=>exact rfl);(case h2=>exact rfl);(case h3=>exact rfl);(case h4=>exact rfl)),λW hW=>⟨_,_,rfl,⟨bS,[],rfl,.inr ⟨_,_,_,by rw[hW];exact tu_zad_liars_o,rfl,rfl,by decide,.nil⟩,rfl⟩,rfl⟩⟩
 have eE:jjx l.prog w K mg base C:=⟨f_zar,_,[],[],(jnP F_zar cw bR),mg_of X G a_zar,k_zar,kb2 λ_ _ _=>.of_eq rfl,λW hW=>rfl⟩
 have gx:jjB l.prog w K mg base C:=⟨f_zak,_,[],[],(jnW F_zak dN),mg_of X G a_zak,k_zak,kb2 λ_ _ _=>.of_eq rfl,λW hW=>rfl⟩
 have cb:Yo l.prog w K mg base C:=⟨f_zaa,_,[],[],(jog F_zaa bJ gx bR bI),⟨a_zaa,i_zaa,k_zaa⟩,bI,kb2 λ_ _ _=>.of_eq rfl,λW hW=>rfl⟩
 have gr:jjw l.prog w K mg base C:=⟨f_zas,_,[],[],(jnO F_zas cv cS),mg_of X G a_zas,k_zas,kb1 λ_ _=>.of_eq rfl,λW hW=>rfl⟩
 have gq:jjv l.prog w K mg base C:=⟨f_zat,_,[],[],(jnN F_zat bP bI),⟨a_zat,i_zat,k_zat⟩,bI,kb4 λ_ _ _ _ _=>.of_eq rfl,λW hW=>rfl⟩
 have gm:jjt l.prog w K mg base C:=⟨f_zay,_,[],[],(jnI F_zay cu bT bL dQ gr gq cb bI),⟨a_zay,i_zay,k_zay⟩,bI,kb4 λ_ _ _ _ _=>.of_eq rfl,λW hW=>rfl⟩
 have dA:jdq l.prog w K mg base C:=⟨f_zau,_,[],[],(jnM F_zau dO cT bK bR cc),mg_of X G a_zau,k_zau,kb1 λ_ _=>.of_eq rfl,λW hW=>rfl⟩
 have gp:jju l.prog w K mg base C:=⟨f_zav,_,[],[],(jnL F_zav bL bJ dA cb NR bI),⟨a_zav,i_zav,k_zav⟩,bI,kb3 λ_ _ _ _=>.of_eq rfl,λW hW=>rfl⟩
 have gz:jjD l.prog w K mg base C:=⟨f_zah,_,[],[],(jnZ F_zah bJ cb bR NR bI),⟨a_zah,i_zah,k_zah⟩,bI,kb3 λ_ _ _ _=>.of_eq rfl,λW hW=>rfl⟩
 have gy:jjC l.prog w K mg base C:=⟨f_zai,_,[],[],(jnY F_zai),mg_of X G a_zai,k_zai,kb1 λ_ _=>.of_eq rfl,λW hW=>rfl⟩
 have dB:jdr l.prog w K mg base C:=⟨f_zam,_,[],[],(jnU F_zam bJ cb bO bI),⟨a_zam,i_zam,k_zam⟩,bI,kb2 λ_ _ _=>.of_eq rfl,λW hW=>rfl⟩
 have gj:jjs l.prog w K mg base C:=⟨f_zaz,_,[],[],(jnH F_zaz cy),mg_of X G a_zaz,k_zaz,kb1 λ_ _=>.of_eq rfl,λW hW=>rfl⟩
 have dD:jds l.prog w K mg base C:=⟨f_zaj,_,[],[],(jnX F_zaj gj dB NR),⟨a_zaj,i_zaj,k_zaj⟩,bI,kb2 λ_ _ _=>.of_eq rfl,λW hW=>rfl⟩
 have gD:jjG l.prog w K mg base C:=⟨f_zac,_,[],[],(joe F_zac dD bO),⟨a_zac,i_zac,k_zac⟩,bI,kb2 λ_ _ _=>.of_eq rfl,λW hW=>rfl⟩
 have gf:jjq l.prog w K mg base C:=⟨f_zbb,_,[],[],(jnF F_zbb bK bR cc),mg_of X G a_zbb,k_zbb,kb1 λ_ _=>.of_eq rfl,λW hW=>rfl⟩
 have gh:jjr l.prog w K mg base C:=⟨f_zba,_,[],[],(jnG F_zba gf dA),mg_of X G a_zba,k_zba,kb1 λ_ _=>.of_eq rfl,λW hW=>rfl⟩
 have gB:jjF l.prog w K mg base C:=⟨f_zae,_,[],[],(joc F_zae bJ cb bO bI),⟨a_zae,i_zae,k_zae⟩,bI,kb2 λ_ _ _=>.of_eq rfl,λW hW=>rfl⟩
 exact jov (C:=C) (joh F_law gy cw gw eE gv gh dD gD dB gB gz gm gp dY ck bR bY eF bO)
theorem walk {l:PySem.W.OpenLaw}{q:Program}{loose:List Str}{XP:(Str->Option Value)->Heap->Prop}{YP:World->Heap->Prop}{d:DefRec}{K:Params->Frag}(hn:l.most=some 63)(kC:d.params.defaults=[])(hY:∀(w:World) (h:Heap),YP w h->(K w.params).In h)(F:∀(w:World) (mg:tM0) (fa:Addr) (h:Heap),(K w.params).In h->h.Ns mainGlobals mg->mg d.name=some (.ref fa)->
   ∃fd:FuncData,(∀(s:Shared) (u:Value),BindsTo s fd ⟨[u],[]⟩ [("_law_script",u)])/\∀base:Heap,(K w.params).In base->base.Ns mainGlobals mg->FnOk l.prog w (K w.params) mg base CX0 9 fa fd ["_law_script"] (Uf (K w.params))) :
  PySem.W.WalkO q loose XP YP l.row.toRowW d [] (λf vs=>PySem.call f vs):=
 L2.walk_of (n:=63) (k:=9) (x:="_law_script") (CX:=λ_=>CX0) (sp:=λw=>Uf (K w.params)) hn (by decide) kC ⟨rfl,by decide,by decide⟩ hY F (λ_ _ a ns hl _ hS=>⟨a,ns,rfl,hS,hl,λ_=>rfl⟩) λ_ _ _ _ _ z=>z
theorem walk_x {q:Program}{loose:List Str}{XP:(Str->Option Value)->Heap->Prop}{K:Params->Frag}{as:List Addr}{n t:Nat}{r:PySem.W.RowW}{d:DefRec}{kwd:List (Str×Expr)}{run:Value->List Value->Sem Value}(e:∀P:Params,as=(K P).map λp=>p.1)(h:PySem.W.WalkO q loose XP (λw h=>(K w.params).In h) r d kwd run):PySem.W.WalkX q loose XP (PySem.W.X.obsZ as) (PySem.W.X.valZ K n t) r d kwd run:=
 λw s₀ b6 mg mb G y a o pm cd dM dV kV ho hd hc hD hm hg args fK ml L fq gZ hrd ki kY=>h w s₀ b6 mg mb G (λa o q=>L.keeps a o ((PySem.W.X.z_facts e y).2.1 a o q)) a o pm cd dM dV kV ho hd hc hD hm hg args fK ml fq gZ hrd ki kY
end My
open PySem PySem.W PyProof.Rows
set_option maxRecDepth 100000 in
set_option maxHeartbeats 0 in
theorem PySem.Challenge.cw_liarclocks_k27_whole_books_holds : PySem.Challenge.rw_liarclocks_k27_whole_books.Holds := by
 w_on;o_law;refine PySem.W.holds_openX (q := MH.wr.view_556) (loose := [PySem.Str.ofString "Book"]) (Xt := fun s => PySem.W.xlAt MH.wr.view_556 [] s && PySem.W.recOk (PySem.W.RowW.records (PySem.W.OpenRow.toRowW (PySem.W.OpenLaw.row PySem.Challenge.rw_liarclocks_k27_whole_books))) s) (XP := XL MH.wr.view_556 []) (Yf := PySem.W.X.obsZ MH.as0) (Ya := PySem.W.X.valZ MH.wr.heap_273 292 553) MH.le_ok (fun s e => PySem.W.xl_of s (Bool.and_eq_true_iff.mp e).1) PySem.W.XL.keeps (by rfl) (by rfl) (by rfl) (fun s e => PySem.W.recFacts_of (Bool.and_eq_true_iff.mp e).2) (by rfl) (by first | assumption | decide +kernel) (by decide +kernel) ⟨rfl, rfl, rfl, rfl, rfl, by decide +kernel⟩ ?hw ?hc;(case hw => w_witness2)
 k_fill
 refine My.walk_x MH.as_eq (My.walk (l := PySem.Challenge.rw_liarclocks_k27_whole_books) rfl rfl (fun w h Y => Y) ?F)
 case F =>
  intro w mg fa h KX G hmg
  refine' My.all_mk KX G hmg ?_ ?_ ?_ ?_ ?_ ?_ ?_ ?_ ?_ ?_ ?_ ?_ ?_ ?_ ?_ ?_ ?_ ?_ ?_ ?_ ?_ ?_ ?_ ?_ ?_ ?_ ?_ ?_ ?_ ?_ ?_ ?_ ?_ ?_ ?_ ?_ ?_ ?_ ?_ ?_ ?_ ?_ ?_ ?_ ?_ ?_ ?_ ?_ ?_ ?ei_norow ?_ ?_ ?_ ?_ ?_ ?_ ?_ ?_ ?_ ?_ ?_ ?_
  (case ei_norow => kernel_rfl)
  all_goals first | (refine' My.FA.of ?a ?l ?c ?k;(case a => k_is);(case l => k_is);(case c => k_is);(case k => k_is)) | (refine' My.FM.of ?a ?i ?l ?c ?k;(case a => k_is);(case i => k_is);(case l => k_is);(case c => k_is);(case k => k_is)) | k_is | skip