import PyProof.Rows.All
import Wide.All
import OpenK.AllK
import Wide.FinOn
import Lean
import PyProof.EqAt
import PyProof.EqKinds
import PyProof.TupleCall
import PySem.Challenge.RW_liarclocks_k28_whole_only_liars
set_option Elab.async false
set_option linter.all false
set_option maxRecDepth 100000
set_option maxHeartbeats 4000000
open List (Nodup all_cons all_map any_cons any_eq_true append_assoc append_nil drop_drop drop_zero eq_nil_of_length_eq_zero ext_getElem? filterMap_cons filter_cons find?_cons flatten_cons foldl getD_eq_getElem?_getD getElem?_append_left getElem?_append_right getElem?_drop getElem?_eq_getElem getElem?_eq_none getElem?_map getElem?_replicate getElem?_set_ne getElem?_set_self getElem?_toArray getElem_mem isEmpty_nil length_append length_cons length_drop length_filter_le length_map length_nil length_range length_replicate length_set length_take lookup_cons map_append map_congr_left map_cons map_drop map_map map_nil mem_append mem_append_left mem_append_right mem_cons mem_cons_of_mem mem_cons_self mem_filter mem_map mem_nil_iff mem_of_getElem? mem_singleton nil_append nodup_nil of_mem_zip range_succ_eq_map replicate replicate_succ set_cons_succ set_cons_zero size_toArray take_length take_succ take_zero toArray)
open Nat (add_zero ble le_add_right le_of_eq le_of_lt le_of_not_lt le_refl le_succ le_trans lt_irrefl lt_of_lt_of_le lt_succ_of_lt lt_succ_self lt_trans ne_of_gt ne_of_lt not_lt_zero zero_add zero_le)
open PySem.Heap (ExtBut SameBut get?_push_of_some get?_push_size get?_update_ne get?_update_other get?_update_self lt_size size_push)
open PySem.W (Frag KitX XL callWith_KW codeIn emptyDict findIn fnOf handedIn hasDictIn instObj isFn isIn keepIn kitAny kitMeta kitOne kitx_dict lookIn makesIn methodObj mg_none_of mg_of nsIn plainGet plainGet_of plainOver takerIn)
open Option (bind_some getD_none getD_some isSome_map map map_eq_some_iff map_some)
open Array (getD_eq_getD_getElem? getElem?_toList getElem_toList length_toList toList toList_push)
open Bool (and_eq_true false_eq_true not_eq_true)
namespace MH
open PySem PySem.W
def goT (tb : String → Option Builtin)(p : Program)(w : World)(n₀ : Nat)(ann : Option Value) : Nat → SharedT → Thread → Option SharedT
  | 0, _, _ => none
  | m+1, s, th => match through th with
    | true => some s
    | false => match stepOk n₀ ann th with
      | false => none
      | true => match stepT (denote tb) p w s th with
        | some (s', th') => goT tb p w n₀ ann m s' th'
        | none => none
theorem goT_run {tb : String → Option Builtin}{p : Program}{w : World}{n₀ : Nat}{ann : Option Value}{m : Nat} : ∀{s r : SharedT}{th : Thread}, goT tb p w n₀ ann m s th=some r → topRun tb p w n₀ ann m s.abs th=some r.abs := by
  induction m with
  | zero => intro s r th h;cases h
  | succ m ih =>
    intro s r th h
    unfold goT at h
    unfold topRun
    cases he : through th with
    | true => rw[he]at h;cases h;rfl
    | false =>
      rw[he]at h
      cases hk : stepOk n₀ ann th with
      | false => rw[hk]at h;cases h
      | true =>
        rw[hk]at h
        cases hs : stepT (denote tb) p w s th with
        | none => rw[hs]at h;cases h
        | some x => obtain⟨s₂, t₂⟩ := x;rw[hs]at h;dsimp only;rw[stepT_spec hs];exact ih h
def toTree (l : List Obj) : BT×Nat := l.foldl (fun t o => (t.1.ins t.2 o, t.2+1)) (.nil, 0)
def jde (h : Heap)(d : Drawn)(k : Nat)(os : OsState) : SharedT := ⟨(toTree h.objs.toList).1, h.objs.toList.length, h.life, #[], d, k, os⟩
def jgt (p q : Program)(loose : List Str)(lv : List (Str×WData))(R : WRecords)(as : List Addr)(h₀ : Heap)(s : Shared) :=
  ((staticsOk (importedModules p.main.body) h₀ s.heap && namesBound p s.heap && gensDone s && laidKept h₀ s.heap), openSeen q loose (importedModules p.main.body) (fun s => xlAt q lv s && recOk R s) true s, PySem.W.X.obsZ as s)
def E (p q : Program)(loose : List Str)(lv : List (Str×WData))(R : WRecords)(as : List Addr)(m₀ : Nat)(ann : Option Value)(M : Nat)(h₀ : Heap)(d : Drawn)(k : Nat)(w : World)(os : OsState) :=
  (goT treeTable p w m₀ ann M (jde h₀ d k os) (topStub p)).map fun s => jgt p q loose lv R as h₀ s.abs
def sz (h : Heap) : Bool×Nat×Option Value := (h.isNs mainGlobals && (#[] : Array GenState).size==0, h.objs.size, h.nsMap mainGlobals "__annotations__")
theorem le_add {M N : Nat}(le : ble M N=true) : M+(N-M)=N := Nat.add_sub_cancel' (Nat.le_of_ble_eq_true le)
theorem left {p q p' q' : Program}{loose loose' : List Str}{lv : List (Str×WData)}{R : WRecords}{as : List Addr}{N m₀ M : Nat}{ann : Option Value}{Ya : World → List (Option Obj)×Nat×Nat}{E2 : _}{sz2 : _}(hE : @E=E2)(hS : @sz=sz2)(hp : p=p')(hq : q=q')(hl : loose=loose')
    (o1 : opening p=plainProg p.main.scope.names) (hN : ble 600 N=true) (o2 : ∀ s, fenceModules? p s=some s) (habs : ∀(P : Params) d k os, (jde (boot_heap P) d k os).abs=⟨boot_heap P, #[], d, k, os⟩)
    (size : ∀ P : Params, sz2 (boot_heap P)=(true, m₀, ann)) (le : ble M N=true)
    (run : ∀(w : World) (os : OsState), E2 p' q' loose' lv R as m₀ ann M (boot_heap w.params) boot_drawn boot_toks w os=some (true, openGood q' loose', Ya w)) :
    LeftO p q loose (fun s => xlAt q lv s && recOk R s) (PySem.W.X.obsZ as) Ya N := fun w => by
  subst hE hS hp hq hl
  obtain⟨⟨h, gs, d, k, os⟩, e, e'⟩ := Option.map_eq_some_iff.mp (boot_open o1 hN o2 w)
  obtain⟨rfl, rfl, rfl, rfl⟩ : h=boot_heap w.params∧gs = #[]∧d=boot_drawn∧k=boot_toks := by simpa using e'
  obtain⟨z1, z2, z3⟩ : _∧_∧_ := by simpa only[sz, Prod.mk.injEq]using size w.params
  obtain⟨s₁, r, l⟩ := Option.map_eq_some_iff.mp (run w os)
  obtain⟨l1, l2, l3⟩ : _∧_∧_ := by simpa only[jgt, Prod.mk.injEq]using l
  have r := goT_run r
  rw[habs]at r
  have r := topRun_mono (N-M) _ _ _ _ r
  rw[le_add le]at r
  have t : topFrom treeTable p w N ⟨boot_heap w.params, #[], boot_drawn, boot_toks, os⟩=some s₁.abs := by
    unfold topFrom
    dsimp only
    rw[z1, z2, z3, r]
    show(match staticsOk (importedModules p.main.body) (boot_heap w.params) s₁.abs.heap && namesBound p s₁.abs.heap && gensDone s₁.abs && laidKept (boot_heap w.params) s₁.abs.heap with | true => _ | false => _)=_
    rw[l1]
  unfold openEnds
  rw[e]
  show(topFrom treeTable p w N _).map _=_
  rw[t]
  show some (_, _)=_
  rw[l2, l3]
theorem hide {α : Sort _}{a b : α}(h : a=b) : a=b := h
theorem two {P : World → Prop}(row : String)(hf : ∀ w : World, P (w.withFollow row false))(ht : ∀ w : World, P (w.withFollow row true))(w : World) : P w := byRow2 row hf ht w
theorem jfS (P : Params)(d : Drawn)(k : Nat)(os : OsState) : (jde (boot_heap P) d k os).abs=⟨boot_heap P, #[], d, k, os⟩ := by kernel_rfl
end MH
lay_quick MH.E MH.sz PySem.Challenge.pw_liarclocks_k28_whole_only_liars
section
open PySem PySem.W PySem.W.X PySem.W.ZRun
local macro_rules
  | `(tactic| refine $f $args*) => do
    let is (a : Lean.Syntax) (n : Lean.Name) : Bool := a.isOfKind `Lean.Parser.Term.syntheticHole && a[1].getId.eraseMacroScopes==n
    unless args.any (fun a => is a.raw `hl) do Lean.Macro.throwUnsupported
    let as : Array Lean.Syntax := args.map fun a => if is a.raw `hl then(Lean.mkIdent `hl).raw else if is a.raw `hc then(Lean.mkIdent `hc).raw else a.raw
    let t : Lean.TSyntax `term := ⟨Lean.mkNode `Lean.Parser.Term.app #[f.raw, Lean.mkNullNode as]⟩
    `(tactic| refine $t)
set_option maxHeartbeats 0 in
/-- only to have the kit write out the kept heap and the view;it is used nowhere -/
theorem MH.wr (hl : ∀{q : Program}{loose : List Str}{Xt : Shared → Bool}{Yf : Shared → List (Option Obj)×Nat×Nat}{Ya : World → List (Option Obj)×Nat×Nat}{N : Nat}, LeftO PySem.Challenge.pw_liarclocks_k28_whole_only_liars q loose Xt Yf Ya N)(hc : ∀{q : Program}{loose : List Str}{XP : (Str → Option Value) → Heap → Prop}{Yf : Shared → List (Option Obj)×Nat×Nat}{Ya : World → List (Option Obj)×Nat×Nat}{r : RowW}{d : DefRec}{kwd : List (Str×Expr)}{run : Value → List Value → Sem Value}, WalkX q loose XP Yf Ya r d kwd run) : PySem.Challenge.rw_liarclocks_k28_whole_only_liars.Holds := by
  w_on;o_law;z_head;(case hw => w_witness2)
end
namespace MH
open PySem PySem.W
noncomputable def as0 : List Addr := [0, 1, 2, 3, 4, 5, 6, 7, 8, 9, 10, 11, 12, 13, 14, 15, 22, 23, 24, 25, 28, 35, 36, 37, 40, 47, 48, 49, 52, 59, 60, 61, 62, 63, 64, 65, 66, 67, 68, 71, 78, 79, 80, 83, 90, 91, 92, 95, 96, 97, 98, 99, 100, 101, 102, 103, 104, 105, 106, 107, 108, 109, 110, 111, 112, 113, 114, 115, 116, 117, 118, 119, 120, 121, 122, 123, 124, 125, 126, 127, 128, 129, 130, 131, 132, 133, 134, 135, 136, 137, 138, 139, 140, 141, 142, 143, 144, 145, 146, 147, 148, 149, 150, 151, 152, 153, 154, 155, 156, 157, 158, 159, 160, 161, 162, 163, 171, 172, 173, 174, 175, 176, 177, 178, 179, 180, 181, 182, 183, 184, 185, 186, 187, 188, 189, 190, 191, 192, 193, 194, 195, 196, 197, 198, 199, 200, 201, 202, 203, 204, 205, 206, 207, 208, 209, 210, 211, 212, 213, 214, 215, 216, 217, 218, 219, 220, 221, 222, 223, 224, 225, 226, 227, 228, 229, 230, 231, 232, 233, 234, 235, 236, 237, 240, 241, 242, 243, 244, 245, 246, 247, 248, 249, 250, 251, 252, 253, 254, 255, 256, 257, 258, 259, 260, 261, 262, 263, 264, 265, 266, 267, 268, 269, 270, 271, 272, 273, 274, 275, 276, 277, 278, 279, 280, 281, 282, 283, 284, 285, 286, 287, 288, 289]
noncomputable def q0 : Program := PySem.W.view PySem.W.Fast.tw11514038605762417415 [1,2,3,4,5,6,8,9,10,11,12,13,14,15,16,17,18,20,21,22,23,24,26,27,28,29,30,31,32]
noncomputable def lo0 : List Str := [⟨⟨[66, 111, 111, 107]⟩⟩]
def Ok (w : World) : Prop := ∀ os : OsState, PySem.W.Fast.tw6129207837983636007 PySem.W.Fast.tw11514038605762417415 q0 lo0 [] (PySem.W.RowW.records (PySem.W.OpenRow.toRowW (PySem.W.OpenLaw.row PySem.Challenge.rw_liarclocks_k28_whole_only_liars))) as0 11 (some (PySem.Value.ref 6)) 4924 (boot_heap w.params) boot_drawn boot_toks w os=some (true, openGood q0 lo0, PySem.W.X.valZ MH.wr.heap_271 290 552 w)
theorem ok (w : World) : Ok w := fun os => by kernel_rfl
theorem q_eq : MH.wr.view_552=q0 := Eq.trans (b := PySem.W.view PySem.Challenge.pw_liarclocks_k28_whole_only_liars [1,2,3,4,5,6,8,9,10,11,12,13,14,15,16,17,18,20,21,22,23,24,26,27,28,29,30,31,32]) (by kernel_rfl) (congrArg (fun p => PySem.W.view p [1,2,3,4,5,6,8,9,10,11,12,13,14,15,16,17,18,20,21,22,23,24,26,27,28,29,30,31,32]) PySem.W.Fast.te11514038605762417415)
theorem lo_eq : ([PySem.Str.ofString "Book"] : List Str)=lo0 := by kernel_rfl
theorem le_ok : LeftO PySem.Challenge.pw_liarclocks_k28_whole_only_liars MH.wr.view_552 [PySem.Str.ofString "Book"] (fun s => xlAt MH.wr.view_552 [] s && recOk (PySem.W.RowW.records (PySem.W.OpenRow.toRowW (PySem.W.OpenLaw.row PySem.Challenge.rw_liarclocks_k28_whole_only_liars))) s) (PySem.W.X.obsZ as0) (PySem.W.X.valZ MH.wr.heap_271 290 552) 4924 :=
  left PySem.W.Fast.te6129207837983636007 PySem.W.Fast.te9778236028270751511 PySem.W.Fast.te11514038605762417415 q_eq lo_eq (by kernel_rfl) (by decide) (fun s => by kernel_rfl) jfS (fun P => by kernel_rfl) (by decide) ok
theorem as_eq (P : Params) : as0=(MH.wr.heap_271 P).map fun p => p.1 := by kernel_rfl
end MH
set_option Elab.async false
set_option linter.all false
set_option maxRecDepth 100000
namespace L2
open PySem PySem.Spec PyProof.Rows
abbrev Key:=Sum Int Str
def VG:Key->Value->Bool
  | .inl k,v=>Value.isInt k v
  | .inr x,v=>Value.isStrOf x v
def keyH (w:World):Key->Int
  | .inl k=>hashInt k
  | .inr x=>hashStr w x
theorem jZ:∀{k:Key}{v:Value},VG k v=true->(∃ i t,k=Sum.inl i∧v=Value.int i t)∨(∃ x t,k=Sum.inr x∧v=Value.str x t)
  | .inl i,v,h=>by
    obtain⟨t,e⟩:=Value.isInt_shape (k:=i) (v:=v) h
    exact .inl ⟨i,t,rfl,e⟩
  | .inr x,v,h=>by
    obtain⟨t,e⟩:=Value.isStrOf_shape (x:=x) (v:=v) h
    exact .inr ⟨x,t,rfl,e⟩
theorem jfw (i:Int)(t:Tok):VG (.inl i) (.int i t)=true:=by simp[VG,Value.isInt]
theorem jfv (x:Str)(t:Tok):VG (.inr x) (.str x t)=true:=by simp[VG,Value.isStrOf]
theorem key_ll (a b:Int):decide ((Sum.inl a:Key)=Sum.inl b)=(a==b):=by
  by_cases e:a=b
  · subst e;simp
  · have h:¬(Sum.inl a:Key)=Sum.inl b:=fun q=>e (Sum.inl.inj q)
    rw[decide_eq_false h]
    exact(beq_eq_false_iff_ne.mpr e).symm
theorem key_rr (a b:Str):decide ((Sum.inr a:Key)=Sum.inr b)=decide (a=b):=by
  by_cases e:a=b
  · subst e;simp
  · have h:¬(Sum.inr a:Key)=Sum.inr b:=fun q=>e (Sum.inr.inj q)
    rw[decide_eq_false h,decide_eq_false e]
theorem key_lr (a:Int)(b:Str):decide ((Sum.inl a:Key)=Sum.inr b)=false:=decide_eq_false (fun q=>nomatch q)
theorem key_rl (a:Str)(b:Int):decide ((Sum.inr a:Key)=Sum.inl b)=false:=decide_eq_false (fun q=>nomatch q)
def ye (prog:Program)(w:World):PySem.KeyKind prog w Key where
  is:=VG
  hash:=keyH w
  inj:=fun v a b ha hb=>by
    rcases jZ ha with⟨i,t,rfl,rfl⟩ | ⟨x,t,rfl,rfl⟩
    · rcases jZ hb with⟨j,u,rfl,e⟩ | ⟨y,u,rfl,e⟩
      · injection e with e1 _;rw[e1]
      · exact nomatch e
    · rcases jZ hb with⟨j,u,rfl,e⟩ | ⟨y,u,rfl,e⟩
      · exact nomatch e
      · injection e with e1 _;rw[e1]
  byValue:=fun k v h=>by
    rcases jZ h with⟨i,t,rfl,rfl⟩ | ⟨x,t,rfl,rfl⟩ <;> rfl
  pyHash:=fun hv h=>by
    rcases jZ hv with⟨i,t,rfl,rfl⟩ | ⟨x,t,rfl,rfl⟩
    · exact wpAny_pyHash_int h
    · exact wpAny_pyHash_str h
  eqBool:=fun hu hv h=>by
    rcases jZ hu with⟨i,t,rfl,rfl⟩ | ⟨x,t,rfl,rfl⟩
    · rcases jZ hv with⟨j,u,rfl,rfl⟩ | ⟨y,u,rfl,rfl⟩
      · rw[key_ll]at h;exact wpAny_eqBool_int h
      · rw[key_lr]at h;exact SeqAt.EqAt.int_str i t y u _ _ _ _ h
    · rcases jZ hv with⟨j,u,rfl,rfl⟩ | ⟨y,u,rfl,rfl⟩
      · rw[key_rl]at h;exact SeqAt.EqAt.str_int x t j u _ _ _ _ h
      · rw[key_rr]at h;exact wpAny_eqBool_str h
  «strs»:=fun k x t v h=>by
    rcases jZ h with⟨i,u,rfl,e⟩ | ⟨y,u,rfl,e⟩
    · exact nomatch e
    · injection e with e1 _
      subst e1
      cases v <;> rfl
theorem jbc (prog:Program)(w:World)(i:Int)(t:Tok):(ye prog w).is (.inl i) (.int i t)=true:=jfw i t
theorem jbb (prog:Program)(w:World)(x:Str)(t:Tok):(ye prog w).is (.inr x) (.str x t)=true:=jfv x t
inductive V where
  | non | bl (b:Bool) | int (i:Int) | str (x:Str) | byt (b:Array UInt8) | flt (b:UInt64) | ref (a:Addr) | ty (n:String)
  deriving DecidableEq
def yi:V->Value->Prop
  | .non,u=>u=Value.none
  | .bl b,u=>u=Value.bool b
  | .int i,u=>∃ t,u=Value.int i t
  | .str x,u=>∃ t,u=Value.str x t
  | .byt b,u=>∃ t,u=Value.bytes b t
  | .flt b,u=>∃ t,u=Value.float b t
  | .ref a,u=>u=Value.ref a
  | .ty n,u=>u=Value.type n
abbrev yf:List V->List Value->Prop:=Paired yi
theorem yf.length {xs:List V}{us:List Value}(r:yf xs us):xs.length=us.length:=Paired.length r
theorem yf.get:∀{xs:List V}{us:List Value}{i:Nat}{x:V},yf xs us->xs[i]? = some x->∃ u,us[i]? = some u∧yi x u
  | _,_,_,_,.nil,e=>by simp at e
  | _,_,0,_,.cons r _,e=>by simp at e;subst e;exact⟨_,rfl,r⟩
  | _,_,i+1,x,.cons _ t,e=>by
    obtain⟨u,h1,h2⟩:=yf.get (i:=i) (x:=x) t (by simpa using e)
    exact⟨u,by simpa using h1,h2⟩
theorem yf.set {x:V}{u:Value}(r:yi x u):∀{xs:List V}{us:List Value}(i:Nat),yf xs us->yf (xs.set i x) (us.set i u)
  | _,_,_,.nil=>.nil
  | _,_,0,.cons _ t=>.cons r t
  | _,_,i+1,.cons q t=>.cons q (yf.set r i t)
theorem yf.append {xs ys:List V}{us ws:List Value}(h:yf xs us)(s:yf ys ws):yf (xs++ys) (us++ws):=by
  induction h with
  | nil=>exact s
  | cons r t ih=>exact .cons r ih
theorem yf.take:∀{xs:List V}{us:List Value}(n:Nat),yf xs us->yf (xs.take n) (us.take n)
  | _,_,0,_=>.nil
  | _,_,_+1,.nil=>.nil
  | _,_,n+1,.cons r t=>.cons r (yf.take n t)
theorem yf.drop:∀{xs:List V}{us:List Value}(n:Nat),yf xs us->yf (xs.drop n) (us.drop n)
  | _,_,0,r=>r
  | _,_,_+1,.nil=>.nil
  | _,_,n+1,.cons _ t=>yf.drop n t
theorem yf.none_of:∀{xs:List V}{us:List Value}{i:Nat},yf xs us->xs[i]? = none->us[i]? = none:=fun{xs us i} r e=>by
  have h1:=r.length
  have h2:xs.length<=i:=List.getElem?_eq_none_iff.mp e
  exact List.getElem?_eq_none_iff.mpr (by omega)
def uL:Option V->Option Value->Prop
  | some v,some u=>yi v u
  | none,none=>True
  | _,_=>False
def KV {κ:Type}:List (κ×V)->List (κ×Value)->Prop:=Paired fun(p:κ×V) (q:κ×Value)=>p.1=q.1∧yi p.2 q.2
def kV:Key->V
  | .inl i=>.int i
  | .inr x=>.str x
inductive HO where
    | lst (xs:List V)
    | tup (xs:List V)
    | dK (kvs:List (Key×V)) | dT (kvs:List (List Key×V))
    | set (S:Int->Bool) (n:Nat)
    | ins (C dx:Addr) (fs:List (Str×V))
    | own (x:Addr)
    | xd (fs:List (Str×V))
    | met (f x:Addr)
    | rng (lo hi:Int)
    | frz (o:Obj) (u:HO)
    | tbl (ps:Array Value)
    | ext (φ:Heap->Prop)
abbrev Hp:=Addr->Option HO
def upd (H:Hp)(a:Addr)(o:HO):Hp:=fun b=>if b=a then some o else H b
theorem jr {H:Hp}{a:Addr}{o:HO}:upd H a o a=some o:=by unfold upd;rw[if_pos rfl]
theorem jk {H:Hp}{a b:Addr}{o:HO}(h:b≠a):upd H a o b=H b:=by unfold upd;rw[if_neg h]
theorem vB {H:Hp}{a:Addr}{o u:HO}:upd (upd H a o) a u=upd H a u:=by
  funext b;unfold upd;split <;> rfl
theorem jht {H:Hp}{a b:Addr}{o u:HO}(h:H a=some o)(h':H b=some u)(d:o≠u):a≠b:=by
  intro e;subst e;rw[h]at h';exact d (Option.some.inj h')
theorem jv {H:Hp}{a b:Addr}{o:HO}(h:H a=some o)(h':H b=none):a≠b:=by
  intro e;subst e;rw[h]at h';cases h'
section
variable (P:Program)(w:World)
def yk (H:Hp)(h:Heap)(a:Addr):HO->Prop
  | .lst xs=>xs.length<=sizeLine∧∃(its:List Value) (n:Nat),yf xs its∧h.get? a=some { cls:=.type "list",data:=.seq its.toArray n }
  | .tup xs=>xs.length<=sizeLine∧∃ its:List Value,yf xs its∧IsTup h a its.toArray
  | .dK kvs=>kvs.length<=sizeLine∧(a==sysModules)=false∧∃ vs,KV kvs vs∧h.DictOf (ye P w) a vs
  | .dT kvs=>kvs.length<=sizeLine∧(a==sysModules)=false∧∃ xs:List (List Key×Addr×Value),
      Paired (fun(p:List Key×V) (q:List Key×Addr×Value)=>p.1=q.1∧H q.2.1=some (.tup (p.1.map kV))∧yi p.2 q.2.2) kvs xs ∧
      ∃ o es ep,h.get? a=some o∧o.ExactDict∧o.data = .dict es ep∧es.toList=xs.map (entryOfKey (tupleKind (ye P w)))∧(xs.map (·.1)).Nodup
  | .set S n=>h.SetOf (intKind P w) a S n
  | .ins C dx fs=>H dx=some (.own a)∧fs.length<=1000∧dx≠a∧h.get? a=some (instObj C dx) ∧
      ∃ mA,h.Ns1 dx mA∧(∀ f,uL (fs.lookup f) (mA f))∧PySem.Within mA (fs.map (·.1))
  | .own _=>∃ o,h.get? a=some o
  | .xd fs=>∃ mA,h.Ns1 a mA∧∀ f,uL (fs.lookup f) (mA f)
  | .rng lo hi=>∃ t u v,h.get? a=some { cls:=.type "range",data:=.fields #[.int lo t,.int hi u,.int 1 v] }
  | .frz o u=>h.get? a=some o∧yk H h a u
  | .tbl ps=>h.get? a=some { cls:=.none,data:=.fields ps }
  | .met f x=>h.get? a=some (methodObj (.ref f) (.ref x))
  | .ext φ=>φ h∧(∃ o,h.get? a=some o)∧∀ h1 h2:Heap,φ h1->(∀ o,h1.get? a=some o->h2.get? a=some o)->φ h2
def HOk (H:Hp)(h:Heap):Prop:=∀ a o,H a=some o->yk P w H h a o
end
section
variable {P:Program}{w:World}{H H':Hp}{h h':Heap}{a:Addr}{o:HO}
theorem yk.lt (x:yk P w H h a o):a<h.objs.size:=by
  cases o with
  | lst xs=>obtain⟨_,_,_,_,e⟩:=x;exact lt_size e
  | tup xs=>obtain⟨_,_,_,p⟩:=x;exact p.lt
  | dK kvs=>obtain⟨_,_,_,_,o,_,_,e,_⟩:=x;exact lt_size e
  | dT kvs=>obtain⟨_,_,_,_,o,_,_,e,_⟩:=x;exact lt_size e
  | set S n=>obtain⟨o,_,_,_,e,_⟩:=x;exact lt_size e
  | ins C dx fs=>obtain⟨_,_,_,e,_⟩:=x;exact lt_size e
  | own y=>obtain⟨_,e⟩:=x;exact lt_size e
  | xd fs=>obtain⟨_,⟨_,_,_,e,_⟩,_⟩:=x;exact lt_size e
  | rng lo hi=>obtain⟨_,_,_,e⟩:=x;exact lt_size e
  | frz ob u=>obtain⟨e,_⟩:=x;exact lt_size e
  | tbl ps=>exact lt_size (show h.get? a=some _ from x)
  | met f y=>exact lt_size (show h.get? a=some _ from x)
  | ext φ=>obtain⟨_,⟨_,e⟩,_⟩:=x;exact lt_size e
theorem Paired.mapP {α β:Type}{F G:α->β->Prop}{l₁:List α}{l₂:List β}(h:Paired F l₁ l₂)(f:∀ a b,F a b->G a b):Paired G l₁ l₂:=by
  induction h with
  | nil=>exact .nil
  | cons r t ih=>exact .cons (f _ _ r) ih
theorem yk.stay (x:yk P w H h a o)(k:∀ b u,(b=a∨H b=some (.own a))->h.get? b=some u->h'.get? b=some u)
    (ho:∀ b,H b=some (.own a)->H' b=some (.own a)) (ht:∀ b xs,H b=some (.tup xs)->H' b=some (.tup xs)):yk P w H' h' a o:=by
  induction o with
  | lst xs=>obtain⟨z,its,n,r,e⟩:=x;exact⟨z,its,n,r,k _ _ (.inl rfl) e⟩
  | tup xs=>obtain⟨z,its,r,ob,e,c⟩:=x;exact⟨z,its,r,ob,k _ _ (.inl rfl) e,c⟩
  | dK kvs=>obtain⟨z,y,vs,r,ob,es,ep,e,c⟩:=x;exact⟨z,y,vs,r,ob,es,ep,k _ _ (.inl rfl) e,c⟩
  | dT kvs =>
    obtain⟨z,y,xs,r,ob,es,ep,e,c⟩:=x
    exact⟨z,y,xs,Paired.mapP r fun p q z=>⟨z.1,ht _ _ z.2.1,z.2.2⟩,ob,es,ep,k _ _ (.inl rfl) e,c⟩
  | set S n=>obtain⟨ob,es,ep,t,e,c⟩:=x;exact⟨ob,es,ep,t,k _ _ (.inl rfl) e,c⟩
  | ins C dx fs =>
    obtain⟨d,z,ne,e,mA,⟨od,es,ep,e2,c⟩,r⟩:=x
    exact⟨ho _ d,z,ne,k _ _ (.inl rfl) e,mA,⟨od,es,ep,k _ _ (.inr d) e2,c⟩,r⟩
  | own y=>obtain⟨ob,e⟩:=x;exact⟨ob,k _ _ (.inl rfl) e⟩
  | xd fs=>obtain⟨mA,⟨od,es,ep,e,c⟩,r⟩:=x;exact⟨mA,⟨od,es,ep,k _ _ (.inl rfl) e,c⟩,r⟩
  | rng lo hi=>obtain⟨t,u,v,e⟩:=x;exact⟨t,u,v,k _ _ (.inl rfl) e⟩
  | frz ob u ih=>obtain⟨e,q⟩:=x;exact⟨k _ _ (.inl rfl) e,ih q⟩
  | tbl ps =>
    have e:h.get? a=some { cls:=.none,data:=.fields ps }:=x
    show h'.get? a=some { cls:=.none,data:=.fields ps }
    exact k a _ (.inl rfl) e
  | met f y =>
    have e:h.get? a=some (methodObj (.ref f) (.ref y)):=x
    show h'.get? a=some (methodObj (.ref f) (.ref y))
    exact k a _ (.inl rfl) e
  | ext φ=>obtain⟨p,⟨o,e⟩,st⟩:=x;exact⟨st _ _ p fun o q=>k _ _ (.inl rfl) q,⟨o,k _ _ (.inl rfl) e⟩,st⟩
theorem HOk.lt (x:HOk P w H h)(e:H a=some o):a<h.objs.size:=(x a o e).lt
theorem HOk.fresh (x:HOk P w H h)(e:h.objs.size<=a):H a=none:=by
  cases q:H a with
  | none=>rfl
  | some u=>exact absurd (lt_of_lt_of_le (x.lt q) e) (lt_irrefl _)
theorem HOk.kept (x:HOk P w H h)(k:∀ b u,h.get? b=some u->h'.get? b=some u):HOk P w H h':=fun a o e =>
  (x a o e).stay (fun b u _ q=>k b u q) (fun _ q=>q) fun _ _ q=>q
theorem HOk.laid (x:HOk P w H h)(k:∀ b u,h.get? b=some u->h'.get? b=some u)(hp:h.objs.size<=a)(new:yk P w (upd H a o) h' a o):HOk P w (upd H a o) h':=fun b u e=>by
  have hn:=x.fresh hp
  by_cases hb:b=a
  · subst hb;rw[jr]at e;cases e;exact new
  · rw[jk hb]at e
    exact(x b u e).stay (fun c v _ q=>k c v q) (fun c q=>by rw[jk (jv q hn)];exact q) fun c xs q=>by rw[jk (jv q hn)];exact q
end
def Rd (H:Hp)(a:Addr)(u:HO):Prop:=H a=some u∨∃ o,H a=some (.frz o u)
theorem Rd.ok {P:Program}{w:World}{H:Hp}{h:Heap}{a:Addr}{u:HO}(r:Rd H a u)(x:HOk P w H h):yk P w H h a u:=by
  rcases r with r | ⟨o,r⟩
  · exact x a u r
  · obtain⟨_,q⟩:=x a _ r
    exact q
def Mut:Option HO->Prop
  | some (.lst _)=>True
  | some (.dK _)=>True
  | some (.dT _)=>True
  | some (.set _ _)=>True
  | some (.ins _ _ _)=>True
  | some (.ext _)=>True
  | _=>False
section
variable {P:Program}{w:World}{H:Hp}{h h':Heap}{x e:Addr}{o':HO}
theorem HOk.write (ok:HOk P w H h)(mu:Mut (H x))(he:e=x∨H e=some (.own x))(k:∀ b u,b≠e->h.get? b=some u->h'.get? b=some u)(f7:∃ u,h'.get? e=some u)
    (new:yk P w (upd H x o') h' x o'):HOk P w (upd H x o') h':=fun b u q=>by
  have fq:∀ c y,H c=some (.own y)->c≠x:=fun c y r z=>by subst z;rw[r]at mu;exact mu
  have ntup:∀ c xs,H c=some (.tup xs)->c≠x:=fun c xs r z=>by subst z;rw[r]at mu;exact mu
  by_cases hb:b=x
  · subst hb;rw[jr]at q;cases q;exact new
  · rw[jk hb]at q
    by_cases fS:b=e
    · have q':H b=some (.own x):=by
        rcases he with z | z
        · exact absurd (fS.trans z) hb
        · rw[fS];exact z
      rw[q]at q';cases q'
      obtain⟨v,hv⟩:=f7
      exact⟨v,by rw[fS];exact hv⟩
    · refine(ok b u q).stay (fun c v hc r=>k c v ?_ r) (fun c r=>by rw[jk (fq c b r)];exact r) fun c xs r=>by rw[jk (ntup c xs r)];exact r
      rcases hc with rfl | hc
      · exact fS
      · rintro rfl
        rcases he with z | z
        · exact fq c b hc z
        · rw[hc]at z;cases z;exact hb rfl
end
structure Un (fs ex:List Addr)(H H':Hp)(h h':Heap):Prop where
  keep:∀ b o,h.get? b=some o->H b=none->b∉fs->b∉ex->h'.get? b=some o
  slot:∀ b o,h.get? b=some o->H b=none->b∈fs->b∉ex->∃ sl,h'.get? b=some { o with slots:=sl }
  free:∀ b o,h.get? b=some o->H b=none->b∉ex->H' b=none
  there:∀ b o,h.get? b=some o->b∉ex->∃ o',h'.get? b=some o'
  tups:∀ b xs,H b=some (.tup xs)->H' b=some (.tup xs)
  frzs:∀ b o u,H b=some (.frz o u)->H' b=some (.frz o u)
  tbls:∀ b ps,H b=some (.tbl ps)->∃ more,H' b=some (.tbl (ps++more))
section
variable {fs ex:List Addr}{H H1 H2:Hp}{h h1 h2 h':Heap}{a x e:Addr}{o:HO}
theorem Un.any (u:Un fs ex H H1 h h1){b:Addr}{ob:Obj}(q:h.get? b=some ob)(n:H b=none)(hx:b∉ex):∃ sl,h1.get? b=some { ob with slots:=sl }:=by
  by_cases hb:b∈fs
  · exact u.slot b ob q n hb hx
  · exact⟨ob.slots,u.keep b ob q n hb hx⟩
theorem Un.trans (a:Un fs ex H H1 h h1)(b:Un fs ex H1 H2 h1 h2):Un fs ex H H2 h h2 where
  keep:=fun c ob q n hc hx=>b.keep c ob (a.keep c ob q n hc hx) (a.free c ob q n hx) hc hx
  slot:=fun c ob q n hc hx=>by
    obtain⟨sl,e1⟩:=a.slot c ob q n hc hx
    obtain⟨gr,e2⟩:=b.slot c _ e1 (a.free c ob q n hx) hc hx
    exact⟨gr,e2⟩
  free:=fun c ob q n hx=>by
    obtain⟨o',e1⟩:=a.there c ob q hx
    exact b.free c o' e1 (a.free c ob q n hx) hx
  there:=fun c ob q hx=>by
    obtain⟨o',e1⟩:=a.there c ob q hx
    exact b.there c o' e1 hx
  tups:=fun c xs q=>b.tups c xs (a.tups c xs q)
  frzs:=fun c ob xs q=>b.frzs c ob xs (a.frzs c ob xs q)
  tbls:=fun c ps q=>by
    obtain⟨m1,e1⟩:=a.tbls c ps q
    obtain⟨m2,e2⟩:=b.tbls c _ e1
    exact⟨m1++m2,by rw[e2,Array.append_assoc]⟩
theorem Un.kept (k:∀ b u,h.get? b=some u->h'.get? b=some u):Un fs ex H H h h' :=
  ⟨fun b ob q _ _ _=>k b ob q,fun b ob q _ _ _=>⟨ob.slots,k b ob q⟩,fun _ _ _ n _=>n,fun b ob q _=>⟨ob,k b ob q⟩,fun _ _ q=>q,fun _ _ _ q=>q,fun _ ps q=>⟨#[],by rw[q];simp⟩⟩
theorem Un.refl:Un fs ex H H h h:=Un.kept fun _ _ q=>q
theorem Un.laid (k:∀ b u,h.get? b=some u->h'.get? b=some u)(hp:h.objs.size<=a)(hn:H a=none):Un fs ex H (upd H a o) h h' where
  keep:=fun b u q _ _ _=>k b u q
  slot:=fun b u q _ _ _=>⟨u.slots,k b u q⟩
  free:=fun b u q n _=>by rw[jk (ne_of_lt (lt_of_lt_of_le (lt_size q) hp))];exact n
  there:=fun b u q _=>⟨u,k b u q⟩
  tups:=fun b xs q=>by rw[jk (jv q hn)];exact q
  frzs:=fun b u xs q=>by rw[jk (jv q hn)];exact q
  tbls:=fun b ps q=>⟨#[],by rw[jk (jv q hn),q];simp⟩
theorem Un.write (mu:Mut (H x))(he:e=x∨H e=some (.own x))(k:∀ b u,b≠e->h.get? b=some u->h'.get? b=some u)(f7:∃ u,h'.get? e=some u):Un fs ex H (upd H x o) h h':=by
  have hx:∀ b,H b=none->b≠x:=fun b n z=>by subst z;rw[n]at mu;exact mu
  have hb:∀ b,H b=none->b≠e:=fun b n z=>by
    subst z
    rcases he with r | r
    · exact hx b n r
    · rw[n]at r;cases r
  have hm:∀ b u,H b=some u->¬ Mut (some u)->b≠x:=fun b u q nm z=>by subst z;rw[q]at mu;exact nm mu
  refine⟨fun b u q n _ _=>k b u (hb b n) q,fun b u q n _ _=>⟨u.slots,k b u (hb b n) q⟩,fun b u q n _=>by rw[jk (hx b n)];exact n,fun b u q _=>?_,
    fun b xs q=>by rw[jk (hm b _ q fun z=>z)];exact q,fun b u xs q=>by rw[jk (hm b _ q fun z=>z)];exact q,fun b ps q=>⟨#[],by rw[jk (hm b _ q fun z=>z),q];simp⟩⟩
  by_cases fS:b=e
  · subst fS;exact f7
  · exact⟨u,k b u fS q⟩
end
def trk (h:Heap)(H:Hp):List Addr:=(List.range h.objs.size).filter fun a=>(H a).isSome
def UO (h:Heap)(H:Hp):Heap:=PySem.W.hideAll h (trk h H)
theorem jfz (h:Heap)(H:Hp):(UO h H).objs.size=h.objs.size:=PySem.W.hideAll_size _ _
theorem jhN {h:Heap}{H:Hp}{b:Addr}{o:Obj}(e:h.get? b=some o)(n:H b=none):(UO h H).get? b=some o :=
  PySem.W.hideAll_get _ e fun hm=>by
    have q:(H b).isSome=true:=(List.mem_filter.mp hm).2
    rw[n]at q;simp at q
theorem of_hidT {h:Heap}{H:Hp}{b:Addr}{o:Obj}(e:(UO h H).get? b=some o):h.get? b=some o∧H b=none:=by
  have e':h.get? b=some o:=PySem.W.of_hideAll (trk h H) e
  refine⟨e',?_⟩
  cases q:H b with
  | none=>rfl
  | some x =>
    have hm:b∈trk h H:=List.mem_filter.mpr ⟨List.mem_range.mpr (lt_size e'),by simp[q]⟩
    have z:(UO h H).get? b=none:=PySem.W.hideAll_none (trk h H) hm
    rw[z]at e;cases e
def allNews (g h:Heap)(L:Addr):List (Addr×Obj):=(List.range h.objs.size).filterMap fun a=>if a=L∨(g.get? a).isSome=true then none else(h.get? a).map fun o=>(a,o)
def rest (g h:Heap)(L d:Addr):List (Addr×Obj):=(allNews g h L).filter fun p=>decide (p.1≠d)
structure Mod (K:Frag)(mg:Str->Option Value)(base:Heap):Prop where
  kin:K.In base
  glob:base.Ns mainGlobals mg
  blt:∃ mb,base.Ns builtinsNs mb∧∀ x:Str,x≠"__name__"->mb x=bootBuiltins x
  nolimit:base.NoLimit
structure Cx where
  prog:Program
  w:World
  K:Frag
  mg:Str->Option Value
  base:Heap
  A:Around
  N:List Str
  s₀:Shared
  H₀:Hp
  env:Env
  outer:List Env
  stack:List Env
  ex:List Addr
  fn:Str->Bool
  calm:Bool
  pn:List (Addr×Obj)
  xe:Value->Shared->Prop
def frs (l:List Env):List Addr:=l.filterMap (·.frame)
abbrev Cx.fs (X:Cx):List Addr:=frs X.outer
def Vis (sc:Scope)(x:Str):Prop:=sc.names.lookup x=some .local∨sc.names.lookup x=some .cell∨sc.names.lookup x=some .free
def Loc (sc:Scope)(x:Str):Prop:=sc.names.lookup x=some .local∨sc.names.lookup x=some .cell
def Look (env:Env)(h:Heap)(m:Str->Option Value)(x:Str)(u:Value):Prop :=
  (env.kindOf x=some .local∧m x=some u)∨((env.kindOf x=some .cell∨env.kindOf x=some .free)∧∃ c,env.cells.lookup x=some c∧h.IsCell c (some u))
structure Cx.Ok (X:Cx):Prop where
  mod:Mod X.K X.mg X.base
  kind:X.env.scope.kind = .function
  glob:X.env.globals=mainGlobals
  blt:X.env.builtins=builtinsNs
  above:X.s₀.heap.objs.size<=X.env.locals
  inj:∀ x y c,X.env.cells.lookup x=some c->X.env.cells.lookup y=some c->x=y
  has:∀ x,(X.env.kindOf x=some .cell∨X.env.kindOf x=some .free)->∃ c,X.env.cells.lookup x=some c
  cab:∀ x c,X.fn x=true->X.env.cells.lookup x=some c->X.s₀.heap.objs.size<=c
  hd:X.calm=true->X.A.handled=none
  frames:X.A.frames=some X.stack
  stk:X.stack=X.outer∨(X.stack=X.env::X.outer∧X.env.frame=some X.env.locals)
  exf:∀ b∈X.ex,b≠X.env.locals∧∀ x c,X.env.cells.lookup x=some c->c≠b
  bs:∀ b o,X.base.get? b=some o->X.s₀.heap.get? b=some o∧X.H₀ b=none
  bsz:X.base.objs.size<=X.s₀.heap.objs.size
  noex:∀ b o,X.base.get? b=some o->b∉X.ex
  exfs:∀ b∈X.ex,b∉X.fs
  funs:X.s₀.heap.FunFrames X.base X.outer
  frf:∀ b∈X.fs,X.H₀ b=none
structure Inv (X:Cx)(aa:List (Addr×Obj))(σ:List (Option V))(H:Hp)(s:Shared):Prop where
  ok:X.Ok
  os:s.os=X.s₀.os
  bare:AllBare s.gens
  base:Un X.fs X.ex X.H₀ H X.s₀.heap s.heap
  loc:∃ m,s.heap.Ns X.env.locals m∧∀(i:Nat) (x:Str) (v:V),X.N[i]? = some x->σ[i]? = some (some v)->Vis X.env.scope x->∃ u,yi v u∧Look X.env s.heap m x u
  cell:∀ x c,X.env.cells.lookup x=some c->∃ v,s.heap.IsCell c v
  free:H X.env.locals=none
  freeC:∀ x c,X.env.cells.lookup x=some c->H c=none
  pin:∀ p∈X.pn++aa,s.heap.get? p.1=some p.2∧H p.1=none∧p.1≠X.env.locals∧p.1∉X.fs∧∀ v,p.2.data≠.cell v
  hok:HOk X.prog X.w H s.heap
  len:σ.length=X.N.length
section
variable {X:Cx}{aa:List (Addr×Obj)}{σ:List (Option V)}{H H':Hp}{s:Shared}{h':Heap}
theorem Cx.Ok.nofr (ok:X.Ok){b:Addr}{o:Obj}(e:X.base.get? b=some o):b∉X.fs:=fun hb=>by
  have:=(ok.funs.mem hb).1
  rw[e]at this;cases this
theorem Inv.bs (I:Inv X aa σ H s):∀ b o,X.base.get? b=some o->s.heap.get? b=some o∧H b=none:=fun b o e =>
  ⟨I.base.keep b o (I.ok.bs b o e).1 (I.ok.bs b o e).2 (I.ok.nofr e) (I.ok.noex b o e),I.base.free b o (I.ok.bs b o e).1 (I.ok.bs b o e).2 (I.ok.noex b o e)⟩
theorem Inv.bk (I:Inv X aa σ H s):∀ b o,X.base.get? b=some o->s.heap.get? b=some o:=fun b o e=>(I.bs b o e).1
theorem Inv.mod (I:Inv X aa σ H s):Mod X.K X.mg X.base:=I.ok.mod
theorem Inv.kIn (I:Inv X aa σ H s):X.K.In s.heap:=I.ok.mod.kin.keeps I.bk
theorem Inv.lt (I:Inv X aa σ H s):X.env.locals<s.heap.objs.size:=let ⟨_,hn,_⟩:=I.loc;hn.lt
theorem Inv.sz (I:Inv X aa σ H s):X.s₀.heap.objs.size<=s.heap.objs.size:=le_trans I.ok.above (le_of_lt I.lt)
theorem Inv.nofs (I:Inv X aa σ H s){a:Addr}(h:s.heap.objs.size<=a):a∉X.fs:=fun hb=>by
  obtain⟨_,o,ho,_⟩:=I.ok.funs.mem hb
  exact absurd (lt_of_lt_of_le (lt_size ho) (le_trans I.sz h)) (lt_irrefl _)
theorem Inv.cne (I:Inv X aa σ H s):∀ x c,X.env.cells.lookup x=some c->c≠X.env.locals:=fun x c e z=>by
  obtain⟨v,o,ho,hd⟩:=I.cell x c e
  obtain⟨m,⟨o',es,ep,a9,c6,_⟩,_⟩:=I.loc
  rw[z,a9]at ho;cases ho;rw[c6]at hd;cases hd
theorem Inv.funs (I:Inv X aa σ H s):s.heap.FunFrames X.base X.outer:=by
  have all:∀(l:List Env),(∀ b∈frs l,b∈X.fs)->X.s₀.heap.FunFrames X.base l->s.heap.FunFrames X.base l:=by
    intro l
    induction l with
    | nil=>intro _ _;trivial
    | cons env r ih =>
      intro hs hl
      obtain⟨hk,⟨L,o,hf,hn,ho,hd⟩,hr⟩:=hl
      have hL:L∈X.fs:=hs L (by unfold frs;rw[filterMap_cons,hf];exact mem_cons_self)
      obtain⟨sl,e⟩:=I.base.slot L o ho (I.ok.frf L hL) hL fun z=>I.ok.exfs L z hL
      exact⟨hk,⟨L,_,hf,hn,e,hd⟩,ih (fun b hb=>hs b (by unfold frs;rw[filterMap_cons,hf];exact mem_cons_of_mem _ hb)) hr⟩
  exact all X.outer (fun _ hb=>hb) I.ok.funs
theorem Inv.stack (I:Inv X aa σ H s):s.heap.FunFrames X.base X.stack:=by
  rcases I.ok.stk with e | ⟨e,hf⟩
  · rw[e];exact I.funs
  · rw[e]
    obtain⟨m,hn,_⟩:=I.loc
    refine .cons (by rw[I.ok.kind];decide) hf hn ?_ I.funs
    exact Heap.get?_none_of_le (le_trans I.ok.bsz I.ok.above)
theorem Inv.stkSub (I:Inv X aa σ H s):∀ b∈frs X.stack,b∈X.env.locals::X.fs:=fun b hb=>by
  rcases I.ok.stk with e | ⟨e,hf⟩
  · rw[e]at hb;exact mem_cons_of_mem _ hb
  · rw[e]at hb
    unfold frs at hb
    rw[filterMap_cons,hf]at hb
    exact hb
theorem Inv.stkFree (I:Inv X aa σ H s):∀ b∈frs X.stack,H b=none:=fun b hb=>by
  rcases List.mem_cons.mp (I.stkSub b hb)with e | hb
  · rw[e];exact I.free
  · obtain⟨_,o,ho,_⟩:=I.ok.funs.mem hb
    exact I.base.free b o ho (I.ok.frf b hb) fun z=>I.ok.exfs b z hb
theorem Inv.step {g':Array GenState}{t':Nat}{d':Drawn}{ch:List Addr}(I:Inv X aa σ H s)
    (eF:∀ b∈ch,(b∈X.ex∨X.s₀.heap.objs.size<=b)∧b≠X.env.locals∧(∀ x c,X.env.cells.lookup x=some c->c≠b)∧∀ p∈X.pn++aa,p.1≠b)
    (keep:∀ b o,b≠X.env.locals->b∉X.fs->b∉ch->s.heap.get? b=some o->H b=none->h'.get? b=some o)
    (slot:∀ b o,b≠X.env.locals->b∈X.fs->b∉ch->s.heap.get? b=some o->H b=none->∃ sl,h'.get? b=some { o with slots:=sl }) (free:∀ b o,b∉ch->s.heap.get? b=some o->H b=none->H' b=none)
    (there:∀ b o,b∉ch->s.heap.get? b=some o->∃ o',h'.get? b=some o')
    (tups:∀ b xs,H b=some (.tup xs)->H' b=some (.tup xs)) (frzs:∀ b o u,H b=some (.frz o u)->H' b=some (.frz o u)) (tbls:∀ b ps,H b=some (.tbl ps)->∃ more,H' b=some (.tbl (ps++more)))
    (ns:∀ m,s.heap.Ns X.env.locals m->h'.Ns X.env.locals m) (hok:HOk X.prog X.w H' h') (hg:AllBare g') :
    Inv X aa σ H' { s with heap:=h',gens:=g',drawn:=d',toks:=t' }:=by
  have neL:∀ b o,X.s₀.heap.get? b=some o->b≠X.env.locals:=fun b o e=>ne_of_lt (lt_of_lt_of_le (lt_size e) I.ok.above)
  have ij:∀ b o,X.s₀.heap.get? b=some o->b∉X.ex->b∉ch:=fun b o e hx hb=>by
    rcases(eF b hb).1 with z | z
    · exact hx z
    · exact absurd (lt_of_lt_of_le (lt_size e) z) (lt_irrefl _)
  have cellK:∀ x c,X.env.cells.lookup x=some c->∀ v,s.heap.IsCell c v->h'.IsCell c v:=fun x c e v ae=>by
    obtain⟨o,ho,hd⟩:=ae
    have gB:c∉ch:=fun z=>(eF c z).2.2.1 x c e rfl
    by_cases hc:c∈X.fs
    · obtain⟨sl,q⟩:=slot c o (I.cne x c e) hc gB ho (I.freeC x c e)
      exact⟨_,q,hd⟩
    · exact⟨o,keep c o (I.cne x c e) hc gB ho (I.freeC x c e),hd⟩
  refine⟨I.ok,I.os,hg,⟨fun b o e n hb hx=>?_,fun b o e n hb hx=>?_,fun b o e n hx=>?_,fun b o e hx=>?_,fun b xs e=>tups b xs (I.base.tups b xs e),fun b o xs e=>frzs b o xs (I.base.frzs b o xs e),fun b ps e=>?_⟩,?_,fun x c e=>?_,?_,fun x c e=>?_,fun p hp=>?_,hok,I.len⟩
  · exact keep b o (neL b o e) hb (ij b o e hx) (I.base.keep b o e n hb hx) (I.base.free b o e n hx)
  · obtain⟨sl,e1⟩:=I.base.slot b o e n hb hx
    obtain⟨gr,e2⟩:=slot b _ (neL b o e) hb (ij b o e hx) e1 (I.base.free b o e n hx)
    exact⟨gr,e2⟩
  · obtain⟨o',e1⟩:=I.base.there b o e hx
    exact free b o' (ij b o e hx) e1 (I.base.free b o e n hx)
  · obtain⟨o',e1⟩:=I.base.there b o e hx
    exact there b o' (ij b o e hx) e1
  · obtain⟨m1,e1⟩:=I.base.tbls b ps e
    obtain⟨m2,e2⟩:=tbls b _ e1
    exact⟨m1++m2,by rw[e2,Array.append_assoc]⟩
  · obtain⟨m,hn,hl⟩:=I.loc
    refine⟨m,ns m hn,fun i x v e1 e2 e3=>?_⟩
    obtain⟨u,r,l⟩:=hl i x v e1 e2 e3
    refine⟨u,r,?_⟩
    rcases l with l | ⟨k,c,e,z⟩
    · exact .inl l
    · exact .inr ⟨k,c,e,cellK x c e _ z⟩
  · obtain⟨v,z⟩:=I.cell x c e
    exact⟨v,cellK x c e v z⟩
  · obtain⟨m,⟨o,_,_,ho,_⟩,_⟩:=I.loc
    exact free _ o (fun z=>(eF _ z).2.1 rfl) ho I.free
  · obtain⟨v,o,ho,hd⟩:=I.cell x c e
    exact free c o (fun z=>(eF c z).2.2.1 x c e rfl) ho (I.freeC x c e)
  · obtain⟨e,n,ne,nf,d⟩:=I.pin p hp
    have gB:p.1∉ch:=fun z=>(eF p.1 z).2.2.2 p hp rfl
    exact⟨keep p.1 p.2 ne nf gB e n,free p.1 p.2 gB e n,ne,nf,d⟩
theorem Inv.un {t':Nat}(I:Inv X aa σ H s)(u:Un X.fs [] H H' s.heap h')(hok:HOk X.prog X.w H' h'):Inv X aa σ H' { s with heap:=h',toks:=t' }:=by
  obtain⟨m,⟨o,es,ep,ho,r⟩,_⟩:=id I.loc
  obtain⟨sl,hL⟩:=u.any ho I.free (by simp)
  exact I.step (g':=s.gens) (d':=s.drawn) (ch:=[]) (fun _ z=>nomatch z) (fun b o _ hb _ e n=>u.keep b o e n hb (by simp)) (fun b o _ hb _ e n=>u.slot b o e n hb (by simp)) (fun b o _ e n=>u.free b o e n (by simp)) (fun b o _ e=>u.there b o e (by simp)) u.tups u.frzs u.tbls (fun m' hm=>by
    obtain⟨o',bf,g9,a9,r'⟩:=hm
    rw[ho]at a9;cases a9
    exact⟨_,bf,g9,hL,r'⟩) hok I.bare
theorem Inv.call {g':Array GenState}{t':Nat}{d':Drawn}{ch:List Addr}(I:Inv X aa σ H s)(u:Un (frs X.stack) ch H H' s.heap h')(hok:HOk X.prog X.w H' h')(hg:AllBare g')
    (eF:∀ b∈ch,(b∈X.ex∨X.s₀.heap.objs.size<=b)∧b≠X.env.locals∧(∀ x c,X.env.cells.lookup x=some c->c≠b)∧∀ p∈X.pn++aa,p.1≠b) :
    Inv X aa σ H' { s with heap:=h',gens:=g',drawn:=d',toks:=t' }:=by
  obtain⟨m,⟨o,es,ep,ho,r⟩,_⟩:=id I.loc
  obtain⟨sl,hL⟩:=u.any ho I.free fun z=>(eF _ z).2.1 rfl
  exact I.step (ch:=ch) eF (fun b o hL hb hc e n=>u.keep b o e n (fun z=>(List.mem_cons.mp (I.stkSub b z)).elim hL hb) hc) (fun b o _ _ hc e n=>u.any e n hc) (fun b o hc e n=>u.free b o e n hc) (fun b o hc e=>u.there b o e hc) u.tups u.frzs u.tbls (fun m' hm=>by
    obtain⟨o',bf,g9,a9,r'⟩:=hm
    rw[ho]at a9;cases a9
    exact⟨_,bf,g9,hL,r'⟩) hok hg
theorem Inv.turned {t':Nat}{it:Addr}(I:Inv X aa σ H s)(k:∀ b o,b≠it->s.heap.get? b=some o->h'.get? b=some o)(hn:H it=none)(hL:it≠X.env.locals)
    (h1:it∈X.ex∨X.s₀.heap.objs.size<=it) (h2:∀ x c,X.env.cells.lookup x=some c->c≠it) (h3:∀ p∈X.pn++aa,p.1≠it):Inv X aa σ H { s with heap:=h',toks:=t' }:=by
  have gA:∀ b u,H b=some u->b≠it:=fun b u e z=>by rw[z,hn]at e;cases e
  refine I.step (g':=s.gens) (d':=s.drawn) (ch:=[it]) (fun b hb=>?_) (fun b o _ _ hc e _=>k b o (fun z=>hc (by simp[z])) e) (fun b o _ _ hc e _=>⟨o.slots,k b o (fun z=>hc (by simp[z])) e⟩) (fun _ _ _ _ n=>n)
    (fun b o hc e=>⟨o,k b o (fun z=>hc (by simp[z])) e⟩) (fun _ _ e=>e) (fun _ _ _ e=>e) (fun b ps e=>⟨#[],by rw[e];simp⟩) (fun m hm=>?_) (fun b u e=>?_) I.bare
  · have e:b=it:=by simpa using hb
    subst e
    exact⟨h1,hL,h2,h3⟩
  · obtain⟨o,es,ep,ho,r⟩:=hm
    exact⟨o,es,ep,k _ o (Ne.symm hL) ho,r⟩
  · refine(I.hok b u e).stay (fun c v hc q=>k c v ?_ q) (fun _ q=>q) fun _ _ q=>q
    rcases hc with z | z
    · rw[z];exact gA b u e
    · exact gA c _ z
theorem Inv.tok (I:Inv X aa σ H s)(t:Nat):Inv X aa σ H { s with toks:=t }:=I.un (h':=s.heap) (t':=t) Un.refl I.hok
theorem Inv.kept {t':Nat}(I:Inv X aa σ H s)(k:∀ b u,s.heap.get? b=some u->h'.get? b=some u):Inv X aa σ H { s with heap:=h',toks:=t' }:=I.un (Un.kept k) (I.hok.kept k)
theorem Inv.laid {a:Addr}{o:HO}{t':Nat}(I:Inv X aa σ H s)(k:∀ b u,s.heap.get? b=some u->h'.get? b=some u)(hp:s.heap.objs.size<=a)(new:yk X.prog X.w (upd H a o) h' a o) :
    Inv X aa σ (upd H a o) { s with heap:=h',toks:=t' }:=I.un (Un.laid k hp (I.hok.fresh hp)) (I.hok.laid k hp new)
theorem Inv.write {x e:Addr}{o:HO}{t':Nat}(I:Inv X aa σ H s)(mu:Mut (H x))(he:e=x∨H e=some (.own x))(k:∀ b u,b≠e->s.heap.get? b=some u->h'.get? b=some u)(f7:∃ u,h'.get? e=some u)
    (new:yk X.prog X.w (upd H x o) h' x o):Inv X aa σ (upd H x o) { s with heap:=h',toks:=t' }:=I.un (Un.write mu he k f7) (I.hok.write mu he k f7 new)
theorem Inv.weak {σ':List (Option V)}(I:Inv X aa σ H s)(hl:σ'.length=σ.length)(w:∀(i:Nat) v,σ'[i]? = some (some v)->σ[i]? = some (some v)):Inv X aa σ' H s :=
  ⟨I.ok,I.os,I.bare,I.base,let ⟨m,hn,cJ⟩:=I.loc;⟨m,hn,fun i x v e1 e2 e3=>cJ i x v e1 (w i v e2) e3⟩,I.cell,I.free,I.freeC,I.pin,I.hok,hl.trans I.len⟩
theorem Inv.pins_of {pins':List (Addr×Obj)}(I:Inv X aa σ H s)(h:∀ p∈pins',s.heap.get? p.1=some p.2∧H p.1=none∧p.1≠X.env.locals∧p.1∉X.fs∧∀ v,p.2.data≠.cell v):Inv X pins' σ H s :=
  ⟨I.ok,I.os,I.bare,I.base,I.loc,I.cell,I.free,I.freeC,fun p hp=>(List.mem_append.mp hp).elim (fun z=>I.pin p (mem_append_left _ z)) (h p),I.hok,I.len⟩
theorem jaZ {N:List Str}(hN:N.Nodup){i j:Nat}{x:Str}(a:N[i]? = some x)(b:N[j]? = some x):i=j:=by
  obtain⟨h1,e1⟩:=List.getElem?_eq_some_iff.mp a
  obtain⟨h2,e2⟩:=List.getElem?_eq_some_iff.mp b
  exact(List.getElem_inj hN).mp (e1.trans e2.symm)
theorem Vr {M:Model}{A:Around}{E:Value->Shared->Prop}{i:Nat}{x:Str}{v:V}{u:Value}{Q:Unit->Shared->Prop}(I:Inv X aa σ H s)(hN:X.N.Nodup)(hi:X.N[i]? = some x)(hx:Loc X.env.scope x)(r:yi v u)
    (h:∀ s',Inv X aa (σ.set i (some v)) H s'->(∃ a,SameBut a s.heap s'.heap∧(a=X.env.locals∨X.env.cells.lookup x=some a))->Q () s') (hf:X.fn x=true∨X.env.scope.names.lookup x=some .local:=by first | exact .inl rfl | exact .inr rfl | assumption):wpAny M A (storeName X.env x u) Q E s:=by
  obtain⟨m,hn,hl⟩:=id I.loc
  have hcls:(X.env.scope.kind==.class || (X.env.scope.kind==.module && X.env.locals != X.env.globals))=false:=by rw[I.ok.kind];rfl
  have hiσ:i < σ.length:=by rw[I.len];exact(List.getElem?_eq_some_iff.mp hi).1
  have cne:=I.cne
  have bT:∀{a:Addr}{h':Heap},(∃ o,s.heap.get? a=some o∧H a=none)->SameBut a s.heap h'->HOk X.prog X.w H h':=fun{a h'} ha hs b ob e=>by
    obtain⟨_,_,cN⟩:=ha
    refine(I.hok b ob e).stay (fun c w' hc q=>(hs.2 c ?_).trans q) (fun _ q=>q) fun _ _ q=>q
    rintro rfl
    rcases hc with rfl | hc
    · rw[cN]at e;cases e
    · rw[cN]at hc;cases hc
  rcases hx with hk | hk
  · refine wpAny_storeName_local hk hn (fun h' hn' hs=>?_) hcls
    obtain⟨oL,_,_,hoL,_⟩:=id hn
    refine h _ ⟨I.ok,I.os,I.bare,⟨fun b o e n hb hx=>?_,fun b o e n hb hx=>?_,I.base.free,fun b o e hx=>?_,I.base.tups,I.base.frzs,I.base.tbls⟩,⟨_,hn',fun j y v' e1 e2 e3=>?_⟩,fun y c e=>?_,I.free,I.freeC,fun p hp=>?_,bT ⟨oL,hoL,I.free⟩ hs,by simpa using I.len⟩ ⟨_,hs,.inl rfl⟩
    · exact(hs.2 b (ne_of_lt (lt_of_lt_of_le (lt_size e) I.ok.above))).trans (I.base.keep b o e n hb hx)
    · obtain⟨sl,e1⟩:=I.base.slot b o e n hb hx
      exact⟨sl,(hs.2 b (ne_of_lt (lt_of_lt_of_le (lt_size e) I.ok.above))).trans e1⟩
    · obtain⟨o',e1⟩:=I.base.there b o e hx
      exact⟨o',(hs.2 b (ne_of_lt (lt_of_lt_of_le (lt_size e) I.ok.above))).trans e1⟩
    · by_cases hj:j=i
      · subst hj
        rw[hi]at e1;cases e1
        rw[getElem?_set_self hiσ]at e2
        cases e2
        exact⟨u,r,.inl ⟨hk,by simp⟩⟩
      · rw[getElem?_set_ne (Ne.symm hj)]at e2
        obtain⟨u',r',q⟩:=hl j y v' e1 e2 e3
        refine⟨u',r',?_⟩
        rcases q with⟨k,e⟩ | ⟨k,c,e,z⟩
        · refine .inl ⟨k,?_⟩
          have:y≠x:=fun e=>hj (jaZ hN e1 (e ▸ hi))
          simp[this,e]
        · exact .inr ⟨k,c,e,z.sameBut hs (cne y c e)⟩
    · obtain⟨w',z⟩:=I.cell y c e
      exact⟨w',z.sameBut hs (cne y c e)⟩
    · obtain⟨e,n,ne,nf,d⟩:=I.pin p hp
      exact⟨(hs.2 p.1 ne).trans e,n,ne,nf,d⟩
  · have i7:X.fn x=true:=by
      rcases hf with z | z
      · exact z
      · rw[z]at hk;cases hk
    obtain⟨c,hc⟩:=I.ok.has x (.inl hk)
    obtain⟨w',z⟩:=I.cell x c hc
    refine wpAny_storeName_cell I.ok.kind hk hc z (fun h' cV hs=>?_)
    obtain⟨oc,hoc,hocd⟩:=id z
    refine h { s with heap:=h' } ⟨I.ok,I.os,I.bare,⟨fun b o e n hb hx=>?_,fun b o e n hb hx=>?_,I.base.free,fun b o e hx=>?_,I.base.tups,I.base.frzs,I.base.tbls⟩,⟨m,hn.sameBut hs (Ne.symm (cne x c hc)),fun j y v' e1 e2 e3=>?_⟩,fun y c' e=>?_,I.free,I.freeC,fun p hp=>?_,bT ⟨oc,hoc,I.freeC x c hc⟩ hs,by simpa using I.len⟩ ⟨c,hs,.inr hc⟩
    · exact(hs.2 b (ne_of_lt (lt_of_lt_of_le (lt_size e) (I.ok.cab x c i7 hc)))).trans (I.base.keep b o e n hb hx)
    · obtain⟨sl,e1⟩:=I.base.slot b o e n hb hx
      exact⟨sl,(hs.2 b (ne_of_lt (lt_of_lt_of_le (lt_size e) (I.ok.cab x c i7 hc)))).trans e1⟩
    · obtain⟨o',e1⟩:=I.base.there b o e hx
      exact⟨o',(hs.2 b (ne_of_lt (lt_of_lt_of_le (lt_size e) (I.ok.cab x c i7 hc)))).trans e1⟩
    · by_cases hj:j=i
      · subst hj
        rw[hi]at e1;cases e1
        rw[getElem?_set_self hiσ]at e2
        cases e2
        exact⟨u,r,.inr ⟨.inl hk,c,hc,cV⟩⟩
      · rw[getElem?_set_ne (Ne.symm hj)]at e2
        obtain⟨u',r',q⟩:=hl j y v' e1 e2 e3
        refine⟨u',r',?_⟩
        rcases q with q | ⟨k,c',e,z'⟩
        · exact .inl q
        · refine .inr ⟨k,c',e,z'.sameBut hs ?_⟩
          rintro rfl
          exact hj (jaZ hN e1 (I.ok.inj _ _ _ e hc ▸ hi))
    · by_cases hcc:c'=c
      · subst hcc;exact⟨_,cV⟩
      · obtain⟨w2,z2⟩:=I.cell y c' e
        exact⟨w2,z2.sameBut hs hcc⟩
    · obtain⟨e,n,ne,nf,d⟩:=I.pin p hp
      refine⟨(hs.2 p.1 ?_).trans e,n,ne,nf,d⟩
      intro q
      rw[q,hoc]at e
      have q':oc=p.2:=Option.some.inj e
      exact d w' (by rw[<- q'];exact hocd)
theorem jax {M:Model}{A:Around}{E:Value->Shared->Prop}{i:Nat}{x:Str}{v:V}{u:Value}{Q:Unit->Shared->Prop}(I:Inv X aa σ H s)(hN:X.N.Nodup)(hi:X.N[i]? = some x)(hx:Loc X.env.scope x)(r:yi v u)
    (h:∀ s',Inv X aa (σ.set i (some v)) H s'->Q () s') (hf:X.fn x=true∨X.env.scope.names.lookup x=some .local:=by first | exact .inl rfl | exact .inr rfl | assumption):wpAny M A (storeName X.env x u) Q E s :=
  Vr I hN hi hx r (fun s' I' _=>h s' I') hf
theorem Inv.call' {s':Shared}{ch:List Addr}(I:Inv X aa σ H s)(ho:s'.os=s.os)(u:Un (frs X.stack) ch H H' s.heap s'.heap)(hok:HOk X.prog X.w H' s'.heap)(hg:AllBare s'.gens)
    (eF:∀ b∈ch,(b∈X.ex∨X.s₀.heap.objs.size<=b)∧b≠X.env.locals∧(∀ x c,X.env.cells.lookup x=some c->c≠b)∧∀ p∈X.pn++aa,p.1≠b):Inv X aa σ H' s':=by
  obtain⟨h',g',d',t',o'⟩:=s'
  have e:o'=s.os:=ho
  subst e
  exact I.call (g':=g') (t':=t') (d':=d') u hok hg eF
end
abbrev XK:=Value->Option Addr->Hp->Prop
abbrev St:=List (Option V)
abbrev VK:=V->Hp->Prop
abbrev TE:=St->Hp->VK->Prop
abbrev TT:=St->Hp->(Bool->Hp->Prop)->Prop
abbrev TA:=St->Hp->(List V->Hp->Prop)->Prop
structure Ends where
  nx:St->Hp->Prop
  rt:VK
  bk:St->Hp->Prop:=fun _ _=>False
  ct:St->Hp->Prop:=fun _ _=>False
abbrev TS:=Ends->St->Hp->Prop
def EP (X:Cx)(aa:List (Addr×Obj))(σ:St)(Q:VK)(u:Value)(s':Shared):Prop:=∃ v H',Inv X aa σ H' s'∧yi v u∧Q v H'
def TP (X:Cx)(aa:List (Addr×Obj))(σ:St)(Q:Bool->Hp->Prop)(b:Bool)(s':Shared):Prop:=∃ H',Inv X aa σ H' s'∧Q b H'
def AP (X:Cx)(aa:List (Addr×Obj))(σ:St)(Q:List V->Hp->Prop)(us:List Value)(s':Shared):Prop:=∃ vs H',Inv X aa σ H' s'∧yf vs us∧Q vs H'
def SP (X:Cx)(aa:List (Addr×Obj))(D:Ends)(f:Flow)(s':Shared):Prop :=
  match f with
  | .next=>∃ σ' H',Inv X aa σ' H' s'∧D.nx σ' H'
  | .brk=>∃ σ' H',Inv X aa σ' H' s'∧D.bk σ' H'
  | .cont=>∃ σ' H',Inv X aa σ' H' s'∧D.ct σ' H'
  | .ret u=>∃ v σ' H',Inv X aa σ' H' s'∧yi v u∧D.rt v H'
def PE (X:Cx)(e:Expr)(t:TE):Prop :=
  ∀(aa:List (Addr×Obj)) (s:Shared) (σ:St) (H:Hp) (Q:VK),Inv X aa σ H s->t σ H Q->wpAny (model X.prog X.w) X.A (eval e X.env) (EP X aa σ Q) X.xe s
def PT (X:Cx)(e:Expr)(t:TT):Prop :=
  ∀(aa:List (Addr×Obj)) (s:Shared) (σ:St) (H:Hp) (Q:Bool->Hp->Prop),Inv X aa σ H s->t σ H Q->wpAny (model X.prog X.w) X.A (isTrue e X.env (eval e X.env)) (TP X aa σ Q) X.xe s
def PW (X:Cx)(e:Expr)(t:TT):Prop :=
  ∀(br:Sem Value) (aa:List (Addr×Obj)) (s:Shared) (σ:St) (H:Hp) (Q:Bool->Hp->Prop),Inv X aa σ H s->t σ H Q->wpAny (model X.prog X.w) X.A (isTrue e X.env br) (TP X aa σ Q) X.xe s
theorem PW.pt {X:Cx}{e:Expr}{t:TT}(h:PW X e t):PT X e t:=h _
def PA (X:Cx)(es:List Expr)(t:TA):Prop :=
  ∀(pos:Pos) (aa:List (Addr×Obj)) (s:Shared) (σ:St) (H:Hp) (Q:List V->Hp->Prop),Inv X aa σ H s->t σ H Q->wpAny (model X.prog X.w) X.A (spliced (backTo pos (starEach es X.env))) (AP X aa σ Q) X.xe s
def PS (X:Cx)(st:Stmt)(t:TS):Prop :=
  ∀(aa:List (Addr×Obj)) (s:Shared) (σ:St) (H:Hp) (D:Ends),Inv X aa σ H s->t D σ H->wpAny (model X.prog X.w) X.A (exec st X.env) (SP X aa D) X.xe s
def PSs (X:Cx)(st:List Stmt)(t:TS):Prop :=
  ∀(aa:List (Addr×Obj)) (s:Shared) (σ:St) (H:Hp) (D:Ends),Inv X aa σ H s->t D σ H->wpAny (model X.prog X.w) X.A (execs st X.env) (SP X aa D) X.xe s
theorem thn {α:Type}{t:Sem α}{Q Q':α->Shared->Prop}{M:Model}{A:Around}{E:Value->Shared->Prop}{s:Shared}(h:wpAny M A t Q E s)(hQ:∀ a s,Q a s->Q' a s):wpAny M A t Q' E s:=wpAny_mono h hQ fun _ _ x=>x
section
variable {X:Cx}
def jaw (i:Nat):TE:=fun σ H Q=>∃ v,σ[i]? = some (some v)∧Q v H
def tC (v:V):TE:=fun _ H Q=>Q v H
theorem Xq {i:Nat}{x:Str}{pos:Pos}(hN:X.N[i]? = some x)(hv:Vis X.env.scope x)(hd:(x==("__debug__":Str))=false:=by decide)(cO:(x==("__classdict__":Str))=false:=by decide):PE X (.Name x pos) (jaw i):=by
  intro aa s σ H Q I h
  obtain⟨v,e,h⟩:=h
  obtain⟨m,hn,hl⟩:=I.loc
  obtain⟨u,r,l⟩:=hl i x v hN e hv
  have fin:EP X aa σ Q u s:=⟨v,H,I,r,h⟩
  rcases l with⟨hk,hm⟩ | ⟨hk,c,hc,hcell⟩
  · exact wpAny_Name (wpAny_loadName_local I.ok.kind hk hn hm fin) hd
  · rcases hk with hk | hk
    · exact wpAny_Name (wpAny_loadName_cell I.ok.kind hk hc hcell fin) hd
    · exact wpAny_Name (wpAny_loadName_free I.ok.kind hk hc hcell fin cO) hd
theorem pe_int {i j pos}:PE X (.Constant (.int i) j pos) (tC (.int i)):=fun _ _ _ H _ I h=>wpAny_Constant_int ⟨.int i,H,I.tok _,⟨_,rfl⟩,h⟩
theorem pe_bl {b j pos}:PE X (.Constant (.bool b) j pos) (tC (.bl b)):=fun _ _ _ H _ I h=>Constant_bool ⟨.bl b,H,I,rfl,h⟩
def Gl (X:Cx)(x:Str):Prop:=X.env.kindOf x=some .globalImplicit
theorem UG {E:Value->Shared->Prop}{aa:List (Addr×Obj)}{s:Shared}{σ:St}{H:Hp}{x:Str}{u:Value}{pos:Pos}{Q:Value->Shared->Prop}(I:Inv X aa σ H s)(hg:Gl X x)(hm:X.mg x=some u)(h:Q u s)
    (hd:(x==("__debug__":Str))=false:=by decide):wpAny (model X.prog X.w) X.A (eval (.Name x pos) X.env) Q E s :=
  Calls.Name_function_global I.ok.kind hg (Calls.loadGlobal_global (by rw[I.ok.glob];exact I.mod.glob.keeps I.bk) hm h) hd
theorem JY {E:Value->Shared->Prop}{aa:List (Addr×Obj)}{s:Shared}{σ:St}{H:Hp}{x:Str}{u:Value}{pos:Pos}{Q:Value->Shared->Prop}(I:Inv X aa σ H s)(hg:Gl X x)(hm:X.mg x=none)(hv:bootBuiltins x=some u)(h:Q u s)
    (hn:x≠"__name__":=by decide) (hd:(x==("__debug__":Str))=false:=by decide):wpAny (model X.prog X.w) X.A (eval (.Name x pos) X.env) Q E s:=by
  obtain⟨mb,h1,h2⟩:=I.mod.blt
  exact Calls.Name_function_global I.ok.kind hg (Calls.loadGlobal_builtin (by rw[I.ok.glob];exact I.mod.glob.keeps I.bk) hm (by rw[I.ok.blt];exact h1.keeps I.bk) ((h2 x hn).trans hv) h) hd
theorem jee {x:Str}{v:V}{u:Value}{pos:Pos}(hg:Gl X x)(hm:X.mg x=some u)(r:yi v u)(hd:(x==("__debug__":Str))=false:=by decide):PE X (.Name x pos) (tC v) :=
  fun _ _ _ H _ I h=>UG I hg hm ⟨v,H,I,r,h⟩ hd
theorem pe_bltn {x:Str}{v:V}{u:Value}{pos:Pos}(hg:Gl X x)(hm:X.mg x=none)(hv:bootBuiltins x=some u)(r:yi v u)(hn:x≠"__name__":=by decide)(hd:(x==("__debug__":Str))=false:=by decide):PE X (.Name x pos) (tC v) :=
  fun _ _ _ H _ I h=>JY I hg hm hv ⟨v,H,I,r,h⟩ hn hd
variable {a b:Expr}{ta tb:TE}{pos:Pos}
def PC (X:Cx)(op:CmpOp)(a b:Expr)(t:TE):Prop :=
  ∀(aa:List (Addr×Obj)) (s:Shared) (σ:St) (H:Hp) (Q:VK),Inv X aa σ H s->t σ H Q ->
    wpAny (model X.prog X.w) X.A (eval a X.env) (fun v s₁=>wpAny (model X.prog X.w) X.A (eval b X.env) (fun u s₂=>wpAny (model X.prog X.w) X.A (compareOp op v u) (EP X aa σ Q) X.xe s₂) X.xe s₁) X.xe s
theorem jhr (b:Expr){op:CmpOp}(h:op≠.In)(h2:op≠.NotIn):behindInMarks op b=false:=by
  have e1:(op==CmpOp.In)=false:=by cases op <;> first | rfl | exact absurd rfl h
  have e2:(op==CmpOp.NotIn)=false:=by cases op <;> first | rfl | exact absurd rfl h2
  cases b <;> simp[behindInMarks,e1,e2]
def tB (t:TE):TT:=fun σ H Q=>t σ H fun x H1=>∃ c,x = .bl c∧Q c H1
theorem jgR {op:CmpOp}{t:TE}(h:PC X op a b t)(h1:behindInMarks op b=false:=by first | exact jhr _ (by decide) (by decide) | rfl):PT X (.Compare a [op] [b] pos) (tB t):=by
  intro aa s σ H Q I hw
  refine wpAny_isTrue_Compare1 (thn (h aa s σ H _ I hw) fun v s1 h1=>thn h1 fun u s2 h2=>thn h2 fun c s3 ae=>?_) h1
  obtain⟨x,H1,I1,r1,q1⟩:=ae
  obtain⟨d,rfl,q⟩:=q1
  cases r1
  exact wpAny_truthy_bool ⟨H1,I1,q⟩
variable {tA ib:TT}{rest:List Expr}
def tAnd (t u:TT):TT:=fun σ H Q=>t σ H fun c H1=>if c=true then u σ H1 Q else Q false H1
def tOr (t u:TT):TT:=fun σ H Q=>t σ H fun c H1=>if c=true then Q true H1 else u σ H1 Q
def tNot (t:TT):TT:=fun σ H Q=>t σ H fun c H1=>Q (!c) H1
theorem pw_and1 (ha:PT X a tA):PW X (.BoolOp .And [a] pos) tA:=by
  intro wh aa s σ H Q I h
  refine isTrue_and (thn (ha aa s σ H Q I h) fun c s1 e=>?_)
  cases c with
  | true=>exact isTrue_and_nil e
  | false=>exact e
theorem pw_or1 (ha:PT X a tA):PW X (.BoolOp .Or [a] pos) tA:=by
  intro wh aa s σ H Q I h
  refine isTrue_or (thn (ha aa s σ H Q I h) fun c s1 e=>?_)
  cases c with
  | false=>exact isTrue_or_nil e
  | true=>exact e
theorem pw_and (ha:PT X a tA)(hb:PW X (.BoolOp .And (b::rest) pos) ib):PW X (.BoolOp .And (a::b::rest) pos) (tAnd tA ib):=by
  intro wh aa s σ H Q I h
  refine isTrue_and (thn (ha aa s σ H _ I h) fun c s1 ae=>?_)
  obtain⟨H1,I1,q1⟩:=ae
  cases c with
  | true=>exact hb wh aa s1 σ H1 Q I1 q1
  | false=>exact⟨H1,I1,q1⟩
theorem pw_or (ha:PT X a tA)(hb:PW X (.BoolOp .Or (b::rest) pos) ib):PW X (.BoolOp .Or (a::b::rest) pos) (tOr tA ib):=by
  intro wh aa s σ H Q I h
  refine isTrue_or (thn (ha aa s σ H _ I h) fun c s1 ae=>?_)
  obtain⟨H1,I1,q1⟩:=ae
  cases c with
  | true=>exact⟨H1,I1,q1⟩
  | false=>exact hb wh aa s1 σ H1 Q I1 q1
theorem pt_not (ha:PT X a tA):PT X (.UnaryOp .Not a pos) (tNot tA):=by
  intro aa s σ H Q I h
  exact isTrue_not (ha aa s σ H (fun c H1=>Q (!c) H1) I h)
def tAndV (ta tb:TE):TE:=fun σ H Q=>ta σ H fun x H1=>∃ c,x = .bl c∧if c=true then tb σ H1 Q else Q (.bl false) H1
def tNotV (ta:TE):TE:=fun σ H Q=>ta σ H fun x H1=>∃ c,x = .bl c∧Q (.bl (!c)) H1
theorem pe_one {op}{t:TE}(h:PE X a t):PE X (.BoolOp op [a] pos) t:=fun aa s σ H Q I hw=>BoolOp_one (h aa s σ H Q I hw)
theorem pe_and (ha:PE X a ta)(hb:PE X (.BoolOp .And (b::rest) pos) tb):PE X (.BoolOp .And (a::b::rest) pos) (tAndV ta tb):=by
  intro aa s σ H Q I h
  refine BoolOp_and (thn (ha aa s σ H _ I h) fun v s1 ae=>?_)
  obtain⟨x,H1,I1,r1,q1⟩:=ae
  obtain⟨c,rfl,q1⟩:=q1
  cases r1
  refine wpAny_truthy_bool ?_
  cases c with
  | true=>exact hb aa s1 σ H1 Q I1 q1
  | false=>exact⟨.bl false,H1,I1,rfl,q1⟩
theorem pe_not (ha:PE X a ta):PE X (.UnaryOp .Not a pos) (tNotV ta):=by
  intro aa s σ H Q I h
  refine UnaryOp_ (thn (ha aa s σ H _ I h) fun v s1 ae=>?_)
  obtain⟨x,H1,I1,r1,q1⟩:=ae
  obtain⟨c,rfl,q1⟩:=q1
  cases r1
  exact not_of (wpAny_truthy_bool ⟨.bl (!c),H1,I1,rfl,q1⟩)
def tIf (t:TT)(ta tb:TE):TE:=fun σ H Q=>t σ H fun c H1=>if c=true then ta σ H1 Q else tb σ H1 Q
theorem jhe {c:Expr}(hc:PT X c tA)(ha:PE X a ta)(hb:PE X b tb):PE X (.IfExp c a b pos) (tIf tA ta tb):=by
  intro aa s σ H Q I h
  refine wpAny_IfExp (thn (hc aa s σ H _ I h) fun d s1 ae=>?_)
  obtain⟨H1,I1,q1⟩:=ae
  cases d with
  | true=>exact ha aa s1 σ H1 Q I1 q1
  | false=>exact hb aa s1 σ H1 Q I1 q1
end
def SqL (K:Frag)(H:Hp)(a:Addr)(xs:List V):Prop :=
  Rd H a (.lst xs) ∨
    ∃(o:Obj) (its:Array Value) (n:Nat),K.lookup a=some o∧o.cls = .type "list"∧o.dict=none∧o.data = .seq its n∧its.size<=sizeLine∧yf xs its.toList
def SqT (K:Frag)(H:Hp)(a:Addr)(xs:List V):Prop :=
  Rd H a (.tup xs) ∨
    ∃(o:Obj) (its:Array Value) (n:Nat),K.lookup a=some o∧o.cls = .type "tuple"∧o.data = .seq its n∧its.size<=sizeLine∧yf xs its.toList
def absV:Value->Option V
  | .none=>some .non
  | .bool b=>some (.bl b)
  | .int i _=>some (.int i)
  | .str x _=>some (.str x)
  | .bytes b _=>some (.byt b)
  | .float b _=>some (.flt b)
  | .ref a=>some (.ref a)
  | .type n=>some (.ty n)
  | _=>none
theorem yi.abs {x:V}{u:Value}(r:yi x u):absV u=some x:=by
  cases x with
  | non=>cases r;rfl
  | bl _=>cases r;rfl
  | int _=>obtain⟨t,rfl⟩:=r;rfl
  | str _=>obtain⟨t,rfl⟩:=r;rfl
  | byt _=>obtain⟨t,rfl⟩:=r;rfl
  | flt _=>obtain⟨t,rfl⟩:=r;rfl
  | ref _=>cases r;rfl
  | ty _=>cases r;rfl
theorem yi.inj {x y:V}{u:Value}(r:yi x u)(q:yi y u):x=y:=Option.some.inj (r.abs.symm.trans q.abs)
theorem yf.inj {xs ys:List V}{us:List Value}(h:yf xs us)(h':yf ys us):xs=ys:=by
  induction h generalizing ys with
  | nil=>cases h';rfl
  | cons r t ih =>
    cases h' with
    | cons r' t'=>rw[r.inj r',ih t']
section
variable {X:Cx}{aa:List (Addr×Obj)}{σ:St}{H:Hp}{s:Shared}{a:Addr}{xs ys:List V}
theorem SqL.of {K:Frag}(h:H a=some (.lst xs)):SqL K H a xs:=.inl (.inl h)
theorem Inv.list (I:Inv X aa σ H s)(h:SqL X.K H a xs):∃ its:List Value,yf xs its∧PlainL s.heap a its.toArray∧xs.length<=sizeLine:=by
  rcases h with h | ⟨o,its,n,hk,hc,hd,hs,hz,r⟩
  · obtain⟨z,its,n,r,e⟩:=h.ok I.hok
    exact⟨its,r,⟨_,n,e,rfl,rfl,rfl⟩,z⟩
  · refine⟨its.toList,r,⟨o,n,I.kIn a o hk,hc,hd,by simpa using hs⟩,?_⟩
    have e:=r.length
    simp only[length_toList]at e
    omega
theorem Inv.tuple (I:Inv X aa σ H s)(h:SqT X.K H a xs):∃ its:List Value,yf xs its∧IsTup s.heap a its.toArray∧xs.length<=sizeLine:=by
  rcases h with h | ⟨o,its,n,hk,hc,hs,hz,r⟩
  · obtain⟨z,its,r,p⟩:=h.ok I.hok
    exact⟨its,r,p,z⟩
  · refine⟨its.toList,r,⟨o,I.kIn a o hk,hc,n,by simpa using hs⟩,?_⟩
    have e:=r.length
    simp only[length_toList]at e
    omega
theorem Inv.list_inj (I:Inv X aa σ H s)(h:SqL X.K H a xs)(h':SqL X.K H a ys):xs=ys:=by
  obtain⟨its,r,⟨o,n,e,_,_,d⟩,_⟩:=I.list h
  obtain⟨its',r',⟨o',n',e',_,_,d'⟩,_⟩:=I.list h'
  rw[e]at e';cases e'
  rw[d]at d'
  injection d' with d1 _
  have:its=its':=by simpa using congrArg toList d1
  subst this
  exact r.inj r'
theorem Inv.tuple_inj (I:Inv X aa σ H s)(h:SqT X.K H a xs)(h':SqT X.K H a ys):xs=ys:=by
  obtain⟨its,r,⟨o,e,_,n,d⟩,_⟩:=I.tuple h
  obtain⟨its',r',⟨o',e',_,n',d'⟩,_⟩:=I.tuple h'
  rw[e]at e';cases e'
  rw[d]at d'
  injection d' with d1 _
  have:its=its':=by simpa using congrArg toList d1
  subst this
  exact r.inj r'
end
abbrev Cx.wish (X:Cx)(E:Value->Shared->Prop):Cx:={ X with xe:=E }
abbrev Cx.nox (X:Cx):Cx:=X.wish fun _ _=>False
theorem Cx.Ok.wish {X:Cx}(ok:X.Ok)(E:Value->Shared->Prop):(X.wish E).Ok :=
  ⟨ok.mod,ok.kind,ok.glob,ok.blt,ok.above,ok.inj,ok.has,ok.cab,ok.hd,ok.frames,ok.stk,ok.exf,ok.bs,ok.bsz,ok.noex,ok.exfs,ok.funs,ok.frf⟩
theorem Cx.Ok.unwish {X:Cx}{E:Value->Shared->Prop}(ok:(X.wish E).Ok):X.Ok :=
  ⟨ok.mod,ok.kind,ok.glob,ok.blt,ok.above,ok.inj,ok.has,ok.cab,ok.hd,ok.frames,ok.stk,ok.exf,ok.bs,ok.bsz,ok.noex,ok.exfs,ok.funs,ok.frf⟩
section
variable {X:Cx}{aa:List (Addr×Obj)}{σ:St}{H:Hp}{s:Shared}{E:Value->Shared->Prop}
theorem Inv.wish (I:Inv X aa σ H s)(E:Value->Shared->Prop):Inv (X.wish E) aa σ H s:=⟨I.ok.wish E,I.os,I.bare,I.base,I.loc,I.cell,I.free,I.freeC,I.pin,I.hok,I.len⟩
theorem Inv.unwish (I:Inv (X.wish E) aa σ H s):Inv X aa σ H s:=⟨I.ok.unwish,I.os,I.bare,I.base,I.loc,I.cell,I.free,I.freeC,I.pin,I.hok,I.len⟩
theorem SP.unwish {D:Ends}{f:Flow}{s':Shared}(h:SP (X.wish E) aa D f s'):SP X aa D f s':=by
  cases f with
  | next=>obtain⟨σ',H',I,q⟩:=h;exact⟨σ',H',I.unwish,q⟩
  | brk=>obtain⟨σ',H',I,q⟩:=h;exact⟨σ',H',I.unwish,q⟩
  | cont=>obtain⟨σ',H',I,q⟩:=h;exact⟨σ',H',I.unwish,q⟩
  | ret u=>obtain⟨v,σ',H',I,r,q⟩:=h;exact⟨v,σ',H',I.unwish,r,q⟩
theorem PE.nox {e:Expr}{t:TE}(h:PE X.nox e t):PE X e t:=fun aa s σ H Q I hw =>
  wpAny_mono (h aa s σ H Q (I.wish _) hw) (fun _ _ ⟨v,H',I',r,q⟩=>⟨v,H',I'.unwish,r,q⟩) fun _ _ z=>False.elim z
theorem PT.nox {e:Expr}{t:TT}(h:PT X.nox e t):PT X e t:=fun aa s σ H Q I hw =>
  wpAny_mono (h aa s σ H Q (I.wish _) hw) (fun _ _ ⟨H',I',q⟩=>⟨H',I'.unwish,q⟩) fun _ _ z=>False.elim z
theorem PSs.nox {st:List Stmt}{t:TS}(h:PSs X.nox st t):PSs X st t:=fun aa s σ H D I hw =>
  wpAny_mono (h aa s σ H D (I.wish _) hw) (fun _ _ q=>q.unwish) fun _ _ z=>False.elim z
end
section
variable {X:Cx}{st:Stmt}{rest:List Stmt}{t u:TS}{e:Expr}{te:TE}{pos:Pos}
def tNext:TS:=fun D σ H=>D.nx σ H
def tSeq (t u:TS):TS:=fun D σ H=>t { D with nx:=u D } σ H
theorem pss_nil:PSs X [] tNext:=fun _ _ σ H _ I h=>wpAny_execs_nil ⟨σ,H,I,h⟩
theorem Xm (h1:PS X st t)(h2:PSs X rest u):PSs X (st::rest) (tSeq t u):=by
  intro aa s σ H D I h
  refine wpAny_execs_cons (thn (h1 aa s σ H { D with nx:=u D } I h) fun f s1 q=>?_)
  cases f with
  | next =>
    obtain⟨σ',H',I',q⟩:=q
    exact h2 aa s1 σ' H' D I' q
  | ret v=>exact q
  | brk=>exact q
  | cont=>exact q
theorem pss_one (h1:PS X st t):PSs X [st] t:=by
  intro aa s σ H D I h
  refine wpAny_execs_cons (thn (h1 aa s σ H D I h) fun f s1 q=>?_)
  cases f with
  | next=>exact wpAny_execs_nil q
  | ret v=>exact q
  | brk=>exact q
  | cont=>exact q
theorem Inv.quiet {aa:List (Addr×Obj)}{σ:St}{H:Hp}{s:Shared}(I:Inv X aa σ H s):interactive X.env=false:=by simp[interactive,I.ok.kind]
def tDrop (te:TE):TS:=fun D σ H=>te σ H fun _ H1=>D.nx σ H1
theorem ps_expr (he:PE X e te)(hs:swapsWith e none pos.line X.env=pure false:=by rfl):PS X (.Expr e pos) (tDrop te):=by
  intro aa s σ H D I h
  exact wpAny_Expr_any (thn (he aa s σ H _ I h) fun v s1 ⟨x,H1,I1,r1,q1⟩=>⟨σ,H1,I1,q1⟩) I.quiet hs
def tRet (te:TE):TS:=fun D σ H=>te σ H D.rt
theorem ps_ret (he:PE X e te):PS X (.Return (some e) pos) (tRet te):=by
  intro aa s σ H D I h
  exact wpAny_Return_some (thn (he aa s σ H _ I h) fun v s1 ⟨x,H1,I1,r1,q1⟩=>⟨x,σ,H1,I1,r1,q1⟩)
def tIfS (c:TT)(t u:TS):TS:=fun D σ H=>c σ H fun b H1=>if b=true then t D σ H1 else u D σ H1
theorem ps_if {c:Expr}{a b:List Stmt}{tc:TT}(hc:PT X c tc)(ha:PSs X a t)(hb:PSs X b u):PS X (.If c a b pos) (tIfS tc t u):=by
  intro aa s σ H D I h
  refine wpAny_If (thn (hc aa s σ H _ I h) fun d s1 ae=>?_)
  obtain⟨H1,I1,q1⟩:=ae
  cases d with
  | true=>exact ha aa s1 σ H1 D I1 q1
  | false=>exact hb aa s1 σ H1 D I1 q1
def tNever:TS:=fun _ _ _=>False
theorem jgT:PS X st tNever:=fun _ _ _ _ _ _ h=>h.elim
end
abbrev TG:=V->St->Hp->(St->Hp->Prop)->Prop
abbrev TGs:=List V->St->Hp->(St->Hp->Prop)->Prop
def PG (X:Cx)(ab:Expr)(t:TG):Prop :=
  ∀(aa:List (Addr×Obj)) (s:Shared) (σ:St) (H:Hp) (v:V) (u:Value) (Q:St->Hp->Prop),Inv X aa σ H s->yi v u->t v σ H Q ->
    wpAny (model X.prog X.w) X.A (assign ab X.env u) (fun _ s'=>∃ σ' H',Inv X aa σ' H' s'∧Q σ' H') X.xe s
def PGs (X:Cx)(ts:List Expr)(t:TGs):Prop :=
  ∀(aa:List (Addr×Obj)) (s:Shared) (σ:St) (H:Hp) (vs:List V) (us:List Value) (Q:St->Hp->Prop),Inv X aa σ H s->yf vs us->t vs σ H Q ->
    wpAny (model X.prog X.w) X.A (assignInOrder ((assignEach ts X.env).map (·.2)) us) (fun _ s'=>∃ σ' H',Inv X aa σ' H' s'∧Q σ' H') X.xe s
abbrev TSet:=V->V->V->Hp->(Hp->Prop)->Prop
def PSet (X:Cx)(t:TSet):Prop :=
  ∀(aa:List (Addr×Obj)) (s:Shared) (σ:St) (H:Hp) (o i v:V) (ov iv u:Value) (Q:Hp->Prop),Inv X aa σ H s->yi o ov->yi i iv->yi v u->t o i v H Q ->
    wpAny (model X.prog X.w) X.A (setItem ov iv u) (fun _ s'=>∃ H',Inv X aa σ H' s'∧Q H') X.xe s
section
variable {X:Cx}{pos:Pos}
def vo (i:Nat):TG:=fun v σ H Q=>Q (σ.set i (some v)) H
theorem jJ {i:Nat}{x:Str}(hN:X.N.Nodup)(hi:X.N[i]? = some x)(hx:Loc X.env.scope x)(hf:X.fn x=true∨X.env.scope.names.lookup x=some .local:=by first | exact .inl rfl | exact .inr rfl | assumption):PG X (.Name x pos) (vo i):=by
  intro aa s σ H v u Q I r h
  exact wpAny_assign_Name (jax I hN hi hx r (fun s' I'=>⟨_,H,I',h⟩) hf)
def gNil:TGs:=fun vs σ H Q=>vs=[]∧Q σ H
def jbq (t:TG)(u:TGs):TGs:=fun vs σ H Q=>∃ v r,vs=v::r∧t v σ H fun σ' H'=>u r σ' H' Q
theorem jec:PGs X [] gNil:=by
  intro aa s σ H vs us Q I r h
  obtain⟨e,h⟩:=h
  subst e
  cases r
  exact assignInOrder_nil ⟨σ,H,I,h⟩
theorem Xp {e:Expr}{es:List Expr}{t:TG}{u:TGs}(h1:PG X e t)(h2:PGs X es u)
    (hs:(assignEach (e::es) X.env).map (·.2)=assign e X.env::(assignEach es X.env).map (·.2):=by rfl):PGs X (e::es) (jbq t u):=by
  intro aa s σ H vs us Q I r h
  obtain⟨v,vr,e1,h⟩:=h
  subst e1
  cases r with
  | cons r rr =>
    rw[hs]
    refine assignInOrder_cons (thn (h1 aa s σ H _ _ _ I r h) fun _ s1 ae=>?_)
    obtain⟨σ1,H1,I1,q1⟩:=ae
    exact h2 aa s1 σ1 H1 _ _ Q I1 rr q1
def gTup (K:Frag)(n:Nat)(t:TGs):TG:=fun v σ H Q=>∃ a xs,v = .ref a∧SqT K H a xs∧xs.length=n∧t xs σ H Q
theorem jha {es:List Expr}{k:Nat}{t:TGs}{n:Nat}(hc:X.calm=true)(h:PGs X es t)
    (hn:(assignEach es X.env).length=n:=by rfl) (iU:(assignEach es X.env).findIdx? (·.1)=none:=by rfl):PG X (.Tuple es k pos) (gTup X.K n t):=by
  intro aa s σ H v u Q I r hw
  obtain⟨a,xs,e1,hq,hl,hw⟩:=hw
  subst e1
  cases r
  obtain⟨its,rv,ht,hz⟩:=I.tuple hq
  refine assign_Tuple_tuple (I.ok.hd hc) ht (by simp[hn,<- hl,rv.length]) iU fun h' hx=>?_
  have I1:Inv X aa σ H { s with heap:=h' }:=I.kept (t':=s.toks) fun b o e=>hx b o (ne_of_lt (lt_size e)) e
  exact h aa _ σ H xs _ Q I1 (by simpa using rv) hw
def jfC (to ti:TE)(t:TSet):TG:=fun v σ H Q=>to σ H fun o H1=>ti σ H1 fun i H2=>t o i v H2 fun H3=>Q σ H3
theorem pg_sub {o i:Expr}{to ti:TE}{t:TSet}(ho:PE X o to)(hi:PE X i ti)(hs:PSet X t)
    (ha:∀ v,assign (.Subscript o i pos) X.env v=(do
      let ov <- holding [v] (eval o X.env)
      let iv <- holding [v,ov] (eval i X.env)
      standAt pos
      holding [v,ov,iv] (setItem ov iv v)
      release [v,ov,iv] []):=by intro _;rfl):PG X (.Subscript o i pos) (jfC to ti t):=by
  intro aa s σ H v u Q I r h
  rw[ha]
  refine wpAny_bind (wpAny_holding (thn (ho aa s σ H _ I h) fun ov s1 ae=>?_))
  obtain⟨x,H1,I1,r1,q1⟩:=ae
  refine wpAny_bind (wpAny_holding (thn (hi aa s1 σ H1 _ I1 q1) fun iv s2 ae=>?_))
  obtain⟨y,H2,I2,r2,q2⟩:=ae
  refine wpAny_bind (wpAny_standAt (wpAny_bind (wpAny_holding (thn (hs aa s2 σ H2 x y v ov iv u _ I2 r1 r2 r q2) fun _ s3 ae=>?_))))
  obtain⟨H3,I3,q3⟩:=ae
  exact wpAny_release ⟨σ,H3,I3,q3⟩
def jiU (te:TE)(g:TG):TS:=fun D σ H=>te σ H fun x H1=>g x σ H1 D.nx
theorem ps_asg {tg e:Expr}{te:TE}{g:TG}(he:PE X e te)(hg:PG X tg g)(hs:swapsWithSole [tg] e pos.line X.env=pure false:=by rfl)(hw:swappedStores [tg] e X.env=pure none:=by rfl)
    (h1:(assignEach [tg] X.env).map (·.2)=[assign tg X.env]:=by rfl):PS X (.Assign [tg] e pos) (jiU te g):=by
  intro aa s σ H D I h
  refine wpAny_Assign_stores (thn (he aa s σ H _ I h) fun v s1 ae=>?_) hs hw
  obtain⟨x,H1,I1,r1,q1⟩:=ae
  rw[h1]
  exact thn (hg aa s1 σ H1 x v _ I1 r1 q1) fun _ s2 q=>q
theorem jgS {i:Nat}{x:Str}{e:Expr}{te:TE}{a7:Pos}(hN:X.N.Nodup)(hi:X.N[i]? = some x)(hx:Loc X.env.scope x)(he:PE X e te)(hs:swapsWith e (some (.Name x a7)) pos.line X.env=pure false:=by rfl)(hf:X.fn x=true∨X.env.scope.names.lookup x=some .local:=by first | exact .inl rfl | exact .inr rfl | assumption) :
    PS X (.Assign [.Name x a7] e pos) (jiU te (vo i)):=by
  intro aa s σ H D I h
  refine wpAny_Assign_Name (thn (he aa s σ H _ I h) fun v s1 ae=>?_) hs
  obtain⟨y,H1,I1,r1,q1⟩:=ae
  exact jax I1 hN hi hx r1 (fun s2 I2=>⟨_,H1,I2,q1⟩) hf
end
structure It where
  go:Nat->Hp->Prop
  yld:Nat->Hp->V->Hp->Prop
  stop:Nat->Hp->Prop
def yS (X:Cx)(aa:List (Addr×Obj))(H:Hp)(b:Addr):Prop :=
  H b=none∧b≠X.env.locals∧b∉X.fs∧(b∈X.ex∨X.s₀.heap.objs.size<=b)∧(∀ x c,X.env.cells.lookup x=some c->c≠b)∧∀ p∈X.pn++aa,p.1≠b
theorem Inv.fpOk {X:Cx}{aa:List (Addr×Obj)}{σ:St}{H H':Hp}{s:Shared}{b:Addr}(I:Inv X aa σ H s)(hb:s.heap.objs.size<=b)(hn:H' b=none):yS X aa H' b:=by
  refine⟨hn,ne_of_gt (lt_of_lt_of_le I.lt hb),I.nofs hb,.inr (le_trans I.sz hb),fun x c e z=>?_,fun p hp z=>?_⟩
  · obtain⟨v,q⟩:=I.cell x c e
    exact absurd (lt_of_lt_of_le q.lt (by rw[z];exact hb)) (lt_irrefl _)
  · exact absurd (lt_of_lt_of_le (lt_size (I.pin p hp).1) (by rw[z];exact hb)) (lt_irrefl _)
structure Turn (P:Program)(w:World)(K:Frag)(tg:Expr)(J:It)(fp:List Addr)(it:Addr)(tn:Nat->Heap->Prop):Prop where
  mem:it∈fp
  obj:∀ i h,tn i h->∀ b∈fp,∃ o,h.get? b=some o∧∀ v,o.data≠.cell v
  keep:∀ i h h',tn i h->(∀ b∈fp,∀ o,h.get? b=some o->h'.get? b=some o)->tn i h'
  item:∀(X:Cx),X.prog=P->X.w=w->X.K=K->X.calm=true->∀(i:Nat) (aa:List (Addr×Obj)) (s:Shared) (σ:St) (H:Hp) (E:Value->Shared->Prop),Inv X aa σ H s->(∀ b∈fp,yS X aa H b)->tn i s.heap->J.go i H ->
    wpAny (model P w) X.A (pyNext (.ref it)) (fun r s1=>∃ u,r=some u ∧
      wpAny (model P w) X.A (letOwnedTupleGo tg (.ref it) u) (fun _ s2=>∃ x H',Inv X aa σ H' s2∧yi x u∧J.yld i H x H'∧tn (i+1) s2.heap∧∀ b∈fp,H' b=none) E s1) E s
  done:∀(X:Cx),X.prog=P->X.w=w->X.K=K->X.calm=true->∀(i:Nat) (aa:List (Addr×Obj)) (s:Shared) (σ:St) (H:Hp) (E:Value->Shared->Prop),Inv X aa σ H s->(∀ b∈fp,yS X aa H b)->tn i s.heap->J.stop i H ->
    wpAny (model P w) X.A (pyNext (.ref it)) (fun r s1=>r=none∧Inv X aa σ H s1) E s
  self:∀(A:Around) (i:Nat) (s:Shared) (Q:Value->Shared->Prop) (E:Value->Shared->Prop),tn i s.heap->Q (.ref it) s->wpAny (model P w) A (pyIter (.ref it)) Q E s
abbrev TI:=St->Hp->(It->Hp->Prop)->Prop
def PIE (X:Cx)(aa:List (Addr×Obj))(σ:St)(tg:Expr)(R:It->Hp->Prop)(eS:Value)(s2:Shared):Prop :=
  ∃(it:Addr) (fp:List Addr) (tn:Nat->Heap->Prop) (J:It) (H':Hp),eS = .ref it∧Inv X aa σ H' s2∧Turn X.prog X.w X.K tg J fp it tn∧tn 0 s2.heap∧(∀ b∈fp,yS X aa H' b)∧R J H'
def PI (X:Cx)(tg iter:Expr)(wi:TI):Prop :=
  ∀(aa:List (Addr×Obj)) (s:Shared) (σ:St) (H:Hp) (R:It->Hp->Prop),Inv X aa σ H s->wi σ H R ->
    wpAny (model X.prog X.w) X.A (eval iter X.env) (fun v s1=>wpAny (model X.prog X.w) X.A (pyIter v) (PIE X aa σ tg R) X.xe s1) X.xe s
theorem jbl {M:Model}{A:Around}{E:Value->Shared->Prop}{s:Shared}{tg:Expr}{it:Addr}{u:Value}{o:Obj}{n:String}{vs:Array Value}{Q:Unit->Shared->Prop}(ho:s.heap.get? it=some o)(hc:o.cls = .type n)(hd:o.data = .fields vs)
    (hn:["enumerate","zip","dict_itemiterator","dict_reverseitemiterator","odict_iterator","itertools.zip_longest","itertools.pairwise"].contains n=false) (hQ:Q () s):wpAny M A (letOwnedTupleGo tg (.ref it) u) Q E s:=by
  unfold letOwnedTupleGo
  cases tg <;> first
    | exact wpAny_pure hQ
    | (cases u <;> first
        | exact wpAny_pure hQ
        | (refine wpAny_bind (wpAny_load ho ?_)
           rw[hc,hd]
           show wpAny M A (if(["enumerate","zip","dict_itemiterator","dict_reverseitemiterator","odict_iterator","itertools.zip_longest","itertools.pairwise"].contains n && vs[0]?==some (rawInt _))=true then _ else _) Q E s
           rw[if_neg (by intro h;rw[hn,Bool.false_and]at h;cases h)]
           exact wpAny_pure hQ))
def Itl (K:Frag)(a:Addr):It :=
  ⟨fun i H=>∃ xs x,SqL K H a xs∧xs[i]? = some x,fun i H x H'=>H'=H∧∀ xs,SqL K H a xs->xs[i]? = some x,fun i H=>∃ xs,SqL K H a xs∧xs.length<=i⟩
def Itt (K:Frag)(a:Addr):It :=
  ⟨fun i H=>∃ xs x,SqT K H a xs∧xs[i]? = some x,fun i H x H'=>H'=H∧∀ xs,SqT K H a xs->xs[i]? = some x,fun i H=>∃ xs,SqT K H a xs∧xs.length<=i⟩
def Itr (lo:Int)(n:Nat):It:=⟨fun i _=>i<n,fun i H x H'=>H'=H∧x = .int (lo+i),fun i _=>n<=i⟩
theorem Vp {P:Program}{w:World}{K:Frag}{tg:Expr}(a it:Addr):Turn P w K tg (Itl K a) [it] it (fun i h=>h.IsListIter it a i) where
  mem:=by simp
  obj:=fun i h st b hb=>by
    have e:b=it:=by simpa using hb
    subst e
    obtain⟨o,e,c,d⟩:=st
    exact⟨o,e,fun v z=>by rw[d]at z;cases z⟩
  keep:=fun i h h' st k=>st.at fun o e=>k it (by simp) o e
  item:=by
    intro X hP hw hK hc i aa s σ H E I hf st hg
    subst hP hw hK
    obtain⟨xs,x,hq,hx⟩:=hg
    obtain⟨its,rv,p,hz⟩:=I.list hq
    obtain⟨u,hu,ru⟩:=rv.get hx
    obtain⟨f0,f1,f2,f3,f4,f5⟩:=hf it (by simp)
    refine wpAny_pyNext_list_item st p.isList (x:=u) (by simpa using hu) fun h' cL sb=>?_
    have I1:Inv X aa σ H { s with heap:=h' }:=I.turned (t':=s.toks) (fun b o hb e=>(sb.2 b hb).trans e) f0 f1 f3 f4 f5
    obtain⟨o,e,c,d⟩:=id cL
    exact⟨u,rfl,jbl (s:={ s with heap:=h' }) e c d (by decide) ⟨x,H,I1,ru,⟨rfl,fun ys hy=>by rw[I.list_inj hy hq];exact hx⟩,cL,fun b hb=>(hf b hb).1⟩⟩
  done:=by
    intro X hP hw hK hc i aa s σ H E I hf st hg
    subst hP hw hK
    obtain⟨xs,hq,hx⟩:=hg
    obtain⟨its,rv,p,hz⟩:=I.list hq
    obtain⟨f0,f1,f2,f3,f4,f5⟩:=hf it (by simp)
    have hl:=rv.length
    exact wpAny_pyNext_list_end (I.ok.hd hc) st p.isList (by simp;omega) fun h' eb=>⟨rfl,I.turned (t':=s.toks) (fun b o hb e=>eb b o hb e) f0 f1 f3 f4 f5⟩
  self:=fun _ _ _ _ _ st h=>wpAny_pyIter_listiter st h
theorem YT {P:Program}{w:World}{K:Frag}{tg:Expr}(a it:Addr):Turn P w K tg (Itt K a) [it] it (fun i h=>h.IsTupleIter it a i) where
  mem:=by simp
  obj:=fun i h st b hb=>by
    have e:b=it:=by simpa using hb
    subst e
    obtain⟨o,e,c,d⟩:=st
    exact⟨o,e,fun v z=>by rw[d]at z;cases z⟩
  keep:=fun i h h' st k=>st.at fun o e=>k it (by simp) o e
  item:=by
    intro X hP hw hK hc i aa s σ H E I hf st hg
    subst hP hw hK
    obtain⟨xs,x,hq,hx⟩:=hg
    obtain⟨its,rv,p,hz⟩:=I.tuple hq
    obtain⟨u,hu,ru⟩:=rv.get hx
    obtain⟨f0,f1,f2,f3,f4,f5⟩:=hf it (by simp)
    refine wpAny_pyNext_tuple_item st (show s.heap.IsTuple a its.toArray from p) (x:=u) (by simpa using hu) fun h' cL sb=>?_
    have I1:Inv X aa σ H { s with heap:=h' }:=I.turned (t':=s.toks) (fun b o hb e=>(sb.2 b hb).trans e) f0 f1 f3 f4 f5
    obtain⟨o,e,c,d⟩:=id cL
    exact⟨u,rfl,jbl (s:={ s with heap:=h' }) e c d (by decide) ⟨x,H,I1,ru,⟨rfl,fun ys hy=>by rw[I.tuple_inj hy hq];exact hx⟩,cL,fun b hb=>(hf b hb).1⟩⟩
  done:=by
    intro X hP hw hK hc i aa s σ H E I hf st hg
    subst hP hw hK
    obtain⟨xs,hq,hx⟩:=hg
    obtain⟨its,rv,p,hz⟩:=I.tuple hq
    obtain⟨f0,f1,f2,f3,f4,f5⟩:=hf it (by simp)
    have hl:=rv.length
    exact wpAny_pyNext_tuple_end (I.ok.hd hc) st (show s.heap.IsTuple a its.toArray from p) (by simp;omega) fun h' eb=>⟨rfl,I.turned (t':=s.toks) (fun b o hb e=>eb b o hb e) f0 f1 f3 f4 f5⟩
  self:=fun _ _ _ _ _ st h=>wpAny_pyIter_tupleiter st h
theorem jcf {P:Program}{w:World}{K:Frag}{tg:Expr}(it:Addr)(lo:Int)(n:Nat):Turn P w K tg (Itr lo n) [it] it (fun i h=>IsRangeIter h it (lo+(i:Nat)*1) ((n:Int)-(i:Nat)) 1) where
  mem:=by simp
  obj:=fun i h st b hb=>by
    have e:b=it:=by simpa using hb
    subst e
    exact⟨_,st,fun v z=>by
      have z':Data.fields _=Data.cell v:=z
      cases z'⟩
  keep:=fun i h h' st k=>k it (by simp) _ st
  item:=by
    intro X hP hw hK hc i aa s σ H E I hf st hg
    subst hP hw hK
    obtain⟨f0,f1,f2,f3,f4,f5⟩:=hf it (by simp)
    have W:=Walks.range (prog:=X.prog) (w:=X.w) (I.ok.hd hc) it lo 1 n
    refine W.item i s _ _ hg st fun v h' tk hv cL kk=>?_
    obtain⟨t,rfl⟩:=hv
    have I1:Inv X aa σ H { s with heap:=h',toks:=tk }:=I.turned (fun b o hb e=>kk b o (by simpa using hb) e) f0 f1 f3 f4 f5
    refine⟨_,rfl,jbl (s:={ s with heap:=h',toks:=tk }) (n:="range_iterator") cL rfl rfl (by decide) ⟨.int (lo+i),H,I1,⟨t,?_⟩,⟨rfl,rfl⟩,cL,fun b hb=>(hf b hb).1⟩⟩
    rw[Int.mul_one]
  done:=by
    intro X hP hw hK hc i aa s σ H E I hf st hg
    subst hP hw hK
    obtain⟨f0,f1,f2,f3,f4,f5⟩:=hf it (by simp)
    exact wpAny_pyNext_range_end (I.ok.hd hc) st (by have:n<=i:=hg;omega) fun h' eb=>⟨rfl,I.turned (t':=s.toks) (fun b o hb e=>eb b o hb e) f0 f1 f3 f4 f5⟩
  self:=fun _ _ _ _ _ st h=>wpAny_pyIter_rangeiter st h
section
variable {X:Cx}{tg:Expr}
def iList (K:Frag)(tl:TE):TI:=fun σ H R=>tl σ H fun x H1=>∃ a,x = .ref a∧(∃ xs,SqL K H1 a xs)∧R (Itl K a) H1
def iTup (K:Frag)(tl:TE):TI:=fun σ H R=>tl σ H fun x H1=>∃ a,x = .ref a∧(∃ xs,SqT K H1 a xs)∧R (Itt K a) H1
theorem pi_list {l:Expr}{tl:TE}(hl:PE X l tl):PI X tg l (iList X.K tl):=by
  intro aa s σ H R I h
  refine thn (hl aa s σ H _ I h) fun v s1 ae=>?_
  obtain⟨x,H1,I1,r1,q1⟩:=ae
  obtain⟨a,e,⟨xs,hq⟩,q⟩:=q1
  subst e
  cases r1
  obtain⟨its,rv,p,hz⟩:=I1.list hq
  refine wpAny_pyIter_list p.isList ?_
  refine⟨s1.heap.objs.size,[s1.heap.objs.size],_,_,H1,rfl,I1.kept (t':=s1.toks) fun b o e=>get?_push_of_some _ e,Vp a _,⟨_,get?_push_size _ rfl,rfl,rfl⟩,fun b hb=>?_,q⟩
  have e:b=s1.heap.objs.size:=by simpa using hb
  subst e
  exact I1.fpOk (le_refl _) (I1.hok.fresh (le_refl _))
theorem pi_tup {l:Expr}{tl:TE}(hl:PE X l tl):PI X tg l (iTup X.K tl):=by
  intro aa s σ H R I h
  refine thn (hl aa s σ H _ I h) fun v s1 ae=>?_
  obtain⟨x,H1,I1,r1,q1⟩:=ae
  obtain⟨a,e,⟨xs,hq⟩,q⟩:=q1
  subst e
  cases r1
  obtain⟨its,rv,p,hz⟩:=I1.tuple hq
  refine wpAny_pyIter_tuple (show s1.heap.IsTuple a its.toArray from p) ?_
  refine⟨s1.heap.objs.size,[s1.heap.objs.size],_,_,H1,rfl,I1.kept (t':=s1.toks) fun b o e=>get?_push_of_some _ e,YT a _,⟨_,get?_push_size _ rfl,rfl,rfl⟩,fun b hb=>?_,q⟩
  have e:b=s1.heap.objs.size:=by simpa using hb
  subst e
  exact I1.fpOk (le_refl _) (I1.hok.fresh (le_refl _))
theorem jgD {aa:List (Addr×Obj)}{σ:St}{H:Hp}{s:Shared}{R:It->Hp->Prop}{E:Value->Shared->Prop}{lo hi:Int}{t u v:Tok}{tk:Nat}(I:Inv X aa σ H s)(h1:-(2 ^ 62)<=lo)(h2:lo<2 ^ 62)(h3:-(2 ^ 62)<=hi)(h4:hi<2 ^ 62)
    (q:R (Itr lo (hi-lo).toNat) H):wpAny (model X.prog X.w) X.A (pyIter (.ref s.heap.objs.size)) (PIE X aa σ tg R) E { s with heap:=s.heap.push { cls:=.type "range",data:=.fields #[.int lo t,.int hi u,.int 1 v] },toks:=tk }:=by
  refine wpAny_pyIter_range (IsRange.new ..) (small_one h1 h2 h3 h4) ?_
  have I1:Inv X aa σ H { s with heap:=s.heap.push { cls:=.type "range",data:=.fields #[.int lo t,.int hi u,.int 1 v] },toks:=tk }:=I.kept fun b o e=>get?_push_of_some _ e
  refine⟨(s.heap.push { cls:=.type "range",data:=.fields #[.int lo t,.int hi u,.int 1 v] }).objs.size,[(s.heap.push { cls:=.type "range",data:=.fields #[.int lo t,.int hi u,.int 1 v] }).objs.size],_,_,H,rfl,
    I1.kept (t':=tk) fun b o e=>get?_push_of_some _ e,jcf _ lo (hi-lo).toNat,?_,fun b hb=>?_,q⟩
  · have e1:lo+((0:Nat):Int)*1=lo:=by simp
    have e2:(((hi-lo).toNat:Nat):Int)-((0:Nat):Int)=Builtin.Range.rangeSize lo hi 1:=by rw[rangeSize_one];split <;> omega
    show IsRangeIter _ _ (lo+((0:Nat):Int)*1) ((((hi-lo).toNat:Nat):Int)-((0:Nat):Int)) 1
    rw[e1,e2]
    exact get?_push_size _ rfl
  · have e:b=(s.heap.push { cls:=.type "range",data:=.fields #[.int lo t,.int hi u,.int 1 v] }).objs.size:=by simpa using hb
    subst e
    exact I1.fpOk (le_refl _) (I1.hok.fresh (le_refl _))
def iRng1 (ta:TA):TI:=fun σ H R=>ta σ H fun vs H1=>∃ j:Int,vs=[.int j]∧-(2 ^ 62)<=j∧j<2 ^ 62∧R (Itr 0 j.toNat) H1
theorem jfh {a:Expr}{ta:TA}{p pos:Pos}(hg:Gl X "range")(hm:X.mg "range" = none)(ha:PA X [a] ta)(hs:starEach [a] X.env=[(false,eval a X.env)]:=by rfl):PI X tg (.Call (.Name "range" p) [a] [] pos) (iRng1 ta):=by
  intro aa s σ H R I h
  refine Call_ (JY I hg hm boot_range (PyProof.Rows.callWith_type1 (thn (ha pos aa s σ H _ I h) fun us s1 ae=>?_) hs rfl))
  obtain⟨vs,H1,I1,r1,q1⟩:=ae
  obtain⟨j,e,q1,q2,q⟩:=q1
  subst e
  cases r1 with
  | cons r rr =>
    cases rr
    obtain⟨t,rfl⟩:=r
    exact call_range_1 (jgD I1 (by omega) (by omega) q1 q2 (by simpa using q))
def tFor (wi:TI)(g:TG)(tb:TS):TS:=fun D σ H=>wi σ H fun J H1=>∃ W:Nat->Nat->St->Hp->Prop,(∃ m,W 0 m σ H1)∧∀ i m σ H,W i m σ H ->
  (J.stop i H∧D.nx σ H)∨(J.go i H∧∃ N:St->Hp->Prop,(∀ σ' H',N σ' H'->∃ m',m'<m∧W (i+1) m' σ' H')∧∀ x H',J.yld i H x H'->g x σ H' fun σ2 H2=>tb { D with nx:=N,ct:=N,bk:=D.nx } σ2 H2)
def Xo (fp:List Addr)(h:Heap):List (Addr×Obj):=fp.filterMap fun b=>(h.get? b).map fun o=>(b,o)
theorem yp {fp:List Addr}{h:Heap}{b:Addr}{o:Obj}(hb:b∈fp)(e:h.get? b=some o):(b,o)∈Xo fp h:=List.mem_filterMap.mpr ⟨b,hb,by rw[e];rfl⟩
theorem jfk {fp:List Addr}{h:Heap}{p:Addr×Obj}(hp:p∈Xo fp h):p.1∈fp∧h.get? p.1=some p.2:=by
  obtain⟨b,hb,e⟩:=List.mem_filterMap.mp hp
  cases q:h.get? b with
  | none=>rw[q]at e;cases e
  | some o =>
    rw[q]at e
    have e':(b,o)=p:=Option.some.inj e
    subst e'
    exact⟨hb,q⟩
theorem Inv.pinned {aa:List (Addr×Obj)}{σ:St}{H:Hp}{s:Shared}{fp:List Addr}(I:Inv X aa σ H s)(hf:∀ b∈fp,yS X aa H b)(ho:∀ b∈fp,∃ o,s.heap.get? b=some o∧∀ v,o.data≠.cell v):Inv X (aa++Xo fp s.heap) σ H s :=
  I.pins_of fun p hp=>(List.mem_append.mp hp).elim (fun z=>I.pin p (mem_append_right _ z)) fun z=>by
    obtain⟨hb,e⟩:=jfk z
    obtain⟨f0,f1,f2,_⟩:=hf p.1 hb
    obtain⟨o,e',d⟩:=ho p.1 hb
    rw[e]at e';cases e'
    exact⟨e,f0,f1,f2,d⟩
theorem Inv.unpinned {aa pl:List (Addr×Obj)}{σ:St}{H:Hp}{s:Shared}(I:Inv X (aa++pl) σ H s):Inv X aa σ H s:=I.pins_of fun p hp=>I.pin p (mem_append_right _ (mem_append_left _ hp))
theorem ps_for {iter:Expr}{body:List Stmt}{wi:TI}{g:TG}{tb:TS}{pos:Pos}(hp:PassesOwn (model X.prog X.w) X.A X.env X.xe)(hc:X.calm=true)(hi:PI X tg iter wi)(hg:PG X tg g)(hb:PSs X body tb)
    (hs:∀ x,foldedSetIterable iter X.env x=pure x:=by intro _;rfl):PS X (.For tg iter body [] pos) (tFor wi g tb):=by
  intro aa s σ H D I h
  refine wpAny_For (thn (hi aa s σ H _ I h) fun v s1 h1=>thn h1 fun eS s2 h2=>?_) hs
  obtain⟨it,fp,tn,J,H2,e,I2,T,cH,f2,W,⟨m0,w0⟩,aA⟩:=h2
  subst e
  -- what stays true of the iterator's objects through the aW
  have bt:∀{H':Hp},(∀ b∈fp,H' b=none)->∀ b∈fp,yS X aa H' b:=fun hn b hb=>⟨hn b hb,(f2 b hb).2⟩
  refine codeAny_forLoop_any (fun n s'=>∃ i σ' H',Inv X aa σ' H' s'∧tn i s'.heap∧(∀ b∈fp,H' b=none)∧W i n σ' H') ?_ m0 ⟨0,σ,H2,I2,cH,fun b hb=>(f2 b hb).1,w0⟩
  rintro n s3 ⟨i,σ3,H3,I3,eR,eX,w3⟩
  rcases aA i n σ3 H3 w3 with⟨stop,qn⟩ | ⟨go,N,hN,step⟩
  · refine wpAny_passesOwn hp (thn (T.done X rfl rfl rfl hc i aa s3 σ3 H3 X.xe I3 (bt eX) eR stop) fun r s4 ae=>?_)
    obtain⟨hr,I4⟩:=ae
    subst hr
    exact wpAny_execs_nil ⟨σ3,H3,I4,qn⟩
  · refine wpAny_passesOwn hp (thn (T.item X rfl rfl rfl hc i aa s3 σ3 H3 X.xe I3 (bt eX) eR go) fun r s4 ae=>?_)
    obtain⟨u,hr,h4⟩:=ae
    subst hr
    refine wpAny_passesOwn hp (thn h4 fun _ s5 ae=>?_)
    obtain⟨x,H5,I5,r5,y5,bJ,cP⟩:=ae
    have eZ:=I5.pinned (bt cP) (T.obj _ _ bJ)
    refine wpAny_passesOwn hp (thn (hg _ s5 σ3 H5 x u _ eZ r5 (step x H5 y5)) fun _ s6 ae=>?_)
    obtain⟨σ6,H6,I6,q6⟩:=ae
    refine wpAny_passesOwn hp (thn (hb _ s6 σ6 H6 _ I6 q6) fun f s7 q7=>?_)
    have again:∀{σ7:St}{H7:Hp},Inv X (aa++Xo fp s5.heap) σ7 H7 s7->N σ7 H7->∃ m,m<n∧∃ i σ' H',Inv X aa σ' H' s7∧tn i s7.heap∧(∀ b∈fp,H' b=none)∧W i m σ' H':=fun{σ7 H7} I7 n7=>by
      obtain⟨m',hm,w7⟩:=hN σ7 H7 n7
      refine⟨m',hm,i+1,σ7,H7,I7.unpinned,T.keep _ _ _ bJ fun b hb o e=>(I7.pin (b,o) (mem_append_right _ (mem_append_right _ (yp hb e)))).1,fun b hb=>?_,w7⟩
      obtain⟨o,e,d⟩:=T.obj _ _ bJ b hb
      exact(I7.pin (b,o) (mem_append_right _ (mem_append_right _ (yp hb e)))).2.1
    cases f with
    | next=>obtain⟨σ7,H7,I7,n7⟩:=q7;exact again I7 n7
    | cont=>obtain⟨σ7,H7,I7,n7⟩:=q7;exact again I7 n7
    | brk=>obtain⟨σ7,H7,I7,q7⟩:=q7;exact⟨σ7,H7,I7.unpinned,q7⟩
    | ret v=>obtain⟨x7,σ7,H7,I7,r7,q7⟩:=q7;exact⟨x7,σ7,H7,I7.unpinned,r7,q7⟩
end
abbrev R2:=V->V->Hp->VK->Prop
def OpR (X:Cx)(f:Value->Value->Sem Value)(r:R2):Prop :=
  ∀(aa:List (Addr×Obj)) (s:Shared) (σ:St) (H:Hp) (x y:V) (v u:Value) (Q:VK),Inv X aa σ H s->yi x v->yi y u->r x y H Q ->
    wpAny (model X.prog X.w) X.A (f v u) (EP X aa σ Q) X.xe s
def UnR (X:Cx)(f:Value->Sem Value)(r:V->Hp->VK->Prop):Prop :=
  ∀(aa:List (Addr×Obj)) (s:Shared) (σ:St) (H:Hp) (x:V) (v:Value) (Q:VK),Inv X aa σ H s->yi x v->r x H Q ->
    wpAny (model X.prog X.w) X.A (f v) (EP X aa σ Q) X.xe s
def yM (X:Cx)(f:Value)(r:List V->Hp->VK->Prop):Prop :=
  ∀(aa:List (Addr×Obj)) (s:Shared) (σ:St) (H:Hp) (xs:List V) (us:List Value) (Q:VK),Inv X aa σ H s->yf xs us->r xs H Q ->
    wpAny (model X.prog X.w) X.A (call f us) (EP X aa σ Q) X.xe s
def TruR (X:Cx)(r:V->Hp->(Bool->Hp->Prop)->Prop):Prop :=
  ∀(aa:List (Addr×Obj)) (s:Shared) (σ:St) (H:Hp) (x:V) (v:Value) (Q:Bool->Hp->Prop),Inv X aa σ H s->yi x v->r x H Q ->
    wpAny (model X.prog X.w) X.A (truthy v) (TP X aa σ Q) X.xe s
def tOp (r:R2)(ta tb:TE):TE:=fun σ H Q=>ta σ H fun x H1=>tb σ H1 fun y H2=>r x y H2 Q
def tUn (r:V->Hp->VK->Prop)(ta:TE):TE:=fun σ H Q=>ta σ H fun x H1=>r x H1 Q
def rI (C:Int->Int->Prop)(g:Int->Int->V):R2:=fun x y H Q=>∃ i j,x = .int i∧y = .int j∧C i j∧Q (g i j) H
def rI0 (g:Int->Int->V):R2:=fun x y H Q=>∃ i j,x = .int i∧y = .int j∧Q (g i j) H
def rU (g:Int->V):V->Hp->VK->Prop:=fun x H Q=>∃ i,x = .int i∧Q (g i) H
section
variable {X:Cx}{a b:Expr}{ta tb:TE}{pos:Pos}
theorem binT (ha:PE X a ta)(hb:PE X b tb){aa:List (Addr×Obj)}{s:Shared}{σ:St}{H:Hp}{R:V->V->Hp->Prop}(I:Inv X aa σ H s)
    (h:ta σ H fun x H1=>tb σ H1 fun y H2=>R x y H2) {Q:Value->Shared->Prop}{f:Value->Value->Sem Value}
    (hf:∀ v u s2 x y H2,Inv X aa σ H2 s2->yi x v->yi y u->R x y H2->wpAny (model X.prog X.w) X.A (f v u) Q X.xe s2) :
    wpAny (model X.prog X.w) X.A (eval a X.env) (fun v s₁=>wpAny (model X.prog X.w) X.A (eval b X.env) (fun u s₂=>wpAny (model X.prog X.w) X.A (f v u) Q X.xe s₂) X.xe s₁) X.xe s:=by
  refine thn (ha aa s σ H _ I h) fun v s1 ae=>?_
  obtain⟨x,H1,I1,r1,q1⟩:=ae
  refine thn (hb aa s1 σ H1 _ I1 q1) fun u s2 ae=>?_
  obtain⟨y,H2,I2,r2,q2⟩:=ae
  exact hf v u s2 x y H2 I2 r1 r2 q2
theorem pe_op {op:Operator}{r:R2}(ho:OpR X (binaryOp op) r)(ha:PE X a ta)(hb:PE X b tb):PE X (.BinOp a op b pos) (tOp r ta tb):=by
  intro aa s σ H Q I h
  exact wpAny_BinOp (binT ha hb I h fun v u s2 x y H2 I2 rx ry q=>ho aa s2 σ H2 x y v u Q I2 rx ry q)
theorem pe_un {op:UnaryOp}{r:V->Hp->VK->Prop}(ho:UnR X (unaryOp op) r)(ha:PE X a ta):PE X (.UnaryOp op a pos) (tUn r ta):=by
  intro aa s σ H Q I h
  exact UnaryOp_ (thn (ha aa s σ H _ I h) fun v s1 ⟨x,H1,I1,r1,q1⟩=>ho aa s1 σ H1 x v Q I1 r1 q1)
theorem opI {f:Value->Value->Sem Value}{C:Int->Int->Prop}{g:Int->Int->Int}
    (rule:∀(i j:Int) (t u:Tok) (s:Shared) (Q:Value->Shared->Prop) (E:Value->Shared->Prop),C i j->Q (.int (g i j) s.toks) { s with toks:=s.toks+1 }->wpAny (model X.prog X.w) X.A (f (.int i t) (.int j u)) Q E s) :
    OpR X f (rI C fun i j=>.int (g i j)):=by
  intro aa s σ H x y v u Q I rx ry h
  obtain⟨i,j,rfl,rfl,hc,q⟩:=h
  obtain⟨t,rfl⟩:=rx
  obtain⟨t',rfl⟩:=ry
  exact rule i j t t' s _ _ hc ⟨.int (g i j),H,I.tok _,⟨_,rfl⟩,q⟩
theorem opI0 {f:Value->Value->Sem Value}{g:Int->Int->Int}
    (rule:∀(i j:Int) (t u:Tok) (s:Shared) (Q:Value->Shared->Prop) (E:Value->Shared->Prop),Q (.int (g i j) s.toks) { s with toks:=s.toks+1 }->wpAny (model X.prog X.w) X.A (f (.int i t) (.int j u)) Q E s) :
    OpR X f (rI0 fun i j=>.int (g i j)):=by
  intro aa s σ H x y v u Q I rx ry h
  obtain⟨i,j,rfl,rfl,q⟩:=h
  obtain⟨t,rfl⟩:=rx
  obtain⟨t',rfl⟩:=ry
  exact rule i j t t' s _ _ ⟨.int (g i j),H,I.tok _,⟨_,rfl⟩,q⟩
theorem opB0 {f:Value->Value->Sem Value}{g:Int->Int->Bool}
    (rule:∀(i j:Int) (t u:Tok) (s:Shared) (Q:Value->Shared->Prop) (E:Value->Shared->Prop),Q (.bool (g i j)) s->wpAny (model X.prog X.w) X.A (f (.int i t) (.int j u)) Q E s) :
    OpR X f (rI0 fun i j=>.bl (g i j)):=by
  intro aa s σ H x y v u Q I rx ry h
  obtain⟨i,j,rfl,rfl,q⟩:=h
  obtain⟨t,rfl⟩:=rx
  obtain⟨t',rfl⟩:=ry
  exact rule i j t t' s _ _ ⟨.bl (g i j),H,I,rfl,q⟩
def CDiv (i j:Int):Prop:=0<j∧j<1073741824
def CPow (i j:Int):Prop:=0<=j∧j<=1000000∧i.natAbs<2 ^ 64
def CMul (i j:Int):Prop:=(-(2 ^ 64)<i∧i<2 ^ 64)∨(-(2 ^ 64)<j∧j<2 ^ 64)
theorem CMul.ok {i j:Int}(h:CMul i j):IntMulOk i j:=by
  rcases h with⟨h1,h2⟩ | ⟨h1,h2⟩
  · exact .of_left (intBits_le_64 h1 h2)
  · exact .of_right (intBits_le_64 h1 h2)
theorem op_add:OpR X (binaryOp .Add) (rI0 fun i j=>.int (i+j)):=opI0 fun _ _ _ _ _ _ _ q=>add_int q
theorem op_sub:OpR X (binaryOp .Sub) (rI0 fun i j=>.int (i-j)):=opI0 fun _ _ _ _ _ _ _ q=>sub_int q
theorem op_mul:OpR X (binaryOp .Mult) (rI CMul fun i j=>.int (i*j)):=opI fun _ _ _ _ _ _ _ hc q=>mul_int q hc.ok
theorem op_fdiv:OpR X (binaryOp .FloorDiv) (rI CDiv fun i j=>.int (i/j)):=opI fun i j _ _ _ _ _ hc q=>by
  have h1:(0:Int)<j:=hc.1
  have h2:j<1073741824:=hc.2
  exact floordiv_int (by omega) (by rw[Int.fdiv_eq_ediv_of_nonneg i (by omega)];exact q) (.inl (PyProof.noPylong_small (by omega)))
theorem op_mod:OpR X (binaryOp .Mod) (rI (fun _ j=>0<j) fun i j=>.int (i%j)):=opI fun i j _ _ _ _ _ hc q=>by
  have h1:(0:Int)<j:=hc
  exact mod_int' (by omega) (by rw[Int.fmod_eq_emod_of_nonneg i (by omega)];exact q)
theorem op_pow:OpR X (binaryOp .Pow) (rI CPow fun i j=>.int (i ^ j.toNat)):=opI fun _ _ _ _ _ _ _ hc q=>pow_int_small hc.1 hc.2.1 hc.2.2 q
theorem unI {f:Value->Sem Value}{g:Int->Int}
    (rule:∀(i:Int) (t:Tok) (s:Shared) (Q:Value->Shared->Prop) (E:Value->Shared->Prop),Q (.int (g i) s.toks) { s with toks:=s.toks+1 }->wpAny (model X.prog X.w) X.A (f (.int i t)) Q E s) :
    UnR X f (rU fun i=>.int (g i)):=by
  intro aa s σ H x v Q I rx h
  obtain⟨i,rfl,q⟩:=h
  obtain⟨t,rfl⟩:=rx
  exact rule i t s _ _ ⟨.int (g i),H,I.tok _,⟨_,rfl⟩,q⟩
theorem un_neg:UnR X (unaryOp .USub) (rU fun i=>.int (-i)):=unI fun _ _ _ _ _ q=>neg_int q
end
section
variable {X:Cx}{a b c:Expr}{ta tb tc:TE}{pos:Pos}
theorem op_lt:OpR X (compareOp .Lt) (rI0 fun i j=>.bl (decide (i<j))):=opB0 fun _ _ _ _ _ _ _ q=>lt_int q
theorem op_le:OpR X (compareOp .LtE) (rI0 fun i j=>.bl (decide (i<=j))):=opB0 fun _ _ _ _ _ _ _ q=>le_int q
theorem op_gt:OpR X (compareOp .Gt) (rI0 fun i j=>.bl (decide (j<i))):=opB0 fun _ _ _ _ _ _ _ q=>gt_int q
theorem op_ge:OpR X (compareOp .GtE) (rI0 fun i j=>.bl (decide (j<=i))):=opB0 fun _ _ _ _ _ _ _ q=>ge_int q
theorem OpR.or {f:Value->Value->Sem Value}{r r':R2}(h:OpR X f r)(h':OpR X f r'):OpR X f (fun x y H Q=>r x y H Q∨r' x y H Q):=by
  intro aa s σ H x y v u Q I rx ry q
  rcases q with q | q
  · exact h aa s σ H x y v u Q I rx ry q
  · exact h' aa s σ H x y v u Q I rx ry q
theorem jS (b:Expr){op:CmpOp}(h:op≠.In:=by decide)(h2:op≠.NotIn:=by decide):behindInMarks op b=false:=by
  have e1:(op==CmpOp.In)=false:=by cases op <;> first | rfl | exact absurd rfl h
  have e2:(op==CmpOp.NotIn)=false:=by cases op <;> first | rfl | exact absurd rfl h2
  cases b <;> simp[behindInMarks,e1,e2]
theorem pe_cmpR {op:CmpOp}{r:R2}(ho:OpR X (compareOp op) r)(ha:PE X a ta)(hb:PE X b tb)(hm:behindInMarks op b=false):PE X (.Compare a [op] [b] pos) (tOp r ta tb):=by
  intro aa s σ H Q I h
  exact wpAny_Compare1 (binT ha hb I h fun v u s2 x y H2 I2 rx ry q=>ho aa s2 σ H2 x y v u Q I2 rx ry q) hm
def tTest (t:TE):TT:=fun σ H Q=>t σ H fun x H'=>∃ k,x = .bl k∧Q k H'
theorem pt_cmpR {op:CmpOp}{r:R2}(ho:OpR X (compareOp op) r)(ha:PE X a ta)(hb:PE X b tb)(hm:behindInMarks op b=false):PT X (.Compare a [op] [b] pos) (tTest (tOp r ta tb)):=by
  intro aa s σ H Q I h
  refine wpAny_isTrue_Compare1 (thn (ha aa s σ H _ I h) fun v s1 ⟨x,H1,I1,r1,q1⟩=>thn (hb aa s1 σ H1 _ I1 q1) fun u s2 ⟨y,H2,I2,r2,q2⟩ =>
    thn (ho aa s2 σ H2 x y v u _ I2 r1 r2 q2) fun c s3 ⟨z,H3,I3,r3,k,e,q3⟩=>?_) hm
  subst e
  cases r3
  exact wpAny_truthy_bool ⟨H3,I3,q3⟩
def jgk (r r':R2)(ta tb tc:TE):TE:=fun σ H Q=>ta σ H fun x H1=>tb σ H1 fun y H2=>r x y H2 fun z H3=>∃ k,z = .bl k ∧
  (if k=true then tc σ H3 fun w' H4=>r' y w' H4 Q else Q (.bl false) H3)
theorem jhi {op fo:CmpOp}{r r':R2}(ho:OpR X (compareOp op) r)(a9:OpR X (compareOp fo) r')(ha:PE X a ta)(hb:PE X b tb)(hc:PE X c tc)
    (hm:lastMarks [op,fo] [b,c]=false:=by with_unfolding_all rfl):PE X (.Compare a [op,fo] [b,c] pos) (jgk r r' ta tb tc):=by
  intro aa s σ H Q I h
  refine Compare_chain (thn (ha aa s σ H _ I h) fun v s1 ⟨x,H1,I1,r1,q1⟩=>chain_link (thn (hb aa s1 σ H1 _ I1 q1) fun u s2 ⟨y,H2,I2,r2,q2⟩ =>
    thn (ho aa s2 σ H2 x y v u _ I2 r1 r2 q2) fun d s3 ⟨z,H3,I3,r3,k,e,q3⟩=>?_)) hm
  subst e
  cases r3
  refine wpAny_truthy_bool ?_
  cases k with
  | false=>exact ite_ff ⟨.bl false,H3,I3,rfl,q3⟩
  | true=>exact ite_tt (chain_last (thn (hc aa s3 σ H3 _ I3 q3) fun w' s4 ⟨z',H4,I4,r4,q4⟩=>a9 aa s4 σ H4 y z' u w' Q I4 r2 r4 q4))
def TruV (K:Frag)(x:V)(H:Hp)(k:Bool):Prop :=
  match x with
  | .non=>k=false
  | .bl b=>k=b
  | .int i=>k=(i != 0)
  | .str y=>y.length<=sizeLine∧k=((y.length:Int) != 0)
  | .byt y=>y.size<=sizeLine∧k=((y.size:Int) != 0)
  | .ref p=>(∃ xs,SqL K H p xs∧k = !xs.isEmpty)∨(∃ xs,SqT K H p xs∧k = !xs.isEmpty)∨∃ kvs,H p=some (.dK kvs)∧k = !kvs.isEmpty
  | _=>False
theorem jcI {κ:Type}{kvs:List (κ×V)}{vs:List (κ×Value)}(r:KV kvs vs):(!vs.isEmpty) = !kvs.isEmpty:=by
  cases r <;> rfl
theorem XC {xs:List V}{its:List Value}(r:yf xs its):(!its.toArray.isEmpty) = !xs.isEmpty:=by
  cases r <;> simp
theorem Xy:(sizeLine:Nat)<2 ^ 63:=by rw[sizeLine_eq];decide
theorem tru_ok:TruR X (fun x H Q=>∃ k,TruV X.K x H k∧Q k H):=by
  intro aa s σ H x v Q I rx h
  obtain⟨k,e,q⟩:=h
  have hl:=Xy
  have hs:sizeLine=16777216:=sizeLine_eq
  cases x with
  | non =>
    cases rx
    have e':k=false:=e
    subst e'
    exact truthy_none ⟨H,I,q⟩
  | bl b =>
    cases rx
    have e':k=b:=e
    subst e'
    exact wpAny_truthy_bool ⟨H,I,q⟩
  | int i =>
    obtain⟨t,rfl⟩:=rx
    have e':k=(i != 0):=e
    subst e'
    exact PySem.P.truthy_int ⟨H,I,q⟩
  | str y =>
    obtain⟨t,rfl⟩:=rx
    obtain⟨hy,e'⟩:y.length<=sizeLine∧k=((y.length:Int) != 0):=e
    subst e'
    exact PySem.P.truthy_str (by omega) ⟨H,I.tok _,q⟩
  | byt y =>
    obtain⟨t,rfl⟩:=rx
    obtain⟨hy,e'⟩:y.size<=sizeLine∧k=((y.size:Int) != 0):=e
    subst e'
    exact PySem.W.truthy_bytes (by omega) ⟨H,I.tok _,q⟩
  | ref p =>
    cases rx
    have e':(∃ xs,SqL X.K H p xs∧k = !xs.isEmpty)∨(∃ xs,SqT X.K H p xs∧k = !xs.isEmpty)∨∃ kvs,H p=some (.dK kvs)∧k = !kvs.isEmpty:=e
    rcases e' with⟨xs,hx,e'⟩ | ⟨xs,hx,e'⟩ | ⟨kvs,hx,e'⟩
    · subst e'
      obtain⟨its,r,pl,hz⟩:=I.list hx
      have aq:=r.length
      exact wpAny_truthy_list pl.isList (by simp only[size_toArray];omega) ⟨H,I.tok _,by rw[XC r];exact q⟩
    · subst e'
      obtain⟨its,r,pl,hz⟩:=I.tuple hx
      have aq:=r.length
      exact truthy_tuple pl (by simp only[size_toArray];omega) ⟨H,I.tok _,by rw[XC r];exact q⟩
    · subst e'
      obtain⟨hz,hS,vs,r,m⟩:kvs.length<=sizeLine∧(p==sysModules)=false∧∃ vs,KV kvs vs∧s.heap.DictOf (ye X.prog X.w) p vs:=I.hok p _ hx
      have aq:kvs.length=vs.length:=Paired.length r
      exact wpAny_truthy_dict hS m (by omega) ⟨H,I.tok _,by rw[jcI r];exact q⟩
  | _=>exact(show False from e).elim
theorem Vo {x:V}{us:List Value}(r:yf [x] us):∃ u,us=[u]∧yi x u:=by
  cases r with
  | cons r1 r2=>cases r2;exact⟨_,rfl,r1⟩
theorem jga {x y:V}{us:List Value}(r:yf [x,y] us):∃ u w',us=[u,w']∧yi x u∧yi y w':=by
  cases r with
  | cons r1 r2 =>
    cases r2 with
    | cons r3 r4=>cases r4;exact⟨_,_,rfl,r1,r3⟩
end
structure ObjM (h:Heap)(x dx C:Addr)(mA:Str->Option Value):Prop where
  obj:h.get? x=some (instObj C dx)
  ns:h.Ns1 dx mA
  ne:dx≠x
theorem jfs {h:Heap}{dx:Addr}{mA:Str->Option Value}(n:h.Ns1 dx mA):∃ od,h.get? dx=some od∧∀ name,lookIn name od=some (mA name):=by
  obtain⟨o,es,ep,ho,hd,hk,_,hm⟩:=n
  refine⟨o,ho,fun name=>?_⟩
  have e:=hm name
  unfold nsFind findBy at e
  rw[<- Array.find?_toList]at e
  unfold lookIn
  rw[hd]
  dsimp only
  split
  · rename_i y q
    rw[q]at e
    exact congrArg some e
  · rename_i q
    rw[q]at e
    have a:es.toList.any (·.refKey)=false:=by
      rw[List.any_eq_false]
      intro y hy
      obtain⟨z,t,bW⟩:=hk y (Array.mem_toList_iff.mp hy)
      simp[DictEntry.refKey,bW]
    have a':¬ es.toList.any (·.refKey)=true:=by rw[a];exact Bool.false_ne_true
    rw[if_neg a']
    exact congrArg some e
theorem ObjM.look {h:Heap}{x dx C:Addr}{mA:Str->Option Value}(I:ObjM h x dx C mA):∃ od,PySem.W.InstAt h x (instObj C dx) C (some od)∧∀ name,lookIn name od=some (mA name) :=
  let ⟨od,ho,hl⟩:=jfs I.ns
  ⟨od,⟨I.obj,rfl,rfl,ho⟩,hl⟩
section
variable {prog:Program}{w:World}{A:Around}{E:Value->Shared->Prop}{s:Shared}{K:Frag}{x dx C f:Addr}{mA:Str->Option Value}{name:Str}{v:Value}
theorem get_map {expr:Bool}{Q:Value->Shared->Prop}(X:K.In s.heap)(I:ObjM s.heap x dx C mA)(hg:plainGet K C name=true)(hh:hasDictIn K C=true)
    (ha:findIn K (.ref C) name=some none) (hv:mA name=some v) (hv':handedIn v=true) (h:Q v { s with toks:=s.toks+1 }) :
    wpAny (model prog w) A (getAttr (.ref x) name expr) Q E s:=by
  obtain⟨od,J,hl⟩:=I.look
  exact PySem.W.get_value X J (plainGet_of hg).1 (PySem.W.findObj_own hh ha rfl (by rw[hl,hv])) hv' h
theorem jhQ {pl:Sem Bool}{Q:Value×List Value->Shared->Prop}(X:K.In s.heap)(I:ObjM s.heap x dx C mA)(hg:plainGet K C name=true)
    (hf:findIn K (.ref C) name=some (some (.ref f))) (ht:isFn K (.ref f)=true) (hv:mA name=none) (h:Q (.ref f,[.ref x]) s) :
    wpAny (model prog w) A (getMethod (.ref x) name pl) Q E s:=by
  obtain⟨od,J,hl⟩:=I.look
  exact PySem.W.method_fn X J (plainGet_of hg).1 (plainGet_of hg).2 hf (beq_iff_eq.mp ht) (by show(lookIn name od).map (·.isSome)=some false;rw[hl,hv];rfl) h
theorem jiZ {ns:List Str}{Q:Unit->Shared->Prop}(X:K.In s.heap)(I:ObjM s.heap x dx C mA)
    (hs:findIn K (.ref C) "__setattr__" = some (some (.builtin "object.__setattr__"))) (hp:plainOver K C=true) (ht:takerIn K C name=some none) (hh:hasDictIn K C=true)
    (hw:PySem.Within mA ns) (hsz:ns.length<=sizeLine)
    (h:∀ h',ObjM h' x dx C (fun y=>if y=name then some v else mA y)->SameBut dx s.heap h'->Q () { s with heap:=h',toks:=s.toks+2 }) :
    wpAny (model prog w) A (setAttr (.ref x) name v) Q E s:=by
  obtain⟨od,J,hl⟩:=I.look
  refine PySem.W.set_plain X J hs (PySem.W.osa_open (s:={ s with toks:=s.toks+1 }) (r:=none) X J hp ht fun b=>?_)
  obtain⟨cd,hc,c6⟩:=PySem.W.any_some hh
  have hx:s.heap.get? x=some ⟨.ref C,some dx,.plain,#[]⟩:=I.obj
  refine wpAny_bind (wpAny_pure (wpAny_bind (wpAny_bind (wpAny_loadPart hx (wpAny_bind (PySem.W.Looks.here (s:={ s with toks:=s.toks+1 }) (PySem.W.looks_clsIn X hc) ?_))))))
  rw[c6]
  refine wpAny_pure (a:=some dx) (wpAny_bind (wpAny_pure (wpAny_bind ?_)))
  refine wpAny_nsSet1 (s:={ s with toks:=s.toks+1 }) I.ns fun h' fZ bx=>?_
  obtain⟨oD,esD,epD,hoD,hdD,hcD⟩:=fZ.count (PySem.Within.cons name v hw)
  refine wpAny_bind (wpAny_lookBehind hoD (by rw[hdD];exact pastItsLine_dict (le_trans hcD (by rw[length_cons];omega))) ?_)
  exact wpAny_pure (h _ ⟨(bx.2 _ (Ne.symm I.ne)).trans I.obj,fZ,I.ne⟩ bx)
theorem jhu {R:Result->Shared->Prop}{vs:List Value}{kw:List (Str×Value)}(X:K.In s.heap)(hm:makesIn K C=true)
    (hi:findIn K (.ref C) "__init__" = some (some (.ref f))) (hf:PySem.W.typeIn K (.ref f)=some (.type "function"))
    (h:codeAny (model prog w) (A.under (.builtin "type.__call__" ⟨.ref C::vs,kw⟩)) (.call (.ref f) ⟨.ref (s.heap.objs.size+1)::vs,kw⟩) (PySem.W.InitBack (s.heap.objs.size+1) R)
      { s with heap:=(s.heap.push emptyDict).push (instObj C s.heap.objs.size) }) :
    codeAny (model prog w) A (.call (.ref C) ⟨vs,kw⟩) R s:=by
  obtain⟨hh,g,d,t,os⟩:=s
  exact PySem.W.make_core (PySem.W.makes_of X hm) (PySem.W.looks_findIn X hi) (fun self=>PySem.W.bind_fn X self hf) (.inl rfl) h
end
def vE (f:Str)(v:V):List (Str×V)->List (Str×V)
  | []=>[(f,v)]
  | (g,x)::r=>if g=f then(g,v)::r else(g,x)::vE f v r
theorem Yq (f g:Str)(v:V):∀ fs:List (Str×V),(vE f v fs).lookup g=if g=f then some v else fs.lookup g
  | []=>by
    show List.lookup g [(f,v)]=_
    by_cases h:g=f
    · have hb:(g==f)=true:=beq_iff_eq.mpr h
      simp only[List.lookup,hb,if_pos h]
    · have hb:(g==f)=false:=beq_eq_false_iff_ne.mpr h
      simp only[List.lookup,hb,if_neg h]
  | (k,x)::r=>by
    have ih:=Yq f g v r
    rw[show vE f v ((k,x)::r)=(if k=f then(k,v)::r else(k,x)::vE f v r)from rfl]
    by_cases hk:k=f
    · rw[if_pos hk]
      by_cases h:g=k
      · have hb:(g==k)=true:=beq_iff_eq.mpr h
        simp only[List.lookup,hb,if_pos (h.trans hk)]
      · have hb:(g==k)=false:=beq_eq_false_iff_ne.mpr h
        simp only[List.lookup,hb,if_neg (fun e:g=f=>h (e.trans hk.symm))]
    · rw[if_neg hk]
      by_cases h:g=k
      · have hb:(g==k)=true:=beq_iff_eq.mpr h
        simp only[List.lookup,hb,if_neg (fun e:g=f=>hk (h.symm.trans e))]
      · have hb:(g==k)=false:=beq_eq_false_iff_ne.mpr h
        simp only[List.lookup,hb]
        exact ih
theorem JZ (f:Str)(v:V):∀ fs:List (Str×V),f∈(vE f v fs).map (·.1)∧∀ g,g∈fs.map (·.1)->g∈(vE f v fs).map (·.1)
  | []=>⟨by simp[vE],fun g h=>by simp at h⟩
  | (k,x)::r=>by
    obtain⟨i1,i2⟩:=JZ f v r
    rw[show vE f v ((k,x)::r)=(if k=f then(k,v)::r else(k,x)::vE f v r)from rfl]
    by_cases hk:k=f
    · rw[if_pos hk]
      subst hk
      exact⟨by simp,fun g h=>by simpa using h⟩
    · rw[if_neg hk]
      refine⟨?_,fun g h=>?_⟩
      · rw[map_cons]
        exact mem_cons_of_mem _ i1
      · rw[map_cons]at h ⊢
        rcases List.mem_cons.mp h with e | e
        · exact List.mem_cons.mpr (.inl e)
        · exact mem_cons_of_mem _ (i2 g e)
theorem Yr (f:Str)(v:V):∀ fs:List (Str×V),(vE f v fs).length<=fs.length+1
  | []=>by simp[vE]
  | (k,x)::r=>by
    have ih:=Yr f v r
    rw[show vE f v ((k,x)::r)=(if k=f then(k,v)::r else(k,x)::vE f v r)from rfl]
    by_cases hk:k=f
    · rw[if_pos hk,length_cons,length_cons];omega
    · rw[if_neg hk,length_cons,length_cons];omega
theorem uL.some_of {v:V}{o:Option Value}(r:uL (some v) o):∃ u,o=some u∧yi v u:=by
  cases o with
  | none=>exact(show False from r).elim
  | some u=>exact⟨u,rfl,r⟩
theorem uL.none_of {o:Option Value}(r:uL none o):o=none:=by
  cases o with
  | none=>rfl
  | some u=>exact(show False from r).elim
theorem jfA {v:V}{u:Value}(r:yi v u):handedIn u=true:=by
  cases v with
  | non=>cases (show u=Value.none from r);rfl
  | bl b=>cases (show u=Value.bool b from r);rfl
  | int i=>obtain⟨t,e⟩:=(show ∃ t,u=Value.int i t from r);cases e;rfl
  | str x=>obtain⟨t,e⟩:=(show ∃ t,u=Value.str x t from r);cases e;rfl
  | byt b=>obtain⟨t,e⟩:=(show ∃ t,u=Value.bytes b t from r);cases e;rfl
  | flt b=>obtain⟨t,e⟩:=(show ∃ t,u=Value.float b t from r);cases e;rfl
  | ref a=>cases (show u=Value.ref a from r);rfl
  | ty n=>cases (show u=Value.type n from r);rfl
section
variable {P:Program}{w:World}{H:Hp}{h:Heap}{a C dx:Addr}{fs:List (Str×V)}
theorem UN (hok:HOk P w H h)(e:H a=some (.ins C dx fs)):∃ mA,ObjM h a dx C mA∧(∀ f,uL (fs.lookup f) (mA f))∧PySem.Within mA (fs.map (·.1))∧fs.length<=1000∧H dx=some (.own a):=by
  obtain⟨d,z,ne,ob,mA,n,r,q⟩:=(show yk P w H h a (.ins C dx fs)from hok a _ e)
  exact⟨mA,⟨ob,n,ne⟩,r,q,z,d⟩
end
structure Cls (K:Frag)(C:Addr):Prop where
  pg:plainGet K C Str.empty=true
  hd:hasDictIn K C=true
  po:plainOver K C=true
  sa:findIn K (.ref C) "__setattr__" = some (some (.builtin "object.__setattr__"))
theorem Cls.get {K:Frag}{C:Addr}(c:Cls K C)(f:Str):plainGet K C f=true:=c.pg
def jn (K:Frag)(C:Addr)(f:Str):Prop:=findIn K (.ref C) f=some none
theorem jn.taker {K:Frag}{C:Addr}{f:Str}(n:jn K C f):takerIn K C f=some none:=by
  unfold takerIn
  rw[show findIn K (.ref C) f=some none from n]
  rfl
structure Meth (K:Frag)(C:Addr)(m:Str)(f:Addr):Prop where
  at_:findIn K (.ref C) m=some (some (.ref f))
  fn:isFn K (.ref f)=true
  kp:keepIn K (.ref f)=true
section
variable {X:Cx}{aa:List (Addr×Obj)}{σ:St}{H:Hp}{s:Shared}{a C dx:Addr}{fs:List (Str×V)}{f:Str}{v:V}{A:Around}{E:Value->Shared->Prop}
theorem jcN {b:Bool}{Q:Value->Shared->Prop}(I:Inv X aa σ H s)(e:H a=some (.ins C dx fs))(c:Cls X.K C)(n:jn X.K C f)(l:fs.lookup f=some v)
    (h:∀ u s',Inv X aa σ H s'->yi v u->Q u s'):wpAny (model X.prog X.w) A (getAttr (.ref a) f b) Q E s:=by
  obtain⟨mA,O,r,_,_,_⟩:=UN I.hok e
  obtain⟨u,hu,ru⟩:=uL.some_of (v:=v) (o:=mA f) (by rw[<- l];exact r f)
  exact get_map I.kIn O (c.get f) c.hd n hu (jfA ru) (h u _ (I.tok _) ru)
theorem XH {m:Str}{g:Addr}{pl:Sem Bool}{Q:Value×List Value->Shared->Prop}(I:Inv X aa σ H s)(e:H a=some (.ins C dx fs))(c:Cls X.K C)(k:Meth X.K C m g)(l:fs.lookup m=none)
    (h:Q (.ref g,[.ref a]) s):wpAny (model X.prog X.w) A (getMethod (.ref a) m pl) Q E s:=by
  obtain⟨mA,O,r,_,_,_⟩:=UN I.hok e
  have hn:mA m=none:=uL.none_of (by rw[<- l];exact r m)
  exact jhQ I.kIn O (c.get m) k.at_ k.fn hn h
theorem jcj {y:V}{u:Value}{Q:Unit->Shared->Prop}(I:Inv X aa σ H s)(e:H a=some (.ins C dx fs))(c:Cls X.K C)(n:jn X.K C f)(hl:fs.length<1000)(ry:yi y u)
    (h:∀ s',Inv X aa σ (upd H a (.ins C dx (vE f y fs))) s'->Q () s'):wpAny (model X.prog X.w) A (setAttr (.ref a) f u) Q E s:=by
  obtain⟨mA,O,r,wi,_,ho⟩:=UN I.hok e
  have hz:(fs.map (·.1)).length<=sizeLine:=by rw[length_map,sizeLine_eq];omega
  refine jiZ I.kIn O c.sa c.po n.taker c.hd wi hz fun h' O' sb=>h _ ?_
  have hd:∃ o,h'.get? dx=some o:=let ⟨o,_,_,e',_⟩:=O'.ns;⟨o,e'⟩
  refine I.write (x:=a) (e:=dx) (by rw[e];exact True.intro) (.inr ho) (fun b q hb z=>(sb.2 b hb).trans z) hd ?_
  refine⟨by rw[jk O.ne];exact ho,?_,O.ne,O'.obj,_,O'.ns,fun g=>?_,fun g hg=>?_⟩
  · have:=Yr f y fs;omega
  · show uL ((vE f y fs).lookup g) (if g=f then some u else mA g)
    rw[Yq]
    by_cases q:g=f
    · rw[if_pos q,if_pos q];exact ry
    · rw[if_neg q,if_neg q];exact r g
  · by_cases q:g=f
    · rw[q];exact(JZ f y fs).1
    · refine(JZ f y fs).2 g (wi g fun z=>hg ?_)
      show(if g=f then some u else mA g)=none
      rw[if_neg q];exact z
theorem Inv.made (I:Inv X aa σ H s):Inv X aa σ (upd (upd H s.heap.objs.size (.own (s.heap.objs.size+1))) (s.heap.objs.size+1) (.ins C s.heap.objs.size []))
    { s with heap:=(s.heap.push emptyDict).push (instObj C s.heap.objs.size) }:=by
  have e1:(s.heap.push emptyDict).get? s.heap.objs.size=some emptyDict:=get?_push_size s.heap rfl
  have e2:((s.heap.push emptyDict).push (instObj C s.heap.objs.size)).get? (s.heap.objs.size+1)=some (instObj C s.heap.objs.size):=by
    have:=get?_push_size (s.heap.push emptyDict) (o:=instObj C s.heap.objs.size) rfl
    rwa [size_push]at this
  have e3:(s.heap.push emptyDict).Ns s.heap.objs.size (fun _=>none):=⟨emptyDict,#[],_,e1,rfl,(fun e he=>absurd he (by simp)),fun _=>rfl⟩
  have I1:=I.laid (a:=s.heap.objs.size) (o:=.own (s.heap.objs.size+1)) (h':=s.heap.push emptyDict) (t':=s.toks) (fun b u q=>get?_push_of_some _ q) (le_refl _) ⟨_,e1⟩
  refine I1.laid (a:=s.heap.objs.size+1) (o:=.ins C s.heap.objs.size []) (t':=s.toks) (fun b u q=>get?_push_of_some _ q) (le_of_eq (size_push _ _)) ?_
  have ne:s.heap.objs.size≠s.heap.objs.size+1:=ne_of_lt (lt_succ_self _)
  refine⟨by rw[jk ne,jr],zero_le _,ne,e2,fun _=>none,(Heap.Ns1.of_empty e3).at fun o q=>get?_push_of_some _ q,fun _=>True.intro,fun y hy=>absurd rfl hy⟩
theorem attr_of {prog:Program}{w:World}{env:Env}{e:Expr}{f:Str}{pos:Pos}{s:Shared}{Q:Value->Shared->Prop}(hb:attributeBase e f env (eval e env)=eval e env)
    (h:wpAny (model prog w) A (eval e env) (fun o s₁=>wpAny (model prog w) A (getAttr o f true) Q E s₁) E s):wpAny (model prog w) A (eval (.Attribute e f pos) env) Q E s :=
  Attribute_any_ h (by rw[arm_eval_Attribute,hb])
end
def tFld (K:Frag)(ta:TE)(f:Str):TE:=fun σ H Q=>ta σ H fun x H1=>∃ a C dx fs v,x = .ref a∧H1 a=some (.ins C dx fs)∧Cls K C∧jn K C f∧fs.lookup f=some v∧Q v H1
def sFld (K:Frag)(ta tv:TE)(f:Str):TS:=fun D σ H=>tv σ H fun y H1=>ta σ H1 fun x H2=>∃ a C dx fs,x = .ref a∧H2 a=some (.ins C dx fs)∧Cls K C∧jn K C f∧fs.length<1000 ∧
  D.nx σ (upd H2 a (.ins C dx (vE f y fs)))
section
variable {X:Cx}{o e value:Expr}{f:Str}{pos a7:Pos}{ta tv:TE}
theorem pe_fld (he:PE X e ta)(hb:attributeBase e f X.env (eval e X.env)=eval e X.env):PE X (.Attribute e f pos) (tFld X.K ta f):=by
  intro aa s σ H Q I h
  refine attr_of hb (thn (he aa s σ H _ I h) fun u s1 ae=>?_)
  obtain⟨x,H1,I1,rx,a,C,dx,fs,v,ex,ea,c,n,l,q⟩:=ae
  subst ex
  obtain rfl:u=Value.ref a:=rx
  exact jcN I1 ea c n l fun u' s2 I2 ru=>⟨v,H1,I2,ru,q⟩
theorem ps_fld (ha:PE X o ta)(hv:PE X value tv)(hs:swapsWith value (some (.Attribute o f a7)) pos.line X.env=pure false):PS X (.Assign [.Attribute o f a7] value pos) (sFld X.K ta tv f):=by
  intro aa s σ H D I h
  refine plainObj_wpAny_Assign_Attribute (thn (hv aa s σ H _ I h) fun u s1 ⟨y,H1,I1,ry,q⟩=>thn (ha aa s1 σ H1 _ I1 q) fun ov s2 ae=>?_) hs
  obtain⟨x,H2,I2,rx,a,C,dx,fs,ex,ea,c,n,l,q2⟩:=ae
  subst ex
  obtain rfl:ov=Value.ref a:=rx
  exact jcj I2 ea c n l ry fun s3 I3=>⟨σ,_,I3,q2⟩
end
section
variable {H:Hp}
inductive TyOf (K:Frag)(H:Hp):V->Value->Prop where
  | non:TyOf K H .non (.type "NoneType")
  | bl (x:Bool):TyOf K H (.bl x) (.type "bool")
  | int (i:Int):TyOf K H (.int i) (.type "int")
  | str (x:Str):TyOf K H (.str x) (.type "str")
  | flt (x:UInt64):TyOf K H (.flt x) (.type "float")
  | lst {a:Addr}{xs:List V}(e:H a=some (.lst xs)):TyOf K H (.ref a) (.type "list")
  | frz {a:Addr}{o:Obj}{xs:List V}(e:H a=some (.frz o (.lst xs))):TyOf K H (.ref a) (.type "list")
  | tup {a:Addr}{xs:List V}(e:H a=some (.tup xs)):TyOf K H (.ref a) (.type "tuple")
  | dK {a:Addr}{kvs:List (Key×V)}(e:H a=some (.dK kvs)):TyOf K H (.ref a) (.type "dict")
  | dT {a:Addr}{kvs:List (List Key×V)}(e:H a=some (.dT kvs)):TyOf K H (.ref a) (.type "dict")
  | ins {a C dx:Addr}{fs:List (Str×V)}(e:H a=some (.ins C dx fs)) (cl:Cls K C) (ha:findIn K (.ref C) "__class__" = some (some (.builtin "object.__class__")))
      (hn:PySem.W.specialIn K (.builtin "object.__class__") "__get__" = some (some (.builtin "getset_descriptor.__get__"))) (htk:PySem.W.takesIn K (.builtin "object.__class__")=some true)
      (hm:PySem.W.mroIn K C (.type "object")=some true):TyOf K H (.ref a) (.ref C)
end
structure Room (k:Nat)(A:Around):Prop where
  hd:A.handled=none
  dp:A.depth+3*k+5<recursionLimit
  un:A.units+16*k+200<cLine
theorem Room.mono {j k:Nat}{A:Around}(r:Room k A)(h:j<=k):Room j A:=⟨r.hd,by have:=r.dp;omega,by have:=r.un;omega⟩
theorem Room.deeper {k:Nat}{A:Around}(r:Room (k+1) A)(env:Env):Room k (A.deeper env) :=
  ⟨r.hd,by have:=r.dp;show A.depth+1+3*k+5<_;omega,by have:=r.un;show A.units+3+16*k+200<_;omega⟩
theorem jcF {A:Around}{C:Addr}{us:List Value}{kw:List (Str×Value)}:(A.under (.builtin "type.__call__" ⟨.ref C::us,kw⟩)).depth=A.depth+1:=by
  first | rfl | simp[Around.under,Code.weight,Code.isCreation,Code.isGuard,Code.isCaller,Code.frames,Code.isFrame,guardIds]
theorem jcE {A:Around}{C:Addr}{us:List Value}{kw:List (Str×Value)}:(A.under (.builtin "type.__call__" ⟨.ref C::us,kw⟩)).units=A.units+1:=by
  first | rfl | simp[Around.under,Code.cUnits,Code.frames,Code.isFrame]
theorem Room.make {k:Nat}{A:Around}(r:Room (k+1) A)(C:Addr)(us:List Value)(kw:List (Str×Value)):Room k (A.under (.builtin "type.__call__" ⟨.ref C::us,kw⟩)) :=
  ⟨r.hd,by have:=r.dp;rw[jcF];omega,by have:=r.un;rw[jcE];omega⟩
theorem Room.depth {k:Nat}{A:Around}(r:Room k A):A.depth<recursionLimit:=by have:=r.dp;omega
theorem Room.units {k:Nat}{A:Around}(r:Room k A):A.units+64<cLine:=by have:=r.un;omega
theorem Room.units0 {k:Nat}{A:Around}(r:Room k A):A.units<cLine:=by have:=r.un;omega
def tNil:TA:=fun _ H Q=>Q [] H
def jgi (ta:TE)(tr:TA):TA:=fun σ H Q=>ta σ H fun x H1=>tr σ H1 fun xs H2=>Q (x::xs) H2
section
variable {X:Cx}{e:Expr}{es:List Expr}{te:TE}{t:TA}{pos:Pos}
theorem UD:PA X [] tNil:=fun _ _ _ _ H Q I h=>Calls.spliced_nil ⟨[],H,I,.nil,h⟩
theorem YO (ha:PE X e te)(hr:PA X es t)(hs:starEach (e::es) X.env=(false,eval e X.env)::starEach es X.env:=by rfl):PA X (e::es) (jgi te t):=by
  intro pos aa s σ H Q I h
  rw[hs]
  show wpAny _ _ (spliced ((false,eval e X.env)::backTo pos (starEach es X.env))) _ _ s
  refine Calls.spliced_cons (thn (ha aa s σ H _ I h) fun u s1 ae=>?_)
  obtain⟨x,H1,I1,r1,q1⟩:=ae
  exact thn (hr pos aa s1 σ H1 _ I1 q1) fun us s2 ⟨xs,H2,I2,r2,q2⟩=>⟨x::xs,H2,I2,.cons r1 r2,q2⟩
def tTup (t:TA):TE:=fun σ H Q=>t σ H fun xs H1=>xs.length<=sizeLine∧∀ p,H1 p=none->Q (.ref p) (upd H1 p (.tup xs))
def tLst (t:TA):TE:=fun σ H Q=>t σ H fun xs H1=>xs.length<=sizeLine∧∀ p,H1 p=none->Q (.ref p) (upd H1 p (.lst xs))
theorem UC {x1}(h:PA X es t):PE X (.Tuple es x1 pos) (tTup t):=by
  intro aa s σ H Q I hq
  refine wpAny_Tuple_spliced (thn (h pos aa s σ H _ I hq) fun us s1 ⟨xs,H1,I1,r,z,q⟩=>⟨by rw[<- r.length];exact z,?_⟩)
  have hf:H1 s1.heap.objs.size=none:=I1.hok.fresh (le_refl _)
  refine⟨.ref s1.heap.objs.size,upd H1 s1.heap.objs.size (.tup xs),I1.laid (t':=s1.toks) (fun b u e=>get?_push_of_some _ e) (le_refl _) ?_,rfl,q _ hf⟩
  exact⟨z,us,r,⟨_,get?_push_size _ rfl,rfl,_,rfl⟩⟩
theorem jhd (h:PA X es t):PE X (.List es pos) (tLst t):=by
  intro aa s σ H Q I hq
  refine wpAny_List_spliced (thn (h pos aa s σ H _ I hq) fun us s1 ⟨xs,H1,I1,r,z,q⟩=>⟨by rw[<- r.length];exact z,?_⟩)
  have hf:H1 s1.heap.objs.size=none:=I1.hok.fresh (le_refl _)
  refine⟨.ref s1.heap.objs.size,upd H1 s1.heap.objs.size (.lst xs),I1.laid (t':=s1.toks) (fun b u e=>get?_push_of_some _ e) (le_refl _) ?_,rfl,q _ hf⟩
  exact⟨z,us,0,r,get?_push_size _ rfl⟩
end
abbrev Sp:=List V->Hp->VK->XK->Prop
abbrev CXT:=List Env->Hp->Shared->XK->Value->Shared->Prop
structure Env0 (P:Program)(w:World)(K:Frag)(mg:Str->Option Value)(base:Heap)(A:Around)(outer:List Env)(s:Shared)(H:Hp):Prop where
  frames:A.frames=some outer
  mod:Mod K mg base
  bs:∀ b o,base.get? b=some o->s.heap.get? b=some o∧H b=none
  bsz:base.objs.size<=s.heap.objs.size
  funs:s.heap.FunFrames base outer
  frf:∀ b∈frs outer,H b=none
  hok:HOk P w H s.heap
  bare:AllBare s.gens
def CE (outer:List Env)(P:Program)(w:World)(H:Hp)(s:Shared)(Q:VK)(u:Value)(s':Shared):Prop :=
  ∃ v H',s'.os=s.os∧AllBare s'.gens∧Un (frs outer) [] H H' s.heap s'.heap∧HOk P w H' s'.heap∧yi v u∧Q v H'
def CR (CX:CXT)(outer:List Env)(P:Program)(w:World)(H:Hp)(s:Shared)(Q:VK)(E:XK)(r:Result)(s':Shared):Prop :=
  match r with
  | .ok (.ret u)=>CE outer P w H s Q u s'
  | .ok _=>False
  | .error e=>CX outer H s E e s'
structure FnOk (P:Program)(w:World)(K:Frag)(mg:Str->Option Value)(base:Heap)(CX:CXT)(k:Nat)(f:Addr)(fd:FuncData)(ps:List Str)(sp:Sp):Prop where
  len:∀ vs H Q E,sp vs H Q E->vs.length=ps.length
  run:∀(A:Around) (outer:List Env) (s:Shared) (H:Hp) (args:Args) (us:List Value) (vs:List V) (Q:VK) (E:XK),Room k A->Env0 P w K mg base A outer s H->BindsTo s fd args (ps.zip us)->yf vs us->sp vs H Q E ->
    codeAny (model P w) A (.call (.ref f) args) (CR CX outer P w H s Q E) s
theorem FnOk.imp {P:Program}{w:World}{K:Frag}{mg:Str->Option Value}{base:Heap}{CX:CXT}{k:Nat}{f:Addr}{fd:FuncData}{ps:List Str}{sp sp':Sp}(F:FnOk P w K mg base CX k f fd ps sp)
    (h:∀ vs H Q E,sp' vs H Q E->sp vs H Q E):FnOk P w K mg base CX k f fd ps sp' :=
  ⟨fun vs H Q E q=>F.len vs H Q E (h _ _ _ _ q),fun A outer s H args us vs Q E hr he hb hv hs=>F.run A outer s H args us vs Q E hr he hb hv (h _ _ _ _ hs)⟩
theorem Env0.make {P:Program}{w:World}{K:Frag}{mg:Str->Option Value}{base:Heap}{A:Around}{outer:List Env}{s:Shared}{H:Hp}(e:Env0 P w K mg base A outer s H)(C:Addr)(us:List Value)(kw:List (Str×Value)) :
    Env0 P w K mg base (A.under (.builtin "type.__call__" ⟨.ref C::us,kw⟩)) outer s H:=⟨by first | exact e.frames | (simpa[Around.under,Code.envs,Code.isFrame,pushEnvs]using e.frames),e.mod,e.bs,e.bsz,e.funs,e.frf,e.hok,e.bare⟩
section
variable {X:Cx}{aa:List (Addr×Obj)}{σ:St}{H:Hp}{s s':Shared}
theorem Inv.env0 (I:Inv X aa σ H s):Env0 X.prog X.w X.K X.mg X.base X.A X.stack s H :=
  ⟨I.ok.frames,I.ok.mod,I.bs,le_trans I.ok.bsz I.sz,I.stack,I.stkFree,I.hok,I.bare⟩
theorem Inv.after {Q:VK}{u:Value}(I:Inv X aa σ H s)(h:CE X.stack X.prog X.w H s Q u s'):EP X aa σ Q u s':=by
  obtain⟨v,H',os,bare,un,hok,r,q⟩:=h
  obtain⟨hh,g,d,t,iM⟩:=s'
  obtain rfl:iM=s.os:=os
  exact⟨v,H',I.call (h':=hh) (g':=g) (d':=d) (t':=t) (ch:=[]) un hok bare (fun b z=>absurd z (by simp)),r,q⟩
end
def Binds (K:Frag)(fd:FuncData)(ps:List Str)(ds:List Value):Prop :=
  ∀(s:Shared) (us:List Value),K.In s.heap->(us++ds).length=ps.length->BindsTo s fd ⟨us,[]⟩ (ps.zip (us++ds))
theorem Binds.all {K:Frag}{fd:FuncData}{ps:List Str}(h:∀ us:List Value,us.length=ps.length->bindArgs fd ⟨us,[]⟩=pure (ps.zip us)):Binds K fd ps []:=fun s us _ hl=>by
  rw[append_nil]at hl ⊢
  exact .of_eq (h us hl)
def Passes (CX:CXT)(X:Cx)(E:XK):Prop:=∀(aa:List (Addr×Obj)) (σ:St) (H:Hp) (s:Shared) (e:Value) (s':Shared),Inv X aa σ H s->CX X.stack H s E e s'->X.xe e s'
section
variable {f C:Addr}
structure Mk (K:Frag)(C f:Addr):Prop where
  makes:makesIn K C=true
  init:findIn K (.ref C) "__init__" = some (some (.ref f))
  fn:isFn K (.ref f)=true
  kp:keepIn K (.ref C)=true
end
def PK (X:Cx)(aS:List Keyword)(t:TA):Prop :=
  ∀(pos:Pos) (aa:List (Addr×Obj)) (s:Shared) (σ:St) (H:Hp) (Q:List V->Hp->Prop),Inv X aa σ H s->t σ H Q->wpAny (model X.prog X.w) X.A (evalAll ((backToKw pos (keywordEach aS X.env)).map (·.2))) (AP X aa σ Q) X.xe s
section
variable {X:Cx}{fd:FuncData}{ps ks:List Str}{x:Str}{pos fA:Pos}{e:Expr}{aS:List Keyword}{te:TE}{t:TA}{nm:Option Str}
theorem pk_nil:PK X [] tNil:=fun _ _ _ _ H Q I h=>wpAny_evalAll_nil ⟨[],H,I,.nil,h⟩
theorem pk_cons (ha:PE X e te)(hr:PK X aS t):PK X (⟨nm,e,fA⟩::aS) (jgi te t):=by
  intro pos aa s σ H Q I h
  show wpAny _ _ (evalAll ((do let v <- eval e X.env;standAt pos;pure v)::(backToKw pos (keywordEach aS X.env)).map (·.2))) _ _ s
  refine wpAny_evalAll_cons (wpAny_bind (thn (ha aa s σ H _ I h) fun u s1 ⟨x,H1,I1,r1,q1⟩=>wpAny_bind (wpAny_standAt (wpAny_pure ?_))))
  exact thn (hr pos aa s1 σ H1 _ I1 q1) fun us s2 ⟨xs,H2,I2,r2,q2⟩=>⟨x::xs,H2,I2,.cons r1 r2,q2⟩
structure KBinds (K:Frag)(fd:FuncData)(ps ks:List Str)(g:List Value->List Value->List Value)(gV:List V->List V->List V):Prop where
  to:∀(s:Shared) (us ws:List Value),K.In s.heap->(g us ws).length=ps.length->BindsTo s fd ⟨us,ks.zip ws⟩ (ps.zip (g us ws))
  rel:∀{vs:List V}{us:List Value}{zs:List V}{ws:List Value},yf vs us->yf zs ws->yf (gV vs zs) (g us ws)
variable {g:List Value->List Value->List Value}{gV:List V->List V->List V}
end
structure FnScope (N P:List Str)(sc:Scope):Prop where
  kind:sc.kind = .function
  co:sc.isCoroutine=false
  gen:sc.isGenerator=false
  nd:N.Nodup
  pre:N.take P.length=P
  par:∀ x∈P,sc.names.lookup x=some .local∨sc.names.lookup x=some .cell
  nofree:∀ y∈sc.names,y.2≠.free
theorem VX {kindOf:Str->Option NameKind}{x:Str}:∀{cx:List (Str×Value)}{m:Str->Option Value},(∀ v,(x,v)∉cx)->bindL kindOf cx m x=m x
  | [],_,_=>rfl
  | (n,v)::r,m,h=>by
    unfold bindL
    rw[VX fun w hw=>h w (mem_cons_of_mem _ hw)]
    split
    · have:x≠n:=by rintro rfl;exact h v mem_cons_self
      simp[this]
    · rfl
theorem VZ {kindOf:Str->Option NameKind}{x:Str}:∀{cx:List (Str×Value)}{m:Str->Option Value},(∀ v,(x,v)∉cx)->bindC kindOf cx m x=m x
  | [],_,_=>rfl
  | (n,v)::r,m,h=>by
    unfold bindC
    rw[VZ fun w hw=>h w (mem_cons_of_mem _ hw)]
    split
    · rfl
    · have:x≠n:=by rintro rfl;exact h v mem_cons_self
      simp[this]
theorem VY {kindOf:Str->Option NameKind}{x:Str}{v:Value}:∀{P:List Str}{vs:List Value}{i:Nat}{m:Str->Option Value},P.Nodup->P[i]? = some x->vs[i]? = some v->kindOf x=some .local ->
    bindL kindOf (P.zip vs) m x=some v
  | [],_,_,_,_,h,_,_=>by simp at h
  | _::_,[],_,_,_,_,h,_=>by simp at h
  | p::P,w::vs,0,m,nd,h1,h2,hk=>by
    simp at h1 h2;subst h1;subst h2
    show bindL kindOf ((p,w)::P.zip vs) m p=_
    unfold bindL
    rw[VX fun v hv=>(List.nodup_cons.mp nd).1 (of_mem_zip hv).1,if_pos hk]
    simp
  | p::P,w::vs,i+1,m,nd,h1,h2,hk=>by
    show bindL kindOf ((p,w)::P.zip vs) m x=_
    unfold bindL
    exact VY (i:=i) (List.nodup_cons.mp nd).2 (by simpa using h1) (by simpa using h2) hk
theorem Ua {kindOf:Str->Option NameKind}{x:Str}{v:Value}:∀{P:List Str}{vs:List Value}{i:Nat}{m:Str->Option Value},P.Nodup->P[i]? = some x->vs[i]? = some v->kindOf x≠some .local ->
    bindC kindOf (P.zip vs) m x=some v
  | [],_,_,_,_,h,_,_=>by simp at h
  | _::_,[],_,_,_,_,h,_=>by simp at h
  | p::P,w::vs,0,m,nd,h1,h2,hk=>by
    simp at h1 h2;subst h1;subst h2
    show bindC kindOf ((p,w)::P.zip vs) m p=_
    unfold bindC
    rw[VZ fun v hv=>(List.nodup_cons.mp nd).1 (of_mem_zip hv).1,if_neg hk]
    simp
  | p::P,w::vs,i+1,m,nd,h1,h2,hk=>by
    show bindC kindOf ((p,w)::P.zip vs) m x=_
    unfold bindC
    exact Ua (i:=i) (List.nodup_cons.mp nd).2 (by simpa using h1) (by simpa using h2) hk
def start (N:List Str)(vs:List V):St:=vs.map some++replicate (N.length-vs.length) none
def YH (CX:CXT)(P:Program)(w:World)(K:Frag)(mg:Str->Option Value)(base:Heap)(N:List Str)(qual:Str)(scope:Scope)(f:Addr)(cd:Value)(A:Around)(outer:List Env)(s:Shared)(H:Hp)(E:XK):Cx where
  prog:=P
  w:=w
  K:=K
  mg:=mg
  base:=base
  A:=A.deeper (envOfC qual scope s.heap.objs.size f cd)
  N:=N
  s₀:=s
  H₀:=H
  env:=envOfC qual scope s.heap.objs.size f cd
  outer:=outer
  stack:=envOfC qual scope s.heap.objs.size f cd::outer
  ex:=[]
  calm:=true
  fn:=fun _=>true
  pn:=[]
  xe:=fun e s'=>wpAny (model P w) (A.deeper (envOfC qual scope s.heap.objs.size f cd)) («leaving» (envOfC qual scope s.heap.objs.size f cd) e) (fun _ gu=>CX outer H s E e gu) (fun e' gu=>CX outer H s E e' gu) s'
theorem jbO {sc:Scope}{n:Nat}{x:Str}(h:sc.names.lookup x=some .cell):∃ c,(cellsFrom n sc.names []).lookup x=some c:=by
  have q:=PySem.W.cellsFrom_some sc.names n [] (.inl h)
  exact Option.isSome_iff_exists.mp q
theorem jfx {CX:CXT}{P:Program}{w:World}{K:Frag}{mg:Str->Option Value}{base:Heap}{N ps:List Str}{qual:Str}{scope:Scope}{f:Addr}{cd:Value}{A:Around}{outer:List Env}{s s1:Shared}{H:Hp}{E:XK}{us:List Value}{vs:List V}
    (S:FnScope N ps scope) (hd:A.handled=none) (e0:Env0 P w K mg base A outer s H) (hl:vs.length=ps.length) (r:yf vs us)
    (x:InCallC s s.heap.objs.size (bindL (envOfC qual scope s.heap.objs.size f cd).kindOf (ps.zip us) fun _=>none) (cellsFrom (s.heap.objs.size+1) scope.names []) (bindC (envOfC qual scope s.heap.objs.size f cd).kindOf (ps.zip us) fun _=>none) s1) :
    Inv (YH CX P w K mg base N qual scope f cd A outer s H E) [] (start N vs) H s1:=by
  have aX:ps.length<=N.length:=by have:=congrArg List.length S.pre;rw[length_take]at this;omega
  obtain⟨h1,tk,rfl,hk⟩:=x.done
  have gz:∀ b:Addr,b∉(YH CX P w K mg base N qual scope f cd A outer s H E).ex:=fun b z=>absurd (show b∈([]:List Addr)from z) (by simp)
  refine⟨⟨e0.mod,S.kind,rfl,rfl,le_refl _,fun y z c h1 h2=>?_,fun y hy=>?_,fun y c _ h=>?_,fun _=>hd,Around.frames_deeper e0.frames,.inr ⟨rfl,rfl⟩,fun b z=>absurd z (gz b),e0.bs,e0.bsz,fun b _ _=>gz b,fun b z=>absurd z (gz b),e0.funs,e0.frf⟩,
    rfl,e0.bare,Un.kept hk,⟨_,x.toInCall.ns,fun i y v h1 h2 h3=>?_⟩,fun y c h=>⟨_,x.cell y c h⟩,e0.hok.fresh (le_refl _),fun y c h=>?_,fun p hp=>absurd (show p∈([]:List (Addr×Obj))from hp) (by simp),e0.hok.kept hk,?_⟩
  · exact name_of_addr x.apart (PySem.mem_of_lookup h1) (PySem.mem_of_lookup h2)
  · have hy:scope.names.lookup y=some .cell∨scope.names.lookup y=some .free:=hy
    rcases hy with hy | hy
    · exact jbO hy
    · exact absurd rfl (S.nofree _ (PySem.mem_of_lookup hy))
  · exact le_of_lt (x.above y c (PySem.mem_of_lookup h))
  · have hi:i<vs.length:=by
      unfold start at h2
      by_cases hi:i<vs.length
      · exact hi
      · rw[getElem?_append_right (by simpa using hi)]at h2
        rw[getElem?_replicate]at h2
        split at h2 <;> cases h2
    have ha:vs[i]? = some v:=by
      unfold start at h2
      rw[getElem?_append_left (by simpa using hi),getElem?_map]at h2
      cases e:vs[i]? with
      | none=>rw[e]at h2;cases h2
      | some a=>rw[e]at h2;cases h2;rfl
    obtain⟨u,hu,rv⟩:=r.get ha
    have hp:ps[i]? = some y:=by
      rw[<- S.pre,List.getElem?_take_of_lt (by omega)];exact h1
    have ndP:ps.Nodup:=by rw[<- S.pre];exact S.nd.sublist (List.take_sublist _ _)
    refine⟨u,rv,?_⟩
    rcases S.par y (mem_of_getElem? hp)with k | k
    · exact .inl ⟨k,VY ndP hp hu k⟩
    · obtain⟨c,e⟩:=jbO (n:=s.heap.objs.size+1) k
      refine .inr ⟨.inl k,c,e,?_⟩
      have q:=x.cell y c e
      rw[Ua ndP hp hu (by show scope.names.lookup y≠_;rw[k];decide)]at q
      exact q
  · exact e0.hok.fresh (le_of_lt (x.above y c (PySem.mem_of_lookup h)))
  · unfold start
    show _=N.length
    rw[length_append,length_map,length_replicate]
    omega
theorem jhZ {CX:CXT}{P:Program}{w:World}{K:Frag}{mg:Str->Option Value}{base:Heap}{k:Nat}{f:Addr}{name qual:Str}{params:Arguments}{body:List Stmt}{scope:Scope}{dV kV bM pm ay ct oc:Value}{an od:Option Addr}
    {dg:Array (Option Value)}{N ps:List Str}{sp:Sp}(lk:K.lookup f=some ⟨oc,od,.func (fnOf name qual params body scope dV kV bM pm an ay ct),dg⟩) (cO:codeIn K ay qual=true) (S:FnScope N ps scope)
    (len:∀ vs H Q E,sp vs H Q E->vs.length=ps.length)
    (bA:∀(A:Around) (outer:List Env) (s:Shared) (H:Hp) (vs:List V) (Q:VK) (E:XK),Room k (A.deeper (envOfC qual scope s.heap.objs.size f ay))->sp vs H Q E ->
      ∃ t,PSs (YH CX P w K mg base N qual scope f ay A outer s H E) body t∧t { nx:=fun _ H'=>Q .non H',rt:=Q } (start N vs) H) :
    FnOk P w K mg base CX (k+1) f (fnOf name qual params body scope dV kV bM pm an ay ct) ps sp:=by
  refine⟨len,fun A outer s H args us vs Q E hr e0 hb r c5=>?_⟩
  have hl:=len _ _ _ _ c5
  have KX:K.In s.heap:=e0.mod.kin.keeps fun b o e=>(e0.bs b o e).1
  have lim:s.heap.NoLimit:=e0.mod.nolimit.keeps fun b o e=>(e0.bs b o e).1
  have hkind:∀ y∈ps.zip us,scope.names.lookup y.1=some .local∨(scope.names.lookup y.1=some .cell∧((cellsFrom (s.heap.objs.size+1) scope.names []).lookup y.1).isSome=true):=fun⟨n,v⟩ hy=>by
    rcases S.par n (of_mem_zip hy).1 with q | q
    · exact .inl q
    · exact .inr ⟨q,PySem.W.cellsFrom_some _ _ _ (.inl q)⟩
  refine codeAny_call_function hr.depth (KX _ _ lk) rfl S.co S.gen rfl (PySem.W.codeRec_of KX cO) (hb _ _ _ _ ?_)
  refine wpAny_newFunctionEnv_cells S.kind hkind fun env he s1 x=>?_
  subst he
  refine⟨lim.keeps x.toInCall.keep,codeAny_func ?_⟩
  obtain⟨t,ht,hq⟩:=bA A outer s H vs Q E (hr.deeper _) c5
  have I:Inv (YH CX P w K mg base N qual scope f ay A outer s H E) [] (start N vs) H s1:=jfx S hr.hd e0 hl r x
  refine wpAny_mono (ht [] s1 (start N vs) H _ I hq) (fun fl s' hs=>?_) fun e s' hs=>hs
  have fin:∀{σ':St}{H':Hp}{v:V}{u:Value},Inv (YH CX P w K mg base N qual scope f ay A outer s H E) [] σ' H' s'->yi v u->Q v H'->CE outer P w H s Q u s' :=
    fun{σ' H' v u} J rv q=>⟨v,H',J.os,J.bare,J.base,J.hok,rv,q⟩
  cases fl with
  | ret u =>
    obtain⟨v,σ',H',J,rv,q⟩:=hs
    exact fin J rv q
  | next =>
    obtain⟨σ',H',J,q⟩:=hs
    exact fin (v:=V.non) (u:=Value.none) J rfl q
  | brk =>
    obtain⟨_,_,_,q⟩:=hs
    exact False.elim q
  | cont =>
    obtain⟨_,_,_,q⟩:=hs
    exact False.elim q
section
variable {X:Cx}{x:Str}{p pos:Pos}{e:Expr}{es:List Expr}{t:TA}{id T:String}{r:List V->Hp->VK->Prop}
def tCB (r:List V->Hp->VK->Prop)(t:TA):TE:=fun σ H Q=>t σ H fun vs H1=>r vs H1 Q
theorem Xr (hc:yM X (.builtin id) r)(hg:Gl X x)(hm:X.mg x=none)(hv:bootBuiltins x=some (.builtin id))(ha:PA X (e::es) t)(hn:x≠"__name__":=by decide)(dE:(x==("__debug__":Str))=false:=by decide)
    (he:starEach (e::es) X.env=(false,eval e X.env)::starEach es X.env:=by rfl) (aX:(backTo pos (starEach es X.env)).any (·.1)=false:=by rfl):PE X (.Call (.Name x p) (e::es) [] pos) (tCB r t):=by
  intro aa s σ H Q I h
  refine wpAny_Call_Name_kw (JY I hg hm hv ?_ hn dE)
  exact PyProof.Rows.callWith_builtin1 (thn (ha pos aa s σ H _ I h) fun us s1 ⟨vs,H1,I1,r1,q1⟩=>hc aa s1 σ H1 vs us Q I1 r1 q1) he aX
theorem VA (hc:yM X (.type T) r)(hg:Gl X x)(hm:X.mg x=none)(hv:bootBuiltins x=some (.type T))(ha:PA X (e::es) t)(hn:x≠"__name__":=by decide)(dE:(x==("__debug__":Str))=false:=by decide)
    (he:starEach (e::es) X.env=(false,eval e X.env)::starEach es X.env:=by rfl) (aX:(backTo pos (starEach es X.env)).any (·.1)=false:=by rfl):PE X (.Call (.Name x p) (e::es) [] pos) (tCB r t):=by
  intro aa s σ H Q I h
  refine wpAny_Call_Name_kw (JY I hg hm hv ?_ hn dE)
  exact PyProof.Rows.callWith_type1 (thn (ha pos aa s σ H _ I h) fun us s1 ⟨vs,H1,I1,r1,q1⟩=>hc aa s1 σ H1 vs us Q I1 r1 q1) he aX
end
end L2
namespace HT
open PySem PyProof.Rows
section
open PySem.SeqAt
open PySem.AutoSeq1 (wpAny_loadPart')
open PySem.MeetsSeq PySem.MeetsSeq2 PySem.MeetsSeq3
end
section
variable {prog:Program}{w:World}{A:Around}{E:Value->Shared->Prop}{s:Shared}
theorem cat_tup {t b:Addr}{vs ws:List Value}{Q:Value->Shared->Prop}(ht:IsTup s.heap t vs.toArray)(hb:IsTup s.heap b ws.toArray)(hv:vs≠[])
    (h1:ws=[]->Q (.ref t) s) (h2:ws≠[]->Q (.ref s.heap.objs.size) { s with heap:=s.heap.push { cls:=.type "tuple",data:=.seq (vs++ws).toArray } })
    (hsz:vs.length+ws.length<=sizeLine):wpAny (model prog w) A (binaryOp .Add (.ref t) (.ref b)) Q E s:=by
  obtain⟨⟨cls,dd,data,sl⟩,ho,hc,n,hd⟩:=id ht
  obtain⟨⟨cls2,dd2,data2,sl2⟩,eU,hc2,n2,iw⟩:=id hb
  simp only at hc hd hc2 iw
  subst hc hd hc2 iw
  have e:vs.toArray++ws.toArray=(vs++ws).toArray:=by simp
  by_cases hw:ws=[]
  · exact concat_meets ⟨_,ho,rfl⟩ ⟨_,eU,rfl⟩ noFill_tuple_add seq_tuple_add PySem.F.slot_tuple_add PySem.F.entry_tuple_add (PySem.F.args_tuple_add_2 _ _)
      (tuple_addW1 t b vs.toArray ws.toArray n n2 dd dd2 sl sl2 (by simpa using hv) (by simp[hw])) ⟨ho,eU,h1 hw⟩
  · refine concat_meets ⟨_,ho,rfl⟩ ⟨_,eU,rfl⟩ noFill_tuple_add seq_tuple_add PySem.F.slot_tuple_add PySem.F.entry_tuple_add (PySem.F.args_tuple_add_2 _ _)
      (tuple_addW2 t b vs.toArray ws.toArray n n2 dd dd2 sl sl2 (by simpa using hv) (by simpa using hw) (by rw[size_toArray,size_toArray];exact hsz)) ⟨ho,eU,?_⟩
    rw[e]
    exact h2 hw
def sIx (n d:Nat):Option Int->Nat
  | none=>d
  | some v=>if v<0 then(v+(n:Int)).toNat else min v.toNat n
theorem sIx_le (n d:Nat)(hd:d<=n)(o:Option Int):sIx n d o<=n:=by
  cases o with
  | none=>exact hd
  | some v =>
    show(if v<0 then(v+(n:Int)).toNat else min v.toNat n)<=n
    by_cases hv:v<0
    · rw[if_pos hv];omega
    · rw[if_neg hv];exact Nat.min_le_right _ _
theorem jeD (v:Int)(n d:Nat):(if v<0 then max (v+(n:Int)) 0 else min v (n:Int))=((sIx n d (some v):Nat):Int):=by
  show(if v<0 then max (v+(n:Int)) 0 else min v (n:Int))=(((if v<0 then(v+(n:Int)).toNat else min v.toNat n):Nat):Int)
  by_cases hv:v<0
  · simp only[if_pos hv];omega
  · simp only[if_neg hv];omega
theorem jdh (lo hi:Option Int)(n:Nat):Builtin.Slice.sliceAdjust lo hi 1 (n:Int)=(((sIx n 0 lo:Nat):Int),((sIx n n hi:Nat):Int)):=by
  have h1:¬((1:Int)<0):=by omega
  unfold Builtin.Slice.sliceAdjust
  simp only[h1,if_false]
  refine Prod.ext ?_ ?_
  · cases lo with
    | none=>rfl
    | some v=>exact jeD v n 0
  · cases hi with
    | none=>rfl
    | some v=>exact jeD v n n
theorem jcw (i j:Nat):Builtin.Slice.slicePlaces (i:Int) (j:Int) 1=j-i:=by
  unfold Builtin.Slice.slicePlaces
  have h1:(1:Int) > 0:=by omega
  simp only[h1,if_true,Int.ediv_one]
  split <;> omega
theorem YY {v:Value}{o:Option Int}{Q:Option Int->Shared->Prop}(p:IsPart v o)(h:Q o s):wpAny (model prog w) A (Builtin.Slice.slicePartIndex v) Q E s:=by
  cases p with
  | none=>exact slicePart_none h
  | int i t=>exact slicePart_int h
theorem vc {sl:Addr}{vl vu:Value}{lo hi:Option Int}{n:Nat}{Q:Int×Int×Nat->Shared->Prop}(hs:s.heap.IsSliceOf sl vl vu .none)(pl:IsPart vl lo)(pu:IsPart vu hi)
    (h:Q (((sIx n 0 lo:Nat):Int),1,sIx n n hi-sIx n 0 lo) s):wpAny (model prog w) A (Builtin.Slice.sliceApplied (.ref sl) (pure (n:Int))) Q E s:=by
  obtain⟨os,fF,ix,gS⟩:=id hs
  unfold Builtin.Slice.sliceApplied Builtin.Slice.sliceFields
  refine wpAny_bind (wpAny_bind (wpAny_field fF gS (x:=vl) rfl (wpAny_bind (wpAny_field fF gS (x:=vu) rfl (wpAny_bind (wpAny_field fF gS (x:=.none) rfl (wpAny_pure ?_)))))))
  refine wpAny_bind (slicePart_none ?_)
  show wpAny _ _ (if((1:Int)==0)=true then _ else _) _ _ s
  rw[if_neg (by decide)]
  refine wpAny_bind (YY pl (wpAny_bind (YY pu (wpAny_bind (wpAny_pure ?_)))))
  show wpAny _ _ (match Builtin.Slice.sliceAdjust lo hi 1 (n:Int)with | (lo,hi)=>pure (lo,(1:Int),Builtin.Slice.slicePlaces lo hi 1)) _ _ s
  rw[jdh lo hi n]
  show wpAny _ _ (pure (((sIx n 0 lo:Nat):Int),(1:Int),Builtin.Slice.slicePlaces ((sIx n 0 lo:Nat):Int) ((sIx n n hi:Nat):Int) 1)) _ _ s
  rw[jcw]
  exact wpAny_pure h
theorem jgY (xs:Array Value)(i k:Nat):((List.range k).filterMap fun(m:Nat)=>xs[((i:Int)+(m:Int)*1).toNat]?).toArray=((xs.toList.drop i).take k).toArray:=by
  have e:(fun(m:Nat)=>xs[((i:Int)+(m:Int)*1).toNat]?)=fun m=>xs[i+m]?:=by
    funext m
    have:((i:Int)+(m:Int)*1).toNat=i+m:=by omega
    rw[this]
  rw[e]
  have:=pick_run xs i k
  rw[List.filterMap_map]at this
  have e2:((fun x=>xs[x]?) ∘ fun x=>i+x)=fun m=>xs[i+m]?:=rfl
  rw[e2]at this
  rw[this]
theorem getItem_tuple_cut {t sl:Addr}{items:Array Value}{vl vu:Value}{lo hi:Option Int}{Q:Value->Shared->Prop}(ht:IsTup s.heap t items)(hs:s.heap.IsSliceOf sl vl vu .none)(pl:IsPart vl lo)(pu:IsPart vu hi)
    (hw:¬(sIx items.size 0 lo=0∧sIx items.size items.size hi=items.size))
    (h:Q (.ref s.heap.objs.size) { s with heap:=s.heap.push { cls:=.type "tuple",data:=.seq ((items.toList.drop (sIx items.size 0 lo)).take (sIx items.size items.size hi-sIx items.size 0 lo)).toArray } })
    (hsz:items.size<=sizeLine):wpAny (model prog w) A (getItem (.ref t) (.ref sl)) Q E s:=by
  have cM:sizeOk (.seq ((items.toList.drop (sIx items.size 0 lo)).take (sIx items.size items.size hi-sIx items.size 0 lo)).toArray):=by
    show((items.toList.drop (sIx items.size 0 lo)).take (sIx items.size items.size hi-sIx items.size 0 lo)).toArray.size<=sizeLine
    rw[size_toArray,length_take,length_drop,length_toList]
    omega
  have hj:sIx items.size items.size hi<=items.size:=sIx_le _ _ (le_refl _) hi
  obtain⟨os,fF,ix,gS⟩:=id hs
  have i8:s.TypeIs (.ref sl) "slice":=⟨os,fF,ix⟩
  unfold getItem
  try with_reducible refine wpAny_holding ?_
  first | refine wpAny_bind (wpAny_pure ?_) | skip
  refine wpAny_bind (wpAny_sequenceKey ht.typeIs (by decide) ?_)
  refine wpAny_bind (wpAny_callSpecial?_slot (name:=Str.ofString "__getitem__") ht.typeIs PyProof.Rows.slot_tuple_getitem
    (wpAny_call_entry PyProof.Rows.slot_tuple_getitem ht.typeIs entry_tuple_getitem ?_ (args_tuple_getitem _ _)))
  show wpAny _ _ (Builtin.Tuple.tupleItemsOf (.ref t) >>= _) _ _ s
  refine wpAny_bind (tupleItemsOf_ ht ?_)
  refine wpAny_bind (wpAny_typeOf i8 ?_)
  rw[if_pos (by decide)]
  refine wpAny_bind (vc hs pl pu ?_)
  have eV:¬((((sIx items.size 0 lo:Nat):Int)==0 && (1:Int)==1 && (sIx items.size items.size hi-sIx items.size 0 lo)==items.size)=true):=by
    intro q
    rw[and_eq_true,and_eq_true]at q
    have q1:((sIx items.size 0 lo:Nat):Int)=0:=eq_of_beq q.1.1
    have q2:sIx items.size items.size hi-sIx items.size 0 lo=items.size:=eq_of_beq q.2
    exact hw ⟨by omega,by omega⟩
  show wpAny _ _ (if(((sIx items.size 0 lo:Nat):Int)==0 && (1:Int)==1 && (sIx items.size items.size hi-sIx items.size 0 lo)==items.size)=true then _ else _) _ _ s
  rw[if_neg eV,jgY]
  first
    | exact wpAny_bind (m:=Builtin.Tuple.tupleExact _) (wpAny_newObj_type (wpAny_pure ⟨_,rfl,wpAny_pure h⟩) cM)
    | exact wpAny_bind (m:=Builtin.Tuple.tupleExact _) (wpAny_newObj_type (wpAny_bind (wpAny_pure (wpAny_pure ⟨_,rfl,wpAny_pure h⟩))) cM)
    | exact wpAny_bind (wpAny_bind (m:=Builtin.Tuple.tupleExact _) (wpAny_newObj_type (wpAny_pure (wpAny_pure ⟨_,rfl,wpAny_pure h⟩)) cM))
    | exact wpAny_bind (wpAny_bind (m:=Builtin.Tuple.tupleExact _) (wpAny_newObj_type (wpAny_pure ⟨_,rfl,wpAny_pure h⟩) cM))
end
end HT
namespace L2
open PySem PySem.Spec PyProof.Rows
abbrev TO:=St->Hp->(Option Int->Hp->Prop)->Prop
def PO (X:Cx)(e:Option Expr)(t:TO):Prop :=
  ∀(aa:List (Addr×Obj)) (s:Shared) (σ:St) (H:Hp) (Q:Option Int->Hp->Prop),Inv X aa σ H s->t σ H Q ->
    wpAny (model X.prog X.w) X.A (evalPart e X.env) (fun u s'=>∃ o H',Inv X aa σ H' s'∧IsPart u o∧Q o H') X.xe s
def jiS:TO:=fun _ H Q=>Q none H
def tPart (t:TE):TO:=fun σ H Q=>t σ H fun x H1=>∃ i,x = .int i∧Q (some i) H1
theorem jcK {ns:List Int}:∀{us:List Value},yf (ns.map V.int) us->IntsAre us ns:=by
  induction ns with
  | nil=>intro us r;rw[map_nil]at r;cases r;exact .nil
  | cons n ns ih =>
    intro us r
    rw[map_cons]at r
    cases r with
    | cons r1 r2 =>
      obtain⟨t,e⟩:=r1
      subst e
      exact .cons n t (ih r2)
section
variable {X:Cx}{e:Expr}{te:TE}{lo hi:Option Expr}{tl th:TO}{pos p2:Pos}
theorem po_none:PO X none jiS:=by
  intro aa s σ H Q I h
  rw[evalPart_none]
  exact wpAny_pure ⟨none,H,I,.none,h⟩
theorem po_some (h:PE X e te):PO X (some e) (tPart te):=by
  intro aa s σ H Q I hw
  rw[evalPart_some]
  refine thn (h aa s σ H _ I hw) fun u s1 ae=>?_
  obtain⟨x,H1,I1,r1,q1⟩:=ae
  obtain⟨i,rfl,q⟩:=q1
  obtain⟨t,rfl⟩:=r1
  exact⟨some i,H1,I1,.int i t,q⟩
def SlR (X:Cx)(r:V->Option Int->Option Int->Hp->VK->Prop):Prop :=
  ∀(aa:List (Addr×Obj)) (s:Shared) (σ:St) (H:Hp) (x:V) (v vl vu:Value) (lo hi:Option Int) (sl:Addr) (Q:VK),Inv X aa σ H s->yi x v->s.heap.IsSliceOf sl vl vu .none->IsPart vl lo->IsPart vu hi->r x lo hi H Q ->
    ∃ T id,typeLookup (.type T) "__getitem__" = pure (some (.builtin id))∧s.TypeIs v T∧wpAny (model X.prog X.w) X.A (getItem v (.ref sl)) (EP X aa σ Q) X.xe s
theorem SlR.or {r r':V->Option Int->Option Int->Hp->VK->Prop}(h:SlR X r)(h':SlR X r'):SlR X (fun x lo hi H Q=>r x lo hi H Q∨r' x lo hi H Q):=by
  intro aa s σ H x v vl vu lo hi sl Q I rx hs pl pu q
  rcases q with q | q
  · exact h aa s σ H x v vl vu lo hi sl Q I rx hs pl pu q
  · exact h' aa s σ H x v vl vu lo hi sl Q I rx hs pl pu q
def tSl (r:V->Option Int->Option Int->Hp->VK->Prop)(te:TE)(tl th:TO):TE:=fun σ H Q=>te σ H fun x H1=>tl σ H1 fun l H2=>th σ H2 fun u H3=>r x l u H3 Q
theorem jhc {r:V->Option Int->Option Int->Hp->VK->Prop}(hr:SlR X r)(he:PE X e te)(hl:PO X lo tl)(hu:PO X hi th):PE X (.Subscript e (.Slice lo hi none p2) pos) (tSl r te tl th):=by
  intro aa s σ H Q I h
  refine Subscript_ (thn (he aa s σ H _ I h) fun v s1 ae=>?_)
  obtain⟨x,H1,I1,r1,q1⟩:=ae
  refine wpAny_Slice (thn (hl aa s1 σ H1 _ I1 q1) fun vl s2 ⟨l,H2,I2,pl,q2⟩=>thn (hu aa s2 σ H2 _ I2 q2) fun vu s3 ae=>?_)
  obtain⟨u,H3,I3,pu,q3⟩:=ae
  rw[evalPart_none]
  refine wpAny_pure ?_
  have I4:Inv X aa σ H3 { s3 with heap:=s3.heap.push { cls:=.type "slice",data:=.fields #[vl,vu,.none] } }:=I3.kept (t':=s3.toks) fun b ob q=>get?_push_of_some _ q
  obtain⟨T,id,hT,ht,hg⟩:=hr aa { s3 with heap:=s3.heap.push { cls:=.type "slice",data:=.fields #[vl,vu,.none] } } σ H3 x v vl vu l u s3.heap.objs.size Q I4 r1 (Heap.IsSliceOf.new ..) pl pu q3
  show wpAny (model X.prog X.w) X.A (subscriptTail e (.Slice lo hi none p2) v (.ref s3.heap.objs.size)) (EP X aa σ Q) X.xe { s3 with heap:=s3.heap.push { cls:=.type "slice",data:=.fields #[vl,vu,.none] } }
  exact tail_any (ops:=[.ref s3.heap.objs.size,v]) ht hT hg (by with_unfolding_all rfl)
def jbG (xs:List V)(lo hi:Option Int):List V:=(xs.drop (HT.sIx xs.length 0 lo)).take (HT.sIx xs.length xs.length hi-HT.sIx xs.length 0 lo)
theorem Yx (xs:List V)(lo hi:Option Int):(jbG xs lo hi).length<=xs.length:=by
  unfold jbG
  rw[length_take,length_drop]
  omega
def rSlT (K:Frag):V->Option Int->Option Int->Hp->VK->Prop:=fun x lo hi H Q=>∃ a xs,x = .ref a∧SqT K H a xs ∧
  ¬(HT.sIx xs.length 0 lo=0∧HT.sIx xs.length xs.length hi=xs.length)∧∀ p,H p=none->Q (.ref p) (upd H p (.tup (jbG xs lo hi)))
theorem sl_tup:SlR X (rSlT X.K):=by
  intro aa s σ H x v vl vu lo hi sl Q I rx hs pl pu h
  obtain⟨a,xs,rfl,hx,hw,q⟩:=h
  cases rx
  obtain⟨its,r,ht,hz⟩:=I.tuple hx
  have aq:its.toArray.size=xs.length:=by rw[size_toArray];exact r.length.symm
  refine⟨"tuple",_,PyProof.Rows.slot_tuple_getitem.lookup,ht.typeIs,?_⟩
  refine HT.getItem_tuple_cut ht hs pl pu (by rw[aq];exact hw) ?_ (by rw[aq];exact hz)
  rw[aq]
  refine⟨.ref s.heap.objs.size,_,I.laid (t':=s.toks) (o:=.tup (jbG xs lo hi)) (fun b ob q=>get?_push_of_some _ q) (le_refl _) ?_,rfl,q _ (I.hok.fresh (le_refl _))⟩
  exact⟨le_trans (Yx xs lo hi) hz,_,(r.drop (HT.sIx xs.length 0 lo)).take (HT.sIx xs.length xs.length hi-HT.sIx xs.length 0 lo),IsTup.new _ _⟩
def rCatT (K:Frag):R2:=fun x y H Q=>∃ a b xs ys,x = .ref a∧y = .ref b∧SqT K H a xs∧SqT K H b ys∧xs≠[]∧xs.length+ys.length<=sizeLine ∧
  (ys=[]->Q (.ref a) H)∧(ys≠[]->∀ p,H p=none->Q (.ref p) (upd H p (.tup (xs++ys))))
theorem yf.nil_iff {xs:List V}{us:List Value}(r:yf xs us):us=[]↔xs=[]:=by
  cases r with
  | nil=>simp
  | cons _ _=>simp
theorem op_catT:OpR X (binaryOp .Add) (rCatT X.K):=by
  intro aa s σ H x y v u Q I rx ry h
  obtain⟨a,b,xs,ys,rfl,rfl,ha,hb,hx,hz,q1,q2⟩:=h
  cases rx
  cases ry
  obtain⟨its,r1,p1,_⟩:=I.tuple ha
  obtain⟨dw,r2,p2,_⟩:=I.tuple hb
  refine HT.cat_tup p1 p2 (fun z=>hx (r1.nil_iff.mp z)) (fun z=>⟨.ref a,H,I,rfl,q1 (r2.nil_iff.mp z)⟩) (fun z=>?_) (by rw[<- r1.length,<- r2.length];exact hz)
  refine⟨.ref s.heap.objs.size,_,I.laid (t':=s.toks) (o:=.tup (xs++ys)) (fun b ob q=>get?_push_of_some _ q) (le_refl _) ?_,rfl,q2 (fun w=>z (r2.nil_iff.mpr w)) _ (I.hok.fresh (le_refl _))⟩
  exact⟨by rw[length_append];exact hz,_,r1.append r2,IsTup.new _ _⟩
end
def ixN (n:Nat)(i:Int):Option Nat:=if 0<=i then(if i<n then some i.toNat else none)else if -(n:Int)<=i then some (i+n).toNat else none
def atI {α:Type}(xs:List α)(i:Int):Option α:=(ixN xs.length i).bind fun j=>xs[j]?
theorem jeo {n:Nat}{i:Int}{j:Nat}(h:ixN n i=some j):seqIndex? i n=some j∧j<n∧-(n:Int)<=i∧i<n:=by
  unfold ixN at h
  by_cases h0:0<=i
  · rw[if_pos h0]at h
    by_cases h1:i<n
    · rw[if_pos h1]at h
      have e:i.toNat=j:=Option.some.inj h
      exact⟨by rw[seqIndex_of h0 h1,e],by omega,by omega,h1⟩
    · rw[if_neg h1]at h;cases h
  · rw[if_neg h0]at h
    by_cases h1:-(n:Int)<=i
    · rw[if_pos h1]at h
      have e:(i+n).toNat=j:=Option.some.inj h
      exact⟨by rw[seqIndex_neg (by omega) h1,e],by omega,h1,by omega⟩
    · rw[if_neg h1]at h;cases h
theorem jeJ {α:Type}{xs:List α}{i:Int}{v:α}(h:atI xs i=some v):∃ j,seqIndex? i xs.length=some j∧xs[j]? = some v∧j<xs.length∧-(xs.length:Int)<=i∧i<xs.length:=by
  unfold atI at h
  cases e:ixN xs.length i with
  | none=>rw[e]at h;cases h
  | some j =>
    rw[e]at h
    obtain⟨h1,h2,h3,h4⟩:=jeo e
    exact⟨j,h1,h,h2,h3,h4⟩
def jeN (b:Expr):Prop:=∀ o i,subscripted b false o i=operate [o,i] (getItem o i)
def IxR (X:Cx)(r:R2):Prop :=
  ∀(value slice:Expr) (aa:List (Addr×Obj)) (s:Shared) (σ:St) (H:Hp) (x y:V) (v u:Value) (Q:VK),Inv X aa σ H s->yi x v->yi y u->r x y H Q ->
    subscripted slice false v u=operate [v,u] (getItem v u)->wpAny (model X.prog X.w) X.A (subscriptTail value slice v u) (EP X aa σ Q) X.xe s
def MtR (X:Cx)(id:String)(r:V->List V->Hp->VK->Prop):Prop :=
  ∀(aa:List (Addr×Obj)) (s:Shared) (σ:St) (H:Hp) (x:V) (xs:List V) (v:Value) (us:List Value) (Q:VK),Inv X aa σ H s->yi x v->yf xs us->r x xs H Q ->
    wpAny (model X.prog X.w) X.A (call (.builtin id) (v::us)) (EP X aa σ Q) X.xe s
section
variable {X:Cx}{a b:Expr}{ta tb:TE}{pos:Pos}
theorem IxR.or {r r':R2}(h:IxR X r)(h':IxR X r'):IxR X (fun x y H Q=>r x y H Q∨r' x y H Q):=by
  intro value slice aa s σ H x y v u Q I rx ry q hs
  rcases q with q | q
  · exact h value slice aa s σ H x y v u Q I rx ry q hs
  · exact h' value slice aa s σ H x y v u Q I rx ry q hs
theorem pe_ix {r:R2}(hr:IxR X r)(ha:PE X a ta)(hb:PE X b tb)(hs:jeN b):PE X (.Subscript a b pos) (tOp r ta tb):=by
  intro aa s σ H Q I h
  exact Subscript_ (binT ha hb I h fun v u s2 x y H2 I2 rx ry q=>hr a b aa s2 σ H2 x y v u Q I2 rx ry q (hs _ _))
def rIxL (K:Frag):R2:=fun x y H Q=>∃ p xs i v,x = .ref p∧y = .int i∧SqL K H p xs∧atI xs i=some v∧Q v H
def rIxT (K:Frag):R2:=fun x y H Q=>∃ p xs i v,x = .ref p∧y = .int i∧SqT K H p xs∧atI xs i=some v∧Q v H
theorem ix_list:IxR X (rIxL X.K):=by
  intro value slice aa s σ H x y v u Q I rx ry h hs
  obtain⟨p,xs,i,z,rfl,rfl,hq,he,q⟩:=h
  cases rx
  obtain⟨t,rfl⟩:=ry
  obtain⟨its,r,pl,hz⟩:=I.list hq
  obtain⟨j,h1,h2,h3,h4,h5⟩:=jeJ he
  obtain⟨w,ew,fj⟩:=r.get h2
  have hl:=r.length
  have hn:=Xy
  have fin:EP X aa σ Q w s:=⟨z,H,I,fj,q⟩
  by_cases h0:0<=i
  · have hj:i.toNat=j:=by
      rw[seqIndex_of h0 h5]at h1
      exact Option.some.inj h1
    exact item_listR pl.isList h0 (by omega) (by rw[hj];simpa using ew) fin hs
  · have hj:(i+(its.toArray.size:Int)).toNat=j:=by
      rw[seqIndex_neg (by omega) h4]at h1
      rw[size_toArray,<- hl]
      exact Option.some.inj h1
    exact subscriptTail_builtinR (x:=w) pl.isList.typeIs slot_list_getitem.lookup
      (wpAny_getItem_list_neg (Q:=fun r s'=>r=w∧EP X aa σ Q r s') pl.isList (by omega) (by rw[size_toArray] <;> omega) (by omega) (by rw[hj];simpa using ew) ⟨rfl,fin⟩) hs
theorem ix_tup:IxR X (rIxT X.K):=by
  intro value slice aa s σ H x y v u Q I rx ry h hs
  obtain⟨p,xs,i,z,rfl,rfl,hq,he,q⟩:=h
  cases rx
  obtain⟨t,rfl⟩:=ry
  obtain⟨its,r,pl,hz⟩:=I.tuple hq
  obtain⟨j,h1,h2,h3,h4,h5⟩:=jeJ he
  obtain⟨w,ew,fj⟩:=r.get h2
  have hl:=r.length
  have hn:=Xy
  have fin:EP X aa σ Q w s:=⟨z,H,I,fj,q⟩
  exact subscriptTail_builtinR (x:=w) pl.typeIs slot_tuple_getitem.lookup
    (getItem_tuple (j:=j) (Q:=fun r s'=>r=w∧EP X aa σ Q r s') pl (by omega) (by omega) (by rw[size_toArray,<- hl];exact h1) (by simpa using ew) ⟨rfl,fin⟩) hs
theorem jcD (its:List Value)(n j:Nat)(u:Value):Obj.mapSeq (·.setIfInBounds j u) { cls:=.type "list",data:=.seq its.toArray n }={ cls:=.type "list",data:=.seq (its.set j u).toArray n }:=by
  simp[Obj.mapSeq]
theorem Inv.lst {aa:List (Addr×Obj)}{σ:St}{H:Hp}{s:Shared}{p:Addr}{xs:List V}(I:Inv X aa σ H s)(h:H p=some (.lst xs)) :
    ∃(its:List Value) (n:Nat),yf xs its∧s.heap.get? p=some { cls:=.type "list",data:=.seq its.toArray n }∧xs.length<=sizeLine:=by
  obtain⟨z,its,n,r,e⟩:=I.hok p _ h
  exact⟨its,n,r,e,z⟩
theorem Inv.lstUpd {aa:List (Addr×Obj)}{σ:St}{H:Hp}{s:Shared}{p:Addr}{xs ys:List V}{its its':List Value}{n n':Nat}{f:Obj->Obj}(I:Inv X aa σ H s)(h:H p=some (.lst xs))
    (ho:s.heap.get? p=some { cls:=.type "list",data:=.seq its.toArray n }) (hf:f { cls:=.type "list",data:=.seq its.toArray n }={ cls:=.type "list",data:=.seq its'.toArray n' }) (r:yf ys its') (hz:ys.length<=sizeLine) (t:Nat) :
    Inv X aa σ (upd H p (.lst ys)) { s with heap:=s.heap.update p f,toks:=t }:=by
  have e:(s.heap.update p f).get? p=some { cls:=.type "list",data:=.seq its'.toArray n' }:=by
    rw[get?_update_self f ho (by rw[hf] <;> rfl),hf]
  refine I.write (x:=p) (e:=p) (by rw[h];trivial) (.inl rfl) (fun b u hb q=>(get?_update_other _ _ (Ne.symm hb)).trans q) ⟨_,e⟩ ?_
  exact⟨hz,its',n',r,e⟩
def rSetL:V->V->V->Hp->(Hp->Prop)->Prop:=fun o i v H Q=>∃ p xs k j,o = .ref p∧i = .int k∧H p=some (.lst xs)∧ixN xs.length k=some j∧Q (upd H p (.lst (xs.set j v)))
theorem jgs:PSet X rSetL:=by
  intro aa s σ H o i v ov iv u Q I ro ri rv h
  obtain⟨p,xs,k,j,rfl,rfl,hp,hj,q⟩:=h
  cases ro
  obtain⟨t,rfl⟩:=ri
  obtain⟨its,n,r,ho,hz⟩:=I.lst hp
  obtain⟨h1,h2,h3,h4⟩:=jeo hj
  have hl:=r.length
  have hn:=Xy
  have I':Inv X aa σ (upd H p (.lst (xs.set j v))) { s with heap:=s.heap.update p (Obj.mapSeq (·.setIfInBounds j u)) } :=
    I.lstUpd hp ho (jcD its n j u) (r.set rv j) (by rw[length_set];exact hz) s.toks
  by_cases h0:0<=k
  · have hk:k.toNat=j:=by
      rw[seqIndex_of h0 h4]at h1
      exact Option.some.inj h1
    exact PySem.W.ki_setAt ho h0 (by omega) (by rw[size_toArray,<- hl];exact h4) (by rw[hk];exact⟨_,I',q⟩)
  · have hk:(k+(its.toArray.size:Int)).toNat=j:=by
      rw[seqIndex_neg (by omega) h3]at h1
      rw[size_toArray,<- hl]
      exact Option.some.inj h1
    exact PySem.W.ki_setBack ho (by omega) (by rw[size_toArray,<- hl];exact h3) (by omega) (by rw[hk];exact⟨_,I',q⟩)
theorem Um (lo hi:Option Int)(n:Nat):(sliceBounds lo hi none n).1=((HT.sIx n 0 lo:Nat):Int)∧(sliceBounds lo hi none n).2.1=((HT.sIx n n hi:Nat):Int)∧(sliceBounds lo hi none n).2.2=1:=by
  refine⟨?_,?_,rfl⟩
  · cases lo with
    | none=>simp[sliceBounds,HT.sIx]
    | some i =>
      simp only[sliceBounds,HT.sIx,getD_none,show(1:Int) > 0 by decide,if_true]
      by_cases h:i<0
      · simp only[h,if_true] <;> omega
      · simp only[h,if_false] <;> omega
  · cases hi with
    | none=>simp[sliceBounds,HT.sIx]
    | some i =>
      simp only[sliceBounds,HT.sIx,getD_none,show(1:Int) > 0 by decide,if_true]
      by_cases h:i<0
      · simp only[h,if_true] <;> omega
      · simp only[h,if_false] <;> omega
theorem Ve (its:List Value)(lo hi:Option Int):slicePick its.toArray lo hi none=((its.drop (HT.sIx its.length 0 lo)).take (HT.sIx its.length its.length hi-HT.sIx its.length 0 lo)).toArray:=by
  obtain⟨h1,h2,h3⟩:=Um lo hi its.toArray.size
  unfold slicePick
  rw[h1,h2,h3]
  simp only[sliceRange_one,pick_run,size_toArray] <;> rfl
def rSlL (K:Frag):V->Option Int->Option Int->Hp->VK->Prop:=fun x lo hi H Q=>∃ a xs,x = .ref a∧SqL K H a xs∧∀ p,H p=none->Q (.ref p) (upd H p (.lst (jbG xs lo hi)))
theorem jiX:SlR X (rSlL X.K):=by
  intro aa s σ H x v vl vu lo hi sl Q I rx hs pl pu h
  obtain⟨a,xs,rfl,hx,q⟩:=h
  cases rx
  obtain⟨its,r,ht,hz⟩:=I.list hx
  have aq:=r.length
  refine⟨"list",_,slot_list_getitem.lookup,ht.isList.typeIs,?_⟩
  refine wpAny_getItem_list_slice ht.isList hs pl pu .none (by simp) ?_ (by rw[size_toArray] <;> omega)
  rw[Ve,<- aq]
  refine⟨.ref s.heap.objs.size,_,I.laid (t':=s.toks) (o:=.lst (jbG xs lo hi)) (fun b ob q=>get?_push_of_some _ q) (le_refl _) ?_,rfl,q _ (I.hok.fresh (le_refl _))⟩
  exact⟨le_trans (Yx xs lo hi) hz,_,0,(r.drop (HT.sIx xs.length 0 lo)).take (HT.sIx xs.length xs.length hi-HT.sIx xs.length 0 lo),get?_push_size _ rfl⟩
def Yw:V->Bool
  | .non=>true
  | .bl _=>true
  | .int _=>true
  | .str _=>true
  | _=>false
def eqV:V->V->Bool
  | .non,.non=>true
  | .bl a,.bl b=>a==b
  | .bl a,.int b=>(if a then 1 else 0)==b
  | .int a,.bl b=>a==(if b then 1 else 0)
  | .int a,.int b=>a==b
  | .str a,.str b=>a==b
  | _,_=>false
theorem eqAt_V {A:Around}{s:Shared}{y x:V}{u v:Value}(ry:yi y u)(rx:yi x v)(fy:Yw y=true)(fx:Yw x=true):SeqAt.EqAt A s u v (eqV y x):=by
  cases y with
  | non =>
    cases ry
    cases x with
    | non=>cases rx;exact SeqAt.EqAt.same _
    | bl b=>cases rx;exact SeqAt.EqAt.none_bool b
    | int b=>obtain⟨t,rfl⟩:=rx;exact SeqAt.EqAt.none_int b t
    | str b=>obtain⟨t,rfl⟩:=rx;exact SeqAt.EqAt.none_str b t
    | _=>exact absurd (show false=true from fx) Bool.false_ne_true
  | bl a =>
    cases ry
    cases x with
    | non=>cases rx;exact SeqAt.EqAt.bool_none a
    | bl b=>cases rx;exact SeqAt.EqAt.bool_bool a b
    | int b=>obtain⟨t,rfl⟩:=rx;exact SeqAt.EqAt.bool_int a b t
    | str b=>obtain⟨t,rfl⟩:=rx;exact SeqAt.EqAt.bool_str a b t
    | _=>exact absurd (show false=true from fx) Bool.false_ne_true
  | int a =>
    obtain⟨t',rfl⟩:=ry
    cases x with
    | non=>cases rx;exact SeqAt.EqAt.int_none a t'
    | bl b=>cases rx;exact SeqAt.EqAt.int_bool a t' b
    | int b=>obtain⟨t,rfl⟩:=rx;exact SeqAt.EqAt.int_int a t' b t
    | str b=>obtain⟨t,rfl⟩:=rx;exact SeqAt.EqAt.int_str a t' b t
    | _=>exact absurd (show false=true from fx) Bool.false_ne_true
  | str a =>
    obtain⟨t',rfl⟩:=ry
    cases x with
    | non=>cases rx;exact SeqAt.EqAt.str_none a t'
    | bl b=>cases rx;exact SeqAt.EqAt.str_bool a t' b
    | int b=>obtain⟨t,rfl⟩:=rx;exact SeqAt.EqAt.str_int a t' b t
    | str b=>obtain⟨t,rfl⟩:=rx;exact SeqAt.EqAt.str_str a t' b t
    | _=>exact absurd (show false=true from fx) Bool.false_ne_true
  | _=>exact absurd (show false=true from fy) Bool.false_ne_true
theorem jae:yM X (.builtin "len") (fun xs H Q=>∃ p ys,xs=[.ref p]∧(SqL X.K H p ys∨SqT X.K H p ys)∧Q (.int ys.length) H):=by
  intro aa s σ H xs us Q I r h
  obtain⟨p,ys,rfl,hq,q⟩:=h
  obtain⟨u,rfl,rx⟩:=Vo r
  cases rx
  have hn:=Xy
  rcases hq with hq | hq
  · obtain⟨its,r',pl,hz⟩:=I.list hq
    have aq:=r'.length
    exact Calls.call_len_list pl.isList (by simp only[size_toArray] <;> omega) ⟨.int ys.length,H,I.tok _,⟨s.toks+1,by rw[size_toArray,aq]⟩,q⟩
  · obtain⟨its,r',pl,hz⟩:=I.tuple hq
    have aq:=r'.length
    exact len_tuple pl (by simp only[size_toArray] <;> omega) ⟨.int ys.length,H,I.tok _,⟨s.toks+1,by rw[size_toArray,aq]⟩,q⟩
theorem JI:yM X (.type "list") (fun xs H Q=>∃ p ys,xs=[.ref p]∧(SqL X.K H p ys∨SqT X.K H p ys)∧∀ l,H l=none->Q (.ref l) (upd H l (.lst ys))):=by
  intro aa s σ H xs us Q I r h
  obtain⟨p,ys,rfl,hq,q⟩:=h
  obtain⟨u,rfl,rx⟩:=Vo r
  cases rx
  have fin:∀(its:List Value),yf ys its->ys.length<=sizeLine->∀(h':Heap) (c':Nat),(∀ b o',s.heap.get? b=some o'->h'.get? b=some o') ->
      h'.get? s.heap.objs.size=some { cls:=.type "list",dict:=none,data:=.seq its.toArray c',slots:=#[] }->EP X aa σ Q (.ref s.heap.objs.size) { s with heap:=h' }:=fun its r' hz h' c' kp e =>
    ⟨.ref s.heap.objs.size,_,I.laid (t':=s.toks) kp (le_refl _) (show yk X.prog X.w _ h' _ (.lst ys)from⟨hz,its,c',r',e⟩),rfl,q _ (I.hok.fresh (le_refl _))⟩
  rcases hq with hq | hq
  · obtain⟨its,r',pl,hz⟩:=I.list hq
    have aq:=r'.length
    obtain⟨o,ho,hc,n,hd⟩:=pl.isList
    exact call_list_seq p (.inl rfl) ho hc hd (fun h' c' kp e=>fin its r' hz h' c' kp e) (by simp only[size_toArray] <;> omega)
  · obtain⟨its,r',pl,hz⟩:=I.tuple hq
    have aq:=r'.length
    obtain⟨o,ho,hc,n,hd⟩:=pl
    exact call_list_seq p (.inr rfl) ho hc hd (fun h' c' kp e=>fin its r' hz h' c' kp e) (by simp only[size_toArray] <;> omega)
def tyV (K:Frag)(T:String)(x:V)(H:Hp):Prop:=match x with
  | .str _=>T = "str"
  | .int _=>T = "int"
  | .ref p=>(T = "list"∧∃ xs,SqL K H p xs)∨(T = "tuple"∧∃ o,K.lookup p=some o∧o.cls = .type "tuple"∧o.dict=none) ∨
      (T = "dict"∧((∃ kvs,H p=some (.dK kvs))∨∃ kvs,H p=some (.dT kvs)))∨(T = "set"∧∃ S n,H p=some (.set S n))
  | _=>False
theorem tyV_is {aa:List (Addr×Obj)}{σ:St}{H:Hp}{s:Shared}{T:String}{x:V}{v:Value}(I:Inv X aa σ H s)(r:yi x v)(ty:tyV X.K T x H) :
    s.TypeIs v T∧∀ a,v = .ref a->∃ ob,s.heap.get? a=some ob∧ob.dict=none:=by
  cases x with
  | str z =>
    obtain⟨t,rfl⟩:=r
    cases (show T = "str" from ty)
    exact⟨typeIs_str s z t,fun _ e=>nomatch e⟩
  | int i =>
    obtain⟨t,rfl⟩:=r
    cases (show T = "int" from ty)
    exact⟨typeIs_int s i t,fun _ e=>nomatch e⟩
  | ref p =>
    cases r
    rcases ty with⟨rfl,xs,hq⟩ | ⟨rfl,o,hk,hc,hd⟩ | ⟨rfl,hk⟩ | ⟨rfl,S,n,hk⟩
    · obtain⟨its,_,pl,_⟩:=I.list hq
      refine⟨pl.isList.typeIs,fun a e=>?_⟩
      cases e
      obtain⟨o,n,e,c,hd,_⟩:=pl
      exact⟨o,e,hd⟩
    · refine⟨⟨o,I.kIn p o hk,hc⟩,fun a e=>?_⟩
      cases e
      exact⟨o,I.kIn _ o hk,hd⟩
    · have z:∃ o,s.heap.get? p=some o∧o.ExactDict:=by
        rcases hk with⟨kvs,hk⟩ | ⟨kvs,hk⟩
        · obtain⟨_,_,_,_,o,_,_,e,ex,_⟩:=I.hok p _ hk
          exact⟨o,e,ex⟩
        · obtain⟨_,_,_,_,o,_,_,e,ex,_⟩:=I.hok p _ hk
          exact⟨o,e,ex⟩
      obtain⟨o,e,ex⟩:=z
      refine⟨⟨o,e,ex.1⟩,fun a e2=>?_⟩
      cases e2
      exact⟨o,e,ex.2.1⟩
    · obtain⟨o,_,_,_,e,ex,_⟩:=I.hok p _ hk
      refine⟨⟨o,e,ex.1⟩,fun a e2=>?_⟩
      cases e2
      exact⟨o,e,ex.2.1⟩
  | _=>exact False.elim ty
def tBM (K:Frag)(T:String)(r:V->List V->Hp->VK->Prop)(to:TE)(t:TA):TE:=fun σ H Q=>to σ H fun x H1=>tyV K T x H1∧t σ H1 fun xs H2=>r x xs H2 Q
variable {o e:Expr}{es:List Expr}{to:TE}{t:TA}{name:Str}{apos ar:Pos}{T id:String}{r:V->List V->Hp->VK->Prop}
theorem pe_bm (pa:PlainAttrs T)(slot:Slot T name id)(iT:typeOf (.builtin id)=pure (.type "method_descriptor"))(hm:MtR X id r)(ho:PE X o to)(ha:PA X (e::es) t)
    (bB:attributeBase o name X.env (eval o X.env)=eval o X.env:=by rfl)
    (fN:((backTo ar (starEach (e::es) X.env)).all (fun x=>!x.1) && (backToKw ar (keywordEach [] X.env)).all (fun x=>x.1.isSome)
      && decide ((e::es).length+([]:List Keyword).length+(if([]:List Keyword).isEmpty then 0 else 1)<30))=true:=by rfl)
    (bz:(apos.endLine==ar.line)=true:=by rfl) (hs:starEach (e::es) X.env=(false,eval e X.env)::starEach es X.env:=by rfl) (cI:(backTo ar (starEach es X.env)).any (·.1)=false:=by rfl) :
    PE X (.Call (.Attribute o name apos) (e::es) [] ar) (tBM X.K T r to t):=by
  intro aa s σ H Q I h
  refine wpAny_Call_method_late bB fN bz rfl (thn (ho aa s σ H _ I h) fun v s1 ae=>?_)
  obtain⟨x,H1,I1,r1,ty,q1⟩:=ae
  obtain⟨h1,h2⟩:=tyV_is I1 r1 ty
  refine⟨T,id,pa,slot,iT,h1,h2,?_⟩
  have hA:=ha ar aa s1 σ H1 _ I1 q1
  rw[hs]at hA ⊢
  refine Calls.callWith_builtin (by show(false || (backTo ar (starEach es X.env)).any (·.1))=false;rw[cI] <;> rfl) (Calls.evalArgs_plain ?_)
  exact thn hA fun us s2 ⟨vs,H2,I2,r2,q2⟩=>hm aa s2 σ H2 x vs v us Q I2 r1 r2 q2
/- xs.append(e),list.index on a module's tuple .. are MtR facts of 06m -/
end
def MtM (X:Cx)(id:String)(r:V->List V->Hp->VK->Prop):Prop :=
  ∀(aa:List (Addr×Obj)) (s:Shared) (σ:St) (H:Hp) (x:V) (xs:List V) (v:Value) (us:List Value) (Q:VK),Inv X aa σ H s->yi x v->yf xs us->r x xs H Q ->
    wpAny (model X.prog X.w) X.A (call (.builtin id) (v::us)) (EP X aa σ Q) X.xe s
theorem yf.one:∀{x:V}{us:List Value},yf [x] us->∃ u,us=[u]∧yi x u
  | _,_,.cons r .nil=>⟨_,rfl,r⟩
theorem yf.two:∀{x y:V}{us:List Value},yf [x,y] us->∃ u v,us=[u,v]∧yi x u∧yi y v
  | _,_,_,.cons r (.cons q .nil)=>⟨_,_,rfl,r,q⟩
theorem yf.rep {xs:List V}{us:List Value}(h:yf xs us):∀ k:Nat,yf (replicate k xs).flatten (replicate k us).flatten
  | 0=>.nil
  | k+1=>by
    rw[replicate_succ,replicate_succ,flatten_cons,flatten_cons]
    exact yf.append h (yf.rep h k)
theorem VM (its:List Value):∀(k:Nat) (acc:List Value),
    foldl (fun x1 x2=>x1++x2) acc.toArray (replicate k its.toArray)=(acc++(replicate k its).flatten).toArray
  | 0,acc=>by simp
  | k+1,acc=>by
    have e:acc.toArray++its.toArray=(acc++its).toArray:=by simp
    have e2:(acc++its)++(replicate k its).flatten=acc++(replicate (k+1) its).flatten:=by
      rw[replicate_succ,flatten_cons,append_assoc]
    rw[<- e2,<- VM its k (acc++its),<- e,replicate_succ,List.foldl_cons]
section
variable {X:Cx}{aa:List (Addr×Obj)}{σ:St}{H:Hp}{s:Shared}{l:Addr}{xs ys:List V}
theorem Inv.lset {its its':List Value}{n:Nat}{f:Array Value->Array Value}{t':Nat}(I:Inv X aa σ H s)(hH:H l=some (.lst xs))
    (e:s.heap.get? l=some { cls:=.type "list",data:=.seq its.toArray n }) (hf:f its.toArray=its'.toArray) (hv:yf ys its') (hz:ys.length<=sizeLine) :
    Inv X aa σ (upd H l (.lst ys)) { s with heap:=s.heap.update l (Obj.mapSeq f),toks:=t' }:=by
  have q:=PySem.IsL.update e f
  rw[hf]at q
  refine I.write (x:=l) (e:=l) (by rw[hH];exact trivial) (.inl rfl) (fun b' u hb hu=>(get?_update_other s.heap (Obj.mapSeq f) (Ne.symm hb)).trans hu) ⟨_,q⟩ ?_
  exact⟨hz,its',_,hv,q⟩
theorem Inv.lnew {its:List Value}{t':Nat}(I:Inv X aa σ H s)(hv:yf ys its)(hz:ys.length<=sizeLine) :
    Inv X aa σ (upd H s.heap.objs.size (.lst ys)) { s with heap:=s.heap.push { cls:=.type "list",data:=.seq its.toArray },toks:=t' } :=
  I.laid (fun _ _ q=>get?_push_of_some _ q) (le_refl _) ⟨hz,its,0,hv,get?_push_size _ rfl⟩
theorem Inv.fresh (I:Inv X aa σ H s):H s.heap.objs.size=none:=I.hok.fresh (le_refl _)
theorem Inv.lstM (I:Inv X aa σ H s)(hH:H l=some (.lst xs)):xs.length<=sizeLine∧∃(its:List Value) (n:Nat),yf xs its∧xs.length=its.length∧s.heap.get? l=some { cls:=.type "list",data:=.seq its.toArray n }:=by
  obtain⟨z,its,n,r,e⟩:=I.hok l _ hH
  exact⟨z,its,n,r,r.length,e⟩
theorem jhq {n:Nat}(h:n<=sizeLine):Builtin.List.listTooLong n=false:=by
  unfold Builtin.List.listTooLong
  exact decide_eq_false (by omega)
end
section
variable {X:Cx}
def rAppend:V->List V->Hp->VK->Prop:=fun x vs H Q=>∃ l xs y,x = .ref l∧vs=[y]∧H l=some (.lst xs)∧xs.length<sizeLine∧Q .non (upd H l (.lst (xs++[y])))
theorem JW:MtM X "list.append" rAppend:=by
  intro aa s σ H x vs v us Q I rx rv h
  obtain⟨l,xs,y,rfl,rfl,hH,hz,q⟩:=h
  cases rx
  obtain⟨u,rfl,ru⟩:=rv.one
  obtain⟨z,its,n,r,hl,e⟩:=I.lstM hH
  refine call_meets F.slot_list_append ⟨_,e,rfl⟩ F.entry_list_append (F.args_list_append_2 _ _) (PySem.list_append l its.toArray n u (by rw[size_toArray];omega)) ⟨e,?_⟩
  refine⟨.non,_,I.lset (its':=its++[u]) hH e (by simp) (r.append (.cons ru .nil)) ?_,rfl,q⟩
  rw[length_append,List.length_singleton]
  omega
def rCat:R2:=fun x y H Q=>∃ l b xs zs,x = .ref l∧y = .ref b∧H l=some (.lst xs)∧H b=some (.lst zs)∧xs.length+zs.length<=sizeLine∧∀ p,H p=none->Q (.ref p) (upd H p (.lst (xs++zs)))
theorem op_cat:OpR X (binaryOp .Add) rCat:=by
  intro aa s σ H x y v u Q I rx ry h
  obtain⟨l,b,xs,zs,rfl,rfl,hH,hB,hz,q⟩:=h
  cases rx
  cases ry
  obtain⟨z,its,n,r,hl,e⟩:=I.lstM hH
  obtain⟨z2,dw,n2,r2,i3,e2⟩:=I.lstM hB
  refine PySem.P.add_list e e2 ?_ (by rw[size_toArray,size_toArray];omega)
  have ea:its.toArray++dw.toArray=(its++dw).toArray:=by simp
  rw[ea]
  exact⟨.ref _,_,I.lnew (t':=s.toks) (r.append r2) (by rw[length_append];omega),rfl,q _ I.fresh⟩
def rRep:R2:=fun x y H Q=>∃ l k xs,x = .ref l∧y = .int k∧H l=some (.lst xs)∧-(2 ^ 63)<=k∧k<2 ^ 63∧xs.length*k.toNat<=sizeLine ∧
  ∀ p,H p=none->Q (.ref p) (upd H p (.lst (replicate k.toNat xs).flatten))
theorem len_rep {α:Type}(xs:List α)(k:Nat):(replicate k xs).flatten.length=k*xs.length:=by
  induction k with
  | zero=>simp
  | succ k ih=>rw[replicate_succ,flatten_cons,length_append,ih,Nat.succ_mul,Nat.add_comm]
theorem op_rep:OpR X (binaryOp .Mult) rRep:=by
  intro aa s σ H x y v u Q I rx ry h
  obtain⟨l,k,xs,rfl,rfl,hH,h1,h2,hz,q⟩:=h
  cases rx
  obtain⟨t,rfl⟩:=ry
  obtain⟨z,its,n,r,hl,e⟩:=I.lstM hH
  have aq:its.toArray.size*k.toNat<=sizeLine:=by rw[size_toArray,<- hl];exact hz
  have hcap:¬ its.toArray.size*k.toNat > (2 ^ 63-1)/8:=by
    have:(sizeLine:Nat)<=(2 ^ 63-1)/8:=by decide
    omega
  have hfit:¬(!Builtin.List.listFitsIndex k)=true:=by
    rw[fitsIndex_both h1 h2]
    exact Bool.false_ne_true
  have hlong:¬ Builtin.List.listTooLong (its.toArray.size*k.toNat)=true:=by
    rw[jhq aq]
    exact Bool.false_ne_true
  have hnew:foldl (fun x1 x2=>x1++x2) #[] (replicate (if its.toArray.isEmpty=true then 0 else k.toNat) its.toArray)=(replicate k.toNat its).flatten.toArray:=by
    have f0:∀ m:Nat,foldl (fun x1 x2=>x1++x2) #[] (replicate m its.toArray)=(replicate m its).flatten.toArray:=fun m=>by
      have:=VM its m []
      rw[nil_append]at this
      exact this
    rw[f0]
    cases its with
    | nil=>simp
    | cons a r'=>rw[if_neg (by simp)]
  refine wpAny_binaryOp_repeat_ref (T:="list") (U:="int") (by decide) ⟨_,e,rfl⟩ (fun s'=>typeIs_int s' k t) noFill_list_mul F.fills_int_mul F.slot_int_rmul repeat_list F.slot_int_index.lookup
    (call_meets F.slot_int_rmul (typeIs_int s k t) F.entry_int_rmul (F.args_int_rmul_2 _ _) (int___rmul___int_list k t l its.toArray n)
      ⟨e,rfl,⟨_,e,rfl⟩,call_meets F.slot_list_mul ⟨_,e,rfl⟩ F.entry_list_mul (F.args_list_mul_2 _ _) (AutoListH.list___mul___list_int_3 l its.toArray n k t hfit hcap hlong) ⟨e,?_⟩⟩)
  rw[hnew]
  exact⟨.ref _,_,I.lnew (t':=s.toks) (r.rep k.toNat) (by rw[len_rep,Nat.mul_comm];exact hz),rfl,q _ I.fresh⟩
end
end L2
namespace Att
open PySem PySem.W PySem.Calls PyProof.Rows
theorem YE {P:Params}{h:Heap}:∀(ns:List Int) (vs:List Value),WellAll P h vs (ns.map WData.int)->IntsAre vs ns:=by
  intro ns
  induction ns with
  | nil =>
    intro vs w
    rw[map_nil]at w
    cases w
    exact .nil
  | cons n ns ih =>
    intro vs w
    rw[map_cons]at w
    cases w with
    | cons a b =>
      cases a
      exact .cons _ _ (ih _ b)
theorem jfa {l:OpenLaw}{n:Nat}(hn:l.most=some n){P:Params}{h:Heap}{args:List WData}{c9:List Value}
    (cS:l.row.toRowW.claim.pre args=true) (gH:WellAll P h c9 args) :
    ∃ a vs ns,c9=[Value.ref a]∧args=[WData.list (ns.map WData.int)]∧h.get? a=some { cls:=.type "list",data:=.seq vs.toArray }∧IntsAre vs ns∧ns.length<=n:=by
  have hsh:WShape.hasAll [] args [.list .int]=true:=(pre_splitW cS).1
  have hc:l.pre.holds [] { args:=args }=true:=(pre_splitW cS).2
  obtain⟨d,r,rfl,h1,h2⟩:=hasAllW_cons hsh
  obtain rfl:=hasAllW_nil h2
  obtain⟨xs,rfl,h3⟩:=hasW_list h1
  obtain⟨ns,rfl⟩:=items_int h3
  have aq:ns.length<=n:=by
    unfold OpenLaw.pre at hc
    have h4:(WTm.not (.lt (.lit (.int (n:Int))) (.len (.arg 0)))).holds [] { args:=[.list (ns.map .int)] }=true:=by
      have h4:=(holds_andW hc).1
      rw[hn]at h4
      exact h4
    have h5:=condW_of h4 (w_not (w_lt w_lit (w_len_list (w_arg rfl))))
    rw[length_map]at h5
    refine le_of_not_lt fun q=>?_
    have q':(n:Int)<((ns.length:Nat):Int):=by omega
    first
      | (rw[decide_eq_true q']at h5;exact absurd h5 (by decide))
      | (simp at h5;omega)
  cases gH with
  | cons w1 w2 =>
    cases w2
    cases w1 with
    | list ho bY=>exact⟨_,_,ns,rfl,rfl,ho,YE ns _ bY,aq⟩
theorem jfd (l:OpenLaw)(args:List WData):l.row.toRowW.claim.post args (.bool true) args=true :=
  postW_of (r:=l.row.toRowW) (X:=(true==true))
    (show WShape.has [] (.bool true) .bool=true by first | rfl | decide | simp[WShape.has,WShape.arms,WShape.armsAll])
    (show(WTm.eq .res (.lit (.bool true))).value [] { args:=args,res:=some (.bool true),after:=args }=some (.bool (true==true))from w_eq_bool (w_res rfl) w_lit) rfl
theorem attach_call {l:OpenLaw}{n:Nat}{q:Program}{loose:List Str}{XP:(Str->Option Value)->Heap->Prop}{YP:World->Heap->Prop}{d:DefRec}
    (hn:l.most=some n) (gU:d.params.defaults=[])
    (call:∀(w:World) (s₀ s₁:Shared) (mg mb:Str->Option Value) (fa:Addr) (o:Obj) (pm cd bM:Value) (a:Addr) (vs:List Value) (ns:List Int),
      Ground q loose [] XP w s₀ mg mb s₁.heap->YP w s₁.heap ->
      s₁.heap.get? fa=some o->o.data = .func (docDef d.name d.params d.body d.scope pm cd bM)->s₁.heap.CodeRec cd d.name->mg d.name=some (.ref fa) ->
      s₁.heap.get? a=some { cls:=.type "list",data:=.seq vs.toArray }->IntsAre vs ns->ns.length<=n->s₁.gens = #[] ->
      codeAny (model l.prog w) callerA (.call (.ref fa) ⟨[.ref a],[]⟩) (fun r s'=>r = .ok (.ret (.bool true))∧OldK s₁.heap s'.heap∧s'.os=s₁.os∧AllBare s'.gens) s₁) :
    WalkO q loose XP YP l.row.toRowW d [] (fun f vs=>PySem.call f vs):=by
  intro w s₀ s₁ mg mb G Y fa o pm cd bM dV kV ho hd cO hD hmg hg args c9 as cS eM hrd gH hlo
  obtain rfl:dV = .none:=Dflts.none hD gU
  obtain rfl:kV = .none:=Dflts.noKw hD
  obtain⟨a,vs,ns,rfl,rfl,fG,dD,aq⟩:=jfa hn cS gH
  refine enter_call (codeAny_mono (call w s₀ s₁ mg mb fa o pm cd bM a vs ns G Y ho (fd_plain hd) cO hmg fG dD aq hg) fun r s' hq=>?_)
  obtain⟨rfl,h2,h3,h4⟩:=hq
  exact⟨.inl ⟨.bool true,.bool true,[],rfl,fun _=>rfl,.bool true,jfd l _,fun _=>⟨List.Pairwise.nil,fun _ hm=>(nomatch hm)⟩⟩,h2,h3,h4⟩
end Att
namespace L2
open PySem PySem.Spec PyProof.Rows
theorem Vn {vs:List Value}{ns:List Int}(h:IntsAre vs ns):yf (ns.map V.int) vs:=by
  induction h with
  | nil=>exact .nil
  | cons n t h ih=>exact .cons ⟨t,rfl⟩ ih
def Only (H:Hp):Prop:=∀ b,H b=none∨∃ o xs,H b=some (.frz o (.lst xs))
theorem jhC {P:Program}{w:World}{K:Frag}{mg mb:Str->Option Value}{CX:CXT}{k:Nat}{fa a:Addr}{fd:FuncData}{x:Str}{sp:Sp}{s₁:Shared}{vs:List Value}{ns:List Int}
    (KX:K.In s₁.heap) (hns:s₁.heap.Ns mainGlobals mg) (hb:s₁.heap.Ns builtinsNs mb) (hbb:∀ x:Str,x≠"__name__"->mb x=bootBuiltins x) (hlim:s₁.heap.NoLimit) (hg:s₁.gens = #[])
    (ha:s₁.heap.get? a=some { cls:=.type "list",data:=.seq vs.toArray }) (hi:IntsAre vs ns) (hl:ns.length<=sizeLine) (hr:Room k callerA)
    (F:∀ base:Heap,K.In base->base.Ns mainGlobals mg->FnOk P w K mg base CX k fa fd [x] sp) (hbind:∀(s:Shared) (u:Value),BindsTo s fd ⟨[u],[]⟩ [(x,u)])
    (c5:∀ H:Hp,Only H->SqL K H a (ns.map V.int)->sp [.ref a] H (fun v _=>v = .bl true) fun _ _ _=>False)
    (i9:∀ H e s',CX [] H s₁ (fun _ _ _=>False) e s'->False) :
    codeAny (model P w) callerA (.call (.ref fa) ⟨[.ref a],[]⟩) (fun r s'=>r = .ok (.ret (.bool true))∧OldK s₁.heap s'.heap∧s'.os=s₁.os∧AllBare s'.gens) s₁:=by
  have rv:=Vn hi
  have lenV:=hi.length
  -- from an abstract heap in which nothing but the script may be bT
  have core:∀ H:Hp,Only H->SqL K H a (ns.map V.int)->HOk P w H s₁.heap->(∀ b,H b≠none->b=a)->(H a≠none->K.lookup a=none) ->
      codeAny (model P w) callerA (.call (.ref fa) ⟨[.ref a],[]⟩) (fun r s'=>r = .ok (.ret (.bool true))∧OldK s₁.heap s'.heap∧s'.os=s₁.os∧AllBare s'.gens) s₁:=by
    intro H hO hS hok hA hK
    have base_of:∀{b:Addr}{o:Obj},s₁.heap.get? b=some o->H b=none->(UO s₁.heap H).get? b=some o:=fun e n=>jhN e n
    have gz:∀{b:Addr}{o:Obj}{es:Array DictEntry}{ep:Nat},s₁.heap.get? b=some o->o.data = .dict es ep->H b=none:=fun{b o es ep} e d=>by
      cases q:H b with
      | none=>rfl
      | some u =>
        have e':b=a:=hA b (by rw[q];simp)
        subst e'
        rw[ha]at e;cases e
        have d':Data.seq vs.toArray _=Data.dict es ep:=d
        cases d'
    have ig:∀{b:Addr}{m:Str->Option Value},s₁.heap.Ns b m->(UO s₁.heap H).Ns b m:=fun{b m} ⟨o,es,ep,e,d,r⟩=>⟨o,es,ep,base_of e (gz e d),d,r⟩
    have hKb:K.In (UO s₁.heap H):=fun b o e=>base_of (KX b o e) (by
      cases q:H b with
      | none=>rfl
      | some u =>
        have e':b=a:=hA b (by rw[q];simp)
        subst e'
        rw[hK (by rw[q];simp)]at e;cases e)
    have hM:Mod K mg (UO s₁.heap H):=⟨hKb,ig hns,⟨mb,ig hb,hbb⟩,let ⟨mc,h1,h2⟩:=hlim;⟨mc,ig h1,h2⟩⟩
    have e0:Env0 P w K mg (UO s₁.heap H) callerA [] s₁ H:=⟨rfl,hM,fun b o e=>of_hidT e,le_of_eq (jfz _ _),trivial,fun b hb=>absurd (show b∈([]:List Addr)from hb) (by simp),hok,.of_eq hg⟩
    refine codeAny_mono ((F _ hKb (ig hns)).run callerA [] s₁ H ⟨[.ref a],[]⟩ [.ref a] [.ref a] _ _ hr e0 (hbind s₁ (.ref a)) (.cons rfl .nil) (c5 H hO hS)) fun r s' h=>?_
    cases r with
    | error e=>exact(i9 H e s' h).elim
    | ok fl =>
      cases fl with
      | next=>exact False.elim h
      | brk=>exact False.elim h
      | cont=>exact False.elim h
      | ret u =>
        obtain⟨v,H',os,bare,un,hok',r',q⟩:=h
        have q':v = .bl true:=q
        subst q'
        obtain rfl:u=Value.bool true:=r'
        refine⟨rfl,OldK.of_keep fun b o e=>?_,os,bare⟩
        cases q:H b with
        | none=>exact un.keep b o e q (by intro z;exact absurd (show b∈([]:List Addr)from z) (by simp)) (by simp)
        | some u =>
          rcases hO b with z | ⟨ob,xs,z⟩
          · rw[q]at z;cases z
          · have z2:=un.frzs b ob _ z
            obtain⟨e1,_⟩:=hok b _ z
            obtain⟨e2,_⟩:=hok' b _ z2
            rw[e]at e1;cases e1
            exact e2
  cases hk:K.lookup a with
  | some o =>
    -- the script is one of the module's own objects
    have e:=KX a o hk
    rw[ha]at e
    cases e
    refine core (fun _=>none) (fun _=>.inl rfl) (.inr ⟨_,vs.toArray,_,hk,rfl,rfl,rfl,by rw[size_toArray,lenV];exact hl,by simpa using rv⟩) (fun b u z=>by have z':(none:Option HO)=some u:=z;cases z') (fun b z=>absurd rfl z) fun z=>absurd rfl z
  | none =>
    refine core (fun b=>if b=a then some (.frz { cls:=.type "list",data:=.seq vs.toArray } (.lst (ns.map V.int)))else none) (fun b=>?_) (.inl (.inr ⟨{ cls:=.type "list",data:=.seq vs.toArray },if_pos rfl⟩)) (fun b u z=>?_) (fun b z=>?_) fun _=>hk
    · by_cases hb:b=a
      · exact .inr ⟨_,_,if_pos hb⟩
      · exact .inl (if_neg hb)
    · by_cases hb:b=a
      · have z':=(if_pos hb).symm.trans z
        cases z'
        subst hb
        exact⟨ha,by rw[length_map];exact hl,vs,_,rv,ha⟩
      · have z':=(if_neg hb).symm.trans z
        cases z'
    · by_cases hb:b=a
      · exact hb
      · exact absurd (if_neg hb) z
theorem walk_of {l:PySem.W.OpenLaw}{n k:Nat}{q:Program}{loose:List Str}{XP:(Str->Option Value)->Heap->Prop}{YP:World->Heap->Prop}{d:DefRec}{K:Params->Frag}{CX:World->CXT}{sp:World->Sp}{x:Str}
    (hn:l.most=some n) (fZ:n<=sizeLine) (gU:d.params.defaults=[]) (hr:Room k callerA)
    (hY:∀(w:World) (h:Heap),YP w h->(K w.params).In h)
    (F:∀(w:World) (mg:Str->Option Value) (fa:Addr) (h:Heap),(K w.params).In h->h.Ns mainGlobals mg->mg d.name=some (.ref fa) ->
      ∃ fd:FuncData,(∀(s:Shared) (u:Value),BindsTo s fd ⟨[u],[]⟩ [(x,u)]) ∧
        ∀ base:Heap,(K w.params).In base->base.Ns mainGlobals mg->FnOk l.prog w (K w.params) mg base (CX w) k fa fd [x] (sp w))
    (c5:∀(w:World) (H:Hp) (a:Addr) (ns:List Int),ns.length<=n->Only H->SqL (K w.params) H a (ns.map V.int)->sp w [.ref a] H (fun v _=>v = .bl true) fun _ _ _=>False)
    (i9:∀(w:World) (H:Hp) (s:Shared) (e:Value) (s':Shared),CX w [] H s (fun _ _ _=>False) e s'->False) :
    PySem.W.WalkO q loose XP YP l.row.toRowW d [] (fun f vs=>PySem.call f vs):=by
  refine Att.attach_call hn gU fun w s₀ s₁ mg mb fa o pm cd bM a vs ns G Y ho hd cO hmg fG dD aq hg=>?_
  have KX:=hY w _ Y
  obtain⟨fd,hb,hF⟩:=F w mg fa _ KX G.T.g hmg
  exact jhC KX G.T.g G.T.b G.T.builtins G.T.nolimit hg fG dD (le_trans aq fZ) hr hF hb (fun H hO hS=>c5 w H a ns aq hO hS) fun H e s'=>i9 w H s₁ e s'
def xl (s:Stmt)(j:Nat):Stmt:=match s with
  | .ClassDef _ _ _ body _ _ _ _ _ _ _=>body.getD j (.Pass ⟨0,0,0,0⟩)
  | _=>.Pass ⟨0,0,0,0⟩
def jl (s:Stmt):Arguments:=match s with
  | .FunctionDef _ a _ _ _ _ _ _ _ _=>a
  | _=>{ posonlyargs:=[],args:=[],vararg:=none,kwonlyargs:=[],kw_defaults:=[],kwarg:=none,defaults:=[] }
def ji (s:Stmt):List Stmt:=match s with
  | .FunctionDef _ _ b _ _ _ _ _ _ _=>b
  | _=>[]
def jc (s:Stmt):Scope:=match s with
  | .FunctionDef _ _ _ _ _ _ sc _ _ _=>sc
  | _=>{ kind:=.function,names:=[],isGenerator:=false,isCoroutine:=false }
abbrev CX0:CXT:=fun _ _ _ _ _ _=>False
abbrev E0:XK:=fun _ _ _=>False
structure Fun (K:Frag)(x qual:Str)(st:Stmt)(f:Addr)(fd:FuncData):Prop where
  ex:∃(oc:Value) (od:Option Addr) (kV bM pm:Value) (an:Option Addr) (ay ct:Value) (dg:Array (Option Value)),
    fd=fnOf x qual (jl st) (ji st) (jc st) .none kV bM pm an ay ct∧K.lookup f=some ⟨oc,od,.func fd,dg⟩∧codeIn K ay qual=true
  kp:keepIn K (.ref f)=true
section
variable {P:Program}{w:World}{K:Frag}{mg:Str->Option Value}{base:Heap}
theorem Fun.ok {x qual:Str}{st:Stmt}{f:Addr}{fd:FuncData}{N ps:List Str}{k:Nat}{sp:Sp}(F:Fun K x qual st f fd)(S:FnScope N ps (jc st))(len:∀ vs H Q E,sp vs H Q E->vs.length=ps.length)
    (bA:∀(ay:Value) (A:Around) (outer:List Env) (s:Shared) (H:Hp) (vs:List V) (Q:VK) (E:XK),Room k (A.deeper (envOfC qual (jc st) s.heap.objs.size f ay))->sp vs H Q E ->
      ∃ t,PSs (YH CX0 P w K mg base N qual (jc st) f ay A outer s H E).nox (ji st) t∧t { nx:=fun _ H'=>Q .non H',rt:=Q } (start N vs) H):FnOk P w K mg base CX0 (k+1) f fd ps sp:=by
  obtain⟨oc,od,kV,bM,pm,an,ay,ct,dg,rfl,lk,cO⟩:=F.ex
  refine jhZ lk cO S len fun A outer s H vs Q E hr c5=>?_
  obtain⟨t,h,q⟩:=bA ay A outer s H vs Q E hr c5
  exact⟨t,h.nox,q⟩
theorem jq {x qual:Str}{st:Stmt}{f:Addr}{oc:Value}{od an:Option Addr}{dg:Array (Option Value)}{kV bM pm ay ct:Value}(l:K.lookup f=some ⟨oc,od,.func (fnOf x qual (jl st) (ji st) (jc st) .none kV bM pm an ay ct),dg⟩)
    (c:codeIn K ay qual=true) (k:keepIn K (.ref f)=true):Fun K x qual st f (fnOf x qual (jl st) (ji st) (jc st) .none kV bM pm an ay ct):=⟨⟨oc,od,kV,bM,pm,an,ay,ct,dg,rfl,l,c⟩,k⟩
end
def Yn (H H':Hp):Prop:=∀ b o,H b=some o->H' b=some o
theorem Yn.refl (H:Hp):Yn H H:=fun _ _ h=>h
theorem Yn.trans {H H1 H2:Hp}(a:Yn H H1)(b:Yn H1 H2):Yn H H2:=fun c o h=>b c o (a c o h)
theorem Yn.seq {K:Frag}{H H':Hp}{a:Addr}{xs:List V}(e:Yn H H')(h:SqL K H a xs):SqL K H' a xs:=by
  rcases h with(h | ⟨o,h⟩) | h
  · exact .inl (.inl (e _ _ h))
  · exact .inl (.inr ⟨o,e _ _ h⟩)
  · exact .inr h
section
variable {prog:Program}{w:World}{A:Around}{R:Result->Shared->Prop}{s:Shared}
theorem jab {ax ab iter:Expr}{ifs:List Expr}{scope:Scope}{pos:Pos}{it acc:Value}{env:Env}(I:Nat->Shared->Prop)
    (aA:∀ n s,I n s->wpAny (model prog w) A (pyNext it) (fun r s₁=>match r with
      | none=>R (.ok .next) s₁
      | some v=>wpAny (model prog w) A (letOwnedTupleGo ab it v) (fun _ bC=>wpAny (model prog w) A (assign ab env v) (fun _ s₂ =>
          wpAny (model prog w) A (forIn ifs true fun c r=>if r=true then do let ok <- isTrue c env (eval c env);pure (ForInStep.yield ok)else pure (ForInStep.yield r)) (fun ok s₃ =>
            if ok=true then wpAny (model prog w) A (eval ax env) (fun x s₄ =>
              wpAny (model prog w) A (call (.builtin "list.append") [acc,x]) (fun _ s₅=>∃ m,m<n∧I m s₅) (fun _ _=>False) s₄) (fun _ _=>False) s₃
            else ∃ m,m<n∧I m s₃) (fun _ _=>False) s₂) (fun _ _=>False) bC) (fun _ _=>False) s₁) (fun _ _=>False) s)
    (n:Nat) (h:I n s) :
    codeAny (model prog w) A (.compLoop (.ListComp ax [⟨ab,iter,ifs,0⟩] scope pos) 0 it acc env) R s:=by
  refine codeAny_loop rfl I (fun n s hI=>?_) n h
  show wpAny _ A ((compTurn (.ListComp ax [⟨ab,iter,ifs,0⟩] scope pos) 0 it acc env).onRaise (fun x=>do noteFrame x env;theTreesLotGoes x)) _ _ s
  refine wpAny_noted ?_
  rw[compTurn_list]
  refine wpAny_bind (wpAny_standAt (wpAny_bind (wpAny_mono (aA n s hI) (fun r s₁ h₁=>?_) fun _ _ h'=>h'.elim)))
  cases r with
  | none=>exact wpAny_pure h₁
  | some v =>
    refine wpAny_bind (wpAny_mono h₁ (fun _ bC cf=>?_) fun _ _ h'=>h'.elim)
    refine wpAny_bind (wpAny_mono cf (fun _ s₂ h₂=>wpAny_bind (wpAny_mono h₂ (fun ok s₃ h₃=>?_) fun _ _ h'=>h'.elim)) fun _ _ h'=>h'.elim)
    cases ok with
    | false=>exact wpAny_pure ⟨rfl,h₃⟩
    | true =>
      exact wpAny_bind (wpAny_bind (wpAny_mono h₃ (fun x s₄ h₄=>wpAny_bind (wpAny_mono h₄ (fun _ s₅ h₅=>wpAny_pure (wpAny_pure ⟨rfl,h₅⟩)) fun _ _ h'=>h'.elim)) fun _ _ h'=>h'.elim))
end
def uW (env:Env):List (Str×NameKind)->List (Str×Addr)->List (Str×Addr)
  | [],cs=>cs
  | (n,k)::r,cs=>uW env r (if k==.free then(n,(env.cells.lookup n).getD 0)::cs else cs)
def xG (scope:Scope)(env:Env):List (Str×Addr):=uW env scope.names []
theorem VU {env:Env}:∀(ns:List (Str×NameKind)) (cs:List (Str×Addr)),(∀ y∈ns,y.2 = .free->∃ c,env.cells.lookup y.1=some c) ->
    (forIn ns cs fun(x:Str×NameKind) (r:List (Str×Addr))=>(if(x.2==.free)=true then do
      let a <- cellOf env x.1
      pure (ForInStep.yield ((x.1,a)::r))else pure (ForInStep.yield r):Sem (ForInStep (List (Str×Addr)))))=pure (uW env ns cs)
  | [],cs,_=>rfl
  | (n,k)::r,cs,h=>by
    rw[List.forIn_cons]
    have ih:=fun cs=>VU r cs fun y hy=>h y (mem_cons_of_mem _ hy)
    by_cases hk:k = .free
    · subst hk
      obtain⟨c,e⟩:=h (n,.free) mem_cons_self rfl
      have e':cellOf env n=pure c:=by
        unfold cellOf
        have e2:env.cells.lookup n=some c:=e
        rw[e2]
      simp only[beq_self_eq_true,if_true,e',pure_bind,ih]
      have e3:env.cells.lookup n=some c:=e
      simp only[uW,beq_self_eq_true,if_true,e3,getD_some]
    · have hb:(k==NameKind.free)=false:=by simpa using hk
      simp only[hb,false_eq_true,if_false,pure_bind,ih,uW]
theorem vL {scope:Scope}{env:Env}(h:∀ y∈scope.names,y.2 = .free->∃ c,env.cells.lookup y.1=some c):closureFor scope env=pure (xG scope env):=by
  have e:=VU scope.names [] h
  unfold closureFor xG
  rw[<- e]
  simp only[bind_pure]
theorem XU {env:Env}{x:Str}{c:Addr}:∀(ns:List (Str×NameKind)) (cs:List (Str×Addr)),(∀ y∈ns,y.2 = .free->∃ c,env.cells.lookup y.1=some c) ->
    (cs.lookup x=some c->env.cells.lookup x=some c)->(uW env ns cs).lookup x=some c->env.cells.lookup x=some c
  | [],cs,_,h,e=>h e
  | (n,k)::r,cs,hf,h,e=>by
    refine XU r _ (fun y hy=>hf y (mem_cons_of_mem _ hy)) ?_ e
    by_cases hk:k = .free
    · subst hk
      obtain⟨c',e'⟩:=hf (n,.free) mem_cons_self rfl
      have e':env.cells.lookup n=some c':=e'
      simp only[beq_self_eq_true,if_true,e',getD_some]
      intro z
      rw[lookup_cons]at z
      cases hx:x==n with
      | true =>
        rw[hx]at z
        have fX:x=n:=by simpa using hx
        rw[fX,e']
        exact z
      | false =>
        rw[hx]at z
        exact h z
    · have hb:(k==NameKind.free)=false:=by simpa using hk
      simp only[hb,false_eq_true,if_false]
      exact h
theorem XV {env:Env}{x:Str}:∀(ns:List (Str×NameKind)) (cs:List (Str×Addr)),((∃ c,cs.lookup x=some c)∨(x,NameKind.free)∈ns)->∃ c,(uW env ns cs).lookup x=some c
  | [],cs,h=>by
    rcases h with h | h
    · exact h
    · cases h
  | (n,k)::r,cs,h=>by
    refine XV r _ ?_
    by_cases hk:k = .free
    · subst hk
      simp only[beq_self_eq_true,if_true]
      by_cases hx:x=n
      · subst hx
        left
        rw[lookup_cons]
        simp
      · rcases h with⟨c,h⟩ | h
        · left
          refine⟨c,?_⟩
          rw[lookup_cons]
          have:(x==n)=false:=by simpa using hx
          rw[this]
          exact h
        · right
          rcases List.mem_cons.mp h with h | h
          · cases h
            exact absurd rfl hx
          · exact h
    · have hb:(k==NameKind.free)=false:=by simpa using hk
      simp only[hb,false_eq_true,if_false]
      rcases h with h | h
      · exact .inl h
      · right
        rcases List.mem_cons.mp h with h | h
        · cases h
          exact absurd rfl hk
        · exact h
def jQ (X:Cx)(N':List Str)(scope:Scope)(s₃:Shared)(H₃:Hp)(fp:List Addr):Cx :=
  { X with N:=N',s₀:=s₃,H₀:=H₃,env:=compEnvC scope (cellsFrom (s₃.heap.objs.size+1) scope.names (xG scope X.env)) s₃.heap.objs.size X.env,outer:=X.stack,ex:=fp,fn:=fun x=>scope.names.lookup x==some .cell,pn:=[],xe:=fun _ _=>False }
def yY (own:Nat)(js:List Nat)(σ:St):St:=replicate own none++js.map fun j=>(σ[j]?).getD none
def JM (σ σ':St):Prop:=σ'.length=σ.length∧∀(k:Nat) (v:V),σ[k]? = some (some v)->σ'[k]? = some (some v)
theorem JM.refl (σ:St):JM σ σ:=⟨rfl,fun _ _ e=>e⟩
theorem JM.trans {a b c:St}(h:JM a b)(k:JM b c):JM a c:=⟨k.1.trans h.1,fun i v e=>k.2 i v (h.2 i v e)⟩
theorem keep1 {r:St}{x:Option V}:JM (none::r) (x::r):=⟨rfl,fun k v e=>by
  cases k with
  | zero=>cases e
  | succ k=>exact e⟩
theorem jbi {r:St}{x y:Option V}:JM (none::none::r) (x::y::r):=⟨rfl,fun k v e=>by
  cases k with
  | zero=>cases e
  | succ k=>cases k with
    | zero=>cases e
    | succ k=>exact e⟩
structure CompScope (osc sc:Scope)(own fr:List Str):Prop where
  kind:sc.kind = .function
  cel:∀ y∈sc.names,y.2 = .cell->sc.names.lookup y.1=some .cell
  loc:∀ y∈sc.names,y.2 = .local->sc.names.lookup y.1=some .local
  free:∀ y∈sc.names,y.2 = .free->osc.names.lookup y.1=some .cell∨osc.names.lookup y.1=some .free
  fq:∀ x∈own,sc.names.lookup x=some .local∨sc.names.lookup x=some .cell
  nfr:∀ x∈fr,(osc.names.lookup x=some .cell∨osc.names.lookup x=some .free)∧sc.names.lookup x=some .free
theorem xM {env:Env}{x:Str}{k:NameKind}:∀{names:List (Str×NameKind)},
    (names.map fun(n,k)=>if(k==NameKind.free && env.scope.kind==.function && env.kindOf n==some .cell)then(n,NameKind.cell)else(n,k)).lookup x=some k->names.lookup x=some k∨(k = .cell∧names.lookup x=some .free)
  | [],h=>by simp at h
  | (n,k')::r,h=>by
    have ih:=@xM env x k r
    simp only[map_cons]at h
    rw[lookup_cons]
    by_cases hc:(k'==NameKind.free && env.scope.kind==.function && env.kindOf n==some .cell)=true
    · rw[if_pos hc,lookup_cons]at h
      have hf:k' = .free:=by
        have:=(Bool.and_eq_true_iff.mp (Bool.and_eq_true_iff.mp hc).1).1
        simpa using this
      cases hx:x==n with
      | true =>
        rw[hx]at h
        subst hf
        exact .inr ⟨(Option.some.inj h).symm,rfl⟩
      | false =>
        rw[hx]at h
        exact ih h
    · rw[if_neg hc,lookup_cons]at h
      cases hx:x==n with
      | true =>
        rw[hx]at h
        exact .inl h
      | false =>
        rw[hx]at h
        exact ih h
theorem xz {env:Env}{x:Str}:∀{names:List (Str×NameKind)},names.lookup x=some .free ->
    (names.map fun(n,k)=>if(k==NameKind.free && env.scope.kind==.function && env.kindOf n==some .cell)then(n,NameKind.cell)else(n,k)).lookup x=some .cell ∨
    (names.map fun(n,k)=>if(k==NameKind.free && env.scope.kind==.function && env.kindOf n==some .cell)then(n,NameKind.cell)else(n,k)).lookup x=some .free
  | [],h=>by simp at h
  | (n,k')::r,h=>by
    have ih:=@xz env x r
    rw[lookup_cons]at h
    simp only[map_cons]
    by_cases hc:(k'==NameKind.free && env.scope.kind==.function && env.kindOf n==some .cell)=true
    · rw[if_pos hc,lookup_cons]
      cases hx:x==n with
      | true=>exact .inl rfl
      | false =>
        rw[hx]at h
        exact ih h
    · rw[if_neg hc,lookup_cons]
      cases hx:x==n with
      | true =>
        rw[hx]at h
        exact .inr h
      | false =>
        rw[hx]at h
        exact ih h
theorem JF {x:Str}:∀{names:List (Str×NameKind)}{n:Nat}{acc:List (Str×Addr)},(x,NameKind.cell)∉names->(cellsFrom n names acc).lookup x=acc.lookup x
  | [],_,_,_=>rfl
  | (m,k)::r,n,acc,h=>by
    unfold cellsFrom
    have hr:(x,NameKind.cell)∉r:=fun z=>h (mem_cons_of_mem _ z)
    split
    · rename_i hk
      rw[JF hr,lookup_cons]
      have hk:k = .cell:=by simpa using hk
      have hx:(x==m)=false:=by
        cases e:x==m with
        | false=>rfl
        | true =>
          have:x=m:=by simpa using e
          exact absurd (by rw[this,hk];exact mem_cons_self) h
      rw[hx]
    · exact JF hr
theorem XW {x:Str}:∀{names:List (Str×NameKind)}{n:Nat}{acc:List (Str×Addr)},(x,NameKind.cell)∈names->∃ c,(cellsFrom n names acc).lookup x=some c∧n<=c
  | (m,k)::r,n,acc,h=>by
    unfold cellsFrom
    by_cases hr:(x,NameKind.cell)∈r
    · split
      · obtain⟨c,e,l⟩:=XW (n:=n+1) (acc:=(m,n)::acc) hr
        exact⟨c,e,by omega⟩
      · exact XW hr
    · rcases List.mem_cons.mp h with h | h
      · cases h
        rw[if_pos (by rfl),JF hr,lookup_cons]
        exact⟨n,by simp,le_refl _⟩
      · exact absurd h hr
theorem cf_sub {x:Str}{c:Addr}{names:List (Str×NameKind)}{n:Nat}{acc:List (Str×Addr)}(e:(cellsFrom n names acc).lookup x=some c):(acc.lookup x=some c∧(x,NameKind.cell)∉names)∨(n<=c∧(x,NameKind.cell)∈names):=by
  by_cases h:(x,NameKind.cell)∈names
  · obtain⟨c',e',l⟩:=XW (n:=n) (acc:=acc) h
    rw[e]at e'
    cases e'
    exact .inr ⟨l,h⟩
  · rw[JF h]at e
    exact .inl ⟨e,h⟩
theorem jdc:∀(names:List (Str×NameKind)) (n:Nat) (acc:List (Str×Addr)),(∀ x c,acc.lookup x=some c->c<n)->(∀ x y c,acc.lookup x=some c->acc.lookup y=some c->x=y)->∀ x y c,(cellsFrom n names acc).lookup x=some c->(cellsFrom n names acc).lookup y=some c->x=y
  | [],_,_,_,h=>h
  | (m,k)::r,n,acc,hl,h=>by
    unfold cellsFrom
    split
    · refine jdc r (n+1) _ (fun x c e=>?_) fun x y c e1 e2=>?_
      · rw[lookup_cons]at e
        split at e
        · cases e;exact lt_succ_self _
        · exact lt_succ_of_lt (hl x c e)
      · rw[lookup_cons]at e1 e2
        cases hx:x==m <;> cases hy:y==m <;> rw[hx]at e1 <;> rw[hy]at e2
        · exact h x y c e1 e2
        · cases e2
          exact absurd (hl x _ e1) (lt_irrefl _)
        · cases e1
          exact absurd (hl y _ e2) (lt_irrefl _)
        · have a:x=m:=by simpa using hx
          have b:y=m:=by simpa using hy
          rw[a,b]
    · exact jdc r n acc hl h
theorem JG {x:Str}{c:Addr}:∀(names:List (Str×NameKind)) (h:Heap) (acc:List (Str×Addr)),(∀ x c,acc.lookup x=some c->∃ v,h.IsCell c v)->(cellsFrom h.objs.size names acc).lookup x=some c->∃ v,(pushCells h names).IsCell c v
  | [],_,_,ha,e=>ha x c e
  | (m,k)::r,h,acc,ha,e=>by
    unfold pushCells
    unfold cellsFrom at e
    split
    · rename_i hk
      rw[if_pos hk]at e
      refine JG r (h.push { cls:=.type "cell",data:=.cell none }) ((m,h.objs.size)::acc) (fun y d q=>?_) (by rw[size_push];exact e)
      rw[lookup_cons]at q
      split at q
      · cases q
        exact⟨none,_,get?_push_size _ rfl,rfl⟩
      · obtain⟨v,hv⟩:=ha y d q
        exact⟨v,hv.keeps fun b o e=>get?_push_of_some _ e⟩
    · rename_i hk
      rw[if_neg hk]at e
      exact JG r h acc ha e
theorem xI {M:Model}{A:Around}{E:Value->Shared->Prop}{s:Shared}{scope:Scope}{globals:Addr}{closure:List (Str×Addr)}{qual:Str}{func:Option Addr}{code:Value}{outer:Env}{builtins:Addr}{Q:Env->Shared->Prop}
    (hQ:Q (newEnv scope s.heap.objs.size globals (cellsFrom (s.heap.objs.size+1) scope.names closure) qual func code (some outer) builtins) { s with heap:=pushCells (s.heap.push { cls:=.type "dict",data:=.dict #[] }) scope.names }) :
    wpAny M A (newFunctionEnv scope globals closure [] qual func code (some outer) builtins) Q E s:=by
  simp only[newFunctionEnv,Option.isSome_some,if_true]
  refine wpAny_bind (wpAny_alloc ?_)
  refine wpAny_bind (wpAny_layCells _ (fun name kind cells=>by cases hkc:kind==NameKind.cell <;> simp[hkc]) _ _ _ _ ?_)
  rw[show({ s with heap:=s.heap.push { cls:=.type "dict",data:=.dict #[] } }:Shared).heap.objs.size=s.heap.objs.size+1 from size_push ..]
  rw[List.forIn_nil]
  exact wpAny_bind (wpAny_pure (wpAny_pure hQ))
theorem UE {h:Heap}{c:Addr}{m:Str->Option Value}(names:List (Str×NameKind))(n:h.Ns c m):(pushCells h names).Ns c m:=n.keeps (fun b o e=>pushCells_keeps names h b o e)
section
variable {X:Cx}{aa:List (Addr×Obj)}{σ:St}{H:Hp}{s:Shared}{osc sc:Scope}{own fr:List Str}{js:List Nat}{fp:List Addr}
theorem jbM (I:Inv X aa σ H s)(ho:X.env.scope=osc)(S:CompScope osc sc own fr):∀ y∈sc.names,y.2 = .free->∃ c,X.env.cells.lookup y.1=some c:=fun y hy e=>by
  refine I.ok.has y.1 ?_
  have h:=S.free y hy e
  rw[<- ho]at h
  exact h
theorem ux (I:Inv X aa σ H s)(ho:X.env.scope=osc)(S:CompScope osc sc own fr){x:Str}{c:Addr}(e:(xG sc X.env).lookup x=some c):X.env.cells.lookup x=some c :=
  XU sc.names [] (jbM I ho S) (fun z=>by cases z) e
theorem jda (S:CompScope osc sc own fr){x:Str}(h:sc.names.lookup x=some .free):∃ c,(xG sc X.env).lookup x=some c :=
  XV sc.names [] (.inr (PySem.mem_of_lookup h))
theorem XX {n:Nat}(I:Inv X aa σ H s)(ho:X.env.scope=osc)(S:CompScope osc sc own fr){x:Str}{c:Addr}(e:(cellsFrom n sc.names (xG sc X.env)).lookup x=some c):X.env.cells.lookup x=some c∨n<=c:=by
  rcases cf_sub e with h | h
  · exact .inl (ux I ho S h.1)
  · exact .inr h.1
theorem cell_lt (I:Inv X aa σ H s){x:Str}{c:Addr}(e:X.env.cells.lookup x=some c):c<s.heap.objs.size:=by
  obtain⟨v,hv⟩:=I.cell x c e
  exact hv.lt
theorem jcR (S:CompScope osc sc own fr){x:Str}(h:sc.names.lookup x=some .free):(x,NameKind.cell)∉sc.names:=fun z=>by
  have:=S.cel _ z rfl
  rw[h]at this
  cases this
theorem jak (S:CompScope osc sc own fr){x:Str}(n:Nat)(h:sc.names.lookup x=some .free):(cellsFrom n sc.names (xG sc X.env)).lookup x=(xG sc X.env).lookup x:=JF (jcR S h)
theorem cx_comp (I:Inv X aa σ H s)(ho:X.env.scope=osc)(S:CompScope osc sc own fr)(hf:∀ b∈fp,yS X aa H b)(aU:∀ b∈fp,b<s.heap.objs.size)(N':List Str):(jQ X N' sc s H fp).Ok where
  mod:=I.ok.mod
  kind:=S.kind
  glob:=I.ok.glob
  blt:=I.ok.blt
  above:=le_refl _
  inj:=jdc _ _ _ (fun x c e=>lt_succ_of_lt (cell_lt I (ux I ho S e))) fun x y c h1 h2=>I.ok.inj x y c (ux I ho S h1) (ux I ho S h2)
  has:=fun x h=>by
    have h:(relabel sc X.env).names.lookup x=some .cell∨(relabel sc X.env).names.lookup x=some .free:=h
    rcases h with h | h
    · rcases xM h with h | ⟨_,h⟩
      · obtain⟨c,e,_⟩:=XW (n:=s.heap.objs.size+1) (acc:=xG sc X.env) (PySem.mem_of_lookup h)
        exact⟨c,e⟩
      · obtain⟨c,e⟩:=jda (X:=X) S h
        exact⟨c,(jak S _ h).trans e⟩
    · rcases xM h with h | ⟨e,_⟩
      · obtain⟨c,e⟩:=jda (X:=X) S h
        exact⟨c,(jak S _ h).trans e⟩
      · cases e
  cab:=fun x c h e=>by
    have h:(sc.names.lookup x==some .cell)=true:=h
    have h:sc.names.lookup x=some .cell:=by simpa using h
    obtain⟨c',e',l⟩:=XW (n:=s.heap.objs.size+1) (acc:=xG sc X.env) (PySem.mem_of_lookup h)
    have e:(cellsFrom (s.heap.objs.size+1) sc.names (xG sc X.env)).lookup x=some c:=e
    rw[e]at e'
    cases e'
    exact Nat.le_of_succ_le l
  hd:=I.ok.hd
  frames:=I.ok.frames
  stk:=.inl rfl
  exf:=fun b hb=>⟨ne_of_lt (aU b hb),fun x c e=>by
    rcases XX I ho S e with z | z
    · exact(hf b hb).2.2.2.2.1 x c z
    · exact ne_of_gt (lt_trans (aU b hb) z)⟩
  bs:=fun b o e=>I.bs b o e
  bsz:=le_trans I.ok.bsz I.sz
  noex:=fun b o e hb=>by
    have h:=I.ok.noex b o e
    have h2:=(hf b hb).2.2.2.1
    rcases h2 with h2 | h2
    · exact h h2
    · have gX:b<X.base.objs.size:=lt_size e
      exact absurd (lt_of_lt_of_le gX (le_trans I.ok.bsz h2)) (lt_irrefl _)
  exfs:=fun b hb hm=>by
    have:=I.stkSub b hm
    rcases List.mem_cons.mp this with z | z
    · exact(hf b hb).2.1 z
    · exact(hf b hb).2.2.1 z
  funs:=I.stack
  frf:=I.stkFree
theorem XD {h':Heap}{tk:Nat}(I:Inv X aa σ H s)(ho:X.env.scope=osc)(S:CompScope osc sc own fr)(hj:js.map (fun j=>X.N[j]?)=fr.map some)(hf:∀ b∈fp,yS X aa H b)(aU:∀ b∈fp,b<s.heap.objs.size)
    (hn:h'.Ns s.heap.objs.size fun _=>none) (hk:∀ b o,s.heap.get? b=some o->h'.get? b=some o) (iy:∀ x c,(cellsFrom (s.heap.objs.size+1) sc.names (xG sc X.env)).lookup x=some c->∃ v,h'.IsCell c v):Inv (jQ X (own++fr) sc s H fp) [] (yY own.length js σ) H { s with heap:=h',toks:=tk }:=by
  refine⟨cx_comp I ho S hf aU _,rfl,I.bare,Un.kept hk,⟨_,hn,fun i x v h1 h2 h3=>?_⟩,fun x c e=>?_,I.hok.fresh (le_refl _),fun x c e=>(XX I ho S e).elim (fun z=>I.freeC x c z) (fun z=>I.hok.fresh (Nat.le_of_succ_le z)),fun p hp=>absurd (show p∈([]:List (Addr×Obj))from hp) (by simp),I.hok.kept hk,?_⟩
  · have h1:(own++fr)[i]? = some x:=h1
    by_cases hi:i<own.length
    · unfold yY at h2
      rw[getElem?_append_left (by simpa using hi),getElem?_replicate]at h2
      split at h2 <;> cases h2
    · have cq:own.length<=i:=le_of_not_lt hi
      rw[getElem?_append_right cq]at h1
      unfold yY at h2
      rw[getElem?_append_right (by simpa using cq),length_replicate,getElem?_map]at h2
      have hx:=congrArg (fun l:List (Option Str)=>l[i-own.length]?) hj
      simp only[getElem?_map,h1,map_some]at hx
      cases ej:js[i-own.length]? with
      | none=>rw[ej]at hx;cases hx
      | some j =>
        rw[ej]at hx h2
        simp only[map_some,Option.some.injEq]at hx h2
        have hsv:σ[j]? = some (some v):=by
          cases es:σ[j]? with
          | none=>rw[es]at h2;cases h2
          | some z=>rw[es]at h2;simp only[getD_some]at h2;rw[h2]
        have gG:=S.nfr x (mem_of_getElem? h1)
        obtain⟨m,hm,hl⟩:=I.loc
        have hv:Vis X.env.scope x:=by
          rw[ho]
          rcases gG.1 with z | z
          · exact .inr (.inl z)
          · exact .inr (.inr z)
        obtain⟨u,ru,lk⟩:=hl j x v hx hsv hv
        refine⟨u,ru,.inr ⟨xz gG.2,?_⟩⟩
        rcases lk with⟨lk,_⟩ | ⟨_,c,ec,ic⟩
        · have lk:X.env.scope.names.lookup x=some .local:=lk
          rw[ho]at lk
          rcases gG.1 with z | z <;> (rw[lk]at z;cases z)
        · obtain⟨c',e'⟩:=jda (X:=X) S gG.2
          have e2:=ux I ho S e'
          rw[ec]at e2
          cases e2
          exact⟨c,(jak S _ gG.2).trans e',ic.keeps hk⟩
  · exact iy x c e
  · have e:=congrArg List.length hj
    simp only[length_map]at e
    show(yY own.length js σ).length=(own++fr).length
    unfold yY
    simp only[length_append,length_replicate,length_map,e]
end
def jiO (J:It)(acc:Addr)(own:Nat)(js:List Nat)(g:TG)(tt:TT)(te:TE)(σ:St)(Q:VK)(H1:Hp):Prop :=
  ∃ W:Nat->Nat->List V->Hp->Prop,(∃ m,W 0 m [] (upd H1 acc (.lst [])))∧∀ i m xs H2,W i m xs H2->(J.stop i H2∧Q (.ref acc) H2) ∨
    (J.go i H2∧xs.length<sizeLine∧∃ N:List V->Hp->Prop,(∀ ys H',N ys H'->∃ m',m'<m∧W (i+1) m' ys H')∧∀ x H3,J.yld i H2 x H3->g x (yY own js σ) H3 fun σ4 H4=>JM (yY own js σ) σ4∧tt σ4 H4 fun b H5 =>
      if b=true then te σ4 H5 fun y H6=>H6 acc=some (.lst xs)∧N (xs++[y]) (upd H6 acc (.lst (xs++[y])))else N xs H5)
def Vq (wi:TI)(own:Nat)(js:List Nat)(g:TG)(tt:TT)(te:TE):TE:=fun σ H Q=>wi σ H fun J H1=>∀ acc,H1 acc=none->jiO J acc own js g tt te σ Q H1
def PIf (X:Cx)(ifs:List Expr)(tt:TT):Prop :=
  ∀(aa:List (Addr×Obj)) (s:Shared) (σ:St) (H:Hp) (Q:Bool->Hp->Prop),Inv X aa σ H s->tt σ H Q ->
    wpAny (model X.prog X.w) X.A (forIn ifs true fun c r=>if r=true then do let ok <- isTrue c X.env (eval c X.env);pure (ForInStep.yield ok)else pure (ForInStep.yield r)) (TP X aa σ Q) X.xe s
def tTrue:TT:=fun _ H Q=>Q true H
theorem if_nil {X:Cx}:PIf X [] tTrue:=fun aa s σ H Q I h=>wpAny_tests_nil ⟨H,I,h⟩
theorem jhH {X:Cx}{c:Expr}{tc:TT}(h:PT X c tc):PIf X [c] tc:=fun aa s σ H Q I q=>wpAny_tests_one (h aa s σ H Q I q)
section
variable {X:Cx}{aa:List (Addr×Obj)}{σ:St}{H:Hp}{s:Shared}{osc sc:Scope}{own fr:List Str}{js:List Nat}{fp:List Addr}
theorem VS {acc:Addr}{s':Shared}{σ':St}{H':Hp}{N':List Str}(I:Inv X aa σ H s)(aB:acc=s.heap.objs.size){tk:Nat}(hf:∀ b∈fp,yS X aa H b)
    (J:Inv (jQ X N' sc { s with heap:=s.heap.push { cls:=.type "list",data:=.seq ([]:List Value).toArray },toks:=tk } (upd H acc (.lst [])) fp) [] σ' H' s'):Inv X aa σ H' s':=by
  subst aB
  refine I.call' J.os ?_ J.hok J.bare fun b hb=>⟨(hf b hb).2.2.2.1,(hf b hb).2.1,(hf b hb).2.2.2.2.1,(hf b hb).2.2.2.2.2⟩
  exact Un.trans (Un.laid (o:=.lst []) (fun b u e=>get?_push_of_some _ e) (le_refl _) (I.hok.fresh (le_refl _))) J.base
theorem VR {ax ab iter:Expr}{ifs:List Expr}{pos:Pos}{it:Addr}{tn:Nat->Heap->Prop}{J:It}{g:TG}{tt:TT}{te:TE}{Q:VK}{RR:Value->Addr->Result->Shared->Prop}{E:Value->Shared->Prop}
    (hc:X.calm=true) (ho:X.env.scope=osc) (S:CompScope osc sc own fr) (hj:js.map (fun j=>X.N[j]?)=fr.map some)
    (hg:∀ s₃ H₃ fp,PG (jQ X (own++fr) sc s₃ H₃ fp) ab g) (ht:∀ s₃ H₃ fp,PIf (jQ X (own++fr) sc s₃ H₃ fp) ifs tt) (he:∀ s₃ H₃ fp,PE (jQ X (own++fr) sc s₃ H₃ fp) ax te)
    (I:Inv X aa σ H s) (T:Turn X.prog X.w X.K ab J fp it tn) (st:tn 0 s.heap) (hf:∀ b∈fp,yS X aa H b)
    (h:∀ acc,H acc=none->jiO J acc own.length js g tt te σ Q H)
    (fin:∀ acc C H' s',Inv X aa σ H' s'->yS X aa H' C->(∃ m,s'.heap.Ns C m)->Q (.ref acc) H'->RR (.ref acc) C (.ok .next) s') :
    wpAny (model X.prog X.w) X.A (newList []) (fun acc s₃=>wpAny (model X.prog X.w) X.A (newFunctionEnv sc X.env.globals (xG sc X.env) [] X.env.qual none .none (some X.env)) (fun cw s₄ =>
      codeAny (model X.prog X.w) X.A (.compStart (.ListComp ax [⟨ab,iter,ifs,0⟩] sc pos) 0 (.ref it) acc { cw with scope:=relabel sc X.env }) (RR acc cw.locals) s₄) E s₃) E s:=by
  obtain⟨W,⟨m0,w0⟩,aA⟩:=h s.heap.objs.size (I.hok.fresh (le_refl _))
  have aU:∀ b∈fp,b<s.heap.objs.size:=fun b hb=>by
    obtain⟨o,e,_⟩:=T.obj _ _ st b hb
    exact lt_size e
  refine wpAny_newList ?_
  have I3:Inv X aa σ (upd H s.heap.objs.size (.lst [])) { s with heap:=s.heap.push { cls:=.type "list",data:=.seq ([]:List Value).toArray } }:=I.lnew (its:=[]) (ys:=[]) (t':=s.toks) .nil (zero_le _)
  have f3:∀ b∈fp,yS X aa (upd H s.heap.objs.size (.lst [])) b:=fun b hb=>⟨by rw[jk (ne_of_lt (aU b hb))];exact(hf b hb).1,(hf b hb).2⟩
  have cj:(s.heap.push { cls:=.type "list",data:=.seq ([]:List Value).toArray }).objs.size=s.heap.objs.size+1:=size_push ..
  refine xI ?_
  dsimp only
  obtain⟨h₁,e₁⟩:∃ h₁,h₁=pushCells ((s.heap.push { cls:=.type "list",data:=.seq ([]:List Value).toArray }).push { cls:=.type "dict",data:=.dict #[] }) sc.names:=⟨_,rfl⟩
  rw[<- e₁]
  have dB:h₁.Ns (s.heap.push { cls:=.type "list",data:=.seq ([]:List Value).toArray }).objs.size fun _=>none:=by
    rw[e₁]
    exact UE _ (Heap.Ns.new ..)
  have b4:∀ b o,(s.heap.push { cls:=.type "list",data:=.seq ([]:List Value).toArray }).get? b=some o->h₁.get? b=some o:=fun b o e=>by
    rw[e₁]
    exact pushCells_keeps _ _ _ _ (get?_push_of_some _ e)
  have dI:∀ x c,(cellsFrom ((s.heap.push { cls:=.type "list",data:=.seq ([]:List Value).toArray }).objs.size+1) sc.names (xG sc X.env)).lookup x=some c->∃ v,h₁.IsCell c v:=fun x c e=>by
    rw[e₁]
    refine JG sc.names _ (xG sc X.env) (fun y d q=>?_) (by rw[size_push];exact e)
    obtain⟨v,hv⟩:=I3.cell y d (ux I3 ho S q)
    exact⟨v,hv.keeps fun b o e=>get?_push_of_some _ e⟩
  have dm:∀ b∈fp,b<(s.heap.push { cls:=.type "list",data:=.seq ([]:List Value).toArray }).objs.size:=fun b hb=>by rw[cj];exact lt_succ_of_lt (aU b hb)
  have I4:=XD (own:=own) (fr:=fr) (js:=js) (tk:=s.toks) I3 ho S hj f3 dm dB b4 dI
  have eQ:tn 0 h₁:=T.keep _ _ _ st fun b _ o e=>b4 b o (get?_push_of_some _ e)
  have dH:∀{H':Hp},(∀ b∈fp,H' b=none)->∀ b∈fp,yS (jQ X (own++fr) sc { s with heap:=s.heap.push { cls:=.type "list",data:=.seq ([]:List Value).toArray } } (upd H s.heap.objs.size (.lst [])) fp) [] H' b:=fun hn b hb =>
    ⟨hn b hb,ne_of_lt (dm b hb),fun hm=>by
      rcases List.mem_cons.mp (I.stkSub b hm)with z | z
      · exact(hf b hb).2.1 z
      · exact(hf b hb).2.2.1 z,.inl hb,fun x c e=>(XX I3 ho S e).elim (fun z=>(hf b hb).2.2.2.2.1 x c z) (fun z=>ne_of_gt (lt_trans (dm b hb) z)),fun p hp=>absurd (show p∈([]:List (Addr×Obj))from hp) (by simp)⟩
  have aW:∀ s₃:Shared,s₃={ s with heap:=h₁ } ->
      codeAny (model X.prog X.w) X.A (.compLoop (.ListComp ax [⟨ab,iter,ifs,0⟩] sc pos) 0 (.ref it) (.ref s.heap.objs.size) (compEnvC sc (cellsFrom ((s.heap.push { cls:=.type "list",data:=.seq ([]:List Value).toArray }).objs.size+1) sc.names (xG sc X.env)) (s.heap.push { cls:=.type "list",data:=.seq ([]:List Value).toArray }).objs.size X.env))
        (RR (.ref s.heap.objs.size) (s.heap.push { cls:=.type "list",data:=.seq ([]:List Value).toArray }).objs.size) s₃:=by
    rintro s₃ rfl
    refine jab (fun n s'=>∃ i xs σ' H',Inv (jQ X (own++fr) sc { s with heap:=s.heap.push { cls:=.type "list",data:=.seq ([]:List Value).toArray } } (upd H s.heap.objs.size (.lst [])) fp) [] σ' H' s'∧JM (yY own.length js σ) σ'∧tn i s'.heap∧(∀ b∈fp,H' b=none)∧W i n xs H')
      ?_ m0 ⟨0,[],_,_,I4,JM.refl _,eQ,fun b hb=>(f3 b hb).1,w0⟩
    rintro n s5 ⟨i,xs,σ5,H5,I5,k5,bJ,cP,w5⟩
    have eZ:=I5.weak (σ':=yY own.length js σ) k5.1.symm k5.2
    have cV:(jQ X (own++fr) sc { s with heap:=s.heap.push { cls:=.type "list",data:=.seq ([]:List Value).toArray } } (upd H s.heap.objs.size (.lst [])) fp).calm=true:=hc
    rcases aA i n xs H5 w5 with⟨stop,qn⟩ | ⟨go,hz,N,hN,step⟩
    · refine thn (T.done (jQ X (own++fr) sc { s with heap:=s.heap.push { cls:=.type "list",data:=.seq ([]:List Value).toArray } } (upd H s.heap.objs.size (.lst [])) fp) rfl rfl rfl cV i [] s5 _ H5 _ eZ (dH cP) bJ stop) fun r s6 ae=>?_
      obtain⟨hr,I6⟩:=ae
      subst hr
      have B:=VS I rfl (tk:=s.toks) hf I6
      refine fin _ _ H5 s6 B ?_ ?_ qn
      · refine I.fpOk ?_ I6.free
        show s.heap.objs.size<=(s.heap.push { cls:=.type "list",data:=.seq ([]:List Value).toArray }).objs.size
        rw[cj]
        exact le_succ _
      · obtain⟨m,hm,_⟩:=I6.loc
        exact⟨m,hm⟩
    · refine thn (T.item (jQ X (own++fr) sc { s with heap:=s.heap.push { cls:=.type "list",data:=.seq ([]:List Value).toArray } } (upd H s.heap.objs.size (.lst [])) fp) rfl rfl rfl cV i [] s5 _ H5 _ eZ (dH cP) bJ go) fun r s6 ae=>?_
      obtain⟨u,hr,h6⟩:=ae
      subst hr
      refine thn h6 fun _ s7 ae=>?_
      obtain⟨x,H7,I7,r7,y7,df,g7⟩:=ae
      have hZ:=I7.pinned (dH g7) (T.obj _ _ df)
      have again:∀{s9:Shared}{σ9:St}{H9:Hp}{ys:List V}{m':Nat},Inv (jQ X (own++fr) sc { s with heap:=s.heap.push { cls:=.type "list",data:=.seq ([]:List Value).toArray } } (upd H s.heap.objs.size (.lst [])) fp) ([]++Xo fp s7.heap) σ9 H9 s9 ->
          JM (yY own.length js σ) σ9->m'<n->W (i+1) m' ys H9->∃ m,m<n∧∃ i xs σ' H',Inv (jQ X (own++fr) sc { s with heap:=s.heap.push { cls:=.type "list",data:=.seq ([]:List Value).toArray } } (upd H s.heap.objs.size (.lst [])) fp) [] σ' H' s9∧JM (yY own.length js σ) σ'∧tn i s9.heap∧(∀ b∈fp,H' b=none)∧W i m xs H':=fun{s9 σ9 H9 ys m'} I9 k9 hm w9=>by
        refine⟨m',hm,i+1,ys,σ9,H9,I9.unpinned,k9,T.keep _ _ _ df fun b hb o e=>(I9.pin (b,o) (mem_append_right _ (mem_append_right _ (yp hb e)))).1,fun b hb=>?_,w9⟩
        obtain⟨o,e,d⟩:=T.obj _ _ df b hb
        exact(I9.pin (b,o) (mem_append_right _ (mem_append_right _ (yp hb e)))).2.1
      refine thn (hg _ _ _ _ s7 _ H7 x u _ hZ r7 (step x H7 y7)) fun _ s8 ae=>?_
      obtain⟨σ8,H8,I8,k8,q8⟩:=ae
      refine thn (ht _ _ _ _ s8 σ8 H8 _ I8 q8) fun b s9 ae=>?_
      obtain⟨H9,I9,q9⟩:=ae
      cases b with
      | false =>
        rw[if_neg (by simp)]
        rw[if_neg (by simp)]at q9
        obtain⟨m',hm,w9⟩:=hN _ _ q9
        exact again I9 k8 hm w9
      | true =>
        rw[if_pos rfl]
        rw[if_pos rfl]at q9
        refine thn (he _ _ _ _ s9 σ8 H9 _ I9 q9) fun y ie ae=>?_
        obtain⟨v,gm,h9,gv,kc,iP⟩:=ae
        obtain⟨m',hm,w10⟩:=hN _ _ iP
        refine thn (JW _ ie σ8 gm (.ref s.heap.objs.size) [v] (.ref s.heap.objs.size) [y] (fun z ia=>z = .non∧ia=upd gm s.heap.objs.size (.lst (xs++[v]))) h9 rfl (.cons gv .nil) ⟨_,xs,v,rfl,rfl,kc,hz,rfl,rfl⟩) fun z s11 ae=>?_
        obtain⟨z',ia,kf,_,_,j6⟩:=ae
        subst j6
        exact again kf k8 hm w10
  exact codeAny_compStart_list (aW _ rfl) (T.self _ 0 _ _ _ eQ (aW _ rfl))
end
section
variable {X:Cx}{osc sc:Scope}{own fr:List Str}{js:List Nat}{ax ab iter:Expr}{ifs:List Expr}{pos:Pos}{wi:TI}{g:TG}{tt:TT}{te:TE}
theorem pe_comp (hc:X.calm=true)(ho:X.env.scope=osc)(S:CompScope osc sc own fr)(hj:js.map (fun j=>X.N[j]?)=fr.map some)(hi:PI X ab iter wi)
    (hg:∀ s₃ H₃ fp,PG (jQ X (own++fr) sc s₃ H₃ fp) ab g) (ht:∀ s₃ H₃ fp,PIf (jQ X (own++fr) sc s₃ H₃ fp) ifs tt) (he:∀ s₃ H₃ fp,PE (jQ X (own++fr) sc s₃ H₃ fp) ax te)
    (hs:∀ x,foldedSetIterable iter X.env x=pure x:=by intro _;rfl):PE X (.ListComp ax [⟨ab,iter,ifs,0⟩] sc pos) (Vq wi own.length js g tt te):=by
  intro aa s σ H Q I h
  rw[eval_ListComp]
  refine wpAny_comprehension_free (use:=none) rfl hs (vL (jbM I ho S)) S.kind S.loc (thn (hi aa s σ H _ I h) fun v s1 h1=>thn h1 fun eS s2 h2=>?_)
  obtain⟨it,fp,tn,J,H2,e,I2,T,cH,f2,q2⟩:=h2
  subst e
  refine VR (RR:=fun acc C=>compPost (model X.prog X.w) X.A X.xe none (EP X aa σ Q) acc C) hc ho S hj hg ht he I2 T cH f2 q2 fun acc C H' s' J hC hn q=>?_
  obtain⟨m,hm⟩:=hn
  refine⟨m,hm,fun h' ck=>⟨.ref acc,H',?_,rfl,q⟩⟩
  obtain⟨f0,f1,j5,f3,f4,f5⟩:=hC
  exact J.turned (t':=s'.toks) (fun b o hb e=>ck.extBut b o hb e) f0 f1 f3 f4 f5
theorem jdZ {i:Nat}{x:Str}{px b8:Pos}(hc:X.calm=true)(ho:X.env.scope=osc)(S:CompScope osc sc own fr)(hj:js.map (fun j=>X.N[j]?)=fr.map some)(hN:X.N.Nodup)(cq:X.N[i]? = some x)(hx:X.env.scope.names.lookup x=some .local)
    (hi:PI X ab iter wi) (hg:∀ s₃ H₃ fp,PG (jQ X (own++fr) sc s₃ H₃ fp) ab g) (ht:∀ s₃ H₃ fp,PIf (jQ X (own++fr) sc s₃ H₃ fp) ifs tt) (he:∀ s₃ H₃ fp,PE (jQ X (own++fr) sc s₃ H₃ fp) ax te)
    (fB:swapsWith (.ListComp ax [⟨ab,iter,ifs,0⟩] sc pos) (some (.Name x px)) b8.line X.env=pure true)
    (hs:∀ x,foldedSetIterable iter X.env x=pure x:=by intro _;rfl):PS X (.Assign [.Name x px] (.ListComp ax [⟨ab,iter,ifs,0⟩] sc pos) b8) (jiU (Vq wi own.length js g tt te) (vo i)):=by
  intro aa s σ H D I h
  rw[exec_Assign_Name_used _ _ _ _ fB]
  refine wpAny_bind (wpAny_standAt (wpAny_bind ?_))
  show wpAny _ X.A (do let _ <- comprehension (.ListComp ax [⟨ab,iter,ifs,0⟩] sc pos) sc X.env _ (newList []) false (eval iter X.env) (some (assign (.Name x px) X.env))) _ _ s
  refine wpAny_bind (wpAny_mono (wpAny_comprehension_free (use:=some (assign (.Name x px) X.env)) (Q:=fun _ s'=>SP X aa D .next s') rfl hs (vL (jbM I ho S)) S.kind S.loc (thn (hi aa s σ H _ I h) fun v s1 h1=>thn h1 fun eS s2 h2=>?_))
    (fun _ s' hq=>wpAny_pure (wpAny_pure hq)) fun _ _ e=>e)
  obtain⟨it,fp,tn,J,H2,e,I2,T,cH,f2,q2⟩:=h2
  subst e
  refine VR (Q:=fun v H'=>vo i v σ H' D.nx) (RR:=fun acc C=>compPost (model X.prog X.w) X.A X.xe (some (assign (.Name x px) X.env)) (fun _ s'=>SP X aa D .next s') acc C) hc ho S hj hg ht he I2 T cH f2 q2 fun acc C H' s' J hC hn q=>?_
  obtain⟨m,hm⟩:=hn
  obtain⟨f0,f1,j5,f3,f4,f5⟩:=hC
  show wpAny _ X.A (assign (.Name x px) X.env (.ref acc)) _ _ _
  refine wpAny_assign_Name (Vr J hN cq (.inl hx) (v:=.ref acc) rfl (fun gu J' fC=>?_) (.inr hx))
  obtain⟨a,fC,ha⟩:=fC
  have hCa:C≠a:=by
    rcases ha with rfl | ha
    · exact f1
    · exact(f4 x a ha).symm
  refine⟨m,hm.sameBut fC hCa,fun h' ck=>⟨_,H',?_,q⟩⟩
  exact J'.turned (t':=gu.toks) (fun b o hb e=>ck.extBut b o hb e) f0 f1 f3 f4 f5
end
section
variable {X:Cx}
theorem UM:∀{ns:List Int}{us:List Value},yf (ns.map V.int) us->IntsAre us ns:=fun h=>jcK h
theorem Uj {ns:List Int}{us:List Value}(h:IntsAre us ns):yf (ns.map V.int) us:=Vn h
theorem YJ:∀{xs:List V}{us:List Value},yf xs us->∀(j:Nat) (h:j<us.length),yi (xs.getD j .non) us[j]
  | _,_,.nil,j,h=>absurd h (not_lt_zero _)
  | _::_,_::_,.cons r t,0,_=>r
  | _::_,_::_,.cons r t,j+1,h=>by
    have:=YJ t j (Nat.lt_of_succ_lt_succ h)
    simpa using this
theorem Ub {α:Type}(d:α)(f:α->Bool):∀(bs:List α),((List.range bs.length).all fun i=>f (bs.getD i d))=bs.all f
  | []=>rfl
  | b::r=>by
    rw[length_cons,range_succ_eq_map,all_cons,all_map,all_cons]
    have ih:=Ub d f r
    rw[<- ih]
    rfl
theorem jfP (hc:X.calm=true):yM X (.builtin "all") (fun xs H Q=>∃(p:Addr) (bs:List Bool),xs=[.ref p]∧SqL X.K H p (bs.map V.bl)∧Q (.bl (bs.all id)) H):=by
  intro aa s σ H xs us Q I r h
  obtain⟨p,bs,rfl,hq,q⟩:=h
  obtain⟨u,rfl,rx⟩:=Vo r
  cases rx
  obtain⟨its,r',pl,hz⟩:=I.list hq
  have aq:=r'.length
  rw[length_map]at aq
  have aU:p<s.heap.objs.size:=by obtain⟨_,e,_⟩:=pl.isList;exact lt_size e
  refine call_all_walk (wpAny_pyIter_list pl.isList ?_)
  refine⟨_,_,_,_,_,_,fun i=>id (bs.getD i true),rfl,Walks.list (A:=X.A.in1) (I.ok.hd hc) _ p (ne_of_lt aU) its.toArray,⟨⟨_,get?_push_size _ rfl,rfl,rfl⟩,pl.isList.push _⟩,?_,fun h' tk hk=>?_⟩
  · intro i v s' Q' E' hP hQ
    have hi:i<its.length:=by
      have:=(Array.getElem?_eq_some_iff.mp hP).1
      simpa using this
    have hv:v=its[i]:=by
      have:=(Array.getElem?_eq_some_iff.mp hP).2
      simpa using this.symm
    have rv:=YJ r' i hi
    have e:(bs.map V.bl).getD i .non=V.bl (bs.getD i true):=by
      rw[getD_eq_getElem?_getD,getD_eq_getElem?_getD,getElem?_map,getElem?_eq_getElem (by omega)]
      rfl
    rw[e]at rv
    have rv:its[i]=Value.bool (bs.getD i true):=rv
    rw[hv,rv]
    exact wpAny_truthy_bool hQ
  · have e:((List.range its.toArray.size).all fun i=>id (bs.getD i true))=bs.all id:=by
      rw[size_toArray,<- aq]
      exact Ub true id bs
    rw[e]
    exact⟨.bl _,H,I.kept (old_kept hk),rfl,q⟩
def jbu:List V->List V->Bool
  | [],[]=>true
  | x::xs,y::ys=>eqV x y && jbu xs ys
  | _,_=>false
theorem jbt:∀{xs ys:List V},xs.length≠ys.length->jbu xs ys=false
  | [],[],h=>absurd rfl h
  | [],_::_,_=>rfl
  | _::_,[],_=>rfl
  | x::xs,y::ys,h=>by
    have:jbu xs ys=false:=jbt fun e=>h (by simp[e])
    simp[jbu,this]
theorem XN:∀{xs ys:List V},xs.length=ys.length->((List.range xs.length).all fun i=>eqV (xs.getD i .non) (ys.getD i .non))=jbu xs ys
  | [],[],_=>rfl
  | x::xs,y::ys,h=>by
    rw[length_cons,range_succ_eq_map,all_cons,all_map]
    have ih:=XN (xs:=xs) (ys:=ys) (by simpa using h)
    show(eqV x y && _)=(eqV x y && jbu xs ys)
    rw[<- ih]
    rfl
  | [],_::_,h=>by simp at h
  | _::_,[],h=>by simp at h
theorem VN {xs:List V}(h:xs.all Yw=true)(i:Nat):Yw (xs.getD i .non)=true:=by
  rw[getD_eq_getElem?_getD]
  cases e:xs[i]? with
  | none=>rfl
  | some v=>exact List.all_eq_true.mp h v (mem_of_getElem? e)
def rEqL (K:Frag)(neg:Bool):R2:=fun x y H Q=>∃ a b xs ys,x = .ref a∧y = .ref b∧SqL K H a xs∧SqL K H b ys∧xs.all Yw=true∧ys.all Yw=true∧Q (.bl (if neg then !jbu xs ys else jbu xs ys)) H
theorem jhx {aa:List (Addr×Obj)}{s:Shared}{σ:St}{H:Hp}{a b:Addr}{xs ys:List V}(I:Inv X aa σ H s)(ha:SqL X.K H a xs)(hb:SqL X.K H b ys)(fx:xs.all Yw=true)(fy:ys.all Yw=true) :
    ∃ items bw:Array Value,s.heap.IsList a items∧s.heap.IsList b bw∧items.size=xs.length∧bw.size=ys.length ∧
      ∀ A j (h1:j<items.size) (h2:j<bw.size),SeqAt.EqAt A s items[j] bw[j] (eqV (xs.getD j .non) (ys.getD j .non)):=by
  obtain⟨its,r,pl,hz⟩:=I.list ha
  obtain⟨dw,r2,pl2,iS⟩:=I.list hb
  refine⟨its.toArray,dw.toArray,pl.isList,pl2.isList,by simp[r.length],by simp[r2.length],fun A j h1 h2=>?_⟩
  have q1:=YJ r j (by simpa using h1)
  have q2:=YJ r2 j (by simpa using h2)
  have:=eqAt_V (A:=A) (s:=s) q1 q2 (VN fx j) (VN fy j)
  simpa using this
theorem op_neL (hu:X.A.units<cLine):OpR X (compareOp .NotEq) (rEqL X.K true):=by
  intro aa s σ H x y v u Q I rx ry h
  obtain⟨a,b,xs,ys,rfl,rfl,ha,hb,fx,fy,q⟩:=h
  cases rx
  cases ry
  obtain⟨items,bw,l1,l2,s1,s2,he⟩:=jhx I ha hb fx fy
  by_cases hl:xs.length=ys.length
  · refine SeqAt.RcNeAt.lists l1 l2 (by omega) hu (fun j h1 h2=>he _ j h1 h2) _ _ _ _ ⟨.bl _,H,I,rfl,?_⟩
    rw[s1,XN hl]
    exact q
  · refine SeqAt.RcNeAt.lists_lengths l1 l2 (by simp;omega) hu _ _ _ _ ⟨.bl _,H,I,rfl,?_⟩
    rw[jbt hl]at q
    exact q
end
theorem vM:bootBuiltins "len" = some (.builtin "len"):=by decide +kernel
theorem uH:bootBuiltins "sorted" = some (.builtin "sorted"):=by decide +kernel
theorem jaj:bootBuiltins "all" = some (.builtin "all"):=by decide +kernel
theorem jH:bootBuiltins "isinstance" = some (.builtin "isinstance"):=by decide +kernel
theorem jiy:bootBuiltins "int" = some (.type "int"):=by decide +kernel
theorem jeG:bootBuiltins "bool" = some (.type "bool"):=by decide +kernel
theorem YS:bootBuiltins "list" = some (.type "list"):=by decide +kernel
theorem jbP:bootBuiltins "tuple" = some (.type "tuple"):=by decide +kernel
structure Bl (mg:Str->Option Value):Prop where
  no:∀ x∈(["len","sorted","min","max","sum","all","isinstance","int","bool","list","tuple","range"]:List Str),mg x=none
namespace Bl
variable {mg:Str->Option Value}
theorem all (B:Bl mg):mg "all" = none:=B.no _ (by simp)
theorem int (B:Bl mg):mg "int" = none:=B.no _ (by simp)
theorem range (B:Bl mg):mg "range" = none:=B.no _ (by simp)
end Bl
theorem hu0 {A:Around}{k:Nat}(hr:Room k A):A.units<cLine:=hr.units0
def But (bs:List Addr)(H H':Hp):Prop:=∀ b o,H b=some o->b∉bs->H' b=some o
theorem But.trans {bs:List Addr}{H H1 H2:Hp}(a:But bs H H1)(b:But bs H1 H2):But bs H H2:=fun c o e n=>b c o (a c o e n) n
theorem jfF (o:Obj)(f):(o.mapFields f).dict=o.dict:=by
  obtain⟨c,d,dt,sl⟩:=o
  cases dt <;> rfl
def TrD (h base:Heap)(e:Addr)(cls:Value)(dd:Option Addr)(fl:Value):Prop :=
  ∃ oe vs T oT ts,h.get? e=some oe∧(oe.cls=cls∧oe.dict=dd)∧oe.data = .fields vs∧vs[1]? = some (.ref T)∧(base.get? T=none∧T≠e)∧h.get? T=some oT∧oT.data = .fields ts∧ts[3]? = some fl
def FlD (base:Heap)(l:List Env)(e:Addr)(cls:Value)(dd:Option Addr)(h:Heap):Prop :=
  base.StaysIn h∧base.get? e=none∧h.FunFrames base l∧TrD h base e cls dd .none
def HdD (base:Heap)(l:List Env)(e:Addr)(cls:Value)(dd:Option Addr)(L:Addr)(h:Heap):Prop :=
  base.StaysIn h∧base.get? e=none∧h.FunFrames base l∧TrD h base e cls dd (rawInt L)
section
variable {M:Model}{A:Around}{E:Value->Shared->Prop}{s:Shared}{base:Heap}{env:Env}{outer l:List Env}{L e:Addr}{cls:Value}{dd:Option Addr}{Q:Unit->Shared->Prop}
theorem entryD {oe:Obj}{vs:Array Value}{head:Value}{hn:Bool}(fr:A.frames=some (env::outer))(ff:s.heap.FunFrames base (env::outer))(fL:env.frame=some L)
    (he:s.heap.get? e=some oe) (kb:base.StaysIn s.heap) (en:base.get? e=none) (hd:oe.data = .fields vs) (sz:1<vs.size)
    (q:∀ h',HdD base (env::outer) e oe.cls oe.dict L h'->s.heap.UpToSlots h'->Q () { s with heap:=h' }) :
    wpAny M A (frameOf env >>= fun a=>entryPlaceOf L hn >>= fun pl=>EntryCells.newEntry head a .none (rawInt L) .none pl >>= fun b=>setField (.ref e) 1 b) Q E s:=by
  have ne:e∉(env::outer).filterMap (·.frame):=fun hm=>by
    obtain⟨_,o,ho,nf⟩:=ff.mem hm
    rw[he]at ho
    cases ho
    exact nf vs hd
  refine wpAny_bind (wpAny_frameOf_fun fr ff fL fun h1 k1=>?_)
  refine wpAny_bind (wpAny_entryPlaceOf fun pl aX=>?_)
  unfold EntryCells.newEntry newFields
  refine wpAny_bind (wpAny_newObj_type ?_ (aX.sizeOk5 _ _ _ _ _))
  have e1:h1.get? e=some oe:=(k1.2.1 e ne).trans he
  have b1:base.StaysIn h1:=fun b o z=>(k1.2.1 b fun hm=>by rw[(ff.mem hm).1]at z;cases z).trans (kb b o z)
  generalize hob:({ cls:=.type "traceback",dict:=none,data:=.fields ([head,.ref L,.none,rawInt L,.none]++(if pl.isEmpty then replicate 6 Value.none else pl)).toArray }:Obj)=ob
  have nf:ob.isFreed=false:=by rw[<- hob];rfl
  have e2:=get?_push_of_some (h:=h1) ob e1
  have tne:h1.objs.size≠e:=ne_of_gt (lt_size e1)
  have d3:=Obj.data_mapFields hd (·.setIfInBounds 1 (Value.ref h1.objs.size))
  have e3:=get?_update_self (Obj.mapFields (·.setIfInBounds 1 (Value.ref h1.objs.size))) e2 (Obj.isFreed_of_fields d3)
  have t3:=(get?_update_other (h1.push ob) (Obj.mapFields (·.setIfInBounds 1 (Value.ref h1.objs.size))) (Ne.symm tne)).trans (get?_push_size h1 nf)
  refine wpAny_setField e2 hd sz (q _ ?_ ?_)
  · have kp:∀ b o,b≠e->h1.get? b=some o->((h1.push ob).update e (Obj.mapFields (·.setIfInBounds 1 (Value.ref h1.objs.size)))).get? b=some o:=fun b o z y=>by
      rw[get?_update_other _ _ (Ne.symm z)]
      exact get?_push_of_some _ y
    refine⟨fun b o z=>kp b o (fun y=>by rw[y,en]at z;cases z) (b1 b o z),en,ff.of_keeps fun b o z iO=>?_,_,_,h1.objs.size,ob,_,e3,⟨Obj.cls_mapFields _ _,jfF _ _⟩,d3,by simp[sz],⟨b1.fresh,tne⟩,t3,by rw[<- hob],?_⟩
    · obtain⟨sl,y⟩:=k1.2.2 b o z
      exact⟨_,kp b _ (fun w=>by rw[w,he]at z;cases z;exact iO vs hd) y,rfl⟩
    · rcases aX with rfl | ⟨_,_,_,_,_,_,_,rfl⟩ <;> simp
  · intro b o z iO
    obtain⟨sl,y⟩:=k1.2.2 b o z
    refine⟨sl,?_⟩
    rw[get?_update_other _ _ (fun w:e=b=>by rw[<- w,he]at z;cases z;exact iO vs hd)]
    exact get?_push_of_some _ y
theorem noteD2 (fr:A.frames=some (env::outer))(fL:env.frame=some L)(fl:FlD base (env::outer) e cls dd s.heap)
    (q:∀ h',HdD base (env::outer) e cls dd L h'->s.heap.UpToSlots h'->Q () { s with heap:=h' }):wpAny M A (noteFrame (.ref e) env) Q E s:=by
  obtain⟨kb,en,ff,oe,vs,T,oT,ts,he,⟨rfl,rfl⟩,hd,h1,⟨nT,Te⟩,hT,dT,h3⟩:=fl
  unfold noteFrame
  simp only[fL]
  refine wpAny_bind (wpAny_field he hd h1 ?_)
  rw[if_pos (show(Value.ref T != Value.none)=true from by simp)]
  refine wpAny_bind (wpAny_field hT dT h3 ?_)
  rw[if_neg (show ¬((Value.none==rawInt L)=true)from by simp[rawInt])]
  refine wpAny_bind (wpAny_setField hT dT (Array.getElem?_eq_some_iff.mp h3).1 ?_)
  have ot:∀ b,b≠T->(s.heap.update T (Obj.mapFields (·.setIfInBounds 3 Value.none))).get? b=s.heap.get? b:=fun b z=>get?_update_other _ _ (Ne.symm z)
  have nr:∀ b o,s.heap.get? b=some o->(∀ ws,o.data≠.fields ws)->b≠T:=fun b o z y w=>by
    rw[w,hT]at z
    cases z
    exact y ts dT
  refine entryD fr (ff.of_keeps fun b o z y=>⟨o,(ot b (nr b o z y)).trans z,rfl⟩) fL ((ot e (Ne.symm Te)).trans he) (fun b o z=>(ot b fun w=>by rw[w,nT]at z;cases z).trans (kb b o z)) en hd (Array.getElem?_eq_some_iff.mp h1).1 fun h' x1 x2=>q h' x1 fun b o z y=>x2 b o ((ot b (nr b o z y)).trans z) y
theorem flightD {fl:Value}(kb:base.StaysIn s.heap)(en:base.get? e=none)(ff:s.heap.FunFrames base l)(tr:TrD s.heap base e cls dd fl)
    (q:∀ h',FlD base l e cls dd h'->s.heap.UpToSlots h'->Q () { s with heap:=h' }):wpAny M A (setFlight (.ref e) none) Q E s:=by
  obtain⟨oe,vs,T,oT,ts,he,hc,hd,h1,⟨nT,Te⟩,hT,dT,h3⟩:=tr
  have sz:3<ts.size:=(Array.getElem?_eq_some_iff.mp h3).1
  have ot:∀ b,b≠T->(s.heap.update T (Obj.mapFields (·.setIfInBounds 3 ((none:Option Addr).elim Value.none fun f=>rawInt f)))).get? b=s.heap.get? b:=fun b z=>get?_update_other _ _ (Ne.symm z)
  have nr:∀ b o,s.heap.get? b=some o->(∀ ws,o.data≠.fields ws)->b≠T:=fun b o z y w=>by
    rw[w,hT]at z
    cases z
    exact y ts dT
  unfold setFlight
  refine wpAny_bind (wpAny_field he hd h1 ?_)
  rw[if_pos (show(Value.ref T != Value.none)=true from by simp)]
  refine wpAny_setField hT dT sz (q _ ⟨fun b o z=>(ot b fun w=>by rw[w,nT]at z;cases z).trans (kb b o z),en,ff.of_keeps fun b o z y=>⟨o,(ot b (nr b o z y)).trans z,rfl⟩,
    oe,vs,T,_,_,(ot e (Ne.symm Te)).trans he,hc,hd,h1,⟨nT,Te⟩,get?_update_self _ hT (Obj.isFreed_of_fields (Obj.data_mapFields dT _)),Obj.data_mapFields dT _,by simp[sz]⟩ fun b o z y=>⟨o.slots,(ot b (nr b o z y)).trans z⟩)
theorem landD (hh:HdD base l e cls dd L s.heap)(q:∀ h',FlD base l e cls dd h'->s.heap.UpToSlots h'->Q () { s with heap:=h' }):wpAny M A (setFlight (.ref e) none) Q E s:=by
  obtain⟨f1,f2,f3,f4⟩:=hh
  exact flightD f1 f2 f3 f4 q
theorem FlD.pop {h:Heap}(f:FlD base (env::outer) e cls dd h):FlD base outer e cls dd h:=by
  obtain⟨f1,f2,⟨_,_,f3⟩,f4⟩:=f
  exact⟨f1,f2,f3,f4⟩
theorem leaveD (fr:A.frames=some (env::outer))(fL:env.frame=some L)(fl:FlD base (env::outer) e cls dd s.heap)
    (q:∀ h',FlD base outer e cls dd h'->s.heap.UpToSlots h'->Q () { s with heap:=h' }):wpAny M A («leaving» env (.ref e)) Q E s:=by
  unfold «leaving»
  refine wpAny_bind (noteD2 fr fL fl fun h1 hd1 up1=>landD (s:={ s with heap:=h1 }) hd1 fun h2 j4 up2=>q h2 j4.pop (up1.trans up2))
end
section
variable {P:Program}{w:World}{H:Hp}{h h':Heap}{a:Addr}{o:HO}
theorem HOk.moved (x:HOk P w H h)(k:∀ b o u,H b=some o->h.get? b=some u->h'.get? b=some u):HOk P w H h':=fun a o e =>
  (x a o e).stay (fun b u hb q=>by
    rcases hb with rfl | hb
    · exact k _ _ u e q
    · exact k _ _ u hb q) (fun _ z=>z) fun _ _ z=>z
end
def CX1 (P:Program)(w:World):CXT:=fun outer H s E e s'=>∃(ea C:Addr) (dd:Option Addr) (H':Hp) (B:Heap),e = .ref ea∧s'.os=s.os∧AllBare s'.gens∧FlD B outer ea (.ref C) dd s'.heap ∧
  (∀ b o,s.heap.get? b=some o->H b=none->b∉frs outer->B.get? b=some o)∧(∀ b o,s.heap.get? b=some o->b∉frs outer->∃ o',B.get? b=some o') ∧
  (∀ b o,H' b=some o->∃ u,B.get? b=some u)∧Un (frs outer) [] H H' s.heap s'.heap∧HOk P w H' s'.heap∧E (.ref C) dd H'
theorem CX1.step {P:Program}{w:World}{outer:List Env}{H₀ H':Hp}{s₀ s':Shared}{h iC:Heap}{B:Heap}{ea C:Addr}{dd:Option Addr}{E:XK}(ho:s'.os=s₀.os)(hb:AllBare s'.gens)
    (fl:FlD B outer ea (.ref C) dd iC) (up:h.UpToSlots iC) (st:B.StaysIn h) (hfr:∀ b∈frs outer,H₀ b=none) (hff:∀ b∈frs outer,∀ o,h.get? b=some o->∀ vs,o.data≠.fields vs)
    (k1:∀ b o,s₀.heap.get? b=some o->H₀ b=none->b∉frs outer->B.get? b=some o) (k2:∀ b o,s₀.heap.get? b=some o->b∉frs outer->∃ o',B.get? b=some o')
    (k3:∀ b o,H' b=some o->∃ u,B.get? b=some u) (u:Un (frs outer) [] H₀ H' s₀.heap h) (hok:HOk P w H' h) (q:E (.ref C) dd H'):CX1 P w outer H₀ s₀ E (.ref ea) { s' with heap:=iC }:=by
  have slot:∀ b o,s₀.heap.get? b=some o->H₀ b=none->b∈frs outer->∃ sl,iC.get? b=some { o with slots:=sl }:=fun b o e n hm=>by
    obtain⟨sl,e1⟩:=u.slot b o e n hm (by simp)
    obtain⟨gr,e2⟩:=up b _ e1 (hff b hm _ e1)
    exact⟨gr,e2⟩
  refine⟨ea,C,dd,H',B,rfl,ho,hb,fl,k1,k2,k3,⟨fun b o e n hm _=>fl.1 b o (k1 b o e n hm),fun b o e n hm _=>slot b o e n hm,u.free,fun b o e _=>?_,u.tups,u.frzs,u.tbls⟩,?_,q⟩
  · by_cases hm:b∈frs outer
    · obtain⟨sl,e2⟩:=slot b o e (hfr b hm) hm
      exact⟨_,e2⟩
    · obtain⟨o',e2⟩:=k2 b o e hm
      exact⟨o',fl.1 b o' e2⟩
  · refine hok.moved fun b o u' e q'=>?_
    obtain⟨u2,e2⟩:=k3 b o e
    have e3:=st b u2 e2
    rw[q']at e3
    cases e3
    exact fl.1 b _ e2
section
variable {P:Program}{w:World}{K:Frag}{mg:Str->Option Value}{base:Heap}{N:List Str}{qual:Str}{scope:Scope}{f:Addr}{cd:Value}{A:Around}{outer:List Env}{s₀:Shared}{H₀:Hp}{E:XK}
theorem jeq {b:Addr}{o:Obj}(e:s₀.heap.get? b=some o)(hm:b∉frs outer):b∉frs (envOfC qual scope s₀.heap.objs.size f cd::outer):=fun hb=>by
  have hb:b∈s₀.heap.objs.size::frs outer:=hb
  rcases List.mem_cons.mp hb with rfl | hb
  · exact lt_irrefl _ (lt_size e)
  · exact hm hb
theorem cx_pass:Passes (CX1 P w) (YH (CX1 P w) P w K mg base N qual scope f cd A outer s₀ H₀ E) E:=by
  intro aa σ H s e s' I h
  obtain⟨ea,C,dd,H',B,rfl,ho,hb,fl,k1,k2,k3,u,hok,q⟩:=h
  have ub:Un (frs outer) [] H₀ H s₀.heap s.heap:=I.base
  have fl:FlD B (envOfC qual scope s₀.heap.objs.size f cd::outer) ea (.ref C) dd s'.heap:=fl
  have u:Un (frs (envOfC qual scope s₀.heap.objs.size f cd::outer)) [] H H' s.heap s'.heap:=u
  have J:=I.call' ho u hok hb (ch:=[]) (fun b hb=>by simp at hb)
  have uj:Un (frs outer) [] H₀ H' s₀.heap s'.heap:=J.base
  have ofr:∀ b∈frs outer,b∈frs (envOfC qual scope s₀.heap.objs.size f cd::outer):=fun b hb=>mem_cons_of_mem _ hb
  refine leaveD I.ok.frames rfl fl fun h' fl' up=>?_
  refine CX1.step (s':=s') (h:=s'.heap) (ho.trans I.os) hb fl' up fl.1 I.ok.frf (fun b hb o z=>?_) (fun b o z n hm=>k1 b o (ub.keep b o z n hm (by simp)) (ub.free b o z n (by simp)) (jeq z hm)) (fun b o z hm=>?_) k3 uj hok q
  · obtain⟨_,o',e1,e2⟩:=fl.2.2.1.mem (b:=b) (ofr b hb)
    rw[z]at e1
    cases e1
    exact e2
  · obtain⟨o',e1⟩:=ub.there b o z (by simp)
    exact k2 b o' e1 (jeq z hm)
end
theorem Fun.okX {P:Program}{w:World}{K:Frag}{mg:Str->Option Value}{base:Heap}{x qual:Str}{st:Stmt}{f:Addr}{fd:FuncData}{N ps:List Str}{k:Nat}{sp:Sp}(F:Fun K x qual st f fd)(S:FnScope N ps (jc st))(len:∀ vs H Q E,sp vs H Q E->vs.length=ps.length)
    (bA:∀(ay:Value) (A:Around) (outer:List Env) (s:Shared) (H:Hp) (vs:List V) (Q:VK) (E:XK),Room k (A.deeper (envOfC qual (jc st) s.heap.objs.size f ay))->sp vs H Q E ->
      ∃ t,PSs (YH (CX1 P w) P w K mg base N qual (jc st) f ay A outer s H E) (ji st) t∧t { nx:=fun _ H'=>Q .non H',rt:=Q } (start N vs) H):FnOk P w K mg base (CX1 P w) (k+1) f fd ps sp:=by
  obtain⟨oc,od,kV,bM,pm,an,ay,ct,dg,rfl,lk,cO⟩:=F.ex
  exact jhZ lk cO S len fun A outer s H vs Q E hr c5=>bA ay A outer s H vs Q E hr c5
abbrev TJ:=St->Hp->Str->(Str->Hp->Prop)->Prop
abbrev bmVE:List Value:=[.type "ValueError",.type "Exception",.type "BaseException",.type "object"]
def excO (ea C:Addr)(dd:Option Addr):HO:=.ext fun h=>∃ o vs,h.get? ea=some o∧o.cls = .ref C∧o.data = .fields vs∧o.dict=dd
def Prot (X:Cx)(aa:List (Addr×Obj))(H:Hp)(b:Addr):Prop :=
  b=X.env.locals∨(∃ x,X.env.cells.lookup x=some b)∨(∃ p∈X.pn++aa,p.1=b)∨(∃ o,H b=some o)∨∃ o,X.s₀.heap.get? b=some o∧b∉X.ex
section
variable {X:Cx}{aa:List (Addr×Obj)}{σ:St}{H:Hp}{s:Shared}{a:Addr}{o:HO}
theorem Inv.track (I:Inv X aa σ H s)(np:¬ Prot X aa H a)(new:yk X.prog X.w (upd H a o) s.heap a o):Inv X aa σ (upd H a o) s:=by
  have hn:H a=none:=by
    cases q:H a with
    | none=>rfl
    | some u=>exact absurd (.inr (.inr (.inr (.inl ⟨u,q⟩)))) np
  refine⟨I.ok,I.os,I.bare,⟨I.base.keep,I.base.slot,fun b ob e n hx=>?_,I.base.there,fun b xs e=>?_,fun b ob xs e=>?_,fun b ps e=>?_⟩,I.loc,I.cell,?_,fun x c e=>?_,fun p hp=>?_,fun b ob e=>?_,I.len⟩
  · rw[jk (fun z:b=a=>np (.inr (.inr (.inr (.inr ⟨ob,z ▸ e,z ▸ hx⟩)))))]
    exact I.base.free b ob e n hx
  · have q:=I.base.tups b xs e
    rw[jk (jv q hn)]
    exact q
  · have q:=I.base.frzs b ob xs e
    rw[jk (jv q hn)]
    exact q
  · obtain⟨more,q⟩:=I.base.tbls b ps e
    exact⟨more,by rw[jk (jv q hn)];exact q⟩
  · rw[jk (fun z=>np (.inl z.symm))]
    exact I.free
  · rw[jk (fun z:c=a=>np (.inr (.inl ⟨x,z ▸ e⟩)))]
    exact I.freeC x c e
  · obtain⟨q1,q2,q3⟩:=I.pin p hp
    exact⟨q1,by rw[jk (fun z:p.1=a=>np (.inr (.inr (.inl ⟨p,hp,z⟩))))];exact q2,q3⟩
  · by_cases hb:b=a
    · subst hb
      rw[jr]at e
      cases e
      exact new
    · rw[jk hb]at e
      exact(I.hok b ob e).stay (fun _ _ _ z=>z) (fun c z=>by rw[jk (jv z hn)];exact z) fun c xs z=>by rw[jk (jv z hn)];exact z
end
def xW (CX:CXT)(X:Cx)(E:St->XK):Prop:=∀(aa:List (Addr×Obj)) (σ:St) (H:Hp) (s:Shared) (e:Value) (s':Shared),Inv X aa σ H s->CX X.stack H s (E σ) e s'->X.xe e s'
abbrev TH:=Ends->St->Addr->Option Addr->Hp->Prop
section
variable {P:Program}{w:World}{K:Frag}{mg:Str->Option Value}{base:Heap}{CX:CXT}{k:Nat}{f:Addr}{fd:FuncData}{ps:List Str}{sp:Sp}
theorem FnOk.up (F:FnOk P w K mg base CX0 k f fd ps sp):FnOk P w K mg base CX k f fd ps sp :=
  ⟨F.len,fun A outer s H args us vs Q E hr he hb hv hs=>codeAny_mono (F.run A outer s H args us vs Q E hr he hb hv hs) fun r s' hq=>by
    match r,hq with
    | .ok (.ret u),hq=>exact hq
    | .error e,hq=>exact False.elim hq⟩
end
inductive Kn (H:Hp):V->String->Prop where
  | non:Kn H .non "NoneType"
  | bl (x:Bool):Kn H (.bl x) "bool"
  | int (i:Int):Kn H (.int i) "int"
  | str (x:Str):Kn H (.str x) "str"
  | lst {a:Addr}{xs:List V}(e:H a=some (.lst xs)):Kn H (.ref a) "list"
  | tup {a:Addr}{xs:List V}(e:H a=some (.tup xs)):Kn H (.ref a) "tuple"
  | dK {a:Addr}{kvs:List (Key×V)}(e:H a=some (.dK kvs)):Kn H (.ref a) "dict"
def yW:List String:=["NoneType","bool","int","str","list","tuple","dict"]
def sub (n m:String):Bool:=n==m || (n=="bool" && m=="int")
theorem jel (K:Frag){n m:String}(hn:n∈yW)(hm:m∈yW):kitOne K (.type n) (.type m)=some (sub n m):=by
  have tab:∀ n∈yW,∀ m∈yW,(Value.type n==Value.type m)=false->kitMeta m=true∧(fastBuiltinMro n).map (·.contains (.type m))=some (sub n m):=by decide +kernel
  have tab2:∀ n∈yW,∀ m∈yW,(Value.type n==Value.type m)=true->sub n m=true:=by decide +kernel
  unfold kitOne
  cases h:(Value.type n==Value.type m)with
  | true=>rw[if_pos rfl,tab2 n hn m hm h]
  | false =>
    obtain⟨h1,h2⟩:=tab n hn m hm h
    rw[if_neg (by decide)]
    show(if kitMeta m=true then(fastBuiltinMro n).map (·.contains (.type m))else none)=some (sub n m)
    rw[if_pos h1,h2]
def excInI (K:Frag)(C:Addr):Bool:=match K.lookup C with
  | some ⟨.type "type",_,.cls cd,sl⟩=>(match cd.mro,sl.toList with
    | .ref D::bm,[_,_,_,_,some (.builtin n),_]=>D==C && n=="ValueError.__new__" && !cd.hasDel && PySem.W.tailIn K bmVE bm && cd.hasDict
    | _,_=>false)
  | _=>false
structure FunD (K:Frag)(x qual:Str)(st:Stmt)(f:Addr)(fd:FuncData):Prop where
  ex:∃(oc:Value) (od:Option Addr) (dV kV bM pm:Value) (an:Option Addr) (ay ct:Value) (dg:Array (Option Value)),
    fd=fnOf x qual (jl st) (ji st) (jc st) dV kV bM pm an ay ct∧K.lookup f=some ⟨oc,od,.func fd,dg⟩∧codeIn K ay qual=true
  kp:keepIn K (.ref f)=true
section
variable {P:Program}{w:World}{K:Frag}{mg:Str->Option Value}{base:Heap}{x qual:Str}{st:Stmt}{f:Addr}{fd:FuncData}{N ps:List Str}{k:Nat}{sp:Sp}
theorem FunD.ok (F:FunD K x qual st f fd)(S:FnScope N ps (jc st))(len:∀ vs H Q E,sp vs H Q E->vs.length=ps.length)
    (bA:∀(ay:Value) (A:Around) (outer:List Env) (s:Shared) (H:Hp) (vs:List V) (Q:VK) (E:XK),Room k (A.deeper (envOfC qual (jc st) s.heap.objs.size f ay))->sp vs H Q E ->
      ∃ t,PSs (YH CX0 P w K mg base N qual (jc st) f ay A outer s H E).nox (ji st) t∧t { nx:=fun _ H'=>Q .non H',rt:=Q } (start N vs) H):FnOk P w K mg base CX0 (k+1) f fd ps sp:=by
  obtain⟨oc,od,dV,kV,bM,pm,an,ay,ct,dg,rfl,lk,cO⟩:=F.ex
  refine jhZ lk cO S len fun A outer s H vs Q E hr c5=>?_
  obtain⟨t,h,q⟩:=bA ay A outer s H vs Q E hr c5
  exact⟨t,h.nox,q⟩
end
theorem Inv.turned2 {X:Cx}{aa:List (Addr×Obj)}{σ:St}{H:Hp}{s:Shared}{h':Heap}{t':Nat}{e it:Addr}(I:Inv X aa σ H s)(k:∀ b o,b≠e->b≠it->s.heap.get? b=some o->h'.get? b=some o)(fe:yS X aa H e)(fi:yS X aa H it) :
    Inv X aa σ H { s with heap:=h',toks:=t' }:=by
  have ne:∀ b u,H b=some u->b≠e:=fun b u q z=>by rw[z,fe.1]at q;cases q
  have gA:∀ b u,H b=some u->b≠it:=fun b u q z=>by rw[z,fi.1]at q;cases q
  have nc:∀ b,b∉[e,it]->b≠e∧b≠it:=fun b h=>⟨fun z=>h (by simp[z]),fun z=>h (by simp[z])⟩
  refine I.step (g':=s.gens) (d':=s.drawn) (ch:=[e,it]) (fun b hb=>?_) (fun b o _ _ hc q _=>k b o (nc b hc).1 (nc b hc).2 q) (fun b o _ _ hc q _=>⟨o.slots,k b o (nc b hc).1 (nc b hc).2 q⟩) (fun _ _ _ _ n=>n)
    (fun b o hc q=>⟨o,k b o (nc b hc).1 (nc b hc).2 q⟩) (fun _ _ q=>q) (fun _ _ _ q=>q) (fun b ps q=>⟨#[],by rw[q];simp⟩) (fun m hm=>?_) (fun b u q=>?_) I.bare
  · rcases List.mem_cons.mp hb with z | z
    · subst z
      exact⟨fe.2.2.2.1,fe.2.1,fe.2.2.2.2.1,fe.2.2.2.2.2⟩
    · have z:b=it:=by simpa using z
      subst z
      exact⟨fi.2.2.2.1,fi.2.1,fi.2.2.2.2.1,fi.2.2.2.2.2⟩
  · obtain⟨o,es,ep,ho,r⟩:=hm
    exact⟨o,es,ep,k _ o (Ne.symm fe.2.1) (Ne.symm fi.2.1) ho,r⟩
  · refine(I.hok b u q).stay (fun c v hc z=>k c v ?_ ?_ z) (fun _ z=>z) fun _ _ z=>z
    · rcases hc with y | y
      · rw[y];exact ne b u q
      · exact ne c _ y
    · rcases hc with y | y
      · rw[y];exact gA b u q
      · exact gA c _ y
theorem yS.np {X:Cx}{aa:List (Addr×Obj)}{H:Hp}{b:Addr}(f:yS X aa H b):¬ Prot X aa H b:=by
  rintro(z | ⟨x,z⟩ | ⟨p,hp,z⟩ | ⟨o,z⟩ | ⟨o,z,hx⟩)
  · exact f.2.1 z
  · exact f.2.2.2.2.1 x b z rfl
  · exact f.2.2.2.2.2 p hp z
  · rw[f.1]at z
    cases z
  · rcases f.2.2.2.1 with y | y
    · exact hx y
    · exact lt_irrefl _ (lt_of_lt_of_le (lt_size z) y)
def Ite (K:Frag)(a:Addr):It :=
  ⟨fun i H=>∃ xs x,SqL K H a xs∧xs[i]? = some x,fun i H x H'=>∃ p v,x = .ref p∧H p=none∧(∀ xs,SqL K H a xs->xs[i]? = some v)∧H'=upd H p (.tup [.int (i:Int),v]),fun i H=>∃ xs,SqL K H a xs∧xs.length<=i⟩
theorem jeX {P:Program}{w:World}{K:Frag}{bj:List Expr}{x1:Nat}{pos:Pos}(a e it:Addr)(aY:e≠it) :
    Turn P w K (.Tuple bj x1 pos) (Ite K a) [e,it] e (fun i h=>(∃ b4,IsEnum h e it i b4)∧h.IsListIter it a i) where
  mem:=by simp
  obj:=fun i h st b hb=>by
    obtain⟨⟨b4,he⟩,o,ho,_,hd⟩:=st
    rcases List.mem_cons.mp hb with z | z
    · subst z
      exact⟨_,he,fun v z=>by
        have z':Data.fields _=Data.cell v:=z
        cases z'⟩
    · have z:b=it:=by simpa using z
      subst z
      exact⟨o,ho,fun v z=>by rw[hd]at z;cases z⟩
  keep:=fun i h h' st k=>by
    obtain⟨⟨b4,he⟩,hi⟩:=st
    exact⟨⟨b4,k e (by simp) _ he⟩,hi.at fun o q=>k it (by simp) o q⟩
  item:=by
    intro X hP hw hK hc i aa s σ H E I hf st hg
    subst hP hw hK
    obtain⟨⟨b4,he⟩,hi⟩:=st
    obtain⟨xs,x,hq,hx⟩:=hg
    obtain⟨its,rv,p,hz⟩:=I.list hq
    obtain⟨u,hu,ru⟩:=rv.get hx
    have fe:=hf e (by simp)
    have fi:=hf it (by simp)
    refine wpAny_pyNext_enum_item he hi p.isList (x:=u) (by simpa using hu) aY fun h' out cc tup sz keep=>?_
    refine⟨_,rfl,wpAny_letOwnedTupleGo_enum (s:={ s with heap:=h',toks:=s.toks+1 }) out fun h2 f9 sb=>?_⟩
    have hp1:s.heap.objs.size≠e:=fun z=>by
      have:=lt_size (show s.heap.get? e=some _ from he)
      rw[<- z]at this
      exact lt_irrefl _ this
    have hp2:s.heap.objs.size≠it:=fun z=>by
      obtain⟨o,ho,_⟩:=hi
      have:=lt_size ho
      rw[<- z]at this
      exact lt_irrefl _ this
    have jbi:∀ b o,b≠e->b≠it->s.heap.get? b=some o->h2.get? b=some o:=fun b o h1 h3 q=>(sb.2 b h1).trans (keep b o h1 h3 q)
    have I1:Inv X aa σ H { s with heap:=h2,toks:=s.toks+1 }:=I.turned2 jbi fe fi
    have fresh:H s.heap.objs.size=none:=I.hok.fresh (le_refl _)
    have fp:=I.fpOk (le_refl _) fresh
    have fg:h2.get? s.heap.objs.size=some { cls:=.type "tuple",data:=.seq #[.int i s.toks,u] }:=(sb.2 _ hp1).trans tup
    refine⟨.ref s.heap.objs.size,upd H s.heap.objs.size (.tup [.int (i:Int),x]),I1.track fp.np ⟨by show 2<=sizeLine;decide,[.int i s.toks,u],.cons ⟨_,rfl⟩ (.cons ru .nil),⟨_,fg,rfl,_,rfl⟩⟩,rfl,⟨_,x,rfl,fresh,fun ys hy=>by rw[I.list_inj hy hq];exact hx,rfl⟩,⟨⟨_,f9⟩,?_⟩,fun b hb=>?_⟩
    · exact cc.at fun o q=>(sb.2 it (Ne.symm aY)).trans q
    · rcases List.mem_cons.mp hb with z | z
      · subst z
        rw[jk (Ne.symm hp1)]
        exact fe.1
      · have z:b=it:=by simpa using z
        subst z
        rw[jk (Ne.symm hp2)]
        exact fi.1
  done:=by
    intro X hP hw hK hc i aa s σ H E I hf st hg
    subst hP hw hK
    obtain⟨⟨b4,he⟩,hi⟩:=st
    obtain⟨xs,hq,hx⟩:=hg
    obtain⟨its,rv,p,hz⟩:=I.list hq
    obtain⟨f0,f1,f2,f3,f4,f5⟩:=hf it (by simp)
    have hl:=rv.length
    exact wpAny_pyNext_enum_end (I.ok.hd hc) he hi p.isList (by simp;omega) fun h' eb=>⟨rfl,I.turned (t':=s.toks) (fun b o hb q=>eb b o hb q) f0 f1 f3 f4 f5⟩
  self:=fun _ _ _ _ _ st h=>by
    obtain⟨⟨b4,he⟩,_⟩:=st
    exact wpAny_pyIter_enum he h
section
variable {X:Cx}{bj:List Expr}{x1:Nat}{bU:Pos}
theorem jai:bootBuiltins "enumerate" = some (.type "enumerate"):=by decide +kernel
def iEnum (K:Frag)(ta:TA):TI:=fun σ H R=>ta σ H fun vs H1=>∃ a,vs=[.ref a]∧(∃ xs,SqL K H1 a xs)∧R (Ite K a) H1
theorem pi_enum {l:Expr}{ta:TA}{p pos:Pos}(hg:Gl X "enumerate")(hm:X.mg "enumerate" = none)(ha:PA X [l] ta)(hs:starEach [l] X.env=[(false,eval l X.env)]:=by rfl):PI X (.Tuple bj x1 bU) (.Call (.Name "enumerate" p) [l] [] pos) (iEnum X.K ta):=by
  intro aa s σ H R I h
  refine Call_ (JY I hg hm jai (PyProof.Rows.callWith_type1 (thn (ha pos aa s σ H _ I h) fun us s1 ae=>?_) hs rfl))
  obtain⟨vs,H1,I1,r1,q1⟩:=ae
  obtain⟨a,e,⟨xs,hq⟩,q⟩:=q1
  subst e
  cases r1 with
  | cons r rr =>
    cases rr
    cases r
    obtain⟨its,rv,p,hz⟩:=I1.list hq
    refine call_enumerate_list p.isList fun h' he hi sz keep=>?_
    refine wpAny_pyIter_enum he ?_
    have ne:s1.heap.objs.size+1≠s1.heap.objs.size:=Nat.succ_ne_self _
    refine⟨s1.heap.objs.size+1,[s1.heap.objs.size+1,s1.heap.objs.size],_,_,H1,rfl,I1.kept (t':=s1.toks) keep,jeX a _ _ ne,⟨⟨_,he⟩,hi⟩,fun b hb=>?_,q⟩
    rcases List.mem_cons.mp hb with z | z
    · subst z
      exact I1.fpOk (le_succ _) (I1.hok.fresh (le_succ _))
    · have z:b=s1.heap.objs.size:=by simpa using z
      subst z
      exact I1.fpOk (le_refl _) (I1.hok.fresh (le_refl _))
end
def tTru (K:Frag)(t:TE):TT:=fun σ H Q=>t σ H fun x H1=>∃ k,TruV K x H1 k∧Q k H1
theorem pt_tru {X:Cx}{e:Expr}{t:TE}(h:PE X e t)(he:∀ br,isTrue e X.env br=(do let v <- br;standAt e.pos;holding [v] (truthy v)):=by intro _;rfl):PT X e (tTru X.K t):=by
  intro aa s σ H Q I hw
  refine isTrue_plain (thn (h aa s σ H _ I hw) fun v s1 ae=>?_) (he _)
  obtain⟨x,H1,I1,r1,q1⟩:=ae
  exact tru_ok aa s1 σ H1 x v _ I1 r1 q1
section
variable {κ:Type}[DecidableEq κ]
def yT (kvs:List (κ×V))(k:κ):Option V:=(kvs.find? fun kv=>decide (kv.1=k)).map (·.2)
def vh (kvs:List (κ×V))(k:κ)(v:V):List (κ×V) :=
  if(kvs.any fun kv=>decide (kv.1=k))=true then kvs.map (fun kv=>if kv.1=k then(kv.1,v)else kv)else kvs++[(k,v)]
def dropK (kvs:List (κ×V))(k:κ):List (κ×V):=kvs.filter fun kv=>decide (kv.1≠k)
theorem Jd {p:κ×V}{r:List (κ×V)}{k:κ}(e:p.1=k):yT (p::r) k=some p.2:=by simp[yT,find?_cons,e]
theorem Je {p:κ×V}{r:List (κ×V)}{k:κ}(e:¬ p.1=k):yT (p::r) k=yT r k:=by simp[yT,find?_cons,e]
theorem jas (k:κ):∀ kvs:List (κ×V),(kvs.any fun kv=>decide (kv.1=k))=(yT kvs k).isSome
  | []=>rfl
  | p::r=>by
    rw[any_cons]
    by_cases e:p.1=k
    · simp only[Jd e,decide_eq_true e,Bool.true_or,Option.isSome_some]
    · rw[Je e,decide_eq_false e,Bool.false_or];exact jas k r
theorem uh (kvs:List (κ×V))(k:κ)(v:V):(vh kvs k v).length<=kvs.length+1:=by
  unfold vh
  split
  · rw[length_map];omega
  · rw[length_append,length_cons,length_nil];omega
theorem uL.isSome_eq {o:Option V}{u:Option Value}(r:uL o u):o.isSome=u.isSome:=by
  cases o with
  | none=>cases u with
    | none=>rfl
    | some _=>exact(show False from r).elim
  | some _=>cases u with
    | none=>exact(show False from r).elim
    | some _=>rfl
theorem uL.getD {o:Option V}{u:Option Value}{d:V}{d':Value}(r:uL o u)(rd:yi d d'):yi (o.getD d) (u.getD d'):=by
  cases o with
  | none=>cases u with
    | none=>exact rd
    | some _=>exact(show False from r).elim
  | some _=>cases u with
    | none=>exact(show False from r).elim
    | some _=>exact r
theorem KV.val {kvs:List (κ×V)}{vs:List (κ×Value)}(r:KV kvs vs)(k:κ):uL (yT kvs k) (valueAt vs k):=by
  unfold KV at r
  induction r with
  | nil=>exact True.intro
  | @cons p q ps qs h t ih =>
    obtain⟨h1,h2⟩:=h
    by_cases e:p.1=k
    · have e':q.1=k:=h1.symm.trans e
      have b:valueAt (q::qs) k=some q.2:=by simp[valueAt,find?_cons,e']
      rw[Jd e,b];exact h2
    · have e':¬ q.1=k:=fun z=>e (h1.trans z)
      have b:valueAt (q::qs) k=valueAt qs k:=by simp[valueAt,find?_cons,e']
      rw[Je e,b];exact ih
theorem KV.any {kvs:List (κ×V)}{vs:List (κ×Value)}(r:KV kvs vs)(k:κ):(kvs.any fun kv=>decide (kv.1=k))=vs.any fun kv=>decide (kv.1=k):=by
  unfold KV at r
  induction r with
  | nil=>rfl
  | cons h t ih=>rw[any_cons,any_cons,ih,h.1]
theorem KV.repl {kvs:List (κ×V)}{vs:List (κ×Value)}(r:KV kvs vs)(k:κ){y:V}{u:Value}(ry:yi y u) :
    KV (kvs.map fun kv=>if kv.1=k then(kv.1,y)else kv) (vs.map fun kv=>if kv.1=k then(kv.1,u)else kv):=by
  unfold KV at r ⊢
  induction r with
  | nil=>exact .nil
  | @cons p q ps qs h t ih =>
    rw[map_cons,map_cons]
    refine .cons ?_ ih
    obtain⟨h1,h2⟩:=h
    by_cases e:p.1=k
    · rw[if_pos e,if_pos (h1.symm.trans e)];exact⟨h1,ry⟩
    · rw[if_neg e,if_neg (fun z=>e (h1.trans z))];exact⟨h1,h2⟩
theorem KV.put {kvs:List (κ×V)}{vs:List (κ×Value)}(r:KV kvs vs)(k:κ){y:V}{u:Value}(ry:yi y u):KV (vh kvs k y) (stored vs k u):=by
  unfold vh stored
  rw[r.any k]
  by_cases e:(vs.any fun kv=>decide (kv.1=k))=true
  · rw[if_pos e,if_pos e];exact r.repl k ry
  · rw[if_neg e,if_neg e];exact Paired.snoc r ⟨rfl,ry⟩
theorem KV.drop {kvs:List (κ×V)}{vs:List (κ×Value)}(r:KV kvs vs)(k:κ):KV (dropK kvs k) (without vs k):=by
  unfold KV at r ⊢
  unfold dropK without
  induction r with
  | nil=>exact .nil
  | @cons p q ps qs h t ih =>
    obtain⟨h1,h2⟩:=h
    rw[filter_cons,filter_cons]
    by_cases e:p.1=k
    · have a:¬ decide (p.1≠k)=true:=by simp[e]
      have b:¬ decide (q.1≠k)=true:=by simp[h1.symm.trans e]
      rw[if_neg a,if_neg b];exact ih
    · have e':¬ q.1=k:=fun z=>e (h1.trans z)
      have a:decide (p.1≠k)=true:=by simp[e]
      have b:decide (q.1≠k)=true:=by simp[e']
      rw[if_pos a,if_pos b];exact .cons ⟨h1,h2⟩ ih
theorem KV.length {kvs:List (κ×V)}{vs:List (κ×Value)}(r:KV kvs vs):kvs.length=vs.length:=Paired.length r
end
theorem jen {P:Program}{w:World}{k:Key}{u:Value}(r:yi (kV k) u):(ye P w).is k u=true:=by
  cases k with
  | inl i=>obtain⟨t,e⟩:=(show ∃ t,u=Value.int i t from r);subst e;exact jbc P w i t
  | inr x=>obtain⟨t,e⟩:=(show ∃ t,u=Value.str x t from r);subst e;exact jbb P w x t
theorem Yb {P:Program}{w:World}:∀{ks:List Key}{us:List Value},yf (ks.map kV) us->ItemsAre (ye P w) ks us
  | [],_,r=>by rw[map_nil]at r;cases r;exact .nil
  | k::ks,_,r=>by
    rw[map_cons]at r
    cases r with
    | cons h t=>exact .cons (jen h) (Yb t)
abbrev KT (H:Hp):List (List Key×V)->List (List Key×Addr×Value)->Prop:=Paired fun p q=>p.1=q.1∧H q.2.1=some (.tup (p.1.map kV))∧yi p.2 q.2.2
theorem KT.val {H:Hp}{kvs:List (List Key×V)}{xs:List (List Key×Addr×Value)}(r:KT H kvs xs)(k:List Key):uL (yT kvs k) ((atKey xs k).map (·.2)):=by
  induction r with
  | nil=>exact True.intro
  | @cons p q ps qs h t ih =>
    obtain⟨h1,_,h2⟩:=h
    by_cases e:p.1=k
    · have e':q.1=k:=h1.symm.trans e
      have b:atKey (q::qs) k=some q.2:=by simp[atKey,find?_cons,e']
      rw[Jd e,b];exact h2
    · have e':¬ q.1=k:=fun z=>e (h1.trans z)
      have b:atKey (q::qs) k=atKey qs k:=by simp[atKey,find?_cons,e']
      rw[Je e,b];exact ih
theorem KT.repl {H:Hp}{kvs:List (List Key×V)}{xs:List (List Key×Addr×Value)}(r:KT H kvs xs)(k:List Key){y:V}{u:Value}(ry:yi y u) :
    KT H (kvs.map fun kv=>if kv.1=k then(kv.1,y)else kv) (xs.map (putAt k u)):=by
  induction r with
  | nil=>exact .nil
  | @cons p q ps qs h t ih =>
    rw[map_cons,map_cons]
    refine .cons ?_ ih
    obtain⟨h1,h2,h3⟩:=h
    unfold putAt
    by_cases e:p.1=k
    · rw[if_pos e,if_pos (h1.symm.trans e)];exact⟨h1,h2,ry⟩
    · rw[if_neg e,if_neg (fun z=>e (h1.trans z))];exact⟨h1,h2,h3⟩
theorem KT.put {H:Hp}{kvs:List (List Key×V)}{xs:List (List Key×Addr×Value)}(r:KT H kvs xs)(k:List Key){b:Addr}{y:V}{u:Value}(hb:H b=some (.tup (k.map kV)))(ry:yi y u) :
    KT H (vh kvs k y) (storedH xs k b u):=by
  have e:(kvs.any fun kv=>decide (kv.1=k))=(atKey xs k).isSome:=by
    rw[jas,(r.val k).isSome_eq,isSome_map]
  unfold vh storedH
  rw[e]
  by_cases q:(atKey xs k).isSome=true
  · rw[if_pos q,if_pos q];exact r.repl k ry
  · rw[if_neg q,if_neg q];exact Paired.snoc r ⟨rfl,hb,ry⟩
theorem KT.keeps {H H':Hp}{kvs:List (List Key×V)}{xs:List (List Key×Addr×Value)}(r:KT H kvs xs)(ht:∀ b ys,H b=some (.tup ys)->H' b=some (.tup ys)):KT H' kvs xs :=
  Paired.mapP r fun _ _ z=>⟨z.1,ht _ _ z.2.1,z.2.2⟩
section
variable {P:Program}{w:World}{H:Hp}{h:Heap}{a:Addr}
theorem rd_of {u:HO}(ok:HOk P w H h)(e:Rd H a u):yk P w H h a u:=e.ok ok
theorem jes {kvs:List (Key×V)}(ok:HOk P w H h)(e:Rd H a (.dK kvs)):kvs.length<=sizeLine∧(a==sysModules)=false∧∃ vs,KV kvs vs∧h.DictOf (ye P w) a vs :=
  show yk P w H h a (.dK kvs)from rd_of ok e
theorem dk_of {kvs:List (Key×V)}(ok:HOk P w H h)(e:H a=some (.dK kvs)):kvs.length<=sizeLine∧(a==sysModules)=false∧∃ vs,KV kvs vs∧h.DictOf (ye P w) a vs:=jes ok (.inl e)
theorem XB {ks:List Key}(ok:HOk P w H h)(e:H a=some (.tup (ks.map kV))):(tupleKind (ye P w)).is h ks a:=by
  obtain⟨_,its,r,o,h1,h2,n,h3⟩:=(show yk P w H h a (.tup (ks.map kV))from ok a _ e)
  exact⟨o,its.toArray,n,h1,h2,h3,by simpa using Yb r⟩
theorem jbw {kvs:List (List Key×V)}(ok:HOk P w H h)(e:Rd H a (.dT kvs)):kvs.length<=sizeLine∧(a==sysModules)=false ∧
    ∃ xs,KT H kvs xs∧h.DictOfH (tupleKind (ye P w)) a xs:=by
  obtain⟨z,y,xs,r,o,es,ep,h1,h2,h3,h4,h5⟩:=(show yk P w H h a (.dT kvs)from rd_of ok e)
  refine⟨z,y,xs,r,o,es,ep,h1,h2,h3,h4,fun x hx=>?_,h5⟩
  have all:∀{l:List (List Key×V)}{m:List (List Key×Addr×Value)},KT H l m->∀ x∈m,(tupleKind (ye P w)).is h x.1 x.2.1:=by
    intro l m q
    induction q with
    | nil=>intro x hx;exact nomatch hx
    | @cons p q ps qs hq t ih =>
      intro x hx
      rcases List.mem_cons.mp hx with e | hx
      · subst e
        exact XB ok (by rw[<- hq.1];exact hq.2.1)
      · exact ih x hx
  exact all r x hx
theorem dt_of {kvs:List (List Key×V)}(ok:HOk P w H h)(e:H a=some (.dT kvs)):kvs.length<=sizeLine∧(a==sysModules)=false ∧
    ∃ xs,KT H kvs xs∧h.DictOfH (tupleKind (ye P w)) a xs:=jbw ok (.inl e)
end
def jdm (H:Hp)(a:Addr)(y:V)(r:Option V):Prop :=
  (∃ kvs k,Rd H a (.dK kvs)∧y=kV k∧r=yT kvs k)∨∃ kvs k b,Rd H a (.dT kvs)∧y = .ref b∧H b=some (.tup (k.map kV))∧r=yT kvs k
def jdl (H:Hp)(a:Addr)(y v:V)(H':Hp):Prop :=
  (∃ kvs k,H a=some (.dK kvs)∧y=kV k∧kvs.length<sizeLine∧H'=upd H a (.dK (vh kvs k v))) ∨
  ∃ kvs k b,H a=some (.dT kvs)∧y = .ref b∧H b=some (.tup (k.map kV))∧kvs.length<sizeLine∧H'=upd H a (.dT (vh kvs k v))
theorem jdm.t {H:Hp}{a b:Addr}{kvs:List (List Key×V)}{k:List Key}(e:H a=some (.dT kvs))(eb:H b=some (.tup (k.map kV))):jdm H a (.ref b) (yT kvs k):=.inr ⟨kvs,k,b,.inl e,rfl,eb,rfl⟩
theorem jdl.t {H:Hp}{a b:Addr}{kvs:List (List Key×V)}{k:List Key}{v:V}(e:H a=some (.dT kvs))(eb:H b=some (.tup (k.map kV)))(hl:kvs.length<sizeLine) :
    jdl H a (.ref b) v (upd H a (.dT (vh kvs k v))):=.inr ⟨kvs,k,b,e,rfl,eb,hl,rfl⟩
section
variable {X:Cx}{aa:List (Addr×Obj)}{σ:St}{H:Hp}{s:Shared}{a:Addr}{y v:V}{u r:Value}{o:Option V}{A:Around}{E:Value->Shared->Prop}
theorem Inv.big (I:Inv X aa σ H s):sysModules<s.heap.objs.size:=by
  have h:mainGlobals<s.heap.objs.size:=(I.mod.glob.keeps I.bk).lt
  exact lt_trans (by decide) h
theorem d_notIn {Q:Value->Shared->Prop}(hu:A.units+1<cLine)(I:Inv X aa σ H s)(g:jdm H a y o)(ry:yi y u)(h:∀ s',Inv X aa σ H s'->Q (.bool (!o.isSome)) s') :
    wpAny (model X.prog X.w) A (compareOp .NotIn u (.ref a)) Q E s:=by
  rcases g with⟨kvs,k,e,ey,l⟩ | ⟨kvs,k,b,e,ey,eb,l⟩
  · subst ey
    obtain⟨z,hd,vs,rel,dd⟩:=jes I.hok e
    refine wpAny_notIn_of (jen ry) hd dd.mapOf ?_
    rw[<- (rel.val k).isSome_eq,<- l]
    exact h _ (I.tok _)
  · subst ey
    cases (show u=Value.ref b from ry)
    obtain⟨z,hd,xs,rel,dd⟩:=jbw I.hok e
    refine wpAny_notIn_heap (tupleKind_room_in1 hu) (XB I.hok eb) hd dd ?_
    have q:=(rel.val k).isSome_eq
    rw[isSome_map]at q
    rw[<- q,<- l]
    exact h _ (I.tok _)
theorem YR {h':Heap}{t':Nat}{ob:HO}(I:Inv X aa σ H s)(mu:Mut (H a))(hs:SameBut a s.heap h')(he:∃ q,h'.get? a=some q)(new:yk X.prog X.w (upd H a ob) h' a ob) :
    Inv X aa σ (upd H a ob) { s with heap:=h',toks:=t' } :=
  I.write (x:=a) (e:=a) mu (.inl rfl) (fun b q hb z=>(hs.2 b hb).trans z) he new
theorem dk_new {P:Program}{w:World}{H':Hp}{h':Heap}{kvs:List (Key×V)}{vs:List (Key×Value)}(z:kvs.length<=sizeLine)(hd:(a==sysModules)=false)(rel:KV kvs vs)(dd:h'.DictOf (ye P w) a vs) :
    yk P w H' h' a (.dK kvs):=⟨z,hd,vs,rel,dd⟩
theorem jfH {H':Hp}{Q:Unit->Shared->Prop}(hu:A.units+1<cLine)(I:Inv X aa σ H s)(g:jdl H a y v H')(ry:yi y u)(rv:yi v r)(h:∀ s',Inv X aa σ H' s'->Q () s') :
    wpAny (model X.prog X.w) A (setItem (.ref a) u r) Q E s:=by
  rcases g with⟨kvs,k,e,ey,l,eH⟩ | ⟨kvs,k,b,e,ey,eb,l,eH⟩
  · subst ey eH
    obtain⟨z,hd,vs,rel,dd⟩:=dk_of I.hok e
    have hz:vs.length<=sizeLine:=by rw[<- rel.length];exact z
    have hl:(vh kvs k v).length<=sizeLine:=by have:=uh kvs k v;omega
    refine wpAny_setItem_pairs (hsz:=hz) (jen ry) dd fun h' gj hs=>h _ ?_
    have he:∃ q,h'.get? a=some q:=let ⟨q,_,_,hq,_⟩:=gj;⟨q,hq⟩
    exact YR I (by rw[e];exact True.intro) hs he (dk_new hl hd (rel.put k rv) gj)
  · subst ey eH
    cases (show u=Value.ref b from ry)
    obtain⟨z,hd,xs,rel,dd⟩:=dt_of I.hok e
    have hz:xs.length<=sizeLine:=by rw[<- Paired.length rel];exact z
    have hl:(vh kvs k v).length<=sizeLine:=by have:=uh kvs k v;omega
    refine wpAny_setItem_heap (hsz:=hz) (tupleKind_room_in1 hu) (XB I.hok eb) dd fun h' gj hs=>h _ ?_
    obtain⟨q,es,ep,hq,h2,h3,h4,_,h5⟩:=gj
    refine YR I (by rw[e];exact True.intro) hs ⟨q,hq⟩ ⟨hl,hd,_,(rel.put k eb rv).keeps fun c ys ec=>?_,q,es,ep,hq,h2,h3,h4,h5⟩
    rw[jk (jht ec e (fun z=>nomatch z))]
    exact ec
end
def jdt (ty td:TE):TE:=fun σ H Q=>ty σ H fun y H1=>td σ H1 fun x H2=>∃ a o,x = .ref a∧jdm H2 a y o∧Q (.bl (!o.isSome)) H2
def sDPut (td ty tv:TE):TS:=fun D σ H=>tv σ H fun v H1=>td σ H1 fun x H2=>ty σ H2 fun y H3=>∃ a H4,x = .ref a∧jdl H3 a y v H4∧D.nx σ H4
section
variable {X:Cx}{o i value:Expr}{pos a7:Pos}{td ty tv:TE}
theorem jfj (hu:X.A.units+1<cLine)(hi:PE X i ty)(ho:PE X o td):PC X .NotIn i o (jdt ty td):=by
  intro aa s σ H Q I h
  refine thn (hi aa s σ H _ I h) fun iv s1 ⟨y,H1,I1,ry,q1⟩=>thn (ho aa s1 σ H1 _ I1 q1) fun u s2 ae=>?_
  obtain⟨x,H2,I2,rx,a,ov,ex,g,q2⟩:=ae
  subst ex
  obtain rfl:u=Value.ref a:=rx
  exact d_notIn hu I2 g ry fun s3 I3=>⟨.bl (!ov.isSome),H2,I3,rfl,q2⟩
theorem Uz (hu:X.A.units+1<cLine)(ho:PE X o td)(hi:PE X i ty)(hv:PE X value tv)(hs:swapsWith value (some (.Subscript o i a7)) pos.line X.env=pure false) :
    PS X (.Assign [.Subscript o i a7] value pos) (sDPut td ty tv):=by
  intro aa s σ H D I h
  refine wpAny_Assign_Subscript (thn (hv aa s σ H _ I h) fun r s1 ⟨v,H1,I1,rv,q1⟩=>thn (ho aa s1 σ H1 _ I1 q1) fun u s2 ⟨x,H2,I2,rx,q2⟩=>thn (hi aa s2 σ H2 _ I2 q2) fun iv s3 ae=>?_) hs
  obtain⟨y,H3,I3,ry,a,H4,ex,g,q3⟩:=ae
  subst ex
  obtain rfl:u=Value.ref a:=rx
  exact jfH hu I3 g ry rv fun s4 I4=>⟨σ,H4,I4,q3⟩
end
theorem jig {P:Program}{w:World}{H:Hp}(h:Heap)(hb:sysModules<h.objs.size):yk P w H (h.push { cls:=.type "dict",data:=.dict #[] }) h.objs.size (.dT []) :=
  ⟨zero_le _,beq_eq_false_iff_ne.mpr (Ne.symm (ne_of_lt hb)),[],.nil,_,#[],0,get?_push_size _ rfl,⟨rfl,rfl,rfl⟩,rfl,rfl,nodup_nil⟩
def tDNewT:TE:=fun _ H Q=>∀ p,H p=none->Q (.ref p) (upd H p (.dT []))
section
variable {X:Cx}{pos:Pos}
theorem jhf:PE X (.Dict [] [] pos) tDNewT:=fun aa s σ H Q I h =>
  wpAny_Dict_empty ⟨.ref s.heap.objs.size,_,I.laid (a:=s.heap.objs.size) (o:=.dT []) (t':=s.toks) (fun _ _ q=>get?_push_of_some _ q) (le_refl _) (jig s.heap I.big),rfl,h _ (I.hok.fresh (le_refl _))⟩
end
structure M1 (X:Cx)(o:Expr)(m:Str)(apos:Pos)(e:Expr)(ar:Pos):Prop where
  base:attributeBase o m X.env (eval o X.env)=eval o X.env
  few:((backTo ar (starEach [e] X.env)).all (fun x=>!x.1) && (backToKw ar (keywordEach [] X.env)).all (fun x=>x.1.isSome)
    && decide (([e]:List Expr).length+([]:List Keyword).length+(if([]:List Keyword).isEmpty then 0 else 1)<30))=true
  line:(apos.endLine==ar.line)=true
  trees:backTo ar (starEach [e] X.env)=[(false,eval e X.env)]
structure M2 (X:Cx)(o:Expr)(m:Str)(apos:Pos)(e f:Expr)(ar:Pos):Prop where
  base:attributeBase o m X.env (eval o X.env)=eval o X.env
  few:((backTo ar (starEach [e,f] X.env)).all (fun x=>!x.1) && (backToKw ar (keywordEach [] X.env)).all (fun x=>x.1.isSome)
    && decide (([e,f]:List Expr).length+([]:List Keyword).length+(if([]:List Keyword).isEmpty then 0 else 1)<30))=true
  line:(apos.endLine==ar.line)=true
  trees:backTo ar (starEach [e,f] X.env)=[(false,eval e X.env),(false,eval f X.env)]
def IsD (H:Hp)(a:Addr):Prop:=(∃ kvs,Rd H a (.dK kvs))∨∃ kvs,Rd H a (.dT kvs)
theorem jcJ {X:Cx}{aa:List (Addr×Obj)}{σ:St}{H:Hp}{s:Shared}{a:Addr}(I:Inv X aa σ H s)(d:IsD H a) :
    s.TypeIs (.ref a) "dict"∧(∀ b,Value.ref a = .ref b->∃ ob,s.heap.get? b=some ob∧ob.dict=none)∧(a==sysModules)=false:=by
  rcases d with⟨kvs,e⟩ | ⟨kvs,e⟩
  · obtain⟨_,hd,vs,_,dd⟩:=jes I.hok e
    refine⟨dd.typeIs,fun b q=>?_,hd⟩
    cases q
    obtain⟨ob,_,_,h1,h2,_⟩:=dd
    exact⟨ob,h1,h2.2.1⟩
  · obtain⟨_,hd,xs,_,dd⟩:=jbw I.hok e
    refine⟨dd.typeIs,fun b q=>?_,hd⟩
    cases q
    obtain⟨ob,_,_,h1,h2,_⟩:=dd
    exact⟨ob,h1,h2.2.1⟩
section
variable {X:Cx}{aa:List (Addr×Obj)}{σ:St}{H:Hp}{s:Shared}{a:Addr}{y d:V}{u r:Value}{o:Option V}{A:Around}{E:Value->Shared->Prop}
theorem d_get2 {Q:Value->Shared->Prop}(hu:A.units+1<cLine)(I:Inv X aa σ H s)(g:jdm H a y o)(ry:yi y u)(rd:yi d r)(h:∀ w' s',Inv X aa σ H s'->yi (o.getD d) w'->Q w' s') :
    wpAny (model X.prog X.w) A (call (.builtin "dict.get") [.ref a,u,r]) Q E s:=by
  rcases g with⟨kvs,k,e,ey,l⟩ | ⟨kvs,k,b,e,ey,eb,l⟩
  · subst ey
    obtain⟨z,hd,vs,rel,dd⟩:=jes I.hok e
    refine call_meetsIn PySem.F.slot_dict_get dd.typeIs PySem.F.entry_dict_get (PySem.F.args_dict_get_3 _ _ _) (meets_dict_get_default (ye X.prog X.w) a (jen ry) hd r) ⟨_,dd.mapOf,h _ _ (I.tok _) ?_⟩
    rw[l]
    exact(rel.val k).getD rd
  · subst ey
    cases (show u=Value.ref b from ry)
    obtain⟨z,hd,xs,rel,dd⟩:=jbw I.hok e
    refine call_meetsIn PySem.F.slot_dict_get dd.typeIs PySem.F.entry_dict_get (PySem.F.args_dict_get_3 _ _ _) (meetsH_dict_get_default (tupleKind (ye X.prog X.w)) a b hd r) ⟨tupleKind_room_in1 hu,k,xs,XB I.hok eb,dd,h _ _ (I.tok _) ?_⟩
    rw[l]
    exact(rel.val k).getD rd
end
def tDGet2 (td ty tx:TE):TE:=fun σ H Q=>td σ H fun x H1=>∃ a,x = .ref a∧IsD H1 a∧ty σ H1 fun y H2=>tx σ H2 fun z H3=>∃ o,jdm H3 a y o∧Q (o.getD z) H3
section
variable {X:Cx}{o e f:Expr}{apos ar:Pos}{td ty tx:TE}
theorem jhg (hu:X.A.units+1<cLine)(ho:PE X o td)(he:PE X e ty)(hf:PE X f tx)(m:M2 X o "get" apos e f ar):PE X (.Call (.Attribute o "get" apos) [e,f] [] ar) (tDGet2 td ty tx):=by
  intro aa s σ H Q I h
  refine wpAny_Call_method m.base m.few m.line PySem.F.plainAttrs_dict PySem.F.slot_dict_get PySem.F.type_dict_get (thn (ho aa s σ H _ I h) fun u s1 ae=>?_)
  obtain⟨x,H1,I1,rx,a,ex,d,q1⟩:=ae
  subst ex
  obtain rfl:u=Value.ref a:=rx
  obtain⟨t1,t2,_⟩:=jcJ I1 d
  refine⟨t1,t2,?_⟩
  rw[m.trees]
  refine Calls.callWith_builtin rfl (Calls.evalArgs_plain (Calls.spliced_cons (thn (he aa s1 σ H1 _ I1 q1) fun iv s2 ⟨y,H2,I2,ry,q2⟩ =>
    Calls.spliced_cons (thn (hf aa s2 σ H2 _ I2 q2) fun fv s3 ⟨z,H3,I3,rz,ov,g,q3⟩=>Calls.spliced_nil ?_))))
  exact d_get2 hu I3 g ry rz fun w' s4 I4 fj=>⟨_,H3,I4,fj,q3⟩
end
theorem Inv.turnedL {X:Cx}{aa:List (Addr×Obj)}{σ:St}{H:Hp}{s:Shared}{h':Heap}{t':Nat}{ch:List Addr}(I:Inv X aa σ H s)(k:∀ b o,b∉ch->s.heap.get? b=some o->h'.get? b=some o)(f:∀ b∈ch,yS X aa H b) :
    Inv X aa σ H { s with heap:=h',toks:=t' }:=by
  have ne:∀ b u c,H b=some u->c∈ch->b≠c:=fun b u c q hc z=>by rw[z,(f c hc).1]at q;cases q
  refine I.step (g':=s.gens) (d':=s.drawn) (ch:=ch) (fun b hb=>?_) (fun b o _ _ hc q _=>k b o hc q) (fun b o _ _ hc q _=>⟨o.slots,k b o hc q⟩) (fun _ _ _ _ n=>n)
    (fun b o hc q=>⟨o,k b o hc q⟩) (fun _ _ q=>q) (fun _ _ _ q=>q) (fun b ps q=>⟨#[],by rw[q];simp⟩) (fun m hm=>?_) (fun b u q=>?_) I.bare
  · exact⟨(f b hb).2.2.2.1,(f b hb).2.1,(f b hb).2.2.2.2.1,(f b hb).2.2.2.2.2⟩
  · obtain⟨o,es,ep,ho,r⟩:=hm
    exact⟨o,es,ep,k _ o (fun hc=>(f _ hc).2.1 rfl) ho,r⟩
  · refine(I.hok b u q).stay (fun c v hc z=>k c v (fun hm=>?_) z) (fun _ z=>z) fun _ _ z=>z
    rcases hc with y | y
    · exact ne b u c q hm y.symm
    · exact ne c _ c y hm rfl
def Itz (K:Frag)(a b:Addr):It :=
  ⟨fun i H=>∃ xs ys x y,SqL K H a xs∧SqL K H b ys∧xs[i]? = some x∧ys[i]? = some y,fun i H x H'=>∃ p u v,x = .ref p∧H p=none∧(∀ xs,SqL K H a xs->xs[i]? = some u)∧(∀ ys,SqL K H b ys->ys[i]? = some v)∧H'=upd H p (.tup [u,v]),
    fun i H=>∃ xs ys,SqL K H a xs∧SqL K H b ys∧(xs.length<=i∨ys.length<=i)⟩
theorem jge {P:Program}{w:World}{K:Frag}{bj:List Expr}{x1:Nat}{pos:Pos}(a b z TI TO i1 i2:Addr)(D:ZipApart z TI TO i1 i2 a b) :
    Turn P w K (.Tuple bj x1 pos) (Itz K a b) [z,TO,i1,i2,TI] z (fun i h=>IsZip h z TI TO .none∧IsPair h TI (.ref i1) (.ref i2)∧(∃ u v,IsPair h TO u v)∧h.IsListIter i1 a i∧h.IsListIter i2 b i) where
  mem:=by simp
  obj:=fun i h st c hc=>by
    obtain⟨hz,ht,⟨u,v,ho⟩,⟨o1,q1,_,d1⟩,⟨o2,q2,_,d2⟩⟩:=st
    simp only[mem_cons,mem_nil_iff,or_false]at hc
    rcases hc with rfl | rfl | rfl | rfl | rfl
    · exact⟨_,hz,fun v e=>by have e:Data.fields _=Data.cell v:=e;cases e⟩
    · exact⟨_,ho,fun v e=>by have e:Data.seq _=Data.cell v:=e;cases e⟩
    · exact⟨o1,q1,fun v e=>by rw[d1]at e;cases e⟩
    · exact⟨o2,q2,fun v e=>by rw[d2]at e;cases e⟩
    · exact⟨_,ht,fun v e=>by have e:Data.seq _=Data.cell v:=e;cases e⟩
  keep:=fun i h h' st k=>by
    obtain⟨hz,ht,⟨u,v,ho⟩,q1,q2⟩:=st
    exact⟨k z (by simp) _ hz,k TI (by simp) _ ht,⟨u,v,k TO (by simp) _ ho⟩,q1.at fun o q=>k i1 (by simp) o q,q2.at fun o q=>k i2 (by simp) o q⟩
  item:=by
    intro X hP hw hK hc i aa s σ H E I hf st hg
    subst hP hw hK
    obtain⟨hz,ht,⟨u0,v0,ho⟩,q1,q2⟩:=st
    obtain⟨xs,ys,x,y,ha,hb,hx,hy⟩:=hg
    obtain⟨i1s,r1,p1,_⟩:=I.list ha
    obtain⟨i2s,r2,p2,_⟩:=I.list hb
    obtain⟨u,hu,ru⟩:=r1.get hx
    obtain⟨v,hv,rv⟩:=r2.get hy
    refine wpAny_pyNext_zip_item D hz ht ho q1 q2 p1.isList p2.isList (x:=u) (y:=v) (by simpa using hu) (by simpa using hv) fun h' z1 o1 j1 j2 tup sz keep=>?_
    refine⟨_,rfl,wpAny_letOwnedTupleGo_zip (s:={ s with heap:=h' }) z1 fun h2 z2 sb=>?_⟩
    have fz:=hf z (by simp)
    have lt:∀ c,(∃ o,s.heap.get? c=some o)->s.heap.objs.size≠c:=fun c hc e=>by
      obtain⟨o,ho⟩:=hc
      have:=lt_size ho
      rw[<- e]at this
      exact lt_irrefl _ this
    have n1:s.heap.objs.size≠z:=lt _ ⟨_,hz⟩
    have jbi:∀ c o,c∉[z,TO,i1,i2]->s.heap.get? c=some o->h2.get? c=some o:=fun c o hn q=>by
      simp only[mem_cons,mem_nil_iff,or_false,not_or]at hn
      exact(sb.2 c hn.1).trans (keep c o hn.1 hn.2.1 hn.2.2.1 hn.2.2.2 q)
    have I1:Inv X aa σ H { s with heap:=h2 }:=I.turnedL (t':=s.toks) (ch:=[z,TO,i1,i2]) jbi fun c hc=>hf c (by
      simp only[mem_cons,mem_nil_iff,or_false]at hc ⊢
      rcases hc with h | h | h | h
      · exact .inl h
      · exact .inr (.inl h)
      · exact .inr (.inr (.inl h))
      · exact .inr (.inr (.inr (.inl h))))
    have fresh:H s.heap.objs.size=none:=I.hok.fresh (le_refl _)
    have fp:=I.fpOk (le_refl _) fresh
    have fg:h2.get? s.heap.objs.size=some { cls:=.type "tuple",data:=.seq #[u,v] }:=(sb.2 _ n1).trans tup
    refine⟨.ref s.heap.objs.size,upd H s.heap.objs.size (.tup [x,y]),I1.track fp.np ⟨by show 2<=sizeLine;decide,[u,v],.cons ru (.cons rv .nil),⟨_,fg,rfl,_,rfl⟩⟩,rfl,⟨_,x,y,rfl,fresh,fun zs h=>by rw[I.list_inj h ha];exact hx,fun zs h=>by rw[I.list_inj h hb];exact hy,rfl⟩,
      ⟨z2,(sb.2 _ D.TIz).trans (keep _ _ D.TIz D.TITO D.TIi1 D.TIi2 ht),⟨u,v,(sb.2 _ D.TOz).trans o1⟩,j1.at fun o q=>(sb.2 _ D.i1z).trans q,j2.at fun o q=>(sb.2 _ D.i2z).trans q⟩,fun c hc=>?_⟩
    have:s.heap.objs.size≠c:=by
      simp only[mem_cons,mem_nil_iff,or_false]at hc
      rcases hc with rfl | rfl | rfl | rfl | rfl
      · exact n1
      · exact lt _ ⟨_,ho⟩
      · exact lt _ (let ⟨o,q,_⟩:=q1;⟨o,q⟩)
      · exact lt _ (let ⟨o,q,_⟩:=q2;⟨o,q⟩)
      · exact lt _ ⟨_,ht⟩
    rw[jk (Ne.symm this)]
    exact(hf c hc).1
  done:=by
    intro X hP hw hK hc i aa s σ H E I hf st hg
    subst hP hw hK
    obtain⟨hz,ht,⟨u0,v0,ho⟩,q1,q2⟩:=st
    obtain⟨xs,ys,ha,hb,hx⟩:=hg
    obtain⟨i1s,r1,p1,_⟩:=I.list ha
    obtain⟨i2s,r2,p2,_⟩:=I.list hb
    have l1:=r1.length
    have l2:=r2.length
    refine wpAny_pyNext_zip_end (I.ok.hd hc) D hz ht ho q1 q2 p1.isList p2.isList (by
      rcases hx with h | h
      · exact .inl (by simp;omega)
      · exact .inr (by simp;omega)) fun h' keep=>⟨rfl,I.turnedL (t':=s.toks) (ch:=[z,TO,i1,i2]) (fun c o hn q=>?_) fun c hc=>hf c ?_⟩
    · simp only[mem_cons,mem_nil_iff,or_false,not_or]at hn
      exact keep c o hn.1 hn.2.1 hn.2.2.1 hn.2.2.2 q
    · simp only[mem_cons,mem_nil_iff,or_false]at hc ⊢
      rcases hc with h | h | h | h
      · exact .inl h
      · exact .inr (.inl h)
      · exact .inr (.inr (.inl h))
      · exact .inr (.inr (.inr (.inl h)))
  self:=fun _ _ _ _ _ st h=>wpAny_pyIter_zip st.1 h
section
variable {X:Cx}{bj:List Expr}{x1:Nat}{bU:Pos}
theorem jeQ (n a b:Nat)(la:a<n)(lb:b<n):ZipApart (n+4) (n+2) (n+3) n (n+1) a b:=by
  constructor <;> (intro e;have e:(_:Nat)=(_:Nat):=e;omega)
theorem bt_zip:bootBuiltins "zip" = some (.type "zip"):=by decide +kernel
theorem jeP {aa:List (Addr×Obj)}{σ:St}{H1:Hp}{s1:Shared}{R:It->Hp->Prop}{a b:Addr}{xs ys:List V}(I1:Inv X aa σ H1 s1)(hx:SqL X.K H1 a xs)(hy:SqL X.K H1 b ys)(q:R (Itz X.K a b) H1) :
    wpAny (model X.prog X.w) X.A (call (.type "zip") [.ref a,.ref b]) (fun v s2=>wpAny (model X.prog X.w) X.A (pyIter v) (PIE X aa σ (.Tuple bj x1 bU) R) X.xe s2) X.xe s1:=by
  obtain⟨is1,_,p1,_⟩:=I1.list hx
  obtain⟨is2,_,p2,_⟩:=I1.list hy
  have la:a<s1.heap.objs.size:=let ⟨o,q,_⟩:=p1.isList;lt_size q
  have lb:b<s1.heap.objs.size:=let ⟨o,q,_⟩:=p2.isList;lt_size q
  refine call_zip_2 p1.isList p2.isList fun h' z ti to j1 j2 sz keep=>?_
  refine wpAny_pyIter_zip z ?_
  have D:ZipApart (s1.heap.objs.size+4) (s1.heap.objs.size+2) (s1.heap.objs.size+3) s1.heap.objs.size (s1.heap.objs.size+1) a b:=jeQ _ _ _ la lb
  refine⟨s1.heap.objs.size+4,_,_,_,H1,rfl,I1.kept (t':=s1.toks) keep,jge a b _ _ _ _ _ D,⟨z,ti,⟨_,_,to⟩,j1,j2⟩,fun c hc=>?_,q⟩
  have:s1.heap.objs.size<=c:=by
    simp only[mem_cons,mem_nil_iff,or_false]at hc
    rcases hc with rfl | rfl | rfl | rfl | rfl
    · exact le_add_right _ _
    · exact le_add_right _ _
    · exact le_refl _
    · exact le_add_right _ _
    · exact le_add_right _ _
  exact I1.fpOk this (I1.hok.fresh this)
end
section
variable {prog:Program}{w:World}{A:Around}{E:Value->Shared->Prop}{s:Shared}
theorem jfn {it tu:Addr}{i:Nat}{its:Array Value}{Q:Value->Shared->Prop}(nh:A.handled=none)(hI:s.heap.IsTupleIter it tu i)(hU:s.heap.IsTuple tu its)(hn:its[i]? = none)
    (go:∀ h' e,ExtBut it s.heap h'->(∃ o,h'.get? e=some o∧o.cls = .type "StopIteration")->E (.ref e) { s with heap:=h' }):wpAny (model prog w) A (Builtin.SmallTypes.nextOf (.ref it)) Q E s:=by
  obtain⟨oi,eT,hci,eN⟩:=id hI;obtain⟨ou,hou,_,nu,hdu⟩:=hU;unfold Builtin.SmallTypes.nextOf
  refine wpAny_bind (wpAny_callSpecial?_slot (name:=Str.ofString "__next__") hI.typeIs F.slot_tuple_iterator_next (wpAny_call_entry F.slot_tuple_iterator_next hI.typeIs F.entry_tuple_iterator_next ?_ (F.args_tuple_iterator_next_1 _)))
  show wpAny _ _ (field (.ref it) 0 >>= _) _ _ s;refine wpAny_bind (wpAny_field eT eN (x:=.ref tu) rfl ?_)
  show wpAny _ _ (if(Value.ref tu==Value.none)=true then _ else _) _ _ s;rw[if_neg (show ¬((Value.ref tu==Value.none)=true)from Bool.false_ne_true)]
  show wpAny _ _ (field (.ref it) 1 >>= _) _ _ s;refine wpAny_bind (wpAny_field eT eN (x:=.int i 0) rfl ?_)
  show wpAny _ _ (seqItems? (.ref tu) >>= _) _ _ s;refine wpAny_bind (wpAny_seqItems hou hdu ?_);simp only[Int.toNat_natCast,hn]
  refine wpAny_bind (wpAny_rule (wpAny_bind (wpAny_setField eT eN (by simp) ?_)));show wpAny _ _ (newExc (.type "StopIteration") [] >>= _) _ _ _
  refine wpAny_bind ?_;simp only[newExc,newTuple];refine wpAny_bind (wpAny_newObj_type ?_ (by size_fits))
  refine wpAny_bind (m:=firstArgMember _ _) (wpAny_of_eq (a:=Value.none) (by first | rfl | (simp only[firstArgMember];rfl)) ?_);refine wpAny_newObj_type ?_ (by size_fits)
  simp only[raiseNew];refine wpAny_bind (wpAny_handled ?_);first | rw[show A.in1.handled=none from nh] | rw[nh]
  refine wpAny_bind (wpAny_pure (wpAny_throw ?_));exact go _ _ (((Heap.SameBut.update ..).extBut.push _).push _) ⟨_,get?_push_size _ rfl,rfl⟩
theorem jfY {z TI TO i1 i2 t1:Addr}{i:Nat}{a b:Value}{xs:Array Value}{Q:Option Value->Shared->Prop}(nh:A.handled=none)(n1:i1≠z)(n2:t1≠z)(n3:t1≠i1)
    (hz:IsZip s.heap z TI TO .none) (hTI:IsPair s.heap TI (.ref i1) (.ref i2)) (hTO:IsPair s.heap TO a b) (h1:s.heap.IsTupleIter i1 t1 i) (hl1:s.heap.IsTuple t1 xs) (he:xs[i]? = none)
    (go:∀ h',(∀ c o,c≠z->c≠i1->s.heap.get? c=some o->h'.get? c=some o)->Q none { s with heap:=h' }):wpAny (model prog w) A (pyNext (.ref z)) Q E s:=by
  have hT:s.TypeIs (.ref z) "zip":=⟨_,hz,rfl⟩
  unfold pyNext
  refine wpAny_bind (wpAny_attempt (wpAny_callSpecial?_slot (name:=Str.ofString "__next__") hT F.slot_zip_next (wpAny_call_entry F.slot_zip_next hT F.entry_zip_next ?_ (F.args_zip_next_1 _))))
  show wpAny _ _ (field (.ref z) 2 >>= _) _ _ _;refine wpAny_bind (wpAny_field hz rfl (x:=.bool false) rfl ?_)
  show wpAny _ _ (field (.ref z) 3 >>= _) _ _ _;refine wpAny_bind (wpAny_field hz rfl (x:=.ref TI) rfl ?_)
  refine wpAny_bind (wpAny_seqItems hTI rfl ?_);show wpAny _ _ (Builtin.SmallTypes.ownedTupleIsFree (.ref z) >>= _) _ _ _
  refine wpAny_bind ?_;unfold Builtin.SmallTypes.ownedTupleIsFree;refine wpAny_bind (wpAny_field hz rfl (x:=.none) rfl (wpAny_pure ?_))
  simp only[if_true];refine wpAny_bind (wpAny_rule ?_);refine wpAny_bind (wpAny_field hz rfl (x:=.ref TO) rfl ?_)
  refine wpAny_bind (wpAny_setField_rec hz (by simp) fun hA zA sA=>?_)
  replace zA:IsZip hA z TI TO .ellipsis:=zA
  refine wpAny_bind ?_;simp only[List.zipIdx_cons,List.zipIdx_nil,List.forIn_cons,List.forIn_nil]
  refine wpAny_bind (wpAny_bind (wpAny_onRaise ?_));show wpAny _ _ (Builtin.SmallTypes.nextOf (.ref i1) >>= _) _ _ _
  refine wpAny_bind (jfn (its:=xs) nh (h1.extBut sA.extBut n1) (hl1.extBut sA.extBut n2) he fun hB e sB iu=>?_)
  obtain⟨oe,iX,hce⟩:=iu
  have zB:IsZip hB z TI TO .ellipsis:=sB _ _ n1.symm zA
  have hez:e≠z:=fun x=>by subst x;rw[zB]at iX;cases iX;simp at hce
  refine wpAny_setField_rec zB (by simp) fun hC _ sC=>?_
  refine wpAny_bind (wpAny_isInstance (T:="StopIteration") (b:=true) ⟨oe,sC.extBut _ _ hez iX,hce⟩ isSubtype_stop ?_)
  exact wpAny_pure (go _ fun c o c1 c2 q=>sC.extBut _ _ c1 (sB _ _ c2 (sA.extBut _ _ c1 q)))
abbrev zT1 (h:Heap)(t:Addr):Heap:=h.push { cls:=.type "tuple_iterator",data:=.fields #[.ref t,.int 0 0] }
abbrev zT3 (h:Heap)(t u:Addr):Heap:=(zT1 (zT1 h t) u).push { cls:=.type "tuple",data:=.seq #[.ref h.objs.size,.ref (zT1 h t).objs.size] }
abbrev zT4 (h:Heap)(t u:Addr):Heap:=(zT3 h t u).push { cls:=.type "tuple",data:=.seq #[.none,.none] }
abbrev zT5 (h:Heap)(t u:Addr):Heap:=(zT4 h t u).push { cls:=.type "zip",data:=.fields #[.none,.bool false,.bool false,.ref (zT1 (zT1 h t) u).objs.size,.ref (zT3 h t u).objs.size] }
theorem jcC (t u:Addr)(xs ys:Array Value) :
    Meets (Builtin.«zip.__new__» ⟨[.type "zip",.ref t,.ref u],[]⟩) (fun _ R s=>s.heap.IsTuple t xs∧s.heap.IsTuple u ys∧R (.ok (.ret (.ref (zT4 s.heap t u).objs.size))) { s with heap:=zT5 s.heap t u }) :=
  .of_wp fun prog w A R s h=>by
    obtain⟨hp,g,d,tk,os⟩:=s;obtain⟨q1,q2,h⟩:=h
    have hsub:=sub_zip
    have hL1:Heap.IsTuple (Shared.heap ⟨hp,g,d,tk,os⟩) t xs:=q1
    have hL2:Heap.IsTuple (Shared.heap ⟨hp.push { cls:=.type "tuple_iterator",data:=.fields #[.ref t,.int 0 0] },g,d,tk,os⟩) u ys:=Heap.IsTuple.push q2 _
    wp_walk using wpAny_pyIter_tuple hL1,wpAny_pyIter_tuple hL2
    exact⟨_,rfl,h⟩
theorem jfN {t u:Addr}{xs ys:Array Value}{Q:Value->Shared->Prop}(q1:s.heap.IsTuple t xs)(q2:s.heap.IsTuple u ys)
    (h:∀ h',IsZip h' (s.heap.objs.size+4) (s.heap.objs.size+2) (s.heap.objs.size+3) .none->IsPair h' (s.heap.objs.size+2) (.ref s.heap.objs.size) (.ref (s.heap.objs.size+1))->IsPair h' (s.heap.objs.size+3) .none .none ->
      h'.IsTupleIter s.heap.objs.size t 0->h'.IsTupleIter (s.heap.objs.size+1) u 0->(∀ c o,s.heap.get? c=some o->h'.get? c=some o)->Q (.ref (s.heap.objs.size+4)) { s with heap:=h' }) :
    wpAny (model prog w) A (call (.type "zip") [.ref t,.ref u]) Q E s:=by
  refine callType_new F.called_zip (by decide) (F.typeCall_zip_2 _ _) (F.newCall_zip_2 _ _) (fun obj=>F.args_object_init_3 obj _ _) F.entry_zip_new (jcC t u xs ys) ⟨q1,q2,?_⟩
  have z1:(zT1 s.heap t).objs.size=s.heap.objs.size+1:=size_push ..
  have z2:(zT1 (zT1 s.heap t) u).objs.size=s.heap.objs.size+2:=by rw[size_push,z1]
  have z3:(zT3 s.heap t u).objs.size=s.heap.objs.size+3:=by rw[size_push,z2]
  have z4:(zT4 s.heap t u).objs.size=s.heap.objs.size+4:=by rw[size_push,z3]
  have up:∀ c o,(zT3 s.heap t u).get? c=some o->(zT5 s.heap t u).get? c=some o:=fun c o q=>get?_push_of_some _ (get?_push_of_some _ q)
  have g5:(zT5 s.heap t u).get? (zT4 s.heap t u).objs.size=some _:=get?_push_size _ rfl
  have g4:(zT5 s.heap t u).get? (zT3 s.heap t u).objs.size=some _:=get?_push_of_some _ (get?_push_size _ rfl)
  have g3:(zT5 s.heap t u).get? (zT1 (zT1 s.heap t) u).objs.size=some _:=up _ _ (get?_push_size _ rfl)
  have g2:(zT5 s.heap t u).get? (zT1 s.heap t).objs.size=some _:=up _ _ (get?_push_of_some _ (get?_push_size _ rfl))
  have g1:(zT5 s.heap t u).get? s.heap.objs.size=some _:=up _ _ (get?_push_of_some _ (get?_push_of_some _ (get?_push_size _ rfl)))
  show _∧_
  rw[z2,z3,z4]at g5;rw[z1,z2]at g3;rw[z3]at g4;rw[z1]at g2;rw[z4]
  exact⟨⟨_,g5,rfl⟩,h _ g5 g3 g4 ⟨_,g1,rfl,rfl⟩ ⟨_,g2,rfl,rfl⟩ fun c o x=>up _ _ (get?_push_of_some _ (get?_push_of_some _ (get?_push_of_some _ x)))⟩
end
def Itz0 (K:Frag)(a:Addr):It:=⟨fun _ _=>False,fun _ _ _ _=>False,fun _ H=>SqT K H a []⟩
theorem jeU {P:Program}{w:World}{K:Frag}{tg:Expr}(a z TI TO i1 i2:Addr)(n1:i1≠z)(n2:a≠z)(n3:a≠i1) :
    Turn P w K tg (Itz0 K a) [z,TO,i1,TI] z (fun i h=>IsZip h z TI TO .none∧IsPair h TI (.ref i1) (.ref i2)∧IsPair h TO .none .none∧h.IsTupleIter i1 a i) where
  mem:=by simp
  obj:=fun i h st c hc=>by
    obtain⟨hz,ht,ho,⟨o1,q1,_,d1⟩⟩:=st
    simp only[mem_cons,mem_nil_iff,or_false]at hc
    rcases hc with rfl | rfl | rfl | rfl
    · exact⟨_,hz,fun v e=>by have e:Data.fields _=Data.cell v:=e;cases e⟩
    · exact⟨_,ho,fun v e=>by have e:Data.seq _=Data.cell v:=e;cases e⟩
    · exact⟨o1,q1,fun v e=>by rw[d1]at e;cases e⟩
    · exact⟨_,ht,fun v e=>by have e:Data.seq _=Data.cell v:=e;cases e⟩
  keep:=fun i h h' st k=>by
    obtain⟨hz,ht,ho,⟨o1,q1,r⟩⟩:=st
    exact⟨k z (by simp) _ hz,k TI (by simp) _ ht,k TO (by simp) _ ho,⟨o1,k i1 (by simp) _ q1,r⟩⟩
  item:=fun _ _ _ _ _ _ _ _ _ _ _ _ _ _ hg=>hg.elim
  done:=by
    intro X hP hw hK hc i aa s σ H E I hf st hg
    subst hP hw hK
    obtain⟨hz,ht,ho,q1⟩:=st
    obtain⟨its,r1,p1,_⟩:=I.tuple hg
    have l1:=r1.length
    refine jfY (xs:=its.toArray) (I.ok.hd hc) n1 n2 n3 hz ht ho q1 p1 (by have:its=[]:=List.length_eq_zero_iff.mp l1.symm;subst this;simp) fun h' keep=>⟨rfl,I.turnedL (t':=s.toks) (ch:=[z,i1]) (fun c o hn q=>?_) fun c hc=>hf c ?_⟩
    · simp only[mem_cons,mem_nil_iff,or_false,not_or]at hn
      exact keep c o hn.1 hn.2 q
    · simp only[mem_cons,mem_nil_iff,or_false]at hc ⊢
      rcases hc with h | h
      · exact .inl h
      · exact .inr (.inr (.inl h))
  self:=fun _ _ _ _ _ st h=>wpAny_pyIter_zip st.1 h
section
variable {X:Cx}{bj:List Expr}{x1:Nat}{bU:Pos}
theorem jfX {tg:Expr}{aa:List (Addr×Obj)}{σ:St}{H1:Hp}{s1:Shared}{R:It->Hp->Prop}{a b:Addr}{ys:List V}(I1:Inv X aa σ H1 s1)(hx:SqT X.K H1 a [])(hy:SqT X.K H1 b ys)(q:R (Itz0 X.K a) H1) :
    wpAny (model X.prog X.w) X.A (call (.type "zip") [.ref a,.ref b]) (fun v s2=>wpAny (model X.prog X.w) X.A (pyIter v) (PIE X aa σ tg R) X.xe s2) X.xe s1:=by
  obtain⟨is1,_,p1,_⟩:=I1.tuple hx
  obtain⟨is2,_,p2,_⟩:=I1.tuple hy
  have p1:s1.heap.IsTuple a is1.toArray:=p1
  have p2:s1.heap.IsTuple b is2.toArray:=p2
  have la:a<s1.heap.objs.size:=let ⟨o,q,_⟩:=p1;lt_size q
  refine jfN p1 p2 fun h' z ti to j1 j2 keep=>?_
  refine wpAny_pyIter_zip z ?_
  have n1:s1.heap.objs.size≠s1.heap.objs.size+4:=ne_of_lt (Nat.lt_add_of_pos_right (by decide))
  have n2:a≠s1.heap.objs.size+4:=ne_of_lt (lt_of_lt_of_le la (le_add_right _ _))
  refine⟨s1.heap.objs.size+4,_,_,_,H1,rfl,I1.kept (t':=s1.toks) keep,jeU a _ _ _ s1.heap.objs.size (s1.heap.objs.size+1) n1 n2 (ne_of_lt la),⟨z,ti,to,j1⟩,fun c hc=>?_,q⟩
  have:s1.heap.objs.size<=c:=by
    simp only[mem_cons,mem_nil_iff,or_false]at hc
    rcases hc with rfl | rfl | rfl | rfl
    · exact le_add_right _ _
    · exact le_add_right _ _
    · exact le_refl _
    · exact le_add_right _ _
  exact I1.fpOk this (I1.hok.fresh this)
def iZip (K:Frag)(ta:TA):TI:=fun σ H R=>ta σ H fun vs H1=>∃ a b,vs=[.ref a,.ref b]∧(((∃ xs,SqL K H1 a xs)∧(∃ ys,SqL K H1 b ys)∧R (Itz K a b) H1)∨(SqT K H1 a []∧(∃ ys,SqT K H1 b ys)∧R (Itz0 K a) H1))
theorem pi_zip {l m:Expr}{ta:TA}{p pos:Pos}(hg:Gl X "zip")(hm:X.mg "zip" = none)(ha:PA X [l,m] ta)(hs:starEach [l,m] X.env=(false,eval l X.env)::starEach [m] X.env:=by rfl)(bx:starEach [m] X.env=[(false,eval m X.env)]:=by rfl):PI X (.Tuple bj x1 bU) (.Call (.Name "zip" p) [l,m] [] pos) (iZip X.K ta):=by
  intro aa s σ H R I h
  refine Call_ (JY I hg hm bt_zip (PyProof.Rows.callWith_type1 (thn (ha pos aa s σ H _ I h) fun us s1 ae=>?_) hs (by rw[bx];rfl)))
  obtain⟨vs,H1,I1,r1,q1⟩:=ae
  obtain⟨a,b,e,q⟩:=q1
  subst e
  obtain⟨u,v,rfl,ru,rv⟩:=yf.two r1
  cases ru
  cases rv
  rcases q with⟨⟨xs,hx⟩,⟨ys,hy⟩,q⟩ | ⟨hx,⟨ys,hy⟩,q⟩
  · exact jeP I1 hx hy q
  · exact jfX I1 hx hy q
end
end L2
namespace HT
open PySem PySem.Spec PyProof.Rows
section
variable {prog:Program}{w:World}{A:Around}{E:Value->Shared->Prop}{s:Shared}
theorem getItem_tuple_all {t sl:Addr}{items:Array Value}{vl vu:Value}{lo hi:Option Int}{Q:Value->Shared->Prop}(ht:IsTup s.heap t items)(hs:s.heap.IsSliceOf sl vl vu .none)(pl:IsPart vl lo)(pu:IsPart vu hi)
    (h0:sIx items.size 0 lo=0) (h1:sIx items.size items.size hi=items.size) (h:Q (.ref t) s):wpAny (model prog w) A (getItem (.ref t) (.ref sl)) Q E s:=by
  obtain⟨os,fF,ix,gS⟩:=id hs;have i8:s.TypeIs (.ref sl) "slice":=⟨os,fF,ix⟩
  unfold getItem;try with_reducible refine wpAny_holding ?_
  (first | refine wpAny_bind (wpAny_pure ?_) | skip);refine wpAny_bind (wpAny_sequenceKey ht.typeIs (by decide) ?_)
  refine wpAny_bind (wpAny_callSpecial?_slot (name:=Str.ofString "__getitem__") ht.typeIs PyProof.Rows.slot_tuple_getitem (wpAny_call_entry PyProof.Rows.slot_tuple_getitem ht.typeIs entry_tuple_getitem ?_ (args_tuple_getitem _ _)))
  show wpAny _ _ (Builtin.Tuple.tupleItemsOf (.ref t) >>= _) _ _ s;refine wpAny_bind (tupleItemsOf_ ht ?_);refine wpAny_bind (wpAny_typeOf i8 ?_)
  rw[if_pos (by decide)];refine wpAny_bind (vc hs pl pu ?_)
  have hy:((((sIx items.size 0 lo:Nat):Int)==0 && (1:Int)==1 && (sIx items.size items.size hi-sIx items.size 0 lo)==items.size)=true):=by rw[h0,h1];simp
  show wpAny _ _ (if(((sIx items.size 0 lo:Nat):Int)==0 && (1:Int)==1 && (sIx items.size items.size hi-sIx items.size 0 lo)==items.size)=true then _ else _) _ _ s
  rw[if_pos hy]
  refine wpAny_bind (m:=Builtin.Tuple.tupleIsExact _) ?_;unfold Builtin.Tuple.tupleIsExact;refine wpAny_bind (wpAny_typeOf ht.typeIs (wpAny_pure ?_));rw[if_pos (by decide)]
  exact wpAny_bind (wpAny_rule (wpAny_pure ⟨_,rfl,wpAny_pure h⟩))
end
end HT
namespace L2
open PySem PySem.Spec PyProof.Rows
section
variable {X:Cx}
def rSlW (K:Frag):V->Option Int->Option Int->Hp->VK->Prop:=fun x lo hi H Q=>∃ a xs,x = .ref a∧SqT K H a xs∧(HT.sIx xs.length 0 lo=0∧HT.sIx xs.length xs.length hi=xs.length)∧Q (.ref a) H
theorem jiW:SlR X (rSlW X.K):=by
  intro aa s σ H x v vl vu lo hi sl Q I rx hs pl pu h
  obtain⟨a,xs,rfl,hx,hw,q⟩:=h
  cases rx
  obtain⟨its,r,ht,hz⟩:=I.tuple hx
  have aq:its.toArray.size=xs.length:=by rw[size_toArray];exact r.length.symm
  exact⟨"tuple",_,PyProof.Rows.slot_tuple_getitem.lookup,ht.typeIs,HT.getItem_tuple_all ht hs pl pu (by rw[aq];exact hw.1) (by rw[aq];exact hw.2) ⟨.ref a,H,I,rfl,q⟩⟩
end
theorem Inv.freezeD {X:Cx}{aa:List (Addr×Obj)}{σ:St}{H:Hp}{s:Shared}{a:Addr}{kvs:List (List Key×V)}(I:Inv X aa σ H s)(e:H a=some (.dT kvs)):∃ o,Inv X aa σ (upd H a (.frz o (.dT kvs))) s:=by
  obtain⟨hl,hd,xs,rel,o,es,ep,ho,hx,bX,cE,nd⟩:=(show yk X.prog X.w H s.heap a (.dT kvs)from I.hok a _ e)
  refine⟨o,?_⟩
  have:=YR (h':=s.heap) (t':=s.toks) (ob:=.frz o (.dT kvs)) I (by rw[e];exact True.intro) ⟨rfl,fun _ _=>rfl⟩ ⟨o,ho⟩ ⟨ho,hl,hd,xs,KT.keeps rel fun c ys ec=>?_,o,es,ep,ho,hx,bX,cE,nd⟩
  · exact this
  · rw[jk (jht ec e (fun z=>nomatch z))]
    exact ec
theorem Paired.at {α β:Type}{F:α->β->Prop}{l₁:List α}{l₂:List β}(h:Paired F l₁ l₂):∀{i:Nat}{x:α},l₁[i]? = some x->∃ y,l₂[i]? = some y∧F x y:=by
  induction h with
  | nil=>intro i x e;simp at e
  | cons r t ih =>
    intro i x e
    cases i with
    | zero=>cases e;exact⟨_,rfl,r⟩
    | succ i=>exact ih (i:=i) e
abbrev NK:=Int×List Key
def nHash (w:World)(k:NK):Int:=reduceHash (Builtin.Tuple.tupleHashOf [keyH w (.inl k.1),reduceHash (Builtin.Tuple.tupleHashOf (k.2.map (keyH w)))])
def ndF (w:World)(d:Addr)(xs:List (NK×Addr×Value)):Heap->Prop:=fun h=>(d==sysModules)=false∧xs.length<=sizeLine∧(xs.map (·.1)).Nodup ∧
  ∃ o es ep,h.get? d=some o∧o.ExactDict∧o.data = .dict es ep∧es.toList=xs.map fun x=>⟨nHash w x.1,.ref x.2.1,x.2.2⟩
def ndO (w:World)(d:Addr)(xs:List (NK×Addr×Value)):HO:=.ext (ndF w d xs)
def NKey (K:Frag)(H:Hp)(k:NK)(b:Addr):Prop:=∃ c,H b=some (.tup [.int k.1,.ref c])∧SqT K H c (k.2.map kV)
def jiL (a:Addr)(o:Obj)(kv vv:V):Prop:=o.ExactDict∧(a==sysModules)=false∧∃ i ku vu ep,o.data = .dict #[⟨i,ku,vu⟩] ep∧yi kv ku∧yi vv vu
def odO (a:Addr)(o:Obj)(kv vv:V):HO:=.ext fun h=>h.get? a=some o∧jiL a o kv vv
theorem Inv.odd {X:Cx}{aa:List (Addr×Obj)}{σ:St}{H:Hp}{s:Shared}{a:Addr}{kv vv:V}{o:Obj}(I:Inv X aa σ H s)(e:H a=some (odO a o kv vv)):s.heap.get? a=some o∧jiL a o kv vv:=by
  obtain⟨p,_⟩:=(show yk X.prog X.w H s.heap a (odO a o kv vv)from I.hok a _ e)
  exact p
end L2
set_option maxHeartbeats 4000000
namespace L3
open PySem L2
inductive PV where
 | non | bl (b:Bool) | int (i:Int) | str (x:Str) | ty (n:String)
 | tup (xs:List PV) | lst (xs:List PV)
  | scr (ns:List Int)
  | top (k:Nat)
  | exn (k:Nat)
  | dct (kvs:List (List Int×Int))
  | dod (k v:PV)
  | ref (i:Nat)
inductive Cell where
 | lst (xs:List PV)
 | dct (kvs:List (List Int×Int))
 | ins (k:Nat) (fs:List (Str×PV))
 | dtv (l:List (List Int×PV))
 | dkv (l:List (Int×PV))
 | dsv (l:List (List Key×PV))
 | dnv (j:Nat) (l:List (NK×PV))
  | xd (fs:List (Str×PV))
structure Sto where
 n:Nat
 g:Nat->Option Cell
def Sto.set (M:Sto)(i:Nat)(c:Cell):Sto:=⟨M.n,fun j=>if j=i then some c else M.g j⟩
def Sto.new (M:Sto)(c:Cell):Sto:=⟨M.n+1,fun j=>if j=M.n then some c else M.g j⟩
def Sto.drop (M:Sto)(i:Nat):Sto:=⟨M.n,fun j=>if j=i then none else M.g j⟩
theorem Sto.set_same {M:Sto}{i:Nat}{c:Cell}:(M.set i c).g i=some c:=if_pos rfl
theorem Sto.set_ne {M:Sto}{i j:Nat}{c:Cell}(h:j≠i):(M.set i c).g j=M.g j:=if_neg h
theorem Sto.new_same {M:Sto}{c:Cell}:(M.new c).g M.n=some c:=if_pos rfl
theorem Sto.new_ne {M:Sto}{j:Nat}{c:Cell}(h:j≠M.n):(M.new c).g j=M.g j:=if_neg h
structure Tb where
 K:Frag
 C:Nat->Addr
 w:World
structure Wd where
 T:Tb
 F:Hp
 α:Nat->Option Addr
 G:Hp
structure Wd.le0 (W W':Wd):Prop where
 k:W'.T=W.T
 f:∀ a o,W.F a=some o->W'.F a=some o
 a:∀ i a,W.α i=some a->W'.α i=some a
structure Wd.le (W W':Wd):Prop extends toLe0:Wd.le0 W W' where
 g:W'.G=W.G
theorem Wd.le0.trans {A B C:Wd}(h:A.le0 B)(k:B.le0 C):A.le0 C:=⟨k.k.trans h.k,fun a o e=>k.f a o (h.f a o e),fun i a e=>k.a i a (h.a i a e)⟩
theorem Wd.le.refl (W:Wd):W.le W:=⟨⟨rfl,fun _ _ e=>e,fun _ _ e=>e⟩,rfl⟩
theorem Wd.le.trans {A B C:Wd}(h:A.le B)(k:B.le C):A.le C:=⟨h.toLe0.trans k.toLe0,k.g.trans h.g⟩
def jdk (W:Wd)(k:Nat)(dd:Option Addr):Prop:=if k<64 then dd=none else ∃ d,dd=some d∧W.α (k/64-1)=some d
theorem jdk.up {W W':Wd}{k:Nat}{dd:Option Addr}(h:W.le0 W')(x:jdk W k dd):jdk W' k dd:=by
 unfold jdk at x ⊢;split at x
 ·rename_i z;rw[if_pos z];exact x
 ·rename_i z;rw[if_neg z];obtain⟨d,e,q⟩:=x;exact⟨d,e,h.a _ _ q⟩
def dctV (l:List (List Int×Int)):List (List Key×V):=l.map fun p=>(p.1.map Sum.inl,V.int p.2)
def SqF (K:Frag)(F:Hp)(a:Addr)(xs:List V):Prop :=
 F a=some (.tup xs)∨∃(o:Obj) (its:Array Value) (n:Nat),K.lookup a=some o∧o.cls = .type "tuple"∧o.data = .seq its n∧its.size<=sizeLine∧yf xs its.toList
mutual
def Rep (W:Wd):PV->V->Prop
 | .non,v=>v = .non
 | .bl b,v=>v = .bl b
 | .int i,v=>v = .int i
 | .str x,v=>v = .str x
 | .ty n,v=>v = .ty n
 | .top k,v=>v = .ref (W.T.C k)
 | .exn k,v=>∃ a dd,v = .ref a∧W.F a=some (excO a (W.T.C (k%64)) dd)∧jdk W k dd
 | .dct l,v=>∃ a o,v = .ref a∧W.F a=some (.frz o (.dT (dctV l)))
 | .dod k x,v=>∃ a o kv vv,v = .ref a∧W.F a=some (odO a o kv vv)∧Rep W k kv∧Rep W x vv
 | .scr ns,v=>∃ a,v = .ref a∧SqL W.T.K W.F a (ns.map V.int)∧ns.length<=63
 | .ref i,v=>∃ a,v = .ref a∧W.α i=some a
 | .tup xs,v=>∃ a vs,v = .ref a∧SqF W.T.K W.F a vs∧yc W xs vs
 | .lst xs,v=>∃ a vs,v = .ref a∧W.F a=some (.lst vs)∧yc W xs vs
def yc (W:Wd):List PV->List V->Prop
 | [],vs=>vs=[]
 | x::xs,vs=>∃ v r,vs=v::r∧Rep W x v∧yc W xs r
end
theorem seqF {K:Frag}{H H':Hp}{a:Addr}{xs:List V}(e:Yn H H')(h:SqF K H a xs):SqF K H' a xs:=by
 rcases h with h | h
 ·exact .inl (e _ _ h)
 ·exact .inr h
theorem SqF.toT {K:Frag}{H:Hp}{a:Addr}{xs:List V}(h:SqF K H a xs):SqT K H a xs:=by
 rcases h with h | h
 ·exact .inl (.inl h)
 ·exact .inr h
theorem Xa {K:Frag}{H H':Hp}{a:Addr}{xs:List V}(e:Yn H H')(h:SqT K H a xs):SqT K H' a xs:=by
 rcases h with(h | ⟨o,h⟩) | h
 ·exact .inl (.inl (e _ _ h))
 ·exact .inl (.inr ⟨o,e _ _ h⟩)
 ·exact .inr h
mutual
theorem Rep.up0 {W W':Wd}(h:W.le0 W'):∀{x:PV}{v:V},Rep W x v->Rep W' x v
 | .non,_,r=>r
 | .bl _,_,r=>r
 | .int _,_,r=>r
 | .str _,_,r=>r
 | .ty _,_,r=>r
 | .top k,_,r=>by
  show _=V.ref (W'.T.C k);rw[h.k];exact r
 | .exn k,_,⟨a,dd,e,q,z⟩=>⟨a,dd,e,by rw[h.k];exact h.f _ _ q,z.up h⟩
 | .dct _,_,⟨a,o,e,q⟩=>⟨a,o,e,h.f _ _ q⟩
 | .dod _ _,_,⟨a,o,kv,vv,e,q,r1,r2⟩=>⟨a,o,kv,vv,e,h.f _ _ q,Rep.up0 h r1,Rep.up0 h r2⟩
 | .scr _,_,⟨a,e,q,z⟩=>⟨a,e,by rw[h.k];exact(show Yn W.F W'.F from h.f).seq q,z⟩
 | .ref _,_,⟨a,e,q⟩=>⟨a,e,h.a _ _ q⟩
 | .tup _,_,⟨a,vs,e,q,r⟩=>⟨a,vs,e,by rw[h.k];exact seqF h.f q,yc.up0 h r⟩
 | .lst _,_,⟨a,vs,e,q,r⟩=>⟨a,vs,e,h.f _ _ q,yc.up0 h r⟩
theorem yc.up0 {W W':Wd}(h:W.le0 W'):∀{xs:List PV}{vs:List V},yc W xs vs->yc W' xs vs
 | [],_,r=>r
 | _::_,_,⟨v,r,e,a,b⟩=>⟨v,r,e,Rep.up0 h a,yc.up0 h b⟩
end
theorem Rep.up {W W':Wd}(h:W.le W'){x:PV}{v:V}(r:Rep W x v):Rep W' x v:=r.up0 h.toLe0
theorem yc.up {W W':Wd}(h:W.le W'){x:List PV}{v:List V}(r:yc W x v):yc W' x v:=r.up0 h.toLe0
theorem yc.length {W:Wd}:∀{xs:List PV}{vs:List V},yc W xs vs->vs.length=xs.length
 | [],_,r=>by cases r;rfl
 | _::_,_,⟨v,r,e,_,b⟩=>by subst e;simp[yc.length b]
theorem yc.append {W:Wd}:∀{xs:List PV}{vs:List V}{ys:List PV}{us:List V},yc W xs vs->yc W ys us->yc W (xs++ys) (vs++us)
 | [],_,_,_,r,q=>by cases r;exact q
 | _::_,_,_,_,⟨v,r,e,a,b⟩,q=>by subst e;exact⟨v,_,rfl,a,yc.append b q⟩
theorem yc.get {W:Wd}:∀{xs:List PV}{vs:List V}{i:Nat}{x:PV},yc W xs vs->xs[i]? = some x->∃ v,vs[i]? = some v∧Rep W x v
 | [],_,_,_,_,e=>by simp at e
 | _::_,_,0,_,⟨v,r,e,a,_⟩,q=>by simp at q;subst q;subst e;exact⟨v,rfl,a⟩
 | _::_,_,i+1,_,⟨v,r,e,_,b⟩,q=>by
  subst e;obtain⟨u,h1,h2⟩:=yc.get (i:=i) b (by simpa using q);exact⟨u,by simpa using h1,h2⟩
theorem yc.drop {W:Wd}:∀{xs:List PV}{vs:List V}(n:Nat),yc W xs vs->yc W (xs.drop n) (vs.drop n)
 | _,_,0,r=>r
 | [],_,n+1,r=>by cases r;rfl
 | _::_,_,n+1,⟨v,r,e,_,b⟩=>by subst e;exact yc.drop n b
theorem yc.take {W:Wd}:∀{xs:List PV}{vs:List V}(n:Nat),yc W xs vs->yc W (xs.take n) (vs.take n)
 | _,_,0,r=>by simp[yc]
 | [],_,n+1,r=>by cases r;rfl
 | _::_,_,n+1,⟨v,r,e,a,b⟩=>by subst e;exact⟨v,_,rfl,a,yc.take n b⟩
theorem yc.set {W:Wd}{x:PV}{v:V}(h:Rep W x v):∀{xs:List PV}{vs:List V}(n:Nat),yc W xs vs->yc W (xs.set n x) (vs.set n v)
 | [],_,n,r=>by cases r;rfl
 | _::_,_,0,⟨u,r,e,a,b⟩=>by subst e;exact⟨v,_,rfl,h,b⟩
 | _::_,_,n+1,⟨u,r,e,a,b⟩=>by subst e;exact⟨u,_,rfl,a,yc.set h n b⟩
theorem yc.rep {W:Wd}{xs:List PV}{vs:List V}(h:yc W xs vs):∀ n:Nat,yc W (replicate n xs).flatten (replicate n vs).flatten
 | 0=>rfl
 | n+1=>by
  rw[replicate_succ,replicate_succ,flatten_cons,flatten_cons];exact yc.append h (yc.rep h n)
theorem yc.ints {W:Wd}:∀{ns:List Int}{vs:List V},yc W (ns.map PV.int) vs↔vs=ns.map V.int
 | [],_=>Iff.rfl
 | n::ns,vs=>by
  constructor
  ·rintro⟨v,r,e,a,b⟩;have a:v = .int n:=a;rw[e,a,yc.ints.mp b];rfl
  ·rintro rfl;exact⟨_,_,rfl,rfl,yc.ints.mpr rfl⟩
theorem yc.bools {W:Wd}:∀{ns:List Bool}{vs:List V},yc W (ns.map PV.bl) vs↔vs=ns.map V.bl
 | [],_=>Iff.rfl
 | n::ns,vs=>by
  constructor
  ·rintro⟨v,r,e,a,b⟩;have a:v = .bl n:=a;rw[e,a,yc.bools.mp b];rfl
  ·rintro rfl;exact⟨_,_,rfl,rfl,yc.bools.mpr rfl⟩
def vO (W:Wd):List (Str×PV)->List (Str×V)->Prop
 | [],vs=>vs=[]
 | p::xs,vs=>∃ v r,vs=(p.1,v)::r∧Rep W p.2 v∧vO W xs r
theorem vO.up0 {W W':Wd}(h:W.le0 W'):∀{xs:List (Str×PV)}{vs:List (Str×V)},vO W xs vs->vO W' xs vs
 | [],_,r=>r
 | _::_,_,⟨v,r,e,a,b⟩=>⟨v,r,e,a.up0 h,vO.up0 h b⟩
theorem vO.get {W:Wd}{f:Str}:∀{xs:List (Str×PV)}{vs:List (Str×V)},vO W xs vs->∀{x:PV},xs.lookup f=some x->∃ v,vs.lookup f=some v∧Rep W x v
 | [],_,_,_,e=>by simp at e
 | p::xs,_,⟨v,r,e,a,b⟩,x,q=>by
  subst e;rw[lookup_cons]at q ⊢
  by_cases h:(f==p.1)=true
  ·rw[h]at q ⊢;cases q;exact⟨v,rfl,a⟩
  ·rw[not_eq_true]at h;rw[h]at q ⊢;exact vO.get b q
theorem vO.none {W:Wd}{f:Str}:∀{xs:List (Str×PV)}{vs:List (Str×V)},vO W xs vs->xs.lookup f=none->vs.lookup f=none
 | [],_,e,_=>by cases e;rfl
 | p::xs,_,⟨v,r,e,a,b⟩,q=>by
  subst e;rw[lookup_cons]at q ⊢
  by_cases h:(f==p.1)=true
  ·rw[h]at q;cases q
  ·rw[not_eq_true]at h;rw[h]at q ⊢;exact vO.none b q
theorem vO.length {W:Wd}:∀{xs:List (Str×PV)}{vs:List (Str×V)},vO W xs vs->vs.length=xs.length
 | [],_,e=>by cases e;rfl
 | _::_,_,⟨_,_,e,_,b⟩=>by subst e;simp[vO.length b]
def Vf (f:Str)(v:PV):List (Str×PV)->List (Str×PV)
 | []=>[(f,v)]
 | p::r=>if f==p.1 then(p.1,v)::r else p::Vf f v r
def yJ {α κ:Type}(W:Wd)(f:α->κ):List (α×PV)->List (κ×V)->Prop
 | [],vs=>vs=[]
 | p::r,vs=>∃ v rs,vs=(f p.1,v)::rs∧Rep W p.2 v∧yJ W f r rs
theorem yJ.up0 {α κ:Type}{W W':Wd}{f:α->κ}(h:W.le0 W'):∀{l:List (α×PV)}{vs:List (κ×V)},yJ W f l vs->yJ W' f l vs
 | [],_,e=>e
 | _::_,_,⟨v,rs,e,r,t⟩=>⟨v,rs,e,r.up0 h,yJ.up0 h t⟩
def xw (k:List Int):List Key:=k.map Sum.inl
def keyI (k:Int):Key:=Sum.inl k
def YI (W:Wd):List (NK×PV)->List (NK×Addr×Value)->Prop
 | [],xs=>xs=[]
 | p::r,xs=>∃ b u rs v,xs=(p.1,b,u)::rs∧NKey W.T.K W.F p.1 b∧Rep W p.2 v∧yi v u∧YI W r rs
theorem YI.up0 {W W':Wd}(h:W.le0 W'):∀{l:List (NK×PV)}{xs:List (NK×Addr×Value)},YI W l xs->YI W' l xs
 | [],_,e=>e
 | _::_,_,⟨b,u,rs,v,e,⟨c,k1,k2⟩,r,ru,t⟩=>⟨b,u,rs,v,e,⟨c,h.f _ _ k1,by rw[h.k];exact Xa h.f k2⟩,r.up0 h,ru,YI.up0 h t⟩
def Vk (W:Wd):Cell->HO->Prop
 | .lst xs,o=>∃ vs,o = .lst vs∧yc W xs vs
 | .dct l,o=>o = .dT (dctV l)
 | .ins k fs,o=>∃ dx vs,o = .ins (W.T.C k) dx vs∧vO W fs vs
 | .dtv l,o=>∃ vs,o = .dT vs∧yJ W xw l vs
 | .dkv l,o=>∃ vs,o = .dK vs∧yJ W keyI l vs
 | .dsv l,o=>∃ vs,o = .dT vs∧yJ W id l vs
 | .xd fs,o=>∃ vs,o = .xd vs∧vO W fs vs
 | .dnv j l,o=>(l=[]∧o = .dT [])∨∃ d xs,W.α j=some d∧o=ndO W.T.w d xs∧YI W l xs
theorem Vk.up0 {W W':Wd}(h:W.le0 W'):∀{c:Cell}{o:HO},Vk W c o->Vk W' c o
 | .lst _,_,⟨vs,e,r⟩=>⟨vs,e,r.up0 h⟩
 | .dct _,_,r=>r
 | .ins _ _,_,⟨dx,vs,e,r⟩=>⟨dx,vs,by rw[h.k];exact e,r.up0 h⟩
 | .dtv _,_,⟨vs,e,r⟩=>⟨vs,e,r.up0 h⟩
 | .dkv _,_,⟨vs,e,r⟩=>⟨vs,e,r.up0 h⟩
 | .dsv _,_,⟨vs,e,r⟩=>⟨vs,e,r.up0 h⟩
 | .xd _,_,⟨vs,e,r⟩=>⟨vs,e,r.up0 h⟩
 | .dnv _ _,_,.inl r=>.inl r
 | .dnv _ _,_,.inr ⟨d,xs,e1,e2,r⟩=>.inr ⟨d,xs,h.a _ _ e1,by rw[h.k];exact e2,r.up0 h⟩
theorem Vk.up {W W':Wd}(h:W.le W'){c:Cell}{o:HO}(r:Vk W c o):Vk W' c o:=r.up0 h.toLe0
structure Held (W:Wd)(M:Sto)(H:Hp):Prop where
 f:∀ a o,W.F a=some o->H a=some o
 m:∀ i c,M.g i=some c->∃ a o,W.α i=some a∧W.F a=none∧H a=some o∧Vk W c o
 inj:∀ i j a c c',M.g i=some c->M.g j=some c'->W.α i=some a->W.α j=some a->i=j
 top:∀ i,M.n<=i->W.α i=none
 gd:∀ a o,W.G a=some o->H a=some o∧W.F a=none∧∀ i c,M.g i=some c->W.α i≠some a
 gl:∀ a o,W.G a=some o->∀ vs,o≠.tup vs
def Wd.frz (W:Wd)(l:Addr)(o:HO):Wd:=⟨W.T,L2.upd W.F l o,W.α,W.G⟩
theorem Held.Fnone {W:Wd}{M:Sto}{H:Hp}{l:Addr}(h:Held W M H)(e:H l=none):W.F l=none:=by
 cases q:W.F l with
 | none=>rfl
 | some o =>
  rw[h.f l o q]at e;cases e
theorem Wd.le_frz {W:Wd}{l:Addr}{o:HO}(e:W.F l=none):W.le (W.frz l o) :=
 ⟨⟨rfl,fun a u q=>by
  show L2.upd W.F l o a=some u;rw[jk (fun z:a=l=>by rw[z,e]at q;cases q)]
  exact q,fun _ _ q=>q⟩,rfl⟩
theorem Held.frz {W:Wd}{M:Sto}{H:Hp}{l:Addr}{o:HO}(h:Held W M H)(e:H l=none):W.le (W.frz l o)∧Held (W.frz l o) M (L2.upd H l o)∧(W.frz l o).F l=some o:=by
 have le:=Wd.le_frz (o:=o) (h.Fnone e);refine⟨le,⟨fun a u q=>?_,fun i c q=>?_,h.inj,h.top,fun a u q=>?_,h.gl⟩,jr⟩
 rotate_left 2
 ·obtain⟨h1,h2,h3⟩:=h.gd a u q;have z:a≠l:=jv h1 e;refine⟨by rw[jk z];exact h1,?_,h3⟩;show L2.upd W.F l o a=none;rw[jk z];exact h2
 ·have q:L2.upd W.F l o a=some u:=q
  by_cases z:a=l
  ·subst z;rw[jr]at q ⊢;exact q
  ·rw[jk z]at q ⊢;exact h.f a u q
 ·obtain⟨a,u,h1,h2,h3,h4⟩:=h.m i c q;have z:a≠l:=jv h3 e;refine⟨a,u,h1,?_,by rw[jk z];exact h3,h4.up le⟩;show L2.upd W.F l o a=none;rw[jk z];exact h2
def Wd.put (W:Wd)(n:Nat)(l:Addr):Wd:=⟨W.T,W.F,fun i=>if i=n then some l else W.α i,W.G⟩
theorem Held.le_put {W:Wd}{M:Sto}{H:Hp}{l:Addr}(h:Held W M H):W.le (W.put M.n l) :=
 ⟨⟨rfl,fun _ _ q=>q,fun i a q=>by
  show(if i=M.n then some l else W.α i)=some a;rw[if_neg (fun z=>by rw[z,h.top _ (le_refl _)]at q;cases q)]
  exact q⟩,rfl⟩
theorem Held.putW {W:Wd}{M:Sto}{H:Hp}{l:Addr}{o:HO}{c:Cell}(h:Held W M H)(e:H l=none)(r:Vk (W.put M.n l) c o):W.le (W.put M.n l)∧Held (W.put M.n l) (M.new c) (L2.upd H l o)∧(W.put M.n l).α M.n=some l:=by
 have le:=h.le_put (l:=l);have fl:=h.Fnone e;refine⟨le,⟨fun a u q=>?_,fun i c' q=>?_,fun i j a c1 c2 q1 q2 e1 e2=>?_,fun i hi=>?_,fun a u q=>?_,h.gl⟩,if_pos rfl⟩
 rotate_left 4
 ·obtain⟨h1,h2,h3⟩:=h.gd a u q;have z:a≠l:=jv h1 e;refine⟨by rw[jk z];exact h1,h2,fun i c' qi=>?_⟩;show(if i=M.n then some l else W.α i)≠some a
  by_cases hi:i=M.n
  ·rw[if_pos hi];exact fun w=>z (Option.some.inj w).symm
  ·rw[if_neg hi];rw[Sto.new_ne hi]at qi;exact h3 i c' qi
 ·have q:W.F a=some u:=q;rw[jk (fun z:a=l=>by rw[z,fl]at q;cases q)];exact h.f a u q
 ·by_cases z:i=M.n
  ·subst z;rw[Sto.new_same]at q;cases q;exact⟨l,o,if_pos rfl,fl,jr,r⟩
  ·rw[Sto.new_ne z]at q;obtain⟨a,u,h1,h2,h3,h4⟩:=h.m i c' q;exact⟨a,u,le.a _ _ h1,h2,by rw[jk (jv h3 e)];exact h3,h4.up le⟩
 ·have e1:(if i=M.n then some l else W.α i)=some a:=e1;have e2:(if j=M.n then some l else W.α j)=some a:=e2
  by_cases z1:i=M.n
  ·by_cases z2:j=M.n
   ·rw[z1,z2]
   ·rw[if_pos z1]at e1;rw[if_neg z2]at e2;rw[Sto.new_ne z2]at q2;obtain⟨b,u,g1,_,g3,_⟩:=h.m j c2 q2;rw[e2]at g1;cases g1;cases e1;rw[e]at g3;cases g3
  ·rw[if_neg z1]at e1;rw[Sto.new_ne z1]at q1
   by_cases z2:j=M.n
   ·rw[if_pos z2]at e2;obtain⟨b,u,g1,_,g3,_⟩:=h.m i c1 q1;rw[e1]at g1;cases g1;cases e2;rw[e]at g3;cases g3
   ·rw[if_neg z2]at e2;rw[Sto.new_ne z2]at q2;exact h.inj i j a c1 c2 q1 q2 e1 e2
 ·show(if i=M.n then some l else W.α i)=none;have hi:M.n+1<=i:=hi;rw[if_neg (by omega)];exact h.top i (by omega)
theorem Held.put {W:Wd}{M:Sto}{H:Hp}{l:Addr}{o:HO}{c:Cell}(h:Held W M H)(e:H l=none)(r:Vk W c o):W.le (W.put M.n l)∧Held (W.put M.n l) (M.new c) (L2.upd H l o)∧(W.put M.n l).α M.n=some l:=h.putW e (r.up h.le_put)
theorem Held.upd {W:Wd}{M:Sto}{H:Hp}{i:Nat}{a:Addr}{c c':Cell}{o:HO}(h:Held W M H)(e:M.g i=some c)(ea:W.α i=some a)(r:Vk W c' o):Held W (M.set i c') (L2.upd H a o):=by
 obtain⟨b,u,g1,g2,g3,g4⟩:=h.m i c e;rw[ea]at g1;cases g1
 have live:∀{j c1},(M.set i c').g j=some c1->∃ c2,M.g j=some c2:=fun{j c1} q=>by
  by_cases z:j=i
  ·exact⟨c,by rw[z];exact e⟩
  ·rw[Sto.set_ne z]at q;exact⟨_,q⟩
 refine⟨fun b u q=>?_,fun j c1 q=>?_,fun j k b c1 c2 q1 q2 e1 e2=>?_,h.top,fun b u q=>?_,h.gl⟩
 rotate_left 3
 ·obtain⟨h1,h2,h3⟩:=h.gd b u q;refine⟨?_,h2,fun j c1 qj=>?_⟩
  ·rw[jk (fun z:b=a=>h3 i c e (z ▸ ea))];exact h1
  ·obtain⟨d1,w1⟩:=live qj;exact h3 j d1 w1
 ·rw[jk (fun z:b=a=>by rw[z,g2]at q;cases q)];exact h.f b u q
 ·by_cases z:j=i
  ·subst z;rw[Sto.set_same]at q;cases q;exact⟨a,o,ea,g2,jr,r⟩
  ·rw[Sto.set_ne z]at q;obtain⟨b,u',h1,h2,h3,h4⟩:=h.m j c1 q;refine⟨b,u',h1,h2,?_,h4⟩;rw[jk (fun zz:b=a=>z (h.inj j i a c1 c q e (zz ▸ h1) ea))];exact h3
 ·obtain⟨d1,w1⟩:=live q1;obtain⟨d2,w2⟩:=live q2;exact h.inj j k b d1 d2 w1 w2 e1 e2
theorem Held.drop {W:Wd}{M:Sto}{H:Hp}(h:Held W M H)(i:Nat):Held W (M.drop i) H:=by
 have sub:∀{j c},(M.drop i).g j=some c->M.g j=some c:=fun{j c} q=>by
  have q:(if j=i then none else M.g j)=some c:=q
  by_cases z:j=i
  ·rw[if_pos z]at q;cases q
  ·rwa [if_neg z]at q
 exact⟨h.f,fun j c q=>h.m j c (sub q),fun j k b c1 c2 q1 q2=>h.inj j k b c1 c2 (sub q1) (sub q2),h.top,fun a o q=>⟨(h.gd a o q).1,(h.gd a o q).2.1,fun j c qj=>(h.gd a o q).2.2 j c (sub qj)⟩,h.gl⟩
theorem Held.freeze {W:Wd}{M:Sto}{H:Hp}{i:Nat}{a:Addr}{xs:List PV}(h:Held W M H)(e:M.g i=some (.lst xs))(ea:W.α i=some a) :
  ∃ vs,H a=some (.lst vs)∧W.le (W.frz a (.lst vs))∧Held (W.frz a (.lst vs)) (M.drop i) H∧Rep (W.frz a (.lst vs)) (.lst xs) (.ref a):=by
 obtain⟨b,u,g1,g2,g3,vs,rfl,rv⟩:=h.m i _ e;rw[ea]at g1;cases g1;have le:=Wd.le_frz (o:=.lst vs) g2;refine⟨vs,g3,le,⟨fun b u q=>?_,fun j c q=>?_,fun j k b c1 c2 q1 q2 e1 e2=>?_,h.top,fun b u q=>?_,h.gl⟩,a,vs,rfl,jr,rv.up le⟩
 rotate_left 3
 ·obtain⟨h1,h2,h3⟩:=(h.drop i).gd b u q;refine⟨h1,?_,h3⟩;show L2.upd W.F a (.lst vs) b=none;rw[jk (fun z:b=a=>(h.gd b u q).2.2 i _ e (z ▸ ea))];exact h2
 ·have q:L2.upd W.F a (.lst vs) b=some u:=q
  by_cases z:b=a
  ·subst z;rw[jr]at q;cases q;exact g3
  ·rw[jk z]at q;exact h.f b u q
 ·have q:(if j=i then none else M.g j)=some c:=q
  by_cases z:j=i
  ·rw[if_pos z]at q;cases q
  ·rw[if_neg z]at q;obtain⟨b,u',h1,h2,h3,h4⟩:=h.m j c q;refine⟨b,u',h1,?_,h3,h4.up le⟩;show L2.upd W.F a (.lst vs) b=none;rw[jk (fun zz:b=a=>z (h.inj j i a c _ q e (zz ▸ h1) ea))];exact h2
 ·have hd:=h.drop i;exact hd.inj j k b c1 c2 q1 q2 e1 e2
def Wd.gd (W:Wd)(l:Addr)(o:HO):Wd:=⟨W.T,W.F,W.α,L2.upd W.G l o⟩
theorem Wd.le0_gd {W:Wd}{l:Addr}{o:HO}:W.le0 (W.gd l o):=⟨rfl,fun _ _ e=>e,fun _ _ e=>e⟩
theorem Held.guardO {W:Wd}{M:Sto}{H:Hp}{l:Addr}{o':HO}(no:∀ vs,o'≠.tup vs)(h:Held W M H)(e:H l=none):Held (W.gd l o') M (L2.upd H l o'):=by
 have nl:∀{b u},H b=some u->b≠l:=fun q=>jv q e;refine⟨fun b u q=>by rw[jk (nl (h.f b u q))];exact h.f b u q,fun i c q=>?_,h.inj,h.top,fun b u q=>?_,fun b u q=>?_⟩
 rotate_left 2
 ·have q:L2.upd W.G l o' b=some u:=q
  by_cases z:b=l
  ·subst z;rw[jr]at q;cases q;exact no
  ·rw[jk z]at q;exact h.gl b u q
 ·obtain⟨a,u,h1,h2,h3,h4⟩:=h.m i c q;exact⟨a,u,h1,h2,by rw[jk (nl h3)];exact h3,h4.up0 Wd.le0_gd⟩
 ·have q:L2.upd W.G l o' b=some u:=q
  by_cases z:b=l
  ·subst z;rw[jr]at q;cases q;refine⟨jr,h.Fnone e,fun i c qi w=>?_⟩;obtain⟨a,u,h1,h2,h3,h4⟩:=h.m i c qi;have w:W.α i=some b:=w;rw[w]at h1;cases h1;rw[e]at h3;cases h3
  ·rw[jk z]at q;obtain⟨h1,h2,h3⟩:=h.gd b u q;exact⟨by rw[jk z];exact h1,h2,h3⟩
theorem Held.guard {W:Wd}{M:Sto}{H:Hp}{l:Addr}{ws:List V}(h:Held W M H)(e:H l=none):Held (W.gd l (.lst ws)) M (L2.upd H l (.lst ws)):=Held.guardO (fun _ z=>nomatch z) h e
theorem Held.reguardO {W:Wd}{M:Sto}{H:Hp}{l:Addr}{o o':HO}(no:∀ vs,o'≠.tup vs)(h:Held W M H)(e:W.G l=some o):Held (W.gd l o') M (L2.upd H l o'):=by
 obtain⟨g1,g2,g3⟩:=h.gd l o e;refine⟨fun b w q=>?_,fun i c q=>?_,h.inj,h.top,fun b w q=>?_,fun b w q=>?_⟩
 rotate_left 3
 ·have q:L2.upd W.G l o' b=some w:=q
  by_cases z:b=l
  ·subst z;rw[jr]at q;cases q;exact no
  ·rw[jk z]at q;exact h.gl b w q
 ·rw[jk (fun z:b=l=>by
   have q:W.F b=some w:=q;rw[z,g2]at q
   cases q)]
  exact h.f b w q
 ·obtain⟨a,w,h1,h2,h3,h4⟩:=h.m i c q;exact⟨a,w,h1,h2,by rw[jk (fun z:a=l=>g3 i c q (z ▸ h1))];exact h3,h4.up0 Wd.le0_gd⟩
 ·have q:L2.upd W.G l o' b=some w:=q
  by_cases z:b=l
  ·subst z;rw[jr]at q;cases q;exact⟨jr,g2,g3⟩
  ·rw[jk z]at q;obtain⟨h1,h2,h3⟩:=h.gd b w q;exact⟨by rw[jk z];exact h1,h2,h3⟩
theorem Held.reguard {W:Wd}{M:Sto}{H:Hp}{l:Addr}{o:HO}{ws:List V}(h:Held W M H)(e:W.G l=some o):Held (W.gd l (.lst ws)) M (L2.upd H l (.lst ws)):=Held.reguardO (fun _ z=>nomatch z) h e
def Wd.out (W:Wd)(G0:Hp)(l:Addr)(o:HO):Wd:=⟨W.T,L2.upd W.F l o,W.α,G0⟩
theorem Held.unguard {W:Wd}{M:Sto}{H G0:Hp}{l:Addr}{o:HO}(h:Held W M H)(e:W.G l=some o)(hg:∀ b u,G0 b=some u->W.G b=some u∧b≠l):W.le0 (W.out G0 l o)∧Held (W.out G0 l o) M H:=by
 obtain⟨g1,g2,g3⟩:=h.gd l o e
 have le:W.le0 (W.out G0 l o):=⟨rfl,(Wd.le_frz (o:=o) g2).f,fun _ _ e=>e⟩
 refine⟨le,fun b u q=>?_,fun i c q=>?_,h.inj,h.top,fun b u q=>?_,fun b u q=>h.gl b u (hg b u q).1⟩
 ·have q:L2.upd W.F l o b=some u:=q
  by_cases z:b=l
  ·subst z;rw[jr]at q;cases q;exact g1
  ·rw[jk z]at q;exact h.f b u q
 ·obtain⟨a,w,h1,h2,h3,h4⟩:=h.m i c q;refine⟨a,w,h1,?_,h3,h4.up0 le⟩;show L2.upd W.F l o a=none;rw[jk (fun z:a=l=>g3 i c q (z ▸ h1))];exact h2
 ·obtain⟨q1,z⟩:=hg b u q;obtain⟨h1,h2,h3⟩:=h.gd b u q1;refine⟨h1,?_,h3⟩;show L2.upd W.F l o b=none;rw[jk z];exact h2
theorem Held.adopt {W:Wd}{M:Sto}{H:Hp}{b:Addr}{vs:List V}(h:Held W M H)(e:H b=some (.tup vs)):∃ W',W.le W'∧Held W' M H∧W'.F b=some (.tup vs):=by
 cases q:W.F b with
 | some u =>
  have:=h.f b u q
  rw[e]at this;cases this;exact⟨W,.refl W,h,q⟩
 | none =>
  have le:=Wd.le_frz (o:=.tup vs) q;refine⟨W.frz b (.tup vs),le,⟨fun c u z=>?_,fun i c z=>?_,h.inj,h.top,fun c u z=>?_,h.gl⟩,jr⟩
  ·have z:L2.upd W.F b (.tup vs) c=some u:=z
   by_cases y:c=b
   ·subst y;rw[jr]at z;cases z;exact e
   ·rw[jk y]at z;exact h.f c u z
  ·obtain⟨a,u,h1,h2,h3,h4⟩:=h.m i c z
   have na:a≠b:=fun y=>by
    subst y;rw[e]at h3;cases h3
    cases c with
    | lst xs=>obtain⟨_,z,_⟩:=h4;cases z
    | dct l=>cases h4
    | ins k fs=>obtain⟨_,_,z,_⟩:=h4;cases z
    | dtv l=>obtain⟨_,z,_⟩:=h4;cases z
    | dkv l=>obtain⟨_,z,_⟩:=h4;cases z
    | dsv l=>obtain⟨_,z,_⟩:=h4;cases z
    | xd l=>obtain⟨_,z,_⟩:=h4;cases z
    | dnv j l =>
     rcases h4 with⟨_,z⟩ | ⟨_,_,_,z,_⟩
     ·cases z
     ·cases z
   refine⟨a,u,h1,?_,h3,h4.up le⟩;show L2.upd W.F b _ a=none;rw[jk na];exact h2
  ·obtain⟨h1,h2,h3⟩:=h.gd c u z
   have nc:c≠b:=fun y=>by
    subst y;rw[e]at h1;cases h1;exact h.gl c _ z vs rfl
   refine⟨h1,?_,h3⟩;show L2.upd W.F b _ c=none;rw[jk nc];exact h2
inductive Res (α:Type) where
 | ok (a:α) (M:Sto) | exc (k:Nat) (M:Sto) | bad
def Res.bind {α β:Type}(r:Res α)(k:α->Sto->Res β):Res β:=match r with
 | .ok a M=>k a M
 | .exc c M=>.exc c M
 | .bad=>.bad
@[simp] theorem Res.bind_ok {α β : Type}{a : α}{M : Sto}{k : α -> Sto -> Res β} : (Res.ok a M).bind k=k a M := rfl
@[simp] theorem Res.bind_exc {α β : Type}{c : Nat}{M : Sto}{k : α -> Sto -> Res β} : (Res.exc c M).bind k = .exc c M := rfl
@[simp] theorem Res.bind_bad {α β : Type}{k : α -> Sto -> Res β} : (Res.bad).bind k = .bad := rfl
def ofO {α:Type}(o:Option α)(M:Sto):Res α:=match o with
 | some z=>.ok z M
 | none=>.bad
@[simp] theorem jy {α : Type}{z : α}{M : Sto} : ofO (some z) M = .ok z M := rfl
@[simp] theorem ofO_none {α : Type}{M : Sto} : ofO (none : Option α) M = .bad := rfl
abbrev En:=List (Option PV)
abbrev DE:=En->Sto->Res PV
abbrev DT:=En->Sto->Res Bool
abbrev DA:=En->Sto->Res (List PV)
def yl (W:Wd)(ρ:En)(σ:St):Prop:=σ.length=ρ.length∧∀(i:Nat) (x:PV),ρ[i]? = some (some x)->∃ v,σ[i]? = some (some v)∧Rep W x v
theorem yl.up {W W':Wd}{ρ:En}{σ:St}(h:yl W ρ σ)(le:W.le W'):yl W' ρ σ:=⟨h.1,fun i x e=>by
 obtain⟨v,e1,r⟩:=h.2 i x e
 exact⟨v,e1,r.up le⟩⟩
theorem yl.set {W:Wd}{ρ:En}{σ:St}{i:Nat}{x:PV}{v:V}(h:yl W ρ σ)(r:Rep W x v):yl W (ρ.set i (some x)) (σ.set i (some v)):=by
 refine⟨by simpa using h.1,fun j y e=>?_⟩
 by_cases hj:i=j
 ·subst hj
  have hi:i < ρ.length:=by
   have:=(List.getElem?_eq_some_iff.mp e).1
   simpa using this
  rw[getElem?_set_self hi]at e;cases e;exact⟨v,getElem?_set_self (by rw[h.1];exact hi),r⟩
 ·rw[getElem?_set_ne hj]at e;obtain⟨u,e1,q⟩:=h.2 j y e;exact⟨u,by rw[getElem?_set_ne hj];exact e1,q⟩
def yg {α β:Type}(W:Wd)(R:Wd->α->β->Prop)(r:Res α)(Q:β->Hp->Prop)(E:XK):Prop:=match r with
 | .ok a M=>∀ W' H' b,W.le W'->Held W' M H'->R W' a b->Q b H'
 | .exc k M=>∀ W' H' dd,W.le W'->Held W' M H'->jdk W' k dd->E (.ref (W.T.C (k%64))) dd H'
 | .bad=>False
theorem yg.up {α β:Type}{W W':Wd}{R:Wd->α->β->Prop}{r:Res α}{Q:β->Hp->Prop}{E:XK}(h:yg W R r Q E)(le:W.le W'):yg W' R r Q E:=by
 cases r with
 | ok a M=>exact fun W2 H2 b l2 h2 r2=>h W2 H2 b (le.trans l2) h2 r2
 | exc k M =>
  intro W2 H2 dd l2 h2 z
  have:=h W2 H2 dd (le.trans l2) h2 z
  rw[le.k];exact this
 | bad=>exact h.elim
theorem yg.bind {α β γ δ:Type}{W:Wd}{R1:Wd->α->β->Prop}{R2:Wd->γ->δ->Prop}{r:Res α}{k:α->Sto->Res γ}{Q:δ->Hp->Prop}{Q1:β->Hp->Prop}{E:XK}(h:yg W R2 (r.bind k) Q E)
  (f:∀ W' M a b H1,W.le W'->Held W' M H1->R1 W' a b->yg W' R2 (k a M) Q E->Q1 b H1):yg W R1 r Q1 E:=by
 cases r with
 | ok a M=>exact fun W2 H2 b l2 h2 r2=>f W2 M a b H2 l2 h2 r2 (yg.up (r:=k a M) h l2)
 | exc k M=>exact h
 | bad=>exact h.elim
def lft {α β:Type}(T:Tb)(R:Wd->α->β->Prop)(ES:St->XK)(d:En->Sto->Res α):St->Hp->(β->Hp->Prop)->Prop:=fun σ H Q =>
 ∃ W ρ M,W.T=T∧Held W M H∧yl W ρ σ∧yg W R (d ρ M) Q (ES σ)
theorem jC {α β:Type}{T:Tb}{R:Wd->α->β->Prop}{ES:St->XK}{d:En->Sto->Res α}{σ:St}{H:Hp}{Q:β->Hp->Prop}{P:Prop}(h:lft T R ES d σ H Q)(k:∀ W ρ M,W.T=T->Held W M H->yl W ρ σ->yg W R (d ρ M) Q (ES σ)->P):P:=by
 obtain⟨W,ρ,M,a,b,c,e⟩:=h;exact k W ρ M a b c e
abbrev RB:Wd->Bool->Bool->Prop:=fun _ a b=>b=a
structure QE (X:Cx)(T:Tb)(ES:St->XK)(e:Expr)(d:DE):Prop where
 h:PE X e (lft T Rep ES d)
structure QT (X:Cx)(T:Tb)(ES:St->XK)(e:Expr)(d:DT):Prop where
 h:PT X e (lft T RB ES d)
structure QW (X:Cx)(T:Tb)(ES:St->XK)(e:Expr)(d:DT):Prop where
 h:PW X e (lft T RB ES d)
structure QA (X:Cx)(T:Tb)(ES:St->XK)(es:List Expr)(d:DA):Prop where
 h:PA X es (lft T yc ES d)
structure QK (X:Cx)(T:Tb)(ES:St->XK)(ks:List Keyword)(d:DA):Prop where
 h:PK X ks (lft T yc ES d)
section
variable {X:Cx}{T:Tb}{ES:St->XK}{a b c e:Expr}{es:List Expr}{pos:Pos}{da db dc d:DE}{ds:DA}
theorem jN {t t':TE}(h:PE X e t)(f:∀ σ H Q,t' σ H Q->t σ H Q):PE X e t':=fun aa s σ H Q I q=>h aa s σ H Q I (f σ H Q q)
theorem Ux {t t':TT}(h:PT X e t)(f:∀ σ H Q,t' σ H Q->t σ H Q):PT X e t':=fun aa s σ H Q I q=>h aa s σ H Q I (f σ H Q q)
theorem jgO {t t':TT}(h:PW X e t)(f:∀ σ H Q,t' σ H Q->t σ H Q):PW X e t':=fun w aa s σ H Q I q=>h w aa s σ H Q I (f σ H Q q)
theorem jhk {t t':TA}(h:PA X es t)(f:∀ σ H Q,t' σ H Q->t σ H Q):PA X es t':=fun pos aa s σ H Q I q=>h pos aa s σ H Q I (f σ H Q q)
theorem jgX {ks:List Keyword}{t t':TA}(h:PK X ks t)(f:∀ σ H Q,t' σ H Q->t σ H Q):PK X ks t':=fun pos aa s σ H Q I q=>h pos aa s σ H Q I (f σ H Q q)
def ya (i:Nat):DE:=fun ρ M=>match ρ[i]? with
 | some (some x)=>.ok x M
 | _=>.bad
theorem qv (i:Nat){x:Str}(hN:X.N[i]? = some x:=by rfl)(hv:Vis X.env.scope x:=by first | exact Or.inl rfl | exact Or.inr (Or.inl rfl) | exact Or.inr (Or.inr rfl))(hd:(x==("__debug__":Str))=false:=by decide)
  (cO:(x==("__classdict__":Str))=false:=by decide):QE X T ES (.Name x pos) (ya i):=⟨jN (Xq hN hv hd cO) fun σ H Q ae=>by
 obtain⟨W,ρ,M,_,hh,hs,p⟩:=ae;unfold ya at p;split at p
 ·rename_i y e;obtain⟨v,e1,r⟩:=hs.2 i y e;exact⟨v,e1,p W H v (.refl W) hh r⟩
 ·exact p.elim⟩
def dC (x:PV):DE:=fun _ M=>.ok x M
theorem qc {x:PV}{v:V}(h:PE X e (tC v))(r:∀ W:Wd,W.T=T->Rep W x v):QE X T ES e (dC x):=⟨jN h fun σ H Q ae=>jC ae fun W ρ M k hh hs p=>p W H v (.refl W) hh (r W k)⟩
theorem jm {i j}:QE X T ES (.Constant (.int i) j pos) (dC (.int i)):=qc pe_int fun _ _=>rfl
theorem jgN {b j}:QE X T ES (.Constant (.bool b) j pos) (dC (.bl b)):=qc pe_bl fun _ _=>rfl
theorem Uw {x:Str}{i:Int}{t:Tok}(hg:Gl X x)(hm:X.mg x=some (.int i t))(hd:(x==("__debug__":Str))=false:=by decide):QE X T ES (.Name x pos) (dC (.int i)):=qc (jee (v:=.int i) hg hm ⟨_,rfl⟩ hd) fun _ _=>rfl
theorem q_gcls {x:Str}{k:Nat}(hg:Gl X x)(hm:X.mg x=some (.ref (T.C k)))(hd:(x==("__debug__":Str))=false:=by decide):QE X T ES (.Name x pos) (dC (.top k)):=qc (jee (v:=.ref (T.C k)) hg hm rfl hd) fun W h=>by
 show V.ref (T.C k)=V.ref (W.T.C k);rw[h]
theorem jaS {x:Str}{n:String}(hg:Gl X x)(hm:X.mg x=none)(hv:bootBuiltins x=some (.type n))(hn:x≠"__name__":=by decide)(hd:(x==("__debug__":Str))=false:=by decide):QE X T ES (.Name x pos) (dC (.ty n)) :=
 qc (pe_bltn (v:=.ty n) hg hm hv rfl hn hd) fun _ _=>rfl
def yb:DA:=fun _ M=>.ok [] M
def jb (d:DE)(ds:DA):DA:=fun ρ M=>(d ρ M).bind fun x M1=>(ds ρ M1).bind fun xs M2=>.ok (x::xs) M2
theorem jd:QA X T ES [] yb:=⟨jhk UD fun σ H Q ae=>jC ae fun W ρ M k hh hs p=>p W H [] (.refl W) hh rfl⟩
theorem VP {σ:St}{H:Hp}{Q:List V->Hp->Prop}(h:lft T yc ES (jb d ds) σ H Q):jgi (lft T Rep ES d) (lft T yc ES ds) σ H Q:=by
 obtain⟨W,ρ,M,k,hh,hs,p⟩:=h;refine⟨W,ρ,M,k,hh,hs,yg.bind p fun W1 M1 x v H1 l1 h1 r1 p1=>⟨W1,ρ,M1,l1.k.trans k,h1,hs.up l1,yg.bind p1 fun W2 M2 xs vs H2 l2 h2 r2 p2=>?_⟩⟩;exact p2 W2 H2 (v::vs) (.refl W2) h2 ⟨v,vs,rfl,r1.up l2,r2⟩
theorem ja (ha:QE X T ES e d)(hr:QA X T ES es ds)(hs:starEach (e::es) X.env=(false,eval e X.env)::starEach es X.env:=by rfl):QA X T ES (e::es) (jb d ds):=⟨jhk (YO ha.h hr.h hs) fun _ _ _=>VP⟩
theorem jg:QK X T ES [] yb:=⟨jgX pk_nil fun σ H Q ae=>jC ae fun W ρ M k hh hs p=>p W H [] (.refl W) hh rfl⟩
theorem qk_cons {aS:List Keyword}{nm:Option Str}{fA:Pos}(ha:QE X T ES e d)(hr:QK X T ES aS ds):QK X T ES (⟨nm,e,fA⟩::aS) (jb d ds):=⟨jgX (pk_cons ha.h hr.h) fun _ _ _=>VP⟩
abbrev G2:=Sto->PV->PV->Option PV
def rP (T:Tb)(g:G2):R2:=fun v u H Q=>∃ W M x y z,W.T=T∧Held W M H∧Rep W x v∧Rep W y u∧g M x y=some z∧∀ W' H' v',W.le W'->Held W' M H'->Rep W' z v'->Q v' H'
abbrev OpP (X:Cx)(T:Tb)(f:Value->Value->Sem Value)(g:G2):Prop:=OpR X f (rP T g)
theorem vG {f:Value->Value->Sem Value}{r r':R2}(h:OpR X f r)(k:∀ x y H Q,r' x y H Q->r x y H Q):OpR X f r':=fun aa s σ H x y v u Q I rx ry q=>h aa s σ H x y v u Q I rx ry (k _ _ _ _ q)
def orG (g g':G2):G2:=fun M x y=>match g M x y with
 | some z=>some z
 | none=>g' M x y
theorem jcz {f:Value->Value->Sem Value}{g g':G2}(h:OpP X T f g)(h':OpP X T f g'):OpP X T f (orG g g'):=vG (OpR.or h h') fun v u H Q ae=>by
 obtain⟨W,M,x,y,z,k,hh,rx,ry,e,q⟩:=ae;unfold orG at e;split at e
 ·rename_i z' e';cases e;exact .inl ⟨W,M,x,y,z,k,hh,rx,ry,e',q⟩
 ·exact .inr ⟨W,M,x,y,z,k,hh,rx,ry,e,q⟩
def dOp (g:G2)(da db:DE):DE:=fun ρ M=>(da ρ M).bind fun x M1=>(db ρ M1).bind fun y M2=>ofO (g M2 x y) M2
theorem YQ {g:G2}{σ:St}{H:Hp}{Q:VK}(h:lft T Rep ES (dOp g da db) σ H Q):tOp (rP T g) (lft T Rep ES da) (lft T Rep ES db) σ H Q:=by
 obtain⟨W,ρ,M,k,hh,hs,p⟩:=h;refine⟨W,ρ,M,k,hh,hs,yg.bind p fun W1 M1 x v H1 l1 h1 r1 p1=>⟨W1,ρ,M1,l1.k.trans k,h1,hs.up l1,yg.bind p1 fun W2 M2 y u H2 l2 h2 r2 p2=>?_⟩⟩
 cases e:g M2 x y with
 | none=>rw[e]at p2;exact p2.elim
 | some z =>
  rw[e]at p2;exact⟨W2,M2,x,y,z,l2.k.trans (l1.k.trans k),h2,r1.up l2,r2,e,p2⟩
theorem jw {op:Operator}{g:G2}(ho:OpP X T (binaryOp op) g)(ha:QE X T ES a da)(hb:QE X T ES b db):QE X T ES (.BinOp a op b pos) (dOp g da db):=⟨jN (pe_op ho ha.h hb.h) fun _ _ _=>YQ⟩
theorem jcs {op:CmpOp}{g:G2}(ho:OpP X T (compareOp op) g)(ha:QE X T ES a da)(hb:QE X T ES b db)(hm:behindInMarks op b=false):QE X T ES (.Compare a [op] [b] pos) (dOp g da db):=⟨jN (pe_cmpR ho ha.h hb.h hm) fun _ _ _=>YQ⟩
def asB:PV->Option Bool
 | .bl b=>some b
 | _=>none
def yq (d:DE):DT:=fun ρ M=>(d ρ M).bind fun x M1=>ofO (asB x) M1
theorem jU {op:CmpOp}{g:G2}(ho:OpP X T (compareOp op) g)(ha:QE X T ES a da)(hb:QE X T ES b db)(hm:behindInMarks op b=false):QT X T ES (.Compare a [op] [b] pos) (yq (dOp g da db)) :=
 ⟨Ux (pt_cmpR ho ha.h hb.h hm) fun σ H Q ae=>jC ae fun W ρ M k hh hs p=>YQ ⟨W,ρ,M,k,hh,hs,yg.bind (R1:=Rep) p fun W1 M1 x v H1 l1 h1 r1 p1=>by
  cases x with
  | bl b=>exact⟨b,r1,p1 W1 H1 b (.refl W1) h1 rfl⟩
  | _=>exact p1.elim⟩⟩
def UZ (g g':G2)(da db dc:DE):DE:=fun ρ M=>(da ρ M).bind fun x M1=>(db ρ M1).bind fun y M2=>match g M2 x y with
 | some (.bl true)=>(dc ρ M2).bind fun z M3=>ofO (g' M3 y z) M3
 | some (.bl false)=>.ok (.bl false) M2
 | _=>.bad
theorem jdb {g g':G2}{σ:St}{H:Hp}{Q:VK}(h:lft T Rep ES (UZ g g' da db dc) σ H Q):jgk (rP T g) (rP T g') (lft T Rep ES da) (lft T Rep ES db) (lft T Rep ES dc) σ H Q:=by
 obtain⟨W,ρ,M,k,hh,hs,p⟩:=h;refine⟨W,ρ,M,k,hh,hs,yg.bind p fun W1 M1 x v H1 l1 h1 r1 p1=>⟨W1,ρ,M1,l1.k.trans k,h1,hs.up l1,yg.bind p1 fun W2 M2 y u H2 l2 h2 r2 p2=>?_⟩⟩;have k2:=l2.k.trans (l1.k.trans k);split at p2
 ·rename_i e;refine⟨W2,M2,x,y,_,k2,h2,r1.up l2,r2,e,fun W3 H3 v' l3 h3 r3=>⟨true,r3,?_⟩⟩;rw[if_pos rfl];refine⟨W3,ρ,M2,l3.k.trans k2,h3,(hs.up (l1.trans l2)).up l3,yg.bind (yg.up p2 l3) fun W4 M4 z w H4 l4 h4 r4 p4=>?_⟩
  cases e':g' M4 y z with
  | none=>rw[e']at p4;exact p4.elim
  | some z' =>
   rw[e']at p4;exact⟨W4,M4,y,z,z',l4.k.trans (l3.k.trans k2),h4,(r2.up l3).up l4,r4,e',p4⟩
 ·rename_i e;refine⟨W2,M2,x,y,_,k2,h2,r1.up l2,r2,e,fun W3 H3 v' l3 h3 r3=>⟨false,r3,?_⟩⟩;rw[if_neg (by simp)];exact p2 W3 H3 (.bl false) l3 h3 rfl
 ·exact p2.elim
theorem jgM {op fo:CmpOp}{g g':G2}(ho:OpP X T (compareOp op) g)(a9:OpP X T (compareOp fo) g')(ha:QE X T ES a da)(hb:QE X T ES b db)(hc:QE X T ES c dc)
  (hm:lastMarks [op,fo] [b,c]=false:=by with_unfolding_all rfl):QE X T ES (.Compare a [op,fo] [b,c] pos) (UZ g g' da db dc):=⟨jN (jhi ho a9 ha.h hb.h hc.h hm) fun _ _ _=>jdb⟩
def yz (M:Sto):PV->Option (List PV)
 | .lst xs=>some xs
 | .ref i=>(match M.g i with
  | some (.lst xs)=>some xs
  | _=>none)
 | _=>none
theorem xg {W:Wd}{M:Sto}{H:Hp}{x:PV}{v:V}{xs:List PV}(hh:Held W M H)(r:Rep W x v)(e:yz M x=some xs):∃ a vs,v = .ref a∧H a=some (.lst vs)∧yc W xs vs:=by
 cases x with
 | lst ys =>
  cases e;obtain⟨a,vs,e1,q,rr⟩:=r;exact⟨a,vs,e1,hh.f _ _ q,rr⟩
 | ref i =>
  obtain⟨a,e1,q⟩:=r
  have e:(match M.g i with
   | some (.lst xs)=>some xs
   | _=>none)=some xs:=e
  split at e
  ·rename_i ys e2;cases e;obtain⟨b,o,h1,h2,h3,vs,rfl,rr⟩:=hh.m i _ e2;rw[q]at h1;cases h1;exact⟨a,vs,e1,h3,rr⟩
  ·cases e
 | _=>cases e
theorem xY {W:Wd}{M:Sto}{H:Hp}{v:V}{xs:List PV}(hh:Held W M H)(r:Rep W (.tup xs) v):∃ a vs,v = .ref a∧SqT W.T.K H a vs∧yc W xs vs:=by
 obtain⟨a,vs,e1,q,rr⟩:=r;exact⟨a,vs,e1,Xa hh.f q.toT,rr⟩
def JL (M:Sto):PV->Option (List PV)
 | .tup xs=>some xs
 | x=>yz M x
theorem jap {W:Wd}{M:Sto}{H:Hp}{x:PV}{v:V}{xs:List PV}(hh:Held W M H)(r:Rep W x v)(e:JL M x=some xs):∃ a vs,v = .ref a∧(SqL W.T.K H a vs∨SqT W.T.K H a vs)∧yc W xs vs:=by
 cases x with
 | tup ys =>
  cases e;obtain⟨a,vs,h1,h2,h3⟩:=xY hh r;exact⟨a,vs,h1,.inr h2,h3⟩
 | _ =>
  obtain⟨a,vs,h1,h2,h3⟩:=xg hh r e;exact⟨a,vs,h1,.inl (SqL.of h2),h3⟩
theorem vI {W:Wd}{M:Sto}{H:Hp}{xs:List PV}{vs:List V}{p:Addr}(hh:Held W M H)(r:yc W xs vs)(e:H p=none):∃ W',W.le W'∧Held W' M (L2.upd H p (.lst vs))∧Rep W' (.lst xs) (.ref p):=by
 obtain⟨le,h1,h2⟩:=hh.frz (o:=.lst vs) e;exact⟨_,le,h1,p,vs,rfl,h2,r.up le⟩
theorem uE {W:Wd}{M:Sto}{H:Hp}{xs:List PV}{vs:List V}{p:Addr}(hh:Held W M H)(r:yc W xs vs)(e:H p=none):∃ W',W.le W'∧Held W' M (L2.upd H p (.tup vs))∧Rep W' (.tup xs) (.ref p):=by
 obtain⟨le,h1,h2⟩:=hh.frz (o:=.tup vs) e;exact⟨_,le,h1,p,vs,rfl,.inl h2,r.up le⟩
theorem jba {W:Wd}{M:Sto}{H:Hp}{xs:List PV}{vs:List V}{p:Addr}(hh:Held W M H)(r:yc W xs vs)(e:H p=none):∃ W',W.le W'∧Held W' (M.new (.lst xs)) (L2.upd H p (.lst vs))∧Rep W' (.ref M.n) (.ref p):=by
 obtain⟨le,h1,h2⟩:=hh.put (l:=p) (o:=.lst vs) (c:=.lst xs) e ⟨vs,rfl,r⟩;exact⟨_,le,h1,p,rfl,h2⟩
def jfI (ds:DA):DE:=fun ρ M=>(ds ρ M).bind fun xs M1=>if xs.length<=sizeLine then .ok (.tup xs) M1 else .bad
def jcU (ds:DA):DE:=fun ρ M=>(ds ρ M).bind fun xs M1=>if xs.length<=sizeLine then .ok (.lst xs) M1 else .bad
def xP (ds:DA):DE:=fun ρ M=>(ds ρ M).bind fun xs M1=>if xs.length<=sizeLine then .ok (.ref M1.n) (M1.new (.lst xs))else .bad
theorem jgI {x1}(h:QA X T ES es ds):QE X T ES (.Tuple es x1 pos) (jfI ds):=⟨jN (UC h.h) fun σ H Q ae=>jC ae fun W ρ M k hh hs p=>⟨W,ρ,M,k,hh,hs,yg.bind p fun W1 M1 xs vs H1 l1 h1 r1 p1=>by
 split at p1
 ·rename_i hz;refine⟨by rw[r1.length];exact hz,fun q e=>?_⟩;obtain⟨W2,l2,h2,r2⟩:=uE h1 r1 e;exact p1 W2 _ _ l2 h2 r2
 ·exact p1.elim⟩⟩
theorem jcr (h:QA X T ES es ds):QE X T ES (.List es pos) (jcU ds):=⟨jN (jhd h.h) fun σ H Q ae=>jC ae fun W ρ M k hh hs p=>⟨W,ρ,M,k,hh,hs,yg.bind p fun W1 M1 xs vs H1 l1 h1 r1 p1=>by
 split at p1
 ·rename_i hz;refine⟨by rw[r1.length];exact hz,fun q e=>?_⟩;obtain⟨W2,l2,h2,r2⟩:=vI h1 r1 e;exact p1 W2 _ _ l2 h2 r2
 ·exact p1.elim⟩⟩
theorem xC (h:QA X T ES es ds):QE X T ES (.List es pos) (xP ds):=⟨jN (jhd h.h) fun σ H Q ae=>jC ae fun W ρ M k hh hs p=>⟨W,ρ,M,k,hh,hs,yg.bind p fun W1 M1 xs vs H1 l1 h1 r1 p1=>by
 split at p1
 ·rename_i hz;refine⟨by rw[r1.length];exact hz,fun q e=>?_⟩;obtain⟨W2,l2,h2,r2⟩:=jba h1 r1 e;exact p1 W2 _ _ l2 h2 r2
 ·exact p1.elim⟩⟩
def dFrz (d:DE):DE:=fun ρ M=>(d ρ M).bind fun x M1=>match x with
 | .ref i=>(match M1.g i with
  | some (.lst xs)=>.ok (.lst xs) (M1.drop i)
  | _=>.bad)
 | _=>.bad
theorem qe_frz (h:QE X T ES e d):QE X T ES e (dFrz d):=⟨jN h.h fun σ H Q ae=>jC ae fun W ρ M k hh hs p=>⟨W,ρ,M,k,hh,hs,yg.bind p fun W1 M1 x v H1 l1 h1 r1 p1=>by
 split at p1
 ·rename_i i;split at p1
  ·rename_i xs e;obtain⟨a,rfl,ea⟩:=r1;obtain⟨vs,_,l2,h2,r2⟩:=h1.freeze e ea;exact p1 _ _ _ l2 h2 r2
  ·exact p1.elim
 ·exact p1.elim⟩⟩
def dAnd (da db:DT):DT:=fun ρ M=>(da ρ M).bind fun c M1=>if c=true then db ρ M1 else .ok false M1
def dOr (da db:DT):DT:=fun ρ M=>(da ρ M).bind fun c M1=>if c=true then .ok true M1 else db ρ M1
def Vj (da:DT):DT:=fun ρ M=>(da ρ M).bind fun c M1=>.ok (!c) M1
variable {ta tb:DT}{rest:List Expr}
theorem QW.qt (h:QW X T ES e ta):QT X T ES e ta:=⟨h.h.pt⟩
theorem jdV (ha:QT X T ES a ta):QW X T ES (.BoolOp .And [a] pos) ta:=⟨pw_and1 ha.h⟩
theorem Ut (ha:QT X T ES a ta):QW X T ES (.BoolOp .Or [a] pos) ta:=⟨pw_or1 ha.h⟩
theorem jgE (ha:QT X T ES a ta)(hb:QW X T ES (.BoolOp .And (b::rest) pos) tb):QW X T ES (.BoolOp .And (a::b::rest) pos) (dAnd ta tb):=⟨jgO (pw_and ha.h hb.h) fun σ H Q ae=>jC ae fun W ρ M k hh hs p =>
 ⟨W,ρ,M,k,hh,hs,yg.bind p fun W1 M1 x v H1 l1 h1 r1 p1=>by
  subst r1
  cases v with
  | true=>rw[if_pos rfl];exact⟨W1,ρ,M1,l1.k.trans k,h1,hs.up l1,p1⟩
  | false=>rw[if_neg (by simp)];exact p1 W1 H1 _ (.refl W1) h1 rfl⟩⟩
theorem jdU (ha:QT X T ES a ta)(hb:QW X T ES (.BoolOp .Or (b::rest) pos) tb):QW X T ES (.BoolOp .Or (a::b::rest) pos) (dOr ta tb):=⟨jgO (pw_or ha.h hb.h) fun σ H Q ae=>jC ae fun W ρ M k hh hs p =>
 ⟨W,ρ,M,k,hh,hs,yg.bind p fun W1 M1 x v H1 l1 h1 r1 p1=>by
  subst r1
  cases v with
  | false=>rw[if_neg (by simp)];exact⟨W1,ρ,M1,l1.k.trans k,h1,hs.up l1,p1⟩
  | true=>rw[if_pos rfl];exact p1 W1 H1 _ (.refl W1) h1 rfl⟩⟩
theorem ua (ha:QT X T ES a ta):QT X T ES (.UnaryOp .Not a pos) (Vj ta):=⟨Ux (pt_not ha.h) fun σ H Q ae=>jC ae fun W ρ M k hh hs p =>
 ⟨W,ρ,M,k,hh,hs,yg.bind p fun W1 M1 x v H1 l1 h1 r1 p1=>by
  subst r1
  exact p1 W1 H1 _ (.refl W1) h1 rfl⟩⟩
def vw (da db:DE):DE:=fun ρ M=>(da ρ M).bind fun x M1=>match x with
 | .bl true=>db ρ M1
 | .bl false=>.ok (.bl false) M1
 | _=>.bad
def jbE (da:DE):DE:=fun ρ M=>(da ρ M).bind fun x M1=>match x with
 | .bl b=>.ok (.bl (!b)) M1
 | _=>.bad
theorem JS {op}(h:QE X T ES a da):QE X T ES (.BoolOp op [a] pos) da:=⟨pe_one h.h⟩
theorem uQ (ha:QE X T ES a da)(hb:QE X T ES (.BoolOp .And (b::rest) pos) db):QE X T ES (.BoolOp .And (a::b::rest) pos) (vw da db):=⟨jN (pe_and ha.h hb.h) fun σ H Q ae=>jC ae fun W ρ M k hh hs p =>
 ⟨W,ρ,M,k,hh,hs,yg.bind p fun W1 M1 x v H1 l1 h1 r1 p1=>by
  split at p1
  ·exact⟨true,r1,by rw[if_pos rfl];exact⟨W1,ρ,M1,l1.k.trans k,h1,hs.up l1,p1⟩⟩
  ·exact⟨false,r1,by rw[if_neg (by simp)];exact p1 W1 H1 _ (.refl W1) h1 rfl⟩
  ·exact p1.elim⟩⟩
theorem jgK (ha:QE X T ES a da):QE X T ES (.UnaryOp .Not a pos) (jbE da):=⟨jN (pe_not ha.h) fun σ H Q ae=>jC ae fun W ρ M k hh hs p =>
 ⟨W,ρ,M,k,hh,hs,yg.bind p fun W1 M1 x v H1 l1 h1 r1 p1=>by
  split at p1
  ·exact⟨_,r1,p1 W1 H1 _ (.refl W1) h1 rfl⟩
  ·exact p1.elim⟩⟩
def dIf (t:DT)(da db:DE):DE:=fun ρ M=>(t ρ M).bind fun c M1=>if c=true then da ρ M1 else db ρ M1
theorem qe_if (hc:QT X T ES c ta)(ha:QE X T ES a da)(hb:QE X T ES b db):QE X T ES (.IfExp c a b pos) (dIf ta da db):=⟨jN (jhe hc.h ha.h hb.h) fun σ H Q ae=>jC ae fun W ρ M k hh hs p =>
 ⟨W,ρ,M,k,hh,hs,yg.bind p fun W1 M1 x v H1 l1 h1 r1 p1=>by
  subst r1
  cases v with
  | true=>rw[if_pos rfl]at p1 ⊢;exact⟨W1,ρ,M1,l1.k.trans k,h1,hs.up l1,p1⟩
  | false=>rw[if_neg (by simp)]at p1 ⊢;exact⟨W1,ρ,M1,l1.k.trans k,h1,hs.up l1,p1⟩⟩⟩
def jgf (M:Sto):PV->Option Bool
 | .non=>some false
 | .bl b=>some b
 | .int i=>some (i != 0)
 | .tup xs=>some (!xs.isEmpty)
 | x=>(yz M x).map fun xs=>!xs.isEmpty
theorem yc.empty {W:Wd}:∀{xs:List PV}{vs:List V},yc W xs vs->vs.isEmpty=xs.isEmpty
 | [],_,r=>by cases r;rfl
 | _::_,_,⟨_,_,e,_⟩=>by subst e;rfl
def Vi (d:DE):DT:=fun ρ M=>(d ρ M).bind fun x M1=>ofO (jgf M1 x) M1
theorem vZ (hT:T.K=X.K)(h:QE X T ES e d)(he:∀ br,isTrue e X.env br=(do let v <- br;standAt e.pos;holding [v] (truthy v)):=by intro _;rfl):QT X T ES e (Vi d) :=
 ⟨Ux (pt_tru h.h he) fun σ H Q ae=>jC ae fun W ρ M k hh hs p=>⟨W,ρ,M,k,hh,hs,yg.bind p fun W1 M1 x v H1 l1 h1 r1 p1=>by
  cases e1:jgf M1 x with
  | none=>rw[e1]at p1;exact p1.elim
  | some b =>
   rw[e1]at p1;refine⟨b,?_,p1 W1 H1 b (.refl W1) h1 rfl⟩
   have sq:∀ y,yz M1 y=yz M1 x->(yz M1 x).map (fun xs=>!xs.isEmpty)=some b->TruV X.K v H1 b:=fun y _ q=>by
    cases e2:yz M1 x with
    | none=>rw[e2]at q;cases q
    | some xs =>
     rw[e2]at q;cases q;obtain⟨a,vs,rfl,e3,rr⟩:=xg h1 r1 e2;exact .inl ⟨vs,SqL.of e3,by rw[rr.empty]⟩
   cases x with
   | non=>cases e1;cases r1;rfl
   | bl c=>cases e1;cases r1;rfl
   | int i=>cases e1;cases r1;rfl
   | tup xs =>
    cases e1;obtain⟨a,vs,rfl,e3,rr⟩:=xY h1 r1;rw[l1.k.trans k,hT]at e3;exact .inr (.inl ⟨vs,e3,by rw[rr.empty]⟩)
   | lst xs=>exact sq _ rfl e1
   | ref i=>exact sq _ rfl e1
   | _=>cases e1⟩⟩
end
mutual
def plain:PV->Bool
 | .non=>true
 | .bl _=>true
 | .int _=>true
 | .str _=>true
 | .tup xs=>yt xs
 | .lst xs=>yt xs
 | _=>false
def yt:List PV->Bool
 | []=>true
 | x::xs=>plain x && yt xs
end
mutual
def dep:PV->Nat
 | .tup xs=>xi xs+1
 | .lst xs=>xi xs+1
 | _=>0
def xi:List PV->Nat
 | []=>0
 | x::xs=>max (dep x) (xi xs)
end
mutual
def eqB:PV->PV->Bool
 | .non,.non=>true
 | .bl a,.bl b=>a==b
 | .bl a,.int b=>(if a then 1 else 0)==b
 | .int a,.bl b=>a==(if b then 1 else 0)
 | .int a,.int b=>a==b
 | .str a,.str b=>a==b
 | .tup xs,.tup ys=>Vh xs ys
 | .lst xs,.lst ys=>Vh xs ys
 | _,_=>false
def Vh:List PV->List PV->Bool
 | [],[]=>true
 | x::xs,y::ys=>eqB x y && Vh xs ys
 | _,_=>false
end
theorem vF:∀{xs:List PV}{j:Nat}{x:PV},yt xs=true->xs[j]? = some x->plain x=true
 | [],_,_,_,e=>by simp at e
 | y::ys,0,x,h,e=>by
  simp at e;subst e;unfold yt at h;exact(Bool.and_eq_true_iff.mp h).1
 | y::ys,j+1,x,h,e=>by
  unfold yt at h;exact vF (j:=j) (Bool.and_eq_true_iff.mp h).2 (by simpa using e)
theorem jet:∀{xs:List PV}{j:Nat}{x:PV},xs[j]? = some x->dep x<=xi xs
 | [],_,_,e=>by simp at e
 | y::ys,0,x,e=>by
  simp at e;subst e;show dep y<=max (dep y) (xi ys);omega
 | y::ys,j+1,x,e=>by
  have:=jet (j:=j) (xs:=ys) (x:=x) (by simpa using e)
  show dep x<=max (dep y) (xi ys);omega
theorem ut:∀{xs ys:List PV},xs.length≠ys.length->Vh xs ys=false
 | [],[],h=>absurd rfl h
 | [],_::_,_=>rfl
 | _::_,[],_=>rfl
 | x::xs,y::ys,h=>by
  have:Vh xs ys=false:=ut fun e=>h (by simp[e])
  show(eqB x y && Vh xs ys)=false;rw[this,Bool.and_false]
theorem xO:∀{xs ys:List PV},xs.length=ys.length->((List.range xs.length).all fun i=>eqB (xs.getD i .non) (ys.getD i .non))=Vh xs ys
 | [],[],_=>rfl
 | x::xs,y::ys,h=>by
  rw[length_cons,range_succ_eq_map,all_cons,all_map];have ih:=xO (xs:=xs) (ys:=ys) (by simpa using h)
  show(eqB x y && _)=(eqB x y && Vh xs ys)
  rw[<- ih];rfl
 | [],_::_,h=>by simp at h
 | _::_,[],h=>by simp at h
mutual
theorem Jv:∀{x:PV},plain x=true->eqB x x=true
 | .non,_=>rfl
 | .bl b,_=>by show(b==b)=true;simp
 | .int b,_=>by show(b==b)=true;simp
 | .str b,_=>by show(b==b)=true;simp
 | .tup xs,h=>Ye (xs:=xs) h
 | .lst xs,h=>Ye (xs:=xs) h
theorem Ye:∀{xs:List PV},yt xs=true->Vh xs xs=true
 | [],_=>rfl
 | x::xs,h=>by
  unfold yt at h;have h:=Bool.and_eq_true_iff.mp h;show(eqB x x && Vh xs xs)=true;rw[Jv h.1,Ye h.2];rfl
end
def AtH (W:Wd)(s:Shared):PV->Value->Prop
 | .non,u=>u = .none
 | .bl b,u=>u = .bool b
 | .int i,u=>∃ t,u = .int i t
 | .str x,u=>∃ t,u = .str x t
 | .lst xs,u=>∃ a its vs,u = .ref a∧s.heap.IsList a (toArray its)∧yf vs its∧yc W xs vs
 | .tup xs,u=>∃ a its vs,u = .ref a∧s.heap.IsTuple a (toArray its)∧yf vs its∧yc W xs vs
 | _,_=>False
theorem Jc:∀{xs:List V}{us:List Value}{j:Nat}{u:Value},yf xs us->us[j]? = some u->∃ v,xs[j]? = some v∧yi v u
 | _,_,_,_,.nil,e=>by simp at e
 | _,_,0,_,.cons r _,e=>by simp at e;subst e;exact⟨_,rfl,r⟩
 | _,_,j+1,u,.cons _ t,e=>by
  obtain⟨v,h1,h2⟩:=Jc (j:=j) t (by simpa using e);exact⟨v,by simpa using h1,h2⟩
theorem Jk:∀{W:Wd}{xs:List PV}{vs:List V}{i:Nat}{v:V},yc W xs vs->vs[i]? = some v->∃ x,xs[i]? = some x∧Rep W x v
 | _,[],_,_,_,r,e=>by cases r;simp at e
 | _,_::_,_,0,_,⟨v,r,e,a,_⟩,q=>by subst e;simp at q;subst q;exact⟨_,rfl,a⟩
 | _,_::_,_,i+1,_,⟨v,r,e,_,b⟩,q=>by
  subst e;obtain⟨x,h1,h2⟩:=Jk (i:=i) b (by simpa using q);exact⟨x,by simpa using h1,h2⟩
section
variable {X:Cx}{aa:List (Addr×Obj)}{σ:St}{H:Hp}{s:Shared}{W:Wd}{M:Sto}
theorem atH (I:Inv X aa σ H s)(hh:Held W M H)(hT:W.T.K=X.K){x:PV}{v:V}{u:Value}(p:plain x=true)(r:Rep W x v)(q:yi v u):AtH W s x u:=by
 cases x with
 | non=>cases r;exact q
 | bl b=>cases r;exact q
 | int b=>cases r;exact q
 | str b=>cases r;exact q
 | lst xs =>
  obtain⟨a,vs,rfl,e,rr⟩:=r;cases q;obtain⟨its,rv,pl,_⟩:=I.list (SqL.of (hh.f _ _ e));exact⟨a,its,vs,rfl,pl.isList,rv,rr⟩
 | tup xs =>
  obtain⟨a,vs,rfl,e,rr⟩:=r;cases q;obtain⟨its,rv,pl,_⟩:=I.tuple (show SqT X.K H a vs from hT ▸ Xa hh.f e.toT);exact⟨a,its,vs,rfl,pl,rv,rr⟩
 | _=>cases p
theorem lt_no {a:Addr}{its its':Array Value}(h:s.heap.IsList a its)(h':s.heap.IsTuple a its'):False:=SeqAt.ne_of_list_tuple h h' rfl
def jiC:V->Option PV
 | .non=>some .non
 | .bl b=>some (.bl b)
 | .int i=>some (.int i)
 | .str x=>some (.str x)
 | _=>none
theorem Xj (I:Inv X aa σ H s)(hh:Held W M H)(hT:W.T.K=X.K){x:PV}{v:V}(p:plain x=true)(r:Rep W x v):jiC v=some x∨∃ a vs,v = .ref a∧((∃ xs,x = .lst xs∧W.F a=some (.lst vs)∧yc W xs vs∧∃ its,s.heap.IsList a its)∨(∃ xs,x = .tup xs∧SqT X.K H a vs∧yc W xs vs∧∃ its,s.heap.IsTuple a its)):=by
 cases x with
 | non=>cases r;exact .inl rfl
 | bl _=>cases r;exact .inl rfl
 | int _=>cases r;exact .inl rfl
 | str _=>cases r;exact .inl rfl
 | lst xs =>
  obtain⟨a,vs,rfl,e,rr⟩:=r;obtain⟨its,_,pl,_⟩:=I.list (SqL.of (hh.f _ _ e));exact .inr ⟨a,vs,rfl,.inl ⟨xs,rfl,e,rr,_,pl.isList⟩⟩
 | tup xs =>
  obtain⟨a,vs,rfl,e,rr⟩:=r
  have e:=(show SqT X.K H a vs from hT ▸ Xa hh.f e.toT)
  obtain⟨its,_,pl,_⟩:=I.tuple e;exact .inr ⟨a,vs,rfl,.inr ⟨xs,rfl,e,rr,_,pl⟩⟩
 | _=>cases p
theorem jaK {n:Nat}(ih:∀(x y:PV) (v:V),dep x<n->plain x=true->plain y=true->Rep W x v->Rep W y v->x=y)(xs:List PV):∀(ys:List PV) (vs:List V),xi xs<n->yt xs=true->yt ys=true->yc W xs vs->yc W ys vs->xs=ys:=by
 induction xs with
 | nil =>
  intro ys vs _ _ _ r q;cases r
  cases ys with
  | nil=>rfl
  | cons y ys=>obtain⟨_,_,e,_⟩:=q;cases e
 | cons x xs hi =>
  intro ys vs hn p p' r q;obtain⟨v,r,rfl,a,b⟩:=r
  cases ys with
  | nil=>cases q
  | cons y ys =>
   obtain⟨v',r',e',a',b'⟩:=q;cases e';unfold yt at p p';have p:=Bool.and_eq_true_iff.mp p;have p':=Bool.and_eq_true_iff.mp p';have hn:max (dep x) (xi xs)<n:=hn;rw[ih x y v (by omega) p.1 p'.1 a a',hi ys r (by omega) p.2 p'.2 b b']
theorem jdf (I:Inv X aa σ H s)(hh:Held W M H)(hT:W.T.K=X.K){x y:PV}{v:V}(px:plain x=true)(py:plain y=true)(rx:Rep W x v)(ry:Rep W y v):x=y:=by
 suffices h:∀(n:Nat) (x y:PV) (v:V),dep x<n->plain x=true->plain y=true->Rep W x v->Rep W y v->x=y from h _ x y v (lt_succ_self _) px py rx ry
 intro n
 induction n with
 | zero=>intro x y v h;exact absurd h (not_lt_zero _)
 | succ n ih =>
 intro x y v hn px py rx ry
 rcases Xj I hh hT px rx with h | ⟨a,vs,rfl,h⟩
 ·rcases Xj I hh hT py ry with h' | ⟨a,vs,rfl,_⟩
  ·rw[h]at h';exact Option.some.inj h'
  ·cases h
 rcases Xj I hh hT py ry with h' | ⟨a',us,e,h'⟩
 ·cases h'
 cases e
 rcases h with⟨xs,rfl,f,rr,its,hl⟩ | ⟨xs,rfl,f,rr,its,hl⟩ <;> rcases h' with⟨ys,rfl,f',bq,its',cJ⟩ | ⟨ys,rfl,f',bq,its',cJ⟩
 ·rw[f]at f';cases f';rw[jaK ih xs ys vs (show xi xs<n from Nat.lt_of_succ_lt_succ hn) px py rr bq]
 ·exact(lt_no hl cJ).elim
 ·exact(lt_no cJ hl).elim
 ·have:=I.tuple_inj f f'
  subst this;rw[jaK ih xs ys vs (show xi xs<n from Nat.lt_of_succ_lt_succ hn) px py rr bq]
theorem Yg {I0:Prop}{xs ys:List PV}{vs us:List V}{its its':List Value}{A:Around}(ih:∀(x y:PV) {v u:V}{v' u':Value},dep x<=xi xs->plain x=true->plain y=true->Rep W x v->Rep W y u->yi v v'->yi u u'->SeqAt.EqAt A s v' u' (eqB x y))
  (px:yt xs=true) (py:yt ys=true) (rx:yc W xs vs) (ry:yc W ys us) (qx:yf vs its) (qy:yf us its') {j:Nat}(h1:j<its.length) (h2:j<its'.length):SeqAt.EqAt A s its[j] its'[j] (eqB (xs.getD j .non) (ys.getD j .non)):=by
 obtain⟨v,e1,r1⟩:=Jc qx (getElem?_eq_getElem h1);obtain⟨u,e2,r2⟩:=Jc qy (getElem?_eq_getElem h2);obtain⟨x,e3,r3⟩:=Jk rx e1;obtain⟨y,e4,r4⟩:=Jk ry e2;rw[getD_eq_getElem?_getD,getD_eq_getElem?_getD,e3,e4];exact ih x y (jet e3) (vF px e3) (vF py e4) r3 r4 r1 r2
theorem XQ (I:Inv X aa σ H s)(hh:Held W M H)(hT:W.T.K=X.K):∀(n:Nat) (x y:PV) {v u:V}{v' u':Value}(A:Around),dep x<n->A.units+dep x<cLine->plain x=true->plain y=true->Rep W x v->Rep W y u->yi v v'->yi u u'->SeqAt.EqAt A s v' u' (eqB x y):=by
 intro n
 induction n with
 | zero=>intro x y v u v' u' A h;exact absurd h (not_lt_zero _)
 | succ n ih =>
 intro x y v u v' u' A hn hu px py rx ry qx qy
 cases x with
 | lst xs =>
  have hn:xi xs+1<n+1:=hn;have hu:A.units+(xi xs+1)<cLine:=hu
  obtain⟨a,its,vs,rfl,il,rv,rr⟩:=(show AtH W s (.lst xs) v' from atH I hh hT px rx qx)
  have hy:=atH I hh hT py ry qy
  cases y with
  | lst ys =>
   obtain⟨b,its',us,rfl,az,b9,bq⟩:=hy
   by_cases dG:a=b
   ·subst dG;have e:v=u:=qx.inj qy;subst e;have e:=jdf I hh hT px py rx ry;cases e;rw[Jv px];exact SeqAt.EqAt.same _
   ·refine SeqAt.EqAt.of_refs dG ?_;have l1:=rv.length;have l2:=b9.length;have l3:=rr.length;have l4:=bq.length
    by_cases hl:xs.length=ys.length
    ·have:=SeqAt.RcAt.lists (A:=A) (e:=fun j=>eqB (xs.getD j .non) (ys.getD j .non)) il az (by simp;omega) (by omega) fun j h1 h2=>Yg (I0:=True) (fun x y v u v' u' hd=>ih x y A.in1 (by omega) (show A.units+1+dep x<cLine by omega)) px py rr bq rv b9 (j:=j) (by simpa using h1) (by simpa using h2)
     rw[size_toArray,show its.length=xs.length by omega,xO hl]at this;exact this
    ·have:=SeqAt.RcAt.lists_lengths (A:=A) il az (by simp;omega) (by omega)
     rw[show eqB (.lst xs) (.lst ys)=false from ut hl];exact this
  | tup ys =>
   obtain⟨b,its',us,rfl,az,b9,bq⟩:=hy;exact SeqAt.EqAt.list_tuple il az (by omega)
  | non=>cases hy;exact SeqAt.EqAt.list_none il (by omega)
  | bl b=>cases hy;exact SeqAt.EqAt.list_bool b il (by omega)
  | int b=>obtain⟨t,rfl⟩:=hy;exact SeqAt.EqAt.list_int b t il (by omega)
  | str b=>obtain⟨t,rfl⟩:=hy;exact SeqAt.EqAt.list_str b t il (by omega)
  | _=>cases py
 | tup xs =>
  have hn:xi xs+1<n+1:=hn;have hu:A.units+(xi xs+1)<cLine:=hu
  obtain⟨a,its,vs,rfl,il,rv,rr⟩:=(show AtH W s (.tup xs) v' from atH I hh hT px rx qx)
  have hy:=atH I hh hT py ry qy
  cases y with
  | tup ys =>
   obtain⟨b,its',us,rfl,az,b9,bq⟩:=hy
   by_cases dG:a=b
   ·subst dG;have e:v=u:=qx.inj qy;subst e;have e:=jdf I hh hT px py rx ry;cases e;rw[Jv px];exact SeqAt.EqAt.same _
   ·refine SeqAt.EqAt.of_refs dG ?_;have l1:=rv.length;have l2:=b9.length;have l3:=rr.length;have l4:=bq.length
    have:=SeqAt.RcAt.tuples (A:=A) (e:=fun j=>eqB (xs.getD j .non) (ys.getD j .non)) il az (by omega) fun j h1 h2=>Yg (I0:=True) (fun x y v u v' u' hd=>ih x y A.in1 (by omega) (show A.units+1+dep x<cLine by omega)) px py rr bq rv b9 (j:=j) (by simpa using h1) (by simpa using h2)
    by_cases hl:xs.length=ys.length
    ·rw[size_toArray,size_toArray,show its.length=xs.length by omega,show its'.length=xs.length by omega,Nat.min_self,xO hl,beq_self_eq_true,Bool.and_true]at this;exact this
    ·rw[size_toArray,size_toArray,show its.length=xs.length by omega,show its'.length=ys.length by omega,show(xs.length==ys.length)=false by simpa using hl,Bool.and_false]at this;rw[show eqB (.tup xs) (.tup ys)=false from ut hl];exact this
  | lst ys =>
   obtain⟨b,its',us,rfl,az,b9,bq⟩:=hy;exact SeqAt.EqAt.tuple_list il az (by omega)
  | non=>cases hy;exact SeqAt.EqAt.tuple_none il (by omega)
  | bl b=>cases hy;exact SeqAt.EqAt.tuple_bool b il (by omega)
  | int b=>obtain⟨t,rfl⟩:=hy;exact SeqAt.EqAt.tuple_int b t il (by omega)
  | str b=>obtain⟨t,rfl⟩:=hy;exact SeqAt.EqAt.tuple_str b t il (by omega)
  | _=>cases py
 | non =>
  cases rx;cases qx;have hu:A.units<cLine:=hu;have hy:=atH I hh hT py ry qy
  cases y with
  | non=>cases hy;exact SeqAt.EqAt.same _
  | bl b=>cases hy;exact SeqAt.EqAt.none_bool b
  | int b=>obtain⟨t,rfl⟩:=hy;exact SeqAt.EqAt.none_int b t
  | str b=>obtain⟨t,rfl⟩:=hy;exact SeqAt.EqAt.none_str b t
  | lst ys=>obtain⟨b,its',us,rfl,az,_⟩:=hy;exact SeqAt.EqAt.none_list az hu
  | tup ys=>obtain⟨b,its',us,rfl,az,_⟩:=hy;exact SeqAt.EqAt.none_tuple az hu
  | _=>cases py
 | bl a =>
  cases rx;cases qx;have hu:A.units<cLine:=hu;have hy:=atH I hh hT py ry qy
  cases y with
  | non=>cases hy;exact SeqAt.EqAt.bool_none a
  | bl b=>cases hy;exact SeqAt.EqAt.bool_bool a b
  | int b=>obtain⟨t,rfl⟩:=hy;exact SeqAt.EqAt.bool_int a b t
  | str b=>obtain⟨t,rfl⟩:=hy;exact SeqAt.EqAt.bool_str a b t
  | lst ys=>obtain⟨b,its',us,rfl,az,_⟩:=hy;exact SeqAt.EqAt.bool_list a az hu
  | tup ys=>obtain⟨b,its',us,rfl,az,_⟩:=hy;exact SeqAt.EqAt.bool_tuple a az hu
  | _=>cases py
 | int a =>
  cases rx;obtain⟨t,rfl⟩:=qx;have hu:A.units<cLine:=hu;have hy:=atH I hh hT py ry qy
  cases y with
  | non=>cases hy;exact SeqAt.EqAt.int_none a t
  | bl b=>cases hy;exact SeqAt.EqAt.int_bool a t b
  | int b=>obtain⟨t',rfl⟩:=hy;exact SeqAt.EqAt.int_int a t b t'
  | str b=>obtain⟨t',rfl⟩:=hy;exact SeqAt.EqAt.int_str a t b t'
  | lst ys=>obtain⟨b,its',us,rfl,az,_⟩:=hy;exact SeqAt.EqAt.int_list a t az hu
  | tup ys=>obtain⟨b,its',us,rfl,az,_⟩:=hy;exact SeqAt.EqAt.int_tuple a t az hu
  | _=>cases py
 | str a =>
  cases rx;obtain⟨t,rfl⟩:=qx;have hu:A.units<cLine:=hu;have hy:=atH I hh hT py ry qy
  cases y with
  | non=>cases hy;exact SeqAt.EqAt.str_none a t
  | bl b=>cases hy;exact SeqAt.EqAt.str_bool a t b
  | int b=>obtain⟨t',rfl⟩:=hy;exact SeqAt.EqAt.str_int a t b t'
  | str b=>obtain⟨t',rfl⟩:=hy;exact SeqAt.EqAt.str_str a t b t'
  | lst ys=>obtain⟨b,its',us,rfl,az,_⟩:=hy;exact SeqAt.EqAt.str_list a t az hu
  | tup ys=>obtain⟨b,its',us,rfl,az,_⟩:=hy;exact SeqAt.EqAt.str_tuple a t az hu
  | _=>cases py
 | _=>cases px
theorem jgC (I:Inv X aa σ H s)(hh:Held W M H)(hT:W.T.K=X.K){x y:PV}{v u:V}{v' u':Value}{A:Around}(hu:A.units+dep x<cLine)(px:plain x=true)(py:plain y=true)(rx:Rep W x v)(ry:Rep W y u)(qx:yi v v')(qy:yi u u') :
  SeqAt.RcAt A s v' u' (eqB x y)∧SeqAt.RcNeAt A s v' u' (!eqB x y):=by
 have hx:=atH I hh hT px rx qx;have hy:=atH I hh hT py ry qy
 have hu0:A.units<cLine:=by omega
 cases x with
 | non =>
  cases hx
  cases y with
  | non=>cases hy;exact⟨SeqAt.RcAt.none_none,SeqAt.RcNeAt.none_none⟩
  | bl b=>cases hy;exact⟨SeqAt.RcAt.none_bool b,SeqAt.RcNeAt.none_bool b⟩
  | int b=>obtain⟨t,rfl⟩:=hy;exact⟨SeqAt.RcAt.none_int b t,SeqAt.RcNeAt.none_int b t⟩
  | str b=>obtain⟨t,rfl⟩:=hy;exact⟨SeqAt.RcAt.none_str b t,SeqAt.RcNeAt.none_str b t⟩
  | lst ys=>obtain⟨b,its',us,rfl,az,_⟩:=hy;exact⟨SeqAt.RcAt.none_list az hu0,SeqAt.RcNeAt.none_list az hu0⟩
  | tup ys=>obtain⟨b,its',us,rfl,az,_⟩:=hy;exact⟨SeqAt.RcAt.none_tuple az hu0,SeqAt.RcNeAt.none_tuple az hu0⟩
  | _=>cases py
 | bl a =>
  cases hx
  cases y with
  | non=>cases hy;exact⟨SeqAt.RcAt.bool_none a,SeqAt.RcNeAt.bool_none a⟩
  | bl b=>cases hy;exact⟨SeqAt.RcAt.bool_bool a b,SeqAt.RcNeAt.bool_bool a b⟩
  | int b=>obtain⟨t,rfl⟩:=hy;exact⟨SeqAt.RcAt.bool_int a b t,SeqAt.RcNeAt.bool_int a b t⟩
  | str b=>obtain⟨t,rfl⟩:=hy;exact⟨SeqAt.RcAt.bool_str a b t,SeqAt.RcNeAt.bool_str a b t⟩
  | lst ys=>obtain⟨b,its',us,rfl,az,_⟩:=hy;exact⟨SeqAt.RcAt.bool_list a az hu0,SeqAt.RcNeAt.bool_list a az hu0⟩
  | tup ys=>obtain⟨b,its',us,rfl,az,_⟩:=hy;exact⟨SeqAt.RcAt.bool_tuple a az hu0,SeqAt.RcNeAt.bool_tuple a az hu0⟩
  | _=>cases py
 | int a =>
  obtain⟨t,rfl⟩:=hx
  cases y with
  | non=>cases hy;exact⟨SeqAt.RcAt.int_none a t,SeqAt.RcNeAt.int_none a t⟩
  | bl b=>cases hy;exact⟨SeqAt.RcAt.int_bool a t b,SeqAt.RcNeAt.int_bool a t b⟩
  | int b=>obtain⟨t',rfl⟩:=hy;exact⟨SeqAt.RcAt.int_int a t b t',SeqAt.RcNeAt.int_int a t b t'⟩
  | str b=>obtain⟨t',rfl⟩:=hy;exact⟨SeqAt.RcAt.int_str a t b t',SeqAt.RcNeAt.int_str a t b t'⟩
  | lst ys=>obtain⟨b,its',us,rfl,az,_⟩:=hy;exact⟨SeqAt.RcAt.int_list a t az hu0,SeqAt.RcNeAt.int_list a t az hu0⟩
  | tup ys=>obtain⟨b,its',us,rfl,az,_⟩:=hy;exact⟨SeqAt.RcAt.int_tuple a t az hu0,SeqAt.RcNeAt.int_tuple a t az hu0⟩
  | _=>cases py
 | str a =>
  obtain⟨t,rfl⟩:=hx
  cases y with
  | non=>cases hy;exact⟨SeqAt.RcAt.str_none a t,SeqAt.RcNeAt.str_none a t⟩
  | bl b=>cases hy;exact⟨SeqAt.RcAt.str_bool a t b,SeqAt.RcNeAt.str_bool a t b⟩
  | int b=>obtain⟨t',rfl⟩:=hy;exact⟨SeqAt.RcAt.str_int a t b t',SeqAt.RcNeAt.str_int a t b t'⟩
  | str b=>obtain⟨t',rfl⟩:=hy;exact⟨SeqAt.RcAt.str_str a t b t',SeqAt.RcNeAt.str_str a t b t'⟩
  | lst ys=>obtain⟨b,its',us,rfl,az,_⟩:=hy;exact⟨SeqAt.RcAt.str_list a t az hu0,SeqAt.RcNeAt.str_list a t az hu0⟩
  | tup ys=>obtain⟨b,its',us,rfl,az,_⟩:=hy;exact⟨SeqAt.RcAt.str_tuple a t az hu0,SeqAt.RcNeAt.str_tuple a t az hu0⟩
  | _=>cases py
 | lst xs =>
  obtain⟨a,its,vs,rfl,il,rv,rr⟩:=hx;have hu:A.units+(xi xs+1)<cLine:=hu
  cases y with
  | lst ys =>
   obtain⟨b,its',us,rfl,az,b9,bq⟩:=hy;have l1:=rv.length;have l2:=b9.length;have l3:=rr.length;have l4:=bq.length
   by_cases hl:xs.length=ys.length
   ·have t1:=SeqAt.RcAt.lists (A:=A) (e:=fun j=>eqB (xs.getD j .non) (ys.getD j .non)) il az (by simp;omega) (by omega) fun j h1 h2=>Yg (I0:=True) (fun x y v u v' u' hd=>XQ I hh hT (dep x+1) x y A.in1 (by omega) (show A.units+1+dep x<cLine by omega)) px py rr bq rv b9 (j:=j) (by simpa using h1) (by simpa using h2);have t2:=SeqAt.RcNeAt.lists (A:=A) (e:=fun j=>eqB (xs.getD j .non) (ys.getD j .non)) il az (by simp;omega) (by omega) fun j h1 h2=>Yg (I0:=True) (fun x y v u v' u' hd=>XQ I hh hT (dep x+1) x y A.in1 (by omega) (show A.units+1+dep x<cLine by omega)) px py rr bq rv b9 (j:=j) (by simpa using h1) (by simpa using h2);rw[size_toArray,show its.length=xs.length by omega,xO hl]at t1 t2;exact⟨t1,t2⟩
   ·rw[show eqB (.lst xs) (.lst ys)=false from ut hl];exact⟨SeqAt.RcAt.lists_lengths (A:=A) il az (by simp;omega) (by omega),SeqAt.RcNeAt.lists_lengths (A:=A) il az (by simp;omega) (by omega)⟩
  | tup ys=>obtain⟨b,its',us,rfl,az,b9,bq⟩:=hy;exact⟨SeqAt.RcAt.list_tuple il az (by omega),SeqAt.RcNeAt.list_tuple il az (by omega)⟩
  | non=>cases hy;exact⟨SeqAt.RcAt.list_none il (by omega),SeqAt.RcNeAt.list_none il (by omega)⟩
  | bl b=>cases hy;exact⟨SeqAt.RcAt.list_bool b il (by omega),SeqAt.RcNeAt.list_bool b il (by omega)⟩
  | int b=>obtain⟨t,rfl⟩:=hy;exact⟨SeqAt.RcAt.list_int b t il (by omega),SeqAt.RcNeAt.list_int b t il (by omega)⟩
  | str b=>obtain⟨t,rfl⟩:=hy;exact⟨SeqAt.RcAt.list_str b t il (by omega),SeqAt.RcNeAt.list_str b t il (by omega)⟩
  | _=>cases py
 | tup xs =>
  obtain⟨a,its,vs,rfl,il,rv,rr⟩:=hx;have hu:A.units+(xi xs+1)<cLine:=hu
  cases y with
  | tup ys =>
   obtain⟨b,its',us,rfl,az,b9,bq⟩:=hy;have l1:=rv.length;have l2:=b9.length;have l3:=rr.length;have l4:=bq.length;have t1:=SeqAt.RcAt.tuples (A:=A) (e:=fun j=>eqB (xs.getD j .non) (ys.getD j .non)) il az (by omega) fun j h1 h2=>Yg (I0:=True) (fun x y v u v' u' hd=>XQ I hh hT (dep x+1) x y A.in1 (by omega) (show A.units+1+dep x<cLine by omega)) px py rr bq rv b9 (j:=j) (by simpa using h1) (by simpa using h2);have t2:=SeqAt.RcNeAt.tuples (A:=A) (e:=fun j=>eqB (xs.getD j .non) (ys.getD j .non)) il az (by omega) fun j h1 h2=>Yg (I0:=True) (fun x y v u v' u' hd=>XQ I hh hT (dep x+1) x y A.in1 (by omega) (show A.units+1+dep x<cLine by omega)) px py rr bq rv b9 (j:=j) (by simpa using h1) (by simpa using h2)
   by_cases hl:xs.length=ys.length
   ·rw[size_toArray,size_toArray,show its.length=xs.length by omega,show its'.length=xs.length by omega,Nat.min_self,xO hl,beq_self_eq_true,Bool.and_true]at t1 t2;exact⟨t1,t2⟩
   ·rw[size_toArray,size_toArray,show its.length=xs.length by omega,show its'.length=ys.length by omega,show(xs.length==ys.length)=false by simpa using hl,Bool.and_false]at t1 t2;rw[show eqB (.tup xs) (.tup ys)=false from ut hl];exact⟨t1,t2⟩
  | lst ys=>obtain⟨b,its',us,rfl,az,b9,bq⟩:=hy;exact⟨SeqAt.RcAt.tuple_list il az (by omega),SeqAt.RcNeAt.tuple_list il az (by omega)⟩
  | non=>cases hy;exact⟨SeqAt.RcAt.tuple_none il (by omega),SeqAt.RcNeAt.tuple_none il (by omega)⟩
  | bl b=>cases hy;exact⟨SeqAt.RcAt.tuple_bool b il (by omega),SeqAt.RcNeAt.tuple_bool b il (by omega)⟩
  | int b=>obtain⟨t,rfl⟩:=hy;exact⟨SeqAt.RcAt.tuple_int b t il (by omega),SeqAt.RcNeAt.tuple_int b t il (by omega)⟩
  | str b=>obtain⟨t,rfl⟩:=hy;exact⟨SeqAt.RcAt.tuple_str b t il (by omega),SeqAt.RcNeAt.tuple_str b t il (by omega)⟩
  | _=>cases py
 | _=>cases px
end
section
variable {X:Cx}{T:Tb}{f:Value->Value->Sem Value}
def gI (C:Int->Int->Bool)(z:Int->Int->PV):G2:=fun _ x y=>match x,y with
 | .int i,.int j=>if C i j=true then some (z i j)else none
 | _,_=>none
theorem jep {C:Int->Int->Bool}{z:Int->Int->PV}{M:Sto}{x y w:PV}(e:gI C z M x y=some w):∃ i j,x = .int i∧y = .int j∧C i j=true∧w=z i j:=by
 unfold gI at e;split at e
 ·split at e
  ·rename_i h;cases e;exact⟨_,_,rfl,rfl,h,rfl⟩
  ·cases e
 ·cases e
theorem jef {C:Int->Int->Bool}{z:Int->Int->PV}{D:Int->Int->Prop}{zv:Int->Int->V}(h:OpR X f (rI D zv))(hD:∀ i j,C i j=true->D i j)(hz:∀ W i j,Rep W (z i j) (zv i j)):OpP X T f (gI C z) :=
 vG h fun v u H Q ae=>by
  obtain⟨W,M,x,y,w,k,hh,rx,ry,e,q⟩:=ae;obtain⟨i,j,rfl,rfl,hc,rfl⟩:=jep e;exact⟨i,j,rx,ry,hD i j hc,q W H _ (.refl W) hh (hz W i j)⟩
theorem JU {z:Int->Int->PV}{zv:Int->Int->V}(h:OpR X f (rI0 zv))(hz:∀ W i j,Rep W (z i j) (zv i j)):OpP X T f (gI (fun _ _=>true) z) :=
 vG h fun v u H Q ae=>by
  obtain⟨W,M,x,y,w,k,hh,rx,ry,e,q⟩:=ae;obtain⟨i,j,rfl,rfl,hc,rfl⟩:=jep e;exact⟨i,j,rx,ry,q W H _ (.refl W) hh (hz W i j)⟩
abbrev jeS:Int->Int->Bool:=fun _ _=>true
def gAddI:G2:=gI jeS fun i j=>.int (i+j)
def jfC:G2:=gI jeS fun i j=>.int (i-j)
def cMul (i j:Int):Bool:=(decide (-(2 ^ 64)<i) && decide (i<2 ^ 64)) || (decide (-(2 ^ 64)<j) && decide (j<2 ^ 64))
def VL:G2:=gI cMul fun i j=>.int (i*j)
def jhX:G2:=gI (fun _ j=>decide (0<j) && decide (j<1073741824)) fun i j=>.int (i/j)
def jbp:G2:=gI (fun _ j=>decide (0<j)) fun i j=>.int (i%j)
def gPow:G2:=gI (fun i j=>decide (0<=j) && decide (j<=1000000) && decide (i.natAbs<2 ^ 64)) fun i j=>.int (i ^ j.toNat)
def gLt:G2:=gI jeS fun i j=>.bl (decide (i<j))
def gLe:G2:=gI jeS fun i j=>.bl (decide (i<=j))
def gGt:G2:=gI jeS fun i j=>.bl (decide (j<i))
def gGe:G2:=gI jeS fun i j=>.bl (decide (j<=i))
theorem o_addI:OpP X T (binaryOp .Add) gAddI:=JU op_add fun _ _ _=>rfl
theorem o_sub:OpP X T (binaryOp .Sub) jfC:=JU op_sub fun _ _ _=>rfl
theorem o_mulI:OpP X T (binaryOp .Mult) VL:=jef op_mul (fun i j h=>by
 unfold cMul at h;simp only[Bool.or_eq_true,and_eq_true,decide_eq_true_eq]at h
 exact h) fun _ _ _=>rfl
theorem jhn:OpP X T (binaryOp .FloorDiv) jhX:=jef op_fdiv (fun i j h=>by
 simp only[and_eq_true,decide_eq_true_eq]at h
 exact h) fun _ _ _=>rfl
theorem VB:OpP X T (binaryOp .Mod) jbp:=jef op_mod (fun i j h=>of_decide_eq_true h) fun _ _ _=>rfl
theorem o_pow:OpP X T (binaryOp .Pow) gPow:=jef op_pow (fun i j h=>by
 simp only[and_eq_true,decide_eq_true_eq]at h
 exact⟨h.1.1,h.1.2,h.2⟩) fun _ _ _=>rfl
theorem o_lt:OpP X T (compareOp .Lt) gLt:=JU op_lt fun _ _ _=>rfl
theorem o_le:OpP X T (compareOp .LtE) gLe:=JU op_le fun _ _ _=>rfl
theorem o_gt:OpP X T (compareOp .Gt) gGt:=JU op_gt fun _ _ _=>rfl
theorem o_ge:OpP X T (compareOp .GtE) gGe:=JU op_ge fun _ _ _=>rfl
def gCat:G2:=fun M x y=>match yz M x,yz M y with
 | some xs,some ys=>if xs.length+ys.length<=sizeLine then some (.lst (xs++ys))else none
 | _,_=>none
theorem o_cat:OpP X T (binaryOp .Add) gCat:=vG op_cat fun v u H Q ae=>by
 obtain⟨W,M,x,y,w,k,hh,rx,ry,e,q⟩:=ae;unfold gCat at e;split at e
 ·rename_i xs ys e1 e2;split at e
  ·rename_i hz;cases e;obtain⟨a,vs,rfl,ha,rv⟩:=xg hh rx e1;obtain⟨b,us,rfl,hb,ru⟩:=xg hh ry e2;refine⟨a,b,vs,us,rfl,rfl,ha,hb,by rw[rv.length,ru.length];exact hz,fun p hp=>?_⟩;obtain⟨W2,l2,h2,r2⟩:=vI hh (rv.append ru) hp;exact q W2 _ _ l2 h2 r2
  ·cases e
 ·cases e
def jhY:G2:=fun _ x y=>match x,y with
 | .tup xs,.tup ys=>if xs≠[]∧xs.length+ys.length<=sizeLine then some (.tup (xs++ys))else none
 | _,_=>none
theorem yc.nil_iff {W:Wd}{xs:List PV}{vs:List V}(r:yc W xs vs):vs=[]↔xs=[]:=by
 have:=r.length
 constructor
 ·rintro rfl;exact eq_nil_of_length_eq_zero (by simpa using this.symm)
 ·rintro rfl;exact eq_nil_of_length_eq_zero (by simpa using this)
theorem o_catT (hT:T.K=X.K):OpP X T (binaryOp .Add) jhY:=vG op_catT fun v u H Q ae=>by
 obtain⟨W,M,x,y,w,k,hh,rx,ry,e,q⟩:=ae;unfold jhY at e;split at e
 ·rename_i xs ys;split at e
  ·rename_i hz;cases e;obtain⟨a,vs,rfl,ha,rv⟩:=xY hh rx;obtain⟨b,us,rfl,hb,ru⟩:=xY hh ry;rw[k,hT]at ha hb;refine⟨a,b,vs,us,rfl,rfl,ha,hb,fun z=>hz.1 (rv.nil_iff.mp z),by rw[rv.length,ru.length];exact hz.2,fun z=>?_,fun z p hp=>?_⟩
   ·have z:=ru.nil_iff.mp z;subst z;rw[append_nil]at q;exact q W H _ (.refl W) hh rx
   ·obtain⟨W2,l2,h2,r2⟩:=uE hh (rv.append ru) hp;exact q W2 _ _ l2 h2 r2
  ·cases e
 ·cases e
def XM:G2:=orG gAddI (orG gCat jhY)
theorem VC (hT:T.K=X.K):OpP X T (binaryOp .Add) XM:=jcz o_addI (jcz o_cat (o_catT hT))
def jcP:G2:=fun M x y=>match y with
 | .int k=>(match yz M x with
  | some xs=>if -(2 ^ 63)<=k∧k<2 ^ 63∧xs.length*k.toNat<=sizeLine then some (.lst (replicate k.toNat xs).flatten)else none
  | none=>none)
 | _=>none
theorem o_rep:OpP X T (binaryOp .Mult) jcP:=vG op_rep fun v u H Q ae=>by
 obtain⟨W,M,x,y,w,k,hh,rx,ry,e,q⟩:=ae;unfold jcP at e;split at e
 ·rename_i i;split at e
  ·rename_i xs e1;split at e
   ·rename_i hz;cases e;obtain⟨a,vs,rfl,ha,rv⟩:=xg hh rx e1;refine⟨a,i,vs,rfl,ry,ha,hz.1,hz.2.1,by rw[rv.length];exact hz.2.2,fun p hp=>?_⟩;obtain⟨W2,l2,h2,r2⟩:=vI hh (rv.rep i.toNat) hp;exact q W2 _ _ l2 h2 r2
   ·cases e
  ·cases e
 ·cases e
def jbo:G2:=orG VL jcP
theorem jeg:OpP X T (binaryOp .Mult) jbo:=jcz o_mulI o_rep
def look (M:Sto):PV->PV
 | .ref i=>(match M.g i with
  | some (.lst xs)=>.lst xs
  | _=>.ref i)
 | x=>x
theorem jfr {M:Sto}{i:Nat}(h:∀ xs,M.g i≠some (.lst xs)):look M (.ref i) = .ref i:=by
 show(match M.g i with
  | some (.lst xs)=>PV.lst xs
  | _=>.ref i)=_
 split
 ·rename_i xs e;exact absurd e (h xs)
 ·rfl
theorem Xx {M:Sto}{i:Nat}{xs:List PV}(h:M.g i=some (.lst xs)):look M (.ref i) = .lst xs:=by
 show(match M.g i with
  | some (.lst xs)=>PV.lst xs
  | _=>.ref i)=_
 rw[h]
def Wd.all (W:Wd)(H:Hp):Wd:=⟨W.T,H,W.α,fun _=>none⟩
theorem Held.le_all {W:Wd}{M:Sto}{H:Hp}(hh:Held W M H):W.le0 (W.all H):=⟨rfl,hh.f,fun _ _ e=>e⟩
theorem Held.all {W:Wd}{M:Sto}{H:Hp}(hh:Held W M H):Held (W.all H) ⟨M.n,fun _=>none⟩ H:=⟨fun _ _ e=>e,fun _ _ e=>(by cases e),fun _ _ _ _ _ e=>(by cases e),hh.top,fun _ _ e=>(by cases e),fun _ _ e=>(by cases e)⟩
theorem ug {W:Wd}{M:Sto}{H:Hp}{x:PV}{v:V}(hh:Held W M H)(r:Rep W x v):Rep (W.all H) (look M x) v:=by
 cases x with
 | ref i =>
  by_cases h:∃ xs,M.g i=some (.lst xs)
  ·obtain⟨xs,e⟩:=h;rw[Xx e];obtain⟨a,rfl,ea⟩:=r;obtain⟨b,o,h1,h2,h3,vs,rfl,rr⟩:=hh.m i _ e;rw[ea]at h1;cases h1;exact⟨a,vs,rfl,h3,rr.up0 hh.le_all⟩
  ·rw[jfr fun xs e=>h ⟨xs,e⟩];exact r.up0 hh.le_all
 | _=>exact r.up0 hh.le_all
def eqG (neg:Bool):G2:=fun M x y=>if plain (look M x)=true∧plain (look M y)=true∧dep (look M x)<=60 then some (.bl (if neg then !eqB (look M x) (look M y)else eqB (look M x) (look M y)))else none
theorem jhm (hT:T.K=X.K)(hu:X.A.units+64<cLine):OpP X T (compareOp .Eq) (eqG false):=by
 intro aa s σ H v u v' u' Q I rv ru h;obtain⟨W,M,x,y,w,k,hh,rx,ry,e,q⟩:=h;unfold eqG at e;split at e
 ·rename_i hp;cases e;have t:=(jgC I hh.all (show W.T.K=X.K by rw[k];exact hT) (A:=X.A) (by omega) hp.1 hp.2.1 (ug hh rx) (ug hh ry) rv ru).1;exact t X.prog X.w X.xe _ ⟨.bl _,H,I,rfl,q W H _ (.refl W) hh rfl⟩
 ·cases e
theorem jfl (hT:T.K=X.K)(hu:X.A.units+64<cLine):OpP X T (compareOp .NotEq) (eqG true):=by
 intro aa s σ H v u v' u' Q I rv ru h;obtain⟨W,M,x,y,w,k,hh,rx,ry,e,q⟩:=h;unfold eqG at e;split at e
 ·rename_i hp;cases e;have t:=(jgC I hh.all (show W.T.K=X.K by rw[k];exact hT) (A:=X.A) (by omega) hp.1 hp.2.1 (ug hh rx) (ug hh ry) rv ru).2;exact t X.prog X.w X.xe _ ⟨.bl _,H,I,rfl,q W H _ (.refl W) hh rfl⟩
 ·cases e
theorem atI_rep {W:Wd}{xs:List PV}{vs:List V}{i:Int}{x:PV}(r:yc W xs vs)(e:atI xs i=some x):∃ v,atI vs i=some v∧Rep W x v:=by
 unfold atI at e ⊢;rw[r.length]
 cases h:ixN xs.length i with
 | none=>rw[h]at e;cases e
 | some j =>
  rw[h]at e;exact r.get e
def gIx:G2:=fun M x y=>match y with
 | .int i=>(JL M x).bind fun xs=>atI xs i
 | _=>none
abbrev IxP (X:Cx)(T:Tb)(g:G2):Prop:=IxR X (rP T g)
theorem uZ (hT:T.K=X.K):IxP X T gIx:=by
 intro value slice aa s σ H v u v' u' Q I rv ru h hs;refine(ix_list.or ix_tup) value slice aa s σ H v u v' u' Q I rv ru ?_ hs;obtain⟨W,M,x,y,w,k,hh,rx,ry,e,q⟩:=h;unfold gIx at e;split at e
 ·rename_i i
  cases e1:JL M x with
  | none=>rw[e1]at e;cases e
  | some xs =>
   rw[e1]at e;obtain⟨a,vs,rfl,hq,rr⟩:=jap hh rx e1;obtain⟨z,e2,rz⟩:=atI_rep rr e;rw[k,hT]at hq
   rcases hq with hq | hq
   ·exact .inl ⟨a,vs,i,z,rfl,ry,hq,e2,q W H z (.refl W) hh rz⟩
   ·exact .inr ⟨a,vs,i,z,rfl,ry,hq,e2,q W H z (.refl W) hh rz⟩
 ·cases e
variable {ES:St->XK}{a b:Expr}{pos:Pos}{da db:DE}
theorem xR {g:G2}(hr:IxP X T g)(ha:QE X T ES a da)(hb:QE X T ES b db)(hs:jeN b):QE X T ES (.Subscript a b pos) (dOp g da db):=⟨jN (pe_ix hr ha.h hb.h hs) fun _ _ _=>YQ⟩
structure QO (X:Cx)(T:Tb)(ES:St->XK)(e:Option Expr)(d:En->Sto->Res (Option Int)):Prop where
 h:PO X e (lft T (fun _ a b=>b=a) ES d)
def dON:En->Sto->Res (Option Int):=fun _ M=>.ok none M
def dOS (d:DE):En->Sto->Res (Option Int):=fun ρ M=>(d ρ M).bind fun x M1=>match x with
 | .int i=>.ok (some i) M1
 | _=>.bad
theorem jgV {e:Option Expr}{t t':TO}(h:PO X e t)(f:∀ σ H Q,t' σ H Q->t σ H Q):PO X e t':=fun aa s σ H Q I q=>h aa s σ H Q I (f σ H Q q)
theorem Jm:QO X T ES none dON:=⟨jgV po_none fun σ H Q ae=>jC ae fun W ρ M k hh hs p=>p W H none (.refl W) hh rfl⟩
theorem Jl (h:QE X T ES a da):QO X T ES (some a) (dOS da):=⟨jgV (po_some h.h) fun σ H Q ae=>jC ae fun W ρ M k hh hs p=>⟨W,ρ,M,k,hh,hs,yg.bind p fun W1 M1 x v H1 l1 h1 r1 p1=>by
 split at p1
 ·rename_i i;exact⟨i,r1,p1 W1 H1 _ (.refl W1) h1 rfl⟩
 ·exact p1.elim⟩⟩
def Yl (xs:List PV)(lo hi:Option Int):List PV:=(xs.drop (HT.sIx xs.length 0 lo)).take (HT.sIx xs.length xs.length hi-HT.sIx xs.length 0 lo)
theorem jeA {W:Wd}{xs:List PV}{vs:List V}(r:yc W xs vs)(lo hi:Option Int):yc W (Yl xs lo hi) (jbG vs lo hi):=by
 unfold Yl jbG;rw[r.length];exact(r.drop _).take _
def gSl (M:Sto)(x:PV)(lo hi:Option Int):Option PV:=match x with
 | .tup xs=>if ¬(HT.sIx xs.length 0 lo=0∧HT.sIx xs.length xs.length hi=xs.length)then some (.tup (Yl xs lo hi))else some (.tup xs)
 | x=>(yz M x).map fun xs=>.lst (Yl xs lo hi)
def dSl (d:DE)(dl dh:En->Sto->Res (Option Int)):DE:=fun ρ M=>(d ρ M).bind fun x M1=>(dl ρ M1).bind fun lo M2=>(dh ρ M2).bind fun hi M3=>ofO (gSl M3 x lo hi) M3
theorem ud (hT:T.K=X.K){lo hi:Option Expr}{p2:Pos}{dl dh:En->Sto->Res (Option Int)}(he:QE X T ES a da)(hl:QO X T ES lo dl)(hu:QO X T ES hi dh):QE X T ES (.Subscript a (.Slice lo hi none p2) pos) (dSl da dl dh) :=
 ⟨jN (jhc (SlR.or (SlR.or jiX sl_tup) jiW) he.h hl.h hu.h) fun σ H Q ae=>jC ae fun W ρ M k hh hs p=>⟨W,ρ,M,k,hh,hs,yg.bind p fun W1 M1 x v H1 l1 h1 r1 p1 =>
  ⟨W1,ρ,M1,l1.k.trans k,h1,hs.up l1,yg.bind p1 fun W2 M2 lo' l' H2 l2 h2 r2 p2=>⟨W2,ρ,M2,l2.k.trans (l1.k.trans k),h2,hs.up (l1.trans l2),yg.bind p2 fun W3 M3 cq u' H3 l3 h3 r3 p3=>by
   subst r2;subst r3;have r1:=(r1.up l2).up l3;have k3:W3.T=T:=l3.k.trans (l2.k.trans (l1.k.trans k))
   have lists:∀ e:Option (List PV),yz M3 x=e->yg W3 Rep (ofO (e.map fun xs=>PV.lst (Yl xs l' u')) M3) Q (ES σ)->rSlL X.K v l' u' H3 Q:=fun e he q=>by
    cases e with
    | none=>exact q.elim
    | some xs =>
     obtain⟨a,vs,rfl,ha,rv⟩:=xg h3 r1 he;refine⟨a,vs,rfl,SqL.of ha,fun p hp=>?_⟩;obtain⟨W4,l4,h4,r4⟩:=vI h3 (jeA rv l' u') hp;exact q W4 _ _ l4 h4 r4
   cases x with
   | tup xs =>
    have p3:yg W3 Rep (ofO (if ¬(HT.sIx xs.length 0 l'=0∧HT.sIx xs.length xs.length u'=xs.length)then some (PV.tup (Yl xs l' u'))else some (.tup xs)) M3) Q (ES σ):=p3
    by_cases hz:¬(HT.sIx xs.length 0 l'=0∧HT.sIx xs.length xs.length u'=xs.length)
    ·rw[if_pos hz]at p3;obtain⟨a,vs,rfl,ha,rv⟩:=xY h3 r1;rw[k3,hT]at ha;refine .inl (.inr ⟨a,vs,rfl,ha,by rw[rv.length];exact hz,fun p hp=>?_⟩);obtain⟨W4,l4,h4,r4⟩:=uE h3 (jeA rv l' u') hp;exact p3 W4 _ _ l4 h4 r4
    ·rw[if_neg hz]at p3;have r0:=r1;obtain⟨a,vs,rfl,ha,rv⟩:=xY h3 r1;rw[k3,hT]at ha;exact .inr ⟨a,vs,rfl,ha,by rw[rv.length];exact Classical.not_not.mp hz,p3 W3 H3 _ (.refl W3) h3 r0⟩
   | lst xs=>exact .inl (.inl (lists _ rfl p3))
   | ref i=>exact .inl (.inl (lists _ rfl p3))
   | _=>exact p3.elim⟩⟩⟩⟩
def gNeg (_:Sto):PV->Option PV
 | .int i=>some (.int (-i))
 | _=>none
def dUn (g:Sto->PV->Option PV)(d:DE):DE:=fun ρ M=>(d ρ M).bind fun x M1=>ofO (g M1 x) M1
theorem qe_neg (ha:QE X T ES a da):QE X T ES (.UnaryOp .USub a pos) (dUn gNeg da):=⟨jN (pe_un un_neg ha.h) fun σ H Q ae=>jC ae fun W ρ M k hh hs p=>⟨W,ρ,M,k,hh,hs,yg.bind p fun W1 M1 x v H1 l1 h1 r1 p1=>by
 cases x with
 | int i=>exact⟨i,r1,p1 W1 H1 _ (.refl W1) h1 rfl⟩
 | _=>exact p1.elim⟩⟩
end
open Classical in
noncomputable def eqW (W:Wd) (y:PV) (ys:List PV) (u:Value):Bool:=decide (∃ z∈ys,∃ v,Rep W z v∧yi v u∧eqB z y=true)
section
variable {X:Cx}{T:Tb}{aa:List (Addr×Obj)}{σ:St}{H:Hp}{s:Shared}{W:Wd}{M:Sto}
theorem uR:∀{xs:List PV}{x:PV},yt xs=true->x∈xs->plain x=true:=fun{xs x} h hm=>by
 obtain⟨j,e⟩:=List.mem_iff_getElem?.mp hm;exact vF h e
open Classical in
theorem jic (I:Inv X aa σ H s)(hh:Held W M H)(hT:W.T.K=X.K){y:PV}{ys:List PV}{z:PV}{v:V}{u:Value}(hz:z∈ys)(p:yt ys=true)(r:Rep W z v)(q:yi v u):eqW W y ys u=eqB z y:=by
 unfold eqW
 cases e:eqB z y with
 | true=>exact decide_eq_true ⟨z,hz,v,r,q,e⟩
 | false =>
  refine decide_eq_false fun ae=>?_;obtain⟨z',hz',v',r',q',e'⟩:=ae;cases q'.inj q
  have:=jdf I hh hT (uR p hz') (uR p hz) r' r
  subst this;rw[e]at e';cases e'
theorem jeL (I:Inv X aa σ H s)(hh:Held W M H)(hT:W.T.K=X.K){y:PV}{ys:List PV}(p:yt ys=true):∀{zs:List PV}{vs:List V}{us:List Value},(∀ z∈zs,z∈ys)->yc W zs vs->yf vs us->us.any (eqW W y ys)=zs.any fun z=>eqB z y
 | [],_,_,_,r,q=>by cases r;cases q;rfl
 | z::zs,_,_,hm,⟨v,r,e,a,b⟩,q=>by
  subst e
  cases q with
  | cons q1 q2 =>
   rw[any_cons,any_cons,jic I hh hT (hm z mem_cons_self) p a q1,jeL I hh hT p (fun w hw=>hm w (mem_cons_of_mem _ hw)) b q2]
theorem in_ok (hT:T.K=X.K)(hu:X.A.units+100<cLine)(I:Inv X aa σ H s)(hh:Held W M H)(k:W.T=T){x y:PV}{v u:V}{v' u':Value}{ys:List PV}(rx:Rep W x v)(ry:Rep W y u)(qx:yi v v')(qy:yi u u')(e:JL M y=some ys)(px:plain (look M x)=true)
  (py:yt ys=true) (pd:∀ z∈ys,dep z<=60) {Q:Value->Shared->Prop}{E:Value->Shared->Prop}:(Q (.bool (ys.any fun z=>eqB z (look M x))) s->wpAny (model X.prog X.w) X.A (compareOp .In v' u') Q E s) ∧
   (Q (.bool (!(ys.any fun z=>eqB z (look M x)))) s->wpAny (model X.prog X.w) X.A (compareOp .NotIn v' u') Q E s):=by
 have kk:(W.all H).T.K=X.K:=by
  show W.T.K=X.K;rw[k];exact hT
 obtain⟨a,vs,rfl,hq,rr⟩:=jap hh ry e;cases qy;rw[k,hT]at hq;have rr:=rr.up0 hh.le_all;have rx:=ug hh rx
 have tests:∀{its:List Value},yf vs its->(∀ w,w∈its.toArray->SeqAt.EqAt X.A.in1 s w v' (eqW (W.all H) (look M x) ys w))∧its.toArray.any (eqW (W.all H) (look M x) ys)=ys.any fun z=>eqB z (look M x):=fun{its} rv=>by
  refine⟨fun w hw=>?_,?_⟩
  ·obtain⟨j,ej⟩:=List.mem_iff_getElem?.mp (show w∈its by simpa using hw);obtain⟨v2,e1,r1⟩:=Jc rv ej;obtain⟨z,e2,r2⟩:=Jk rr e1;have hz:=mem_of_getElem? e2;rw[jic I hh.all kk hz py r2 r1]
   have:=pd z hz
   exact XQ I hh.all kk (dep z+1) z (look M x) X.A.in1 (lt_succ_self _) (show X.A.units+1+dep z<cLine by omega) (uR py hz) px r2 rx r1 qx
  ·rw[List.any_toArray];exact jeL I hh.all kk py (fun _ z=>z) rr rv
 rcases hq with hq | hq
 ·obtain⟨its,rv,pl,hz⟩:=I.list hq;obtain⟨t1,t2⟩:=tests rv;exact⟨fun q=>SeqAt.in_listAt _ pl.isList t1 (by rw[t2];exact q),fun q=>SeqAt.notIn_listAt _ pl.isList t1 (by rw[t2];exact q)⟩
 ·obtain⟨its,rv,pl,hz⟩:=I.tuple hq;obtain⟨t1,t2⟩:=tests rv;exact⟨fun q=>SeqAt.in_tupleAt _ pl t1 (by rw[t2];exact q),fun q=>SeqAt.notIn_tupleAt _ pl t1 (by rw[t2];exact q)⟩
def Yi:List PV->Bool
 | []=>true
 | z::zs=>decide (dep z<=60) && Yi zs
theorem uV:∀{zs:List PV}{z:PV},Yi zs=true->z∈zs->dep z<=60
 | [],_,_,h=>by cases h
 | w::ws,z,e,h=>by
  unfold Yi at e;have e:=Bool.and_eq_true_iff.mp e
  rcases List.mem_cons.mp h with rfl | h
  ·exact of_decide_eq_true e.1
  ·exact uV e.2 h
def gIn (neg:Bool):G2:=fun M x y=>match JL M y with
 | some ys=>if plain (look M x)=true∧yt ys=true∧Yi ys=true then some (.bl (if neg then !(ys.any fun z=>eqB z (look M x))else ys.any fun z=>eqB z (look M x)))else none
 | none=>none
theorem o_in (hT:T.K=X.K)(hu:X.A.units+100<cLine):OpP X T (compareOp .In) (gIn false):=by
 intro aa s σ H v u v' u' Q I rv ru h;obtain⟨W,M,x,y,w,k,hh,rx,ry,e,q⟩:=h;unfold gIn at e;split at e
 ·rename_i ys e1;split at e
  ·rename_i hp;cases e;exact(in_ok hT hu I hh k rx ry rv ru e1 hp.1 hp.2.1 (fun z hz=>uV hp.2.2 hz)).1 ⟨.bl _,H,I,rfl,q W H _ (.refl W) hh rfl⟩
  ·cases e
 ·cases e
theorem Jq (hT:T.K=X.K)(hu:X.A.units+100<cLine):OpP X T (compareOp .NotIn) (gIn true):=by
 intro aa s σ H v u v' u' Q I rv ru h;obtain⟨W,M,x,y,w,k,hh,rx,ry,e,q⟩:=h;unfold gIn at e;split at e
 ·rename_i ys e1;split at e
  ·rename_i hp;cases e;exact(in_ok hT hu I hh k rx ry rv ru e1 hp.1 hp.2.1 (fun z hz=>uV hp.2.2 hz)).2 ⟨.bl _,H,I,rfl,q W H _ (.refl W) hh rfl⟩
  ·cases e
 ·cases e
end
abbrev G1:=Sto->List PV->Option (PV×Sto)
def rC (T:Tb)(g:G1):List V->Hp->VK->Prop:=fun vs H Q=>∃ W M xs z M',W.T=T∧Held W M H∧yc W xs vs∧g M xs=some (z,M')∧∀ W' H' v',W.le W'->Held W' M' H'->Rep W' z v'->Q v' H'
def dCB (g:G1)(ds:DA):DE:=fun ρ M=>(ds ρ M).bind fun xs M1=>match g M1 xs with
 | some (z,M2)=>.ok z M2
 | none=>.bad
def orC (g g':G1):G1:=fun M xs=>match g M xs with
 | some z=>some z
 | none=>g' M xs
section
variable {X:Cx}{T:Tb}{ES:St->XK}{e:Expr}{es:List Expr}{p pos:Pos}{ds:DA}{g:G1}{x:Str}{iE:String}
theorem VV {f:Value}{r r':List V->Hp->VK->Prop}(h:yM X f r)(k:∀ xs H Q,r' xs H Q->r xs H Q):yM X f r':=fun aa s σ H xs us Q I rs q=>h aa s σ H xs us Q I rs (k _ _ _ q)
theorem jeF {σ:St}{H:Hp}{Q:VK}(h:lft T Rep ES (dCB g ds) σ H Q):tCB (rC T g) (lft T yc ES ds) σ H Q:=by
 obtain⟨W,ρ,M,k,hh,hs,p⟩:=h;refine⟨W,ρ,M,k,hh,hs,yg.bind p fun W1 M1 xs vs H1 l1 h1 r1 p1=>?_⟩;split at p1
 ·rename_i z M2 e;exact⟨W1,M1,xs,z,M2,l1.k.trans k,h1,r1,e,p1⟩
 ·exact p1.elim
theorem jj (hc:yM X (.builtin iE) (rC T g))(hg:Gl X x)(hm:X.mg x=none)(hv:bootBuiltins x=some (.builtin iE))(ha:QA X T ES (e::es) ds)(hn:x≠"__name__":=by decide)(dE:(x==("__debug__":Str))=false:=by decide)
  (he:starEach (e::es) X.env=(false,eval e X.env)::starEach es X.env:=by rfl) (aX:(backTo pos (starEach es X.env)).any (·.1)=false:=by rfl):QE X T ES (.Call (.Name x p) (e::es) [] pos) (dCB g ds):=⟨jN (Xr hc hg hm hv ha.h hn dE he aX) fun _ _ _=>jeF⟩
theorem Vz (hc:yM X (.type iE) (rC T g))(hg:Gl X x)(hm:X.mg x=none)(hv:bootBuiltins x=some (.type iE))(ha:QA X T ES (e::es) ds)(hn:x≠"__name__":=by decide)(dE:(x==("__debug__":Str))=false:=by decide)
  (he:starEach (e::es) X.env=(false,eval e X.env)::starEach es X.env:=by rfl) (aX:(backTo pos (starEach es X.env)).any (·.1)=false:=by rfl):QE X T ES (.Call (.Name x p) (e::es) [] pos) (dCB g ds):=⟨jN (VA hc hg hm hv ha.h hn dE he aX) fun _ _ _=>jeF⟩
theorem vH {W:Wd}{x:PV}{vs:List V}(r:yc W [x] vs):∃ v,vs=[v]∧Rep W x v:=by
 obtain⟨v,r,e,a,b⟩:=r;cases b;exact⟨v,e,a⟩
theorem uB {W:Wd}{x y:PV}{vs:List V}(r:yc W [x,y] vs):∃ v u,vs=[v,u]∧Rep W x v∧Rep W y u:=by
 obtain⟨v,r,e,a,b⟩:=r;obtain⟨u,rfl,q⟩:=vH b;exact⟨v,u,e,a,q⟩
def one (f:Sto->PV->Option PV):G1:=fun M xs=>match xs with
 | [x]=>(match f M x with
  | some z=>some (z,M)
  | none=>none)
 | _=>none
theorem uG {f:Value}{fn:Sto->PV->Option PV}{r:List V->Hp->VK->Prop}(h:yM X f r)
  (k:∀ W M H x v z Q,W.T=T->Held W M H->Rep W x v->fn M x=some z->(∀ W' H' v',W.le W'->Held W' M H'->Rep W' z v'->Q v' H')->r [v] H Q):yM X f (rC T (one fn)) :=
 VV h fun vs H Q ae=>by
  obtain⟨W,M,xs,z,M',kk,hh,rx,e,q⟩:=ae;unfold one at e;split at e
  ·rename_i x;split at e
   ·rename_i z' e';cases e;obtain⟨v,rfl,rv⟩:=vH rx;exact k W M H x v z Q kk hh rv e' q
   ·cases e
  ·cases e
def uq (M:Sto)(x:PV):Option PV:=match JL M x with
 | some xs=>some (.int xs.length)
 | none=>none
theorem JJ (hT:T.K=X.K):yM X (.builtin "len") (rC T (one uq)):=uG jae fun W M H x v z Q k hh r e q=>by
 unfold uq at e;split at e
 ·rename_i xs e1;cases e;obtain⟨a,vs,rfl,hq,rr⟩:=jap hh r e1;rw[k,hT]at hq;exact⟨a,vs,rfl,hq,q W H _ (.refl W) hh (by rw[rr.length];rfl)⟩
 ·cases e
def vm:List PV->Option (List Int)
 | []=>some []
 | .int i::xs=>(vm xs).map fun ns=>i::ns
 | _::_=>none
theorem xq:∀{xs:List PV}{ns:List Int},vm xs=some ns->xs=ns.map PV.int
 | [],ns,e=>by cases e;rfl
 | .int i::xs,ns,e=>by
  have e:(vm xs).map (fun ns=>i::ns)=some ns:=e
  cases h:vm xs with
  | none=>rw[h]at e;cases e
  | some ms =>
   rw[h]at e;cases e;rw[xq h];rfl
 | .non::_,_,e=>by cases e
 | .bl _::_,_,e=>by cases e
 | .str _::_,_,e=>by cases e
 | .ty _::_,_,e=>by cases e
 | .tup _::_,_,e=>by cases e
 | .lst _::_,_,e=>by cases e
 | .scr _::_,_,e=>by cases e
 | .top _::_,_,e=>by cases e
 | .exn _::_,_,e=>by cases e
 | .dct _::_,_,e=>by cases e
 | .dod _ _::_,_,e=>by cases e
 | .ref _::_,_,e=>by cases e
@[simp] theorem VH : ∀(ns : List Int), vm (ns.map PV.int)=some ns
 | []=>rfl
 | n::ns=>by
  show(vm (ns.map PV.int)).map (fun ms=>n::ms)=_;rw[VH ns];rfl
def uX:List PV->Option (List Bool)
 | []=>some []
 | .bl i::xs=>(uX xs).map fun ns=>i::ns
 | _::_=>none
theorem VW:∀{xs:List PV}{ns:List Bool},uX xs=some ns->xs=ns.map PV.bl
 | [],ns,e=>by cases e;rfl
 | .bl i::xs,ns,e=>by
  have e:(uX xs).map (fun ns=>i::ns)=some ns:=e
  cases h:uX xs with
  | none=>rw[h]at e;cases e
  | some ms =>
   rw[h]at e;cases e;rw[VW h];rfl
 | .non::_,_,e=>by cases e
 | .int _::_,_,e=>by cases e
 | .str _::_,_,e=>by cases e
 | .ty _::_,_,e=>by cases e
 | .tup _::_,_,e=>by cases e
 | .lst _::_,_,e=>by cases e
 | .scr _::_,_,e=>by cases e
 | .top _::_,_,e=>by cases e
 | .exn _::_,_,e=>by cases e
 | .dct _::_,_,e=>by cases e
 | .dod _ _::_,_,e=>by cases e
 | .ref _::_,_,e=>by cases e
@[simp] theorem vN : ∀(ns : List Bool), uX (ns.map PV.bl)=some ns
 | []=>rfl
 | n::ns=>by
  show(uX (ns.map PV.bl)).map (fun ms=>n::ms)=_;rw[vN ns];rfl
def UJ (M:Sto)(x:PV):Option (List Int):=(yz M x).bind vm
theorem iseq_at {W:Wd}{M:Sto}{H:Hp}{x:PV}{v:V}{ns:List Int}(hh:Held W M H)(r:Rep W x v)(e:UJ M x=some ns):∃ a,v = .ref a∧H a=some (.lst (ns.map V.int)):=by
 unfold UJ at e
 cases h:yz M x with
 | none=>rw[h]at e;cases e
 | some xs =>
  rw[h]at e;obtain⟨a,vs,rfl,ha,rr⟩:=xg hh r h;rw[xq e]at rr;rw[yc.ints.mp rr]at ha;exact⟨a,rfl,ha⟩
def insI (n:Int):List Int->List Int
 | []=>[n]
 | m::ms=>if n<=m then n::m::ms else m::insI n ms
def jgq:List Int->List Int
 | []=>[]
 | n::ns=>insI n (jgq ns)
theorem VI (n:Int):∀ ms:List Int,(insI n ms).Perm (n::ms)
 | []=>.refl _
 | m::ms=>by
  unfold insI;split
  ·exact .refl _
  ·exact((VI n ms).cons m).trans (List.Perm.swap n m ms)
theorem jch:∀ ns:List Int,(jgq ns).Perm ns
 | []=>.refl _
 | n::ns=>(VI n _).trans ((jch ns).cons n)
def fSorted (M:Sto)(x:PV):Option PV:=match UJ M x with
 | some ns=>if ns.length<64 then some (.lst ((jgq ns).map PV.int))else none
 | none=>none
def minI:List Int->Int
 | []=>0
 | [n]=>n
 | n::ns=>if n<=minI ns then n else minI ns
def maxI:List Int->Int
 | []=>0
 | [n]=>n
 | n::ns=>if maxI ns<=n then n else maxI ns
def fMin (M:Sto)(x:PV):Option PV:=match UJ M x with
 | some (n::ns)=>some (.int (minI (n::ns)))
 | _=>none
def fMax (M:Sto)(x:PV):Option PV:=match UJ M x with
 | some (n::ns)=>some (.int (maxI (n::ns)))
 | _=>none
def jfQ (M:Sto)(x:PV):Option (List Bool):=(yz M x).bind uX
theorem bseq_at {W:Wd}{M:Sto}{H:Hp}{x:PV}{v:V}{ns:List Bool}(hh:Held W M H)(r:Rep W x v)(e:jfQ M x=some ns):∃ a,v = .ref a∧H a=some (.lst (ns.map V.bl)):=by
 unfold jfQ at e
 cases h:yz M x with
 | none=>rw[h]at e;cases e
 | some xs =>
  rw[h]at e;obtain⟨a,vs,rfl,ha,rr⟩:=xg hh r h;rw[VW e]at rr;rw[yc.bools.mp rr]at ha;exact⟨a,rfl,ha⟩
def YG (M:Sto)(x:PV):Option PV:=match jfQ M x with
 | some ns=>some (.bl (ns.all id))
 | none=>none
theorem jeI (hc:X.calm=true):yM X (.builtin "all") (rC T (one YG)):=uG (jfP hc) fun W M H x v z Q k hh r e q=>by
 unfold YG at e;split at e
 ·rename_i ns e1;cases e;obtain⟨a,rfl,ha⟩:=bseq_at hh r e1;exact⟨a,ns,rfl,SqL.of ha,q W H _ (.refl W) hh rfl⟩
 ·cases e
def two (f:Int->Int->PV):G1:=fun M xs=>match xs with
 | [.int i,.int j]=>some (f i j,M)
 | _=>none
def gMin:G1:=orC (one fMin) (two fun i j=>.int (if j<i then j else i))
def gMax:G1:=orC (one fMax) (two fun i j=>.int (if j > i then j else i))
def jbs (M:Sto)(x:PV):Option PV:=match JL M x with
 | some xs=>some (.lst xs)
 | none=>none
theorem b_list (hT:T.K=X.K):yM X (.type "list") (rC T (one jbs)):=uG JI fun W M H x v z Q k hh r e q=>by
 unfold jbs at e;split at e
 ·rename_i xs e1;cases e;obtain⟨a,vs,rfl,hq,rr⟩:=jap hh r e1;rw[k,hT]at hq;refine⟨a,vs,rfl,hq,fun l hl=>?_⟩;obtain⟨W2,l2,h2,r2⟩:=vI hh rr hl;exact q W2 _ _ l2 h2 r2
 ·cases e
def Ys (M:Sto):PV->Option String
 | .non=>some "NoneType"
 | .bl _=>some "bool"
 | .int _=>some "int"
 | .str _=>some "str"
 | .tup _=>some "tuple"
 | .lst _=>some "list"
 | .dct _=>some "dict"
 | .dod _ _=>some "dict"
 | .ref i=>(match M.g i with
  | some (.lst _)=>some "list"
  | _=>none)
 | _=>none
theorem VF {M:Sto}{x:PV}{n:String}(e:Ys M x=some n):n∈yW:=by
 cases x with
 | ref i =>
  have e:(match M.g i with
   | some (.lst _)=>some "list"
   | _=>none)=some n:=e
  split at e
  ·cases e;decide
  ·cases e
 | non=>cases e;decide
 | bl _=>cases e;decide
 | int _=>cases e;decide
 | str _=>cases e;decide
 | tup _=>cases e;decide
 | lst _=>cases e;decide
 | dct _=>cases e;decide
 | dod _ _=>cases e;decide
 | _=>cases e
theorem jek {aa:List (Addr×Obj)}{σ:St}{H:Hp}{s:Shared}{W:Wd}{M:Sto}(I:Inv X aa σ H s)(hh:Held W M H)(hT:W.T.K=X.K){x:PV}{n:String}{v:V}{u:Value}(e:Ys M x=some n)(r:Rep W x v)(q:yi v u) :
  ∃ P,KitX X.K u (.type n) P∧P s.heap∧u≠.builtin "__main__.__loader__#opaque":=by
 have lists:∀ a vs,H a=some (.lst vs)->∃ P,KitX X.K (.ref a) (.type "list") P∧P s.heap∧Value.ref a≠.builtin "__main__.__loader__#opaque":=fun a vs ea=>by
  obtain⟨_,_,_,_,h1⟩:=(show yk X.prog X.w H s.heap a (.lst vs)from I.hok a _ ea)
  exact⟨_,PySem.W.kitx_list,⟨_,h1,rfl⟩,fun z=>nomatch z⟩
 cases x with
 | ref i =>
  have e:(match M.g i with
   | some (.lst _)=>some "list"
   | _=>none)=some n:=e
  split at e
  ·rename_i xs e1;cases e
   obtain⟨a,vs,rfl,ha,_⟩:=xg (xs:=xs) hh r (by
    show(match M.g i with
     | some (.lst xs)=>some xs
     | _=>none)=some xs
    rw[e1])
   cases q;exact lists a vs ha
  ·cases e
 | non=>cases e;cases r;cases q;exact⟨_,PySem.W.kitx_none,True.intro,fun z=>nomatch z⟩
 | bl _=>cases e;cases r;cases q;exact⟨_,PySem.W.kitx_bool,True.intro,fun z=>nomatch z⟩
 | int _=>cases e;cases r;obtain⟨t,rfl⟩:=q;exact⟨_,PySem.W.kitx_int,True.intro,fun z=>nomatch z⟩
 | str _=>cases e;cases r;obtain⟨t,rfl⟩:=q;exact⟨_,PySem.W.kitx_str,True.intro,fun z=>nomatch z⟩
 | tup _ =>
  cases e;obtain⟨a,vs,rfl,ha,_⟩:=xY hh r;cases q;rw[hT]at ha;obtain⟨its,_,p,_⟩:=I.tuple ha;obtain⟨o,h1,h2,_⟩:=p;exact⟨_,PySem.W.kitx_tuple,⟨o,h1,h2⟩,fun z=>nomatch z⟩
 | lst _ =>
  cases e;obtain⟨a,vs,rfl,ha,_⟩:=r;cases q;exact lists a vs (hh.f _ _ ha)
 | dod _ _ =>
  cases e;obtain⟨a,o,kv,vv,rfl,ha,_⟩:=r;cases q;obtain⟨e1,hx,_⟩:=I.odd (hh.f _ _ ha);exact⟨_,kitx_dict,⟨o,e1,hx.1⟩,fun z=>nomatch z⟩
 | dct _ =>
  cases e;obtain⟨a,o,rfl,ha⟩:=r;cases q;exact⟨_,kitx_dict,(jcJ I (.inr ⟨_,.inr ⟨o,hh.f _ _ ha⟩⟩)).1,fun z=>nomatch z⟩
 | _=>cases e
def jgb:List PV->Option (List String)
 | []=>some []
 | .ty n::r=>if n∈yW then(jgb r).map fun ns=>n::ns else none
 | _::_=>none
theorem jat {W:Wd}:∀{xs:List PV}{ns:List String}{vs:List V}{us:List Value},jgb xs=some ns->yc W xs vs->yf vs us->us=ns.map Value.type∧∀ n∈ns,n∈yW
 | [],_,_,_,e,r,q=>by cases e;cases r;cases q;exact⟨rfl,by simp⟩
 | .ty n::xs,ns,_,_,e,⟨v,r,e1,a,b⟩,q=>by
  subst e1;have e:(if n∈yW then(jgb xs).map (fun ns=>n::ns)else none)=some ns:=e;split at e
  ·rename_i hn
   cases h:jgb xs with
   | none=>rw[h]at e;cases e
   | some ms =>
    rw[h]at e;cases e
    cases q with
    | cons q1 q2 =>
     obtain⟨h1,h2⟩:=jat h b q2;have a:v = .ty n:=a;subst a;cases q1;rw[h1];refine⟨rfl,fun m hm=>?_⟩
     rcases List.mem_cons.mp hm with rfl | hm
     ·exact hn
     ·exact h2 m hm
  ·cases e
 | .non::_,_,_,_,e,_,_=>by cases e
 | .bl _::_,_,_,_,e,_,_=>by cases e
 | .int _::_,_,_,_,e,_,_=>by cases e
 | .str _::_,_,_,_,e,_,_=>by cases e
 | .tup _::_,_,_,_,e,_,_=>by cases e
 | .lst _::_,_,_,_,e,_,_=>by cases e
 | .scr _::_,_,_,_,e,_,_=>by cases e
 | .top _::_,_,_,_,e,_,_=>by cases e
 | .exn _::_,_,_,_,e,_,_=>by cases e
 | .dct _::_,_,_,_,e,_,_=>by cases e
 | .dod _ _::_,_,_,_,e,_,_=>by cases e
 | .ref _::_,_,_,_,e,_,_=>by cases e
theorem Xz (K:Frag){n:String}(hn:n∈yW):∀{ns:List String},(∀ m∈ns,m∈yW)->kitAny K (.type n) (ns.map Value.type)=some (ns.any fun m=>sub n m)
 | [],_=>rfl
 | m::ms,h=>by
  show(match kitOne K (.type n) (.type m)with
   | some true=>some true
   | some false=>kitAny K (.type n) (ms.map Value.type)
   | none=>none)=_
  rw[jel K hn (h m mem_cons_self),any_cons]
  cases sub n m with
  | true=>rfl
  | false=>exact Xz K hn fun m' hm=>h m' (mem_cons_of_mem _ hm)
def YF:G1:=fun M xs=>match xs with
 | [x,.ty m]=>(match Ys M x with
  | some n=>if m∈yW then some (.bl (sub n m),M)else none
  | none=>none)
 | [x,.tup ts]=>(match Ys M x,jgb ts with
  | some n,some ns=>some (.bl (ns.any fun m=>sub n m),M)
  | _,_=>none)
 | _=>none
theorem XY (hT:T.K=X.K):yM X (.builtin "isinstance") (rC T YF):=by
 intro aa s σ H vs us Q I rv h;obtain⟨W,M,xs,z,M',k,hh,rx,e,q⟩:=h
 have kk:W.T.K=X.K:=by rw[k];exact hT
 unfold YF at e;split at e
 ·rename_i x m;split at e
  ·rename_i n e1;split at e
   ·rename_i hm;cases e;obtain⟨v,u,rfl,r1,r2⟩:=uB rx;obtain⟨v',u',rfl,q1,q2⟩:=jga rv;have r2:u = .ty m:=r2;subst r2;cases q2;obtain⟨P,Z,hP,aY⟩:=jek I hh kk e1 r1 q1
    exact PySem.W.kia_one Z I.kIn hP (jel X.K (VF e1) hm) aY fun tk=>⟨.bl _,H,I.tok _,rfl,q W H _ (.refl W) hh rfl⟩
   ·cases e
  ·cases e
 ·rename_i x ts;split at e
  ·rename_i n ns e1 e2;cases e;obtain⟨v,u,rfl,r1,r2⟩:=uB rx;obtain⟨v',u',rfl,q1,q2⟩:=jga rv;obtain⟨a,ws,rfl,ha,rr⟩:=xY hh r2;cases q2;rw[kk]at ha;obtain⟨its,rs,p,_⟩:=I.tuple ha;obtain⟨⟨cl,dd,dt,sl⟩,h1,h2,nn,h3⟩:=p;simp only at h2 h3;subst h2;subst h3;obtain⟨e3,hk⟩:=jat e2 rr rs;obtain⟨P,Z,hP,aY⟩:=jek I hh kk e1 r1 q1
   exact PySem.W.kia_tup Z I.kIn hP h1 (by rw[e3];exact Xz X.K (VF e1) hk) aY fun tk=>⟨.bl _,H,I.tok _,rfl,q W H _ (.refl W) hh rfl⟩
  ·cases e
 ·cases e
end
inductive ItP where
 | fix (xs:List PV) | live (i:Nat) | gen (f:Sto->Option (List PV))
def nxt (p:ItP)(M:Sto)(i:Nat):Option (Option PV):=match p with
 | .fix xs=>some (xs[i]?)
 | .live j=>(yz M (.ref j)).map fun xs=>xs[i]?
 | .gen f=>(f M).map fun xs=>xs[i]?
theorem vi {j i:Nat}{M:Sto}{xs:List PV}(e:yz M (.ref j)=some xs):nxt (.live j) M i=some (xs[i]?):=by
 unfold nxt;simp only[e];rfl
theorem xk {j i:Nat}{M:Sto}(e:yz M (.ref j)=none):nxt (.live j) M i=none:=by
 unfold nxt;simp only[e];rfl
def RI (W:Wd)(p:ItP)(J:It):Prop:=∀ W' M' H',W.le0 W'->Held W' M' H'->∀ i,(∀ x,nxt p M' i=some (some x)->J.go i H'∧∀ v c7,J.yld i H' v c7->∃ fW,W'.le fW∧Held fW M' c7∧Rep fW x v)∧(nxt p M' i=some none->J.stop i H')
structure QI (X:Cx)(T:Tb)(ES:St->XK)(tg iter:Expr)(d:En->Sto->Res ItP):Prop where
 h:PI X tg iter (lft T RI ES d)
section
variable {X:Cx}{T:Tb}{ES:St->XK}{a b e tg iter:Expr}{p pos:Pos}{d:DE}{ds:DA}
theorem uS {t t':TI}(h:PI X tg iter t)(f:∀ σ H R,t' σ H R->t σ H R):PI X tg iter t':=fun aa s σ H R I q=>h aa s σ H R I (f σ H R q)
def itOf (M:Sto):PV->Option ItP
 | .lst xs=>some (.fix xs)
 | .ref i=>(match M.g i with
  | some (.lst _)=>some (.live i)
  | _=>none)
 | _=>none
def dIt (d:DE):En->Sto->Res ItP:=fun ρ M=>(d ρ M).bind fun x M1=>ofO (itOf M1 x) M1
theorem YN {K:Frag}{W:Wd}{J:It}{x:ItP}{a:Addr}(hJ:J=Itl K a)(h:∀ W' M' H',W.le0 W'->Held W' M' H'->∀ ys,(∀ i,nxt x M' i=some (ys[i]?))->∃ vs,H' a=some (.lst vs)∧yc W' ys vs)(hn:∀ M,(∃ ys:List PV,∀ i,nxt x M i=some (ys[i]?))∨∀ i,nxt x M i=none):RI W x J:=by
 subst hJ;intro W' M' H' le hh i
 rcases hn M' with⟨ys,hy⟩ | hy
 ·obtain⟨vs,ha,rr⟩:=h W' M' H' le hh ys hy;refine⟨fun z e=>?_,fun e=>?_⟩
  ·rw[hy]at e
   cases e1:ys[i]? with
   | none=>rw[e1]at e;cases e
   | some z' =>
    rw[e1]at e;cases e;obtain⟨v,e2,r2⟩:=rr.get e1;refine⟨⟨vs,v,SqL.of ha,e2⟩,fun u c7 ae=>?_⟩;obtain⟨eH,q⟩:=ae;subst eH
    have:=q vs (SqL.of ha)
    rw[e2]at this;cases this;exact⟨W',.refl W',hh,r2⟩
  ·rw[hy]at e;have e:ys[i]? = none:=Option.some.inj e;exact⟨vs,SqL.of ha,by rw[rr.length];exact List.getElem?_eq_none_iff.mp e⟩
 ·refine⟨fun z e=>?_,fun e=>?_⟩
  ·rw[hy]at e;cases e
  ·rw[hy]at e;cases e
theorem yC (h:QE X T ES e d):QI X T ES tg e (dIt d):=⟨uS (pi_list h.h) fun σ H R ae=>jC ae fun W ρ M k hh hs q=>⟨W,ρ,M,k,hh,hs,yg.bind q fun W1 M1 x v H1 l1 h1 r1 p1=>by
 cases x with
 | lst xs =>
  obtain⟨a,vs,rfl,ha,rr⟩:=r1;refine⟨a,rfl,⟨vs,SqL.of (h1.f _ _ ha)⟩,p1 W1 H1 _ (.refl W1) h1 (YN rfl (fun W' M' H' le aO ys hy=>?_) fun M=>.inl ⟨xs,fun i=>rfl⟩)⟩
  have:ys=xs:=ext_getElem? (fun i=>(Option.some.inj (hy i)).symm)
  subst this;exact⟨vs,aO.f _ _ (le.f _ _ ha),rr.up0 le⟩
 | ref j =>
  have p1:yg W1 RI (ofO (match M1.g j with
   | some (.lst _)=>some (ItP.live j)
   | _=>none) M1) R (ES σ):=p1
  split at p1
  ·rename_i xs e1;obtain⟨a,rfl,ea⟩:=r1;obtain⟨b,o,h2,h3,h4,vs,rfl,rr⟩:=h1.m j _ e1;rw[ea]at h2;cases h2;refine⟨a,rfl,⟨vs,SqL.of h4⟩,p1 W1 H1 _ (.refl W1) h1 (YN rfl (fun W' M' H' le aO ys hy=>?_) fun M=>?_)⟩
   ·cases e2:yz M' (.ref j)with
    | none =>
     have:=hy 0
     rw[xk e2]at this;cases this
    | some zs =>
     have:ys=zs:=ext_getElem? (fun i=>by
      have:=hy i
      rw[vi e2]at this
      exact(Option.some.inj this).symm)
     subst this;obtain⟨a',cZ,e3,h5,r5⟩:=xg (v:=.ref a) aO (show Rep W' (.ref j) (.ref a)from⟨a,rfl,le.a _ _ ea⟩) e2;cases e3;exact⟨cZ,h5,r5⟩
   ·cases e2:yz M (.ref j)with
    | none=>exact .inr fun i=>xk e2
    | some zs=>exact .inl ⟨zs,fun i=>vi e2⟩
  ·exact p1.elim
 | _=>exact p1.elim⟩⟩
def dItT (d:DE):En->Sto->Res ItP:=fun ρ M=>(d ρ M).bind fun x M1=>match x with
 | .tup xs=>.ok (.fix xs) M1
 | _=>.bad
theorem qi_tup (hT:T.K=X.K)(h:QE X T ES e d):QI X T ES tg e (dItT d):=⟨uS (pi_tup h.h) fun σ H R ae=>jC ae fun W ρ M k hh hs q=>⟨W,ρ,M,k,hh,hs,yg.bind q fun W1 M1 x v H1 l1 h1 r1 p1=>by
 split at p1
 ·rename_i xs;obtain⟨a,vs,rfl,ha,rr⟩:=r1
  have kk:W1.T.K=X.K:=by rw[l1.k,k];exact hT
  have eW:SqT X.K H1 a vs:=kk ▸ Xa h1.f ha.toT;refine⟨a,rfl,⟨vs,eW⟩,p1 W1 H1 _ (.refl W1) h1 fun W' M' H' le aO i=>?_⟩;have hq:SqT X.K H' a vs:=kk ▸ Xa (fun b o q=>aO.f b o (le.f b o q)) ha.toT;refine⟨fun z e=>?_,fun e=>?_⟩
  ·have e:xs[i]? = some z:=Option.some.inj e;obtain⟨u,e2,r2⟩:=rr.get e;refine⟨⟨vs,u,hq,e2⟩,fun w c7 ae=>?_⟩;obtain⟨eH,q⟩:=ae;subst eH
   have:=q vs hq
   rw[e2]at this;cases this;exact⟨W',.refl W',aO,r2.up0 le⟩
  ·have e:xs[i]? = none:=Option.some.inj e;exact⟨vs,hq,by rw[rr.length];exact List.getElem?_eq_none_iff.mp e⟩
 ·exact p1.elim⟩⟩
def ve (lo:Int)(n:Nat):List PV:=(List.range n).map fun(i:Nat)=>PV.int (lo+i)
theorem Xf {lo:Int}{n i:Nat}:(ve lo n)[i]? = if i<n then some (PV.int (lo+i))else none:=by
 unfold ve;rw[getElem?_map]
 by_cases h:i<n
 ·rw[if_pos h,List.getElem?_range h];rfl
 ·rw[if_neg h,List.getElem?_eq_none_iff.mpr (by simpa using h)];rfl
theorem ri_rng {W:Wd}{lo:Int}{n:Nat}:RI W (.fix (ve lo n)) (Itr lo n):=by
 intro W' M' H' le hh i;refine⟨fun x e=>?_,fun e=>?_⟩
 ·have e:(ve lo n)[i]? = some x:=Option.some.inj e;rw[Xf]at e;split at e
  ·rename_i hi;cases e;refine⟨hi,fun v c7 ae=>?_⟩;obtain⟨eH,ev⟩:=ae;subst eH;subst ev;exact⟨W',.refl W',hh,rfl⟩
  ·cases e
 ·have e:(ve lo n)[i]? = none:=Option.some.inj e;rw[Xf]at e;split at e
  ·cases e
  ·rename_i hi;exact le_of_not_lt hi
def small (i:Int):Bool:=Nat.blt i.natAbs 4611686018427387904
theorem xH {i:Int}:small i=true↔-(2 ^ 62)<i∧i<2 ^ 62:=by
 unfold small;rw[Nat.blt_eq];omega
def vR (ds:DA):En->Sto->Res ItP:=fun ρ M=>(ds ρ M).bind fun xs M1=>match xs with
 | [.int j]=>if small j=true then .ok (.fix (ve 0 j.toNat)) M1 else .bad
 | _=>.bad
theorem uD (hg:Gl X "range")(hm:X.mg "range" = none)(ha:QA X T ES [a] ds)(hs:starEach [a] X.env=[(false,eval a X.env)]:=by rfl):QI X T ES tg (.Call (.Name "range" p) [a] [] pos) (vR ds) :=
 ⟨uS (jfh hg hm ha.h hs) fun σ H R ae=>jC ae fun W ρ M k hh hs q=>⟨W,ρ,M,k,hh,hs,yg.bind q fun W1 M1 xs vs H1 l1 h1 r1 p1=>by
  split at p1
  ·rename_i j;split at p1
   ·rename_i hj;obtain⟨v,rfl,r⟩:=vH r1;have r:v = .int j:=r;subst r;exact⟨j,rfl,Int.le_of_lt (xH.mp hj).1,(xH.mp hj).2,p1 W1 H1 _ (.refl W1) h1 ri_rng⟩
   ·exact p1.elim
  ·exact p1.elim⟩⟩
def xK:Nat->List PV->List PV
 | _,[]=>[]
 | n,x::xs=>.tup [.int n,x]::xK (n+1) xs
theorem vj:∀{xs:List PV}{n i:Nat},(xK n xs)[i]? = (xs[i]?).map fun x=>PV.tup [.int ((n+i:Nat):Int),x]
 | [],n,i=>by simp[xK]
 | x::xs,n,0=>by simp[xK]
 | x::xs,n,i+1=>by
  show(xK (n+1) xs)[i]? = _;rw[vj];rw[show n+1+i=n+(i+1) by omega];simp
def jey (ds:DA):En->Sto->Res ItP:=fun ρ M=>(ds ρ M).bind fun xs M1=>match xs with
 | [.lst ys]=>.ok (.fix (xK 0 ys)) M1
 | [.ref j]=>(match M1.g j with
  | some (.lst _)=>.ok (.gen fun M=>(yz M (.ref j)).map (xK 0)) M1
  | _=>.bad)
 | _=>.bad
theorem qi_enum {l:Expr}{bj:List Expr}{x1:Nat}{bU:Pos}(hg:Gl X "enumerate")(hm:X.mg "enumerate" = none)(ha:QA X T ES [l] ds)(hs:starEach [l] X.env=[(false,eval l X.env)]:=by rfl) :
  QI X T ES (.Tuple bj x1 bU) (.Call (.Name "enumerate" p) [l] [] pos) (jey ds) :=
 ⟨uS (pi_enum hg hm ha.h hs) fun σ H R ae=>jC ae fun W ρ M k hh hs q=>⟨W,ρ,M,k,hh,hs,yg.bind q fun W1 M1 xs vs H1 l1 h1 r1 p1=>by
  split at p1
  ·rename_i ys;obtain⟨v,rfl,r⟩:=vH r1;obtain⟨a,vs,rfl,ha,rr⟩:=r;refine⟨a,rfl,⟨vs,SqL.of (h1.f _ _ ha)⟩,p1 W1 H1 _ (.refl W1) h1 fun W' M' H' le aO i=>?_⟩;have hq:H' a=some (.lst vs):=aO.f _ _ (le.f _ _ ha);refine⟨fun z e=>?_,fun e=>?_⟩
   ·have e:(xK 0 ys)[i]? = some z:=Option.some.inj e;rw[vj]at e
    cases e1:ys[i]? with
    | none=>rw[e1]at e;cases e
    | some y =>
     rw[e1]at e;cases e;obtain⟨u,e2,r2⟩:=rr.get e1;refine⟨⟨vs,u,SqL.of hq,e2⟩,fun w c7 ae=>?_⟩;obtain⟨b,u',ew,hb,hu,eH⟩:=ae;subst ew;subst eH
     have:=hu vs (SqL.of hq)
     rw[e2]at this;cases this;obtain⟨W2,l2,h2,r3⟩:=uE (xs:=[.int ((0+i:Nat):Int),y]) aO (show yc W' _ [.int (i:Int),u]from⟨_,_,rfl,(by rw[zero_add];rfl),_,_,rfl,r2.up0 le,rfl⟩) hb;exact⟨W2,l2,h2,r3⟩
   ·have e:(xK 0 ys)[i]? = none:=Option.some.inj e;rw[vj]at e
    cases e1:ys[i]? with
    | none=>exact⟨vs,SqL.of hq,by rw[rr.length];exact List.getElem?_eq_none_iff.mp e1⟩
    | some y=>rw[e1]at e;cases e
  ·rename_i j;obtain⟨v,rfl,r⟩:=vH r1;obtain⟨a,rfl,ea⟩:=r;split at p1
   ·rename_i zs e1;obtain⟨b,o,h2,h3,h4,vs,rfl,rr⟩:=h1.m j _ e1;rw[ea]at h2;cases h2;refine⟨a,rfl,⟨vs,SqL.of h4⟩,p1 W1 H1 _ (.refl W1) h1 fun W' M' H' le aO i=>?_⟩;have en:nxt (.gen fun M=>(yz M (.ref j)).map (xK 0)) M' i=((yz M' (.ref j)).map (xK 0)).map fun xs=>xs[i]?:=rfl;rw[en]
    cases e2:yz M' (.ref j)with
    | none=>exact⟨fun z e=>(by cases e),fun e=>(by cases e)⟩
    | some ys =>
     obtain⟨a',cZ,e3,hq,bq⟩:=xg (v:=.ref a) aO (show Rep W' (.ref j) (.ref a)from⟨a,rfl,le.a _ _ ea⟩) e2;cases e3;refine⟨fun z e=>?_,fun e=>?_⟩
     ·have e:(xK 0 ys)[i]? = some z:=Option.some.inj e;rw[vj]at e
      cases e1:ys[i]? with
      | none=>rw[e1]at e;cases e
      | some y =>
       rw[e1]at e;cases e;obtain⟨u,e2,r2⟩:=bq.get e1;refine⟨⟨cZ,u,SqL.of hq,e2⟩,fun w c7 ae=>?_⟩;obtain⟨b,u',ew,hb,hu,eH⟩:=ae;subst ew;subst eH
       have:=hu cZ (SqL.of hq)
       rw[e2]at this;cases this;exact uE (xs:=[.int ((0+i:Nat):Int),y]) aO (show yc W' _ [.int (i:Int),u]from⟨_,_,rfl,(by rw[zero_add];rfl),_,_,rfl,r2,rfl⟩) hb
     ·have e:(xK 0 ys)[i]? = none:=Option.some.inj e;rw[vj]at e
      cases e1:ys[i]? with
      | none=>exact⟨cZ,SqL.of hq,by rw[bq.length];exact List.getElem?_eq_none_iff.mp e1⟩
      | some y=>rw[e1]at e;cases e
   ·exact p1.elim
  ·exact p1.elim⟩⟩
end
def Res.noX {α:Type}:Res α->Res α
 | .exc _ _=>.bad
 | r=>r
def vT (x:PV)(r:En):Option En:=some (some x::r)
def bnd2 (x:PV)(r:En):Option En:=match x with
 | .tup [a,b]=>some (some a::some b::r)
 | _=>none
def yD (p:ItP)(bnd:PV->En->Option En)(r:En)(dt:DT)(de:DE):Nat->Nat->Sto->Res (List PV)
 | 0,_,_=>.bad
 | n+1,i,M=>match nxt p M i with
  | none=>.bad
  | some none=>.ok [] M
  | some (some x)=>match bnd x r with
   | none=>.bad
   | some ρ=>(dt ρ M).noX.bind fun b M1=>if b=true then(de ρ M1).noX.bind fun y M2=>(yD p bnd r dt de n (i+1) M2).bind fun ys M3=>.ok (y::ys) M3 else yD p bnd r dt de n (i+1) M1
def uw (bnd:PV->En->Option En)(r:En)(dt:DT)(de:DE):List PV->Sto->Res (List PV)
 | [],M=>.ok [] M
 | x::xs,M=>match bnd x r with
  | none=>.bad
  | some ρ=>(dt ρ M).noX.bind fun b M1=>if b=true then(de ρ M1).noX.bind fun y M2=>(uw bnd r dt de xs M2).bind fun ys M3=>.ok (y::ys) M3 else uw bnd r dt de xs M1
theorem VT {all:List PV}{bnd:PV->En->Option En}{r:En}{dt:DT}{de:DE}:∀{xs:List PV}{n i:Nat}{M:Sto},all.drop i=xs->xs.length<n->yD (.fix all) bnd r dt de n i M=uw bnd r dt de xs M
 | xs,0,i,M,e,h=>absurd h (not_lt_zero _)
 | [],n+1,i,M,e,h=>by
  have:all[i]? = none:=List.getElem?_eq_none_iff.mpr (by
   have:=congrArg List.length e
   simp at this
   omega)
  show(match some (all[i]?)with
   | none=>Res.bad
   | some none=>.ok [] M
   | some (some x)=>_)=_
  rw[this];rfl
 | x::xs,n+1,i,M,e,h=>by
  have e1:all[i]? = some x:=by
   have:=congrArg (fun l=>l[0]?) e
   simpa[getElem?_drop]using this
  have e2:all.drop (i+1)=xs:=by
   have:=congrArg (List.drop 1) e
   simpa[drop_drop]using this
  have ih:∀ M,yD (.fix all) bnd r dt de n (i+1) M=uw bnd r dt de xs M:=fun M=>VT e2 (by simpa using h)
  show(match some (all[i]?)with
   | none=>Res.bad
   | some none=>.ok [] M
   | some (some x)=>match bnd x r with
    | none=>.bad
    | some ρ=>(dt ρ M).noX.bind fun b M1=>if b=true then(de ρ M1).noX.bind fun y M2=>(yD (.fix all) bnd r dt de n (i+1) M2).bind fun ys M3=>.ok (y::ys) M3 else yD (.fix all) bnd r dt de n (i+1) M1)=_
  rw[e1];simp only[ih];rfl
def yj (p:ItP)(M:Sto):Nat:=match p with
 | .fix xs=>xs.length+1
 | .live i=>((yz M (.ref i)).getD []).length+1
 | .gen f=>((f M).getD []).length+1
def rest (js:List Nat)(ρ:En):En:=js.map fun j=>(ρ[j]?).getD none
def yI (di:En->Sto->Res ItP)(bnd:PV->En->Option En)(js:List Nat)(dt:DT)(de:DE):DE:=fun ρ M=>(di ρ M).bind fun p M1 =>
 if yj p M1<=sizeLine then(yD p bnd (rest js ρ) dt de (yj p M1) 0 M1).bind fun ys M2=>.ok (.lst ys) M2 else .bad
def dCompG (fv:List PV->Sto->PV)(fm:List PV->Sto->Sto)(di:En->Sto->Res ItP)(bnd:PV->En->Option En)(js:List Nat)(dt:DT)(de:DE):DE:=fun ρ M=>(di ρ M).bind fun p M1 =>
 if yj p M1<=sizeLine then(yD p bnd (rest js ρ) dt de (yj p M1) 0 M1).bind fun ys M2=>.ok (fv ys M2) (fm ys M2)else .bad
def vQ:DT:=fun _ M=>.ok true M
structure QIf (X:Cx)(T:Tb)(ES:St->XK)(ifs:List Expr)(d:DT):Prop where
 h:PIf X ifs (lft T RB ES d)
theorem uC {X:Cx}{T:Tb}{ES:St->XK}:QIf X T ES [] vQ:=⟨fun aa s σ H Q I ae=>jC ae fun W ρ M k hh hs p=>if_nil aa s σ H Q I (p W H true (.refl W) hh rfl)⟩
theorem Jn {X:Cx}{T:Tb}{ES:St->XK}{c:Expr}{d:DT}(h:QT X T ES c d):QIf X T ES [c] d:=⟨jhH h.h⟩
abbrev ES0:St->XK:=fun _=>E0
theorem Xi {W:Wd}{ρ:En}{σ:St}{js:List Nat}(h:yl W ρ σ):yl W (rest js ρ) (js.map fun j=>(σ[j]?).getD none):=by
 refine⟨by simp[rest],fun i x e=>?_⟩;unfold rest at e;rw[getElem?_map]at e;rw[getElem?_map]
 cases hj:js[i]? with
 | none=>rw[hj]at e;cases e
 | some j =>
  rw[hj]at e;have e:(ρ[j]?).getD none=some x:=Option.some.inj e
  cases e1:ρ[j]? with
  | none=>rw[e1]at e;cases e
  | some o =>
   rw[e1]at e;cases e;obtain⟨v,e2,r⟩:=h.2 j x e1;refine⟨v,?_,r⟩;show some ((σ[j]?).getD none)=_;rw[e2];rfl
theorem JR {W:Wd}{ρ:En}{σ:St}{x:PV}{v:V}(h:yl W ρ σ)(r:Rep W x v):yl W (some x::ρ) (some v::σ):=by
 refine⟨by simp[h.1],fun i y e=>?_⟩
 cases i with
 | zero =>
  cases e;exact⟨v,rfl,r⟩
 | succ i=>exact h.2 i y e
structure Bnd (T:Tb)(own:Nat)(g:TG)(bnd:PV->En->Option En):Prop where
 go:∀(W:Wd) (M:Sto) (H:Hp) (js:List Nat) (ρ:En) (σ:St) (x:PV) (v:V) (ρ':En) (Q:St->Hp->Prop),W.T=T->Held W M H->yl W ρ σ->Rep W x v->bnd x (rest js ρ)=some ρ' ->
  (∀ σ',yl W ρ' σ'->JM (yY own js σ) σ'->Q σ' H)->g v (yY own js σ) H Q
theorem uM {T:Tb}:Bnd T 1 (vo 0) vT:=⟨fun W M H js ρ σ x v ρ' Q k hh hs r e q=>by
 cases e
 exact q _ (JR (Xi hs) r) keep1⟩
theorem bnd_2 {T:Tb}:Bnd T 2 (gTup T.K 2 (jbq (vo 0) (jbq (vo 1) gNil))) bnd2:=⟨fun W M H js ρ σ x v ρ' Q k hh hs r e q=>by
 unfold bnd2 at e;split at e
 ·rename_i a b;cases e;obtain⟨p,vs,rfl,ha,rr⟩:=xY hh r;obtain⟨va,vb,rfl,ra,rb⟩:=uB rr;rw[k]at ha;refine⟨p,_,rfl,ha,rfl,va,[vb],rfl,vb,[],rfl,rfl,?_⟩;exact q _ (JR (JR (Xi hs) rb) ra) jbi
 ·cases e⟩
theorem jfL {it:ItP}{bnd:PV->En->Option En}{r:En}{dt:DT}{de:DE}:∀(n i:Nat) (M:Sto) (c:Nat) (M':Sto),yD it bnd r dt de n i M≠.exc c M':=by
 intro n
 induction n with
 | zero=>intro i M c M' z;cases z
 | succ n ih =>
  intro i M c M' z;unfold yD at z;split at z
  ·cases z
  ·cases z
  ·split at z
   ·cases z
   ·rename_i ρ' _
    cases e1:dt ρ' M with
    | bad=>rw[e1]at z;cases z
    | exc _ _=>rw[e1]at z;cases z
    | ok b M1 =>
     rw[e1]at z
     cases b with
     | false=>exact ih _ _ _ _ z
     | true =>
      have z:(de ρ' M1).noX.bind (fun y M2=>(yD it bnd r dt de n (i+1) M2).bind fun ys M3=>.ok (y::ys) M3) = .exc c M':=z
      cases e2:de ρ' M1 with
      | bad=>rw[e2]at z;cases z
      | exc _ _=>rw[e2]at z;cases z
      | ok y M2 =>
       rw[e2]at z;have z:(yD it bnd r dt de n (i+1) M2).bind (fun ys M3=>Res.ok (y::ys) M3) = .exc c M':=z
       cases e3:yD it bnd r dt de n (i+1) M2 with
       | bad=>rw[e3]at z;cases z
       | exc _ _=>exact ih _ _ _ _ e3
       | ok _ _=>rw[e3]at z;cases z
section
variable {X:Cx}{T:Tb}{ES:St->XK}{osc sc:Scope}{own fr:List Str}{js:List Nat}{ax ab iter:Expr}{ifs:List Expr}{pos:Pos}{di:En->Sto->Res ItP}{g:TG}{bnd:PV->En->Option En}{dt:DT}{de:DE}
def RIg (W:Wd)(p:ItP)(J:It):Prop:=∀ W' M' H',W.le0 W'->(∀ b u,W.G b=some u->W'.G b=some u)->Held W' M' H'->∀ i,(∀ x,nxt p M' i=some (some x)->J.go i H'∧∀ v c7,J.yld i H' v c7->∃ fW,W'.le fW∧Held fW M' c7∧Rep fW x v)∧(nxt p M' i=some none->J.stop i H')
theorem jiv {on:Nat}{σ:St}{Q:VK}{E:XK}(B:Bnd T on g bnd)(fv:List PV->Sto->PV)(fm:List PV->Sto->Sto)(fV:∀{W:Wd}{M:Sto}{H G0:Hp}{l:Addr}{ys:List PV}{vs:List V},Held W M H->W.G l=some (.lst vs)->(∀ b u,G0 b=some u->W.G b=some u∧b≠l)->yc W ys vs->∃ W',W.le0 W'∧W'.G=G0∧Held W' (fm ys M) H∧Rep W' (fv ys M) (.ref l))
  {W0:Wd}{ρ:En}{M0:Sto}{it:ItP}{J:It}{H0:Hp}(k0:W0.T=T) (fY:yl W0 ρ σ) (h0:Held W0 M0 H0) (ri:RIg W0 it J) (p0:yg W0 Rep (if yj it M0<=sizeLine then(yD it bnd (rest js ρ) dt de (yj it M0) 0 M0).bind fun ys M2=>.ok (fv ys M2) (fm ys M2)else .bad) Q E) (acc:Addr) (aB:H0 acc=none):jiO J acc on js g (lft T RB ES0 dt) (lft T Rep ES0 de) σ Q H0:=by
 by_cases hf:yj it M0<=sizeLine
 rotate_left
 ·rw[if_neg hf]at p0;exact p0.elim
 rw[if_pos hf]at p0
 have cW:W0.G acc=none:=by
  cases q:W0.G acc with
  | none=>rfl
  | some o =>
   rw[(h0.gd acc o q).1]at aB;cases aB
 -- what is wanted of the rest
 let Fin:Wd->List PV->Res (List PV)->Prop:=fun W ys r=>match r with
  | .ok zs M'=>∀ W' H' v,W0.le W'->Held W' (fm (ys++zs) M') H'->Rep W' (fv (ys++zs) M') v->Q v H'
  | _=>False
 have fin0:Fin W0 [] (yD it bnd (rest js ρ) dt de (yj it M0) 0 M0):=by
  cases e:yD it bnd (rest js ρ) dt de (yj it M0) 0 M0 with
  | ok zs M'=>rw[e]at p0;exact fun W' H' v le aO r=>p0 W' H' v le aO r
  | exc c M' =>
   exfalso
   exact jfL _ _ _ _ _ e
  | bad=>rw[e]at p0;exact p0.elim
 refine⟨fun i m vs H2=>i+m=yj it M0∧vs.length<=i∧∃ W M ys,W0.le0 W∧W.G=L2.upd W0.G acc (.lst vs)∧Held W M H2∧yc W ys vs∧Fin W ys (yD it bnd (rest js ρ) dt de m i M),
  ⟨yj it M0,by simp,by simp,W0.gd acc (.lst []),M0,[],Wd.le0_gd,rfl,h0.guard aB,rfl,fin0⟩,?_⟩
 rintro i m vs H2 ⟨hi,hl,W1,M1,ys,bK,g1,h1,r1,f1⟩;have k1:W1.T=T:=bK.k.trans k0
 have bc:yl W1 ρ σ:=⟨fY.1,fun i x e=>by
  obtain⟨v,e1,r⟩:=fY.2 i x e
  exact⟨v,e1,r.up0 bK⟩⟩
 have gb:W1.G acc=some (.lst vs):=by rw[g1,jr]
 cases m with
 | zero=>exact f1.elim
 | succ m =>
  unfold yD at f1
  obtain⟨bZ,a6⟩:=ri W1 M1 H2 bK (fun b u q=>by
   have z:b≠acc:=fun z=>by rw[z,cW]at q;cases q
   rw[g1,jk z]
   exact q) h1 i
  split at f1
  ·exact f1.elim
  ·rename_i en;refine .inl ⟨a6 en,?_⟩
   obtain⟨W5,l5,g5,h5,r5⟩:=fV (G0:=W0.G) h1 gb (fun b u q=>by
    have z:b≠acc:=fun z=>by rw[z,cW]at q;cases q
    exact⟨by rw[g1,jk z];exact q,z⟩) r1
   have f1:∀ W' H' v,W0.le W'->Held W' (fm (ys++[]) M1) H'->Rep W' (fv (ys++[]) M1) v->Q v H':=f1;rw[append_nil]at f1;exact f1 W5 H2 (.ref acc) ⟨bK.trans l5,g5⟩ h5 r5
  ·rename_i x en;split at f1
   ·exact f1.elim
   ·rename_i ρ' eb;obtain⟨go,yld⟩:=bZ x en
    have aq:vs.length<sizeLine:=by omega
    refine .inr ⟨go,aq,fun cZ H'=>i+1+m=yj it M0∧cZ.length<=i+1∧∃ W M ys,W0.le0 W∧W.G=L2.upd W0.G acc (.lst cZ)∧Held W M H'∧yc W ys cZ∧Fin W ys (yD it bnd (rest js ρ) dt de m (i+1) M),
     fun cZ H' q=>⟨m,lt_succ_self _,q⟩,fun v H3 hy=>?_⟩
    obtain⟨W2,l2,h2,r2⟩:=yld v H3 hy;have k2:W2.T=T:=l2.k.trans k1
    refine B.go W2 M1 H3 js ρ σ x v ρ' _ k2 h2 (bc.up l2) r2 eb fun σ4 rs4 kp=>⟨kp,?_⟩
    cases e1:dt ρ' M1 with
    | bad=>rw[e1]at f1;exact f1.elim
    | exc _ _=>rw[e1]at f1;exact f1.elim
    | ok b M2 =>
     rw[e1]at f1;refine⟨W2,ρ',M1,k2,h2,rs4,?_⟩;rw[e1];intro W3 H5 b' l3 h3 eb';subst eb'
     have g3:W3.G=L2.upd W0.G acc (.lst vs):=by rw[l3.g,l2.g,g1]
     have le3:W0.le0 W3:=(bK.trans l2.toLe0).trans l3.toLe0;have r3:yc W3 ys vs:=(r1.up l2).up l3
     cases b' with
     | false =>
      rw[if_neg (by simp)];exact⟨by omega,by omega,W3,M2,ys,le3,g3,h3,r3,f1⟩
     | true =>
      rw[if_pos rfl];have f1:Fin W1 ys ((de ρ' M2).noX.bind fun y M2=>(yD it bnd (rest js ρ) dt de m (i+1) M2).bind fun zs M3=>.ok (y::zs) M3):=f1;refine⟨W3,ρ',M2,l3.k.trans k2,h3,rs4.up l3,?_⟩
      cases e2:de ρ' M2 with
      | bad=>rw[e2]at f1;exact f1.elim
      | exc _ _=>rw[e2]at f1;exact f1.elim
      | ok y M3 =>
       rw[e2]at f1;intro W4 H6 w l4 h4 r4
       have g4:W4.G=L2.upd W0.G acc (.lst vs):=by rw[l4.g,g3]
       have ga4:W4.G acc=some (.lst vs):=by rw[g4,jr]
       refine⟨(h4.gd _ _ ga4).1,by omega,by simp;omega,W4.gd acc (.lst (vs++[w])),M3,ys++[y],(le3.trans l4.toLe0).trans Wd.le0_gd,?_,h4.reguard ga4,?_,?_⟩
       ·show L2.upd W4.G acc (.lst (vs++[w]))=_;rw[g4,vB]
       ·exact yc.up0 Wd.le0_gd ((r3.up l4).append (show yc W4 [y] [w]from⟨w,[],rfl,r4,rfl⟩))
       ·have f1:Fin W1 ys ((yD it bnd (rest js ρ) dt de m (i+1) M3).bind fun zs M3=>.ok (y::zs) M3):=f1
        cases e3:yD it bnd (rest js ρ) dt de m (i+1) M3 with
        | bad=>rw[e3]at f1;exact f1.elim
        | exc _ _=>rw[e3]at f1;exact f1.elim
        | ok zs M4 =>
         rw[e3]at f1;have f1:∀ W' H' v,W0.le W'->Held W' (fm (ys++(y::zs)) M4) H'->Rep W' (fv (ys++(y::zs)) M4) v->Q v H':=f1;show ∀ W' H' v,W0.le W'->Held W' (fm ((ys++[y])++zs) M4) H'->Rep W' (fv ((ys++[y])++zs) M4) v->Q v H';rw[append_assoc];exact f1
theorem jcY {on:Nat}{σ:St}{H:Hp}{Q:VK}(B:Bnd T on g bnd)(fv:List PV->Sto->PV)(fm:List PV->Sto->Sto)(fV:∀{W:Wd}{M:Sto}{H G0:Hp}{l:Addr}{ys:List PV}{vs:List V},Held W M H->W.G l=some (.lst vs)->(∀ b u,G0 b=some u->W.G b=some u∧b≠l)->yc W ys vs->∃ W',W.le0 W'∧W'.G=G0∧Held W' (fm ys M) H∧Rep W' (fv ys M) (.ref l))(h:lft T Rep ES (dCompG fv fm di bnd js dt de) σ H Q):Vq (lft T RI ES di) on js g (lft T RB ES0 dt) (lft T Rep ES0 de) σ H Q:=by
 obtain⟨W,ρ,M,k,hh,hs,p⟩:=h;exact⟨W,ρ,M,k,hh,hs,yg.bind p fun W0 M0 it J H0 l0 h0 ri p0=>fun acc aB=>jiv B fv fm fV (l0.k.trans k) (hs.up l0) h0 (fun W' M' H' le _ aO i=>ri W' M' H' le aO i) p0 acc aB⟩
theorem VQ {on:Nat}{σ:St}{H:Hp}{Q:VK}(B:Bnd T on g bnd)(h:lft T Rep ES (yI di bnd js dt de) σ H Q):Vq (lft T RI ES di) on js g (lft T RB ES0 dt) (lft T Rep ES0 de) σ H Q :=
 jcY B (fun ys _=>.lst ys) (fun _ M=>M) (fun{W M H G0 l ys vs} h e hg r=>by
  obtain⟨l2,h2⟩:=h.unguard e hg
  exact⟨W.out G0 l (.lst vs),l2,rfl,h2,l,vs,rfl,jr,r.up0 l2⟩) h
theorem xj (B:Bnd T own.length g bnd)(hc:X.calm=true)(ho:X.env.scope=osc)(S:CompScope osc sc own fr)(hj:js.map (fun j=>X.N[j]?)=fr.map some)(hi:QI X T ES ab iter di)
  (hg:∀ s₃ H₃ fp,PG (jQ X (own++fr) sc s₃ H₃ fp) ab g) (ht:∀ s₃ H₃ fp,QIf (jQ X (own++fr) sc s₃ H₃ fp) T ES0 ifs dt) (he:∀ s₃ H₃ fp,QE (jQ X (own++fr) sc s₃ H₃ fp) T ES0 ax de)
  (hs:∀ x,foldedSetIterable iter X.env x=pure x:=by intro _;rfl):QE X T ES (.ListComp ax [⟨ab,iter,ifs,0⟩] sc pos) (yI di bnd js dt de) :=
 ⟨jN (pe_comp hc ho S hj hi.h hg (fun a b c=>(ht a b c).h) (fun a b c=>(he a b c).h) hs) fun _ _ _=>VQ B⟩
end
inductive RS where
 | nx (ρ:En) (M:Sto) | rt (v:PV) (M:Sto) | bk (ρ:En) (M:Sto) | ct (ρ:En) (M:Sto) | exc (k:Nat) (ρ:En) (M:Sto) | bad
abbrev DS:=En->Sto->RS
def RS.then (r:RS)(k:En->Sto->RS):RS:=match r with
 | .nx ρ M=>k ρ M
 | r=>r
@[simp] theorem RS.then_nx {ρ : En}{M : Sto}{k : En -> Sto -> RS} : (RS.nx ρ M).then k=k ρ M := rfl
@[simp] theorem RS.then_rt {v : PV}{M : Sto}{k : En -> Sto -> RS} : (RS.rt v M).then k = .rt v M := rfl
@[simp] theorem RS.then_exc {c : Nat}{ρ : En}{M : Sto}{k : En -> Sto -> RS} : (RS.exc c ρ M).then k = .exc c ρ M := rfl
def Res.st {α:Type}(r:Res α)(ρ:En)(k:α->Sto->RS):RS:=match r with
 | .ok a M=>k a M
 | .exc c M=>.exc c ρ M
 | .bad=>.bad
@[simp] theorem Res.st_ok {α : Type}{a : α}{M : Sto}{ρ : En}{k : α -> Sto -> RS} : (Res.ok a M).st ρ k=k a M := rfl
@[simp] theorem Res.st_exc {α : Type}{c : Nat}{M : Sto}{ρ : En}{k : α -> Sto -> RS} : (Res.exc c M).st ρ k = .exc c ρ M := rfl
@[simp] theorem Res.st_bad {α : Type}{ρ : En}{k : α -> Sto -> RS} : (Res.bad).st ρ k = .bad := rfl
def yn (W:Wd)(r:RS)(D:Ends)(ES:St->XK):Prop:=match r with
 | .nx ρ M=>∀ W' σ' H',W.le W'->Held W' M H'->yl W' ρ σ'->D.nx σ' H'
 | .rt v M=>∀ W' H' u,W.le W'->Held W' M H'->Rep W' v u->D.rt u H'
 | .bk ρ M=>∀ W' σ' H',W.le W'->Held W' M H'->yl W' ρ σ'->D.bk σ' H'
 | .ct ρ M=>∀ W' σ' H',W.le W'->Held W' M H'->yl W' ρ σ'->D.ct σ' H'
 | .exc k ρ M=>∀ W' σ' H' dd,W.le W'->Held W' M H'->yl W' ρ σ'->jdk W' k dd->ES σ' (.ref (W.T.C (k%64))) dd H'
 | .bad=>False
theorem yn.up {W W':Wd}{r:RS}{D:Ends}{ES:St->XK}(h:yn W r D ES)(le:W.le W'):yn W' r D ES:=by
 cases r with
 | nx ρ M=>exact fun W2 σ2 H2 l2 h2 r2=>h W2 σ2 H2 (le.trans l2) h2 r2
 | rt v M=>exact fun W2 H2 u l2 h2 r2=>h W2 H2 u (le.trans l2) h2 r2
 | bk ρ M=>exact fun W2 σ2 H2 l2 h2 r2=>h W2 σ2 H2 (le.trans l2) h2 r2
 | ct ρ M=>exact fun W2 σ2 H2 l2 h2 r2=>h W2 σ2 H2 (le.trans l2) h2 r2
 | exc k ρ M =>
  intro W2 σ2 H2 dd l2 h2 r2 z
  have:=h W2 σ2 H2 dd (le.trans l2) h2 r2 z
  rw[le.k];exact this
 | bad=>exact h.elim
def jhA (T:Tb)(ES:St->XK)(d:DS):TS:=fun D σ H=>∃ W ρ M,W.T=T∧Held W M H∧yl W ρ σ∧yn W (d ρ M) D ES
theorem yP {T:Tb}{ES:St->XK}{d:DS}{D:Ends}{σ:St}{H:Hp}{P:Prop}(h:jhA T ES d D σ H)(k:∀ W ρ M,W.T=T->Held W M H->yl W ρ σ->yn W (d ρ M) D ES->P):P:=by
 obtain⟨W,ρ,M,a,b,c,e⟩:=h;exact k W ρ M a b c e
structure QS (X:Cx)(T:Tb)(ES:St->XK)(st:Stmt)(d:DS):Prop where
 h:PS X st (jhA T ES d)
structure QSs (X:Cx)(T:Tb)(ES:St->XK)(st:List Stmt)(d:DS):Prop where
 h:PSs X st (jhA T ES d)
theorem yn.bind {α β:Type}{W:Wd}{R1:Wd->α->β->Prop}{r:Res α}{ρ:En}{σ:St}{k:α->Sto->RS}{D:Ends}{ES:St->XK}{Q1:β->Hp->Prop}(hs:yl W ρ σ)(h:yn W (r.st ρ k) D ES)
  (f:∀ W' M a b H1,W.le W'->Held W' M H1->R1 W' a b->yn W' (k a M) D ES->Q1 b H1):yg W R1 r Q1 (ES σ):=by
 cases r with
 | ok a M=>exact fun W2 H2 b l2 h2 r2=>f W2 M a b H2 l2 h2 r2 (yn.up (r:=k a M) h l2)
 | exc k M=>exact fun W2 H2 dd l2 h2 z=>h W2 σ H2 dd l2 h2 (hs.up l2) z
 | bad=>exact h.elim
section
variable {X:Cx}{T:Tb}{ES:St->XK}{e a b c o:Expr}{pos p:Pos}{st:Stmt}{sts rest:List Stmt}{d de db do_ di:DE}{d1 d2:DS}{ta:DT}
theorem xt {t t':TS}(h:PS X st t)(f:∀ D σ H,t' D σ H->t D σ H):PS X st t':=fun aa s σ H D I q=>h aa s σ H D I (f D σ H q)
theorem Uy {t t':TS}(h:PSs X sts t)(f:∀ D σ H,t' D σ H->t D σ H):PSs X sts t':=fun aa s σ H D I q=>h aa s σ H D I (f D σ H q)
def yG:DS:=fun ρ M=>.nx ρ M
def yh (d1 d2:DS):DS:=fun ρ M=>(d1 ρ M).then d2
theorem jG:QSs X T ES [] yG:=⟨Uy pss_nil fun D σ H ae=>yP ae fun W ρ M k hh hs q=>q W σ H (.refl W) hh hs⟩
theorem jf (h:QS X T ES st d1):QSs X T ES [st] d1:=⟨pss_one h.h⟩
theorem je (h1:QS X T ES st d1)(h2:QSs X T ES rest d2):QSs X T ES (st::rest) (yh d1 d2):=⟨Uy (Xm h1.h h2.h) fun D σ H ae=>yP ae fun W ρ M k hh hs q=>⟨W,ρ,M,k,hh,hs,by
 unfold yh at q
 cases e:d1 ρ M with
 | nx ρ1 M1 =>
  rw[e]at q
  exact fun W1 σ1 H1 l1 h1 r1=>⟨W1,ρ1,M1,l1.k.trans k,h1,r1,yn.up (r:=d2 ρ1 M1) q l1⟩
 | rt v M1=>rw[e]at q;exact q
 | bk ρ1 M1=>rw[e]at q;exact q
 | ct ρ1 M1=>rw[e]at q;exact q
 | exc c ρ1 M1=>rw[e]at q;exact q
 | bad=>rw[e]at q;exact q⟩⟩
def Us:DS:=fun _ _=>.bad
theorem xn:QS X T ES st Us:=⟨xt jgT fun D σ H ae=>yP ae fun _ _ _ _ _ _ q=>q⟩
def yA (d:DE):DS:=fun ρ M=>(d ρ M).st ρ fun _ M1=>.nx ρ M1
theorem jL (he:QE X T ES e d)(hs:swapsWith e none pos.line X.env=pure false:=by rfl):QS X T ES (.Expr e pos) (yA d):=⟨xt (ps_expr he.h hs) fun D σ H ae=>yP ae fun W ρ M k hh hs q=>⟨W,ρ,M,k,hh,hs,yn.bind hs q fun W1 M1 x v H1 l1 h1 r1 q1=>q1 W1 σ H1 (.refl W1) h1 (hs.up l1)⟩⟩
def yR (d:DE):DS:=fun ρ M=>(d ρ M).st ρ fun v M1=>.rt v M1
theorem jt (he:QE X T ES e d):QS X T ES (.Return (some e) pos) (yR d):=⟨xt (ps_ret he.h) fun D σ H ae=>yP ae fun W ρ M k hh hs q=>⟨W,ρ,M,k,hh,hs,yn.bind hs q fun W1 M1 x v H1 l1 h1 r1 q1=>q1 W1 H1 v (.refl W1) h1 r1⟩⟩
def sIf (t:DT)(d1 d2:DS):DS:=fun ρ M=>(t ρ M).st ρ fun c M1=>if c=true then d1 ρ M1 else d2 ρ M1
theorem xy {sa sb:List Stmt}(hc:QT X T ES c ta)(ha:QSs X T ES sa d1)(hb:QSs X T ES sb d2):QS X T ES (.If c sa sb pos) (sIf ta d1 d2):=⟨xt (ps_if hc.h ha.h hb.h) fun D σ H ae=>yP ae fun W ρ M k hh hs q =>
 ⟨W,ρ,M,k,hh,hs,yn.bind hs q fun W1 M1 x v H1 l1 h1 r1 q1=>by
  subst r1
  cases v with
  | true=>rw[if_pos rfl]at q1 ⊢;exact⟨W1,ρ,M1,l1.k.trans k,h1,hs.up l1,q1⟩
  | false=>rw[if_neg (by simp)]at q1 ⊢;exact⟨W1,ρ,M1,l1.k.trans k,h1,hs.up l1,q1⟩⟩⟩
def yK (i:Nat)(d:DE):DS:=fun ρ M=>(d ρ M).st ρ fun v M1=>.nx (ρ.set i (some v)) M1
theorem YZ {i:Nat}{D:Ends}{σ:St}{H:Hp}(h:jhA T ES (yK i d) D σ H):jiU (lft T Rep ES d) (vo i) D σ H:=by
 obtain⟨W,ρ,M,k,hh,hs,q⟩:=h;exact⟨W,ρ,M,k,hh,hs,yn.bind hs q fun W1 M1 x v H1 l1 h1 r1 q1=>q1 W1 _ H1 (.refl W1) h1 ((hs.up l1).set r1)⟩
theorem jD {i:Nat}{x:Str}{a7:Pos}(hN:X.N.Nodup)(hi:X.N[i]? = some x)(hx:Loc X.env.scope x)(he:QE X T ES e d)(hs:swapsWith e (some (.Name x a7)) pos.line X.env=pure false:=by rfl)(hf:X.fn x=true∨X.env.scope.names.lookup x=some .local:=by first | exact .inl rfl | exact .inr rfl | assumption) :
  QS X T ES (.Assign [.Name x a7] e pos) (yK i d):=⟨xt (jgS hN hi hx he.h hs hf) fun _ _ _=>YZ⟩
theorem qs_comp {osc sc:Scope}{own fr:List Str}{js:List Nat}{ax ab iter:Expr}{ifs:List Expr}{b7:En->Sto->Res ItP}{g:TG}{bnd:PV->En->Option En}{dt:DT}{i:Nat}{x:Str}{px b8:Pos}(B:Bnd T own.length g bnd)(hc:X.calm=true)(ho:X.env.scope=osc)(S:CompScope osc sc own fr)(hj:js.map (fun j=>X.N[j]?)=fr.map some)
  (hN:X.N.Nodup) (cq:X.N[i]? = some x) (hx:X.env.scope.names.lookup x=some .local) (hi:QI X T ES ab iter b7)
  (hg:∀ s₃ H₃ fp,PG (jQ X (own++fr) sc s₃ H₃ fp) ab g) (ht:∀ s₃ H₃ fp,QIf (jQ X (own++fr) sc s₃ H₃ fp) T ES0 ifs dt) (he:∀ s₃ H₃ fp,QE (jQ X (own++fr) sc s₃ H₃ fp) T ES0 ax de)
  (fB:swapsWith (.ListComp ax [⟨ab,iter,ifs,0⟩] sc pos) (some (.Name x px)) b8.line X.env=pure true) (hs:∀ x,foldedSetIterable iter X.env x=pure x:=by intro _;rfl) :
  QS X T ES (.Assign [.Name x px] (.ListComp ax [⟨ab,iter,ifs,0⟩] sc pos) b8) (yK i (yI b7 bnd js dt de)) :=
 ⟨xt (jdZ hc ho S hj hN cq hx hi.h hg (fun a b c=>(ht a b c).h) (fun a b c=>(he a b c).h) fB hs) fun D σ H h=>by
  have:=YZ h
  show Vq _ _ _ _ _ _ σ H _
  exact VQ B this⟩
abbrev DG:=PV->En->Option En
abbrev DGs:=List PV->En->Option En
def jhB (T:Tb)(g:DG):TG:=fun v σ H Q=>∃ W ρ M x ρ',W.T=T∧Held W M H∧yl W ρ σ∧Rep W x v∧g x ρ=some ρ'∧∀ σ',yl W ρ' σ'->Q σ' H
def lftGs (T:Tb)(g:DGs):TGs:=fun vs σ H Q=>∃ W ρ M xs ρ',W.T=T∧Held W M H∧yl W ρ σ∧yc W xs vs∧g xs ρ=some ρ'∧∀ σ',yl W ρ' σ'->Q σ' H
structure QG (X:Cx)(T:Tb)(tg:Expr)(g:DG):Prop where
 h:PG X tg (jhB T g)
structure QGs (X:Cx)(T:Tb)(c4:List Expr)(g:DGs):Prop where
 h:PGs X c4 (lftGs T g)
variable {tg:Expr}{c4:List Expr}
theorem jhb {t t':TG}(h:PG X tg t)(f:∀ v σ H Q,t' v σ H Q->t v σ H Q):PG X tg t':=fun aa s σ H v u Q I r q=>h aa s σ H v u Q I r (f v σ H Q q)
theorem jed {t t':TGs}(h:PGs X c4 t)(f:∀ v σ H Q,t' v σ H Q->t v σ H Q):PGs X c4 t':=fun aa s σ H v u Q I r q=>h aa s σ H v u Q I r (f v σ H Q q)
def gN (i:Nat):DG:=fun x ρ=>some (ρ.set i (some x))
theorem yx {i:Nat}{x:Str}(hN:X.N.Nodup)(hi:X.N[i]? = some x)(hx:Loc X.env.scope x)(hf:X.fn x=true∨X.env.scope.names.lookup x=some .local:=by first | exact .inl rfl | exact .inr rfl | assumption):QG X T (.Name x pos) (gN i) :=
 ⟨jhb (jJ hN hi hx hf) fun v σ H Q ae=>by
  obtain⟨W,ρ,M,x,ρ',k,hh,hs,r,e,q⟩:=ae;cases e
  exact q _ (hs.set r)⟩
def VJ:DGs:=fun xs ρ=>match xs with
 | []=>some ρ
 | _=>none
def xN (g:DG)(gs:DGs):DGs:=fun xs ρ=>match xs with
 | x::r=>(g x ρ).bind fun ρ1=>gs r ρ1
 | _=>none
theorem jdX:QGs X T [] VJ:=⟨jed jec fun v σ H Q ae=>by
 obtain⟨W,ρ,M,xs,ρ',k,hh,hs,r,e,q⟩:=ae
 cases xs with
 | nil=>cases e;cases r;exact⟨rfl,q σ hs⟩
 | cons _ _=>cases e⟩
theorem Jo {g:DG}{gs:DGs}(h1:QG X T tg g)(h2:QGs X T c4 gs)(hs:(assignEach (tg::c4) X.env).map (·.2)=assign tg X.env::(assignEach c4 X.env).map (·.2):=by rfl):QGs X T (tg::c4) (xN g gs) :=
 ⟨jed (Xp h1.h h2.h hs) fun v σ H Q ae=>by
  obtain⟨W,ρ,M,xs,ρ',k,hh,hs,r,e,q⟩:=ae
  cases xs with
  | nil=>cases e
  | cons x xr =>
   obtain⟨u,ur,rfl,ra,rb⟩:=r;have e:(g x ρ).bind (fun ρ1=>gs xr ρ1)=some ρ':=e
   cases e1:g x ρ with
   | none=>rw[e1]at e;cases e
   | some ρ1 =>
    rw[e1]at e
    exact⟨u,ur,rfl,W,ρ,M,x,ρ1,k,hh,hs,ra,e1,fun σ1 r1=>⟨W,ρ1,M,xr,ρ',k,hh,r1,rb,e,q⟩⟩⟩
def gT (n:Nat)(gs:DGs):DG:=fun x ρ=>match x with
 | .tup xs=>if xs.length=n then gs xs ρ else none
 | _=>none
theorem jgH {k:Nat}{gs:DGs}{n:Nat}(hT:T.K=X.K)(hc:X.calm=true)(h:QGs X T c4 gs)(hn:(assignEach c4 X.env).length=n:=by rfl)(iU:(assignEach c4 X.env).findIdx? (·.1)=none:=by rfl):QG X T (.Tuple c4 k pos) (gT n gs) :=
 ⟨jhb (jha hc h.h hn iU) fun v σ H Q ae=>by
  obtain⟨W,ρ,M,x,ρ',k,hh,hs,r,e,q⟩:=ae;unfold gT at e;split at e
  ·rename_i xs;split at e
   ·rename_i hl;obtain⟨a,vs,rfl,ha,rr⟩:=xY hh r;rw[k,hT]at ha;exact⟨a,vs,rfl,ha,by rw[rr.length];exact hl,W,ρ,M,xs,ρ',k,hh,hs,rr,e,q⟩
   ·cases e
  ·cases e⟩
def putI (M:Sto)(o i x:PV):Option Sto:=match o,i with
 | .ref j,.int k=>(match M.g j with
  | some (.lst xs)=>(ixN xs.length k).map fun n=>M.set j (.lst (xs.set n x))
  | _=>none)
 | _,_=>none
def jdQ (d do_ di:DE):DS:=fun ρ M=>(d ρ M).st ρ fun x M1=>(do_ ρ M1).st ρ fun o M2=>(di ρ M2).st ρ fun i M3=>match putI M3 o i x with
 | some M4=>.nx ρ M4
 | none=>.bad
theorem jdW {ip:Expr}{p2:Pos}(he:QE X T ES e d)(ho:QE X T ES o do_)(hi:QE X T ES ip di)
  (ha:∀ v,assign (.Subscript o ip p2) X.env v=(do
   let ov <- holding [v] (eval o X.env)
   let iv <- holding [v,ov] (eval ip X.env)
   standAt p2
   holding [v,ov,iv] (setItem ov iv v)
   release [v,ov,iv] []):=by intro _;rfl)
  (hs:swapsWithSole [.Subscript o ip p2] e pos.line X.env=pure false:=by rfl) (hw:swappedStores [.Subscript o ip p2] e X.env=pure none:=by rfl)
  (h1:(assignEach [.Subscript o ip p2] X.env).map (·.2)=[assign (.Subscript o ip p2) X.env]:=by rfl):QS X T ES (.Assign [.Subscript o ip p2] e pos) (jdQ d do_ di) :=
 ⟨xt (ps_asg he.h (pg_sub ho.h hi.h jgs ha) hs hw h1) fun D σ H ae=>yP ae fun W ρ M k hh hs q=>⟨W,ρ,M,k,hh,hs,yn.bind hs q fun W1 M1 x v H1 l1 h1 r1 q1=>by
  have bc:=hs.up l1;refine⟨W1,ρ,M1,l1.k.trans k,h1,bc,yn.bind bc q1 fun W2 M2 o' ov H2 l2 h2 r2 q2=>?_⟩;have bx:=bc.up l2;refine⟨W2,ρ,M2,l2.k.trans (l1.k.trans k),h2,bx,yn.bind bx q2 fun W3 M3 i' iv H3 l3 h3 r3 q3=>?_⟩;split at q3
  ·rename_i M4 e4;unfold putI at e4;split at e4
   ·rename_i j kk;split at e4
    ·rename_i xs e5
     cases e6:ixN xs.length kk with
     | none=>rw[e6]at e4;cases e4
     | some n =>
      rw[e6]at e4;cases e4;obtain⟨a,rfl,ea⟩:=r2.up l3;obtain⟨b',ob,g1,g2,g3,vs,rfl,rr⟩:=h3.m j _ e5;rw[ea]at g1;cases g1;have rx:=(r1.up l2).up l3;exact⟨a,vs,kk,n,rfl,r3,g3,by rw[rr.length];exact e6,q3 W3 σ _ (.refl W3) (h3.upd e5 ea ⟨_,rfl,rr.set rx n⟩) (bx.up l3)⟩
    ·cases e4
   ·cases e4
  ·exact q3.elim⟩⟩
def xo (p:ItP)(g:DG)(db:DS):Nat->Nat->En->Sto->RS
 | 0,_,_,_=>.bad
 | n+1,i,ρ,M=>match nxt p M i with
  | none=>.bad
  | some none=>.nx ρ M
  | some (some x)=>match g x ρ with
   | none=>.bad
   | some ρ1=>match db ρ1 M with
    | .nx ρ2 M2=>xo p g db n (i+1) ρ2 M2
    | .ct ρ2 M2=>xo p g db n (i+1) ρ2 M2
    | .bk ρ2 M2=>.nx ρ2 M2
    | r=>r
def xc (g:DG)(db:DS):List PV->En->Sto->RS
 | [],ρ,M=>.nx ρ M
 | x::xs,ρ,M=>match g x ρ with
  | none=>.bad
  | some ρ1=>match db ρ1 M with
   | .nx ρ2 M2=>xc g db xs ρ2 M2
   | .ct ρ2 M2=>xc g db xs ρ2 M2
   | .bk ρ2 M2=>.nx ρ2 M2
   | r=>r
theorem VE {all:List PV}{g:DG}{db:DS}:∀{xs:List PV}{n i:Nat}{ρ:En}{M:Sto},all.drop i=xs->xs.length<n->xo (.fix all) g db n i ρ M=xc g db xs ρ M
 | xs,0,i,ρ,M,e,h=>absurd h (not_lt_zero _)
 | [],n+1,i,ρ,M,e,h=>by
  have:all[i]? = none:=List.getElem?_eq_none_iff.mpr (by
   have:=congrArg List.length e
   simp at this
   omega)
  unfold xo;rw[show nxt (.fix all) M i=some (all[i]?)from rfl,this];rfl
 | x::xs,n+1,i,ρ,M,e,h=>by
  have e1:all[i]? = some x:=by
   have:=congrArg (fun l=>l[0]?) e
   simpa[getElem?_drop]using this
  have e2:all.drop (i+1)=xs:=by
   have:=congrArg (List.drop 1) e
   simpa[drop_drop]using this
  have ih:∀ ρ M,xo (.fix all) g db n (i+1) ρ M=xc g db xs ρ M:=fun ρ M=>VE e2 (by simpa using h);unfold xo;rw[show nxt (.fix all) M i=some (all[i]?)from rfl,e1];simp only[ih];rfl
def uJ (F:Nat)(b7:En->Sto->Res ItP)(g:DG)(db:DS):DS:=fun ρ M=>(b7 ρ M).st ρ fun p M1=>xo p g db (match p with
 | .fix xs=>xs.length+1
 | _=>F) 0 ρ M1
theorem vX {F:Nat}{b7:En->Sto->Res ItP}{g:DG}{db:DS}{ρ:En}{M M1:Sto}{xs:List PV}(h:b7 ρ M = .ok (.fix xs) M1):uJ F b7 g db ρ M=xc g db xs ρ M1:=by
 unfold uJ;rw[h];exact VE rfl (lt_succ_self _)
theorem uc {iter:Expr}{body:List Stmt}{b7:En->Sto->Res ItP}{g:DG}{db:DS}(F:Nat)(hp:PassesOwn (model X.prog X.w) X.A X.env X.xe)(hc:X.calm=true)(hi:QI X T ES tg iter b7)(hg:QG X T tg g)(hb:QSs X T ES body db)(hs:∀ x,foldedSetIterable iter X.env x=pure x:=by intro _;rfl) :
  QS X T ES (.For tg iter body [] pos) (uJ F b7 g db):=⟨xt (ps_for hp hc hi.h hg.h hb.h hs) fun D σ H ae=>yP ae fun W ρ M k hh hs q=>⟨W,ρ,M,k,hh,hs,yn.bind hs q fun W0 M0 it J H0 l0 h0 ri q0=>by
 refine⟨fun i m σ H=>∃ W ρ M,W0.le W∧Held W M H∧yl W ρ σ∧yn W (xo it g db m i ρ M) D ES,⟨_,W0,ρ,M0,.refl W0,h0,hs.up l0,q0⟩,?_⟩;rintro i m σ1 H1 ⟨W1,ρ1,M1,l1,h1,r1,q1⟩;have k1:W1.T=T:=l1.k.trans (l0.k.trans k)
 cases m with
 | zero=>exact q1.elim
 | succ m =>
  unfold xo at q1;obtain⟨bZ,a6⟩:=ri W1 M1 H1 l1.toLe0 h1 i;split at q1
  ·exact q1.elim
  ·rename_i en;exact .inl ⟨a6 en,q1 W1 σ1 H1 (.refl W1) h1 r1⟩
  ·rename_i x en;obtain⟨go,yld⟩:=bZ x en;split at q1
   ·exact q1.elim
   ·rename_i ρ2 eg;refine .inr ⟨go,fun σ' H'=>∃ W ρ M,W0.le W∧Held W M H'∧yl W ρ σ'∧yn W (xo it g db m (i+1) ρ M) D ES,fun σ' H' n=>⟨m,lt_succ_self _,n⟩,fun v H2 hy=>?_⟩;obtain⟨W2,l2,h2,rx⟩:=yld v H2 hy;refine⟨W2,ρ1,M1,x,ρ2,l2.k.trans k1,h2,r1.up l2,rx,eg,fun σ2 r2=>⟨W2,ρ2,M1,l2.k.trans k1,h2,r2,?_⟩⟩;have eD:=l1.trans l2
    cases e:db ρ2 M1 with
    | nx ρ3 M3=>rw[e]at q1;exact fun W3 σ3 H3 l3 h3 r3=>⟨W3,ρ3,M3,eD.trans l3,h3,r3,yn.up (r:=xo it g db m (i+1) ρ3 M3) q1 (l2.trans l3)⟩
    | ct ρ3 M3=>rw[e]at q1;exact fun W3 σ3 H3 l3 h3 r3=>⟨W3,ρ3,M3,eD.trans l3,h3,r3,yn.up (r:=xo it g db m (i+1) ρ3 M3) q1 (l2.trans l3)⟩
    | bk ρ3 M3=>rw[e]at q1;exact fun W3 σ3 H3 l3 h3 r3=>q1 W3 σ3 H3 (l2.trans l3) h3 r3
    | rt v3 M3=>rw[e]at q1;exact fun W3 H3 u l3 h3 r3=>q1 W3 H3 u (l2.trans l3) h3 r3
    | exc c ρ3 M3 =>
     rw[e]at q1;intro W3 σ3 H3 dd l3 h3 r3 dx
     have:=q1 W3 σ3 H3 dd (l2.trans l3) h3 r3 dx
     rw[l2.k];exact this
    | bad=>rw[e]at q1;exact q1.elim⟩⟩
end
open PyProof.Rows (envOfC int_text_len_1921)
def spD (T:Tb)(D:List PV->Sto->Res PV):Sp:=fun vs H Q E=>∃ W aF M,W.T=T∧Held W M H∧yc W aF vs∧yg W Rep (D aF M) Q E
def jgo (T:Tb)(D:List PV->Sto->Res PV):Sp:=fun vs H Q _=>∃ W aF M v M',W.T=T∧Held W M H∧yc W aF vs∧D aF M = .ok v M'∧∀ W' H' u,W.le W'->Held W' M' H'->Rep W' v u->Q u H'
def fin:RS->Res PV
 | .rt v M=>.ok v M
 | .nx _ M=>.ok .non M
 | .exc k _ M=>.exc k M
 | _=>.bad
def yu (n N:Nat)(d:DS):List PV->Sto->Res PV:=fun aF M=>if aF.length=n then fin (d (aF.map some++replicate (N-n) none) M)else .bad
def Xs (D:List PV->Sto->Res PV):List PV->Sto->Res PV:=fun aF M=>(D aF M).noX
def both (D0 D1:List PV->Sto->Res PV):List PV->Sto->Res PV:=fun aF M=>match D0 aF M with
 | .ok v M'=>.ok v M'
 | _=>match D1 aF M with
  | .exc k M'=>.exc k M'
  | _=>.bad
theorem jeY {W:Wd}{N:List Str}{n:Nat}{aF:List PV}{vs:List V}(r:yc W aF vs)(hn:aF.length=n):yl W (aF.map some++replicate (N.length-n) none) (L2.start N vs):=by
 unfold L2.start;have hl:=r.length;refine⟨by simp;omega,fun i x e=>?_⟩
 by_cases hi:i<aF.length
 ·rw[getElem?_append_left (by simpa using hi),getElem?_map]at e
  cases e1:aF[i]? with
  | none=>rw[e1]at e;cases e
  | some y =>
   rw[e1]at e;cases e;obtain⟨v,e2,r2⟩:=r.get e1;exact⟨v,by rw[getElem?_append_left (by simp;omega),getElem?_map,e2];rfl,r2⟩
 ·rw[getElem?_append_right (by simp;omega)]at e
  have:=mem_of_getElem? e
  have:=List.eq_of_mem_replicate this
  cases this
section
variable {P:Program}{w:World}{K:Frag}{mg:Str->Option Value}{base:Heap}{x qual:Str}{st:Stmt}{f:Addr}{fd:FuncData}{N ps:List Str}{k:Nat}{T:Tb}{d:DS}{D:List PV->Sto->Res PV}
theorem jbz {n:Nat}{aF:List PV}{M:Sto}(h:yu n k d aF M≠.bad):aF.length=n:=by
 unfold yu at h;split at h
 ·assumption
 ·exact absurd rfl h
theorem jia {W:Wd}{r:RS}{Q:VK}{E:XK}(h:yg W Rep (fin r) Q E):yn W r { nx:=fun _ H'=>Q .non H',rt:=Q } fun _=>E:=by
 cases r with
 | nx ρ M=>exact fun W' σ' H' le hh _=>h W' H' .non le hh rfl
 | rt v M=>exact h
 | bk ρ M=>exact h.elim
 | ct ρ M=>exact h.elim
 | exc c ρ M=>exact fun W' σ' H' dd le hh _ z=>h W' H' dd le hh z
 | bad=>exact h.elim
theorem jby {n:Nat}{vs:List V}{H:Hp}{Q:VK}{E:XK}(h:spD T (yu n N.length d) vs H Q E):jhA T (fun _=>E) d { nx:=fun _ H'=>Q .non H',rt:=Q } (L2.start N vs) H:=by
 obtain⟨W,aF,M,kT,hh,r,p⟩:=h
 have hn:aF.length=n:=jbz (M:=M) (d:=d) (k:=N.length) fun z=>by rw[z]at p;exact p
 have p:yg W Rep (if aF.length=n then fin (d (aF.map some++replicate (N.length-n) none) M)else .bad) Q E:=p;rw[if_pos hn]at p;exact⟨W,_,M,kT,hh,jeY r hn,jia p⟩
theorem jdx {n:Nat}{vs:List V}{H:Hp}{Q:VK}{E:XK}(h:spD T (yu n N.length d) vs H Q E):vs.length=n:=by
 obtain⟨W,aF,M,kT,hh,r,p⟩:=h
 have hn:aF.length=n:=jbz (M:=M) (d:=d) (k:=N.length) fun z=>by rw[z]at p;exact p
 rw[r.length,hn]
theorem spOk_D {D:List PV->Sto->Res PV}{vs:List V}{H:Hp}{Q:VK}{E:XK}(h:jgo T D vs H Q E):spD T D vs H Q E:=by
 obtain⟨W,aF,M,v,M',kT,hh,r,e,q⟩:=h;exact⟨W,aF,M,kT,hh,r,by rw[e];exact q⟩
theorem jI (F:Fun K x qual st f fd)(S:FnScope N ps (jc st))(hb:∀(ay:Value) (A:Around) (outer:List Env) (s:Shared) (H:Hp) (E:XK),Room k (A.deeper (envOfC qual (jc st) s.heap.objs.size f ay)) ->
  QSs (YH (CX1 P w) P w K mg base N qual (jc st) f ay A outer s H E) T (fun _=>E) (ji st) d):FnOk P w K mg base (CX1 P w) (k+1) f fd ps (spD T (yu ps.length N.length d)) :=
 F.okX S (fun _ _ _ _ h=>jdx h) fun ay A outer s H vs Q E hr h=>⟨_,(hb ay A outer s H E hr).h,jby h⟩
theorem jeu (F:Fun K x qual st f fd)(S:FnScope N ps (jc st))(hb:∀(ay:Value) (A:Around) (outer:List Env) (s:Shared) (H:Hp) (E:XK),Room k (A.deeper (envOfC qual (jc st) s.heap.objs.size f ay)) ->
  QSs (YH CX0 P w K mg base N qual (jc st) f ay A outer s H E).nox T ES0 (ji st) d):FnOk P w K mg base CX0 (k+1) f fd ps (jgo T (yu ps.length N.length d)) :=
 F.ok S (fun _ _ _ _ h=>jdx (spOk_D h)) fun ay A outer s H vs Q E hr h=>⟨_,(hb ay A outer s H E hr).h,by
  obtain⟨W,aF,M,v,M',kT,hh,r,e,q⟩:=h
  exact jby (E:=E0) ⟨W,aF,M,kT,hh,r,by rw[e];exact q⟩⟩
theorem XR (F:FnOk P w K mg base CX0 k f fd ps (jgo T D)):FnOk P w K mg base (CX1 P w) k f fd ps (spD T (Xs D)):=F.up.imp fun vs H Q E ae=>by
 obtain⟨W,aF,M,kT,hh,r,p⟩:=ae;unfold Xs at p
 cases e:D aF M with
 | ok v M'=>rw[e]at p;exact⟨W,aF,M,v,M',kT,hh,r,e,p⟩
 | exc _ _=>rw[e]at p;exact p.elim
 | bad=>rw[e]at p;exact p.elim
end
inductive Sl where
 | p (i:Nat) | k (j:Nat) | d (n:Nat)
def gen {α:Type}(sp:List Sl)(ds us ws:List α):List α:=sp.filterMap fun
 | .p i=>us[i]?
 | .k j=>ws[j]?
 | .d n=>ds[n]?
def ym {α:Type}(a b:Nat)(sp:List Sl)(ds us ws:List α):List α:=if us.length=a∧ws.length=b then gen sp ds us ws else []
theorem jbm {dV:List V}{ds:List Value}{vs:List V}{us:List Value}{zs:List V}{ws:List Value}(hd:yf dV ds)(hu:yf vs us)(hw:yf zs ws):∀(sp:List Sl),yf (gen sp dV vs zs) (gen sp ds us ws)
 | []=>.nil
 | c::r=>by
  have ih:=jbm hd hu hw r
  have get:∀{xs:List V}{ys:List Value}(i:Nat),yf xs ys->(∃ x y,xs[i]? = some x∧ys[i]? = some y∧yi x y)∨(xs[i]? = none∧ys[i]? = none):=fun{xs ys} i h=>by
   cases e:xs[i]? with
   | none=>exact .inr ⟨rfl,h.none_of e⟩
   | some x =>
    obtain⟨y,e2,r2⟩:=h.get e;exact .inl ⟨x,y,rfl,e2,r2⟩
  unfold gen;rw[filterMap_cons,filterMap_cons]
  cases c with
  | p i =>
   rcases get i hu with⟨x,y,e1,e2,r2⟩ | ⟨e1,e2⟩
   ·simp only[e1,e2];exact .cons r2 ih
   ·simp only[e1,e2];exact ih
  | k i =>
   rcases get i hw with⟨x,y,e1,e2,r2⟩ | ⟨e1,e2⟩
   ·simp only[e1,e2];exact .cons r2 ih
   ·simp only[e1,e2];exact ih
  | d i =>
   rcases get i hd with⟨x,y,e1,e2,r2⟩ | ⟨e1,e2⟩
   ·simp only[e1,e2];exact .cons r2 ih
   ·simp only[e1,e2];exact ih
theorem jbn {W:Wd}{dP:List PV}{dV:List V}{gy:List PV}{vs:List V}{gw:List PV}{zs:List V}(hd:yc W dP dV)(hu:yc W gy vs)(hw:yc W gw zs):∀(sp:List Sl),yc W (gen sp dP gy gw) (gen sp dV vs zs)
 | []=>rfl
 | c::r=>by
  have ih:=jbn hd hu hw r
  have get:∀{xs:List PV}{ys:List V}(i:Nat),yc W xs ys->(∃ x y,xs[i]? = some x∧ys[i]? = some y∧Rep W x y)∨(xs[i]? = none∧ys[i]? = none):=fun{xs ys} i h=>by
   cases e:xs[i]? with
   | none =>
    refine .inr ⟨rfl,List.getElem?_eq_none_iff.mpr ?_⟩;rw[h.length];exact List.getElem?_eq_none_iff.mp e
   | some x =>
    obtain⟨y,e2,r2⟩:=h.get e;exact .inl ⟨x,y,rfl,e2,r2⟩
  unfold gen;rw[filterMap_cons,filterMap_cons]
  cases c with
  | p i =>
   rcases get i hu with⟨x,y,e1,e2,r2⟩ | ⟨e1,e2⟩
   ·simp only[e1,e2];exact⟨y,_,rfl,r2,ih⟩
   ·simp only[e1,e2];exact ih
  | k i =>
   rcases get i hw with⟨x,y,e1,e2,r2⟩ | ⟨e1,e2⟩
   ·simp only[e1,e2];exact⟨y,_,rfl,r2,ih⟩
   ·simp only[e1,e2];exact ih
  | d i =>
   rcases get i hd with⟨x,y,e1,e2,r2⟩ | ⟨e1,e2⟩
   ·simp only[e1,e2];exact⟨y,_,rfl,r2,ih⟩
   ·simp only[e1,e2];exact ih
theorem jE {K:Frag}{fd:FuncData}{p0:Str}{pr ks:List Str}{a b:Nat}{sp:List Sl}{dV:List V}{ds:List Value}(hd:yf dV ds)
  (h:∀(s:Shared) (us ws:List Value),K.In s.heap->us.length=a->ws.length=b->BindsTo s fd ⟨us,ks.zip ws⟩ ((p0::pr).zip (gen sp ds us ws))):KBinds K fd (p0::pr) ks (ym a b sp ds) (ym a b sp dV) where
 to:=fun s us ws KX hl=>by
  unfold ym at hl ⊢
  by_cases hc:us.length=a∧ws.length=b
  ·rw[if_pos hc]at hl ⊢;exact h s us ws KX hc.1 hc.2
  ·rw[if_neg hc]at hl;cases hl
 rel:=fun{vs us zs ws} hu hw=>by
  unfold ym;rw[hu.length,hw.length];split
  ·exact jbm hd hu hw sp
  ·exact .nil
structure CalD (P:Program)(w:World)(K:Frag)(mg:Str->Option Value)(base:Heap)(T:Tb)(x:Str)(j:Nat)(ps ks:List Str)(a b:Nat)(sl:List Sl)(dP:List PV)(D:List PV->Sto->Res PV):Prop where
 ex:∃ f fd dV ds,FnOk P w K mg base (CX1 P w) j f fd ps (spD T D)∧mg x=some (.ref f)∧keepIn K (.ref f)=true∧KBinds K fd ps ks (ym a b sl ds) (ym a b sl dV)∧∀ W:Wd,W.T=T->yc W dP dV
def jo (D:List PV->Sto->Res PV)(a b:Nat)(sl:List Sl)(dP:List PV)(da dk:DA):DE:=fun ρ M=>(da ρ M).bind fun xs M1=>(dk ρ M1).bind fun zs M2=>D (ym a b sl dP xs zs) M2
section
variable {X:Cx}{T:Tb}{ES:St->XK}{x:Str}{j:Nat}{ps ks:List Str}{a b:Nat}{sl:List Sl}{dP:List PV}{D:List PV->Sto->Res PV}{p pos:Pos}{e:Expr}{es:List Expr}{aS:List Keyword}{da dk:DA}
theorem uF {W:Wd}{dV:List V}{gy:List PV}{vs:List V}{gw:List PV}{zs:List V}(hd:yc W dP dV)(hu:yc W gy vs)(hw:yc W gw zs):yc W (ym a b sl dP gy gw) (ym a b sl dV vs zs):=by
 unfold ym;rw[hu.length,hw.length];split
 ·exact jbn hd hu hw sl
 ·rfl
theorem jx:xW (CX1 X.prog X.w) X ES0:=fun aa σ H s e s' I h=>by
 obtain⟨_,_,_,_,_,_,_,_,_,_,_,_,_,_,q⟩:=h;exact q.elim
theorem jB {P:Program}{w:World}{K:Frag}{mg:Str->Option Value}{base:Heap}{N:List Str}{qual:Str}{scope:Scope}{f:Addr}{cd:Value}{A:Around}{outer:List Env}{s₀:Shared}{H₀:Hp}{E:XK} :
  xW (CX1 P w) (YH (CX1 P w) P w K mg base N qual scope f cd A outer s₀ H₀ E) fun _=>E:=fun aa σ H s e s' I h=>cx_pass aa σ H s e s' I h
theorem jgx {f:Addr}{fd:FuncData}{dV:List V}{ds:List Value}{aa:List (Addr×Obj)}{σ:St}{H:Hp}{s:Shared}{Q:VK}{us ws:List Value}{vs zs:List V}{sp:Sp}(F:FnOk X.prog X.w X.K X.mg X.base (CX1 X.prog X.w) j f fd ps sp)(hr:Room j X.A)(hb:KBinds X.K fd ps ks (ym a b sl ds) (ym a b sl dV))(hx:xW (CX1 X.prog X.w) X ES)
  (I:Inv X aa σ H s) (r:yf vs us) (rz:yf zs ws) (h:sp (ym a b sl dV vs zs) H Q (ES σ)):wpAny (model X.prog X.w) X.A (call (.ref f) us (ks.zip ws)) (EP X aa σ Q) X.xe s:=by
 have r2:=hb.rel r rz
 have hl:(ym a b sl ds us ws).length=ps.length:=by rw[<- r2.length];exact F.len _ _ _ _ h
 refine wpAny_call (codeAny_mono (F.run X.A X.stack s H ⟨us,ks.zip ws⟩ (ym a b sl ds us ws) (ym a b sl dV vs zs) Q (ES σ) hr I.env0 (hb.to s us ws I.kIn hl) r2 h) fun r s' hq=>?_)
 match r,hq with
 | .error e,hq=>exact hx aa σ H s e s' I hq
 | .ok (.ret u),hq=>exact I.after hq
theorem jh (C:CalD X.prog X.w X.K X.mg X.base T x j ps ks a b sl dP D)(hr:Room j X.A)(hg:Gl X x)(hx:xW (CX1 X.prog X.w) X ES)(ha:QA X T ES (e::es) da)(fK:QK X T ES aS dk)
  (bY:(backToKw pos (keywordEach aS X.env)).all (·.1.isSome)=true:=by rfl) (cU:(backToKw pos (keywordEach aS X.env)).filterMap (·.1)=ks:=by rfl)
  (dE:(x==("__debug__":Str))=false:=by decide) (he:starEach (e::es) X.env=(false,eval e X.env)::starEach es X.env:=by rfl)
  (aX:((backTo pos (starEach (e::es) X.env)).any (·.1) || (backToKw pos (keywordEach aS X.env)).any (·.1.isNone))=false:=by rfl):QE X T ES (.Call (.Name x p) (e::es) aS pos) (jo D a b sl dP da dk):=⟨by
 obtain⟨f,fd,dV,ds,F,hm,hk,hb,fQ⟩:=C.ex;rintro aa s σ H Q I ⟨W,ρ,M,k,hh,hs,q⟩;refine wpAny_Call_Name_kw (UG I hg hm ?_ dE)
 refine callWith_KW (h₀:=X.base) I.ok.mod.kin hk bY (thn (ha.h pos aa s σ H _ I ⟨W,ρ,M,k,hh,hs,yg.bind (Q1:=fun vs H1=>∃ W1 M1 xs,W1.T=T∧Held W1 M1 H1∧yl W1 ρ σ∧yc W1 xs vs∧yg W1 Rep ((dk ρ M1).bind fun zs M2=>D (ym a b sl dP xs zs) M2) Q (ES σ)) q
   fun W1 M1 xs vs H1 l1 h1 r1 q1=>⟨W1,M1,xs,l1.k.trans k,h1,hs.up l1,r1,q1⟩⟩) fun us s1 ae=>?_) aX he
 obtain⟨vs,H1,I1,r,W1,M1,xs,k1,h1,bc,r1,q1⟩:=ae;refine thn (fK.h pos aa s1 σ H1 (fun zs H2=>spD T D (ym a b sl dV vs zs) H2 Q (ES σ)) I1 ⟨W1,ρ,M1,k1,h1,bc,yg.bind q1 fun W2 M2 iF zs H2 l2 h2 r2 q2=>⟨W2,_,M2,l2.k.trans k1,h2,uF (fQ W2 (l2.k.trans k1)) (r1.up l2) r2,q2⟩⟩) fun ws s2 ae=>?_;obtain⟨zs,H2,I2,rz,q2⟩:=ae;refine⟨I2.kIn,?_⟩;rw[cU]
 exact jgx F hr hb hx I2 r rz q2⟩
def sRaise (c:Nat)(ds:DA):DS:=fun ρ M=>(ds ρ M).st ρ fun vs M1=>if vs.length<=sizeLine then .exc c ρ M1 else .bad
end
abbrev GM:=Sto->PV->List PV->Option (PV×Sto)
def rM (T:Tb)(g:GM):V->List V->Hp->VK->Prop:=fun v vs H Q=>∃ W M x xs z M',W.T=T∧Held W M H∧Rep W x v∧yc W xs vs∧g M x xs=some (z,M')∧∀ W' H' v',W.le W'->Held W' M' H'->Rep W' z v'->Q v' H'
def dMt (g:GM)(do_:DE)(da:DA):DE:=fun ρ M=>(do_ ρ M).bind fun x M1=>match yz M1 x with
 | none=>.bad
 | some _=>(da ρ M1).bind fun xs M2=>match g M2 x xs with
  | some (z,M3)=>.ok z M3
  | none=>.bad
section
variable {X:Cx}{T:Tb}{ES:St->XK}{o e:Expr}{es:List Expr}{name:Str}{apos ar:Pos}{gD:String}{g:GM}{do_:DE}{da:DA}
theorem mtr_imp {r r':V->List V->Hp->VK->Prop}(h:MtR X gD r)(k:∀ x xs H Q,r' x xs H Q->r x xs H Q):MtR X gD r':=fun aa s σ H x xs v us Q I rx rs q=>h aa s σ H x xs v us Q I rx rs (k _ _ _ _ q)
theorem jdY (slot:Slot "list" name gD)(iT:typeOf (.builtin gD)=pure (.type "method_descriptor"))(hm:MtR X gD (rM T g))(ho:QE X T ES o do_)(ha:QA X T ES (e::es) da)
  (bB:attributeBase o name X.env (eval o X.env)=eval o X.env:=by rfl)
  (fN:((backTo ar (starEach (e::es) X.env)).all (fun x=>!x.1) && (backToKw ar (keywordEach [] X.env)).all (fun x=>x.1.isSome)
   && decide ((e::es).length+([]:List Keyword).length+(if([]:List Keyword).isEmpty then 0 else 1)<30))=true:=by rfl)
  (bz:(apos.endLine==ar.line)=true:=by rfl) (hs:starEach (e::es) X.env=(false,eval e X.env)::starEach es X.env:=by rfl) (cI:(backTo ar (starEach es X.env)).any (·.1)=false:=by rfl) :
  QE X T ES (.Call (.Attribute o name apos) (e::es) [] ar) (dMt g do_ da) :=
 ⟨jN (pe_bm PySem.F.plainAttrs_list slot iT hm ho.h ha.h bB fN bz hs cI) fun σ H Q ae=>jC ae fun W ρ M k hh hs q=>⟨W,ρ,M,k,hh,hs,yg.bind q fun W1 M1 x v H1 l1 h1 r1 q1=>by
  split at q1
  ·exact q1.elim
  ·rename_i ys e1;obtain⟨a,vs,rfl,ha,_⟩:=xg h1 r1 e1;refine⟨.inl ⟨rfl,vs,SqL.of ha⟩,W1,ρ,M1,l1.k.trans k,h1,hs.up l1,yg.bind q1 fun W2 M2 xs us H2 l2 h2 r2 q2=>?_⟩;split at q2
   ·rename_i z M3 e2;exact⟨W2,M2,x,xs,z,M3,l2.k.trans (l1.k.trans k),h2,r1.up l2,r2,e2,q2⟩
   ·exact q2.elim⟩⟩
def jeE (M:Sto):PV->Option (Nat×List PV)
 | .ref i=>(match M.g i with
  | some (.lst xs)=>some (i,xs)
  | _=>none)
 | _=>none
theorem cell_at {W:Wd}{M:Sto}{H:Hp}{x:PV}{v:V}{i:Nat}{xs:List PV}(hh:Held W M H)(r:Rep W x v)(e:jeE M x=some (i,xs)):∃ a vs,v = .ref a∧W.α i=some a∧M.g i=some (.lst xs)∧H a=some (.lst vs)∧yc W xs vs:=by
 cases x with
 | ref j =>
  have e:(match M.g j with
   | some (.lst xs)=>some (j,xs)
   | _=>none)=some (i,xs):=e
  split at e
  ·rename_i ys e1;cases e;obtain⟨a,rfl,ea⟩:=r;obtain⟨b,ob,h1,h2,h3,vs,rfl,rr⟩:=hh.m _ _ e1;rw[ea]at h1;cases h1;exact⟨a,vs,rfl,ea,e1,h3,rr⟩
  ·cases e
 | _=>cases e
def yZ:GM:=fun M x ys=>match jeE M x,ys with
 | some (i,xs),[y]=>if xs.length<sizeLine then some (.non,M.set i (.lst (xs++[y])))else none
 | _,_=>none
theorem Jt:MtR X "list.append" (rM T yZ):=mtr_imp JW fun v vs H Q ae=>by
 obtain⟨W,M,x,ys,z,M',k,hh,rx,ry,e,q⟩:=ae;unfold yZ at e;split at e
 ·rename_i i xs y e1;split at e
  ·rename_i hz;cases e;obtain⟨a,ws,rfl,ea,eg,ha,rr⟩:=cell_at hh rx e1;obtain⟨u,rfl,ru⟩:=vH ry;refine⟨a,ws,u,rfl,rfl,ha,by rw[rr.length];exact hz,q W _ _ (.refl W) (hh.upd eg ea ⟨_,rfl,rr.append ⟨u,[],rfl,ru,rfl⟩⟩) rfl⟩
  ·cases e
 ·cases e
def gScr:G2:=fun _ x y=>match x,y with
 | .scr ns,.lst []=>some (.bl (!ns.isEmpty))
 | _,_=>none
theorem o_scr (hT:T.K=X.K)(hu:X.A.units<cLine):OpP X T (compareOp .NotEq) gScr:=vG (op_neL hu) fun v u H Q ae=>by
 obtain⟨W,M,x,y,w,k,hh,rx,ry,e,q⟩:=ae;unfold gScr at e;split at e
 ·rename_i ns;cases e;obtain⟨a,rfl,hq,_⟩:=rx;obtain⟨b,us,rfl,hb,rr⟩:=ry;cases rr
  have hq:SqL X.K H a (ns.map V.int):=by
   have:=(show Yn W.F H from hh.f).seq hq
   rw[k,hT]at this;exact this
  refine⟨a,b,ns.map V.int,[],rfl,rfl,hq,SqL.of (hh.f _ _ hb),?_,rfl,q W H _ (.refl W) hh ?_⟩
  ·rw[all_map];exact List.all_eq_true.mpr fun _ _=>rfl
  ·cases ns with
   | nil=>rfl
   | cons _ _=>rfl
 ·cases e
def jcQ:G1:=fun M xs=>match xs with
 | [.scr ns]=>some (.ref M.n,M.new (.lst (ns.map PV.int)))
 | _=>none
theorem b_listS (hT:T.K=X.K):yM X (.type "list") (rC T jcQ):=VV JI fun vs H Q ae=>by
 obtain⟨W,M,xs,z,M',k,hh,rx,e,q⟩:=ae;unfold jcQ at e;split at e
 ·rename_i ns;cases e;obtain⟨v,rfl,a,rfl,hq,_⟩:=vH rx
  have hq:SqL X.K H a (ns.map V.int):=by
   have:=(show Yn W.F H from hh.f).seq hq
   rw[k,hT]at this;exact this
  refine⟨a,_,rfl,.inl hq,fun l hl=>?_⟩;obtain⟨W2,l2,h2,r2⟩:=jba (xs:=ns.map PV.int) hh (yc.ints.mpr rfl) hl;exact q W2 _ _ l2 h2 r2
 ·cases e
theorem XG {A:Around}{k:Nat}(hr:Room k A):A.units+100<cLine:=by have:=hr.un;omega
end
@[simp] theorem xu {α : Type}{a : α}{M : Sto} : (Res.ok a M).noX = .ok a M := rfl
@[simp] theorem noX_bad {α : Type} : (Res.bad : Res α).noX = .bad := rfl
@[simp] theorem jez {x : PV}{ρ : En}{M : Sto} : dC x ρ M = .ok x M := rfl
@[simp] theorem jz {x : PV}{r : En}{M : Sto} : ya 0 (some x::r) M = .ok x M := rfl
@[simp] theorem jF {i : Nat}{o : Option PV}{r : En}{M : Sto} : ya (i+1) (o::r) M=ya i r M := rfl
@[simp] theorem ju {ρ : En}{M : Sto} : yb ρ M = .ok [] M := rfl
@[simp] theorem jp {d : DE}{ds : DA}{ρ : En}{M : Sto} : jb d ds ρ M=(d ρ M).bind fun x M1 => (ds ρ M1).bind fun xs M2 => .ok (x::xs) M2 := rfl
@[simp] theorem jY {g : G2}{da db : DE}{ρ : En}{M : Sto} : dOp g da db ρ M=(da ρ M).bind fun x M1 => (db ρ M1).bind fun y M2 => ofO (g M2 x y) M2 := rfl
@[simp] theorem jbD {d : DE}{ρ : En}{M : Sto} : yq d ρ M=(d ρ M).bind fun x M1 => ofO (asB x) M1 := rfl
@[simp] theorem asB_bl {b : Bool} : asB (.bl b)=some b := rfl
@[simp] theorem jcV {g : G1}{ds : DA}{ρ : En}{M : Sto} : dCB g ds ρ M=(ds ρ M).bind fun xs M1 => match g M1 xs with
 | some (z,M2)=>.ok z M2
 | none=>.bad:=rfl
@[simp] theorem dIf_eq {t : DT}{da db : DE}{ρ : En}{M : Sto} : dIf t da db ρ M=(t ρ M).bind fun c M1 => if c=true then da ρ M1 else db ρ M1 := rfl
@[simp] theorem dAnd_eq {da db : DT}{ρ : En}{M : Sto} : dAnd da db ρ M=(da ρ M).bind fun c M1 => if c=true then db ρ M1 else .ok false M1 := rfl
@[simp] theorem dOr_eq {da db : DT}{ρ : En}{M : Sto} : dOr da db ρ M=(da ρ M).bind fun c M1 => if c=true then .ok true M1 else db ρ M1 := rfl
@[simp] theorem dNot_eq {da : DT}{ρ : En}{M : Sto} : Vj da ρ M=(da ρ M).bind fun c M1 => .ok (!c) M1 := rfl
@[simp] theorem dTru_eq {d : DE}{ρ : En}{M : Sto} : Vi d ρ M=(d ρ M).bind fun x M1 => ofO (jgf M1 x) M1 := rfl
@[simp] theorem truP_bl {b : Bool}{M : Sto} : jgf M (.bl b)=some b := rfl
@[simp] theorem dUn_eq {g : Sto -> PV -> Option PV}{d : DE}{ρ : En}{M : Sto} : dUn g d ρ M=(d ρ M).bind fun x M1 => ofO (g M1 x) M1 := rfl
@[simp] theorem gNeg_int {M : Sto}{i : Int} : gNeg M (.int i)=some (.int (-i)) := rfl
@[simp] theorem jT {D : List PV -> Sto -> Res PV}{a b : Nat}{sl : List Sl}{dP : List PV}{da dk : DA}{ρ : En}{M : Sto} : jo D a b sl dP da dk ρ M=(da ρ M).bind fun xs M1 => (dk ρ M1).bind fun zs M2 => D (ym a b sl dP xs zs) M2 := rfl
@[simp] theorem dTup_eq {ds : DA}{ρ : En}{M : Sto} : jfI ds ρ M=(ds ρ M).bind fun xs M1 => if xs.length<=sizeLine then .ok (.tup xs) M1 else .bad := rfl
@[simp] theorem jex {ds : DA}{ρ : En}{M : Sto} : jcU ds ρ M=(ds ρ M).bind fun xs M1 => if xs.length<=sizeLine then .ok (.lst xs) M1 else .bad := rfl
@[simp] theorem XS {ds : DA}{ρ : En}{M : Sto} : xP ds ρ M=(ds ρ M).bind fun xs M1 => if xs.length<=sizeLine then .ok (.ref M1.n) (M1.new (.lst xs))else .bad := rfl
@[simp] theorem sNext_eq {ρ : En}{M : Sto} : yG ρ M = .nx ρ M := rfl
@[simp] theorem jjd {d1 d2 : DS}{ρ : En}{M : Sto} : yh d1 d2 ρ M=(d1 ρ M).then d2 := rfl
@[simp] theorem jjc {i : Nat}{d : DE}{ρ : En}{M : Sto} : yK i d ρ M=(d ρ M).st ρ fun v M1 => .nx (ρ.set i (some v)) M1 := rfl
@[simp] theorem sRet_eq {d : DE}{ρ : En}{M : Sto} : yR d ρ M=(d ρ M).st ρ fun v M1 => .rt v M1 := rfl
@[simp] theorem sExpr_eq {d : DE}{ρ : En}{M : Sto} : yA d ρ M=(d ρ M).st ρ fun _ M1 => .nx ρ M1 := rfl
@[simp] theorem sIf_eq {t : DT}{d1 d2 : DS}{ρ : En}{M : Sto} : sIf t d1 d2 ρ M=(t ρ M).st ρ fun c M1 => if c=true then d1 ρ M1 else d2 ρ M1 := rfl
@[simp] theorem sRaise_eq {c : Nat}{ds : DA}{ρ : En}{M : Sto} : sRaise c ds ρ M=(ds ρ M).st ρ fun vs M1 => if vs.length<=sizeLine then .exc c ρ M1 else .bad := rfl
@[simp] theorem fin_rt {v : PV}{M : Sto} : fin (.rt v M) = .ok v M := rfl
@[simp] theorem fin_nx {ρ : En}{M : Sto} : fin (.nx ρ M) = .ok .non M := rfl
@[simp] theorem fin_exc {c : Nat}{ρ : En}{M : Sto} : fin (.exc c ρ M) = .exc c M := rfl
@[simp] theorem gAddI_int {M : Sto}{i j : Int} : XM M (.int i) (.int j)=some (.int (i+j)) := rfl
@[simp] theorem jhT {M : Sto}{i j : Int} : jfC M (.int i) (.int j)=some (.int (i-j)) := rfl
@[simp] theorem gLt_int {M : Sto}{i j : Int} : gLt M (.int i) (.int j)=some (.bl (decide (i<j))) := rfl
@[simp] theorem gLe_int {M : Sto}{i j : Int} : gLe M (.int i) (.int j)=some (.bl (decide (i<=j))) := rfl
@[simp] theorem gGt_int {M : Sto}{i j : Int} : gGt M (.int i) (.int j)=some (.bl (decide (j<i))) := rfl
@[simp] theorem gGe_int {M : Sto}{i j : Int} : gGe M (.int i) (.int j)=some (.bl (decide (j<=i))) := rfl
theorem XI {M:Sto}{i j:Int}(h:(-(2 ^ 64)<i∧i<2 ^ 64)∨(-(2 ^ 64)<j∧j<2 ^ 64)):jbo M (.int i) (.int j)=some (.int (i*j)):=by
 show orG VL jcP M (.int i) (.int j)=_;unfold orG
 have:VL M (.int i) (.int j)=some (.int (i*j)):=by
  show(if cMul i j=true then _ else _)=_;rw[if_pos];unfold cMul;simp only[Bool.or_eq_true,and_eq_true,decide_eq_true_eq];exact h
 rw[this]
theorem XJ {M:Sto}{i j:Int}(h:0<j)(h2:j<1073741824):jhX M (.int i) (.int j)=some (.int (i/j)):=by
 show(if(decide (0<j) && decide (j<1073741824))=true then _ else _)=_;rw[if_pos (by simp only[and_eq_true,decide_eq_true_eq];exact⟨h,h2⟩)]
theorem vp {M:Sto}{i j:Int}(h:0<j):jbp M (.int i) (.int j)=some (.int (i%j)):=by
 show(if decide (0<j)=true then _ else _)=_;rw[if_pos (decide_eq_true h)]
theorem jhU {M:Sto}{i j:Int}(h:0<=j)(h2:j<=1000000)(h3:i.natAbs<2 ^ 64):gPow M (.int i) (.int j)=some (.int (i ^ j.toNat)):=by
 show(if(decide (0<=j) && decide (j<=1000000) && decide (i.natAbs<2 ^ 64))=true then _ else _)=_;rw[if_pos (by simp only[and_eq_true,decide_eq_true_eq];exact⟨⟨h,h2⟩,h3⟩)]
structure Town (M:Sto)(ns:List Int)(c:Int):Prop where
 row:M.g 0=some (.lst (ns.map PV.int))
 tw:M.g 1=some (.lst [.ref 0,.int c])
 ne:ns≠[]
 n:2<=M.n
structure Off (M M':Sto):Prop where
 n:M.n<=M'.n
 g:∀ i,2<=i->i<M.n->M'.g i=M.g i
theorem Off.refl (M:Sto):Off M M:=⟨le_refl _,fun _ _ _=>rfl⟩
theorem Off.trans {A B C:Sto}(h:Off A B)(k:Off B C):Off A C:=⟨le_trans h.n k.n,fun i hi hn=>(k.g i hi (lt_of_lt_of_le hn h.n)).trans (h.g i hi hn)⟩
theorem yF {M:Sto}{i:Nat}{xs:List PV}(h:M.g i=some (.lst xs)):yz M (.ref i)=some xs:=by
 show(match M.g i with
  | some (.lst xs)=>some xs
  | _=>none)=some xs
 rw[h]
theorem uz {M:Sto}{i:Nat}{xs:List PV}(h:M.g i=some (.lst xs)):JL M (.ref i)=some xs:=yF h
@[simp] theorem anyP_lst {M : Sto}{xs : List PV} : JL M (.lst xs)=some xs := rfl
@[simp] theorem anyP_tup {M : Sto}{xs : List PV} : JL M (.tup xs)=some xs := rfl
@[simp] theorem Xb {M : Sto}{xs : List PV} : yz M (.lst xs)=some xs := rfl
theorem uT {M:Sto}{x:PV}{xs:List PV}{i:Int}(h:JL M x=some xs):gIx M x (.int i)=atI xs i:=by
 show(JL M x).bind _=_;rw[h];rfl
theorem jal {α:Type}{xs:List α}{i:Int}(h:0<=i)(h2:i<xs.length):atI xs i=xs[i.toNat]?:=by
 unfold atI ixN;rw[if_pos h,if_pos h2];rfl
theorem xT {M:Sto}{x:PV}{xs:List PV}(h:JL M x=some xs):uq M x=some (.int xs.length):=by
 unfold uq;rw[h]
@[simp] theorem jhl {f : Sto -> PV -> Option PV}{M : Sto}{x : PV} : one f M [x]=match f M x with
  | some z=>some (z,M)
  | none=>none:=rfl
theorem vz {α:Type}(f0:α->PV)(p:α->Bool)(f:α->PV){bnd:PV->En->Option En}{r:En}{dt:DT}{de:DE}{M:Sto}:∀(as:List α),(∀ a∈as,∃ ρ,bnd (f0 a) r=some ρ∧dt ρ M = .ok (p a) M∧(p a=true->de ρ M = .ok (f a) M)) ->
  uw bnd r dt de (as.map f0) M = .ok ((as.filter p).map f) M
 | [],_=>rfl
 | a::as,h=>by
  have ih:=vz f0 p f as fun b hb=>h b (mem_cons_of_mem _ hb);obtain⟨ρ,e1,e2,e3⟩:=h a mem_cons_self;show uw bnd r dt de (f0 a::as.map f0) M=_;unfold uw;simp only[e1,e2,xu,Res.bind_ok]
  cases hp:p a with
  | false=>simp[hp,ih]
  | true=>simp[hp,ih,e3 hp]
theorem jW {α:Type}(f0:α->PV)(f:α->PV){bnd:PV->En->Option En}{r:En}{dt:DT}{de:DE}{M:Sto}(as:List α)(h:∀ a∈as,∃ ρ,bnd (f0 a) r=some ρ∧dt ρ M = .ok true M∧de ρ M = .ok (f a) M) :
  uw bnd r dt de (as.map f0) M = .ok (as.map f) M:=by
 have:=vz (bnd:=bnd) (r:=r) (dt:=dt) (de:=de) (M:=M) f0 (fun _=>true) f as fun a ha=>by
  obtain⟨ρ,h1,h2,h3⟩:=h a ha;exact⟨ρ,h1,h2,fun _=>h3⟩
 rw[this,List.filter_eq_self.mpr (fun _ _=>rfl)]
theorem jK {di:En->Sto->Res ItP}{bnd:PV->En->Option En}{js:List Nat}{dt:DT}{de:DE}{ρ:En}{M M1 M2:Sto}{xs ys:List PV}(h:di ρ M = .ok (.fix xs) M1)(hl:xs.length<sizeLine)(e:uw bnd (rest js ρ) dt de xs M1 = .ok ys M2):yI di bnd js dt de ρ M = .ok (.lst ys) M2:=by
 unfold yI;rw[h];show(if yj (.fix xs) M1<=sizeLine then _ else _)=_;rw[if_pos (show yj (.fix xs) M1<=sizeLine from hl)];rw[VT (all:=xs) (xs:=xs) (i:=0) (n:=yj (.fix xs) M1) rfl (lt_succ_self _),e];rfl
@[simp] theorem xV {d : DE}{ρ : En}{M M1 : Sto}{xs : List PV}(h : d ρ M = .ok (.lst xs) M1) : dIt d ρ M = .ok (.fix xs) M1 := by
 unfold dIt;rw[h];rfl
theorem xm {lo:Int}{n:Nat}:(ve lo n).length=n:=by simp[ve]
theorem xL {g:DG}{db:DS}(I:Nat->En->Sto->Prop):∀(xs:List PV) (k:Nat) (ρ:En) (M:Sto),I k ρ M->(∀ i x,xs[i]? = some x->∀ ρ M,I (k+i) ρ M->∃ ρ1 ρ' M',g x ρ=some ρ1∧db ρ1 M = .nx ρ' M'∧I (k+i+1) ρ' M')->∃ ρ' M',xc g db xs ρ M = .nx ρ' M'∧I (k+xs.length) ρ' M'
 | [],k,ρ,M,h,_=>⟨ρ,M,rfl,h⟩
 | x::xs,k,ρ,M,h,hs=>by
  obtain⟨ρ1,ρ2,M2,e1,e2,h2⟩:=hs 0 x rfl ρ M h
  obtain⟨ρ',M',e,q⟩:=xL I xs (k+1) ρ2 M2 h2 fun i z hz ρ M hI=>by
   have:=hs (i+1) z (by simpa using hz) ρ M (by rw[show k+(i+1)=k+1+i by omega];exact hI)
   rw[show k+(i+1)+1=k+1+i+1 by omega]at this;exact this
  refine⟨ρ',M',?_,by rw[length_cons,show k+(xs.length+1)=k+1+xs.length by omega];exact q⟩;unfold xc;simp only[e1,e2];exact e
theorem JE {bnd:PV->En->Option En}{r:En}{dt:DT}{de:DE}(I:Nat->List PV->Sto->Prop):∀(xs:List PV) (k:Nat) (acc:List PV) (M:Sto),I k acc M ->
  (∀ i x,xs[i]? = some x->∀ acc M,I (k+i) acc M->∃ ρ b M1,bnd x r=some ρ∧dt ρ M = .ok b M1∧(b=false->I (k+i+1) acc M1)∧(b=true->∃ y M2,de ρ M1 = .ok y M2∧I (k+i+1) (acc++[y]) M2)) ->
  ∃ ys M',uw bnd r dt de xs M = .ok ys M'∧I (k+xs.length) (acc++ys) M'
 | [],k,acc,M,h,_=>⟨[],M,rfl,by rw[append_nil];exact h⟩
 | x::xs,k,acc,M,h,hs=>by
  obtain⟨ρ,b,M1,e1,e2,hf,ht⟩:=hs 0 x rfl acc M h
  have ck:∀ i z,xs[i]? = some z->∀ acc M,I (k+1+i) acc M->∃ ρ b M1,bnd z r=some ρ∧dt ρ M = .ok b M1∧(b=false->I (k+1+i+1) acc M1)∧(b=true->∃ y M2,de ρ M1 = .ok y M2∧I (k+1+i+1) (acc++[y]) M2):=fun i z hz acc M hI=>by
   have:=hs (i+1) z (by simpa using hz) acc M (by rw[show k+(i+1)=k+1+i by omega];exact hI)
   rw[show k+(i+1)+1=k+1+i+1 by omega]at this;exact this
  unfold uw;simp only[e1,e2,xu,Res.bind_ok];rw[length_cons,show k+(xs.length+1)=k+1+xs.length by omega]
  cases b with
  | false =>
   obtain⟨ys,M',e,q⟩:=JE I xs (k+1) acc M1 (hf rfl) ck;exact⟨ys,M',by simpa using e,q⟩
  | true =>
   obtain⟨y,M2,e3,h3⟩:=ht rfl;obtain⟨ys,M',e,q⟩:=JE I xs (k+1) (acc++[y]) M2 h3 ck;refine⟨y::ys,M',?_,by simpa using q⟩;simp[e3,e]
theorem ue:∀(ns:List Int),yt (ns.map PV.int)=true
 | []=>rfl
 | n::ns=>by
  show(plain (.int n) && yt (ns.map PV.int))=true;rw[ue ns];rfl
theorem VO:∀(ns:List Int),Yi (ns.map PV.int)=true
 | []=>rfl
 | n::ns=>by
  show(decide (dep (.int n)<=60) && Yi (ns.map PV.int))=true;rw[VO ns];rfl
theorem jiG (ns:List Int)(k:Int):((ns.map PV.int).any fun z=>eqB z (.int k))=decide (k∈ns):=by
 rw[List.any_map,Bool.eq_iff_iff,any_eq_true,decide_eq_true_eq];constructor
 ·rintro⟨x,hx,e⟩;have e:(x==k)=true:=e;rw[<- beq_iff_eq.mp e];exact hx
 ·intro h;exact⟨k,h,beq_self_eq_true k⟩
theorem um {neg:Bool}{M:Sto}{x:PV}{k:Int}{ns:List Int}(h:JL M x=some (ns.map PV.int)):gIn neg M (.int k) x=some (.bl (if neg then !decide (k∈ns)else decide (k∈ns))):=by
 unfold gIn;rw[h];show(if _ then some (PV.bl (if neg=true then !((ns.map PV.int).any fun z=>eqB z (.int k))else(ns.map PV.int).any fun z=>eqB z (.int k)))else none)=_;rw[if_pos ⟨rfl,ue ns,VO ns⟩,jiG]
theorem jhV {M:Sto}{x:PV}{xs:List PV}{k:Int}(hx:yz M x=some xs)(h1:-(2 ^ 63)<=k)(h2:k<2 ^ 63)(h3:xs.length*k.toNat<=sizeLine):jbo M x (.int k)=some (.lst (replicate k.toNat xs).flatten):=by
 have e1:VL M x (.int k)=none:=by
  cases x with
  | int _=>cases hx
  | _=>rfl
 show orG VL jcP M x (.int k)=_;unfold orG;rw[e1];show jcP M x (.int k)=_;unfold jcP;simp only[hx];rw[if_pos ⟨h1,h2,h3⟩]
def Tru (r:RS):Prop:=∃ M',fin r = .ok (.bl true) M'
section
variable {i:Nat}{d:DE}{c d1:DS}{t:DT}{ρ ρ':En}{M M1:Sto}{v:PV}{g:DG}{F:Nat}{b7:En->Sto->Res ItP}{xs:List PV}
theorem uk (h:d ρ M = .ok v M1)(k:Tru (c (ρ.set i (some v)) M1)):Tru (yh (yK i d) c ρ M):=by
 unfold yh yK;rw[h];exact k
theorem go_no (h:t ρ M = .ok false M1)(k:Tru (c ρ M1)):Tru (yh (sIf t d1 yG) c ρ M):=by
 unfold yh sIf;rw[h];exact k
theorem jhP (h:b7 ρ M = .ok (.fix xs) M1){M2:Sto}(hl:xc g d1 xs ρ M1 = .nx ρ' M2)(k:Tru (c ρ' M2)):Tru (yh (uJ F b7 g d1) c ρ M):=by
 unfold yh;rw[vX h,hl];exact k
theorem go_ret (h:d ρ M = .ok (.bl true) M1):Tru (yR d ρ M):=by
 unfold yR;rw[h];exact⟨_,rfl⟩
theorem jR {r:RS}(h:d ρ M = .ok v M1)(k:c (ρ.set i (some v)) M1=r):yh (yK i d) c ρ M=r:=by
 unfold yh yK;rw[h];exact k
theorem jeh {r:RS}(h:t ρ M = .ok false M1)(k:c ρ M1=r):yh (sIf t d1 yG) c ρ M=r:=by
 unfold yh sIf;rw[h];exact k
theorem nx_last (h:t ρ M = .ok false M1):sIf t d1 yG ρ M = .nx ρ M1:=by
 unfold sIf;rw[h];rfl
theorem jho {r:RS}(h:b7 ρ M = .ok (.fix xs) M1){M2:Sto}(hl:xc g d1 xs ρ M1 = .nx ρ' M2)(k:c ρ' M2=r):yh (uJ F b7 g d1) c ρ M=r:=by
 unfold yh;rw[vX h,hl];exact k
theorem jO (h:d ρ M = .ok v M1):yR d ρ M = .rt v M1:=by
 unfold yR;rw[h];rfl
theorem jV {n N:Nat}{aF:List PV}{ρ:En}{dd:DS}(hn:aF.length=n)(hρ:aF.map some++replicate (N-n) none=ρ)(h:dd ρ M = .rt v M1):yu n N dd aF M = .ok v M1:=by
 unfold yu;rw[if_pos hn,hρ,h];rfl
theorem xE {r:RS}(h:d ρ M = .ok v M1)(k:c ρ M1=r):yh (yA d) c ρ M=r:=by
 unfold yh yA;rw[h];exact k
end
@[simp] theorem dSl_eq {d : DE}{dl dh : En -> Sto -> Res (Option Int)}{ρ : En}{M : Sto} : dSl d dl dh ρ M=(d ρ M).bind fun x M1 => (dl ρ M1).bind fun lo M2 => (dh ρ M2).bind fun hi M3 => ofO (gSl M3 x lo hi) M3 := rfl
@[simp] theorem dON_eq {ρ : En}{M : Sto} : dON ρ M = .ok none M := rfl
@[simp] theorem dOS_eq {d : DE}{ρ : En}{M : Sto} : dOS d ρ M=(d ρ M).bind fun x M1 => match x with
 | .int i=>.ok (some i) M1
 | _=>.bad:=rfl
end L3
namespace Srt
open PySem PySem.W PyProof.Rows
def run {α:Type}(lt:Nat->Nat->Bool):KasT α->α
 | .ret a=>a
 | .ask i j k=>run lt (k (lt i j))
theorem vd {α β:Type}{lt:Nat->Nat->Bool}{f:α->KasT β}:∀ t:KasT α,run lt (t.bind f)=run lt (f (run lt t))
 | .ret _=>rfl
 | .ask i j k=>vd (k (lt i j))
section
variable {r:Nat->Int}
def Kp (r:Nat->Int)(p:Array Nat)(i:Nat):Int:=r (p.getD i 0)
abbrev lo (r:Nat->Int):Nat->Nat->Bool:=fun i j=>decide (r i<r j)
theorem uA {p q:Array Nat}{i j:Nat}(h:p[i]? = q[j]?):Kp r p i=Kp r q j:=by
 unfold Kp;rw[getD_eq_getD_getElem?,getD_eq_getD_getElem?,h]
theorem jdi {p:Array Nat}{i j:Nat}(hj:j<=p.size)(k:Nat):Kp r (kas_rev p i j) k=if i<=k∧k<j then Kp r p (i+j-1-k)else Kp r p k:=by
 have e:=getElem?_mirror_all (xs:=p) (i:=i) hj k;unfold kas_rev;split
 ·rename_i h;rw[if_pos h]at e;exact uA e
 ·rename_i h;rw[if_neg h]at e;exact uA e
theorem Ud {p:Array Nat}{fh d:Nat}(hs:fh<p.size)(hd:d<=fh)(k:Nat):Kp r (bubble p fh d) k=if k=fh-d then Kp r p fh else if fh-d<k∧k<=fh then Kp r p (k-1)else Kp r p k:=by
 have e:=getElem?_bubble hs d hd k;split
 ·rename_i h;rw[if_pos h]at e;exact uA e
 ·rename_i h;rw[if_neg h]at e;split
  ·rename_i h2;rw[if_pos h2]at e;exact uA e
  ·rename_i h2;rw[if_neg h2]at e;exact uA e
theorem vY (p:Array Nat)(i j:Nat):(kas_rev p i j).Perm p:=mirror_perm _ _ _ _
theorem Xg (p:Array Nat)(i j:Nat):(kas_rev p i j).size=p.size:=mirror_size _ _ _ _
def Up (r:Nat->Int)(p:Array Nat)(m:Nat):Prop:=∀ i j,i<=j->j<m->Kp r p i<=Kp r p j
def Dn (r:Nat->Int)(p:Array Nat)(m:Nat):Prop:=∀ i j,i<=j->j<m->Kp r p j<=Kp r p i
theorem jiQ {p:Array Nat}{m:Nat}(h:Up r p m)(h1:1<=m)(hs:Kp r p (m-1)<=Kp r p m):Up r p (m+1):=by
 intro i j cp hj
 by_cases gP:j=m
 ·subst gP
  by_cases hi:i=j
  ·subst hi;exact Int.le_refl _
  ·have:=h i (j-1) (by omega) (by omega)
   omega
 ·exact h i j cp (by omega)
theorem jer {p:Array Nat}{m:Nat}(h:Dn r p m)(h1:1<=m)(hs:Kp r p m<=Kp r p (m-1)):Dn r p (m+1):=by
 intro i j cp hj
 by_cases gP:j=m
 ·subst gP
  by_cases hi:i=j
  ·subst hi;exact Int.le_refl _
  ·have:=h i (j-1) (by omega) (by omega)
   omega
 ·exact h i j cp (by omega)
theorem jan {p:Array Nat}:∀(f n:Nat),1<=n->Up r p n->n<=run (lo r) (kas_asc p f n)∧run (lo r) (kas_asc p f n)<=n+f∧Up r p (run (lo r) (kas_asc p f n))∧(run (lo r) (kas_asc p f n)<n+f->Kp r p (run (lo r) (kas_asc p f n))<Kp r p (run (lo r) (kas_asc p f n)-1))
 | 0,n,_,hu=>⟨le_refl _,le_refl _,hu,fun h=>absurd h (lt_irrefl _)⟩
 | f+1,n,h1,hu=>by
  have e:run (lo r) (kas_asc p (f+1) n)=if Kp r p n<Kp r p (n-1)then n else run (lo r) (kas_asc p f (n+1)):=by
   show run (lo r) (if decide (Kp r p n<Kp r p (n-1))=true then KasT.ret n else kas_asc p f (n+1))=_
   by_cases h:Kp r p n<Kp r p (n-1)
   ·rw[if_pos (decide_eq_true h),if_pos h];rfl
   ·rw[if_neg (by simpa using h),if_neg h]
  rw[e]
  by_cases h:Kp r p n<Kp r p (n-1)
  ·rw[if_pos h];exact⟨le_refl _,by omega,hu,fun _=>h⟩
  ·rw[if_neg h];obtain⟨a,b,c,d⟩:=jan f (n+1) (by omega) (jiQ hu h1 (by omega));exact⟨by omega,by omega,c,fun z=>d (by omega)⟩
theorem Xh {p:Array Nat}{i j:Nat}(hj:j<=p.size)(he:∀ k,i<=k->k<j->Kp r p k=Kp r p (j-1))(k:Nat):Kp r (kas_rev p i j) k=Kp r p k:=by
 rw[jdi hj];split
 ·rename_i h;rw[he (i+j-1-k) (by omega) (by omega),he k h.1 h.2]
 ·rfl
theorem Jy:∀(f:Nat) (p:Array Nat) (n q:Nat),1<=n->n+f<=p.size->q+1<=n->Dn r p n->(∀ k,n-(q+1)<=k->k<n->Kp r p k=Kp r p (n-1)) ->
  ∃ p' n' q',run (lo r) (kas_desc f p n q)=(p',n',q')∧p'.Perm p∧(∀ k,Kp r p' k=Kp r p k)∧n<=n'∧n'<=n+f∧q'+1<=n'∧Dn r p' n'∧(∀ k,n'-(q'+1)<=k->k<n'->Kp r p' k=Kp r p' (n'-1))
 | 0,p,n,q,_,_,hq,hd,he=>⟨p,n,q,rfl,.refl _,fun _=>rfl,le_refl _,le_refl _,hq,hd,he⟩
 | f+1,p,n,q,h1,hs,hq,hd,he=>by
  by_cases h:Kp r p n<Kp r p (n-1)
  ·have c6:=jer hd h1 (by omega)
   by_cases hq0:q > 0
   ·have e:run (lo r) (kas_desc (f+1) p n q)=run (lo r) (kas_desc f (kas_rev p (n-(q+1)) n) (n+1) 0):=by
     show run (lo r) (if decide (Kp r p n<Kp r p (n-1))=true then(if q > 0 then kas_desc f (kas_rev p (n-(q+1)) n) (n+1) 0 else kas_desc f p (n+1) 0)else _)=_;rw[if_pos (decide_eq_true h),if_pos hq0]
    have hk:=Xh (r:=r) (p:=p) (i:=n-(q+1)) (j:=n) (by omega) he
    have iw:Dn r (kas_rev p (n-(q+1)) n) (n+1):=fun i j cp hj=>by rw[hk,hk];exact c6 i j cp hj
    obtain⟨p',n',q',a,b,c,d,g,i,j,k⟩:=Jy f (kas_rev p (n-(q+1)) n) (n+1) 0 (by omega) (by rw[Xg];omega) (by omega) iw (fun k a b=>by rw[show k=n+1-1 by omega]);exact⟨p',n',q',e.trans a,b.trans (vY _ _ _),fun z=>(c z).trans (hk z),by omega,by omega,i,j,k⟩
   ·have e:run (lo r) (kas_desc (f+1) p n q)=run (lo r) (kas_desc f p (n+1) 0):=by
     show run (lo r) (if decide (Kp r p n<Kp r p (n-1))=true then(if q > 0 then kas_desc f (kas_rev p (n-(q+1)) n) (n+1) 0 else kas_desc f p (n+1) 0)else _)=_;rw[if_pos (decide_eq_true h),if_neg hq0]
    obtain⟨p',n',q',a,b,c,d,g,i,j,k⟩:=Jy f p (n+1) 0 (by omega) (by omega) (by omega) c6 (fun k a b=>by rw[show k=n+1-1 by omega]);exact⟨p',n',q',e.trans a,b,c,by omega,by omega,i,j,k⟩
  ·by_cases h2:Kp r p (n-1)<Kp r p n
   ·have e:run (lo r) (kas_desc (f+1) p n q)=(p,n,q):=by
     show run (lo r) (if decide (Kp r p n<Kp r p (n-1))=true then _ else KasT.ask (p.getD (n-1) 0) (p.getD n 0) fun d=>if d=true then KasT.ret (p,n,q)else kas_desc f p (n+1) (q+1))=_;rw[if_neg (by simpa using h)];show run (lo r) (if decide (Kp r p (n-1)<Kp r p n)=true then KasT.ret (p,n,q)else kas_desc f p (n+1) (q+1))=_;rw[if_pos (decide_eq_true h2)];rfl
    exact⟨p,n,q,e,.refl _,fun _=>rfl,le_refl _,by omega,hq,hd,he⟩
   ·have e:run (lo r) (kas_desc (f+1) p n q)=run (lo r) (kas_desc f p (n+1) (q+1)):=by
     show run (lo r) (if decide (Kp r p n<Kp r p (n-1))=true then _ else KasT.ask (p.getD (n-1) 0) (p.getD n 0) fun d=>if d=true then KasT.ret (p,n,q)else kas_desc f p (n+1) (q+1))=_;rw[if_neg (by simpa using h)];show run (lo r) (if decide (Kp r p (n-1)<Kp r p n)=true then KasT.ret (p,n,q)else kas_desc f p (n+1) (q+1))=_;rw[if_neg (by simpa using h2)]
    have heq:Kp r p n=Kp r p (n-1):=by omega
    obtain⟨p',n',q',a,b,c,d,g,i,j,k⟩:=Jy f p (n+1) (q+1) (by omega) (by omega) (by omega) (jer hd h1 (by omega)) (fun k a b=>by
     rw[show n+1-1=n by omega]
     by_cases hk:k=n
     ·rw[hk]
     ·rw[heq];exact he k (by omega) (by omega))
    exact⟨p',n',q',e.trans a,b,c,by omega,by omega,i,j,k⟩
theorem jav {p:Array Nat}{n nrem:Nat}(h1:1<=n)(hn:n<=nrem)(hs:nrem<=p.size)(hd:Dn r p n):∃ m p',run (lo r) (kas_tail3 n nrem p)=(m,p')∧p'.Perm p∧Up r p' m∧1<=m∧m<=nrem:=by
 unfold kas_tail3;rw[vd]
 have hu:Up r (kas_rev p 0 n) n:=fun i j cp hj=>by
  rw[jdi (by omega),jdi (by omega),if_pos ⟨by omega,by omega⟩,if_pos ⟨by omega,by omega⟩];exact hd _ _ (by omega) (by omega)
 obtain⟨a,b,c,_⟩:=jan (r:=r) (p:=kas_rev p 0 n) (nrem-n) n h1 hu;exact⟨_,_,rfl,vY _ _ _,c,by omega,by omega⟩
theorem jaV {p:Array Nat}{n nrem:Nat}(hn:n+1<=nrem)(hs:nrem<=p.size)(hd:Dn r p (n+1)):∃ m p',run (lo r) (kas_descPart n nrem p)=(m,p')∧p'.Perm p∧Up r p' m∧1<=m∧m<=nrem:=by
 unfold kas_descPart;rw[vd];obtain⟨p',n',q',e,b,c,d,g,i,j,k⟩:=Jy (r:=r) (nrem-(n+1)) p (n+1) 0 (by omega) (by omega) (by omega) hd (fun k a b=>by rw[show k=n+1-1 by omega]);rw[e];dsimp only;have hsz:p'.size=p.size:=b.size_eq
 by_cases hq:q' > 0
 ·rw[if_pos hq];have hk:=Xh (r:=r) (p:=p') (i:=n'-(q'+1)) (j:=n') (by omega) k;obtain⟨m,p2,e2,b2,c2,d2,g2⟩:=jav (r:=r) (p:=kas_rev p' (n'-(q'+1)) n') (n:=n') (nrem:=nrem) (by omega) (by omega) (by rw[Xg];omega) (fun i j cp hj=>by rw[hk,hk];exact ‹Dn r p' n'› i j cp hj);exact⟨m,p2,e2,b2.trans ((vY _ _ _).trans b),c2,d2,g2⟩
 ·rw[if_neg hq];obtain⟨m,p2,e2,b2,c2,d2,g2⟩:=jav (r:=r) (p:=p') (n:=n') (nrem:=nrem) (by omega) (by omega) (by omega) j;exact⟨m,p2,e2,b2.trans b,c2,d2,g2⟩
theorem jfK {p:Array Nat}{n:Nat}(h1:1<=n)(hs:n<=p.size):∃ m p',run (lo r) (kas_count n p)=(m,p')∧p'.Perm p∧Up r p' m∧1<=m∧m<=n:=by
 unfold kas_count;rw[vd]
 have hu1:Up r p 1:=fun i j cp hj=>by rw[show i=j by omega];exact Int.le_refl _
 obtain⟨a,b,c,d⟩:=jan (r:=r) (p:=p) (n-1) 1 (le_refl _) hu1
 generalize run (lo r) (kas_asc p (n-1) 1)=k at *
 by_cases hk:k=n
 ·rw[if_pos (by simpa using hk)];exact⟨k,p,rfl,.refl _,c,a,by omega⟩
 ·rw[if_neg (by simpa using hk)];have aU:=d (by omega)
  by_cases h2:k > 1
  ·rw[if_pos h2]
   by_cases h3:Kp r p 0<Kp r p (k-1)
   ·have e:run (lo r) (KasT.ask (p.getD 0 0) (p.getD (k-1) 0) fun c=>if c=true then .ret (k,p)else kas_descPart k n (kas_rev p 0 k))=(k,p):=by
     show run (lo r) (if decide (Kp r p 0<Kp r p (k-1))=true then KasT.ret (k,p)else kas_descPart k n (kas_rev p 0 k))=_;rw[if_pos (decide_eq_true h3)];rfl
    exact⟨k,p,e,.refl _,c,a,by omega⟩
   ·have e:run (lo r) (KasT.ask (p.getD 0 0) (p.getD (k-1) 0) fun c=>if c=true then .ret (k,p)else kas_descPart k n (kas_rev p 0 k))=run (lo r) (kas_descPart k n (kas_rev p 0 k)):=by
     show run (lo r) (if decide (Kp r p 0<Kp r p (k-1))=true then KasT.ret (k,p)else kas_descPart k n (kas_rev p 0 k))=_;rw[if_neg (by simpa using h3)]
    have he:∀ z,0<=z->z<k->Kp r p z=Kp r p (k-1):=fun z _ hz=>by
     have x1:=c 0 z (zero_le _) hz;have x2:=c z (k-1) (by omega) (by omega);omega
    have f6:=Xh (r:=r) (p:=p) (i:=0) (j:=k) (by omega) he
    obtain⟨m,p2,e2,b2,c2,d2,g2⟩:=jaV (r:=r) (p:=kas_rev p 0 k) (n:=k) (nrem:=n) (by omega) (by rw[Xg];omega) (fun i j cp hj=>by
     rw[f6,f6]
     by_cases eE:j=k
     ·by_cases fM:i=k
      ·rw[eE,fM];exact Int.le_refl _
      ·rw[eE,he i (zero_le _) (by omega)];omega
     ·rw[he i (zero_le _) (by omega),he j (zero_le _) (by omega)];exact Int.le_refl _)
    exact⟨m,p2,e.trans e2,b2.trans (vY _ _ _),c2,d2,g2⟩
  ·rw[if_neg h2]
   have hk1:k=1:=by omega
   subst hk1
   exact jaV (by omega) hs (fun i j cp hj=>by
    by_cases hij2:i=j
    ·rw[hij2];exact Int.le_refl _
    ·rw[show i=0 by omega,show j=1 by omega]
     exact Int.le_of_lt aU)
theorem JT {p:Array Nat}{k:Nat}(hu:Up r p k):∀(f l x:Nat),l<=x->x<=k->x-l<=f->(∀ i,i<l->Kp r p i<=Kp r p k)->(∀ i,x<=i->i<k->Kp r p k<Kp r p i) ->
  ∃ z,run (lo r) (kas_place p k f l x)=z∧z<=k∧(∀ i,i<z->Kp r p i<=Kp r p k)∧∀ i,z<=i->i<k->Kp r p k<Kp r p i
 | 0,l,x,h1,h2,h3,ha,hb=>⟨l,rfl,by omega,ha,fun i a b=>hb i (by omega) b⟩
 | f+1,l,x,h1,h2,h3,ha,hb=>by
  by_cases iZ:l ≥ x
  ·have e:run (lo r) (kas_place p k (f+1) l x)=l:=by
    show run (lo r) (if l ≥ x then KasT.ret l else _)=_;rw[if_pos iZ];rfl
   exact⟨l,e,by omega,ha,fun i a b=>hb i (by omega) b⟩
  ·by_cases hc:Kp r p k<Kp r p ((l+x)/2)
   ·have e:run (lo r) (kas_place p k (f+1) l x)=run (lo r) (kas_place p k f l ((l+x)/2)):=by
     show run (lo r) (if l ≥ x then KasT.ret l else KasT.ask (p.getD k 0) (p.getD ((l+x)/2) 0) fun c=>if c=true then kas_place p k f l ((l+x)/2)else kas_place p k f ((l+x)/2+1) x)=_;rw[if_neg iZ];show run (lo r) (if decide (Kp r p k<Kp r p ((l+x)/2))=true then kas_place p k f l ((l+x)/2)else kas_place p k f ((l+x)/2+1) x)=_;rw[if_pos (decide_eq_true hc)]
    rw[e]
    exact JT hu f l ((l+x)/2) (by omega) (by omega) (by omega) ha fun i a b=>by
     have:=hu ((l+x)/2) i a b
     omega
   ·have e:run (lo r) (kas_place p k (f+1) l x)=run (lo r) (kas_place p k f ((l+x)/2+1) x):=by
     show run (lo r) (if l ≥ x then KasT.ret l else KasT.ask (p.getD k 0) (p.getD ((l+x)/2) 0) fun c=>if c=true then kas_place p k f l ((l+x)/2)else kas_place p k f ((l+x)/2+1) x)=_;rw[if_neg iZ];show run (lo r) (if decide (Kp r p k<Kp r p ((l+x)/2))=true then kas_place p k f l ((l+x)/2)else kas_place p k f ((l+x)/2+1) x)=_;rw[if_neg (by simpa using hc)]
    rw[e]
    exact JT hu f ((l+x)/2+1) x (by omega) (by omega) (by omega) (fun i hi=>by
     have:=hu i ((l+x)/2) (by omega) (by omega)
     omega) hb
theorem jeH:∀(f:Nat) (p:Array Nat) (k:Nat),k+f<=p.size->Up r p k->∃ p',run (lo r) (kas_bin f p k)=p'∧p'.Perm p∧Up r p' (k+f)
 | 0,p,k,_,hu=>⟨p,rfl,.refl _,hu⟩
 | f+1,p,k,hs,hu=>by
  obtain⟨z,e,z1,z2,z3⟩:=JT hu k 0 k (zero_le _) (le_refl _) (le_refl _) (fun i hi=>absurd hi (not_lt_zero _)) (fun i a b=>absurd b (by omega))
  have e2:run (lo r) (kas_bin (f+1) p k)=run (lo r) (kas_bin f (bubble p k (k-z)) (k+1)):=by
   show run (lo r) ((kas_place p k k 0 k).bind fun l=>kas_bin f (bubble p k (k-l)) (k+1))=_;rw[vd,e]
  have hu2:Up r (bubble p k (k-z)) (k+1):=by
   intro i j cp hj;rw[Ud (by omega) (by omega),Ud (by omega) (by omega),show k-(k-z)=z by omega]
   by_cases hi:i=z
   ·rw[if_pos hi]
    by_cases eE:j=z
    ·rw[if_pos eE];exact Int.le_refl _
    ·rw[if_neg eE,if_pos ⟨by omega,by omega⟩];exact Int.le_of_lt (z3 _ (by omega) (by omega))
   ·rw[if_neg hi]
    by_cases eE:j=z
    ·rw[if_neg (show ¬(z<i∧i<=k) by omega),if_pos eE];exact z2 i (by omega)
    ·rw[if_neg eE]
     by_cases a1:z<i∧i<=k
     ·rw[if_pos a1,if_pos ⟨by omega,by omega⟩];exact hu _ _ (by omega) (by omega)
     ·rw[if_neg a1]
      by_cases a2:z<j∧j<=k
      ·rw[if_pos a2]
       by_cases a3:i<=j-1
       ·exact hu _ _ a3 (by omega)
       ·omega
      ·rw[if_neg a2];exact hu _ _ cp (by omega)
  obtain⟨p',a,b,c⟩:=jeH f (bubble p k (k-z)) (k+1) (by rw[bubble_size];omega) hu2;exact⟨p',e2.trans a,b.trans (bubble_perm _ _ _),by rw[show k+(f+1)=k+1+f by omega];exact c⟩
theorem jgp {n:Nat}(h:1<=n):∃ p,run (lo r) (kas_sort n)=p∧p.toList.Perm (List.range n)∧Up r p n:=by
 unfold kas_sort;rw[vd]
 have hsz:(toArray (List.range n)).size=n:=by simp
 obtain⟨m,p,e,b,c,d,g⟩:=jfK (r:=r) (p:=toArray (List.range n)) (n:=n) h (by omega)
 have hps:p.size=n:=by rw[b.size_eq];exact hsz
 have hb:p.toList.Perm (List.range n):=by
  have:=Array.perm_iff_toList_perm.mp b
  simpa using this
 rw[e];dsimp only
 by_cases hm:m<n
 ·rw[if_pos hm,show max m 1=m by omega];obtain⟨p',a,b2,c2⟩:=jeH (r:=r) (n-m) p m (by omega) c;rw[a];exact⟨p',rfl,(Array.perm_iff_toList_perm.mp b2).trans hb,by rw[show n=m+(n-m) by omega];exact c2⟩
 ·rw[if_neg hm];exact⟨p,rfl,hb,by rw[show n=m by omega];exact c⟩
end
def xQ {α:Type}(n:Nat)(R:α->Prop):KasT α->Prop
 | .ret a=>R a
 | .ask i j k=>i<n∧j<n∧∀ b,xQ n R (k b)
theorem xQ.bind {α β:Type}{n:Nat}{R:α->Prop}{S:β->Prop}{f:α->KasT β}(hf:∀ a,R a->xQ n S (f a)):∀{t:KasT α},xQ n R t->xQ n S (t.bind f)
 | .ret a,h=>hf a h
 | .ask _ _ k,h=>⟨h.1,h.2.1,fun b=>xQ.bind hf (h.2.2 b)⟩
theorem jdn {α:Type}{n:Nat}{R:α->Prop}{lt:Nat->Nat->Bool}{cmp:Nat->Nat->(Bool->Shared->Prop)->Shared->Prop}{Q:α->Shared->Prop}{s:Shared}(hc:∀ i j C,i<n->j<n->C (lt i j) s->cmp i j C s):∀ t:KasT α,xQ n R t->Q (run lt t) s->t.kasWp cmp Q s
 | .ret _,_,h=>h
 | .ask i j k,g,h=>hc i j _ g.1 g.2.1 (jdn hc (k (lt i j)) (g.2.2 _) h)
def Low (n:Nat)(p:Array Nat):Prop:=∀ i,p.getD i 0<n
theorem jhv {n:Nat}{p q:Array Nat}(h:p.Perm q)(hq:Low n q)(h0:0<n):Low n p:=by
 intro i;rw[getD_eq_getD_getElem?]
 by_cases hi:i<p.size
 ·rw[Array.getElem?_eq_getElem hi,getD_some];have hm:p[i]∈q:=h.mem_iff.mp (Array.getElem_mem hi);obtain⟨j,hj,e⟩:=Array.getElem_of_mem hm
  have:=hq j
  rw[getD_eq_getD_getElem?,Array.getElem?_eq_getElem hj,getD_some,e]at this;exact this
 ·rw[Array.getElem?_eq_none (by omega)];exact h0
section
variable {n:Nat}(h0:0<n)
include h0
theorem Ju {p:Array Nat}{i j:Nat}(h:Low n p):Low n (kas_rev p i j):=jhv (vY _ _ _) h h0
theorem xa {α:Type}{R:α->Prop}{c:Prop}[Decidable c]{t u:KasT α}(h1:xQ n R t)(h2:xQ n R u):xQ n R (if c then t else u):=by
 by_cases h:c
 ·rw[if_pos h];exact h1
 ·rw[if_neg h];exact h2
theorem jam {p:Array Nat}(hp:Low n p):∀(f k:Nat),xQ n (fun _=>True) (kas_asc p f k)
 | 0,_=>trivial
 | f+1,k=>⟨hp _,hp _,fun b=>xa h0 trivial (jam hp f (k+1))⟩
theorem JK:∀(f:Nat) (p:Array Nat) (k q:Nat),Low n p->xQ n (fun x:Array Nat×Nat×Nat=>Low n x.1) (kas_desc f p k q)
 | 0,_,_,_,hp=>hp
 | f+1,p,k,q,hp=>⟨hp _,hp _,fun b=>xa h0 (xa h0 (JK f _ _ _ (Ju h0 hp)) (JK f _ _ _ hp)) ⟨hp _,hp _,fun c=>xa h0 hp (JK f _ _ _ hp)⟩⟩
theorem jbQ {p:Array Nat}{m x:Nat}(hp:Low n p):xQ n (fun z:Nat×Array Nat=>Low n z.2) (kas_tail3 m x p):=by
 unfold kas_tail3;refine xQ.bind (R:=fun _=>True) (fun a _=>?_) (jam h0 (Ju h0 hp) _ _);exact Ju h0 hp
theorem jbR {p:Array Nat}{m x:Nat}(hp:Low n p):xQ n (fun z:Nat×Array Nat=>Low n z.2) (kas_descPart m x p):=by
 unfold kas_descPart;refine xQ.bind (fun a ha=>?_) (JK h0 _ _ _ _ hp);exact xa h0 (jbQ h0 (Ju h0 ha)) (jbQ h0 ha)
theorem jfU {p:Array Nat}{x:Nat}(hp:Low n p):xQ n (fun z:Nat×Array Nat=>Low n z.2) (kas_count x p):=by
 unfold kas_count;refine xQ.bind (R:=fun _=>True) (fun a _=>?_) (jam h0 hp _ _);refine xa h0 ?_ (xa h0 ?_ (jbR h0 hp))
 ·exact hp
 ·exact⟨hp _,hp _,fun b=>xa h0 (show Low n p from hp) (jbR h0 (Ju h0 hp))⟩
theorem Ym {p:Array Nat}{k:Nat}(hp:Low n p):∀(f l x:Nat),xQ n (fun _=>True) (kas_place p k f l x)
 | 0,_,_=>trivial
 | f+1,l,x=>xa h0 trivial ⟨hp _,hp _,fun b=>xa h0 (Ym hp f _ _) (Ym hp f _ _)⟩
theorem jeK:∀(f:Nat) (p:Array Nat) (k:Nat),Low n p->xQ n (fun _=>True) (kas_bin f p k)
 | 0,_,_,_=>trivial
 | f+1,p,k,hp=>xQ.bind (fun a _=>jeK f _ _ (jhv (bubble_perm _ _ _) hp h0)) (Ym h0 hp _ _ _)
theorem jiD:xQ n (fun _=>True) (kas_sort n):=by
 have hl:Low n (toArray (List.range n)):=fun i=>by
  rw[getD_eq_getD_getElem?]
  by_cases hi:i<n
  ·simp[hi]
  ·simp[hi];exact h0
 unfold kas_sort;refine xQ.bind (fun a ha=>?_) (jfU h0 hl);refine xa h0 (jeK h0 _ _ _ ha) ?_;exact trivial
end
def lexB (x y:Int×Int):Bool:=if x.1=y.1 then decide (x.2<y.2)else decide (x.1<y.1)
def T2 (h:Heap)(v:Value)(k:Int×Int):Prop:=∃ a o t u n,v = .ref a∧h.get? a=some o∧o.cls = .type "tuple"∧o.data = .seq #[.int k.1 t,.int k.2 u] n
def All2 (h:Heap):List Value->List (Int×Int)->Prop
 | [],[]=>True
 | v::vs,k::ks=>T2 h v k∧All2 h vs ks
 | _,_=>False
theorem All2.length {h:Heap}:∀{vs:List Value}{ks:List (Int×Int)},All2 h vs ks->vs.length=ks.length
 | [],[],_=>rfl
 | _::_,_::_,q=>by simp[q.2.length]
 | [],_::_,q=>q.elim
 | _::_,[],q=>q.elim
section
def outOf (vs:List Value)(p:List Nat):Array Value:=(p.map fun i=>vs.getD i Value.none).toArray
def Rises (ks:List (Int×Int))(p:List Nat):Prop:=p.Perm (List.range ks.length)∧(p.map fun i=>ks.getD i (0,0)).Pairwise fun x y=>lexB y x=false
theorem jcO (vs:List Value):(List.range vs.length).map (fun i=>vs.getD i Value.none)=vs:=by
 refine List.ext_getElem (by simp) fun i h1 h2=>?_;simp[getD_eq_getElem?_getD,h2]
end
end Srt
namespace L3
open PySem L2
def prP (k:Int×Int):PV:=.tup [.int k.1,.int k.2]
theorem Vu {W:Wd}{xs:List PV}{vs:List V}(r:yc W xs vs):∀ p:List Nat,(∀ i∈p,i<xs.length)->yc W (p.map fun i=>xs.getD i .non) (p.map fun i=>vs.getD i .non)
 | [],_=>rfl
 | i::p,h=>by
  have hi:=h i mem_cons_self;obtain⟨v,e,q⟩:=r.get (i:=i) (getElem?_eq_getElem hi);refine⟨_,_,rfl,?_,Vu r p fun j hj=>h j (mem_cons_of_mem _ hj)⟩;show Rep W (xs.getD i .non) (vs.getD i .non);rw[getD_eq_getElem?_getD,getD_eq_getElem?_getD,e,getElem?_eq_getElem hi];exact q
section
def sFrz (i:Nat)(d:DS):DS:=fun ρ M=>match ρ[i]? with
 | some (some (.ref c))=>(match M.g c with
  | some (.lst xs)=>d (ρ.set i (some (.lst xs))) (M.drop c)
  | _=>.bad)
 | _=>.bad
end
open PyProof.Rows (envOfC)
theorem jaT {W:Wd}{f:Str}{x:PV}{v:V}(r:Rep W x v):∀{fs:List (Str×PV)}{vs:List (Str×V)},vO W fs vs->vO W (Vf f x fs) (vE f v vs)
 | [],_,e=>by cases e;exact⟨v,[],rfl,r,rfl⟩
 | p::fs,_,⟨u,t,e,a,b⟩=>by
  subst e;unfold Vf vE
  by_cases h:p.1=f
  ·rw[if_pos (by rw[h];exact beq_self_eq_true f),if_pos h];exact⟨v,t,rfl,r,b⟩
  ·rw[if_neg (by simpa using fun z:f=p.1=>h z.symm),if_neg h];exact⟨u,_,rfl,a,jaT r b⟩
def Yu (M:Sto)(k:Nat):PV->Option (Nat×List (Str×PV))
 | .ref i=>(match M.g i with
  | some (.ins c fs)=>if c=k then some (i,fs)else none
  | _=>none)
 | _=>none
theorem XE {W:Wd}{M:Sto}{H:Hp}{k i:Nat}{x:PV}{v:V}{fs:List (Str×PV)}(hh:Held W M H)(r:Rep W x v)(e:Yu M k x=some (i,fs)):∃ a dx vs,v = .ref a∧W.α i=some a∧M.g i=some (.ins k fs)∧H a=some (.ins (W.T.C k) dx vs)∧vO W fs vs:=by
 cases x with
 | ref j =>
  have e:(match M.g j with
   | some (.ins c fs)=>if c=k then some (j,fs)else none
   | _=>none)=some (i,fs):=e
  split at e
  ·rename_i c gs hg;split at e
   ·rename_i hc;cases e;subst hc;obtain⟨a,rfl,ha⟩:=r;obtain⟨b,o,h1,h2,h3,dx,vs,rfl,rf⟩:=hh.m _ _ hg;rw[ha]at h1;cases h1;exact⟨a,dx,vs,rfl,ha,hg,h3,rf⟩
   ·cases e
  ·cases e
 | _=>cases e
def uv (k:Nat)(f:Str)(d:DE):DE:=fun ρ M=>(d ρ M).bind fun x M1=>match Yu M1 k x with
 | some (_,fs)=>ofO (fs.lookup f) M1
 | none=>.bad
def Ji (k:Nat)(f:Str)(d do_:DE):DS:=fun ρ M=>(d ρ M).st ρ fun y M1=>(do_ ρ M1).st ρ fun x M2=>match Yu M2 k x with
 | some (i,fs)=>if fs.length<1000 then .nx ρ (M2.set i (.ins k (Vf f y fs)))else .bad
 | none=>.bad
section
variable {X:Cx}{T:Tb}{ES:St->XK}{o e:Expr}{es:List Expr}{f m x:Str}{k j:Nat}{pos a7 apos p:Pos}{d do_:DE}{da dk:DA}{ps ks:List Str}{a b:Nat}{sl:List Sl}{dP:List PV}{D:List PV->Sto->Res PV}{aS:List Keyword}
theorem jX (hT:T.K=X.K)(c:Cls X.K (T.C k))(n:jn X.K (T.C k) f)(he:QE X T ES o d)(hb:attributeBase o f X.env (eval o X.env)=eval o X.env:=by rfl):QE X T ES (.Attribute o f pos) (uv k f d) :=
 ⟨jN (pe_fld he.h hb) fun σ H Q ae=>jC ae fun W ρ M kT hh hs p=>⟨W,ρ,M,kT,hh,hs,yg.bind p fun W1 M1 x v H1 l1 h1 r1 p1=>by
  split at p1
  ·rename_i i fs e1;obtain⟨ad,dx,vs,rfl,_,_,h3,rf⟩:=XE h1 r1 e1;rw[l1.k,kT]at h3
   cases e2:fs.lookup f with
   | none=>rw[e2]at p1;exact p1.elim
   | some y =>
    rw[e2]at p1;obtain⟨u,e3,r3⟩:=rf.get e2;exact⟨ad,T.C k,dx,vs,u,rfl,h3,c,n,e3,p1 W1 H1 u (.refl W1) h1 r3⟩
  ·exact p1.elim⟩⟩
theorem Uu (hT:T.K=X.K)(c:Cls X.K (T.C k))(n:jn X.K (T.C k) f)(ho:QE X T ES o do_)(he:QE X T ES e d)(fB:swapsWith e (some (.Attribute o f a7)) pos.line X.env=pure false:=by rfl):QS X T ES (.Assign [.Attribute o f a7] e pos) (Ji k f d do_) :=
 ⟨xt (ps_fld ho.h he.h fB) fun D σ H ae=>yP ae fun W ρ M kT hh hs q=>⟨W,ρ,M,kT,hh,hs,yn.bind hs q fun W1 M1 y v H1 l1 h1 r1 q1=>⟨W1,ρ,M1,l1.k.trans kT,h1,hs.up l1,yn.bind (hs.up l1) q1 fun W2 M2 x u H2 l2 h2 r2 q2=>by
  split at q2
  ·rename_i i fs e1;split at q2
   ·rename_i hz;obtain⟨ad,dx,vs,rfl,ha,hg,h3,rf⟩:=XE h2 r2 e1;have kk:=l2.k.trans (l1.k.trans kT);have h3':=h3;rw[kk]at h3';refine⟨ad,T.C k,dx,vs,rfl,h3',c,n,by rw[rf.length];exact hz,?_⟩;have hu:=h2.upd (c':=.ins k (Vf f y fs)) (o:=.ins (T.C k) dx (vE f v vs)) hg ha ⟨dx,_,by rw[kk],jaT (r1.up l2) rf⟩;exact q2 W2 σ _ (.refl W2) hu ((hs.up l1).up l2)
   ·exact q2.elim
  ·exact q2.elim⟩⟩⟩
structure MetD (P:Program)(w:World)(K:Frag)(mg:Str->Option Value)(base:Heap)(T:Tb)(k:Nat)(m:Str)(j:Nat)(ps ks:List Str)(a b:Nat)(sl:List Sl)(dP:List PV)(D:List PV->Sto->Res PV):Prop where
 ex:∃ f fd dV ds,FnOk P w K mg base (CX1 P w) j f fd ps (spD T D)∧Meth K (T.C k) m f∧Cls K (T.C k)∧KBinds K fd ps ks (ym a b sl ds) (ym a b sl dV)∧∀ W:Wd,W.T=T->yc W dP dV
def xF (k:Nat)(m:Str)(D:List PV->Sto->Res PV)(a b:Nat)(sl:List Sl)(dP:List PV)(do_:DE)(da dk:DA):DE:=fun ρ M=>(do_ ρ M).bind fun x M0=>match Yu M0 k x with
 | some (_,fs)=>if fs.lookup m=none then(da ρ M0).bind fun xs M1=>(dk ρ M1).bind fun zs M2=>D (ym a b sl dP (x::xs) zs) M2 else .bad
 | none=>.bad
theorem yV {pl:Sem Bool}(N:MetD X.prog X.w X.K X.mg X.base T k m j ps ks a b sl dP D)(hr:Room j X.A)(hx:xW (CX1 X.prog X.w) X ES)(ho:QE X T ES o do_)(ha:QA X T ES (e::es) da)(fK:QK X T ES aS dk)
  (bY:(backToKw pos (keywordEach aS X.env)).all (·.1.isSome)=true:=by rfl) (cU:(backToKw pos (keywordEach aS X.env)).filterMap (·.1)=ks:=by rfl)
  (he:starEach (e::es) X.env=(false,eval e X.env)::starEach es X.env:=by rfl)
  (aX:((backTo pos (starEach (e::es) X.env)).any (·.1) || (backToKw pos (keywordEach aS X.env)).any (·.1.isNone))=false:=by rfl)
  (ht:eval (.Call (.Attribute o m apos) (e::es) aS pos) X.env=(do
   let ov <- eval o X.env
   standAt apos.atName
   let (f,first) <- holding [ov] (getMethod ov m pl)
   callWith pos f first (backTo pos (starEach (e::es) X.env)) (backToKw pos (keywordEach aS X.env))):=by rfl):QE X T ES (.Call (.Attribute o m apos) (e::es) aS pos) (xF k m D a b sl dP do_ da dk):=⟨by
 obtain⟨f,fd,dV,ds,F,hm,c,hb,fQ⟩:=N.ex;rintro aa s σ H Q I ⟨W,ρ,M,kT,hh,hs,q⟩
 refine PySem.W.methodCall_KW (pl:=pl) (thn (ho.h aa s σ H (fun v H1=>∃ W1 M1 x i fs,W1.T=T∧Held W1 M1 H1∧yl W1 ρ σ∧Rep W1 x v∧Yu M1 k x=some (i,fs)∧fs.lookup m=none∧yg W1 Rep ((da ρ M1).bind fun xs M1=>(dk ρ M1).bind fun zs M2=>D (ym a b sl dP (x::xs) zs) M2) Q (ES σ)) I ⟨W,ρ,M,kT,hh,hs,yg.bind q
   fun W1 M1 x v H1 l1 h1 r1 q1=>by
    split at q1
    ·rename_i i fs e1;split at q1
     ·rename_i e2;exact⟨W1,M1,x,i,fs,l1.k.trans kT,h1,hs.up l1,r1,e1,e2,q1⟩
     ·exact q1.elim
    ·exact q1.elim⟩) fun u s1 ae=>?_) ht
 obtain⟨v,H1,I1,rx,W1,M1,x,i,fs,k1,h1,bc,r1,e1,e2,q1⟩:=ae;obtain⟨ad,dx,vf,rfl,eW,hg,h3,rf⟩:=XE h1 r1 e1;obtain rfl:u=Value.ref ad:=rx;rw[k1]at h3;refine XH I1 h3 c hm (rf.none e2) ?_
 refine callWith_KW (first:=[.ref ad]) (h₀:=X.base) I.ok.mod.kin hm.kp bY (thn (ha.h pos aa s1 σ H1 (fun vs H2=>∃ W2 M2 xs,W2.T=T∧Held W2 M2 H2∧yl W2 ρ σ∧Rep W2 x (.ref ad)∧yc W2 xs vs∧yg W2 Rep ((dk ρ M2).bind fun zs M3=>D (ym a b sl dP (x::xs) zs) M3) Q (ES σ)) I1 ⟨W1,ρ,M1,k1,h1,bc,yg.bind q1
   fun W2 M2 xs vs H2 l2 h2 r2 q2=>⟨W2,M2,xs,l2.k.trans k1,h2,bc.up l2,r1.up l2,r2,q2⟩⟩) fun us s2 ae=>?_) aX he
 obtain⟨vs,H2,I2,r,W2,M2,xs,k2,h2,bx,rx2,r2,q2⟩:=ae;refine thn (fK.h pos aa s2 σ H2 (fun zs H3=>spD T D (ym a b sl dV (.ref ad::vs) zs) H3 Q (ES σ)) I2 ⟨W2,ρ,M2,k2,h2,bx,yg.bind q2 fun W3 M3 iF zs H3 l3 h3 r3 q3=>⟨W3,_,M3,l3.k.trans k2,h3,uF (fQ W3 (l3.k.trans k2)) (show yc W3 (x::xs) (.ref ad::vs)from⟨_,_,rfl,rx2.up l3,r2.up l3⟩) r3,q3⟩⟩) fun ws s3 ae=>?_;obtain⟨zs,H3,I3,rz,q3⟩:=ae;refine⟨I3.kIn,?_⟩;rw[cU]
 exact jgx (us:=.ref ad::us) (vs:=.ref ad::vs) F hr hb hx I3 (.cons rfl r) rz q3⟩
theorem qe_mth0 {pl:Sem Bool}(N:MetD X.prog X.w X.K X.mg X.base T k m j ps ks a b sl dP D)(hr:Room j X.A)(hx:xW (CX1 X.prog X.w) X ES)(ho:QE X T ES o do_)(fK:QK X T ES aS dk)
  (bY:(backToKw pos (keywordEach aS X.env)).all (·.1.isSome)=true:=by rfl) (cU:(backToKw pos (keywordEach aS X.env)).filterMap (·.1)=ks:=by rfl)
  (aX:((backTo pos (starEach [] X.env)).any (·.1) || (backToKw pos (keywordEach aS X.env)).any (·.1.isNone))=false:=by rfl)
  (ht:eval (.Call (.Attribute o m apos) [] aS pos) X.env=(do
   let ov <- eval o X.env
   standAt apos.atName
   let (f,first) <- holding [ov] (getMethod ov m pl)
   callWith pos f first (backTo pos (starEach [] X.env)) (backToKw pos (keywordEach aS X.env))):=by rfl):QE X T ES (.Call (.Attribute o m apos) [] aS pos) (xF k m D a b sl dP do_ yb dk):=⟨by
 obtain⟨f,fd,dV,ds,F,hm,c,hb,fQ⟩:=N.ex;rintro aa s σ H Q I ⟨W,ρ,M,kT,hh,hs,q⟩
 refine PySem.W.methodCall_KW (pl:=pl) (thn (ho.h aa s σ H (fun v H1=>∃ W1 M1 x i fs,W1.T=T∧Held W1 M1 H1∧yl W1 ρ σ∧Rep W1 x v∧Yu M1 k x=some (i,fs)∧fs.lookup m=none∧yg W1 Rep ((dk ρ M1).bind fun zs M2=>D (ym a b sl dP [x] zs) M2) Q (ES σ)) I ⟨W,ρ,M,kT,hh,hs,yg.bind q
   fun W1 M1 x v H1 l1 h1 r1 q1=>by
    split at q1
    ·rename_i i fs e1;split at q1
     ·rename_i e2;exact⟨W1,M1,x,i,fs,l1.k.trans kT,h1,hs.up l1,r1,e1,e2,q1⟩
     ·exact q1.elim
    ·exact q1.elim⟩) fun u s1 ae=>?_) ht
 obtain⟨v,H1,I1,rx,W1,M1,x,i,fs,k1,h1,bc,r1,e1,e2,q1⟩:=ae;obtain⟨ad,dx,vf,rfl,eW,hg,h3,rf⟩:=XE h1 r1 e1;obtain rfl:u=Value.ref ad:=rx;rw[k1]at h3;refine XH I1 h3 c hm (rf.none e2) ?_;refine PySem.W.callWith_KW0 (first:=[.ref ad]) (h₀:=X.base) I.ok.mod.kin hm.kp bY (thn (fK.h pos aa s1 σ H1 (fun zs H3=>spD T D (ym a b sl dV [.ref ad] zs) H3 Q (ES σ)) I1 ⟨W1,ρ,M1,k1,h1,bc,yg.bind q1 fun W3 M3 iF zs H3 l3 h3 r3 q3=>⟨W3,_,M3,l3.k.trans k1,h3,uF (fQ W3 (l3.k.trans k1)) (show yc W3 [x] [.ref ad]from⟨_,_,rfl,r1.up l3,rfl⟩) r3,q3⟩⟩) fun ws s3 ae=>?_) aX;obtain⟨zs,H3,I3,rz,q3⟩:=ae;refine⟨I3.kIn,?_⟩;rw[cU]
 exact jgx (us:=[.ref ad]) (vs:=[.ref ad]) F hr hb hx I3 (.cons rfl .nil) rz q3⟩
structure NewD (P:Program)(w:World)(K:Frag)(mg:Str->Option Value)(base:Heap)(T:Tb)(k:Nat)(x:Str)(j:Nat)(ps ks:List Str)(a b:Nat)(sl:List Sl)(dP:List PV)(D:List PV->Sto->Res PV):Prop where
 ex:∃ f fd dV ds,FnOk P w K mg base (CX1 P w) j f fd ps (spD T D)∧Mk K (T.C k) f∧mg x=some (.ref (T.C k))∧KBinds K fd ps ks (ym a b sl ds) (ym a b sl dV)∧∀ W:Wd,W.T=T->yc W dP dV
def made (k:Nat)(D:List PV->Sto->Res PV)(vs:PV->List PV)(M:Sto):Res PV:=match D (vs (.ref M.n)) (M.new (.ins k []))with
 | .ok .non M3=>.ok (.ref M.n) M3
 | .ok _ _=>.bad
 | .exc c M3=>.exc c M3
 | .bad=>.bad
def dNew (k:Nat)(D:List PV->Sto->Res PV)(a b:Nat)(sl:List Sl)(dP:List PV)(da dk:DA):DE:=fun ρ M=>(da ρ M).bind fun xs M1=>(dk ρ M1).bind fun zs M2=>made k D (fun x=>ym a b sl dP (x::xs) zs) M2
theorem jcn {f C:Addr}{fd:FuncData}{dV:List V}{ds:List Value}{aa:List (Addr×Obj)}{σ:St}{H:Hp}{s:Shared}{Q:VK}{us ws:List Value}{vs zs:List V}{sp:Sp}(M:Mk X.K C f)(F:FnOk X.prog X.w X.K X.mg X.base (CX1 X.prog X.w) j f fd ps sp)(hr:Room (j+1) X.A)(hb:KBinds X.K fd ps ks (ym a b sl ds) (ym a b sl dV))(hx:xW (CX1 X.prog X.w) X ES)
  (I:Inv X aa σ H s) (r:yf vs us) (rz:yf zs ws) (h:∀ x dx,H x=none->H dx=none->dx≠x->sp (ym a b sl dV (.ref x::vs) zs) (L2.upd (L2.upd H dx (.own x)) x (.ins C dx [])) (fun v H2=>v = .non∧Q (.ref x) H2) (ES σ)) :
  wpAny (model X.prog X.w) X.A (call (.ref C) us (ks.zip ws)) (EP X aa σ Q) X.xe s:=by
 have hq:=h (s.heap.objs.size+1) s.heap.objs.size (I.hok.fresh (le_succ _)) (I.hok.fresh (le_refl _)) (ne_of_lt (lt_succ_self _));have I2:=Inv.made (C:=C) I;have r2:=hb.rel (vs:=V.ref (s.heap.objs.size+1)::vs) (us:=Value.ref (s.heap.objs.size+1)::us) (.cons rfl r) rz
 have hl:(ym a b sl ds (Value.ref (s.heap.objs.size+1)::us) ws).length=ps.length:=by
  rw[<- r2.length];exact F.len _ _ _ _ hq
 refine wpAny_call (jhu (f:=f) I.kIn M.makes M.init (beq_iff_eq.mp M.fn) (codeAny_mono (F.run _ X.stack _ _ ⟨Value.ref (s.heap.objs.size+1)::us,ks.zip ws⟩ _ _ _ (ES σ) (hr.make C us (ks.zip ws)) (I2.env0.make C us (ks.zip ws)) (hb.to _ (Value.ref (s.heap.objs.size+1)::us) ws I2.kIn hl) r2 hq) fun r s' gK=>?_))
 match r,gK with
 | .error e,gK=>exact hx aa σ _ _ e s' I2 gK
 | .ok (.ret u),gK =>
  obtain⟨v,H',I3,rv,ev,q3⟩:=I2.after gK;subst ev;exact⟨rv,⟨V.ref (s.heap.objs.size+1),H',I3,rfl,q3⟩⟩
theorem jfo {W:Wd}{M:Sto}{H:Hp}{Q:VK}{E:XK}{xs zs:List PV}{vs us:List V}{dV:List V}(kT:W.T=T)(hh:Held W M H)(hd:∀ W:Wd,W.T=T->yc W dP dV)(rx:yc W xs vs)(rz:yc W zs us)(q:yg W Rep (made k D (fun x=>ym a b sl dP (x::xs) zs) M) Q E) :
  ∀ x dx,H x=none->H dx=none->dx≠x->spD T D (ym a b sl dV (.ref x::vs) us) (L2.upd (L2.upd H dx (.own x)) x (.ins (T.C k) dx [])) (fun v H2=>v = .non∧Q (.ref x) H2) E:=by
 intro x dx hx hdx aY;obtain⟨l1,h1,f1⟩:=hh.frz (l:=dx) (o:=.own x) hdx
 have e2:L2.upd H dx (.own x) x=none:=by rw[jk (fun z=>aY z.symm)];exact hx
 obtain⟨l2,h2,a2⟩:=h1.put (l:=x) (o:=.ins (T.C k) dx []) (c:=.ins k []) e2 ⟨dx,[],by rw[l1.k,kT],rfl⟩;have eD:=l1.trans l2;refine⟨_,ym a b sl dP (.ref M.n::xs) zs,M.new (.ins k []),eD.k.trans kT,h2,uF (hd _ (eD.k.trans kT)) ⟨_,_,rfl,⟨x,rfl,a2⟩,rx.up eD⟩ (rz.up eD),?_⟩;unfold made at q
 cases e:D (ym a b sl dP (.ref M.n::xs) zs) (M.new (.ins k []))with
 | ok v M3 =>
  simp only[e]at q
  cases v with
  | non=>exact fun W3 H3 u l3 h3 r3=>⟨r3,q W3 H3 (.ref x) (eD.trans l3) h3 ⟨x,rfl,l3.a _ _ a2⟩⟩
  | _=>exact q.elim
 | exc c M3 =>
  simp only[e]at q;intro W3 H3 dd l3 h3 dx
  have:=q W3 H3 dd (eD.trans l3) h3 dx
  rw[<- eD.k]at this;exact this
 | bad =>
  simp only[e]at q;exact q.elim
theorem qe_new (N:NewD X.prog X.w X.K X.mg X.base T k x j ps ks a b sl dP D)(hr:Room (j+1) X.A)(hg:Gl X x)(hx:xW (CX1 X.prog X.w) X ES)(ha:QA X T ES (e::es) da)(fK:QK X T ES aS dk)
  (bY:(backToKw pos (keywordEach aS X.env)).all (·.1.isSome)=true:=by rfl) (cU:(backToKw pos (keywordEach aS X.env)).filterMap (·.1)=ks:=by rfl)
  (dE:(x==("__debug__":Str))=false:=by decide) (he:starEach (e::es) X.env=(false,eval e X.env)::starEach es X.env:=by rfl)
  (aX:((backTo pos (starEach (e::es) X.env)).any (·.1) || (backToKw pos (keywordEach aS X.env)).any (·.1.isNone))=false:=by rfl):QE X T ES (.Call (.Name x p) (e::es) aS pos) (dNew k D a b sl dP da dk):=⟨by
 obtain⟨f,fd,dV,ds,F,mk,hm,hb,fQ⟩:=N.ex;rintro aa s σ H Q I ⟨W,ρ,M,kT,hh,hs,q⟩;refine wpAny_Call_Name_kw (UG I hg hm ?_ dE)
 refine callWith_KW (h₀:=X.base) I.ok.mod.kin mk.kp bY (thn (ha.h pos aa s σ H (fun vs H1=>∃ W1 M1 xs,W1.T=T∧Held W1 M1 H1∧yl W1 ρ σ∧yc W1 xs vs∧yg W1 Rep ((dk ρ M1).bind fun zs M2=>made k D (fun x=>ym a b sl dP (x::xs) zs) M2) Q (ES σ)) I ⟨W,ρ,M,kT,hh,hs,yg.bind q
   fun W1 M1 xs vs H1 l1 h1 r1 q1=>⟨W1,M1,xs,l1.k.trans kT,h1,hs.up l1,r1,q1⟩⟩) fun us s1 ae=>?_) aX he
 obtain⟨vs,H1,I1,r,W1,M1,xs,k1,h1,bc,r1,q1⟩:=ae;refine thn (fK.h pos aa s1 σ H1 (fun zs H2=>∀ x dx,H2 x=none->H2 dx=none->dx≠x->spD T D (ym a b sl dV (.ref x::vs) zs) (L2.upd (L2.upd H2 dx (.own x)) x (.ins (T.C k) dx [])) (fun v H2=>v = .non∧Q (.ref x) H2) (ES σ)) I1 ⟨W1,ρ,M1,k1,h1,bc,yg.bind q1 fun W2 M2 iF zs H2 l2 h2 r2 q2=>jfo (l2.k.trans k1) h2 fQ (r1.up l2) r2 q2⟩) fun ws s2 ae=>?_;obtain⟨zs,H2,I2,rz,q2⟩:=ae;refine⟨I2.kIn,?_⟩;rw[cU]
 exact jcn mk F hr hb hx I2 r rz q2⟩
end
open PyProof.Rows (tail_any)
section
variable {X:Cx}{T:Tb}{e:Expr}{x:Str}{k:Nat}
def jhW:G1:=fun M xs=>match xs with
 | [x,.top k]=>(match Yu M k x with
  | some _=>some (.bl true,M)
  | none=>none)
 | _=>none
theorem b_isO (hT:T.K=X.K):yM X (.builtin "isinstance") (rC T jhW):=by
 intro aa s σ H vs us Q I rv h;obtain⟨W,M,xs,z,M',k,hh,rx,e,q⟩:=h;unfold jhW at e;split at e
 ·rename_i x j;split at e
  ·rename_i r e1;cases e;obtain⟨i,fs⟩:=r;obtain⟨v,u,rfl,r1,r2⟩:=uB rx;obtain⟨v',u',rfl,q1,q2⟩:=jga rv;have r2:u = .ref (W.T.C j):=r2;subst r2;cases q2;obtain⟨a,dx,vs,rfl,_,_,h3,_⟩:=XE hh r1 e1;cases q1;obtain⟨h2,_,_,ho,_⟩:=I.hok _ _ h3;refine PySem.W.isi_call (K:=X.K) (t:=.ref (W.T.C j)) I.kIn (fun M=>?_) (by simp[isIn]) (by intro z;cases z) ⟨.bl _,H,I,rfl,q W H _ (.refl W) hh rfl⟩;obtain⟨od,cT⟩:=I.hok _ _ h2;exact PySem.W.InstAt.type (od:=some od) ⟨ho,rfl,rfl,cT⟩
  ·cases e
 ·cases e
end
def jaq (xs ys:List PV):List PV:=List.zipWith (fun x y=>PV.tup [x,y]) xs ys
theorem jfZ {xs ys:List PV}{i:Nat}{z:PV}(h:(jaq xs ys)[i]? = some z):∃ x y,xs[i]? = some x∧ys[i]? = some y∧z = .tup [x,y]:=by
 unfold jaq at h;rw[List.getElem?_zipWith]at h
 cases e1:xs[i]? with
 | none=>rw[e1]at h;cases h
 | some x =>
  cases e2:ys[i]? with
  | none=>rw[e1,e2]at h;cases h
  | some y =>
   rw[e1,e2]at h;cases h;exact⟨x,y,rfl,rfl,rfl⟩
theorem jeR {xs ys:List PV}{i:Nat}(h:(jaq xs ys)[i]? = none):xs.length<=i∨ys.length<=i:=by
 unfold jaq at h;rw[List.getElem?_eq_none_iff,List.length_zipWith]at h;omega
def dZip (ds:DA):En->Sto->Res ItP:=fun ρ M=>(ds ρ M).bind fun xs M1=>match xs with
 | [.lst xs,.lst ys]=>.ok (.fix (jaq xs ys)) M1
 | [.tup [],.tup _]=>.ok (.fix []) M1
 | _=>.bad
section
variable {X:Cx}{T:Tb}{ES:St->XK}{p pos:Pos}{ds:DA}
theorem qi_zip {l m:Expr}{bj:List Expr}{x1:Nat}{bU:Pos}(hT:T.K=X.K)(hg:Gl X "zip")(hm:X.mg "zip" = none)(ha:QA X T ES [l,m] ds)(hs:starEach [l,m] X.env=(false,eval l X.env)::starEach [m] X.env:=by rfl)(bx:starEach [m] X.env=[(false,eval m X.env)]:=by rfl) :
  QI X T ES (.Tuple bj x1 bU) (.Call (.Name "zip" p) [l,m] [] pos) (dZip ds) :=
 ⟨uS (pi_zip hg hm ha.h hs bx) fun σ H R ae=>jC ae fun W ρ M k hh hs q=>⟨W,ρ,M,k,hh,hs,yg.bind q fun W1 M1 xs vs H1 l1 h1 r1 p1=>by
  split at p1
  ·rename_i xs ys;obtain⟨u,v,rfl,ru,rv⟩:=uB r1;obtain⟨a,us,rfl,ha,ra⟩:=ru;obtain⟨b,ws,rfl,hb,rb⟩:=rv;refine⟨a,b,rfl,.inl ⟨⟨us,SqL.of (h1.f _ _ ha)⟩,⟨ws,SqL.of (h1.f _ _ hb)⟩,p1 W1 H1 _ (.refl W1) h1 fun W' M' H' le aO i=>?_⟩⟩;have qa:H' a=some (.lst us):=aO.f _ _ (le.f _ _ ha);have qb:H' b=some (.lst ws):=aO.f _ _ (le.f _ _ hb);refine⟨fun z e=>?_,fun e=>?_⟩
   ·have e:(jaq xs ys)[i]? = some z:=Option.some.inj e;obtain⟨x,y,ex,ey,rfl⟩:=jfZ e;obtain⟨u,eu,ru⟩:=ra.get ex;obtain⟨v,ev,rv⟩:=rb.get ey;refine⟨⟨us,ws,u,v,SqL.of qa,SqL.of qb,eu,ev⟩,fun t c7 ae=>?_⟩;obtain⟨c,u',v',et,hc,hu,hv,eH⟩:=ae;subst et;subst eH;have hu:=hu us (SqL.of qa);have hv:=hv ws (SqL.of qb);rw[eu]at hu;rw[ev]at hv;cases hu;cases hv;exact uE (xs:=[x,y]) aO (show yc W' _ [u,v]from⟨_,_,rfl,ru.up0 le,_,_,rfl,rv.up0 le,rfl⟩) hc
   ·have e:(jaq xs ys)[i]? = none:=Option.some.inj e;exact⟨us,ws,SqL.of qa,SqL.of qb,by rw[ra.length,rb.length];exact jeR e⟩
  ·rename_i ys;obtain⟨u,v,rfl,ru,rv⟩:=uB r1;obtain⟨a,us,rfl,ha,ra⟩:=ru;obtain⟨b,ws,rfl,hb,rb⟩:=rv;cases ra
   have kk:W1.T.K=X.K:=by rw[l1.k,k];exact hT
   refine⟨a,b,rfl,.inr ⟨kk ▸ Xa h1.f ha.toT,⟨ws,kk ▸ Xa h1.f hb.toT⟩,p1 W1 H1 _ (.refl W1) h1 fun W' M' H' le aO i=>?_⟩⟩;refine⟨fun z e=>?_,fun e=>?_⟩
   ·have e:([]:List PV)[i]? = some z:=Option.some.inj e;simp at e
   ·have:SqT X.K H' a []:=kk ▸ Xa (fun b o q=>aO.f b o (le.f b o q)) ha.toT
    exact this
  ·exact p1.elim⟩⟩
end
def getL (l:List (List Int×Int))(k:List Int):Option Int:=(l.find? fun p=>decide (p.1=k)).map (·.2)
theorem inl_inj {a b:List Int}:(a.map (Sum.inl:Int->Key)=b.map Sum.inl)↔a=b:=by
 constructor
 ·intro h
  induction a generalizing b with
  | nil=>cases b with
   | nil=>rfl
   | cons _ _=>cases h
  | cons x a ih=>cases b with
   | nil=>cases h
   | cons y b =>
    rw[map_cons,map_cons]at h
    injection h with h1 h2
    rw[Sum.inl.inj h1,ih h2]
 ·rintro rfl;rfl
theorem kV_ints (ns:List Int):(ns.map (Sum.inl:Int->Key)).map kV=ns.map V.int:=by
 rw[map_map];rfl
section
theorem hu1 {A:Around}{k:Nat}(hr:Room k A):A.units+1<cLine:=by have:=XG hr;omega
end
end L3
namespace L2
open PySem PySem.Spec PyProof.Rows
section
variable {X:Cx}{tg:Expr}{aa:List (Addr×Obj)}{σ:St}{H:Hp}{s:Shared}
def iSeq (K:Frag)(tl:TE):TI:=fun σ H R=>tl σ H fun x H1=>∃ a,x = .ref a∧(((∃ xs,SqL K H1 a xs)∧R (Itl K a) H1)∨((∃ xs,SqT K H1 a xs)∧R (Itt K a) H1))
theorem pi_seq {l:Expr}{tl:TE}(hl:PE X l tl):PI X tg l (iSeq X.K tl):=by
 intro aa s σ H R I h;refine thn (hl aa s σ H _ I h) fun v s1 hS=>?_;obtain⟨x,H1,I1,r1,a,e,q1⟩:=hS;subst e;cases r1
 have fp:∀ b∈[s1.heap.objs.size],yS X aa H1 b:=fun b hb=>by
  cases (List.mem_singleton.mp hb);exact I1.fpOk (le_refl _) (I1.hok.fresh (le_refl _))
 rcases q1 with⟨⟨xs,hq⟩,q⟩ | ⟨⟨xs,hq⟩,q⟩
 ·obtain⟨its,_,p,_⟩:=I1.list hq;exact wpAny_pyIter_list p.isList ⟨_,_,_,_,H1,rfl,I1.kept (t':=s1.toks) fun b o e=>get?_push_of_some _ e,Vp a _,⟨_,get?_push_size _ rfl,rfl,rfl⟩,fp,q⟩
 ·obtain⟨its,_,p,_⟩:=I1.tuple hq;exact wpAny_pyIter_tuple (show s1.heap.IsTuple a its.toArray from p) ⟨_,_,_,_,H1,rfl,I1.kept (t':=s1.toks) fun b o e=>get?_push_of_some _ e,YT a _,⟨_,get?_push_size _ rfl,rfl,rfl⟩,fp,q⟩
end
end L2
namespace L3
open PySem L2
section
variable {X:Cx}{T:Tb}{ES:St->XK}{a b e tg:Expr}{d:DE}
def dItS (d:DE):En->Sto->Res ItP:=fun ρ M=>(d ρ M).bind fun x M1=>match x with
 | .tup xs=>.ok (.fix xs) M1
 | x=>ofO (itOf M1 x) M1
theorem qi_seq (hT:T.K=X.K)(h:QE X T ES e d):QI X T ES tg e (dItS d):=⟨uS (pi_seq h.h) fun σ H R hS=>jC hS fun W ρ M k hh hs q=>⟨W,ρ,M,k,hh,hs,yg.bind q fun W1 M1 x v H1 l1 h1 r1 p1=>by
 cases x with
 | tup xs =>
  obtain⟨a,vs,rfl,ha,rr⟩:=r1
  have kk:W1.T.K=X.K:=by rw[l1.k,k];exact hT
  have eW:SqT X.K H1 a vs:=kk ▸ Xa h1.f ha.toT;refine⟨a,rfl,.inr ⟨⟨vs,eW⟩,p1 W1 H1 _ (.refl W1) h1 fun W' M' H' le aO i=>?_⟩⟩;have hq:SqT X.K H' a vs:=kk ▸ Xa (fun b o q=>aO.f b o (le.f b o q)) ha.toT;refine⟨fun z e=>?_,fun e=>?_⟩
  ·obtain⟨u,e2,r2⟩:=rr.get (show xs[i]? = some z from Option.some.inj e);refine⟨⟨vs,u,hq,e2⟩,fun w c7 hS=>?_⟩;obtain⟨eH,q⟩:=hS;subst eH
   have:=q vs hq
   rw[e2]at this;cases this;exact⟨W',.refl W',aO,r2.up0 le⟩
  ·exact⟨vs,hq,by rw[rr.length];exact List.getElem?_eq_none_iff.mp (show xs[i]? = none from Option.some.inj e)⟩
 | lst xs =>
  obtain⟨a,vs,rfl,ha,rr⟩:=r1;refine⟨a,rfl,.inl ⟨⟨vs,SqL.of (h1.f _ _ ha)⟩,p1 W1 H1 _ (.refl W1) h1 (YN rfl (fun W' M' H' le aO ys hy=>?_) fun M=>.inl ⟨xs,fun i=>rfl⟩)⟩⟩
  have:ys=xs:=ext_getElem? (fun i=>(Option.some.inj (hy i)).symm)
  subst this;exact⟨vs,aO.f _ _ (le.f _ _ ha),rr.up0 le⟩
 | ref j =>
  have p1:yg W1 RI (ofO (match M1.g j with
   | some (.lst _)=>some (ItP.live j)
   | _=>none) M1) R (ES σ):=p1
  split at p1
  ·rename_i xs e1;obtain⟨a,rfl,ea⟩:=r1;obtain⟨b,o,h2,h3,h4,vs,rfl,rr⟩:=h1.m j _ e1;rw[ea]at h2;cases h2;refine⟨a,rfl,.inl ⟨⟨vs,SqL.of h4⟩,p1 W1 H1 _ (.refl W1) h1 (YN rfl (fun W' M' H' le aO ys hy=>?_) fun M=>?_)⟩⟩
   ·cases e2:yz M' (.ref j)with
    | none =>
     have:=hy 0
     rw[xk e2]at this;cases this
    | some zs =>
     have:ys=zs:=ext_getElem? (fun i=>by
      have:=hy i
      rw[vi e2]at this
      exact(Option.some.inj this).symm)
     subst this;obtain⟨a',cZ,e3,h5,r5⟩:=xg (v:=.ref a) aO (show Rep W' (.ref j) (.ref a)from⟨a,rfl,le.a _ _ ea⟩) e2;cases e3;exact⟨cZ,h5,r5⟩
   ·cases e2:yz M (.ref j)with
    | none=>exact .inr fun i=>xk e2
    | some zs=>exact .inl ⟨zs,fun i=>vi e2⟩
  ·exact p1.elim
 | _=>exact p1.elim⟩⟩
end
end L3
namespace L2
open PySem PySem.Spec PyProof.Rows
section
variable {prog:Program}{w:World}{A:Around}{R:Result->Shared->Prop}{s:Shared}
theorem jgn {ax:Expr}{gens:List Comprehension}{scope:Scope}{pos:Pos}{d:Nat}{it acc:Value}{env:Env}{ab iter:Expr}(h0:gens[d]? = some ⟨ab,iter,[],0⟩)
  (h:codeAny (model prog w) A (.compLoop (.ListComp ax gens scope pos) d it acc env) R s)
  (hi:∀ E,wpAny (model prog w) A (pyIter it) (fun cc s'=>codeAny (model prog w) A (.compLoop (.ListComp ax gens scope pos) d cc acc env) R s') E s) :
  codeAny (model prog w) A (.compStart (.ListComp ax gens scope pos) d it acc env) R s:=by
 refine codeAny_of_tree ?_;show wpAny _ A ((compStart (.ListComp ax gens scope pos) d it acc env).onRaise (fun x=>do noteFrame x env;standAt theWindowsPlace)) _ _ s;refine wpAny_onRaise ?_;unfold compStart;have hc:(clausesOf (.ListComp ax gens scope pos))[d]? = some ⟨ab,iter,[],0⟩:=h0;rw[hc];rw[if_neg (by simp)];refine wpAny_bind (wpAny_askSetting ?_);split
 ·exact wpAny_pure ⟨rfl,h⟩
 ·refine wpAny_bind (wpAny_rule ?_);refine wpAny_bind (wpAny_standAt ?_);exact wpAny_bind (wpAny_mono (hi _) (fun cc s' h'=>wpAny_pure ⟨rfl,h'⟩) fun _ _ z=>z)
theorem jhw {ax:Expr}{gens:List Comprehension}{scope:Scope}{pos:Pos}{d:Nat}{it acc:Value}{env:Env}{ab iter aZ a8:Expr}(h0:gens[d]? = some ⟨ab,iter,[],0⟩)(h1:gens[d+1]? = some ⟨aZ,a8,[],0⟩)
  (hs:∀ x,foldedSetIterable a8 env x=pure x) (I:Nat->Shared->Prop)
  (aA:∀ n s,I n s->wpAny (model prog w) A (pyNext it) (fun r s₁=>match r with
   | none=>R (.ok .next) s₁
   | some v=>wpAny (model prog w) A (letOwnedTupleGo ab it v) (fun _ bC=>wpAny (model prog w) A (assign ab env v) (fun _ s₂ =>
     wpAny (model prog w) A (eval a8 env) (fun x s₃=>wpAny (model prog w) A (pyIter x) (fun cc s₄ =>
      codeAny (model prog w) A (.compStart (.ListComp ax gens scope pos) (d+1) cc acc env) (fun r s₅=>match r with
       | .ok _=>∃ m,m<n∧I m s₅
       | .error _=>False) s₄) (fun _ _=>False) s₃) (fun _ _=>False) s₂) (fun _ _=>False) bC) (fun _ _=>False) s₁) (fun _ _=>False) s)
  (n:Nat) (h:I n s):codeAny (model prog w) A (.compLoop (.ListComp ax gens scope pos) d it acc env) R s:=by
 refine codeAny_loop rfl I (fun n s hI=>?_) n h;show wpAny _ A ((compTurn (.ListComp ax gens scope pos) d it acc env).onRaise (fun x=>do noteFrame x env;theTreesLotGoes x)) _ _ s;refine wpAny_noted ?_;unfold compTurn;simp only[h0,h1,hs];refine wpAny_bind (wpAny_standAt ?_);rw[if_neg (by simp)];refine wpAny_bind (wpAny_mono (aA n s hI) (fun r s₁ h₁=>?_) fun _ _ h'=>h'.elim)
 cases r with
 | none=>exact wpAny_pure h₁
 | some v =>
  refine wpAny_bind (wpAny_mono h₁ (fun _ bC cf=>?_) fun _ _ h'=>h'.elim);refine wpAny_bind (wpAny_mono cf (fun _ s₂ h₂=>?_) fun _ _ h'=>h'.elim);refine wpAny_bind (wpAny_tests_nil ?_);rw[if_pos rfl];refine wpAny_bind (wpAny_mono h₂ (fun x s₃ h₃=>?_) fun _ _ h'=>h'.elim);refine wpAny_bind (wpAny_standAt ?_);rw[if_neg (by simp)];refine wpAny_bind (wpAny_pure ?_);rw[if_neg (by simp)];refine wpAny_bind (wpAny_holding (wpAny_mono h₃ (fun cc s₄ h₄=>?_) fun _ _ h'=>h'.elim));refine wpAny_bind (wpAny_runOwn (codeAny_mono h₄ fun r s₅ h₅=>?_))
  cases r with
  | ok f=>exact wpAny_pure ⟨rfl,h₅⟩
  | error e=>exact h₅.elim
theorem jfq {ax:Expr}{gens:List Comprehension}{scope:Scope}{pos:Pos}{d:Nat}{it acc:Value}{env:Env}{ab iter:Expr}(h0:gens[d]? = some ⟨ab,iter,[],0⟩)(h1:gens[d+1]? = none)(I:Nat->Shared->Prop)
  (aA:∀ n s,I n s->wpAny (model prog w) A (pyNext it) (fun r s₁=>match r with
   | none=>R (.ok .next) s₁
   | some v=>wpAny (model prog w) A (letOwnedTupleGo ab it v) (fun _ bC=>wpAny (model prog w) A (assign ab env v) (fun _ s₂ =>
     wpAny (model prog w) A (eval ax env) (fun x s₄ =>
       wpAny (model prog w) A (call (.builtin "list.append") [acc,x]) (fun _ s₅=>∃ m,m<n∧I m s₅) (fun _ _=>False) s₄) (fun _ _=>False) s₂) (fun _ _=>False) bC) (fun _ _=>False) s₁) (fun _ _=>False) s)
  (n:Nat) (h:I n s):codeAny (model prog w) A (.compLoop (.ListComp ax gens scope pos) d it acc env) R s:=by
 refine codeAny_loop rfl I (fun n s hI=>?_) n h;show wpAny _ A ((compTurn (.ListComp ax gens scope pos) d it acc env).onRaise (fun x=>do noteFrame x env;theTreesLotGoes x)) _ _ s;refine wpAny_noted ?_;unfold compTurn;simp only[h0,h1];refine wpAny_bind (wpAny_standAt ?_);rw[if_neg (by simp)];refine wpAny_bind (wpAny_mono (aA n s hI) (fun r s₁ h₁=>?_) fun _ _ h'=>h'.elim)
 cases r with
 | none=>exact wpAny_pure h₁
 | some v =>
  refine wpAny_bind (wpAny_mono h₁ (fun _ bC cf=>?_) fun _ _ h'=>h'.elim);refine wpAny_bind (wpAny_mono cf (fun _ s₂ h₂=>?_) fun _ _ h'=>h'.elim);refine wpAny_bind (wpAny_tests_nil ?_);rw[if_pos rfl];exact wpAny_bind (wpAny_bind (wpAny_mono h₂ (fun x s₄ h₄=>wpAny_bind (wpAny_mono h₄ (fun _ s₅ h₅=>wpAny_pure (wpAny_pure ⟨rfl,h₅⟩)) fun _ _ h'=>h'.elim)) fun _ _ h'=>h'.elim))
end
def xZ (X:Cx)(ax:Expr)(gens:List Comprehension)(scope:Scope)(pos:Pos)(d:Nat)(acc:Addr)(s:Shared)(Po:Shared->Prop):Prop:=match gens[d+1]? with
 | none=>wpAny (model X.prog X.w) X.A (eval ax X.env) (fun x s₄=>wpAny (model X.prog X.w) X.A (call (.builtin "list.append") [.ref acc,x]) (fun _ s₅=>Po s₅) (fun _ _=>False) s₄) (fun _ _=>False) s
 | some g=>wpAny (model X.prog X.w) X.A (eval g.iter X.env) (fun x s₃=>wpAny (model X.prog X.w) X.A (pyIter x) (fun cc s₄ =>
   codeAny (model X.prog X.w) X.A (.compStart (.ListComp ax gens scope pos) (d+1) cc (.ref acc) X.env) (fun r s₅=>match r with
    | .ok _=>Po s₅
    | .error _=>False) s₄) (fun _ _=>False) s₃) (fun _ _=>False) s
theorem xZ.mono {X:Cx}{ax:Expr}{gens:List Comprehension}{scope:Scope}{pos:Pos}{d:Nat}{acc:Addr}{s:Shared}{Po hX:Shared->Prop}(h:xZ X ax gens scope pos d acc s Po)(k:∀ s,Po s->hX s):xZ X ax gens scope pos d acc s hX:=by
 unfold xZ at h ⊢;split
 ·rename_i e;rw[e]at h;exact wpAny_mono h (fun x s₄ h₄=>wpAny_mono h₄ (fun _ s₅ h₅=>k s₅ h₅) fun _ _ z=>z) fun _ _ z=>z
 ·rename_i g e;rw[e]at h;refine wpAny_mono h (fun x s₄ h₄=>wpAny_mono h₄ (fun _ s₅ h₅=>codeAny_mono h₅ fun r s h=>?_) fun _ _ z=>z) fun _ _ z=>z
  cases r with
  | ok f=>exact k s h
  | error e=>exact h
structure Plainly (env:Env)(gens:List Comprehension)(d:Nat):Prop where
 h:∀ g,gens[d+1]? = some g->g.ifs=[]∧g.is_async=0∧∀ x,foldedSetIterable g.iter env x=pure x
theorem jbe {X:Cx}{R:Result->Shared->Prop}{s:Shared}{ax:Expr}{gens:List Comprehension}{scope:Scope}{pos:Pos}{d:Nat}{it:Value}{acc:Addr}{ab iter:Expr}(h0:gens[d]? = some ⟨ab,iter,[],0⟩)(h1:Plainly X.env gens d)(I:Nat->Shared->Prop)
  (aA:∀ n s,I n s->wpAny (model X.prog X.w) X.A (pyNext it) (fun r s₁=>match r with
   | none=>R (.ok .next) s₁
   | some v=>wpAny (model X.prog X.w) X.A (letOwnedTupleGo ab it v) (fun _ bC=>wpAny (model X.prog X.w) X.A (assign ab X.env v) (fun _ s₂ =>
     xZ X ax gens scope pos d acc s₂ fun s₅=>∃ m,m<n∧I m s₅) (fun _ _=>False) bC) (fun _ _=>False) s₁) (fun _ _=>False) s)
  (n:Nat) (h:I n s):codeAny (model X.prog X.w) X.A (.compLoop (.ListComp ax gens scope pos) d it (.ref acc) X.env) R s:=by
 cases e:gens[d+1]? with
 | none =>
  refine jfq h0 e I (fun n s hI=>wpAny_mono (aA n s hI) (fun r s₁ h₁=>?_) fun _ _ z=>z) n h
  cases r with
  | none=>exact h₁
  | some v =>
   refine wpAny_mono h₁ (fun _ bC cf=>wpAny_mono cf (fun _ s₂ h₂=>?_) fun _ _ z=>z) fun _ _ z=>z;unfold xZ at h₂;rw[e]at h₂;exact h₂
 | some g =>
  obtain⟨aZ,a8,ifs',ka⟩:=g;obtain⟨a,b,c⟩:=h1.h _ e;dsimp only at a b c;subst a;subst b;refine jhw h0 e c I (fun n s hI=>wpAny_mono (aA n s hI) (fun r s₁ h₁=>?_) fun _ _ z=>z) n h
  cases r with
  | none=>exact h₁
  | some v =>
   refine wpAny_mono h₁ (fun _ bC cf=>wpAny_mono cf (fun _ s₂ h₂=>?_) fun _ _ z=>z) fun _ _ z=>z;unfold xZ at h₂;rw[e]at h₂;exact h₂
abbrev TB:=Addr->St->Hp->(St->Hp->Prop)->Prop
def PMb (X:Cx)(ax:Expr)(gens:List Comprehension)(scope:Scope)(pos:Pos)(d:Nat)(tb:TB):Prop :=
 ∀(acc:Addr) (aa:List (Addr×Obj)) (s:Shared) (σ:St) (H:Hp) (N:St->Hp->Prop),Inv X aa σ H s->tb acc σ H N->xZ X ax gens scope pos d acc s fun s'=>∃ σ' H',Inv X aa σ' H' s'∧N σ' H'
def jiN (J:It)(acc:Addr)(own:Nat)(js:List Nat)(g:TG)(tb:TB)(σ:St)(Q:VK)(H1:Hp):Prop :=
 ∃ W:Nat->Nat->St->Hp->Prop,(∃ m,W 0 m (yY own js σ) (upd H1 acc (.lst [])))∧∀ i m σ2 H2,W i m σ2 H2->(J.stop i H2∧Q (.ref acc) H2) ∨
  (J.go i H2∧∃ N:St->Hp->Prop,(∀ σ' H',N σ' H'->∃ m',m'<m∧W (i+1) m' σ' H')∧∀ x H3,J.yld i H2 x H3->g x σ2 H3 fun σ4 H4=>tb acc σ4 H4 N)
def jgj (wi:TI)(own:Nat)(js:List Nat)(g:TG)(tb:TB):TE:=fun σ H Q=>wi σ H fun J H1=>∀ acc,H1 acc=none->jiN J acc own js g tb σ Q H1
def jdv (wi:TI)(g:TG)(tb:TB):TB:=fun acc σ H N=>wi σ H fun J H1=>∃ W:Nat->Nat->St->Hp->Prop,(∃ m,W 0 m σ H1)∧∀ i m σ2 H2,W i m σ2 H2->(J.stop i H2∧N σ2 H2) ∨
  (J.go i H2∧∃ N':St->Hp->Prop,(∀ σ' H',N' σ' H'->∃ m',m'<m∧W (i+1) m' σ' H')∧∀ x H3,J.yld i H2 x H3->g x σ2 H3 fun σ4 H4=>tb acc σ4 H4 N')
theorem jff {X:Cx}{ax:Expr}{gens:List Comprehension}{scope:Scope}{pos:Pos}{d:Nat}{ab iter:Expr}{wi:TI}{g:TG}{tb:TB}(b6:X.xe=fun _ _=>False)(hc:X.calm=true)(h1:gens[d+1]? = some ⟨ab,iter,[],0⟩)(h2:Plainly X.env gens (d+1))(hi:PI X ab iter wi)(hg:PG X ab g)(hb:PMb X ax gens scope pos (d+1) tb):PMb X ax gens scope pos d (jdv wi g tb):=by
 intro acc aa s σ H N I h;unfold xZ;rw[h1];have cq:=hi aa s σ H _ I h;rw[b6]at cq;refine thn cq fun v s1 j3=>thn j3 fun eS s2 j0=>?_;obtain⟨it,fp,tn,J,H2,e,I2,T,cH,f2,W,⟨m0,w0⟩,aA⟩:=j0;subst e
 have bt:∀{H':Hp},(∀ b∈fp,H' b=none)->∀ b∈fp,yS X aa H' b:=fun hn b hb=>⟨hn b hb,(f2 b hb).2⟩
 have aW:codeAny (model X.prog X.w) X.A (.compLoop (.ListComp ax gens scope pos) (d+1) (.ref it) (.ref acc) X.env) (fun r s₅=>match r with
    | .ok _=>∃ σ' H',Inv X aa σ' H' s₅∧N σ' H'
    | .error _=>False) s2:=by
  refine jbe h1 h2 (fun n s'=>∃ i σ' H',Inv X aa σ' H' s'∧tn i s'.heap∧(∀ b∈fp,H' b=none)∧W i n σ' H') ?_ m0 ⟨0,σ,H2,I2,cH,fun b hb=>(f2 b hb).1,w0⟩;rintro n s3 ⟨i,σ3,H3,I3,eR,eX,w3⟩
  rcases aA i n σ3 H3 w3 with⟨stop,qn⟩ | ⟨go,N',hN,step⟩
  ·refine thn (T.done X rfl rfl rfl hc i aa s3 σ3 H3 _ I3 (bt eX) eR stop) fun r s4 ae=>?_;obtain⟨hr,I4⟩:=ae;subst hr;exact⟨σ3,H3,I4,qn⟩
  ·refine thn (T.item X rfl rfl rfl hc i aa s3 σ3 H3 _ I3 (bt eX) eR go) fun r s4 ae=>?_;obtain⟨u,hr,h4⟩:=ae;subst hr;refine thn h4 fun _ s5 ae=>?_;obtain⟨x,H5,I5,r5,y5,bJ,cP⟩:=ae;have eZ:=I5.pinned (bt cP) (T.obj _ _ bJ);have gR:=hg _ s5 σ3 H5 x u _ eZ r5 (step x H5 y5);rw[b6]at gR;refine thn gR fun _ s6 ae=>?_;obtain⟨σ6,H6,I6,q6⟩:=ae;refine(hb acc _ s6 σ6 H6 N' I6 q6).mono fun s7 ae=>?_;obtain⟨σ7,H7,I7,n7⟩:=ae;obtain⟨m',hm,w7⟩:=hN σ7 H7 n7;refine⟨m',hm,i+1,σ7,H7,I7.unpinned,T.keep _ _ _ bJ fun b hb o e=>(I7.pin (b,o) (mem_append_right _ (mem_append_right _ (yp hb e)))).1,fun b hb=>?_,w7⟩;obtain⟨o,e,d⟩:=T.obj _ _ bJ b hb;exact(I7.pin (b,o) (mem_append_right _ (mem_append_right _ (yp hb e)))).2.1
 exact jgn h1 aW fun E=>T.self _ 0 _ _ _ cH aW
def tLast (te:TE):TB:=fun acc σ H N=>te σ H fun y H6=>∃ xs,H6 acc=some (.lst xs)∧xs.length<sizeLine∧N σ (upd H6 acc (.lst (xs++[y])))
theorem pm_last {X:Cx}{ax:Expr}{gens:List Comprehension}{scope:Scope}{pos:Pos}{d:Nat}{te:TE}(b6:X.xe=fun _ _=>False)(h1:gens[d+1]? = none)(he:PE X ax te):PMb X ax gens scope pos d (tLast te):=by
 intro acc aa s σ H N I h;unfold xZ;rw[h1];have fP:=he aa s σ H _ I h;rw[b6]at fP;refine thn fP fun y ie ae=>?_;obtain⟨v,gm,h9,gv,xs,kc,hz,iP⟩:=ae;have ap:=JW _ ie σ gm (.ref acc) [v] (.ref acc) [y] (fun z ia=>z = .non∧ia=upd gm acc (.lst (xs++[v]))) h9 rfl (.cons gv .nil) ⟨_,xs,v,rfl,rfl,kc,hz,rfl,rfl⟩;rw[b6]at ap;refine thn ap fun z s11 ae=>?_;obtain⟨z',ia,kf,_,_,j6⟩:=ae;subst j6;exact⟨σ,_,kf,iP⟩
section
variable {X:Cx}{aa:List (Addr×Obj)}{σ:St}{H:Hp}{s:Shared}{osc sc:Scope}{own fr:List Str}{js:List Nat}{fp:List Addr}
theorem jcZ {ax ab iter:Expr}{rest:List Comprehension}{pos:Pos}{it:Addr}{tn:Nat->Heap->Prop}{J:It}{g:TG}{tb:TB}{Q:VK}{RR:Value->Addr->Result->Shared->Prop}{E:Value->Shared->Prop}
  (hc:X.calm=true) (ho:X.env.scope=osc) (S:CompScope osc sc own fr) (hj:js.map (fun j=>X.N[j]?)=fr.map some)
  (hg:∀ s₃ H₃ fp,PG (jQ X (own++fr) sc s₃ H₃ fp) ab g) (aX:∀ s₃ H₃ fp,Plainly (jQ X (own++fr) sc s₃ H₃ fp).env (⟨ab,iter,[],0⟩::rest) 0) (hb:∀ s₃ H₃ fp,PMb (jQ X (own++fr) sc s₃ H₃ fp) ax (⟨ab,iter,[],0⟩::rest) sc pos 0 tb)
  (I:Inv X aa σ H s) (T:Turn X.prog X.w X.K ab J fp it tn) (st:tn 0 s.heap) (hf:∀ b∈fp,yS X aa H b)
  (h:∀ acc,H acc=none->jiN J acc own.length js g tb σ Q H)
  (fin:∀ acc C H' s',Inv X aa σ H' s'->yS X aa H' C->(∃ m,s'.heap.Ns C m)->Q (.ref acc) H'->RR (.ref acc) C (.ok .next) s') :
  wpAny (model X.prog X.w) X.A (newList []) (fun acc s₃=>wpAny (model X.prog X.w) X.A (newFunctionEnv sc X.env.globals (xG sc X.env) [] X.env.qual none .none (some X.env)) (fun cw s₄ =>
   codeAny (model X.prog X.w) X.A (.compStart (.ListComp ax (⟨ab,iter,[],0⟩::rest) sc pos) 0 (.ref it) acc { cw with scope:=relabel sc X.env }) (RR acc cw.locals) s₄) E s₃) E s:=by
 obtain⟨W,⟨m0,w0⟩,aA⟩:=h s.heap.objs.size (I.hok.fresh (le_refl _))
 have aU:∀ b∈fp,b<s.heap.objs.size:=fun b hb=>by
  obtain⟨o,e,_⟩:=T.obj _ _ st b hb;exact lt_size e
 refine wpAny_newList ?_;have I3:Inv X aa σ (upd H s.heap.objs.size (.lst [])) { s with heap:=s.heap.push { cls:=.type "list",data:=.seq ([]:List Value).toArray } }:=I.lnew (its:=[]) (ys:=[]) (t':=s.toks) .nil (zero_le _)
 have f3:∀ b∈fp,yS X aa (upd H s.heap.objs.size (.lst [])) b:=fun b hb=>⟨by rw[jk (ne_of_lt (aU b hb))];exact(hf b hb).1,(hf b hb).2⟩
 have cj:(s.heap.push { cls:=.type "list",data:=.seq ([]:List Value).toArray }).objs.size=s.heap.objs.size+1:=size_push ..;refine xI ?_;dsimp only
 obtain⟨h₁,e₁⟩:∃ h₁,h₁=pushCells ((s.heap.push { cls:=.type "list",data:=.seq ([]:List Value).toArray }).push { cls:=.type "dict",data:=.dict #[] }) sc.names:=⟨_,rfl⟩
 rw[<- e₁]
 have dB:h₁.Ns (s.heap.push { cls:=.type "list",data:=.seq ([]:List Value).toArray }).objs.size fun _=>none:=by
  rw[e₁];exact UE _ (Heap.Ns.new ..)
 have b4:∀ b o,(s.heap.push { cls:=.type "list",data:=.seq ([]:List Value).toArray }).get? b=some o->h₁.get? b=some o:=fun b o e=>by
  rw[e₁];exact pushCells_keeps _ _ _ _ (get?_push_of_some _ e)
 have dI:∀ x c,(cellsFrom ((s.heap.push { cls:=.type "list",data:=.seq ([]:List Value).toArray }).objs.size+1) sc.names (xG sc X.env)).lookup x=some c->∃ v,h₁.IsCell c v:=fun x c e=>by
  rw[e₁];refine JG sc.names _ (xG sc X.env) (fun y d q=>?_) (by rw[size_push];exact e);obtain⟨v,hv⟩:=I3.cell y d (ux I3 ho S q);exact⟨v,hv.keeps fun b o e=>get?_push_of_some _ e⟩
 have dm:∀ b∈fp,b<(s.heap.push { cls:=.type "list",data:=.seq ([]:List Value).toArray }).objs.size:=fun b hb=>by rw[cj];exact lt_succ_of_lt (aU b hb)
 have I4:=XD (own:=own) (fr:=fr) (js:=js) (tk:=s.toks) I3 ho S hj f3 dm dB b4 dI;have eQ:tn 0 h₁:=T.keep _ _ _ st fun b _ o e=>b4 b o (get?_push_of_some _ e)
 have dH:∀{H':Hp},(∀ b∈fp,H' b=none)->∀ b∈fp,yS (jQ X (own++fr) sc { s with heap:=s.heap.push { cls:=.type "list",data:=.seq ([]:List Value).toArray } } (upd H s.heap.objs.size (.lst [])) fp) [] H' b:=fun hn b hb =>
  ⟨hn b hb,ne_of_lt (dm b hb),fun hm=>by
   rcases List.mem_cons.mp (I.stkSub b hm)with z | z
   ·exact(hf b hb).2.1 z
   ·exact(hf b hb).2.2.1 z,.inl hb,fun x c e=>(XX I3 ho S e).elim (fun z=>(hf b hb).2.2.2.2.1 x c z) (fun z=>ne_of_gt (lt_trans (dm b hb) z)),fun p hp=>absurd (show p∈([]:List (Addr×Obj))from hp) (by simp)⟩
 have aW:∀ s₃:Shared,s₃={ s with heap:=h₁ } ->
   codeAny (model X.prog X.w) X.A (.compLoop (.ListComp ax (⟨ab,iter,[],0⟩::rest) sc pos) 0 (.ref it) (.ref s.heap.objs.size) (compEnvC sc (cellsFrom ((s.heap.push { cls:=.type "list",data:=.seq ([]:List Value).toArray }).objs.size+1) sc.names (xG sc X.env)) (s.heap.push { cls:=.type "list",data:=.seq ([]:List Value).toArray }).objs.size X.env))
    (RR (.ref s.heap.objs.size) (s.heap.push { cls:=.type "list",data:=.seq ([]:List Value).toArray }).objs.size) s₃:=by
  rintro s₃ rfl
  refine jbe (X:=jQ X (own++fr) sc { s with heap:=s.heap.push { cls:=.type "list",data:=.seq ([]:List Value).toArray } } (upd H s.heap.objs.size (.lst [])) fp) rfl (aX _ _ _) (fun n s'=>∃ i σ' H',Inv (jQ X (own++fr) sc { s with heap:=s.heap.push { cls:=.type "list",data:=.seq ([]:List Value).toArray } } (upd H s.heap.objs.size (.lst [])) fp) [] σ' H' s'∧tn i s'.heap∧(∀ b∈fp,H' b=none)∧W i n σ' H')
   ?_ m0 ⟨0,_,_,I4,eQ,fun b hb=>(f3 b hb).1,w0⟩
  rintro n s5 ⟨i,σ5,H5,I5,bJ,cP,w5⟩;have cV:(jQ X (own++fr) sc { s with heap:=s.heap.push { cls:=.type "list",data:=.seq ([]:List Value).toArray } } (upd H s.heap.objs.size (.lst [])) fp).calm=true:=hc
  rcases aA i n σ5 H5 w5 with⟨stop,qn⟩ | ⟨go,N,hN,step⟩
  ·refine thn (T.done (jQ X (own++fr) sc { s with heap:=s.heap.push { cls:=.type "list",data:=.seq ([]:List Value).toArray } } (upd H s.heap.objs.size (.lst [])) fp) rfl rfl rfl cV i [] s5 _ H5 _ I5 (dH cP) bJ stop) fun r s6 ae=>?_;obtain⟨hr,I6⟩:=ae;subst hr;have B:=VS I rfl (tk:=s.toks) hf I6;refine fin _ _ H5 s6 B ?_ ?_ qn
   ·refine I.fpOk ?_ I6.free;show s.heap.objs.size<=(s.heap.push { cls:=.type "list",data:=.seq ([]:List Value).toArray }).objs.size;rw[cj];exact le_succ _
   ·obtain⟨m,hm,_⟩:=I6.loc;exact⟨m,hm⟩
  ·refine thn (T.item (jQ X (own++fr) sc { s with heap:=s.heap.push { cls:=.type "list",data:=.seq ([]:List Value).toArray } } (upd H s.heap.objs.size (.lst [])) fp) rfl rfl rfl cV i [] s5 _ H5 _ I5 (dH cP) bJ go) fun r s6 ae=>?_;obtain⟨u,hr,h6⟩:=ae;subst hr;refine thn h6 fun _ s7 ae=>?_;obtain⟨x,H7,I7,r7,y7,df,g7⟩:=ae;have hZ:=I7.pinned (dH g7) (T.obj _ _ df);refine thn (hg _ _ _ _ s7 _ H7 x u _ hZ r7 (step x H7 y7)) fun _ s8 ae=>?_;obtain⟨σ8,H8,I8,q8⟩:=ae;refine(hb _ _ _ _ _ s8 σ8 H8 N I8 q8).mono fun s9 ae=>?_;obtain⟨σ9,H9,I9,n9⟩:=ae;obtain⟨m',hm,w9⟩:=hN σ9 H9 n9;refine⟨m',hm,i+1,σ9,H9,I9.unpinned,T.keep _ _ _ df fun b hb o e=>(I9.pin (b,o) (mem_append_right _ (mem_append_right _ (yp hb e)))).1,fun b hb=>?_,w9⟩;obtain⟨o,e,d⟩:=T.obj _ _ df b hb;exact(I9.pin (b,o) (mem_append_right _ (mem_append_right _ (yp hb e)))).2.1
 exact codeAny_compStart_list (aW _ rfl) (T.self _ 0 _ _ _ eQ (aW _ rfl))
end
section
variable {X:Cx}{osc sc:Scope}{own fr:List Str}{js:List Nat}{ax ab iter:Expr}{rest:List Comprehension}{pos:Pos}{wi:TI}{g:TG}{tb:TB}
theorem jhh (hc:X.calm=true)(ho:X.env.scope=osc)(S:CompScope osc sc own fr)(hj:js.map (fun j=>X.N[j]?)=fr.map some)(hi:PI X ab iter wi)
  (hg:∀ s₃ H₃ fp,PG (jQ X (own++fr) sc s₃ H₃ fp) ab g) (aX:∀ s₃ H₃ fp,Plainly (jQ X (own++fr) sc s₃ H₃ fp).env (⟨ab,iter,[],0⟩::rest) 0) (hb:∀ s₃ H₃ fp,PMb (jQ X (own++fr) sc s₃ H₃ fp) ax (⟨ab,iter,[],0⟩::rest) sc pos 0 tb)
  (hs:∀ x,foldedSetIterable iter X.env x=pure x:=by intro _;rfl):PE X (.ListComp ax (⟨ab,iter,[],0⟩::rest) sc pos) (jgj wi own.length js g tb):=by
 intro aa s σ H Q I h;rw[eval_ListComp];refine wpAny_comprehension_free (use:=none) rfl hs (vL (jbM I ho S)) S.kind S.loc (thn (hi aa s σ H _ I h) fun v s1 h1=>thn h1 fun eS s2 h2=>?_);obtain⟨it,fp,tn,J,H2,e,I2,T,cH,f2,q2⟩:=h2;subst e;refine jcZ (RR:=fun acc C=>compPost (model X.prog X.w) X.A X.xe none (EP X aa σ Q) acc C) hc ho S hj hg aX hb I2 T cH f2 q2 fun acc C H' s' J hC hn q=>?_;obtain⟨m,hm⟩:=hn;refine⟨m,hm,fun h' ck=>⟨.ref acc,H',?_,rfl,q⟩⟩;obtain⟨f0,f1,j5,f3,f4,f5⟩:=hC;exact J.turned (t':=s'.toks) (fun b o hb e=>ck.extBut b o hb e) f0 f1 f3 f4 f5
end
end L2
namespace L3
open PySem L2
abbrev EM:=En->Sto->Res (List PV)
def emE (de:DE):EM:=fun ρ M=>(de ρ M).noX.bind fun y M1=>.ok [y] M1
def emN (p:ItP)(i:Nat)(em:EM)(ρ:En):Nat->Nat->Sto->Res (List PV)
 | 0,_,_=>.bad
 | n+1,k,M=>match nxt p M k with
  | none=>.bad
  | some none=>.ok [] M
  | some (some x)=>(em (ρ.set i (some x)) M).noX.bind fun ys M2=>(emN p i em ρ n (k+1) M2).noX.bind fun zs M3=>.ok (ys++zs) M3
def jdj (W:Wd)(acc:Addr)(ρ:En)(vs:List V)(N:St->Hp->Prop)(r:Res (List PV)):Prop:=match r with
 | .ok zs M'=>vs.length+zs.length<=sizeLine∧∀ W' σ' H' ws,W.le0 W'->W'.G=L2.upd W.G acc (.lst (vs++ws))->Held W' M' H'->yc W' zs ws->yl W' ρ σ'->N σ' H'
 | _=>False
def lfM (T:Tb)(own d:Nat)(em:EM):TB:=fun acc σ H N=>∃ W ρ M vs,W.T=T∧Held W M H∧yl W ρ σ∧W.G acc=some (.lst vs)∧(∀ j,d<j->j<own->ρ[j]? = some none)∧jdj W acc ρ vs N (em ρ M)
structure QM (X:Cx)(T:Tb)(own:Nat)(ax:Expr)(gens:List Comprehension)(sc:Scope)(pos:Pos)(d:Nat)(em:EM):Prop where
 h:PMb X ax gens sc pos d (lfM T own d em)
theorem yl.up0 {W W':Wd}{ρ:En}{σ:St}(l:W.le0 W')(h:yl W ρ σ):yl W' ρ σ:=⟨h.1,fun i x e=>by
 obtain⟨v,e1,r⟩:=h.2 i x e
 exact⟨v,e1,r.up0 l⟩⟩
section
variable {T:Tb}{own:Nat}{em:EM}
theorem vD {W:Wd}{ρ:En}{σ:St}{i:Nat}{x:PV}(hn:ρ[i]? = some none)(h:yl W (ρ.set i (some x)) σ):yl W ρ σ:=by
 refine⟨by rw[h.1,length_set],fun j y e=>h.2 j y ?_⟩
 have hj:j≠i:=fun z=>by rw[z,hn]at e;cases e
 rw[getElem?_set_ne (fun z=>hj z.symm)];exact e
theorem jce {G:Hp}{a:Addr}{o:HO}(h:G a=some o):L2.upd G a o=G:=by
 funext b
 by_cases e:b=a
 ·subst e;rw[jr,h]
 ·rw[jk e]
theorem turns {W0:Wd}{it:ItP}{J:It}{acc:Addr}{ρ:En}{vs:List V}{N:St->Hp->Prop}{i0:Nat}{M0:Sto}{σ:St}{H0:Hp}{tb:TB}(k0:W0.T=T)(ri:RI W0 it J)(g0:W0.G acc=some (.lst vs))(hn:ρ[i0]? = some none)(h0:Held W0 M0 H0)(hs:yl W0 ρ σ)
  (f:jdj W0 acc ρ vs N (emN it i0 em ρ (yj it M0) 0 M0))
  (body:∀(W:Wd) (M:Sto) (x:PV) (us:List V) (N':St->Hp->Prop) (σ4:St) (H4:Hp),W.T=T->Held W M H4->yl W (ρ.set i0 (some x)) σ4->W.G acc=some (.lst us)->jdj W acc (ρ.set i0 (some x)) us N' (em (ρ.set i0 (some x)) M)->tb acc σ4 H4 N') :
  ∃ Wk:Nat->Nat->St->Hp->Prop,(∃ m,Wk 0 m σ H0)∧∀ i m σ2 H2,Wk i m σ2 H2->(J.stop i H2∧N σ2 H2) ∨
   (J.go i H2∧∃ N':St->Hp->Prop,(∀ σ' H',N' σ' H'->∃ m',m'<m∧Wk (i+1) m' σ' H')∧∀ v H3,J.yld i H2 v H3->vo i0 v σ2 H3 fun σ4 H4=>tb acc σ4 H4 N'):=by
 let eY:Nat->Nat->St->Hp->Prop:=fun i m σ2 H2=>∃ W1 M1 us ys,W0.le0 W1∧W1.G=L2.upd W0.G acc (.lst (vs++us))∧Held W1 M1 H2∧yc W1 ys us∧yl W1 ρ σ2∧(match emN it i0 em ρ m i M1 with
  | .ok zs M'=>vs.length+(ys.length+zs.length)<=sizeLine∧∀ W' σ' H' ws,W0.le0 W'->W'.G=L2.upd W0.G acc (.lst (vs++ws))->Held W' M' H'->yc W' (ys++zs) ws->yl W' ρ σ'->N σ' H'
  | _=>False)
 refine⟨eY,⟨yj it M0,W0,M0,[],[],(Wd.le.refl W0).toLe0,by rw[append_nil,jce g0],h0,rfl,hs,?_⟩,?_⟩
 ·cases e:emN it i0 em ρ (yj it M0) 0 M0 with
  | bad=>rw[e]at f;exact f.elim
  | exc _ _=>rw[e]at f;exact f.elim
  | ok zs M' =>
   rw[e]at f;refine⟨by simpa using f.1,fun W' σ' H' ws le g h r s=>f.2 W' σ' H' ws le g h (by simpa using r) s⟩
 rintro i m σ2 H2 ⟨W1,M1,us,ys,bK,g1,h1,r1,s1,f1⟩;have k1:W1.T=T:=bK.k.trans k0;have rl:=r1.length
 cases m with
 | zero=>exact f1.elim
 | succ m =>
  unfold emN at f1;obtain⟨bZ,a6⟩:=ri W1 M1 H2 bK h1 i;split at f1
  rotate_left
  ·exact f1.elim
  rename_i zs M' ef;split at ef
  ·cases ef
  ·rename_i en;cases ef;exact .inl ⟨a6 en,f1.2 W1 σ2 H2 us bK g1 h1 (by simpa using r1) s1⟩
  ·rename_i x en;obtain⟨go,yld⟩:=bZ x en;refine .inr ⟨go,eY (i+1) m,fun σ' H' q=>⟨m,lt_succ_self _,q⟩,fun v H3 hy=>?_⟩;obtain⟨W2,l2,h2,r2⟩:=yld v H3 hy
   have ga:W2.G acc=some (.lst (vs++us)):=by rw[l2.g,g1,jr]
   show tb acc (σ2.set i0 (some v)) H3 _;refine body W2 M1 x (vs++us) _ _ _ (l2.k.trans k1) h2 ((s1.up l2).set r2) ga ?_
   cases e1:em (ρ.set i0 (some x)) M1 with
   | bad=>rw[e1]at ef;cases ef
   | exc _ _=>rw[e1]at ef;cases ef
   | ok eP M2 =>
    rw[e1]at ef;have ef:((emN it i0 em ρ m (i+1) M2).noX.bind fun zs M3=>Res.ok (eP++zs) M3) = .ok zs M':=ef
    cases e2:emN it i0 em ρ m (i+1) M2 with
    | bad=>rw[e2]at ef;cases ef
    | exc _ _=>rw[e2]at ef;cases ef
    | ok zs1 M3 =>
     rw[e2]at ef;cases ef;obtain⟨hz,f1⟩:=f1;simp only[length_append]at hz;refine⟨by simp only[length_append];omega,fun W' σ' H' ws le g h r s=>?_⟩;refine⟨W',M2,us++ws,ys++eP,(bK.trans l2.toLe0).trans le,?_,h,((r1.up l2).up0 le).append r,vD hn s,?_⟩
     ·rw[g,l2.g,g1,vB,append_assoc]
     ·rw[e2];refine⟨by simp only[length_append];omega,fun W' σ' H' iH le g h r s=>f1 W' σ' H' iH le g h (by simpa[append_assoc]using r) s⟩
theorem Vv {W:Wd}{ρ:En}{σ:St}{js:List Nat}(own:Nat)(h:yl W ρ σ):yl W (replicate own none++rest js ρ) (yY own js σ):=by
 have r:=Xi (js:=js) h;refine⟨by unfold yY;simp[rest],fun i x e=>?_⟩;unfold yY
 by_cases hi:i<own
 ·rw[getElem?_append_left (by simpa using hi),getElem?_replicate]at e;split at e <;> cases e
 ·rw[getElem?_append_right (by simpa using le_of_not_lt hi),length_replicate]at e;rw[getElem?_append_right (by simpa using le_of_not_lt hi),length_replicate];exact r.2 _ x e
end
theorem jgW {env:Env}{gens:List Comprehension}{d:Nat}{g:Comprehension}(h:gens[d+1]? = some g)(h1:g.ifs=[])(h2:g.is_async=0)(h3:∀ x,foldedSetIterable g.iter env x=pure x):Plainly env gens d:=⟨fun g' e=>by
 rw[h]at e;cases e
 exact⟨h1,h2,h3⟩⟩
theorem UA {env:Env}{gens:List Comprehension}{d:Nat}(h:gens[d+1]? = none):Plainly env gens d:=⟨fun g' e=>by
 rw[h]at e
 cases e⟩
abbrev Pr:=List Int×Int
abbrev EMD:=En->Sto->Res (List Pr)
end L3
namespace L2
open PySem PySem.Spec PyProof.Rows
section
variable {prog:Program}{w:World}{A:Around}{E:Value->Shared->Prop}{s:Shared}{xs:List (List Key×Addr×Value)}
theorem jjb {d a:Addr}{k:List Key}{v:Value}{Q:Value->Shared->Prop}(hu:A.units<cLine)(bW:(tupleKind (ye prog w)).is s.heap k a)(hm:s.heap.DictOfH (tupleKind (ye prog w)) d xs)
  (h1:∀ p,atKey xs k=some p->Q p.2 { s with toks:=s.toks+(tupleKind (ye prog w)).draws k })
  (h2:atKey xs k=none->∀ h',h'.DictOfH (tupleKind (ye prog w)) d (storedH xs k a v)->SameBut d s.heap h'->Q v { s with heap:=h',toks:=s.toks+(tupleKind (ye prog w)).draws k })
  (hsz:xs.length<=sizeLine):wpAny (model prog w) A (dictSetDefault d (.ref a) v) Q E s:=by
 obtain⟨o,es,ep,ho,hc,hd,he,his,hn⟩:=hm;unfold dictSetDefault
 try with_reducible refine wpAny_holding ?_
 refine wpAny_bind ((tupleKind (ye prog w)).pyHash hu bW ?_);refine wpAny_bind (wpAny_dictFind_heap (knd:=tupleKind (ye prog w)) (s:={ s with toks:=s.toks+(tupleKind (ye prog w)).draws k }) hu bW ho hd he his hn ?_ ?_)
 ·intro eV;have hnot:k∉xs.map (·.1):=not_mem_keys_of_get eV;have ir:=atKey_none_of_get eV
  refine wpAny_bind (wpAny_rule (wpAny_bind (wpAny_updateDictKeys (hz:=by have e:=size_of_entries he;omega) (s:={ s with toks:=s.toks+(tupleKind (ye prog w)).draws k }) ho hd (wpAny_pure (h2 ir _ ⟨_,_,ep+1,get?_update_self _ ho (Obj.isFreed_of_dict (Obj.data_mapDictKeys hd _)),
   hc.mapDictKeys _,Obj.data_mapDictKeys hd _,?_,?_,?_⟩ (Heap.SameBut.update ..))))))
  ·rw[storedH_new ir];simp[he,entryOfKey]
  ·rw[storedH_new ir];intro x hx
   rcases List.mem_append.mp hx with hx | hx
   ·exact(tupleKind (ye prog w)).keeps (his x hx) ho hd (Heap.SameBut.update ..)
   ·simp only[mem_singleton]at hx;subst hx;exact(tupleKind (ye prog w)).keeps bW ho hd (Heap.SameBut.update ..)
  ·rw[storedH_new ir,map_append,List.nodup_append];refine⟨hn,by simp,?_⟩;intro x hx y hy;simp only[map_cons,map_nil,mem_singleton]at hy;subst hy;exact fun e=>hnot (e ▸ hx)
 ·intro j p hj;refine wpAny_bind (wpAny_dictEntries (s:={ s with toks:=s.toks+(tupleKind (ye prog w)).draws k }) ho hd ?_);rw[entry_at he j,hj];exact wpAny_bind (wpAny_rule (wpAny_pure (h1 p (atKey_of_get hn hj))))
theorem Vg (d a:Addr)(hd:(d==sysModules)=false)(dflt:Value) :
  MeetsIn prog w (Builtin.«dict.setdefault» ⟨[.ref d,.ref a,dflt],[]⟩) (fun A R s=>A.units+1<cLine∧∃ k xs,(tupleKind (ye prog w)).is s.heap k a∧s.heap.DictOfH (tupleKind (ye prog w)) d xs∧xs.length<=sizeLine ∧
   (∀ p,atKey xs k=some p->R (.ok (.ret p.2)) { s with toks:=s.toks+(tupleKind (ye prog w)).draws k }) ∧
   (atKey xs k=none->∀ h',h'.DictOfH (tupleKind (ye prog w)) d (storedH xs k a dflt)->SameBut d s.heap h'->R (.ok (.ret dflt)) { s with heap:=h',toks:=s.toks+(tupleKind (ye prog w)).draws k })) :=
 .of_wp fun A R s ae=>by
  obtain⟨hu,k,xs,bW,hm,hsz,h1,h2⟩:=ae;unfold Builtin.«dict.setdefault»;refine wpAny_bind ?_;unfold Builtin.Dict.keyAndDefault;refine wpAny_bind (wpAny_notOrdered_dict hm.typeIs ?_);show wpAny _ _ (pure (d,Value.ref a,some dflt)) _ _ s;refine wpAny_pure ?_;show wpAny _ _ (if(d==sysModules)=true then _ else(dictSetDefault d (.ref a) dflt >>= _)) _ _ s;rw[if_neg (by rw[hd];exact Bool.false_ne_true)];exact wpAny_bind (jjb (by show A.units+1<cLine;omega) bW hm (fun p hp=>wpAny_pure ⟨p.2,rfl,h1 p hp⟩) (fun hn h' hm' ck=>wpAny_pure ⟨dflt,rfl,h2 hn h' hm' ck⟩) hsz)
end
section
variable {X:Cx}{aa:List (Addr×Obj)}{σ:St}{H:Hp}{s:Shared}{a b:Addr}{d:V}{r:Value}{A:Around}{E:Value->Shared->Prop}{kvs:List (List Key×V)}{k:List Key}
theorem jit {Q:Value->Shared->Prop}(hu:A.units+1<cLine)(I:Inv X aa σ H s)(e:H a=some (.dT kvs))(eb:H b=some (.tup (k.map kV)))(l:kvs.length<sizeLine)(rd:yi d r)
  (h1:∀ v w' s',yT kvs k=some v->Inv X aa σ H s'->yi v w'->Q w' s') (h2:yT kvs k=none->∀ s',Inv X aa σ (upd H a (.dT (vh kvs k d))) s'->Q r s'):wpAny (model X.prog X.w) A (call (.builtin "dict.setdefault") [.ref a,.ref b,r]) Q E s:=by
 obtain⟨z,hd,xs,rel,dd⟩:=dt_of I.hok e
 have hz:xs.length<=sizeLine:=by rw[<- Paired.length rel];exact z
 have hl:(vh kvs k d).length<=sizeLine:=by have:=uh kvs k d;omega
 have rv:=rel.val k;refine call_meetsIn PySem.F.slot_dict_setdefault dd.typeIs PySem.F.entry_dict_setdefault (PySem.F.args_dict_setdefault_3 _ _ _) (Vg a b hd r) ⟨hu,k,xs,XB I.hok eb,dd,hz,fun p hp=>?_,fun hn h' gj hs=>?_⟩
 ·rw[hp]at rv
  cases ev:yT kvs k with
  | none=>rw[ev]at rv;exact absurd rv (by intro z;cases z)
  | some v =>
   rw[ev]at rv;exact h1 v _ _ ev (I.tok _) rv
 ·rw[hn]at rv
  have en:yT kvs k=none:=by
   cases ev:yT kvs k with
   | none=>rfl
   | some v=>rw[ev]at rv;exact absurd rv (by intro z;cases z)
  refine h2 en _ ?_;obtain⟨q,es,ep,hq,g2,g3,g4,_,g5⟩:=gj;refine YR I (by rw[e];exact True.intro) hs ⟨q,hq⟩ ⟨hl,hd,_,(rel.put k eb rd).keeps fun c ys ec=>?_,q,es,ep,hq,g2,g3,g4,g5⟩;rw[jk (jht ec e (fun z=>nomatch z))];exact ec
end
section
variable {X:Cx}{o e f:Expr}{apos ar:Pos}{td ty tx:TE}
def tDSet2 (td ty tx:TE):TE:=fun σ H Q=>td σ H fun x H1=>∃ a,x = .ref a∧IsD H1 a∧ty σ H1 fun y H2=>tx σ H2 fun z H3=>∃ b k kvs,y = .ref b∧H3 b=some (.tup (k.map kV))∧H3 a=some (.dT kvs)∧kvs.length<sizeLine ∧
 (∀ v,yT kvs k=some v->Q v H3)∧(yT kvs k=none->Q z (upd H3 a (.dT (vh kvs k z))))
theorem jcx (hu:X.A.units+1<cLine)(ho:PE X o td)(he:PE X e ty)(hf:PE X f tx)(m:M2 X o "setdefault" apos e f ar):PE X (.Call (.Attribute o "setdefault" apos) [e,f] [] ar) (tDSet2 td ty tx):=by
 intro aa s σ H Q I h;refine wpAny_Call_method m.base m.few m.line PySem.F.plainAttrs_dict PySem.F.slot_dict_setdefault PySem.F.type_dict_setdefault (thn (ho aa s σ H _ I h) fun u s1 ae=>?_);obtain⟨x,H1,I1,rx,a,ex,d,q1⟩:=ae;subst ex;obtain rfl:u=Value.ref a:=rx;obtain⟨t1,t2,_⟩:=jcJ I1 d;refine⟨t1,t2,?_⟩;rw[m.trees];refine Calls.callWith_builtin rfl (Calls.evalArgs_plain (Calls.spliced_cons (thn (he aa s1 σ H1 _ I1 q1) fun iv s2 ae=>?_)));obtain⟨y,H2,I2,ry,q2⟩:=ae;refine Calls.spliced_cons (thn (hf aa s2 σ H2 _ I2 q2) fun fv s3 ae=>?_);obtain⟨z,H3,I3,rz,b,k,kvs,ey,hb,ha,hl,c1,c2⟩:=ae;subst ey;cases ry;refine Calls.spliced_nil ?_
 exact jit hu I3 ha hb hl rz (fun v w' s4 ev I4 fj=>⟨v,H3,I4,fj,c1 v ev⟩) fun en s4 I4=>⟨z,_,I4,rz,c2 en⟩
end
open PySem.W
section
variable {prog:Program}{w:World}{A:Around}{E:Value->Shared->Prop}{s:Shared}
theorem iterK {d:Addr}{od:Obj}{es:Array DictEntry}{ep:Nat}{Q:Value->Shared->Prop}(nd:(d==sysModules)=false)(ho:s.heap.get? d=some od)(hx:od.ExactDict)(hd:od.data = .dict es ep)
  (hQ:Q (.ref s.heap.objs.size) { s with heap:=s.heap.push { cls:=.type "dict_keyiterator",data:=.fields #[.ref d,.int 0 0,.int es.size 0,.int ep 0] } }):wpAny (model prog w) A (pyIter (.ref d)) Q E s:=by
 have hT:s.TypeIs (.ref d) "dict":=⟨od,ho,hx.1⟩
 refine wpAny_pyIter_slot hT PySem.F.slot_dict_iter (wpAny_call_entry PySem.F.slot_dict_iter hT PySem.F.entry_dict_iter ?_ (PySem.F.args_dict_iter_1 _));unfold Builtin.«dict.__iter__»;refine wpAny_bind ?_;unfold Builtin.Dict.dictSlotNone;refine wpAny_bind (wpAny_notOrdered_dict hT ?_);show wpAny _ _ (pure (Value.ref d)) _ _ s;refine wpAny_pure ?_;show wpAny _ _ (Builtin.Dict.showsAll d >>= _) _ _ s;unfold Builtin.Dict.showsAll;rw[if_neg (by rw[nd];exact Bool.false_ne_true)];refine wpAny_bind (wpAny_pure ?_);refine wpAny_bind (wpAny_dictEntries ho hd ?_);refine wpAny_bind (wpAny_dictEpoch ho hd ?_);refine wpAny_bind (wpAny_newObj_type (wpAny_pure ⟨_,rfl,"dict_keyiterator",_,⟨_,get?_push_size _ rfl,rfl⟩,PySem.F.slot_dict_keyiterator_next.lookup,?_⟩));simpa[rawInt]using hQ
theorem Xu {it d:Addr}{i ep:Nat}{es:Array DictEntry}{od:Obj}{Q:Option Value->Shared->Prop}(hit:s.heap.IsKeyIter it d i es.size ep)(cT:s.heap.get? d=some od)(cu:od.data = .dict es ep)(fI:i<es.size)
  (hQ:∀ h',h'.IsKeyIter it d (i+1) es.size ep->SameBut it s.heap h'->Q (some es[i].key) { s with heap:=h' }):wpAny (model prog w) A (pyNext (.ref it)) Q E s:=by
 obtain⟨o,ho,hc,hd⟩:=id hit;unfold pyNext
 refine wpAny_bind (wpAny_attempt (wpAny_callSpecial?_slot (name:=Str.ofString "__next__") hit.typeIs PySem.F.slot_dict_keyiterator_next
  (wpAny_call_entry PySem.F.slot_dict_keyiterator_next hit.typeIs PySem.F.entry_dict_keyiterator_next ?_ (PySem.F.args_dict_keyiterator_next_1 _))))
 refine wpAny_bind (wpAny_pure ?_);refine wpAny_bind ?_;refine wpAny_bind ?_
 first | refine wpAny_bind (wpAny_typeNameOfWhole_keyiter hit.typeIs (wpAny_pure ?_)) | refine wpAny_bind (wpAny_typeNameOf_keyiter hit.typeIs (wpAny_pure ?_))
 refine wpAny_bind (wpAny_fieldsOf ho hd ?_)
 have bV:Builtin.Dict_items.ownsTuple "dict_keyiterator" = false:=by decide
 simp only[bV,false_eq_true,if_false];show wpAny _ _ (if(Value.ref d==Value.none)=true then _ else _) _ _ s;rw[if_neg (show ¬((Value.ref d==Value.none)=true)from Bool.false_ne_true)];refine wpAny_bind (wpAny_pure ?_);refine wpAny_bind (wpAny_dictEntries cT cu ?_);rw[if_neg (by simp)];refine wpAny_bind (wpAny_pure ?_);refine wpAny_bind (wpAny_dictEpoch cT cu ?_);rw[if_neg (by simp)];refine wpAny_pure ?_;simp only[show ¬((i:Int)<0)from by omega,if_false,Int.toNat_natCast,Array.getElem?_eq_getElem fI];refine wpAny_bind ?_
 first | refine wpAny_bind (wpAny_typeNameOfWhole_keyiter hit.typeIs (wpAny_pure ?_)) | refine wpAny_bind (wpAny_typeNameOf_keyiter hit.typeIs (wpAny_pure ?_))
 refine wpAny_bind (wpAny_isOneOf_keyiter hit.typeIs ?_);show wpAny _ _ (setField (.ref it) 1 (rawInt ((i:Int)+1)) >>= _) _ _ s;refine wpAny_bind (wpAny_setField ho hd (by simp) ?_)
 have cn:(s.heap.update it (Obj.mapFields (·.setIfInBounds 1 (rawInt ((i:Int)+1))))).IsKeyIter it d (i+1) es.size ep :=
  ⟨_,get?_update_self _ ho (Obj.isFreed_of_fields (Obj.data_mapFields hd _)),(Obj.cls_mapFields ..).trans hc,by rw[Obj.data_mapFields hd];simp[rawInt]⟩
 refine wpAny_bind (wpAny_holding ?_);refine wpAny_bind (wpAny_isOneOf_keyiter (s:={ s with heap:=s.heap.update it (Obj.mapFields (·.setIfInBounds 1 (rawInt ((i:Int)+1)))) }) cn.typeIs ?_);show wpAny _ _ (pure es[i].key) _ _ _;exact wpAny_pure (wpAny_pure ⟨_,rfl,wpAny_pure (hQ _ cn (Heap.SameBut.update ..))⟩)
theorem VD {it d:Addr}{i ep:Nat}{es:Array DictEntry}{od:Obj}{Q:Option Value->Shared->Prop}(hh:A.handled=none)(hit:s.heap.IsKeyIter it d i es.size ep)(cT:s.heap.get? d=some od)(cu:od.data = .dict es ep)(i6:es.size<=i)
  (hQ:∀ h',ExtBut it s.heap h'->Q none { s with heap:=h' }):wpAny (model prog w) A (pyNext (.ref it)) Q E s:=by
 obtain⟨o,ho,hc,hd⟩:=id hit;unfold pyNext
 refine wpAny_bind (wpAny_attempt (wpAny_callSpecial?_slot (name:=Str.ofString "__next__") hit.typeIs PySem.F.slot_dict_keyiterator_next
  (wpAny_call_entry PySem.F.slot_dict_keyiterator_next hit.typeIs PySem.F.entry_dict_keyiterator_next ?_ (PySem.F.args_dict_keyiterator_next_1 _))))
 refine wpAny_bind (wpAny_pure ?_);refine wpAny_bind ?_;refine wpAny_bind ?_
 first | refine wpAny_bind (wpAny_typeNameOfWhole_keyiter hit.typeIs (wpAny_pure ?_)) | refine wpAny_bind (wpAny_typeNameOf_keyiter hit.typeIs (wpAny_pure ?_))
 refine wpAny_bind (wpAny_fieldsOf ho hd ?_)
 have bV:Builtin.Dict_items.ownsTuple "dict_keyiterator" = false:=by decide
 simp only[bV,false_eq_true,if_false];show wpAny _ _ (if(Value.ref d==Value.none)=true then _ else _) _ _ s;rw[if_neg (show ¬((Value.ref d==Value.none)=true)from Bool.false_ne_true)];refine wpAny_bind (wpAny_pure ?_);refine wpAny_bind (wpAny_dictEntries cT cu ?_);rw[if_neg (by simp)];refine wpAny_bind (wpAny_pure ?_);refine wpAny_bind (wpAny_dictEpoch cT cu ?_);rw[if_neg (by simp)];refine wpAny_pure ?_;simp only[show ¬((i:Int)<0)from by omega,if_false,Int.toNat_natCast,Array.getElem?_eq_none i6];refine wpAny_bind ?_
 first | refine wpAny_bind (wpAny_typeNameOfWhole_keyiter hit.typeIs (wpAny_pure ?_)) | refine wpAny_bind (wpAny_typeNameOf_keyiter hit.typeIs (wpAny_pure ?_))
 show wpAny _ _ (setField (.ref it) 0 .none >>= _) _ _ s;refine wpAny_bind (wpAny_setField ho hd (by simp) ?_);show wpAny _ _ (newExc (.type "StopIteration") [] >>= _) _ _ _;refine wpAny_bind ?_;simp only[newExc,newTuple];refine wpAny_bind (wpAny_newObj_type ?_ (by size_fits));refine wpAny_bind (m:=firstArgMember _ _) (wpAny_of_eq (a:=Value.none) (by first | rfl | (simp only[firstArgMember];rfl)) ?_);refine wpAny_newObj_type ?_ (by size_fits);simp only[raiseNew];refine wpAny_bind (wpAny_handled ?_);rw[show A.in1.handled=none from hh];refine wpAny_bind (wpAny_pure (wpAny_throw ?_));refine wpAny_bind (wpAny_isInstance (T:="StopIteration") (b:=true) ⟨_,get?_push_size _ rfl,rfl⟩ isSubtype_stop ?_);exact wpAny_pure (hQ _ (((Heap.SameBut.update ..).extBut.push _).push _))
theorem walksK (hh:A.handled=none)(I d:Addr)(aY:d≠I){od:Obj}{es:Array DictEntry}{ep:Nat}(cu:od.data = .dict es ep) :
  Walks prog w A I [I,d] [I] es.size (fun i v=>∃ e,es[i]? = some e∧v=e.key) (fun i h=>h.IsKeyIter I d i es.size ep∧h.get? d=some od) where
 sub:=fun b hb=>by simp at hb;simp[hb]
 frame:=fun _ _ _ st hk=>⟨st.1.at fun o e=>hk I (by simp) o e,hk d (by simp) _ st.2⟩
 item:=fun i s Q E hi st hQ=>by
  refine Xu st.1 st.2 cu hi fun h' cn ck=>?_;exact hQ _ h' s.toks ⟨es[i],Array.getElem?_eq_getElem hi,rfl⟩ ⟨cn,(ck.2 d aY).trans st.2⟩ fun b o hb e=>ck.extBut b o (fun h=>hb (by simp[h])) e
 done:=fun s Q E st hQ=>VD hh st.1 st.2 cu (le_refl _) fun h' fP=>hQ h' s.toks fun b o hb e=>fP b o (fun h=>hb (by simp[h])) e
 self:=fun _ _ _ _ st hQ=>wpAny_pyIter_keyiter st.1 hQ
theorem srcK {d:Addr}{od:Obj}{es:Array DictEntry}{ep:Nat}(nd:(d==sysModules)=false)(hx:od.ExactDict)(cu:od.data = .dict es ep):KdlSrc prog w "dict" d d es.size (fun i v=>∃ e,es[i]? = some e∧v=e.key) (fun h=>h.get? d=some od) where
 type:=fun _ ho=>⟨od,ho,hx.1⟩
 there:=fun _ ho=>⟨lt_size ho,lt_size ho⟩
 keep:=fun _ _ ho hk=>hk d (.inl rfl) _ ho
 notList:=by decide
 notTuple:=by decide
 hint:=fun _ _ _ _ ho hq=>kdl_hint_dict ⟨od,ho,hx.1⟩ hq
 iter:=fun _ _ hh ho=>⟨_,_,(fun _ _ hq=>iterK nd ho hx cu hq),walksK hh _ d (ne_of_lt (lt_size ho)) cu,⟨⟨_,get?_push_size _ rfl,rfl,rfl⟩,get?_push_of_some _ ho⟩⟩
end
theorem jfu {P:Program}{w:World}{H:Hp}{kvs:List (List Key×V)}{xs:List (List Key×Addr×Value)}(r:KT H kvs xs):∃ bs:List Addr,bs.length=kvs.length∧(xs.map fun x=>Value.ref x.2.1)=bs.map Value.ref∧∀(j:Nat) (kv:List Key×V) (b:Addr),kvs[j]? = some kv->bs[j]? = some b->H b=some (.tup (kv.1.map kV)):=by
 refine⟨xs.map fun x=>x.2.1,by rw[length_map];exact(Paired.length r).symm,by rw[map_map];rfl,fun j kv b e1 e2=>?_⟩;obtain⟨q,hq,z1,z2,z3⟩:=L2.Paired.at r e1;rw[getElem?_map,hq]at e2;cases e2;exact z2
theorem Vm:∀ bs:List Addr,yf (bs.map V.ref) (bs.map Value.ref)
 | []=>.nil
 | _::bs=>.cons rfl (Vm bs)
end L2
namespace L3
open PySem L2
section
variable {α κ:Type}[DecidableEq α][DecidableEq κ]
def xb (l:List (α×PV))(k:α):Option PV:=(l.find? fun p=>decide (p.1=k)).map (·.2)
def xD (l:List (α×PV))(k:α)(x:PV):List (α×PV) :=
 if(l.any fun p=>decide (p.1=k))=true then l.map (fun p=>if p.1=k then(p.1,x)else p)else l++[(k,x)]
variable {W:Wd}{f:α->κ}
theorem yJ.length:∀{l:List (α×PV)}{vs:List (κ×V)},yJ W f l vs->vs.length=l.length
 | [],_,e=>by cases e;rfl
 | _::_,_,⟨_,_,e,_,t⟩=>by subst e;rw[length_cons,length_cons,yJ.length t]
theorem yJ.any (hf:∀ a b,f a=f b->a=b)(k:α):∀{l:List (α×PV)}{vs:List (κ×V)},yJ W f l vs->(vs.any fun p=>decide (p.1=f k))=l.any fun p=>decide (p.1=k)
 | [],_,e=>by cases e;rfl
 | p::_,_,⟨_,_,e,_,t⟩=>by
  subst e;rw[any_cons,any_cons,yJ.any hf k t];congr 1;exact decide_eq_decide.mpr ⟨hf _ _,fun z=>by rw[z]⟩
theorem yJ.get (hf:∀ a b,f a=f b->a=b)(k:α):∀{l:List (α×PV)}{vs:List (κ×V)},yJ W f l vs->(xb l k=none∧yT vs (f k)=none)∨∃ x v,xb l k=some x∧yT vs (f k)=some v∧Rep W x v
 | [],_,e=>by cases e;exact .inl ⟨rfl,rfl⟩
 | p::r,_,⟨v,rs,e,rv,t⟩=>by
  subst e;unfold xb;rw[find?_cons]
  by_cases h:p.1=k
  ·rw[decide_eq_true h];exact .inr ⟨p.2,v,rfl,Jd (by rw[h]),rv⟩
  ·rw[decide_eq_false h];have hv:yT ((f p.1,v)::rs) (f k)=yT rs (f k):=Je (fun z=>h (hf _ _ z));rw[hv];exact yJ.get hf k t
theorem yJ.snoc {k:α}{x:PV}{v:V}(rv:Rep W x v):∀{l:List (α×PV)}{vs:List (κ×V)},yJ W f l vs->yJ W f (l++[(k,x)]) (vs++[(f k,v)])
 | [],_,e=>by cases e;exact⟨v,[],rfl,rv,rfl⟩
 | _::_,_,⟨u,rs,e,r,t⟩=>by subst e;exact⟨u,_,rfl,r,yJ.snoc rv t⟩
theorem yJ.repl (hf:∀ a b,f a=f b->a=b){k:α}{x:PV}{v:V}(rv:Rep W x v):∀{l:List (α×PV)}{vs:List (κ×V)},yJ W f l vs->yJ W f (l.map fun p=>if p.1=k then(p.1,x)else p) (vs.map fun p=>if p.1=f k then(p.1,v)else p)
 | [],_,e=>by cases e;exact rfl
 | p::_,_,⟨u,rs,e,r,t⟩=>by
  subst e;rw[map_cons,map_cons]
  by_cases h:p.1=k
  ·rw[if_pos h,if_pos (by rw[h])];exact⟨v,_,rfl,rv,yJ.repl hf rv t⟩
  ·rw[if_neg h,if_neg (fun z=>h (hf _ _ z))];exact⟨u,_,rfl,r,yJ.repl hf rv t⟩
theorem yJ.put (hf:∀ a b,f a=f b->a=b){k:α}{x:PV}{v:V}{l:List (α×PV)}{vs:List (κ×V)}(r:yJ W f l vs)(rv:Rep W x v):yJ W f (xD l k x) (vh vs (f k) v):=by
 unfold xD vh;rw[r.any hf k];split
 ·exact r.repl hf rv
 ·exact r.snoc rv
end
theorem yX (a b:List Int)(h:xw a=xw b):a=b:=inl_inj.mp h
theorem xS (ns:List Int):(xw ns).map kV=ns.map V.int:=kV_ints ns
def jfJ:DE:=fun _ M=>.ok (.ref M.n) (M.new (.dtv []))
def vg (M:Sto)(o:PV)(ks:List PV)(x:PV):Option Sto:=match o with
 | .ref i=>(match M.g i with
  | some (.dtv l)=>(match vm ks with
   | some ns=>if ns.length<=sizeLine∧l.length<sizeLine then some (M.set i (.dtv (xD l ns x)))else none
   | none=>none)
  | _=>none)
 | _=>none
def Ur (d do_:DE)(dk:DA):DS:=fun ρ M=>(d ρ M).st ρ fun x M1=>(do_ ρ M1).st ρ fun o M2=>(dk ρ M2).st ρ fun ks M3=>match vg M3 o ks x with
 | some M4=>.nx ρ M4
 | none=>.bad
def inTv (neg:Bool)(M:Sto)(ks:List PV)(o:PV):Option PV:=match o with
 | .ref i=>(match M.g i with
  | some (.dtv l)=>(match vm ks with
   | some ns=>if ns.length<=sizeLine then some (.bl (if neg then !(xb l ns).isSome else(xb l ns).isSome))else none
   | none=>none)
  | _=>none)
 | _=>none
def UY (do_:DE)(dk:DA)(dz:DE):DE:=fun ρ M=>(do_ ρ M).bind fun o M1=>match o with
 | .ref i=>(match M1.g i with
  | some (.dtv _)=>(dk ρ M1).bind fun ks M2=>(match vm ks with
   | some ns=>if ns.length<=sizeLine then(dz ρ M2).bind fun z M3=>(match M3.g i with
    | some (.dtv l)=>.ok ((xb l ns).getD z) M3
    | _=>.bad)else .bad
   | none=>.bad)
  | _=>.bad)
 | _=>.bad
section
variable {X:Cx}{T:Tb}{ES:St->XK}{e o f:Expr}{es:List Expr}{pos p2 kp:Pos}{x1:Nat}{d do_ dz:DE}{dk:DA}
theorem Uv:QE X T ES (.Dict [] [] pos) jfJ:=⟨jN jhf fun σ H Q ae=>jC ae fun W ρ M k hh hs q=>fun p hp=>by
 obtain⟨le,h1,h2⟩:=hh.put (l:=p) (o:=.dT []) (c:=.dtv []) hp ⟨[],rfl,rfl⟩
 exact q _ _ _ le h1 ⟨p,rfl,h2⟩⟩
theorem jgF (hu:X.A.units+1<cLine)(he:QE X T ES e d)(ho:QE X T ES o do_)(hk:QA X T ES es dk)(hw:swapsWith e (some (.Subscript o (.Tuple es x1 kp) p2)) pos.line X.env=pure false:=by rfl) :
  QS X T ES (.Assign [.Subscript o (.Tuple es x1 kp) p2] e pos) (Ur d do_ dk) :=
 ⟨xt (Uz hu ho.h (UC hk.h) he.h hw) fun D σ H ae=>yP ae fun W ρ M k hh hs q=>⟨W,ρ,M,k,hh,hs,yn.bind hs q fun W1 M1 x v H1 l1 h1 r1 q1=>by
  have bc:=hs.up l1;refine⟨W1,ρ,M1,l1.k.trans k,h1,bc,yn.bind bc q1 fun W2 M2 o' ov H2 l2 h2 r2 q2=>?_⟩;have bx:=bc.up l2;refine⟨W2,ρ,M2,l2.k.trans (l1.k.trans k),h2,bx,yn.bind bx q2 fun W3 M3 ks kv H3 l3 h3 r3 q3=>?_⟩;split at q3
  rotate_left
  ·exact q3.elim
  rename_i M4 e4;unfold vg at e4;split at e4
  rotate_left
  ·cases e4
  rename_i i;split at e4
  rotate_left
  ·cases e4
  rename_i l e5;split at e4
  rotate_left
  ·cases e4
  rename_i ns e6;split at e4
  rotate_left
  ·cases e4
  rename_i hc;cases e4;have ek:=xq e6;subst ek;have ev:kv=ns.map V.int:=yc.ints.mp r3;subst ev;obtain⟨a,rfl,ea⟩:=r2.up l3;obtain⟨b,ob,g1,g2,g3,vs,rfl,ra⟩:=h3.m i _ e5;rw[ea]at g1;cases g1;refine⟨by rw[length_map];exact hc.1,fun p hp=>?_⟩;obtain⟨l4,h4,f4⟩:=h3.frz (o:=.tup (ns.map V.int)) hp;have na:a≠p:=jv g3 hp;refine⟨a,_,rfl,jdl.t (k:=xw ns) (kvs:=vs) (by rw[jk na];exact g3) (by rw[jr,xS]) (by rw[ra.length];exact hc.2),?_⟩
  exact q3 _ σ _ l4 (h4.upd e5 (l4.a _ _ ea) (c':=.dtv (xD l ns x)) (o:=.dT (vh vs (xw ns) v)) ⟨_,rfl,(ra.up0 l4.toLe0).put yX (((r1.up l2).up l3).up l4)⟩) ((bx.up l3).up l4)⟩⟩
theorem jgL {apos ar:Pos}(hu:X.A.units+1<cLine)(ho:QE X T ES o do_)(hk:QA X T ES es dk)(hz:QE X T ES f dz)(m:M2 X o "get" apos (.Tuple es x1 kp) f ar):QE X T ES (.Call (.Attribute o "get" apos) [.Tuple es x1 kp,f] [] ar) (UY do_ dk dz) :=
 ⟨jN (jhg hu ho.h (UC hk.h) hz.h m) fun σ H Q ae=>jC ae fun W ρ M k hh hs q=>⟨W,ρ,M,k,hh,hs,yg.bind q fun W1 M1 x v H1 l1 h1 r1 q1=>by
  split at q1
  rotate_left
  ·exact q1.elim
  rename_i i;split at q1
  rotate_left
  ·exact q1.elim
  rename_i l0 e0;obtain⟨a,rfl,ea⟩:=r1;obtain⟨b,ob,g1,g2,g3,vs0,rfl,ra0⟩:=h1.m i _ e0;rw[ea]at g1;cases g1;refine⟨a,rfl,.inr ⟨vs0,.inl g3⟩,W1,ρ,M1,l1.k.trans k,h1,hs.up l1,yg.bind q1 fun W2 M2 ks kv H2 l2 h2 r2 q2=>?_⟩;split at q2
  rotate_left
  ·exact q2.elim
  rename_i ns e6;split at q2
  rotate_left
  ·exact q2.elim
  rename_i hzz;have ek:=xq e6;subst ek;have ev:kv=ns.map V.int:=yc.ints.mp r2;subst ev;refine⟨by rw[length_map];exact hzz,fun p hp=>?_⟩;obtain⟨l4,h4,f4⟩:=h2.frz (o:=.tup (ns.map V.int)) hp;refine⟨_,ρ,M2,l4.k.trans (l2.k.trans (l1.k.trans k)),h4,((hs.up l1).up l2).up l4,yg.bind (q2.up l4) fun W3 M3 z zv H3 l3 h3 r3 q3=>?_⟩;split at q3
  rotate_left
  ·exact q3.elim
  rename_i l e5;have iD:W3.α i=some a:=l3.a _ _ (l4.a _ _ (l2.a _ _ ea));obtain⟨b,ob,g1,g2',gZ,vs,rfl,ra⟩:=h3.m i _ e5;rw[iD]at g1;cases g1;refine⟨_,jdm.t (k:=xw ns) gZ (by rw[xS];exact h3.f _ _ (l3.f _ _ f4)),?_⟩
  rcases ra.get yX ns with⟨a1,a2⟩ | ⟨x,v',a1,a2,rv⟩
  ·rw[a2];rw[a1]at q3;exact q3 W3 H3 _ (.refl W3) h3 r3
  ·rw[a2];rw[a1]at q3
   exact q3 W3 H3 _ (.refl W3) h3 rv⟩⟩
theorem jiI {M:Sto}{H:Hp}:∀(l:List (List Int×PV)) (bs:List Addr) {W:Wd},Held W M H->bs.length=l.length->(∀(j:Nat) (p:List Int×PV) (b:Addr),l[j]? = some p->bs[j]? = some b->H b=some (.tup (p.1.map V.int))) ->
  ∃ W',W.le W'∧Held W' M H∧yc W' (l.map fun p=>PV.tup (p.1.map PV.int)) (bs.map V.ref)
 | [],bs,W,h,hl,_=>by
  cases bs with
  | nil=>exact⟨W,.refl W,h,rfl⟩
  | cons _ _=>cases hl
 | p::l,bs,W,h,hl,hb=>by
  cases bs with
  | nil=>cases hl
  | cons b bs =>
   obtain⟨W1,l1,h1,f1⟩:=h.adopt (hb 0 p b rfl rfl);obtain⟨W2,l2,h2,r2⟩:=jiI l bs h1 (Nat.succ.inj hl) fun j p' b' e1 e2=>hb (j+1) p' b' e1 e2;exact⟨W2,l1.trans l2,h2,.ref b,bs.map V.ref,rfl,⟨b,p.1.map V.int,rfl,.inl (l2.f _ _ f1),yc.ints.mpr rfl⟩,r2⟩
end
end L3
namespace L2
open PySem PySem.Spec PyProof.Rows PySem.W
def Itk (a:Addr)(o:Obj)(kvs:List (List Key×V)):It :=
 ⟨fun i H=>H a=some (.frz o (.dT kvs))∧i<kvs.length,fun i H x H'=>∃ b kv,x = .ref b∧kvs[i]? = some kv∧H b=some (.tup (kv.1.map kV))∧H'=H,fun i H=>H a=some (.frz o (.dT kvs))∧kvs.length<=i⟩
theorem jeW {P:Program}{w:World}{K:Frag}{tg:Expr}{a it:Addr}{o:Obj}{es:Array DictEntry}{ep:Nat}{kvs:List (List Key×V)}(hd:o.data = .dict es ep)(hz:es.size=kvs.length) :
  Turn P w K tg (Itk a o kvs) [it] it (fun i h=>h.IsKeyIter it a i es.size ep) where
 mem:=by simp
 obj:=fun i h st c hc=>by
  obtain⟨oi,h1,h2,h3⟩:=st
  have hc:c=it:=by simpa using hc
  subst hc;exact⟨_,h1,fun v e=>by rw[h3]at e;cases e⟩
 keep:=fun i h h' st k=>by
  obtain⟨oi,h1,h2,h3⟩:=st;exact⟨oi,k it (by simp) _ h1,h2,h3⟩
 item:=by
  intro X hP hw hK hc i aa s σ H E I hf st hg;subst hP hw hK;obtain⟨ha,lt⟩:=hg
  obtain⟨ho,_,_,xs,rel,o',bf,g9,a9,fX,c6,cE,nd⟩:=(show yk X.prog X.w H s.heap a (.frz o (.dT kvs))from I.hok a _ ha)
  rw[ho]at a9;cases a9;rw[hd]at c6;cases c6
  have gE:i<es.size:=by rw[hz];exact lt
  obtain⟨f0,f1,f2,f3,f4,f5⟩:=hf it (by simp);refine Xu st ho hd gE fun h' out same=>?_;have e1:es[i]? = (xs[i]?).map (entryOfKey (tupleKind (ye X.prog X.w))):=entry_at cE i
  obtain⟨kv,cC⟩:∃ kv,kvs[i]? = some kv:=⟨_,getElem?_eq_getElem lt⟩
  obtain⟨q,hq,z1,z2,z3⟩:=L2.Paired.at rel cC
  have e2:es[i]=entryOfKey (tupleKind (ye X.prog X.w)) q:=by
   rw[hq,Array.getElem?_eq_getElem gE]at e1;exact Option.some.inj e1
  have kk:es[i].key = .ref q.2.1:=by rw[e2];rfl
  obtain⟨oi,h1,h2,h3⟩:=id out;refine⟨_,rfl,jbl (s:={ s with heap:=h' }) h1 h2 h3 (by decide) ⟨.ref q.2.1,H,I.turned (t':=s.toks) (fun b ob hb e=>same.extBut b ob hb e) f0 f1 f3 f4 f5,by rw[kk];rfl,⟨q.2.1,kv,rfl,cC,z2,rfl⟩,out,fun c hc=>?_⟩⟩
  have hc:c=it:=by simpa using hc
  rw[hc];exact f0
 done:=by
  intro X hP hw hK hc i aa s σ H E I hf st hg;subst hP hw hK;obtain⟨ha,ge⟩:=hg
  obtain⟨ho,_⟩:=(show yk X.prog X.w H s.heap a (.frz o (.dT kvs))from I.hok a _ ha)
  obtain⟨f0,f1,f2,f3,f4,f5⟩:=hf it (by simp)
  exact VD (I.ok.hd hc) st ho hd (by rw[hz];exact ge) fun h' eb=>⟨rfl,I.turned (t':=s.toks) (fun b o hb q=>eb b o hb q) f0 f1 f3 f4 f5⟩
 self:=fun A i s Q E st h=>wpAny_pyIter_keyiter st h
section
variable {X:Cx}{aa:List (Addr×Obj)}{σ:St}{H:Hp}{s:Shared}{a:Addr}{o:Obj}{kvs:List (List Key×V)}
theorem Inv.melt (I:Inv X aa σ H s)(e:H a=some (.frz o (.dT kvs)))(nf:∀ o u,X.H₀ a≠some (.frz o u)):Inv X aa σ (upd H a (.dT kvs)) s:=by
 have nn:∀ b,H b=none->b≠a:=fun b q z=>by rw[z,e]at q;cases q
 have nt:∀ b xs,H b=some (.tup xs)->b≠a:=fun b xs q z=>by rw[z,e]at q;cases q
 have no:∀ b c,H b=some (.own c)->b≠a:=fun b c q z=>by rw[z,e]at q;cases q
 refine⟨I.ok,I.os,I.bare,⟨I.base.keep,I.base.slot,fun b ob q n hx=>?_,I.base.there,fun b xs q=>?_,fun b ob u q=>?_,fun b ps q=>?_⟩,I.loc,I.cell,?_,fun x c q=>?_,fun p hp=>?_,fun b u q=>?_,I.len⟩
 ·have:=I.base.free b ob q n hx
  rw[jk (nn b this)];exact this
 ·have:=I.base.tups b xs q
  rw[jk (nt b xs this)];exact this
 ·rw[jk (fun z:b=a=>nf ob u (by rw[<- z];exact q))];exact I.base.frzs b ob u q
 ·obtain⟨more,h⟩:=I.base.tbls b ps q;exact⟨more,by rw[jk (fun z=>by rw[z,e]at h;cases h)];exact h⟩
 ·rw[jk (nn _ I.free)];exact I.free
 ·rw[jk (nn _ (I.freeC x c q))];exact I.freeC x c q
 ·obtain⟨h1,h2,h3⟩:=I.pin p hp;exact⟨h1,by rw[jk (nn _ h2)];exact h2,h3⟩
 ·have st:∀{b u},yk X.prog X.w H s.heap b u->yk X.prog X.w (upd H a (.dT kvs)) s.heap b u:=fun{b u} ob=>ob.stay (fun c v _ r=>r) (fun c r=>by rw[jk (no c _ r)];exact r) fun c xs r=>by rw[jk (nt c xs r)];exact r
  by_cases z:b=a
  ·subst z;rw[jr]at q;cases q
   obtain⟨_,ob⟩:=(show yk X.prog X.w H s.heap b (.frz o (.dT kvs))from I.hok b _ e)
   exact st ob
  ·rw[jk z]at q;exact st (I.hok b u q)
end
section
variable {X:Cx}{tg l e:Expr}{te:TE}
def iKeys (X:Cx)(te:TE):TI:=fun σ H R=>te σ H fun x H1=>∃ a kvs,x = .ref a∧H1 a=some (.dT kvs)∧∀ o,(∀ o u,X.H₀ a≠some (.frz o u))->R (Itk a o kvs) (upd H1 a (.frz o (.dT kvs)))
theorem pi_keys (he:PE X l te):PI X tg l (iKeys X te):=by
 intro aa s σ H R I h;refine thn (he aa s σ H _ I h) fun v s1 ae=>?_;obtain⟨x,H1,I1,rx,a,kvs,rfl,ha,q⟩:=ae;obtain rfl:v=Value.ref a:=rx
 have nf:∀ o u,X.H₀ a≠some (.frz o u):=fun o u z=>by
  have:=I1.base.frzs a o u z
  rw[ha]at this;cases this
 obtain⟨o,I2⟩:=I1.freezeD ha
 obtain⟨ho,hl,hd,xs,rel,o',es,ep,a9,hx,bX,cE,nd⟩:=(show yk X.prog X.w _ s1.heap a (.frz o (.dT kvs))from I2.hok a _ jr)
 rw[ho]at a9;cases a9
 have hz:es.size=kvs.length:=by rw[size_of_entries cE];exact(Paired.length rel).symm
 refine iterK hd ho hx bX ?_;refine⟨_,[_],_,_,upd H1 a (.frz o (.dT kvs)),rfl,I2.kept (t':=s1.toks) (fun b ob e=>get?_push_of_some _ e),jeW bX hz,⟨_,get?_push_size _ rfl,rfl,rfl⟩,fun c hc=>?_,q o nf⟩
 have hc:c=s1.heap.objs.size:=by simpa using hc
 have le:s1.heap.objs.size<=c:=by rw[hc];exact le_refl _
 exact I2.fpOk le (I2.hok.fresh le)
def tMelt (X:Cx)(te:TE):TE:=fun σ H Q=>te σ H fun x H1=>∃ a o kvs,(∀ o u,X.H₀ a≠some (.frz o u))∧H1 a=some (.frz o (.dT kvs))∧Q x (upd H1 a (.dT kvs))
end
end L2
namespace L3
open PySem L2
def jem (l:List (List Int×PV)):List PV:=l.map fun p=>PV.tup (p.1.map PV.int)
theorem jhD {W:Wd}:∀{l:List (List Int×PV)}{vs:List (List Key×V)},yJ W xw l vs->∀(j:Nat) (p:List Int×PV),l[j]? = some p->∃ kv,vs[j]? = some kv∧kv.1=xw p.1
 | [],_,_,_,_,e=>by cases e
 | _::_,_,⟨_,_,e,_,_⟩,0,p,q=>by subst e;cases q;exact⟨_,rfl,rfl⟩
 | _::_,_,⟨_,_,e,_,t⟩,j+1,p,q=>by subst e;exact jhD t j p q
theorem YI.length {W:Wd}:∀{l:List (NK×PV)}{xs:List (NK×Addr×Value)},YI W l xs->xs.length=l.length
 | [],_,e=>by cases e;rfl
 | _::_,_,⟨_,_,_,_,e,_,_,_,t⟩=>by subst e;rw[length_cons,length_cons,YI.length t]
theorem YI.get {W:Wd}(k:NK):∀{l:List (NK×PV)}{xs:List (NK×Addr×Value)},YI W l xs->(xb l k=none∧atKey xs k=none)∨∃ x b u v,xb l k=some x∧atKey xs k=some (b,u)∧Rep W x v∧yi v u
 | [],_,e=>by cases e;exact .inl ⟨rfl,rfl⟩
 | p::r,_,⟨b,u,rs,v,e,_,rv,ru,t⟩=>by
  subst e;unfold xb atKey;rw[find?_cons,find?_cons]
  by_cases h:p.1=k
  ·rw[decide_eq_true h];exact .inr ⟨p.2,b,u,v,rfl,rfl,rv,ru⟩
  ·rw[decide_eq_false h];exact YI.get k t
end L3
namespace Srt
open PySem PySem.W PyProof.Rows
section
variable {prog:Program}{w:World}{A:Around}{E:Value->Shared->Prop}{s:Shared}
theorem Yz {T:String}{r d:Addr}{n:Nat}{P:Nat->Value->Prop}{OK:Heap->Prop}{Q:List Value->Shared->Prop}(K:KdlSrc prog w T r d n P OK)(hh:A.handled=none)(hok:OK s.heap)(hn:n<=sizeLine)
  (hQ:∀ h' tk (vs:List Value),(∀ b o,s.heap.get? b=some o->h'.get? b=some o)->s.heap.objs.size<=h'.objs.size->vs.length=n->(∀ j v,vs[j]? = some v->P j v)->Q vs { s with heap:=h',toks:=tk }):wpAny (model prog w) A (collect (.ref r)) Q E s:=by
 have aU:=K.there _ hok;unfold collect;refine wpAny_bind (wpAny_runValue (codeAny_builtin PySem.F.entry_proto_collect ?_));rw[Around.under_plainId PySem.F.plain_proto_collect _];show wpAny _ A.in1 (newList [] >>= fun l=>again (.builtin "list.__iadd__" ⟨[l,.ref r],[]⟩)) _ _ s;refine wpAny_bind (wpAny_newObj_type (wpAny_pure ⟨plainId_quiet PySem.F.plain_list_iadd _,codeAny_builtin PySem.F.entry_list_iadd ?_⟩));rw[Around.under_plainId PySem.F.plain_list_iadd _];have hS:(s.heap.push { cls:=.type "list",data:=.seq ([]:List Value).toArray }).get? s.heap.objs.size=some { cls:=.type "list",data:=.seq #[] }:=get?_push_size _ rfl;show wpAny _ A.in1 (Builtin.List.listExtendWith (.ref s.heap.objs.size) (.ref r) (.ref s.heap.objs.size)) _ _ _
 refine kdl_extend (A:=A) (R:=fun r s'=>match r with
  | .ok (.ret v)=>wpAny (model prog w) A (match v with
   | .ref a=>(do
    let o <- load a
    match o.data with
    | .seq xs _=>pure xs.toList
    | _=>unsupported "internal:collect")
   | _=>unsupported "internal:collect") Q E s'
  | .ok _=>False
  | .error e=>E e s') (s:={ s with heap:=s.heap.push { cls:=.type "list",data:=.seq ([]:List Value).toArray } }) K hh (K.keep _ _ hok fun b _ o e=>get?_push_of_some _ e) s.heap.objs.size (ne_of_gt aU.1) (ne_of_gt aU.2) _ _ hS (fun h' tk acc' c' hk iA aB=>?_) hn
 show wpAny _ A (load s.heap.objs.size >>= _) _ _ _;refine wpAny_bind (wpAny_load iA (wpAny_pure (hQ h' tk acc'.toList (fun b o e=>hk b o (ne_of_lt (lt_size e)) (get?_push_of_some _ e)) (le_of_lt (lt_size iA)) (by rw[length_toList];exact aB.1) fun j v e=>aB.2 j v (by rw[<- getElem?_toList];exact e))))
theorem sorted_src {T:String}{r d:Addr}{n:Nat}{P:Nat->Value->Prop}{OK:Heap->Prop}{ns:List Int}{Q:Value->Shared->Prop}(K:KdlSrc prog w T r d n P OK)(hh:A.handled=none)(hok:OK s.heap)(fT:n<64)(hi:∀ vs:List Value,vs.length=n->(∀ j v,vs[j]? = some v->P j v)->IntsAre vs ns)
  (h:∀ h' tk a e (out:Array Value) (eK:List Int),(∀ b o,s.heap.get? b=some o->h'.get? b=some o)->s.heap.objs.size<=a->h'.get? a=some (seqObj "list" out e)->IntsAre out.toList eK->eK.Perm ns->eK.Pairwise (·<=·)->Q (.ref a) { s with heap:=h',toks:=tk }):wpAny (model prog w) A (call (.builtin "sorted") [.ref r]) Q E s:=by
 refine Calls.call_function_entry kind_sorted plain_sorted entry_sorted (args_sorted1 _) ?_;unfold Builtin.«sorted»;refine wpAny_bind (m:=checkCount "sorted" 1 1 _) (wpAny_pure (wpAny_bind (Yz K hh hok (by rw[sizeLine_eq];omega) fun h1 tk vs k1 z1 hl hp=>?_)));have hI:=hi vs hl hp;refine wpAny_bind (wpAny_newList ?_ (by show vs.length<=_;rw[sizeLine_eq];omega));show wpAny _ _ _ _ _ { s with heap:=h1.push (seqObj "list" vs.toArray 0),toks:=tk };have g2:(h1.push (seqObj "list" vs.toArray 0)).get? h1.objs.size=some (seqObj "list" vs.toArray 0):=get?_push_size _ rfl;refine wpAny_bind (wpAny_holding (wpAny_call_entry slot_list_sort ⟨_,g2,rfl⟩ entry_list_sort (list_sort_tree (s:={ s with heap:=h1.push (seqObj "list" vs.toArray 0),toks:=tk }) g2 hI (by omega) fun out eK a1 a2 a3=>⟨_,rfl,?_⟩) (args_list_sort _)));refine wpAny_pure ⟨_,rfl,?_⟩;unfold sortedHeap
 obtain⟨e1,g3⟩:∃ e,((h1.push (seqObj "list" vs.toArray 0)).update h1.objs.size (Obj.mapSeq fun _=>#[])).get? h1.objs.size=some (seqObj "list" #[] e):=⟨_,get?_update_seq g2 fun _=>#[]⟩
 have g4:((((h1.push (seqObj "list" vs.toArray 0)).update h1.objs.size (Obj.mapSeq fun _=>#[])).push (seqObj "tuple" vs.toArray 0)).push (seqObj "list" #[] 0)).get? h1.objs.size=some (seqObj "list" #[] e1):=get?_push_of_some _ (get?_push_of_some _ g3);refine h _ tk h1.objs.size _ out eK (fun b o q=>?_) z1 (get?_update_seq g4 fun _=>out) a1 a2 a3;have hb:b<h1.objs.size:=lt_size (k1 b o q);rw[get?_update_ne _ _ _ _ (ne_of_lt hb)];refine get?_push_of_some _ (get?_push_of_some _ ?_);rw[get?_update_ne _ _ _ _ (ne_of_lt hb)];exact get?_push_of_some _ (k1 b o q)
end
end Srt
namespace Sml
open PySem
def jiV:Nat->List (List Nat)
 | 0=>[[]]
 | n+1=>jiV n++(jiV n).map (·++[n])
def tb (mask:Nat)(p:List Nat):SetTable:=⟨mask,p.toArray,#[],0,true,0,true⟩
def chk7:Bool:=(jiV 8).all fun p=>decide (4<p.length) || (List.range 16).all fun n=>match(tb 7 p).freeSlot (n:Int)with
 | some (j,false)=>decide (j<8) && !p.contains j
 | _=>false
theorem chk7_t:chk7=true:=by decide +kernel
theorem YU:∀(n:Nat) (l:List Nat),l.Pairwise (· < ·)->(∀ x∈l,x<n)->l∈jiV n
 | 0,l,_,h=>by
  cases l with
  | nil=>exact List.mem_singleton.mpr rfl
  | cons a l=>exact absurd (h a mem_cons_self) (not_lt_zero _)
 | n+1,l,pw,h=>by
  by_cases hn:n∈l
  ·-- it stands last
   have key:∀ l:List Nat,l.Pairwise (· < ·)->(∀ x∈l,x<n+1)->n∈l->∃ l',l=l'++[n]∧l'.Pairwise (· < ·)∧∀ x∈l',x<n:=by
    intro l
    induction l with
    | nil=>intro _ _ h;cases h
    | cons a l ih =>
     intro pw h hm;obtain⟨p1,p2⟩:=List.pairwise_cons.mp pw
     rcases List.mem_cons.mp hm with e | hm
     ·subst e
      cases l with
      | nil=>exact⟨[],rfl,.nil,fun x hx=>(by cases hx)⟩
      | cons b l =>
       have h1:=p1 b mem_cons_self;have h2:=h b (mem_cons_of_mem _ mem_cons_self);omega
     ·obtain⟨l',e,q1,q2⟩:=ih p2 (fun x hx=>h x (mem_cons_of_mem _ hx)) hm;subst e;have ha:a<n:=p1 n (mem_append_right _ (List.mem_singleton.mpr rfl));refine⟨a::l',rfl,List.pairwise_cons.mpr ⟨fun x hx=>p1 x (mem_append_left _ hx),q1⟩,fun x hx=>?_⟩
      rcases List.mem_cons.mp hx with rfl | hx
      ·exact ha
      ·exact q2 x hx
   obtain⟨l',e,q1,q2⟩:=key l pw h hn;subst e;exact mem_append_right _ (List.mem_map.mpr ⟨l',YU n l' q1 q2,rfl⟩)
  ·exact mem_append_left _ (YU n l pw fun x hx=>by
    have:=h x hx
    have:x≠n:=fun z=>hn (z ▸ hx)
    omega)
theorem free7 {p:List Nat}(pw:p.Pairwise (· < ·))(h:∀ x∈p,x<8)(hl:p.length<=4){n:Nat}(hn:n<16):∃ j,(tb 7 p).freeSlot (n:Int)=some (j,false)∧j<8∧j∉p:=by
 have h1:=List.all_eq_true.mp chk7_t p (YU 8 p pw h);rw[decide_eq_false (by omega),Bool.false_or]at h1;have h2:=List.all_eq_true.mp h1 n (List.mem_range.mpr hn);split at h2
 ·rename_i j e;rw[and_eq_true,decide_eq_true_eq,Bool.not_eq_true',<- not_eq_true,List.contains_iff_mem]at h2;exact⟨j,e,h2.1,h2.2⟩
 ·cases h2
theorem UP (xs:Array Nat)(j:Nat)(pw:xs.toList.Pairwise (· < ·)):∀(bh lo hi:Nat),hi-lo<=bh->hi<=xs.size->lo<=hi->(∀ i,i<lo->xs.getD i j<j)->(∀ i,hi<=i->i<xs.size->j<=xs.getD i j) ->
  (∀ i,i<SetTable.below.go xs j bh lo hi->xs.getD i j<j)∧(∀ i,SetTable.below.go xs j bh lo hi<=i->i<xs.size->j<=xs.getD i j)∧SetTable.below.go xs j bh lo hi<=xs.size
 | 0,lo,hi,hf,hs,hl,h1,h2=>by
  have:lo=hi:=by omega
  subst this;unfold SetTable.below.go;exact⟨h1,h2,hs⟩
 | bh+1,lo,hi,hf,hs,hl,h1,h2=>by
  have eI:∀ a b,a<b->b<xs.size->xs.getD a j<xs.getD b j:=fun a b dG hb=>by
   have:=List.pairwise_iff_getElem.mp pw a b (by rw[length_toList];omega) (by rw[length_toList];exact hb) dG
   rw[getElem_toList,getElem_toList]at this;rw[getD_eq_getD_getElem?,getD_eq_getD_getElem?,Array.getElem?_eq_getElem (by omega),Array.getElem?_eq_getElem hb];exact this
  unfold SetTable.below.go
  by_cases aU:lo<hi
  ·rw[if_pos aU];dsimp only
   by_cases hm:xs.getD ((lo+hi)/2) j<j
   ·rw[if_pos hm];refine UP xs j pw bh _ hi (by omega) hs (by omega) (fun i cq=>?_) h2
    by_cases he:i=(lo+hi)/2
    ·rw[he];exact hm
    ·exact lt_trans (eI i ((lo+hi)/2) (by omega) (by omega)) hm
   ·rw[if_neg hm];refine UP xs j pw bh lo _ (by omega) (by omega) (by omega) h1 fun i cq ck=>?_
    by_cases he:i=(lo+hi)/2
    ·rw[he];omega
    ·exact le_of_lt (Nat.lt_of_le_of_lt (by omega) (eI ((lo+hi)/2) i (by omega) ck))
  ·rw[if_neg aU]
   have:lo=hi:=by omega
   subst this;exact⟨h1,h2,hs⟩
theorem uY {p:List Nat}(pw:p.Pairwise (· < ·))(j:Nat):SetTable.below p.toArray j<=p.length∧(∀ x∈p.take (SetTable.below p.toArray j),x<j)∧(∀ x∈p.drop (SetTable.below p.toArray j),j<=x):=by
 obtain⟨h1,h2,h3⟩:=UP p.toArray j pw p.toArray.size 0 p.toArray.size (by omega) (le_refl _) (zero_le _) (fun i hi=>absurd hi (not_lt_zero _)) (fun i a b=>by omega);have hs:p.toArray.size=p.length:=size_toArray;unfold SetTable.below;generalize SetTable.below.go p.toArray j p.toArray.size 0 p.toArray.size=b at h1 h2 h3 ⊢;refine⟨by omega,fun x hx=>?_,fun x hx=>?_⟩
 ·obtain⟨i,hi,e⟩:=List.getElem_of_mem hx;rw[length_take]at hi;rw[List.getElem_take]at e
  have:=h1 i (by omega)
  rw[getD_eq_getD_getElem?,getElem?_toArray,getElem?_eq_getElem (by omega)]at this;rw[<- e];exact this
 ·obtain⟨i,hi,e⟩:=List.getElem_of_mem hx;rw[length_drop]at hi;rw[List.getElem_drop]at e
  have:=h2 (b+i) (by omega) (by omega)
  rw[getD_eq_getD_getElem?,getElem?_toArray,getElem?_eq_getElem (by omega)]at this;rw[<- e];exact this
theorem jhF {p:List Nat}(pw:p.Pairwise (· < ·)){j:Nat}(hj:j∉p):(p.take (SetTable.below p.toArray j)++j::p.drop (SetTable.below p.toArray j)).Pairwise (· < ·):=by
 obtain⟨_,h1,h2⟩:=uY pw j;generalize SetTable.below p.toArray j=b at h1 h2;have e:p.take b++p.drop b=p:=List.take_append_drop b p;have fk:=pw;rw[<- e]at fk;obtain⟨q1,q2,q3⟩:=List.pairwise_append.mp fk;refine List.pairwise_append.mpr ⟨q1,List.pairwise_cons.mpr ⟨fun x hx=>?_,q2⟩,fun a ha x hx=>?_⟩
 ·have:=h2 x hx
  have:x≠j:=fun z=>hj (z ▸ List.mem_of_mem_drop hx)
  omega
 ·rcases List.mem_cons.mp hx with rfl | hx
  ·exact h1 a ha
  ·exact q3 a ha x hx
theorem UQ {t u:SetTable}(hs:∀ j,t.slot j=u.slot j)(ha:∀ p,t.advance p=u.advance p)(f:Nat->Int)(h:Int):∀(bh:Nat) (p:SetTable.Probe),SetTable.probe.go t f h bh p=SetTable.probe.go u f h bh p
 | 0,p=>rfl
 | bh+1,p=>by
  unfold SetTable.probe.go;rw[hs,ha,UQ hs ha f h bh,ha p,UQ hs ha f h bh]
theorem jfD {t:SetTable}{p:List Nat}(hp:t.place=p.toArray)(hd:t.dummies = #[])(h:Int):t.freeSlot h=(tb t.mask p).freeSlot h:=by
 obtain⟨mask,place,dummies,finger,led,moves,plain⟩:=t;have hp:place=p.toArray:=hp;have hd:dummies = #[]:=hd;subst hp hd;unfold SetTable.freeSlot SetTable.probe;rw[UQ (t:=⟨mask,p.toArray,#[],finger,led,moves,plain⟩) (u:=tb mask p) (fun _=>rfl) (fun _=>rfl)];rfl
theorem jiB {n:Nat}(h:n<16):SetTable.bits (n:Int)=n:=by
 have:((List.range 16).all fun n=>decide (SetTable.bits (n:Int)=n))=true:=by decide +kernel
 exact of_decide_eq_true (List.all_eq_true.mp this n (List.mem_range.mpr h))
theorem free31 {p:List Nat}{n:Nat}(hn:n<16)(hm:n∉p):(tb 31 p).freeSlot (n:Int)=some (n,false):=by
 have hs:(tb 31 p).slot n = .empty:=by
  unfold SetTable.slot
  have:(tb 31 p).place[SetTable.below (tb 31 p).place n]?≠some n:=fun z=>by
   have:p.toArray[SetTable.below p.toArray n]? = some n:=z
   rw[getElem?_toArray]at this;exact hm (mem_of_getElem? this)
  dsimp only;rw[if_neg (by rw[beq_iff_eq];exact this)];rfl
 unfold SetTable.freeSlot SetTable.probe
 have hj:((tb 31 p).probeStart (n:Int)).j=n:=by
  show SetTable.bits (n:Int)%32=n;rw[jiB hn];omega
 have hd:((tb 31 p).probeStart (n:Int)).dummy=none:=rfl
 show(match SetTable.probe.go (tb 31 p) _ _ (459+1) ((tb 31 p).probeStart (n:Int))with
  | some (.empty j dummy)=>some (dummy.getD j,dummy.isSome)
  | _=>none)=_
 unfold SetTable.probe.go;rw[hj,hs,hd];rfl
theorem Jj:∀(l:List Nat) (lo n:Nat),l.Pairwise (· < ·)->(∀ x∈l,lo<=x∧x<n)->l.length<=n-lo
 | [],_,_,_,_=>zero_le _
 | a::l,lo,n,pw,h=>by
  obtain⟨p1,p2⟩:=List.pairwise_cons.mp pw
  have:=Jj l (a+1) n p2 fun x hx=>⟨p1 x hx,(h x (mem_cons_of_mem _ hx)).2⟩
  have:=h a mem_cons_self
  rw[length_cons];omega
structure Sm (es:Array (Int×Value))(t:SetTable)(p:List Nat):Prop where
 pl:t.place=p.toArray
 du:t.dummies = #[]
 pn:t.plain=true
 pw:p.Pairwise (· < ·)
 sz:p.length=es.size
 el:∀ e∈es.toList,∃(n:Nat) (k:Tok),n<16∧e=((n:Int),Value.int n k)
 nd:(es.toList.map (·.1)).Nodup
 mx:(t.mask=7∧p.length<=4∧∀ x∈p,x<8)∨(t.mask=31∧es.toList.map (·.1)=p.map fun x:Nat=>(x:Int))
theorem put_eq {t:SetTable}{p:List Nat}(hp:t.place=p.toArray)(hd:t.dummies = #[])(j:Nat):t.put j=({ t with place:=(p.take (SetTable.below p.toArray j)++j::p.drop (SetTable.below p.toArray j)).toArray,dummies:=#[] },SetTable.below p.toArray j):=by
 unfold SetTable.put
 have hh:SetTable.has t.dummies j=false:=by rw[hd];rfl
 rw[hh,hp];dsimp only
 have:SetTable.insertAt p.toArray (SetTable.below p.toArray j) j=(p.take (SetTable.below p.toArray j)++j::p.drop (SetTable.below p.toArray j)).toArray:=by
  apply Array.toList_inj.mp;rw[SetTable.toList_insertAt]
 rw[this,hd];rfl
theorem UR {t:SetTable}{p:List Nat}(hp:t.place=p.toArray)(hd:t.dummies = #[]){n:Nat}(h1:p.length=n)(h2:p.length<=t.mask):t.fits n=true:=by
 unfold SetTable.fits SetTable.fill;rw[hp,hd];simp[h1];omega
theorem lay_sm {es:Array (Int×Value)}{t:SetTable}{p:List Nat}(S:Sm es t p){n:Nat}{k:Tok}(hn:n<16)(hm:(n:Int)∉es.toList.map (·.1)) :
  ∃(bf:Array (Int×Value)) (t':SetTable) (p':List Nat),layNew t es (n:Int) (.int n k)=(bf,t',false,false)∧t'.led=t.led∧t'.moves=t.moves∧t'.plain=true∧t'.place=p'.toArray∧t'.dummies = #[]∧p'.Pairwise (· < ·)∧p'.length=bf.size∧bf.size=es.size+1 ∧
   ((t'.mask=7∧p'.length<=5∧(∀ x∈p',x<8))∨(t'.mask=31∧bf.toList.map (·.1)=p'.map (fun x:Nat=>(x:Int))∧p'.length<=16)):=by
 obtain⟨j,hj,hjp,gP⟩:∃ j,t.freeSlot (n:Int)=some (j,false)∧j∉p∧((t.mask=7∧p.length<=4∧(∀ x∈p,x<8)∧j<8)∨(t.mask=31∧es.toList.map (·.1)=p.map (fun x:Nat=>(x:Int))∧j=n)):=by
  rw[jfD S.pl S.du]
  rcases S.mx with⟨h1,h2,h3⟩ | ⟨h1,h2⟩
  ·rw[h1];obtain⟨j,a,b,c⟩:=free7 S.pw h3 h2 hn;exact⟨j,a,c,.inl ⟨rfl,h2,h3,b⟩⟩
  ·rw[h1];have gL:n∉p:=fun z=>hm (by rw[h2];exact List.mem_map.mpr ⟨n,z,rfl⟩);exact⟨n,free31 hn gL,gL,.inr ⟨rfl,h2,rfl⟩⟩
 obtain⟨b,hb⟩:∃ b,b=SetTable.below p.toArray j:=⟨_,rfl⟩
 obtain⟨p',cm⟩:∃ p',p'=p.take b++j::p.drop b:=⟨_,rfl⟩
 have fk:p'.Pairwise (· < ·):=by rw[cm,hb];exact jhF S.pw hjp
 have aq:p'.length=p.length+1:=by
  rw[cm,length_append,length_cons]
  have:=congrArg List.length (List.take_append_drop b p)
  rw[length_append]at this;omega
 have cE:(SetTable.insertAt es b ((n:Int),Value.int n k)).size=es.size+1:=by
  rw[<- length_toList,(SetTable.insertAt_perm es b _).length_eq,toList_push,length_append,length_toList];rfl
 have fE:=put_eq S.pl S.du j;rw[<- hb,<- cm]at fE
 obtain⟨t',cg⟩:∃ t':SetTable,t'={ t with place:=p'.toArray,dummies:=#[] }:=⟨_,rfl⟩
 rw[<- cg]at fE
 have e1:t'.place=p'.toArray:=by rw[cg]
 have e2:t'.dummies = #[]:=by rw[cg]
 have e3:t'.mask=t.mask:=by rw[cg]
 have dj:∀ x,x∈p'->x∈p∨x=j:=fun x hx=>by
  rw[cm]at hx
  rcases List.mem_append.mp hx with hx | hx
  ·exact .inl (List.mem_of_mem_take hx)
  ·rcases List.mem_cons.mp hx with hx | hx
   ·exact .inr hx
   ·exact .inl (List.mem_of_mem_drop hx)
 have main:((t'.mask=7∧p'.length<=5∧(∀ x∈p',x<8))∨(t'.mask=31∧(SetTable.insertAt es b ((n:Int),Value.int n k)).toList.map (·.1)=p'.map (fun x:Nat=>(x:Int))∧p'.length<=16)):=by
  rcases gP with⟨h1,h2,h3,h4⟩ | ⟨h1,h2,h3⟩
  ·refine .inl ⟨by rw[e3,h1],by omega,fun x hx=>?_⟩
   rcases dj x hx with hx | rfl
   ·exact h3 x hx
   ·exact h4
  ·refine .inr ⟨by rw[e3,h1],?_,?_⟩
   ·rw[SetTable.toList_insertAt,cm,map_append,map_append,map_cons,map_cons,List.map_take,map_drop,h2,List.map_take,map_drop,h3]
   ·have:=Jj p' 0 16 fk fun x hx=>⟨zero_le _,?_⟩
    ·omega
    rcases dj x hx with hx | rfl
    ·have:((x:Nat):Int)∈es.toList.map (·.1):=by rw[h2];exact List.mem_map.mpr ⟨x,hx,rfl⟩
     obtain⟨e,he,ee⟩:=List.mem_map.mp this;obtain⟨m,_,hm',rfl⟩:=S.el e he;have ee:(m:Int)=(x:Int):=ee;omega
    ·omega
 have fit:t'.fits (es.size+1)=true:=UR e1 e2 (by rw[aq,S.sz]) (by
  rcases main with⟨h1,h2,_⟩ | ⟨h1,_,h2⟩
  ·rw[h1];omega
  ·rw[h1];omega)
 refine⟨SetTable.insertAt es b ((n:Int),.int n k),t',p',?_,by rw[cg],by rw[cg],by rw[cg];exact S.pn,e1,e2,fk,by rw[cE,aq,S.sz],cE,main⟩;unfold layNew;rw[hj];dsimp only;rw[fE];dsimp only;rw[cE,fit];unfold SetTable.orStandIn;rw[if_pos fit];rfl
def idx (hs:List Int)(j:Nat):Option Nat:=hs.findIdx? fun h=>decide (h=(j:Int))
theorem jhI (hs:List Int)(n j:Nat):idx (hs++[(n:Int)]) j=(match idx hs j with
  | some k=>some k
  | none=>if j=n then some hs.length else none):=by
 unfold idx;rw[List.findIdx?_append]
 cases hs.findIdx? fun h=>decide (h=(j:Int))with
 | some k=>rfl
 | none =>
  rw[List.findIdx?_cons]
  by_cases h:j=n
  ·subst h;simp
  ·have h':¬((n:Int)=(j:Int)):=fun z=>h (by omega);simp[h,h']
theorem jbk {hs:List Int}{n:Nat}(h:(n:Int)∉hs):idx hs n=none:=by
 unfold idx;rw[List.findIdx?_eq_none_iff];intro x hx;rw[decide_eq_false];exact fun z=>h (z ▸ hx)
theorem vn {hs:List Int}{j k:Nat}(h:idx hs j=some k):hs[k]? = some (j:Int):=by
 unfold idx at h;obtain⟨hk,h1,_⟩:=List.findIdx?_eq_some_iff_getElem.mp h;rw[getElem?_eq_getElem hk,of_decide_eq_true h1]
theorem jhJ {hs:List Int}(nd:hs.Nodup){j k:Nat}(h:hs[k]? = some (j:Int)):idx hs j=some k:=by
 obtain⟨hk,e⟩:=List.getElem?_eq_some_iff.mp h;unfold idx;refine List.findIdx?_eq_some_iff_getElem.mpr ⟨hk,decide_eq_true e,fun i hi=>?_⟩
 have:=List.pairwise_iff_getElem.mp nd i k (by omega) hk hi
 rw[e]at this;simpa using this
def jdw (acc:Option (Array (Option Nat)×Nat))(h:Int):Option (Array (Option Nat)×Nat):=do
 let (owner,k) <- acc
 let j <- SetTable.layClean.free 31 owner (SetTable.turns 31) (SetTable.bits h%(31+1)) (SetTable.bits h)
 pure (owner.setIfInBounds j (some k),k+1)
theorem jbh:∀(hs pre:List Int) (owner:Array (Option Nat)),owner.size=32->(∀ j,j<32->owner[j]? = some (idx pre j))->(∀ h∈hs,∃ n:Nat,n<16∧h=n)->(pre++hs).Nodup ->
  ∃ bu,hs.foldl jdw (some (owner,pre.length))=some (bu,(pre++hs).length)∧bu.size=32∧∀ j,j<32->bu[j]? = some (idx (pre++hs) j)
 | [],pre,owner,h1,h2,_,_=>⟨owner,by rw[append_nil];rfl,h1,by rw[append_nil];exact h2⟩
 | h::hs,pre,owner,h1,h2,h3,nd=>by
  obtain⟨n,hn,rfl⟩:=h3 h mem_cons_self
  have gL:(n:Int)∉pre:=fun z=>by
   have:=(List.nodup_append.mp nd).2.2 _ z _ mem_cons_self
   exact this rfl
  have cN:SetTable.layClean.free 31 owner (SetTable.turns 31) (SetTable.bits (n:Int)%(31+1)) (SetTable.bits (n:Int))=some n:=by
   rw[jiB hn,show n%(31+1)=n by omega];show SetTable.layClean.free 31 owner (45+1) n n=_;unfold SetTable.layClean.free
   have hr:SetTable.runEnd 31 n+1-n=9+1:=by
    unfold SetTable.runEnd;rw[if_pos (by omega)];omega
   rw[hr,range_succ_eq_map,find?_cons]
   have:(owner.getD (n+0) (some 0)).isNone=true:=by
    rw[getD_eq_getD_getElem?,h2 (n+0) (by omega),show n+0=n from rfl,jbk gL];rfl
   rw[this];rfl
  have hstep:jdw (some (owner,pre.length)) (n:Int)=some (owner.setIfInBounds n (some pre.length),pre.length+1):=by
   unfold jdw;show(SetTable.layClean.free 31 owner (SetTable.turns 31) (SetTable.bits (n:Int)%(31+1)) (SetTable.bits (n:Int))).bind _=_;rw[cN];rfl
  have e:pre++(n:Int)::hs=(pre++[(n:Int)])++hs:=by simp
  obtain⟨bu,g1,g2,g3⟩:=jbh hs (pre++[(n:Int)]) (owner.setIfInBounds n (some pre.length)) (by rw[Array.size_setIfInBounds];exact h1) (fun j hj=>by
   rw[jhI]
   by_cases i4:j=n
   ·subst i4;rw[jbk gL,if_pos rfl,Array.getElem?_setIfInBounds_self_of_lt (by omega)]
   ·rw[Array.getElem?_setIfInBounds_ne (Ne.symm i4),h2 j hj]
    cases idx pre j with
    | some k=>rfl
    | none=>rw[if_neg i4]) (fun x hx=>h3 x (mem_cons_of_mem _ hx)) (by rw[<- e];exact nd)
  refine⟨bu,?_,g2,by rw[e];exact g3⟩;rw[List.foldl_cons,hstep,e];rw[length_append]at g1;exact g1
theorem jbL {hs:Array Int}(h3:∀ h∈hs.toList,∃ n:Nat,n<16∧h=n)(nd:hs.toList.Nodup):∃ owner,SetTable.layClean 31 hs=some owner∧∀ j,j<32->owner[j]? = some (idx hs.toList j):=by
 obtain⟨owner,g1,g2,g3⟩:=jbh hs.toList [] (Array.replicate 32 none) (by simp) (fun j hj=>by
  rw[Array.getElem?_replicate,if_pos hj]
  rfl) h3 (by simpa using nd)
 refine⟨owner,?_,by simpa using g3⟩;unfold SetTable.layClean;rw[<- Array.foldl_toList];show(hs.toList.foldl jdw (some (Array.replicate 32 none,0))).map (·.1)=_;rw[show(some (Array.replicate 32 (none:Option Nat),0))=some (Array.replicate 32 none,([]:List Int).length)from rfl,g1];rfl
theorem jbr {α β:Type}{f g:α->Option β}:∀{l:List α},(∀ x∈l,f x=g x)->l.filterMap f=l.filterMap g
 | [],_=>rfl
 | a::l,h=>by
  rw[filterMap_cons,filterMap_cons,h a mem_cons_self,jbr fun x hx=>h x (mem_cons_of_mem _ hx)]
def vk (hs:List Int):List (Nat×Nat):=(List.range 32).filterMap fun j=>(idx hs j).map (j,·)
theorem xp {hs:List Int}{x:Nat×Nat}:x∈vk hs↔x.1<32∧idx hs x.1=some x.2:=by
 unfold vk;rw[List.mem_filterMap];constructor
 ·rintro⟨j,hj,e⟩;obtain⟨k,hk,rfl⟩:=Option.map_eq_some_iff.mp e;exact⟨List.mem_range.mp hj,hk⟩
 ·rintro⟨h1,h2⟩;exact⟨x.1,List.mem_range.mpr h1,by rw[h2];rfl⟩
theorem JX (hs:List Int):(vk hs).Pairwise (fun a b=>a.1<b.1):=by
 unfold vk;refine List.Pairwise.filterMap _ (fun a a' h b hb b' iz=>?_) List.pairwise_lt_range;obtain⟨_,_,rfl⟩:=Option.map_eq_some_iff.mp hb;obtain⟨_,_,rfl⟩:=Option.map_eq_some_iff.mp iz;exact h
theorem jgB {es:Array (Int×Value)}{t:SetTable}(el:∀ e∈es.toList,∃(n:Nat) (k:Tok),n<16∧e=((n:Int),Value.int n k))(nd:(es.toList.map (·.1)).Nodup)(pn:t.plain=true) :
  ∃(bf:Array (Int×Value)) (t':SetTable) (p':List Nat),relayAll t es 20=(bf,t',false)∧t'.led=t.led∧Sm bf t' p':=by
 obtain⟨hs,gQ⟩:∃ hs,hs=es.toList.map (·.1):=⟨_,rfl⟩
 have fH:(es.map (·.1)).toList=hs:=by rw[Array.toList_map,gQ]
 have small:∀ h∈hs,∃ n:Nat,n<16∧h=n:=fun h hh=>by
  rw[gQ]at hh;obtain⟨e,he,rfl⟩:=List.mem_map.mp hh;obtain⟨n,_,hn,rfl⟩:=el e he;exact⟨n,hn,rfl⟩
 rw[<- gQ]at nd;obtain⟨owner,c1,c2⟩:=jbL (hs:=es.map (·.1)) (by rw[fH];exact small) (by rw[fH];exact nd);rw[fH]at c2
 have hlive:((List.range (31+1)).filterMap fun j=>(owner.getD j none).map (j,·))=vk hs:=by
  unfold vk;refine jbr fun j hj=>?_;rw[getD_eq_getD_getElem?,c2 j (List.mem_range.mp hj)];rfl
 obtain⟨p',cm⟩:∃ p',p'=(vk hs).map (·.1):=⟨_,rfl⟩
 obtain⟨order,dA⟩:∃ o,o=(vk hs).map (·.2):=⟨_,rfl⟩
 obtain⟨t',cg⟩:∃ t':SetTable,t'=⟨31,p'.toArray,#[],t.finger,t.led,t.movedTo 31,t.plain⟩:=⟨_,rfl⟩
 have eL:t.relaid (es.map (·.1)) 20=some (t',order.toArray):=by
  unfold SetTable.relaid;rw[show SetTable.sizeAbove 20-1=31 by decide];unfold SetTable.laid;rw[c1];show some ((⟨31,(((List.range (31+1)).filterMap fun j=>(owner.getD j none).map (j,·)).map (·.1)).toArray,#[],t.finger,t.led,t.movedTo 31,t.plain⟩:SetTable),(((List.range (31+1)).filterMap fun j=>(owner.getD j none).map (j,·)).map (·.2)).toArray)=_;rw[hlive,cg,cm,dA]
 have aq:hs.length=es.size:=by rw[gQ,length_map,length_toList]
 have nd2:order.Nodup:=by
  rw[dA];refine List.pairwise_map.mpr (List.Pairwise.imp_of_mem (fun{a b} ha hb h z=>?_) (JX hs));have h1:=vn (xp.mp ha).2;have h2:=vn (xp.mp hb).2;rw[z,h2]at h1
  have:=Option.some.inj h1
  omega
 have perm:order.Perm (List.range es.size):=by
  refine(List.perm_ext_iff_of_nodup nd2 List.nodup_range).mpr fun k=>?_;rw[dA,mem_map,List.mem_range];constructor
  ·rintro⟨x,hx,rfl⟩
   have:=(List.getElem?_eq_some_iff.mp (vn (xp.mp hx).2)).1
   omega
  ·intro hk
   have hk:k<hs.length:=by omega
   obtain⟨n,hn,e⟩:=small hs[k] (getElem_mem hk);exact⟨(n,k),xp.mpr ⟨by show n<32;omega,jhJ nd (by rw[getElem?_eq_getElem hk,e])⟩,rfl⟩
 obtain⟨bf,fO⟩:∃ bf:Array (Int×Value),bf=order.toArray.filterMap (es[·]?):=⟨_,rfl⟩
 have bL:bf.toList.Perm es.toList:=by
  rw[fO,Array.toList_filterMap];exact(perm.filterMap _).trans (by rw[filterMap_getElem?_range])
 have hsz:bf.size=es.size:=by rw[<- length_toList,bL.length_eq,length_toList]
 have hp5:p'.length=es.size:=by
  have:=perm.length_eq
  rw[dA,length_map,length_range]at this;rw[cm,length_map,this]
 have pw:p'.Pairwise (· < ·):=by
  rw[cm];exact List.pairwise_map.mpr (JX hs)
 have ple:p'.length<=16:=by
  have:=Jj p' 0 16 pw fun x hx=>⟨zero_le _,by
   rw[cm]at hx;obtain⟨y,hy,rfl⟩:=List.mem_map.mp hx;have h1:=mem_of_getElem? (vn (xp.mp hy).2);obtain⟨n,hn,e⟩:=small _ h1
   omega⟩
  omega
 have fit:t'.fits bf.size=true:=UR (p:=p') (by rw[cg]) (by rw[cg]) (by rw[hsz,hp5]) (by rw[cg];show p'.length<=31;omega)
 have hkeys:bf.toList.map (·.1)=p'.map fun x:Nat=>(x:Int):=by
  rw[fO,Array.toList_filterMap,dA,cm]
  have key:∀ l:List (Nat×Nat),(∀ x∈l,x∈vk hs)->((l.map (·.2)).filterMap (es[·]?)).map (·.1)=(l.map (·.1)).map fun x:Nat=>(x:Int):=by
   intro l
   induction l with
   | nil=>intro _;rfl
   | cons x l ih =>
    intro h;have h1:=vn (xp.mp (h x mem_cons_self)).2;rw[gQ,getElem?_map]at h1;obtain⟨e,he,h2⟩:=Option.map_eq_some_iff.mp h1;rw[getElem?_toList]at he;rw[map_cons,map_cons,map_cons,List.filterMap_cons_some (b:=e) he,map_cons,ih fun y hy=>h y (mem_cons_of_mem _ hy),h2]
  exact key (vk hs) fun x hx=>hx
 refine⟨bf,t',p',?_,by rw[cg],⟨by rw[cg],by rw[cg],by rw[cg];exact pn,pw,by rw[hp5,hsz],fun e he=>el e (bL.mem_iff.mp he),?_,.inr ⟨by rw[cg],hkeys⟩⟩⟩
 ·unfold relayAll;rw[eL];dsimp only;rw[<- fO,fit]
  have:coversAll order.toArray es.size=true:=by
   unfold coversAll;exact List.isPerm_iff.mpr perm
  rw[this];rfl
 ·rw[hkeys];exact List.pairwise_map.mpr (pw.imp fun h z=>by omega)
open PySem.Spec PyProof.Rows
section
variable {prog:Program}{w:World}{A:Around}{E:Value->Shared->Prop}{s:Shared}
theorem sublen {α:Type}[DecidableEq α]:∀(l m:List α),l.Nodup->(∀ x∈l,x∈m)->l.length<=m.length
 | [],_,_,_=>zero_le _
 | a::l,m,hn,h=>by
  obtain⟨h1,h2⟩:=List.nodup_cons.mp hn;have ha:=h a mem_cons_self
  have:=sublen l (m.erase a) h2 fun x hx=>(List.mem_erase_of_ne (fun z:x=a=>h1 (by rw[<- z];exact hx))).mpr (h x (mem_cons_of_mem _ hx))
  rw[List.length_erase_of_mem ha]at this
  have:m.length≠0:=fun z=>by rw[eq_nil_of_length_eq_zero z]at ha;cases ha
  rw[length_cons];omega
def SetS (h:Heap)(a:Addr)(es:Array (Int×Value))(L:Bool):Prop:=∃ o ep t p,h.get? a=some o∧o.ExactSet∧o.data = .set es ep t∧Sm es t p∧t.led=L
theorem Sm.small {es:Array (Int×Value)}{t:SetTable}{p:List Nat}(S:Sm es t p):es.size<=16:=by
 have key:∀ hs:List Int,hs.Nodup->(∀ h∈hs,∃ n:Nat,n<16∧h=n)->hs.length<=16:=fun hs nd h=>by
  obtain⟨owner,_,c2⟩:=jbL (hs:=hs.toArray) (by simpa using h) (by simpa using nd)
  have h1:∀ x∈(vk hs).map (·.1),x<16:=fun x hx=>by
   obtain⟨y,hy,rfl⟩:=List.mem_map.mp hx;obtain⟨n,hn,e⟩:=h _ (mem_of_getElem? (vn (xp.mp hy).2));omega
  have h2:=Jj ((vk hs).map (·.1)) 0 16 (List.pairwise_map.mpr (JX hs)) fun x hx=>⟨zero_le _,h1 x hx⟩
  have h4:=sublen (List.range hs.length) ((vk hs).map (·.2)) List.nodup_range fun k hk=>by
   have hk:=List.mem_range.mp hk;obtain⟨n,hn,e⟩:=h hs[k] (getElem_mem hk);exact List.mem_map.mpr ⟨(n,k),xp.mpr ⟨by show n<32;omega,jhJ nd (by rw[getElem?_eq_getElem hk,e])⟩,rfl⟩
  rw[length_range,length_map]at h4;rw[length_map]at h2;omega
 have:=key (es.toList.map (·.1)) S.nd fun h hh=>by
  obtain⟨e,he,rfl⟩:=List.mem_map.mp hh;obtain⟨n,_,hn,rfl⟩:=S.el e he;exact⟨n,hn,rfl⟩
 rw[length_map,length_toList]at this;exact this
theorem Sm.fit {es:Array (Int×Value)}{t:SetTable}{p:List Nat}(S:Sm es t p):t.fits es.size=true:=UR S.pl S.du S.sz (by
 have:=S.small
 have:=S.sz
 rcases S.mx with⟨h1,h2,_⟩ | ⟨h1,_⟩
 ·rw[h1];omega
 ·rw[h1];omega)
theorem jhO {n:Nat}(h:n<16):(intKind prog w).hash (n:Int)=(n:Int):=by
 have:((List.range 16).all fun n=>decide (hashInt (n:Int)=(n:Int)))=true:=by decide +kernel
 exact of_decide_eq_true (List.all_eq_true.mp this n (List.mem_range.mpr h))
theorem Sm.elems {es:Array (Int×Value)}{t:SetTable}{p:List Nat}(S:Sm es t p):ElemsOf (intKind prog w) es.toList:=fun e he=>by
 obtain⟨n,k,hn,rfl⟩:=S.el e he;exact⟨⟨(n:Int),intKind_is _ _ _ _,(jhO hn).symm⟩,rfl⟩
theorem jfV {a:Addr}{es:Array (Int×Value)}{L:Bool}{n:Nat}{k:Tok}{Q:Bool->Shared->Prop}(S:SetS s.heap a es L)(hn:n<16)(hQ1:(n:Int)∈es.toList.map (·.1)->Q false s)
  (hQ2:(n:Int)∉es.toList.map (·.1)->∀ h' bf,SameBut a s.heap h'->SetS h' a bf L->(bf.toList.map (·.1)).Perm (es.toList.map (·.1)++[(n:Int)])->Q true { s with heap:=h' }) :
  wpAny (model prog w) A (setAddHashed a (.int n k) ((intKind prog w).hash (n:Int))) Q E s:=by
 obtain⟨o,ep,t,p,ho,iu,hd,S,hL⟩:=S;have hel:=S.elems (prog:=prog) (w:=w);have hf:=S.fit
 have hb:es.size<scanBound:=by have:=S.small;unfold scanBound;omega
 have bW:(intKind prog w).is (n:Int) (.int n k)=true:=intKind_is _ _ _ _;unfold setAddHashed setAddHashedIn;refine wpAny_holding (wpAny_bind (wpAny_setState_of ho hd hf ?_));dsimp only;rw[byScan_of (knd:=intKind prog w) rfl hb hel];simp only[↓reduceIte];unfold setAddByScan;refine wpAny_bind (wpAny_bind (wpAny_rule (wpAny_bind (wpAny_setScan_of bW ho hd hf hel ?_))))
 cases hr:List.findIdx? (fun e=>(intKind prog w).is (n:Int) e.2) es.toList with
 | some j =>
  dsimp only;obtain⟨hj,hpj,_⟩:=List.findIdx?_eq_some_iff_getElem.mp hr;refine wpAny_pure (wpAny_pure (hQ1 ?_));obtain⟨m,k',hm,e⟩:=S.el es.toList[j] (getElem_mem hj);rw[e]at hpj
  have:(n:Int)=(m:Int):=(intKind prog w).inj (.int m k') _ _ hpj (intKind_is _ _ _ _)
  exact List.mem_map.mpr ⟨es.toList[j],getElem_mem hj,by rw[e,this]⟩
 | none =>
  dsimp only
  have hm:(n:Int)∉es.toList.map (·.1):=fun z=>by
   obtain⟨e,he,ee⟩:=List.mem_map.mp z
   have:=List.findIdx?_eq_none_iff.mp hr e he
   obtain⟨m,k',hm,rfl⟩:=S.el e he;have ee:(m:Int)=(n:Int):=ee;rw[ee,intKind_is]at this;cases this
  rw[jhO hn];obtain⟨cY,t1,p1,eM,l1,_,iK,iL,j7,gx,sz1,es1s,mx1⟩:=lay_sm S (k:=k) hn hm;have cb:=layNew_perm t es (n:Int) (.int n k);rw[eM]at cb ⊢;dsimp only at cb ⊢;rw[toList_push]at cb
  have el1:∀ e∈cY.toList,∃(n:Nat) (k:Tok),n<16∧e=((n:Int),Value.int n k):=fun e he=>by
   rcases List.mem_append.mp (cb.mem_iff.mp he)with he | he
   ·exact S.el e he
   ·rw[List.mem_singleton.mp he];exact⟨n,k,hn,rfl⟩
  have dq:(cY.toList.map (·.1)).Perm (es.toList.map (·.1)++[(n:Int)]):=by
   have:=cb.map (·.1)
   rw[map_append]at this;exact this
  have nd1:(cY.toList.map (·.1)).Nodup:=dq.nodup_iff.mpr (List.nodup_append.mpr ⟨S.nd,List.nodup_cons.mpr ⟨fun z=>(by cases z),.nil⟩,fun x hx y hy e=>hm (by rw[List.mem_singleton.mp hy]at e;exact e ▸ hx)⟩);refine wpAny_bind (wpAny_pure ?_);rw[iK];simp only[↓reduceIte];refine wpAny_bind ?_;rw[hashByValue_scannable 8 (x:=.int n k) rfl];refine wpAny_pure ?_;simp only[plainKind,↓reduceIte];have z16:es.size<=16:=S.small;refine wpAny_bind (wpAny_storeSet_of ho hd ?_ (by rw[es1s,sizeLine_eq];omega))
  have g1:(s.heap.update a (Obj.putSet cY t1)).get? a=some { o with data:=.set cY (ep+1) t1 }:=by
   have:=get?_update_self (Obj.putSet cY t1) ho (by rw[putSet_of cY t1 hd];rfl)
   rw[putSet_of cY t1 hd]at this;exact this
  have hsb1:=Heap.SameBut.update s.heap a (Obj.putSet cY t1)
  by_cases aQ:t1.tooFull=true
  ·have h5:t1.mask=7∧cY.size=5:=by
    unfold SetTable.tooFull SetTable.fill at aQ;rw[iL,j7]at aQ;simp only[size_toArray,length_nil,Array.size_empty,add_zero,decide_eq_true_eq]at aQ
    rcases mx1 with⟨h1,h2,_⟩ | ⟨h1,_,h2⟩
    ·rw[h1]at aQ;exact⟨h1,by omega⟩
    ·rw[h1]at aQ;omega
   obtain⟨gc,t2,p2,eL,l2,S2⟩:=jgB (t:=t1) el1 nd1 iK;have perm2:=relayAll_perm t1 cY 20;rw[eL]at perm2;rw[if_pos (by rw[aQ];rfl),h5.2,show SetTable.grown 5=20 by decide,eL];dsimp only;refine wpAny_bind (wpAny_pure ?_);have z2:=S2.small;refine wpAny_bind (wpAny_storeSet_of g1 rfl ?_ (by rw[sizeLine_eq];omega))
   have g2:((s.heap.update a (Obj.putSet cY t1)).update a (Obj.putSet gc t2)).get? a=some { o with data:=.set gc (ep+1+1) t2 }:=by
    have:=get?_update_self (Obj.putSet gc t2) g1 (by rw[putSet_of gc t2 rfl];rfl)
    rw[putSet_of gc t2 rfl]at this;exact this
   exact wpAny_pure (wpAny_pure (hQ2 hm _ gc (hsb1.trans (Heap.SameBut.update _ a _)) ⟨_,_,t2,p2,g2,iu,rfl,S2,by rw[l2,l1,hL]⟩ ((perm2.map (·.1)).trans dq)))
  ·rw[if_neg (by simpa using aQ)];refine wpAny_pure (wpAny_pure (hQ2 hm _ cY hsb1 ⟨_,_,t1,p1,g1,iu,rfl,⟨iL,j7,iK,gx,sz1,el1,nd1,?_⟩,by rw[l1,hL]⟩ dq));unfold SetTable.tooFull SetTable.fill at aQ;rw[iL,j7]at aQ;simp only[size_toArray,length_nil,Array.size_empty,add_zero,decide_eq_true_eq]at aQ
   rcases mx1 with⟨h1,h2,h3⟩ | ⟨h1,h2,_⟩
   ·rw[h1]at aQ;exact .inl ⟨h1,by omega,h3⟩
   ·exact .inr ⟨h1,h2⟩
end
section
variable {prog:Program}{w:World}{A:Around}{E:Value->Shared->Prop}{s:Shared}
def Got (h:Heap)(a:Addr)(val:Nat->Nat)(i:Nat)(L:Bool):Prop:=∃ es,SetS h a es L∧∀ x:Int,x∈es.toList.map (·.1)↔∃ j,j<i∧x=val j
theorem Got.keep {h h':Heap}{a:Addr}{val:Nat->Nat}{i:Nat}{L:Bool}(g:Got h a val i L)(k:∀ o,h.get? a=some o->h'.get? a=some o):Got h' a val i L:=by
 obtain⟨es,⟨o,ep,t,p,ho,r⟩,m⟩:=g;exact⟨es,⟨o,ep,t,p,k o ho,r⟩,m⟩
theorem add_got {a:Addr}{val:Nat->Nat}{i:Nat}{L:Bool}{k:Tok}{Q:Bool->Shared->Prop}(g:Got s.heap a val i L)(hv:val i<16)(h:∀ b h',SameBut a s.heap h'->Got h' a val (i+1) L->Q b { s with heap:=h' }) :
  wpAny (model prog w) A (setAddHashed a (.int (val i) k) ((intKind prog w).hash (val i:Int))) Q E s:=by
 obtain⟨es,S,m⟩:=g;refine jfV S hv (fun hm=>?_) fun hm h' bf same S' perm=>h true h' same ⟨bf,S',fun x=>?_⟩
 ·have:=h false s.heap (Heap.SameBut.refl a s.heap) ⟨es,S,fun x=>?_⟩
  ·exact this
  rw[m];constructor
  ·rintro⟨j,hj,e⟩;exact⟨j,by omega,e⟩
  ·rintro⟨j,hj,e⟩
   by_cases i5:j=i
   ·subst i5;rw[e];exact(m _).mp hm
   ·exact⟨j,by omega,e⟩
 ·rw[perm.mem_iff,mem_append,mem_singleton,m];constructor
  ·rintro(⟨j,hj,e⟩ | e)
   ·exact⟨j,by omega,e⟩
   ·exact⟨i,by omega,e⟩
  ·rintro⟨j,hj,e⟩
   by_cases i5:j=i
   ·subst i5;exact .inr e
   ·exact .inl ⟨j,by omega,e⟩
theorem put_all {R:Result->Shared->Prop}{I:Addr}{fp wr:List Addr}{G:Array GenState->Array GenState->Prop}{n:Nat}{P:Nat->Value->Prop}{St:Nat->Shared->Prop}(W:WalksS prog w A.in1 I fp wr G n P St){a:Addr}(ha:a∉fp)
  {val:Nat->Nat}(hv:∀ i v,P i v->∃ t,v=Value.int (val i) t) (hs:∀ i,i<n->val i<16) {L:Bool} :
  ∀(k i:Nat) (s:Shared),i+k=n->St i s->Got s.heap a val i L->(∀ s',Moved (a::wr) G s s'->Got s'.heap a val n L->R (.ok (.ret .none)) s')->codeAny (model prog w) A (.builtin "set.update.loop" ⟨[.ref a,.ref I],[]⟩) R s:=by
 have haw:a∉wr:=fun z=>ha (W.sub _ z);have more:∀ b∈wr,b∈a::wr:=fun b hb=>mem_cons_of_mem _ hb;intro k
 induction k with
 | zero =>
  intro i s hk st g hR;have hk:i=n:=hk;subst hk;refine codeAny_builtin F.entry_set_update_loop ?_;rw[Around.under_plainId F.plain_set_update_loop _];exact wpAny_bind (W.done s _ _ st fun s' mv=>wpAny_pure (hR s' (mv.mono more) (g.keep fun o e=>mv.heap a _ haw e)))
 | succ k ih =>
  intro i s hk st g hR
  have lt:i<n:=by omega
  refine codeAny_builtin F.entry_set_update_loop ?_;rw[Around.under_plainId F.plain_set_update_loop _];refine wpAny_bind (W.item i s _ _ lt st fun v s1 hp st1 mv=>?_);obtain⟨t,rfl⟩:=hv i v hp;have g1:Got s1.heap a val i L:=g.keep fun o e=>mv.heap a _ haw e;refine wpAny_bind (m:=holding [Value.int (val i) t] (setAdd a (.int (val i) t))) (wpAny_holding ?_);unfold setAdd;refine wpAny_holding (wpAny_bind ((intKind prog w).pyHash (k:=(val i:Int)) (intKind_is _ _ _ _) ?_));refine add_got (s:={ s1 with toks:=s1.toks+1 }) g1 (hs i lt) fun b h2 same g2=>?_;refine wpAny_pure ⟨plainId_quiet F.plain_set_update_loop _,ih (i+1) _ (by omega) (W.frame _ s1 _ _ st1 (le_succ _) fun b hb o e=>?_) g2 fun s3 mv3 g3=>hR s3 (Moved.trans W.gtrans ((mv.mono more).then_heap (le_succ _) fun b o hb e=>?_) mv3) g3⟩
  ·rw[same.2 b fun z=>ha (z ▸ hb)];exact e
  ·rw[same.2 b fun z=>hb (z ▸ mem_cons_self)];exact e
end
section
variable {prog:Program}{w:World}{A:Around}{E:Value->Shared->Prop}{s:Shared}
abbrev byT (w:World):Bool:=w.params.followText "set-order"
abbrev set0 (w:World):Obj:={ cls:=.type "set",dict:=none,data:=.set #[] 0 (.fresh 0 0 (!byT w)) }
theorem sm0 (b:Bool):Sm #[] (.fresh 0 0 b) []:=⟨rfl,rfl,rfl,.nil,rfl,fun e he=>by simp at he,by simp,.inl ⟨rfl,by decide,fun x hx=>(by cases hx)⟩⟩
theorem got0 {h:Heap}{a:Addr}(e:h.get? a=some (set0 w))(val:Nat->Nat):Got h a val 0 (!byT w) :=
 ⟨#[],⟨_,_,_,[],e,⟨rfl,rfl,rfl⟩,rfl,sm0 _,rfl⟩,fun x=>⟨fun z=>by simp at z,fun⟨_,h,_⟩=>absurd h (not_lt_zero _)⟩⟩
theorem jiw (x:Value){Q:Value->Shared->Prop}(h:Q (.ref s.heap.objs.size) { s with heap:=s.heap.push (set0 w) }):codeAny (model prog w) A (.call (.builtin "set.__new__") ⟨[.type "set",x],[]⟩) (wants Q E) s:=by
 refine codeAny_of_tree (show wpAny _ A.in1 (checkBuiltinCall "set.__new__" ⟨[.type "set",x],[]⟩ >>= fun _=>again (.builtin "set.__new__" ⟨[.type "set",x],[]⟩)) _ _ s from ?_);refine wpAny_bind (wpAny_of_eq (F.newCall_set_1 x) (wpAny_pure ⟨plainId_quiet F.plain_set_new _,codeAny_builtin F.entry_set_new ?_⟩));rw[Around.under_plainId F.plain_set_new _];have hsub:=sub_set_self;unfold Builtin.«set.__new__» Builtin.Frozenset.newClass;obtain⟨h0,g0,d0,k0,o0⟩:=s;dsimp only
 wp_walk
 refine wpAny_askSetting (wpAny_pure ?_);dsimp only;simp only[newObj];exact wpAny_bind (wpAny_alloc (wpAny_pure (wpAny_pure h)))
set_option maxHeartbeats 3200000 in
theorem set_call {l:Addr}{items:Array Value}{val:Nat->Nat}{Q:Value->Shared->Prop}(hh:A.handled=none)(hl:s.heap.IsList l items)(hv:∀ i v,items[i]? = some v->∃ t,v=Value.int (val i) t)(hs:∀ i,i<items.size->val i<16)
  (h:∀(h':Heap) (tk:Nat),Got h' s.heap.objs.size val items.size (!byT w)->(∀ b o,b<s.heap.objs.size->s.heap.get? b=some o->h'.get? b=some o)->Q (.ref s.heap.objs.size) { s with heap:=h',toks:=tk }) :
  wpAny (model prog w) A (call (.type "set") [.ref l]) Q E s:=by
 obtain⟨N,hN⟩:∃ N,N=s.heap.push (set0 w):=⟨_,rfl⟩
 have iN:N.objs.size=s.heap.objs.size+1:=by rw[hN,size_push]
 have atN:N.get? s.heap.objs.size=some (set0 w):=by rw[hN];exact get?_push_size _ rfl
 have keepN:∀ b o,s.heap.get? b=some o->N.get? b=some o:=fun b o e=>by rw[hN];exact get?_push_of_some _ e
 have lsz:l<s.heap.objs.size:=by obtain⟨_,z,_⟩:=hl;exact lt_size z
 obtain⟨c,tl,hmro⟩:=F.called_set.mro;have hmade:=F.called_set.made;have hsub:=F.called_set.sub;have n1:=F.called_set.notType;have n2:=F.called_set.canCreate;have n3:=F.typeCall_set_1 (.ref l);refine wpAny_call (codeAny_of_tree (show wpAny _ _ (callAny (.type "set") _) _ _ _ from wpAny_pure ⟨Code.quiet_builtin _ (by decide +kernel),codeAny_builtin F.entry_type_call ?_⟩));rw[Around.under_plain (weight_type_call_type "set" [.ref l] []) rfl]
 repeat (any_goals (first | assumption | wp_step))
 refine codeAny_mono (jiw (.ref l) (E:=E) (Q:=fun v s1=>v = .ref s.heap.objs.size∧s1={ s with heap:=N }) ⟨rfl,by rw[hN]⟩) fun r s1 hr=>?_
 cases r with
 | error e=>exact hr
 | ok fl =>
  cases fl with
  | ret v =>
   obtain⟨rfl,rfl⟩:=hr
   have ty:Shared.TypeIs { s with heap:=N } (.ref s.heap.objs.size) "set":=⟨_,atN,rfl⟩
   have i1:=F.called_set.init.lookup;have i2:=F.called_set.init.bind (.ref s.heap.objs.size)
   repeat (any_goals (first | assumption | wp_step))
   refine codeAny_mono (codeAny_call_builtin (R:=wants (fun r s2=>r = .none∧∃ h' tk,s2={ s with heap:=h',toks:=tk }∧Got h' s.heap.objs.size val items.size (!byT w)∧∀ b o,b<s.heap.objs.size->s.heap.get? b=some o->h'.get? b=some o) E) F.called_set.init.plain F.entry_set_init (check_set_init_1 ty ?_)) fun r2 s2 gJ=>?_
   ·obtain⟨ol,hol,iy,nl,hdl⟩:=hl;obtain⟨ocls,odict,odata,oslots⟩:=ol;simp only at iy hdl;subst iy;subst hdl;have hol':=keepN l _ hol;have z1:=F.sub_list_set;have z2:=F.sub_list_frozenset
    have z3:(Value.type "list"==Value.type "dict")=false:=by decide
    have isl:N.IsList l items:=⟨_,hol',rfl,nl,rfl⟩
    unfold Builtin.«set.__init__» noKeywords Builtin.Frozenset.updateFrom;generalize hPI:pyIter=PI
    wp_walk
    subst hPI;refine wpAny_pyIter_list isl (wpAny_bind (wpAny_runValue ?_))
    have aY:l≠N.objs.size:=by rw[iN];exact ne_of_lt (lt_succ_of_lt lsz)
    have hh3:A.in1.in1.in1.handled=none:=by simp[hh]
    refine put_all ((Walks.list hh3 _ l aY items).toS) (a:=s.heap.objs.size) ?_ hv hs items.size 0 _ (zero_add _) ⟨⟨_,get?_push_size _ rfl,rfl,rfl⟩,isl.push _⟩ (got0 (get?_push_of_some _ atN) val) fun s' mv g=>?_
    ·simp only[mem_cons,mem_singleton,List.not_mem_nil,or_false,not_or];exact⟨by rw[iN];exact ne_of_lt (lt_succ_self _),ne_of_gt lsz⟩
    ·obtain⟨h',g',d',tk',iM⟩:=s';have eg:g'=s.gens:=mv.gens;have ed:d'=s.drawn:=mv.drawn;have eo:iM=s.os:=mv.os;subst eg;subst ed;subst eo;refine wpAny_pure (wpAny_pure ⟨rfl,h',tk',rfl,g,fun b o hb e=>mv.heap b o ?_ (get?_push_of_some _ (keepN b o e))⟩);simp only[mem_cons,mem_singleton,List.not_mem_nil,or_false,not_or];exact⟨ne_of_lt hb,by rw[iN];exact ne_of_lt (lt_succ_of_lt hb)⟩
   ·cases r2 with
    | error e=>exact gJ
    | ok j4 =>
     cases j4 with
     | ret r =>
      obtain⟨rfl,h',tk,rfl,g,hk⟩:=gJ
      repeat (any_goals (first | assumption | wp_step))
      exact h _ _ g hk
     | next=>exact gJ.elim
     | brk=>exact gJ.elim
     | cont=>exact gJ.elim
  | next=>exact hr.elim
  | brk=>exact hr.elim
  | cont=>exact hr.elim
end
theorem YK:Slot "set_iterator" "__next__" "set_iterator.__next__" :=
 .of (owner:="set_iterator") (n:="__next__") (by rw[typeLookup_type,builtinLookup_eq_fast];kernel_rfl) (by decide +kernel) (by decide +kernel) (by decide +kernel) (by first | exact .inl (by decide +kernel) | exact .inr (by decide +kernel)) (by rw[isSubtype_type];kernel_rfl)
theorem jid:entryFor table "set_iterator.__next__" = some Builtin.«set_iterator.__next__»:=entryFor_of_tree (by kernel_rfl)
theorem jie:entryFor table "set.__iter__" = some Builtin.«frozenset.__iter__»:=entryFor_alias (id':="frozenset.__iter__") (by kernel_rfl) (by first | rfl | decide +kernel) (by decide +kernel) (by kernel_rfl)
theorem jaW:Manifest.owners.lookup (String.ofList ['r','o','t','a','r','e','t','i','_','t','e','s'].reverse)=some Manifest.sig_set_iterator:=by kernel_rfl
theorem args_sn (a:Value):argsOk "set_iterator.__next__" ⟨[a],[]⟩:=by
 unfold argsOk;rw[signature?_of (id:="set_iterator.__next__") (n:=['_','_','t','x','e','n','_','_']) (o:=['r','o','t','a','r','e','t','i','_','t','e','s']) (by kernel_rfl) jaW]
 kernel_rfl
theorem below_0 {p:List Nat}(pw:p.Pairwise (· < ·)):SetTable.below p.toArray 0=0:=by
 obtain⟨h1,h2,_⟩:=uY pw 0;generalize SetTable.below p.toArray 0=b at h1 h2
 cases b with
 | zero=>rfl
 | succ b =>
  cases p with
  | nil=>exact absurd h1 (by simp)
  | cons x p=>exact absurd (h2 x (by simp)) (not_lt_zero _)
theorem jdd {p:List Nat}(pw:p.Pairwise (· < ·)){i j:Nat}(e:p[i]? = some j):SetTable.below p.toArray (j+1)=i+1:=by
 obtain⟨h1,h2,h3⟩:=uY pw (j+1);generalize SetTable.below p.toArray (j+1)=b at h1 h2 h3;obtain⟨hi,e⟩:=List.getElem?_eq_some_iff.mp e
 have a:i<b:=by
  refine Nat.lt_of_not_le fun hb=>?_
  have:=h3 j (by rw[<- e];exact List.mem_iff_getElem.mpr ⟨i-b,by rw[length_drop];omega,by rw[List.getElem_drop];congr 1;omega⟩)
  omega
 have c:b<=i+1:=by
  refine le_of_not_lt fun hb=>?_
  have aU:i+1<p.length:=by omega
  have h4:=h2 p[i+1] (List.mem_iff_getElem.mpr ⟨i+1,by rw[length_take];omega,by rw[List.getElem_take]⟩);have h5:=List.pairwise_iff_getElem.mp pw i (i+1) hi aU (lt_succ_self _);omega
 omega
structure Sx (es:Array (Int×Value))(t:SetTable)(p:List Nat):Prop where
 pl:t.place=p.toArray
 pn:t.plain=true
 pw:p.Pairwise (· < ·)
 sz:p.length=es.size
 fit:t.fits es.size=true
theorem Sm.x {es:Array (Int×Value)}{t:SetTable}{p:List Nat}(S:Sm es t p):Sx es t p:=⟨S.pl,S.pn,S.pw,S.sz,S.fit⟩
section
variable {prog:Program}{w:World}{A:Around}{E:Value->Shared->Prop}{s:Shared}
def jbS (h:Heap)(it a:Addr)(slot i n ep:Nat):Prop:=∃ o,h.get? it=some o∧o.cls = .type "set_iterator"∧o.data = .fields #[rawInt slot,rawInt i,.ref a,rawInt n,rawInt ep]
theorem iterS {a:Addr}{o:Obj}{es:Array (Int×Value)}{ep:Nat}{t:SetTable}{p:List Nat}{Q:Value->Shared->Prop}(ho:s.heap.get? a=some o)(hx:o.ExactSet)(hd:o.data = .set es ep t)(S:Sx es t p)
  (hQ:Q (.ref s.heap.objs.size) { s with heap:=s.heap.push { cls:=.type "set_iterator",data:=.fields #[rawInt 0,rawInt 0,.ref a,rawInt es.size,rawInt ep] } }):wpAny (model prog w) A (pyIter (.ref a)) Q E s:=by
 have hT:s.TypeIs (.ref a) "set":=⟨o,ho,hx.1⟩
 have hf:=S.fit;refine wpAny_pyIter_slot hT F.slot_set_iter (wpAny_call_entry F.slot_set_iter hT jie ?_ (F.args_set_iter_1 _));unfold Builtin.«frozenset.__iter__» Builtin.Frozenset.slot0 slotArgs;simp only[isEmpty_nil,Bool.not_true,false_eq_true,↓reduceIte,bind_assoc,length_nil,bne_self_eq_false];unfold Builtin.Frozenset.addrOf Builtin.Frozenset.sizeOf;refine wpAny_bind (wpAny_pure ?_)
 try dsimp only
 refine wpAny_bind (wpAny_pure ?_);refine wpAny_bind (wpAny_bind (wpAny_setEntries_of ho hd hf (wpAny_pure ?_)))
 have hdr:wpAny (model prog w) A.in1 (setDrawn a) (fun b s'=>b=false∧s'=s) E s:=by
  unfold setDrawn setsByText;refine wpAny_bind (wpAny_setState_of ho hd hf (wpAny_bind (wpAny_bind (wpAny_askSetting (wpAny_pure (wpAny_pure ⟨?_,rfl⟩))))));show(_ && (!t.plain && _))=false;rw[S.pn];simp
 refine wpAny_bind (wpAny_mono hdr (fun b s' hb=>?_) fun _ _ h=>h);obtain⟨rfl,rfl⟩:=hb;simp only[false_eq_true,↓reduceIte];refine wpAny_bind (wpAny_pure (wpAny_bind (wpAny_setEpoch_of ho hd hf ?_)));unfold newFields;exact wpAny_bind (wpAny_newObj_type (wpAny_pure ⟨_,rfl,"set_iterator",_,⟨_,get?_push_size _ rfl,rfl⟩,YK.lookup,hQ⟩))
theorem jbS.ty {it a:Addr}{slot i n ep:Nat}(h:jbS s.heap it a slot i n ep):s.TypeIs (.ref it) "set_iterator":=by
 obtain⟨o,ho,hc,_⟩:=h;exact⟨o,ho,hc⟩
theorem jbS.at {h h':Heap}{it a:Addr}{slot i n ep:Nat}(x:jbS h it a slot i n ep)(k:∀ o,h.get? it=some o->h'.get? it=some o):jbS h' it a slot i n ep:=by
 obtain⟨o,ho,r⟩:=x;exact⟨o,k o ho,r⟩
def ord (w:World)(a:Addr)(ep:Nat)(es:Array (Int×Value)):Array (Int×Value):=if byT w=true then pickOrder (w.params.setOrder a ep) es else es
def jcd (w:World)(t:SetTable)(slot i:Nat):Prop:=byT w=true∨SetTable.below t.place slot=i
theorem next_of {a:Addr}{o:Obj}{es:Array (Int×Value)}{ep:Nat}{t:SetTable}{p:List Nat}{slot i:Nat}{Q:Option (Value×Nat)->Shared->Prop}(ho:s.heap.get? a=some o)(hd:o.data = .set es ep t)(S:Sx es t p)(hL:t.led = !byT w)(hA:jcd w t slot i)
  (h1:∀ e nx,(ord w a ep es)[i]? = some e->jcd w t nx (i+1)->Q (some (e.2,nx)) s) (h2:(ord w a ep es)[i]? = none->Q none s):wpAny (model prog w) A (setNext a slot i ep) Q E s:=by
 have hf:=S.fit;unfold setNext;refine wpAny_bind (wpAny_setState_of ho hd hf ?_);dsimp only;unfold setsByText;refine wpAny_bind (wpAny_bind (wpAny_askSetting (wpAny_pure ?_)));dsimp only
 by_cases hb:byT w=true
 ·rw[if_pos (show(model prog w).w.params.followText "set-order" = true from hb),if_neg (by simp)];have eU:ord w a ep es=pickOrder (w.params.setOrder a ep) es:=if_pos hb;rw[eU]at h1 h2;unfold setWalk setsByText;refine wpAny_bind (wpAny_bind (wpAny_setState_of ho hd hf ?_));dsimp only;refine wpAny_bind (wpAny_bind (wpAny_askSetting (wpAny_pure ?_)));dsimp only;rw[if_pos (show(model prog w).w.params.followText "set-order" = true from hb)];refine wpAny_bind (wpAny_askSetting (wpAny_pure (wpAny_pure ?_)));show Q (map (fun e=>(e.2,slot)) (pickOrder (w.params.setOrder a ep) es)[i]?) s
  cases e:(pickOrder (w.params.setOrder a ep) es)[i]? with
  | none=>exact h2 e
  | some x=>exact h1 x slot e (.inl hb)
 ·rw[if_neg (show ¬(model prog w).w.params.followText "set-order" = true from hb)];have eU:ord w a ep es=es:=if_neg hb;rw[eU]at h1 h2;split
  ·rename_i h
   exact absurd h (by
    show ¬((!t.plain && _)=true);rw[S.pn]
    simp)
  ·refine wpAny_bind (show wpAny _ _ (if(!t.led && !es.isEmpty)=true then unsupported "set:maker-not-led" else pure ()) _ _ _ from ?_)
   have:byT w=false:=by simpa using hb
   rw[hL,this,if_neg (by simp)];refine wpAny_pure (wpAny_pure ?_);have fR:SetTable.below t.place slot=i:=hA.resolve_left hb;rw[fR,S.pl]
   by_cases hi:i<es.size
   ·have hp:i<p.length:=by rw[S.sz];exact hi
    have e1:es[i]? = some es[i]:=Array.getElem?_eq_getElem hi
    have e2:p.toArray[i]? = some p[i]:=by rw[getElem?_toArray];exact getElem?_eq_getElem hp
    rw[e1,e2];exact h1 es[i] (p[i]+1) (Array.getElem?_eq_getElem hi) (.inr (by rw[S.pl];exact jdd S.pw (getElem?_eq_getElem hp)))
   ·have e1:es[i]? = none:=Array.getElem?_eq_none (by omega);rw[e1];exact h2 e1
theorem nextS {it a:Addr}{o:Obj}{es:Array (Int×Value)}{ep:Nat}{t:SetTable}{p:List Nat}{slot i:Nat}{Q:Option Value->Shared->Prop}(hh:A.handled=none)(hit:jbS s.heap it a slot i es.size ep)(ho:s.heap.get? a=some o)(hd:o.data = .set es ep t)(S:Sx es t p)(hL:t.led = !byT w)(hA:jcd w t slot i)
  (h1:∀ e nx h',(ord w a ep es)[i]? = some e->jcd w t nx (i+1)->jbS h' it a nx (i+1) es.size ep->SameBut it s.heap h'->Q (some e.2) { s with heap:=h' }) (h2:(ord w a ep es)[i]? = none->∀ h',ExtBut it s.heap h'->Q none { s with heap:=h' }) :
  wpAny (model prog w) A (pyNext (.ref it)) Q E s:=by
 have hf:=S.fit;obtain⟨oi,eT,hc,eN⟩:=id hit;unfold pyNext;refine wpAny_bind (wpAny_attempt (wpAny_callSpecial?_slot (name:=Str.ofString "__next__") hit.ty YK (wpAny_call_entry YK hit.ty jid ?_ (args_sn _))));unfold Builtin.«set_iterator.__next__» slotArgs;simp only[isEmpty_nil,Bool.not_true,false_eq_true,↓reduceIte,bind_assoc,length_nil,bne_self_eq_false];refine wpAny_bind (wpAny_pure ?_);dsimp only;refine wpAny_bind (wpAny_fieldsOf eT eN ?_);simp only[rawInt]at eN ⊢;refine wpAny_bind (wpAny_setEntries_of ho hd hf ?_);rw[if_neg (by simp)];simp only[Int.toNat_natCast];refine wpAny_bind (next_of ho hd S hL hA (fun e nx he ha=>?_) fun he=>?_)
 ·dsimp only;have d1:=Obj.data_mapFields eN (·.setIfInBounds 0 (Value.int nx 0));have g1:=get?_update_self (Obj.mapFields (·.setIfInBounds 0 (Value.int nx 0))) eT (Obj.isFreed_of_fields d1);refine wpAny_bind (wpAny_setField eT eN (by simp) ?_);have d2:=Obj.data_mapFields d1 (·.setIfInBounds 1 (Value.int ((i:Int)+1) 0));have g2:=get?_update_self (Obj.mapFields (·.setIfInBounds 1 (Value.int ((i:Int)+1) 0))) g1 (Obj.isFreed_of_fields d2);refine wpAny_bind (wpAny_setField g1 d1 (by simp) ?_);refine wpAny_pure ⟨_,rfl,wpAny_pure (h1 e nx _ he ha ⟨_,g2,?_,?_⟩ ((Heap.SameBut.update ..).trans (Heap.SameBut.update ..)))⟩
  ·rw[Obj.cls_mapFields,Obj.cls_mapFields];exact hc
  ·rw[d2];simp[rawInt]
 ·dsimp only;refine wpAny_bind (wpAny_setField eT eN (by simp) ?_);simp only[newExc,newTuple];refine wpAny_bind (wpAny_bind (wpAny_newObj_type ?_ (by size_fits)));refine wpAny_bind (m:=firstArgMember _ _) (wpAny_of_eq (a:=Value.none) (by first | rfl | (simp only[firstArgMember];rfl)) ?_);refine wpAny_newObj_type ?_ (by size_fits);simp only[raiseNew];refine wpAny_bind (wpAny_handled ?_);rw[show A.in1.handled=none from hh];refine wpAny_bind (wpAny_pure (wpAny_throw ?_));refine wpAny_bind (wpAny_isInstance (T:="StopIteration") (b:=true) ⟨_,get?_push_size _ rfl,rfl⟩ isSubtype_stop ?_);exact wpAny_pure (h2 he _ (((Heap.SameBut.update ..).extBut.push _).push _))
end
open PySem.W
theorem jay:Slot "set_iterator" "__iter__" "set_iterator.__iter__" :=
 .of (owner:="set_iterator") (n:="__iter__") (by rw[typeLookup_type,builtinLookup_eq_fast];kernel_rfl) (by decide +kernel) (by decide +kernel) (by decide +kernel) (by first | exact .inl (by decide +kernel) | exact .inr (by decide +kernel)) (by rw[isSubtype_type];kernel_rfl)
theorem jfE:entryFor table "set_iterator.__iter__" = some Builtin.«dict_keyiterator.__iter__»:=entryFor_alias (id':="dict_keyiterator.__iter__") (by kernel_rfl) (by first | rfl | decide +kernel) (by decide +kernel) (by kernel_rfl)
theorem jiE (a:Value):argsOk "set_iterator.__iter__" ⟨[a],[]⟩:=by
 unfold argsOk;rw[signature?_of (id:="set_iterator.__iter__") (n:=['_','_','r','e','t','i','_','_']) (o:=['r','o','t','a','r','e','t','i','_','t','e','s']) (by kernel_rfl) jaW]
 kernel_rfl
theorem jeb {α:Type}(next:Nat->Nat):∀(n k:Nat) (left:List α) (out:Array α),left.length=n->(pickOrder.go next n k left out).toList.Perm (out.toList++left)
 | 0,k,left,out,h=>by
  rw[eq_nil_of_length_eq_zero h,append_nil];unfold pickOrder.go;exact .rfl
 | n+1,k,left,out,h=>by
  have hl:next k%left.length<left.length:=Nat.mod_lt _ (by omega);unfold pickOrder.go;rw[getElem?_eq_getElem hl];dsimp only;refine(jeb next n (k+1) _ _ (by rw[List.length_eraseIdx_of_lt hl];omega)).trans ?_;rw[toList_push,append_assoc];refine List.Perm.append_left _ ?_;rw[List.eraseIdx_eq_take_drop_succ]
  conv=>rhs;rw[<- List.take_append_drop (next k%left.length) left,List.drop_eq_getElem_cons hl]
  exact(List.perm_middle (a:=left[next k%left.length]) (l₁:=left.take (next k%left.length)) (l₂:=left.drop (next k%left.length+1))).symm
theorem jfg {α:Type}(next:Nat->Nat)(xs:Array α):(pickOrder next xs).toList.Perm xs.toList:=by
 have:=jeb next xs.size 0 xs.toList #[] (by rw[length_toList])
 unfold pickOrder;simpa using this
theorem ord_perm (w:World)(a:Addr)(ep:Nat)(es:Array (Int×Value)):(ord w a ep es).toList.Perm es.toList:=by
 unfold ord;split
 ·exact jfg _ _
 ·exact .rfl
section
variable {prog:Program}{w:World}{A:Around}{E:Value->Shared->Prop}{s:Shared}
theorem hintS {r:Addr}{Q:Bool->Shared->Prop}(hT:s.TypeIs (.ref r) "set")(h:Q false s):wpAny (model prog w) A (Builtin.List.listLengthHint (.ref r)) Q E s:=by
 unfold Builtin.List.listLengthHint;refine wpAny_bind (wpAny_specialOf hT F.slot_set_len.lookup ?_);generalize hid:("set.__len__":String)=id0
 wp_delta
 rw[show splitId id0=some ("set","__len__")from by subst hid;decide +kernel];subst hid;refine wpAny_bind (wpAny_isInstance (T:="set") (b:=true) hT (by rw[isSubtype_type];kernel_rfl) ?_);refine wpAny_ite_split (fun dG=>absurd dG (by decide)) (fun _=>?_);refine wpAny_ite_split (fun _=>?_) (fun dG=>absurd (by decide +kernel) dG);exact wpAny_bind (wpAny_typeOf hT (wpAny_pure h))
theorem jaX {a:Addr}{ep:Nat}{es:Array (Int×Value)}:(ord w a ep es).size=es.size:=by
 rw[<- length_toList,(ord_perm w a ep es).length_eq,length_toList]
theorem walksS (hh:A.handled=none){I a:Addr}(aY:a≠I){o:Obj}{es:Array (Int×Value)}{ep:Nat}{t:SetTable}{p:List Nat}(hd:o.data = .set es ep t)(S:Sx es t p)(hL:t.led = !byT w) :
  Walks prog w A I [I,a] [I] es.size (fun i v=>∃ e,(ord w a ep es)[i]? = some e∧v=e.2) (fun i h=>∃ slot,jbS h I a slot i es.size ep∧h.get? a=some o∧jcd w t slot i) where
 sub:=fun b hb=>by simp at hb;simp[hb]
 frame:=fun _ _ _ st hk=>by
  obtain⟨slot,h1,h2,h3⟩:=st;exact⟨slot,h1.at fun o e=>hk I (by simp) o e,hk a (by simp) _ h2,h3⟩
 item:=fun i s Q E hi st hQ=>by
  obtain⟨slot,h1,h2,h3⟩:=st;refine nextS hh h1 h2 hd S hL h3 (fun e nx h' he ha hit same=>?_) fun he=>?_
  ·exact hQ _ h' s.toks ⟨e,he,rfl⟩ ⟨nx,hit,(same.2 a aY).trans h2,ha⟩ fun b o hb e=>same.extBut b o (fun h=>hb (by simp[h])) e
  ·have:=Array.getElem?_eq_none_iff.mp he
   rw[jaX]at this;omega
 done:=fun s Q E st hQ=>by
  obtain⟨slot,h1,h2,h3⟩:=st;refine nextS hh h1 h2 hd S hL h3 (fun e nx h' he ha hit same=>?_) fun he h' ext=>hQ h' s.toks fun b o hb e=>ext b o (fun h=>hb (by simp[h])) e
  have:=(Array.getElem?_eq_some_iff.mp he).1
  rw[jaX]at this;omega
 self:=fun _ _ _ _ st hQ=>by
  obtain⟨slot,h1,h2,h3⟩:=st;exact wpAny_pyIter_slot h1.ty jay (wpAny_call_entry jay h1.ty jfE (wpAny_pure ⟨_,rfl,"set_iterator",_,h1.ty,YK.lookup,hQ⟩) (jiE _))
theorem srcS {a:Addr}{o:Obj}{es:Array (Int×Value)}{ep:Nat}{t:SetTable}{p:List Nat}(hx:o.ExactSet)(hd:o.data = .set es ep t)(S:Sx es t p)(hL:t.led = !byT w):KdlSrc prog w "set" a a es.size (fun i v=>∃ e,(ord w a ep es)[i]? = some e∧v=e.2) (fun h=>h.get? a=some o) where
 type:=fun _ ho=>⟨o,ho,hx.1⟩
 there:=fun _ ho=>⟨lt_size ho,lt_size ho⟩
 keep:=fun _ _ ho hk=>hk a (.inl rfl) _ ho
 notList:=by decide
 notTuple:=by decide
 hint:=fun _ _ _ _ ho hq=>hintS ⟨o,ho,hx.1⟩ hq
 iter:=fun _ _ hh ho=>⟨_,_,(fun _ _ hq=>iterS ho hx hd S hq),walksS hh (ne_of_lt (lt_size ho)) hd S hL,⟨0,⟨_,get?_push_size _ rfl,rfl,rfl⟩,get?_push_of_some _ ho,.inr (by rw[S.pl];exact below_0 S.pw)⟩⟩
end
end Sml
namespace L2
open PySem PySem.Spec PyProof.Rows PySem.W
def uI (ns:List Int)(i:Nat):Nat:=(ns.getD i 0).toNat
def yw (w:World)(a:Addr)(ns:List Int):HO:=.ext fun h=>Sml.Got h a (uI ns) ns.length (!Sml.byT w)
def yr (ns:List Int):List Int:=((List.range 16).map fun k:Nat=>(k:Int)).filter fun x=>decide (x∈ns)
theorem YM:∀(l m:List Int),l.Pairwise (· < ·)->m.Pairwise (· < ·)->(∀ x,x∈l↔x∈m)->l=m
 | [],[],_,_,_=>rfl
 | [],b::m,_,_,h=>by cases (h b).mpr mem_cons_self
 | a::l,[],_,_,h=>by cases (h a).mp mem_cons_self
 | a::l,b::m,pl,pm,h=>by
  obtain⟨l1,l2⟩:=List.pairwise_cons.mp pl;obtain⟨m1,m2⟩:=List.pairwise_cons.mp pm
  have e:a=b:=by
   rcases List.mem_cons.mp ((h a).mp mem_cons_self)with e | e
   ·exact e
   ·rcases List.mem_cons.mp ((h b).mpr mem_cons_self)with e' | e'
    ·exact e'.symm
    ·have h1:=m1 a e;have h2:=l1 b e';omega
  subst e;rw[YM l m l2 m2 fun x=>?_];constructor
  ·intro hx
   have:=l1 x hx
   rcases List.mem_cons.mp ((h x).mp (mem_cons_of_mem _ hx))with e | e
   ·omega
   ·exact e
  ·intro hx
   have:=m1 x hx
   rcases List.mem_cons.mp ((h x).mpr (mem_cons_of_mem _ hx))with e | e
   ·omega
   ·exact e
theorem xJ (ns:List Int):(yr ns).Pairwise (· < ·):=List.Pairwise.filter _ (List.pairwise_map.mpr (List.pairwise_lt_range.imp fun h=>by omega))
theorem yQ {ns:List Int}(h:∀ n∈ns,0<=n∧n<16)(x:Int):x∈yr ns↔x∈ns:=by
 unfold yr;rw[mem_filter,decide_eq_true_eq];refine⟨fun z=>z.2,fun z=>⟨List.mem_map.mpr ⟨x.toNat,List.mem_range.mpr ?_,?_⟩,z⟩⟩
 ·have:=h x z;omega
 ·have:=h x z;omega
theorem jiP {ns:List Int}(h:∀ n∈ns,0<=n∧n<16)(x:Int):(∃ j,j<ns.length∧x=(uI ns j:Int))↔x∈ns:=by
 have g:∀ j (hj:j<ns.length),(uI ns j:Int)=ns[j]:=fun j hj=>by
  unfold uI;rw[getD_eq_getElem?_getD,getElem?_eq_getElem hj]
  have:=h ns[j] (getElem_mem hj)
  show((ns[j].toNat:Nat):Int)=_;omega
 constructor
 ·rintro⟨j,hj,e⟩;rw[e,g j hj];exact getElem_mem hj
 ·intro hx;obtain⟨j,hj,e⟩:=List.getElem_of_mem hx;exact⟨j,hj,by rw[g j hj,e]⟩
section
variable {X:Cx}
theorem Uo {P:Program}{w:World}{H:Hp}{h:Heap}{a:Addr}{ns:List Int}(g:Sml.Got h a (uI ns) ns.length (!Sml.byT w)):yk P w H h a (yw w a ns):=by
 refine⟨g,?_,fun h1 h2 g1 k=>g1.keep k⟩;obtain⟨es,⟨o,ep,t,p,ho,_⟩,_⟩:=g;exact⟨o,ho⟩
theorem jfO (hc:X.calm=true):yM X (.type "set") (fun xs H Q=>∃(p:Addr) (ns:List Int),xs=[.ref p]∧SqL X.K H p (ns.map V.int)∧(∀ n∈ns,0<=n∧n<16)∧∀ l:Addr,H l=none->Q (.ref l) (upd H l (yw X.w l ns))):=by
 intro aa s σ H xs us Q I r h;obtain⟨p,ns,rfl,hq,hb,q⟩:=h;obtain⟨u,rfl,rx⟩:=Vo r;cases rx;obtain⟨its,r',pl,hz⟩:=I.list hq;have hI:=UM r';have aq:=r'.length;rw[length_map]at aq
 have e1:its.toArray.size=ns.length:=by rw[size_toArray];omega
 have hv:∀ i v,its.toArray[i]? = some v->∃ t,v=Value.int (uI ns i) t:=fun i v e=>by
  have hi:i<ns.length:=by
   have:=(Array.getElem?_eq_some_iff.mp e).1
   omega
  obtain⟨t,e2⟩:=IntsAre.int_at hI i v (by rw[<- getElem?_toList]at e;exact e);refine⟨t,?_⟩;rw[e2];unfold uI;rw[getD_eq_getElem?_getD,getElem?_eq_getElem hi]
  have:=hb ns[i] (getElem_mem hi)
  show Value.int ns[i] t=Value.int ((ns[i].toNat:Nat):Int) t;rw[show((ns[i].toNat:Nat):Int)=ns[i] by omega]
 refine Sml.set_call (val:=uI ns) (I.ok.hd hc) pl.isList hv (fun i hi=>?_) fun h' tk g hk=>?_
 ·rw[e1]at hi;unfold uI;rw[getD_eq_getElem?_getD,getElem?_eq_getElem hi]
  have:=hb ns[i] (getElem_mem hi)
  show ns[i].toNat<16;omega
 ·rw[e1]at g;exact⟨.ref s.heap.objs.size,_,I.laid (a:=s.heap.objs.size) (o:=yw X.w _ ns) (t':=tk) (fun b o z=>hk b o (lt_size z) z) (le_refl _) (Uo g),rfl,q _ (I.hok.fresh (le_refl _))⟩
theorem JH (hc:X.calm=true):yM X (.builtin "sorted") (fun xs H Q=>∃(p:Addr) (ns:List Int),xs=[.ref p]∧H p=some (yw X.w p ns)∧(∀ n∈ns,0<=n∧n<16)∧∀ l:Addr,H l=none->Q (.ref l) (upd H l (.lst ((yr ns).map V.int)))):=by
 intro aa s σ H xs us Q I r h;obtain⟨p,ns,rfl,hq,hb,q⟩:=h;obtain⟨u,rfl,rx⟩:=Vo r;cases rx
 obtain⟨⟨es,⟨o,ep,t,pl,ho,hx,hd,S,hL⟩,hm⟩,_⟩:=(show yk X.prog X.w H s.heap p (yw X.w p ns)from I.hok p _ hq)
 obtain⟨ks,cU⟩:∃ ks,ks=(Sml.ord X.w p ep es).toList.map (·.1):=⟨_,rfl⟩
 have bL:ks.Perm (es.toList.map (·.1)):=by rw[cU];exact(Sml.ord_perm X.w p ep es).map _
 have hsz:=S.small
 have aq:ks.length=es.size:=by rw[bL.length_eq,length_map,length_toList]
 have intsI:∀(ms:List Int) (vs:List Value),vs.length=ms.length->(∀(j:Nat) (v:Value),vs[j]? = some v->∃ n t,ms[j]? = some n∧v=Value.int n t)->IntsAre vs ms:=by
  intro ms
  induction ms with
  | nil=>intro vs h _;cases vs with | nil=>exact .nil | cons _ _=>cases h
  | cons m ms ih =>
   intro vs h hp
   cases vs with
   | nil=>cases h
   | cons v vs =>
    obtain⟨n,t,e1,e2⟩:=hp 0 v rfl;cases e1;subst e2;exact .cons _ _ (ih vs (by simpa using h) fun j v e=>hp (j+1) v (by simpa using e))
 refine Srt.sorted_src (ns:=ks) (Sml.srcS hx hd S.x hL) (I.ok.hd hc) ho (by omega) (fun vs hv hp=>intsI _ _ (by omega) fun j v e=>?_) fun h' tk a e out eK k1 z1 g a1 a2 a3=>?_
 ·obtain⟨x,e1,e2⟩:=hp j v e;have hx:x∈es.toList:=(Sml.ord_perm X.w p ep es).mem_iff.mp (mem_of_getElem? (by rw[getElem?_toList];exact e1));obtain⟨n,k,_,rfl⟩:=S.el x hx;exact⟨(n:Int),k,by rw[cU,getElem?_map,getElem?_toList,e1];rfl,e2⟩
 ·have nd:eK.Nodup:=(a2.trans bL).nodup_iff.mpr S.nd
  have eI:eK.Pairwise (· < ·):=by
   have:=List.pairwise_iff_getElem.mp a3
   refine List.pairwise_iff_getElem.mpr fun i j hi hj cp=>?_;have h1:=this i j hi hj cp;have h2:=List.pairwise_iff_getElem.mp nd i j hi hj cp;omega
  have bf:eK=yr ns:=YM _ _ eI (xJ ns) fun x=>by rw[(a2.trans bL).mem_iff,hm,jiP hb,yQ hb]
  subst bf
  have cJ:(yr ns).length=es.size:=by rw[a2.length_eq,aq]
  refine⟨.ref a,_,I.laid (a:=a) (o:=.lst ((yr ns).map V.int)) (h':=h') (t':=tk) k1 z1 ?_,rfl,q a (I.hok.fresh z1)⟩;refine⟨by rw[length_map,sizeLine_eq];omega,out.toList,e,Uj a1,?_⟩;rw[g]
end
end L2
namespace L3
open PySem L2
def vW (ns:List Int):Bool:=ns.all fun n=>decide (0<=n) && decide (n<16)
theorem JP {ns:List Int}(h:vW ns=true):∀ n∈ns,0<=n∧n<16:=fun n hn=>by
 have:=List.all_eq_true.mp h n hn
 rw[and_eq_true,decide_eq_true_eq,decide_eq_true_eq]at this;exact this
def jcT (d:DE):DE:=fun ρ M=>(d ρ M).bind fun x M1=>match UJ M1 x with
 | some ns=>if vW ns=true then .ok (.lst ((yr ns).map PV.int)) M1 else .bad
 | none=>.bad
section
variable {X:Cx}{T:Tb}{ES:St->XK}{e:Expr}{d:DE}{p p2 pos cR:Pos}
theorem jgJ (hT:T.K=X.K)(hc:X.calm=true)(hg:Gl X "sorted")(hm:X.mg "sorted" = none)(hv:bootBuiltins "sorted" = some (.builtin "sorted"))(hg2:Gl X "set")(iY:X.mg "set" = none)(iq:bootBuiltins "set" = some (.type "set"))(he:QE X T ES e d)
  (bc:starEach [e] X.env=[(false,eval e X.env)]:=by rfl) (bx:starEach [.Call (.Name "set" p2) [e] [] cR] X.env=[(false,eval (.Call (.Name "set" p2) [e] [] cR) X.env)]:=by rfl) :
  QE X T ES (.Call (.Name "sorted" p) [.Call (.Name "set" p2) [e] [] cR] [] pos) (jcT d) :=
 ⟨jN (Xr (JH hc) hg hm hv (YO (VA (jfO hc) hg2 iY iq (YO he.h UD (by rw[bc];rfl)) (by decide) (by decide) (by rw[bc];rfl) (by rfl)) UD (by rw[bx];rfl)) (by decide) (by decide) (by rw[bx];rfl) (by rfl)) fun σ H Q ae=>jC ae fun W ρ M k hh hs q=>⟨W,ρ,M,k,hh,hs,yg.bind q fun W1 M1 x v H1 l1 h1 r1 q1=>by
  split at q1
  rotate_left
  ·exact q1.elim
  rename_i ns e1;split at q1
  rotate_left
  ·exact q1.elim
  rename_i hz;obtain⟨a,rfl,ha⟩:=iseq_at h1 r1 e1;refine⟨a,ns,rfl,SqL.of ha,JP hz,fun l hl=>⟨l,ns,rfl,jr,JP hz,fun l2 i3=>?_⟩⟩;obtain⟨l4,h4,f4⟩:=h1.frz (o:=yw X.w l ns) hl;obtain⟨l5,h5,f5⟩:=h4.frz (o:=.lst ((yr ns).map V.int)) i3
  exact q1 _ _ _ (l4.trans l5) h5 ⟨l2,_,rfl,f5,yc.ints.mpr rfl⟩⟩⟩
end
end L3
namespace L2
open PySem PySem.Spec PyProof.Rows
section
variable {prog:Program}{w:World}{A:Around}{R:Result->Shared->Prop}{s:Shared}
theorem YV {kx:Expr}{gens:List Comprehension}{scope:Scope}{pos:Pos}{d:Nat}{it acc:Value}{env:Env}{ab iter:Expr}(h0:gens[d]? = some ⟨ab,iter,[],0⟩)
  (h:codeAny (model prog w) A (.compLoop (.SetComp kx gens scope pos) d it acc env) R s)
  (hi:∀ E,wpAny (model prog w) A (pyIter it) (fun cc s'=>codeAny (model prog w) A (.compLoop (.SetComp kx gens scope pos) d cc acc env) R s') E s) :
  codeAny (model prog w) A (.compStart (.SetComp kx gens scope pos) d it acc env) R s:=by
 refine codeAny_of_tree ?_;show wpAny _ A ((compStart (.SetComp kx gens scope pos) d it acc env).onRaise (fun x=>do noteFrame x env;standAt theWindowsPlace)) _ _ s;refine wpAny_onRaise ?_;unfold compStart;have hc:(clausesOf (.SetComp kx gens scope pos))[d]? = some ⟨ab,iter,[],0⟩:=h0;rw[hc];rw[if_neg (by simp)];refine wpAny_bind (wpAny_askSetting ?_);split
 ·exact wpAny_pure ⟨rfl,h⟩
 ·refine wpAny_bind (wpAny_rule ?_);refine wpAny_bind (wpAny_standAt ?_);exact wpAny_bind (wpAny_mono (hi _) (fun cc s' h'=>wpAny_pure ⟨rfl,h'⟩) fun _ _ z=>z)
theorem jcG {kx:Expr}{gens:List Comprehension}{scope:Scope}{pos:Pos}{d:Nat}{it acc:Value}{env:Env}{ab iter aZ a8:Expr}(h0:gens[d]? = some ⟨ab,iter,[],0⟩)(h1:gens[d+1]? = some ⟨aZ,a8,[],0⟩)
  (hs:∀ x,foldedSetIterable a8 env x=pure x) (I:Nat->Shared->Prop)
  (aA:∀ n s,I n s->wpAny (model prog w) A (pyNext it) (fun r s₁=>match r with
   | none=>R (.ok .next) s₁
   | some v=>wpAny (model prog w) A (letOwnedTupleGo ab it v) (fun _ bC=>wpAny (model prog w) A (assign ab env v) (fun _ s₂ =>
     wpAny (model prog w) A (eval a8 env) (fun x s₃=>wpAny (model prog w) A (pyIter x) (fun cc s₄ =>
      codeAny (model prog w) A (.compStart (.SetComp kx gens scope pos) (d+1) cc acc env) (fun r s₅=>match r with
       | .ok _=>∃ m,m<n∧I m s₅
       | .error _=>False) s₄) (fun _ _=>False) s₃) (fun _ _=>False) s₂) (fun _ _=>False) bC) (fun _ _=>False) s₁) (fun _ _=>False) s)
  (n:Nat) (h:I n s):codeAny (model prog w) A (.compLoop (.SetComp kx gens scope pos) d it acc env) R s:=by
 refine codeAny_loop rfl I (fun n s hI=>?_) n h;show wpAny _ A ((compTurn (.SetComp kx gens scope pos) d it acc env).onRaise (fun x=>do noteFrame x env;theTreesLotGoes x)) _ _ s;refine wpAny_noted ?_;unfold compTurn;simp only[h0,h1,hs];refine wpAny_bind (wpAny_standAt ?_);rw[if_neg (by simp)];refine wpAny_bind (wpAny_mono (aA n s hI) (fun r s₁ h₁=>?_) fun _ _ h'=>h'.elim)
 cases r with
 | none=>exact wpAny_pure h₁
 | some v =>
  refine wpAny_bind (wpAny_mono h₁ (fun _ bC cf=>?_) fun _ _ h'=>h'.elim);refine wpAny_bind (wpAny_mono cf (fun _ s₂ h₂=>?_) fun _ _ h'=>h'.elim);refine wpAny_bind (wpAny_tests_nil ?_);rw[if_pos rfl];refine wpAny_bind (wpAny_mono h₂ (fun x s₃ h₃=>?_) fun _ _ h'=>h'.elim);refine wpAny_bind (wpAny_standAt ?_);rw[if_neg (by simp)];refine wpAny_bind (wpAny_pure ?_);rw[if_neg (by simp)];refine wpAny_bind (wpAny_holding (wpAny_mono h₃ (fun cc s₄ h₄=>?_) fun _ _ h'=>h'.elim));refine wpAny_bind (wpAny_runOwn (codeAny_mono h₄ fun r s₅ h₅=>?_))
  cases r with
  | ok f=>exact wpAny_pure ⟨rfl,h₅⟩
  | error e=>exact h₅.elim
theorem jbd {kx:Expr}{gens:List Comprehension}{scope:Scope}{pos:Pos}{d:Nat}{it:Value}{acc:Addr}{env:Env}{ab iter:Expr}(h0:gens[d]? = some ⟨ab,iter,[],0⟩)(h1:gens[d+1]? = none)(I:Nat->Shared->Prop)
  (aA:∀ n s,I n s->wpAny (model prog w) A (pyNext it) (fun r s₁=>match r with
   | none=>R (.ok .next) s₁
   | some v=>wpAny (model prog w) A (letOwnedTupleGo ab it v) (fun _ bC=>wpAny (model prog w) A (assign ab env v) (fun _ s₂ =>
     wpAny (model prog w) A (eval kx env) (fun kv s₃=>wpAny (model prog w) A (call (.builtin "set.add") [.ref acc,kv]) (fun _ s₅=>∃ m,m<n∧I m s₅) (fun _ _=>False) s₃) (fun _ _=>False) s₂) (fun _ _=>False) bC) (fun _ _=>False) s₁) (fun _ _=>False) s)
  (n:Nat) (h:I n s):codeAny (model prog w) A (.compLoop (.SetComp kx gens scope pos) d it (.ref acc) env) R s:=by
 refine codeAny_loop rfl I (fun n s hI=>?_) n h;show wpAny _ A ((compTurn (.SetComp kx gens scope pos) d it (.ref acc) env).onRaise (fun x=>do noteFrame x env;theTreesLotGoes x)) _ _ s;refine wpAny_noted ?_;unfold compTurn;simp only[h0,h1];refine wpAny_bind (wpAny_standAt ?_);rw[if_neg (by simp)];refine wpAny_bind (wpAny_mono (aA n s hI) (fun r s₁ h₁=>?_) fun _ _ h'=>h'.elim)
 cases r with
 | none=>exact wpAny_pure h₁
 | some v =>
  refine wpAny_bind (wpAny_mono h₁ (fun _ bC cf=>?_) fun _ _ h'=>h'.elim);refine wpAny_bind (wpAny_mono cf (fun _ s₂ h₂=>?_) fun _ _ h'=>h'.elim);refine wpAny_bind (wpAny_tests_nil ?_);rw[if_pos rfl];exact wpAny_bind (wpAny_bind (wpAny_mono h₂ (fun kv s₃ h₃=>wpAny_bind (wpAny_standAt (wpAny_bind (wpAny_mono h₃ (fun _ s₅ h₅=>wpAny_pure (wpAny_pure ⟨rfl,h₅⟩)) fun _ _ h'=>h'.elim)))) fun _ _ h'=>h'.elim))
end
def yN (X:Cx)(kx:Expr)(gens:List Comprehension)(scope:Scope)(pos:Pos)(d:Nat)(acc:Addr)(s:Shared)(Po:Shared->Prop):Prop:=match gens[d+1]? with
 | none=>wpAny (model X.prog X.w) X.A (eval kx X.env) (fun kv s₃=>wpAny (model X.prog X.w) X.A (call (.builtin "set.add") [.ref acc,kv]) (fun _ s₅=>Po s₅) (fun _ _=>False) s₃) (fun _ _=>False) s
 | some g=>wpAny (model X.prog X.w) X.A (eval g.iter X.env) (fun x s₃=>wpAny (model X.prog X.w) X.A (pyIter x) (fun cc s₄ =>
   codeAny (model X.prog X.w) X.A (.compStart (.SetComp kx gens scope pos) (d+1) cc (.ref acc) X.env) (fun r s₅=>match r with
    | .ok _=>Po s₅
    | .error _=>False) s₄) (fun _ _=>False) s₃) (fun _ _=>False) s
theorem yN.mono {X:Cx}{kx:Expr}{gens:List Comprehension}{scope:Scope}{pos:Pos}{d:Nat}{acc:Addr}{s:Shared}{Po hX:Shared->Prop}(h:yN X kx gens scope pos d acc s Po)(k:∀ s,Po s->hX s):yN X kx gens scope pos d acc s hX:=by
 unfold yN at h ⊢;split
 ·rename_i e;rw[e]at h;exact wpAny_mono h (fun x s₃ h₃=>wpAny_mono h₃ (fun _ s₅ h₅=>k s₅ h₅) fun _ _ z=>z) fun _ _ z=>z
 ·rename_i g e;rw[e]at h;refine wpAny_mono h (fun x s₄ h₄=>wpAny_mono h₄ (fun _ s₅ h₅=>codeAny_mono h₅ fun r s h=>?_) fun _ _ z=>z) fun _ _ z=>z
  cases r with
  | ok f=>exact k s h
  | error e=>exact h
theorem Xw {X:Cx}{R:Result->Shared->Prop}{s:Shared}{kx:Expr}{gens:List Comprehension}{scope:Scope}{pos:Pos}{d:Nat}{it:Value}{acc:Addr}{ab iter:Expr}(h0:gens[d]? = some ⟨ab,iter,[],0⟩)(h1:Plainly X.env gens d)(I:Nat->Shared->Prop)
  (aA:∀ n s,I n s->wpAny (model X.prog X.w) X.A (pyNext it) (fun r s₁=>match r with
   | none=>R (.ok .next) s₁
   | some v=>wpAny (model X.prog X.w) X.A (letOwnedTupleGo ab it v) (fun _ bC=>wpAny (model X.prog X.w) X.A (assign ab X.env v) (fun _ s₂ =>
     yN X kx gens scope pos d acc s₂ fun s₅=>∃ m,m<n∧I m s₅) (fun _ _=>False) bC) (fun _ _=>False) s₁) (fun _ _=>False) s)
  (n:Nat) (h:I n s):codeAny (model X.prog X.w) X.A (.compLoop (.SetComp kx gens scope pos) d it (.ref acc) X.env) R s:=by
 cases e:gens[d+1]? with
 | none =>
  refine jbd h0 e I (fun n s hI=>wpAny_mono (aA n s hI) (fun r s₁ h₁=>?_) fun _ _ z=>z) n h
  cases r with
  | none=>exact h₁
  | some v =>
   refine wpAny_mono h₁ (fun _ bC cf=>wpAny_mono cf (fun _ s₂ h₂=>?_) fun _ _ z=>z) fun _ _ z=>z;unfold yN at h₂;rw[e]at h₂;exact h₂
 | some g =>
  obtain⟨aZ,a8,ifs',ka⟩:=g;obtain⟨a,b,c⟩:=h1.h _ e;dsimp only at a b c;subst a;subst b;refine jcG h0 e c I (fun n s hI=>wpAny_mono (aA n s hI) (fun r s₁ h₁=>?_) fun _ _ z=>z) n h
  cases r with
  | none=>exact h₁
  | some v =>
   refine wpAny_mono h₁ (fun _ bC cf=>wpAny_mono cf (fun _ s₂ h₂=>?_) fun _ _ z=>z) fun _ _ z=>z;unfold yN at h₂;rw[e]at h₂;exact h₂
def Uc (X:Cx)(kx:Expr)(gens:List Comprehension)(scope:Scope)(pos:Pos)(d:Nat)(tb:TB):Prop :=
 ∀(acc:Addr) (aa:List (Addr×Obj)) (s:Shared) (σ:St) (H:Hp) (N:St->Hp->Prop),Inv X aa σ H s->tb acc σ H N->yN X kx gens scope pos d acc s fun s'=>∃ σ' H',Inv X aa σ' H' s'∧N σ' H'
def jcc (w:World)(J:It)(acc:Addr)(own:Nat)(js:List Nat)(g:TG)(tb:TB)(σ:St)(Q:VK)(H1:Hp):Prop :=
 ∃ W:Nat->Nat->St->Hp->Prop,(∃ m,W 0 m (yY own js σ) (upd H1 acc (yw w acc [])))∧∀ i m σ2 H2,W i m σ2 H2->(J.stop i H2∧Q (.ref acc) H2) ∨
  (J.go i H2∧∃ N:St->Hp->Prop,(∀ σ' H',N σ' H'->∃ m',m'<m∧W (i+1) m' σ' H')∧∀ x H3,J.yld i H2 x H3->g x σ2 H3 fun σ4 H4=>tb acc σ4 H4 N)
def jdu (w:World)(wi:TI)(own:Nat)(js:List Nat)(g:TG)(tb:TB):TE:=fun σ H Q=>wi σ H fun J H1=>∀ acc,H1 acc=none->jcc w J acc own js g tb σ Q H1
theorem jaU {X:Cx}{kx:Expr}{gens:List Comprehension}{scope:Scope}{pos:Pos}{d:Nat}{ab iter:Expr}{wi:TI}{g:TG}{tb:TB}(b6:X.xe=fun _ _=>False)(hc:X.calm=true)(h1:gens[d+1]? = some ⟨ab,iter,[],0⟩)(h2:Plainly X.env gens (d+1))(hi:PI X ab iter wi)(hg:PG X ab g)(hb:Uc X kx gens scope pos (d+1) tb):Uc X kx gens scope pos d (jdv wi g tb):=by
 intro acc aa s σ H N I h;unfold yN;rw[h1];have cq:=hi aa s σ H _ I h;rw[b6]at cq;refine thn cq fun v s1 j3=>thn j3 fun eS s2 j0=>?_;obtain⟨it,fp,tn,J,H2,e,I2,T,cH,f2,W,⟨m0,w0⟩,aA⟩:=j0;subst e
 have bt:∀{H':Hp},(∀ b∈fp,H' b=none)->∀ b∈fp,yS X aa H' b:=fun hn b hb=>⟨hn b hb,(f2 b hb).2⟩
 have aW:codeAny (model X.prog X.w) X.A (.compLoop (.SetComp kx gens scope pos) (d+1) (.ref it) (.ref acc) X.env) (fun r s₅=>match r with
    | .ok _=>∃ σ' H',Inv X aa σ' H' s₅∧N σ' H'
    | .error _=>False) s2:=by
  refine Xw h1 h2 (fun n s'=>∃ i σ' H',Inv X aa σ' H' s'∧tn i s'.heap∧(∀ b∈fp,H' b=none)∧W i n σ' H') ?_ m0 ⟨0,σ,H2,I2,cH,fun b hb=>(f2 b hb).1,w0⟩;rintro n s3 ⟨i,σ3,H3,I3,eR,eX,w3⟩
  rcases aA i n σ3 H3 w3 with⟨stop,qn⟩ | ⟨go,N',hN,step⟩
  ·refine thn (T.done X rfl rfl rfl hc i aa s3 σ3 H3 _ I3 (bt eX) eR stop) fun r s4 ae=>?_;obtain⟨hr,I4⟩:=ae;subst hr;exact⟨σ3,H3,I4,qn⟩
  ·refine thn (T.item X rfl rfl rfl hc i aa s3 σ3 H3 _ I3 (bt eX) eR go) fun r s4 ae=>?_;obtain⟨u,hr,h4⟩:=ae;subst hr;refine thn h4 fun _ s5 ae=>?_;obtain⟨x,H5,I5,r5,y5,bJ,cP⟩:=ae;have eZ:=I5.pinned (bt cP) (T.obj _ _ bJ);have gR:=hg _ s5 σ3 H5 x u _ eZ r5 (step x H5 y5);rw[b6]at gR;refine thn gR fun _ s6 ae=>?_;obtain⟨σ6,H6,I6,q6⟩:=ae;refine(hb acc _ s6 σ6 H6 N' I6 q6).mono fun s7 ae=>?_;obtain⟨σ7,H7,I7,n7⟩:=ae;obtain⟨m',hm,w7⟩:=hN σ7 H7 n7;refine⟨m',hm,i+1,σ7,H7,I7.unpinned,T.keep _ _ _ bJ fun b hb o e=>(I7.pin (b,o) (mem_append_right _ (mem_append_right _ (yp hb e)))).1,fun b hb=>?_,w7⟩;obtain⟨o,e,d⟩:=T.obj _ _ bJ b hb;exact(I7.pin (b,o) (mem_append_right _ (mem_append_right _ (yp hb e)))).2.1
 exact YV h1 aW fun E=>T.self _ 0 _ _ _ cH aW
theorem Got_val {h:Heap}{a:Addr}{v v':Nat->Nat}{i:Nat}{L:Bool}(g:Sml.Got h a v i L)(e:∀ j,j<i->v j=v' j):Sml.Got h a v' i L:=by
 obtain⟨es,S,m⟩:=g;refine⟨es,S,fun x=>(m x).trans ⟨fun⟨j,hj,q⟩=>⟨j,hj,by rw[q,e j hj]⟩,fun⟨j,hj,q⟩=>⟨j,hj,by rw[q,e j hj]⟩⟩⟩
theorem jiJ {prog:Program}{w:World}{A:Around}{E:Value->Shared->Prop}{s:Shared}{a:Addr}{val:Nat->Nat}{i:Nat}{L:Bool}{k:Tok}{Q:Value->Shared->Prop}(g:Sml.Got s.heap a val i L)(hv:val i<16)(h:∀ h',SameBut a s.heap h'->Sml.Got h' a val (i+1) L->Q .none { s with heap:=h',toks:=s.toks+1 }) :
  wpAny (model prog w) A (call (.builtin "set.add") [.ref a,.int (val i) k]) Q E s:=by
 have hT:s.TypeIs (.ref a) "set":=by
  obtain⟨es,⟨o,ep,t,p,ho,hx,_⟩,_⟩:=g;exact⟨o,ho,hx.1⟩
 refine wpAny_call_entry F.slot_set_add hT F.entry_set_add ?_ (F.args_set_add_2 _ _);unfold Builtin.«set.add» Builtin.Frozenset.oneOther;simp only[isEmpty_nil,bind_assoc];unfold Builtin.Frozenset.addrOf setAdd;refine wpAny_bind (wpAny_pure ?_)
 try dsimp only
 refine wpAny_bind (wpAny_pure ?_)
 try dsimp only
 refine wpAny_bind ?_;refine wpAny_holding ?_;refine wpAny_bind ((intKind prog w).pyHash (k:=(val i:Int)) (intKind_is _ _ _ _) ?_);refine Sml.add_got (s:={ s with toks:=s.toks+1 }) g hv fun b h' fC iA=>?_;show wpAny _ _ (ret Value.none) _ _ _;exact wpAny_pure ⟨_,rfl,h h' fC iA⟩
theorem jja {X:Cx}{aa:List (Addr×Obj)}{σ:St}{H:Hp}{s:Shared}{a:Addr}{A:Around}{E:Value->Shared->Prop}{ns:List Int}{n:Int}{r:Value}{Q:Value->Shared->Prop}(I:Inv X aa σ H s)(e:H a=some (yw X.w a ns))(h0:0<=n∧n<16)(rv:yi (.int n) r)(h:∀ s',Inv X aa σ (upd H a (yw X.w a (ns++[n]))) s'->Q .none s') :
  wpAny (model X.prog X.w) A (call (.builtin "set.add") [.ref a,r]) Q E s:=by
 obtain⟨t,rfl⟩:=rv
 obtain⟨p,_⟩:=(show yk X.prog X.w H s.heap a (yw X.w a ns)from I.hok a _ e)
 have p:Sml.Got s.heap a (uI ns) ns.length (!Sml.byT X.w):=p
 have hv:uI (ns++[n]) ns.length=n.toNat:=by
  unfold uI;rw[getD_eq_getElem?_getD,getElem?_append_right (le_refl _),Nat.sub_self];rfl
 have g:Sml.Got s.heap a (uI (ns++[n])) ns.length (!Sml.byT X.w):=Got_val p fun j hj=>by
  unfold uI;rw[getD_eq_getElem?_getD,getD_eq_getElem?_getD,getElem?_append_left hj]
 have hn:n=((uI (ns++[n]) ns.length:Nat):Int):=by rw[hv];omega
 have:=jiJ (prog:=X.prog) (w:=X.w) (A:=A) (E:=E) (s:=s) (k:=t) (Q:=Q) g (by rw[hv];omega) fun h' fC g'=>h _ ?_
 ·rw[<- hn]at this;exact this
 ·have g'':Sml.Got h' a (uI (ns++[n])) (ns++[n]).length (!Sml.byT X.w):=by
   rw[length_append];exact g'
  have ho:∃ o,h'.get? a=some o:=by
   obtain⟨es,⟨o,_,_,_,q,_⟩,_⟩:=g'';exact⟨o,q⟩
  exact I.write (x:=a) (e:=a) (t':=s.toks+1) (h':=h') (by rw[e];exact True.intro) (.inl rfl) (fun b z hb q=>(fC.2 b hb).trans q) ho (Uo g'')
def jiT (w:World)(tk:TE):TB:=fun acc σ H N=>tk σ H fun y H6=>∃ ns n,y = .int n∧(0<=n∧n<16)∧H6 acc=some (yw w acc ns)∧N σ (upd H6 acc (yw w acc (ns++[n])))
theorem jfe {X:Cx}{kx:Expr}{gens:List Comprehension}{scope:Scope}{pos:Pos}{d:Nat}{tk:TE}(b6:X.xe=fun _ _=>False)(h1:gens[d+1]? = none)(hk:PE X kx tk):Uc X kx gens scope pos d (jiT X.w tk):=by
 intro acc aa s σ H N I h;unfold yN;rw[h1];have hk':=hk aa s σ H _ I h;rw[b6]at hk';refine thn hk' fun y ie ae=>?_;obtain⟨ky,gm,h9,gv,ns,n,rfl,hn,ha,n11⟩:=ae
 exact jja h9 ha hn gv fun s12 I12=>⟨σ,_,I12,n11⟩
theorem new_set {prog:Program}{w:World}{A:Around}{E:Value->Shared->Prop}{s:Shared}{Q:Value->Shared->Prop}(h:Q (.ref s.heap.objs.size) { s with heap:=s.heap.push (Sml.set0 w) }):wpAny (model prog w) A (newSet (.type "set")) Q E s:=by
 unfold newSet;unfold setsByText;refine wpAny_bind (wpAny_bind (wpAny_askSetting (wpAny_pure ?_)));dsimp only;simp only[newObj];exact wpAny_bind (wpAny_alloc (wpAny_pure h))
section
variable {X:Cx}{aa:List (Addr×Obj)}{σ:St}{H:Hp}{s:Shared}{osc sc:Scope}{own fr:List Str}{js:List Nat}{fp:List Addr}
theorem jbJ {acc:Addr}{s':Shared}{σ':St}{H':Hp}{N':List Str}(I:Inv X aa σ H s)(aB:acc=s.heap.objs.size){tk:Nat}(hf:∀ b∈fp,yS X aa H b)
  (J:Inv (jQ X N' sc { s with heap:=s.heap.push (Sml.set0 X.w),toks:=tk } (upd H acc (yw X.w acc [])) fp) [] σ' H' s'):Inv X aa σ H' s':=by
 subst aB
 refine I.call' J.os ?_ J.hok J.bare fun b hb=>⟨(hf b hb).2.2.2.1,(hf b hb).2.1,(hf b hb).2.2.2.2.1,(hf b hb).2.2.2.2.2⟩
 exact Un.trans (Un.laid (o:=yw X.w s.heap.objs.size []) (fun b u e=>get?_push_of_some _ e) (le_refl _) (I.hok.fresh (le_refl _))) J.base
theorem jbI {kx ab iter:Expr}{rest:List Comprehension}{pos:Pos}{it:Addr}{tn:Nat->Heap->Prop}{J:It}{g:TG}{tb:TB}{Q:VK}{RR:Value->Addr->Result->Shared->Prop}{E:Value->Shared->Prop}
  (hc:X.calm=true) (ho:X.env.scope=osc) (S:CompScope osc sc own fr) (hj:js.map (fun j=>X.N[j]?)=fr.map some)
  (hg:∀ s₃ H₃ fp,PG (jQ X (own++fr) sc s₃ H₃ fp) ab g) (aX:∀ s₃ H₃ fp,Plainly (jQ X (own++fr) sc s₃ H₃ fp).env (⟨ab,iter,[],0⟩::rest) 0) (hb:∀ s₃ H₃ fp,Uc (jQ X (own++fr) sc s₃ H₃ fp) kx (⟨ab,iter,[],0⟩::rest) sc pos 0 tb)
  (I:Inv X aa σ H s) (T:Turn X.prog X.w X.K ab J fp it tn) (st:tn 0 s.heap) (hf:∀ b∈fp,yS X aa H b)
  (h:∀ acc,H acc=none->jcc X.w J acc own.length js g tb σ Q H)
  (fin:∀ acc C H' s',Inv X aa σ H' s'->yS X aa H' C->(∃ m,s'.heap.Ns C m)->Q (.ref acc) H'->RR (.ref acc) C (.ok .next) s') :
  wpAny (model X.prog X.w) X.A (newSet (.type "set")) (fun acc s₃=>wpAny (model X.prog X.w) X.A (newFunctionEnv sc X.env.globals (xG sc X.env) [] X.env.qual none .none (some X.env)) (fun cw s₄ =>
   codeAny (model X.prog X.w) X.A (.compStart (.SetComp kx (⟨ab,iter,[],0⟩::rest) sc pos) 0 (.ref it) acc { cw with scope:=relabel sc X.env }) (RR acc cw.locals) s₄) E s₃) E s:=by
 obtain⟨W,⟨m0,w0⟩,aA⟩:=h s.heap.objs.size (I.hok.fresh (le_refl _))
 have aU:∀ b∈fp,b<s.heap.objs.size:=fun b hb=>by
  obtain⟨o,e,_⟩:=T.obj _ _ st b hb;exact lt_size e
 refine new_set ?_;have I3:Inv X aa σ (upd H s.heap.objs.size (yw X.w s.heap.objs.size [])) { s with heap:=s.heap.push (Sml.set0 X.w) }:=I.laid (a:=s.heap.objs.size) (o:=yw X.w s.heap.objs.size []) (t':=s.toks) (fun _ _ q=>get?_push_of_some _ q) (le_refl _) (Uo (Sml.got0 (get?_push_size _ rfl) _))
 have f3:∀ b∈fp,yS X aa (upd H s.heap.objs.size (yw X.w s.heap.objs.size [])) b:=fun b hb=>⟨by rw[jk (ne_of_lt (aU b hb))];exact(hf b hb).1,(hf b hb).2⟩
 have cj:(s.heap.push (Sml.set0 X.w)).objs.size=s.heap.objs.size+1:=size_push ..;refine xI ?_;dsimp only
 obtain⟨h₁,e₁⟩:∃ h₁,h₁=pushCells ((s.heap.push (Sml.set0 X.w)).push { cls:=.type "dict",data:=.dict #[] }) sc.names:=⟨_,rfl⟩
 rw[<- e₁]
 have dB:h₁.Ns (s.heap.push (Sml.set0 X.w)).objs.size fun _=>none:=by
  rw[e₁];exact UE _ (Heap.Ns.new ..)
 have b4:∀ b o,(s.heap.push (Sml.set0 X.w)).get? b=some o->h₁.get? b=some o:=fun b o e=>by
  rw[e₁];exact pushCells_keeps _ _ _ _ (get?_push_of_some _ e)
 have dI:∀ x c,(cellsFrom ((s.heap.push (Sml.set0 X.w)).objs.size+1) sc.names (xG sc X.env)).lookup x=some c->∃ v,h₁.IsCell c v:=fun x c e=>by
  rw[e₁];refine JG sc.names _ (xG sc X.env) (fun y d q=>?_) (by rw[size_push];exact e);obtain⟨v,hv⟩:=I3.cell y d (ux I3 ho S q);exact⟨v,hv.keeps fun b o e=>get?_push_of_some _ e⟩
 have dm:∀ b∈fp,b<(s.heap.push (Sml.set0 X.w)).objs.size:=fun b hb=>by rw[cj];exact lt_succ_of_lt (aU b hb)
 have I4:=XD (own:=own) (fr:=fr) (js:=js) (tk:=s.toks) I3 ho S hj f3 dm dB b4 dI;have eQ:tn 0 h₁:=T.keep _ _ _ st fun b _ o e=>b4 b o (get?_push_of_some _ e)
 have dH:∀{H':Hp},(∀ b∈fp,H' b=none)->∀ b∈fp,yS (jQ X (own++fr) sc { s with heap:=s.heap.push (Sml.set0 X.w) } (upd H s.heap.objs.size (yw X.w s.heap.objs.size [])) fp) [] H' b:=fun hn b hb =>
  ⟨hn b hb,ne_of_lt (dm b hb),fun hm=>by
   rcases List.mem_cons.mp (I.stkSub b hm)with z | z
   ·exact(hf b hb).2.1 z
   ·exact(hf b hb).2.2.1 z,.inl hb,fun x c e=>(XX I3 ho S e).elim (fun z=>(hf b hb).2.2.2.2.1 x c z) (fun z=>ne_of_gt (lt_trans (dm b hb) z)),fun p hp=>absurd (show p∈([]:List (Addr×Obj))from hp) (by simp)⟩
 have aW:∀ s₃:Shared,s₃={ s with heap:=h₁ } ->
   codeAny (model X.prog X.w) X.A (.compLoop (.SetComp kx (⟨ab,iter,[],0⟩::rest) sc pos) 0 (.ref it) (.ref s.heap.objs.size) (compEnvC sc (cellsFrom ((s.heap.push (Sml.set0 X.w)).objs.size+1) sc.names (xG sc X.env)) (s.heap.push (Sml.set0 X.w)).objs.size X.env))
    (RR (.ref s.heap.objs.size) (s.heap.push (Sml.set0 X.w)).objs.size) s₃:=by
  rintro s₃ rfl
  refine Xw (X:=jQ X (own++fr) sc { s with heap:=s.heap.push (Sml.set0 X.w) } (upd H s.heap.objs.size (yw X.w s.heap.objs.size [])) fp) rfl (aX _ _ _) (fun n s'=>∃ i σ' H',Inv (jQ X (own++fr) sc { s with heap:=s.heap.push (Sml.set0 X.w) } (upd H s.heap.objs.size (yw X.w s.heap.objs.size [])) fp) [] σ' H' s'∧tn i s'.heap∧(∀ b∈fp,H' b=none)∧W i n σ' H')
   ?_ m0 ⟨0,_,_,I4,eQ,fun b hb=>(f3 b hb).1,w0⟩
  rintro n s5 ⟨i,σ5,H5,I5,bJ,cP,w5⟩;have cV:(jQ X (own++fr) sc { s with heap:=s.heap.push (Sml.set0 X.w) } (upd H s.heap.objs.size (yw X.w s.heap.objs.size [])) fp).calm=true:=hc
  rcases aA i n σ5 H5 w5 with⟨stop,qn⟩ | ⟨go,N,hN,step⟩
  ·refine thn (T.done (jQ X (own++fr) sc { s with heap:=s.heap.push (Sml.set0 X.w) } (upd H s.heap.objs.size (yw X.w s.heap.objs.size [])) fp) rfl rfl rfl cV i [] s5 _ H5 _ I5 (dH cP) bJ stop) fun r s6 ae=>?_;obtain⟨hr,I6⟩:=ae;subst hr;have B:=jbJ I rfl (tk:=s.toks) hf I6;refine fin _ _ _ s6 B ?_ ?_ qn
   ·refine I.fpOk ?_ I6.free;show s.heap.objs.size<=(s.heap.push (Sml.set0 X.w)).objs.size;rw[cj];exact le_succ _
   ·obtain⟨m,hm,_⟩:=I6.loc;exact⟨m,hm⟩
  ·refine thn (T.item (jQ X (own++fr) sc { s with heap:=s.heap.push (Sml.set0 X.w) } (upd H s.heap.objs.size (yw X.w s.heap.objs.size [])) fp) rfl rfl rfl cV i [] s5 _ H5 _ I5 (dH cP) bJ go) fun r s6 ae=>?_;obtain⟨u,hr,h6⟩:=ae;subst hr;refine thn h6 fun _ s7 ae=>?_;obtain⟨x,H7,I7,r7,y7,df,g7⟩:=ae;have hZ:=I7.pinned (dH g7) (T.obj _ _ df);refine thn (hg _ _ _ _ s7 _ H7 x u _ hZ r7 (step x H7 y7)) fun _ s8 ae=>?_;obtain⟨σ8,H8,I8,q8⟩:=ae;refine(hb _ _ _ _ _ s8 σ8 H8 N I8 q8).mono fun s9 ae=>?_;obtain⟨σ9,H9,I9,n9⟩:=ae;obtain⟨m',hm,w9⟩:=hN σ9 H9 n9;refine⟨m',hm,i+1,σ9,H9,I9.unpinned,T.keep _ _ _ df fun b hb o e=>(I9.pin (b,o) (mem_append_right _ (mem_append_right _ (yp hb e)))).1,fun b hb=>?_,w9⟩;obtain⟨o,e,d⟩:=T.obj _ _ df b hb;exact(I9.pin (b,o) (mem_append_right _ (mem_append_right _ (yp hb e)))).2.1
 exact YV rfl (aW _ rfl) fun E=>T.self _ 0 _ _ _ eQ (aW _ rfl)
end
section
variable {X:Cx}{osc sc:Scope}{own fr:List Str}{js:List Nat}{kx ab iter:Expr}{rest:List Comprehension}{pos:Pos}{wi:TI}{g:TG}{tb:TB}
theorem jfi (hc:X.calm=true)(ho:X.env.scope=osc)(S:CompScope osc sc own fr)(hj:js.map (fun j=>X.N[j]?)=fr.map some)(hi:PI X ab iter wi)
  (hg:∀ s₃ H₃ fp,PG (jQ X (own++fr) sc s₃ H₃ fp) ab g) (aX:∀ s₃ H₃ fp,Plainly (jQ X (own++fr) sc s₃ H₃ fp).env (⟨ab,iter,[],0⟩::rest) 0) (hb:∀ s₃ H₃ fp,Uc (jQ X (own++fr) sc s₃ H₃ fp) kx (⟨ab,iter,[],0⟩::rest) sc pos 0 tb)
  (hs:∀ x,foldedSetIterable iter X.env x=pure x:=by intro _;rfl):PE X (.SetComp kx (⟨ab,iter,[],0⟩::rest) sc pos) (jdu X.w wi own.length js g tb):=by
 intro aa s σ H Q I h;rw[arm_eval_SetComp];refine wpAny_comprehension_free (use:=none) rfl hs (vL (jbM I ho S)) S.kind S.loc (thn (hi aa s σ H _ I h) fun v s1 h1=>thn h1 fun eS s2 h2=>?_);obtain⟨it,fp,tn,J,H2,e,I2,T,cH,f2,q2⟩:=h2;subst e;refine jbI (RR:=fun acc C=>compPost (model X.prog X.w) X.A X.xe none (EP X aa σ Q) acc C) hc ho S hj hg aX hb I2 T cH f2 q2 fun acc C H' s' J hC hn q=>?_;obtain⟨m,hm⟩:=hn;refine⟨m,hm,fun h' ck=>⟨.ref acc,H',?_,rfl,q⟩⟩;obtain⟨f0,f1,j5,f3,f4,f5⟩:=hC;exact J.turned (t':=s'.toks) (fun b o hb e=>ck.extBut b o hb e) f0 f1 f3 f4 f5
end
end L2
namespace L3
open PySem L2
abbrev EMS:=En->Sto->Res (List Int)
def jcS (dv:DE):EMS:=fun ρ M=>(dv ρ M).noX.bind fun y M1=>match y with
 | .int n=>if 0<=n∧n<16 then .ok [n] M1 else .bad
 | _=>.bad
def uK (p:ItP)(g:DG)(em:EMS)(ρ:En):Nat->Nat->Sto->Res (List Int)
 | 0,_,_=>.bad
 | n+1,k,M=>match nxt p M k with
  | none=>.bad
  | some none=>.ok [] M
  | some (some x)=>match g x ρ with
   | none=>.bad
   | some ρ'=>(em ρ' M).noX.bind fun ys M2=>(uK p g em ρ n (k+1) M2).noX.bind fun zs M3=>.ok (ys++zs) M3
def jif (g:DG)(di:En->Sto->Res ItP)(em:EMS):EMS:=fun ρ M=>(di ρ M).noX.bind fun p M1=>uK p g em ρ (yj p M1) 0 M1
def Yj (di:En->Sto->Res ItP)(g:DG)(own:Nat)(js:List Nat)(em:EMS):DE:=fun ρ M=>(di ρ M).bind fun p M1=>(uK p g em (replicate own none++rest js ρ) (yj p M1) 0 M1).noX.bind fun ys M2=>if vW ys=true then .ok (.lst ((yr ys).map PV.int)) M2 else .bad
def jiM (w:World)(W:Wd)(acc:Addr)(ρ:En)(l:List Int)(N:St->Hp->Prop)(r:Res (List Int)):Prop:=match r with
 | .ok zs M'=>∀ W' σ' H',W.le0 W'->W'.G=L2.upd W.G acc (yw w acc (l++zs))->Held W' M' H'->yl W' ρ σ'->N σ' H'
 | _=>False
def lfS (w:World)(T:Tb)(own d:Nat)(em:EMS):TB:=fun acc σ H N=>∃ W ρ M l,W.T=T∧Held W M H∧yl W ρ σ∧W.G acc=some (yw w acc l)∧(∀ j,d<j->j<own->ρ[j]? = some none)∧jiM w W acc ρ l N (em ρ M)
structure QMS (X:Cx)(T:Tb)(own:Nat)(kx:Expr)(gens:List Comprehension)(sc:Scope)(pos:Pos)(d e:Nat)(em:EMS):Prop where
 h:Uc X kx gens sc pos d (lfS X.w T own e em)
def uN (g:DG)(own i e:Nat):Prop:=∀(x:PV) (ρ ρ':En),g x ρ=some ρ'->(∀ j,i<=j->j<own->ρ[j]? = some none)->(∀(W:Wd) (σ:St),yl W ρ' σ->yl W ρ σ)∧∀ j,e<j->j<own->ρ'[j]? = some none
theorem Jf {own i:Nat}(hi:i<own):uN (gN i) own i i:=fun x ρ ρ' h hn=>by
 cases h;refine⟨fun W σ s=>vD (hn i (le_refl _) hi) s,fun j h1 h2=>?_⟩;rw[getElem?_set_ne (by omega)];exact hn j (by omega) h2
theorem jdq {own i:Nat}(hi:i+1<own):uN (gT 2 (xN (gN i) (xN (gN (i+1)) VJ))) own i (i+1):=fun x ρ ρ' h hn=>by
 unfold gT at h;split at h
 rotate_left
 ·cases h
 rename_i xs;split at h
 rotate_left
 ·cases h
 rename_i hl
 match xs,hl with
 | [a,b],_ =>
  cases h
  have h1:(ρ.set i (some a))[i+1]? = some none:=by
   rw[getElem?_set_ne (by omega)];exact hn _ (le_succ _) hi
  refine⟨fun W σ s=>vD (hn i (le_refl _) (by omega)) (vD h1 s),fun j h1 h2=>?_⟩;rw[getElem?_set_ne (by omega),getElem?_set_ne (by omega)];exact hn j (by omega) h2
theorem jdy {w:World}{a:Addr}{ns:List Int}:∀ vs,yw w a ns≠.tup vs:=fun vs z=>by
 unfold yw at z;cases z
section
variable {X:Cx}{T:Tb}{ES:St->XK}{own d:Nat}{kx ab iter:Expr}{gens:List Comprehension}{sc:Scope}{pos:Pos}{di:En->Sto->Res ItP}{em:EMS}{dv:DE}{w:World}
theorem jaO {e:Nat}(b6:X.xe=fun _ _=>False)(h1:gens[d+1]? = none)(hv:QE X T ES0 kx dv):QMS X T own kx gens sc pos d e (jcS dv):=by
 refine⟨fun acc aa s σ H N I hQ=>jfe b6 h1 hv.h acc aa s σ H N I ?_⟩;obtain⟨W,ρ,M,l,k,hh,hs,ga,hN,f⟩:=hQ;refine⟨W,ρ,M,k,hh,hs,?_⟩;unfold jcS at f
 cases e2:dv ρ M with
 | bad=>rw[e2]at f;exact f.elim
 | exc _ _=>rw[e2]at f;exact f.elim
 | ok y M2 =>
  rw[e2]at f;intro W5 H5 u l5 h5 r5
  obtain⟨n,rfl⟩:∃ n,y = .int n:=by
   cases y with
   | int n=>exact⟨n,rfl⟩
   | _=>exact f.elim
  have f:jiM X.w W acc ρ l N (if 0<=n∧n<16 then .ok [n] M2 else .bad):=f
  by_cases hn:0<=n∧n<16
  rotate_left
  ·rw[if_neg hn]at f;exact f.elim
  rw[if_pos hn]at f;cases (show u = .int n from r5)
  have ga5:W5.G acc=some (yw X.w acc l):=by rw[l5.g];exact ga
  refine⟨l,n,rfl,hn,(h5.gd _ _ ga5).1,?_⟩;refine f (W5.gd acc (yw X.w acc (l++[n]))) σ _ (l5.toLe0.trans Wd.le0_gd) ?_ (h5.reguardO jdy ga5) ((hs.up l5).up0 Wd.le0_gd);show L2.upd W5.G acc _=L2.upd W.G acc _;rw[l5.g]
theorem jgc {W0:Wd}{it:ItP}{J:It}{acc:Addr}{ρ:En}{l:List Int}{N:St->Hp->Prop}{g:DG}{i0 e0:Nat}{M0:Sto}{σ:St}{H0:Hp}{tb:TB}(k0:W0.T=T)(ri:RI W0 it J)(g0:W0.G acc=some (yw w acc l))(un:uN g own i0 e0)(hn:∀ j,i0<=j->j<own->ρ[j]? = some none)(h0:Held W0 M0 H0)(hs:yl W0 ρ σ)
  (f:jiM w W0 acc ρ l N (uK it g em ρ (yj it M0) 0 M0))
  (body:∀(W:Wd) (M:Sto) (ρ':En) (l':List Int) (N':St->Hp->Prop) (σ4:St) (H4:Hp),W.T=T->Held W M H4->yl W ρ' σ4->(∀ j,e0<j->j<own->ρ'[j]? = some none)->W.G acc=some (yw w acc l')->jiM w W acc ρ' l' N' (em ρ' M)->tb acc σ4 H4 N') :
  ∃ Wk:Nat->Nat->St->Hp->Prop,(∃ m,Wk 0 m σ H0)∧∀ i m σ2 H2,Wk i m σ2 H2->(J.stop i H2∧N σ2 H2) ∨
   (J.go i H2∧∃ N':St->Hp->Prop,(∀ σ' H',N' σ' H'->∃ m',m'<m∧Wk (i+1) m' σ' H')∧∀ v H3,J.yld i H2 v H3->jhB T g v σ2 H3 fun σ4 H4=>tb acc σ4 H4 N'):=by
 let eY:Nat->Nat->St->Hp->Prop:=fun i m σ2 H2=>∃ W1 M1 ys,W0.le0 W1∧W1.G=L2.upd W0.G acc (yw w acc (l++ys))∧Held W1 M1 H2∧yl W1 ρ σ2∧(match uK it g em ρ m i M1 with
  | .ok zs M'=>∀ W' σ' H',W0.le0 W'->W'.G=L2.upd W0.G acc (yw w acc (l++(ys++zs)))->Held W' M' H'->yl W' ρ σ'->N σ' H'
  | _=>False)
 refine⟨eY,⟨yj it M0,W0,M0,[],(Wd.le.refl W0).toLe0,by rw[append_nil];exact(jce g0).symm,h0,hs,?_⟩,?_⟩
 ·cases e:uK it g em ρ (yj it M0) 0 M0 with
  | bad=>rw[e]at f;exact f.elim
  | exc _ _=>rw[e]at f;exact f.elim
  | ok zs M' =>
   rw[e]at f;exact fun W' σ' H' le g h s=>f W' σ' H' le g h s
 intro i m σ2 H2 hI;obtain⟨W1,M1,ys,bK,g1,h1,s1,f1⟩:=hI;have k1:W1.T=T:=bK.k.trans k0
 cases m with
 | zero=>exact f1.elim
 | succ m =>
  unfold uK at f1;obtain⟨bZ,a6⟩:=ri W1 M1 H2 bK h1 i;split at f1
  rotate_left
  ·exact f1.elim
  rename_i zs M' ef;split at ef
  ·cases ef
  ·rename_i en;cases ef;exact .inl ⟨a6 en,f1 W1 σ2 H2 bK (by rw[append_nil];exact g1) h1 s1⟩
  ·rename_i x en;obtain⟨go,yld⟩:=bZ x en;refine .inr ⟨go,eY (i+1) m,fun σ' H' q=>⟨m,lt_succ_self _,q⟩,fun v H3 hy=>?_⟩;obtain⟨W2,l2,h2,r2⟩:=yld v H3 hy
   have ga:W2.G acc=some (yw w acc (l++ys)):=by rw[l2.g,g1,jr]
   cases eg:g x ρ with
   | none=>rw[eg]at ef;cases ef
   | some ρ' =>
   rw[eg]at ef;have ef:((em ρ' M1).noX.bind fun ys M2=>(uK it g em ρ m (i+1) M2).noX.bind fun zs M3=>Res.ok (ys++zs) M3) = .ok zs M':=ef;obtain⟨jiC,fr⟩:=un x ρ ρ' eg hn;refine⟨W2,ρ,M1,x,ρ',l2.k.trans k1,h2,s1.up l2,r2,eg,fun σ4 s4=>?_⟩;refine body W2 M1 ρ' (l++ys) _ σ4 H3 (l2.k.trans k1) h2 s4 fr ga ?_
   cases e1:em ρ' M1 with
   | bad=>rw[e1]at ef;cases ef
   | exc _ _=>rw[e1]at ef;cases ef
   | ok eP M2 =>
    rw[e1]at ef;have ef:((uK it g em ρ m (i+1) M2).noX.bind fun zs M3=>Res.ok (eP++zs) M3) = .ok zs M':=ef
    cases e2:uK it g em ρ m (i+1) M2 with
    | bad=>rw[e2]at ef;cases ef
    | exc _ _=>rw[e2]at ef;cases ef
    | ok zs1 M3 =>
     rw[e2]at ef;cases ef;intro W' σ' H' le gg h s;refine⟨W',M2,ys++eP,(bK.trans l2.toLe0).trans le,?_,h,jiC W' σ' s,?_⟩
     ·rw[gg,l2.g,g1,vB,append_assoc]
     ·rw[e2];exact fun W' σ' H' le g h s=>f1 W' σ' H' le (by rw[<- append_assoc ys];exact g) h s
theorem jcp {e i e':Nat}{g:DG}(b6:X.xe=fun _ _=>False)(hc:X.calm=true)(h1:gens[d+1]? = some ⟨ab,iter,[],0⟩)(h2:Plainly X.env gens (d+1))(hi:QI X T ES0 ab iter di)(hg:QG X T ab g)(un:uN g own i e')(hei:e<i)(hb:QMS X T own kx gens sc pos (d+1) e' em):QMS X T own kx gens sc pos d e (jif g di em):=by
 refine⟨fun acc aa s σ H N I hQ=>jaU b6 hc h1 h2 hi.h hg.h hb.h acc aa s σ H N I ?_⟩;obtain⟨W,ρ,M,l,k,hh,hs,ga,hN,f⟩:=hQ;refine⟨W,ρ,M,k,hh,hs,?_⟩;unfold jif at f
 cases e:di ρ M with
 | bad=>rw[e]at f;exact f.elim
 | exc _ _=>rw[e]at f;exact f.elim
 | ok it M0 =>
  rw[e]at f;have f:jiM X.w W acc ρ l N (uK it g em ρ (yj it M0) 0 M0):=f;intro W0 H0 J l0 h0 ri
  have g0:W0.G acc=some (yw X.w acc l):=by rw[l0.g];exact ga
  refine jgc (T:=T) (em:=em) (M0:=M0) (l0.k.trans k) ri g0 un (fun j h1 h2=>hN j (by omega) h2) h0 (hs.up l0) ?_ ?_
  ·cases e2:uK it g em ρ (yj it M0) 0 M0 with
   | bad=>rw[e2]at f;exact f.elim
   | exc _ _=>rw[e2]at f;exact f.elim
   | ok zs M' =>
    rw[e2]at f;exact fun W' σ' H' le g h s=>f W' σ' H' (l0.toLe0.trans le) (by rw[g,l0.g]) h s
  ·intro W1 M1 ρ' us N' σ4 H4 k1 h1 s1 fr g1 f1;exact⟨W1,ρ',M1,us,k1,h1,s1,g1,fr,f1⟩
theorem jcW {js:List Nat}{σ:St}{H:Hp}{Q:VK}{g:DG}{e:Nat}(un:uN g own 0 e)(h:lft T Rep ES (Yj di g own js em) σ H Q) :
  jdu w (lft T RI ES di) own js (jhB T g) (lfS w T own e em) σ H fun x H1=>∃(p:Addr) (ns:List Int),[x]=[.ref p]∧H1 p=some (yw w p ns)∧(∀ n∈ns,0<=n∧n<16)∧∀ l:Addr,H1 l=none->Q (.ref l) (L2.upd H1 l (.lst ((yr ns).map V.int))):=by
 obtain⟨W,ρ,M,k,hh,hs,p⟩:=h;refine⟨W,ρ,M,k,hh,hs,yg.bind p fun W0 M0 it J H0 l0 h0 ri p0=>fun acc aB=>?_⟩;have k0:W0.T=T:=l0.k.trans k;have fY:=hs.up l0
 have cW:W0.G acc=none:=by
  cases q:W0.G acc with
  | none=>rfl
  | some o =>
   rw[(h0.gd acc o q).1]at aB;cases aB
 have p0:yg W0 Rep ((uK it g em (replicate own none++rest js ρ) (yj it M0) 0 M0).noX.bind fun ys M2=>if vW ys=true then .ok (.lst ((yr ys).map PV.int)) M2 else .bad) Q (ES σ):=p0
 cases e:uK it g em (replicate own none++rest js ρ) (yj it M0) 0 M0 with
 | bad=>rw[e]at p0;exact p0.elim
 | exc _ _=>rw[e]at p0;exact p0.elim
 | ok zs M' =>
 rw[e]at p0;have p0:yg W0 Rep (if vW zs=true then .ok (.lst ((yr zs).map PV.int)) M' else .bad) Q (ES σ):=p0
 by_cases hz:vW zs=true
 rotate_left
 ·rw[if_neg hz]at p0;exact p0.elim
 rw[if_pos hz]at p0;have p0:∀ W' H' v,W0.le W'->Held W' M' H'->Rep W' (.lst ((yr zs).map PV.int)) v->Q v H':=p0
 have hn:∀ j,0<=j->j<own->(replicate own none++rest js ρ)[j]? = some none:=fun j _ hj=>by
  rw[getElem?_append_left (by simpa using hj),getElem?_replicate,if_pos hj]
 have gn:(W0.gd acc (yw w acc [])).G acc=some (yw w acc []):=jr;refine jgc (T:=T) (em:=em) (M0:=M0) (W0:=W0.gd acc (yw w acc [])) (l:=[]) (N:=fun _ H1=>∃(p:Addr) (ns:List Int),[V.ref acc]=[.ref p]∧H1 p=some (yw w p ns)∧(∀ n∈ns,0<=n∧n<16)∧∀ l:Addr,H1 l=none->Q (.ref l) (L2.upd H1 l (.lst ((yr ns).map V.int)))) (ρ:=replicate own none++rest js ρ) k0 (fun W' M' H' le=>ri W' M' H' (Wd.le0_gd.trans le)) gn un hn (h0.guardO jdy aB) ((Vv own fY).up0 Wd.le0_gd) ?_ ?_
 ·rw[e];intro W' σ' H' le gg h s
  have g':W'.G=L2.upd W0.G acc (yw w acc zs):=by
   rw[gg];show L2.upd (L2.upd W0.G acc (yw w acc [])) acc _=_;rw[vB];rfl
  have gb:W'.G acc=some (yw w acc zs):=by rw[g',jr]
  obtain⟨ha,_,_⟩:=h.gd acc _ gb
  obtain⟨l2,h2⟩:=h.unguard (G0:=W0.G) gb fun b u q=>by
   have z:b≠acc:=fun z=>by rw[z,cW]at q;cases q
   refine⟨?_,z⟩;rw[g',jk z];exact q
  refine⟨acc,zs,rfl,ha,JP hz,fun l hl=>?_⟩;obtain⟨l3,h3,f3⟩:=h2.frz (o:=.lst ((yr zs).map V.int)) hl
  have l4:W0.le (W'.out W0.G acc (yw w acc zs)):=⟨(Wd.le0_gd.trans le).trans l2,rfl⟩
  exact p0 _ _ (.ref l) (l4.trans l3) h3 ⟨l,_,rfl,f3,yc.ints.mpr rfl⟩
 ·intro W1 M1 ρ' us N' σ4 H4 k1 h1 s1 fr g1 f1;exact⟨W1,ρ',M1,us,k1,h1,s1,g1,fr,f1⟩
end
section
variable {X:Cx}{T:Tb}{ES:St->XK}{osc sc:Scope}{own fr:List Str}{js:List Nat}{kx ab iter:Expr}{rest:List Comprehension}{pos p eJ:Pos}{di:En->Sto->Res ItP}{em:EMS}{g:DG}{e:Nat}
theorem jaQ (un:uN g own.length 0 e)(hc:X.calm=true)(ho:X.env.scope=osc)(S:CompScope osc sc own fr)(hj:js.map (fun j=>X.N[j]?)=fr.map some)(hgl:Gl X "sorted")(hm:X.mg "sorted" = none)(hv:bootBuiltins "sorted" = some (.builtin "sorted"))(hi:QI X T ES ab iter di)
  (hg:∀ s₃ H₃ fp,QG (jQ X (own++fr) sc s₃ H₃ fp) T ab g) (aX:∀ s₃ H₃ fp,Plainly (jQ X (own++fr) sc s₃ H₃ fp).env (⟨ab,iter,[],0⟩::rest) 0) (hb:∀ s₃ H₃ fp,QMS (jQ X (own++fr) sc s₃ H₃ fp) T own.length kx (⟨ab,iter,[],0⟩::rest) sc pos 0 e em)
  (hs:∀ x,foldedSetIterable iter X.env x=pure x:=by intro _;rfl) (bc:starEach [.SetComp kx (⟨ab,iter,[],0⟩::rest) sc pos] X.env=[(false,eval (.SetComp kx (⟨ab,iter,[],0⟩::rest) sc pos) X.env)]:=by rfl) :
  QE X T ES (.Call (.Name "sorted" p) [.SetComp kx (⟨ab,iter,[],0⟩::rest) sc pos] [] eJ) (Yj di g own.length js em) :=
 ⟨jN (Xr (JH hc) hgl hm hv (YO (jfi hc ho S hj hi.h (fun a b c=>(hg a b c).h) aX (fun a b c=>(hb a b c).h) hs) UD (by rw[bc];rfl)) (by decide) (by decide) (by rw[bc];rfl) (by rfl)) fun σ H Q ae=>jcW un ae⟩
end
end L3
namespace L2
open PySem PySem.Spec PyProof.Rows
theorem key_ofS {X:Cx}{aa:List (Addr×Obj)}{σ:St}{H:Hp}{s:Shared}{b:Addr}{ks:List Key}(I:Inv X aa σ H s)(e:SqT X.K H b (ks.map kV)):(tupleKind (ye X.prog X.w)).is s.heap ks b:=by
 obtain⟨its,r,⟨o,h1,h2,n,h3⟩,_⟩:=I.tuple e;exact⟨o,its.toArray,n,h1,h2,h3,by simpa using Yb r⟩
def jgh (K:Frag)(neg:Bool)(ty td:TE):TE:=fun σ H Q=>ty σ H fun y H1=>td σ H1 fun x H2=>∃ a kvs k b,x = .ref a∧y = .ref b∧H2 a=some (.dT kvs)∧SqT K H2 b (k.map kV)∧Q (.bl (if neg then !(yT kvs k).isSome else(yT kvs k).isSome)) H2
section
variable {X:Cx}{o i:Expr}{td ty:TE}
theorem jcy (hu:X.A.units+1<cLine)(hi:PE X i ty)(ho:PE X o td):PC X .NotIn i o (jgh X.K true ty td):=by
 intro aa s σ H Q I h;refine thn (hi aa s σ H _ I h) fun iv s1 ⟨y,H1,I1,ry,q1⟩=>thn (ho aa s1 σ H1 _ I1 q1) fun u s2 ae=>?_;obtain⟨x,H2,I2,rx,a,kvs,k,b,rfl,rfl,ha,hb,q2⟩:=ae;obtain rfl:u=Value.ref a:=rx;cases (show iv=Value.ref b from ry);obtain⟨z,hd,xs,rel,dd⟩:=jbw I2.hok (.inl ha);refine wpAny_notIn_heap (tupleKind_room_in1 hu) (key_ofS I2 hb) hd dd ?_;have q:=(rel.val k).isSome_eq;rw[isSome_map]at q;rw[<- q];exact⟨.bl _,H2,I2.tok _,rfl,q2⟩
end
end L2
namespace L3
open PySem L2
theorem Held.freezeU {W:Wd}{M:Sto}{H:Hp}{i:Nat}{a:Addr}{c0:Cell}{v:HO}(h:Held W M H)(e:M.g i=some c0)(ea:W.α i=some a)(o:Obj) :
  W.le (W.frz a (.frz o v))∧Held (W.frz a (.frz o v)) (M.drop i) (L2.upd H a (.frz o v)):=by
 obtain⟨b,u,g1,g2,g3,g4⟩:=h.m i _ e;rw[ea]at g1;cases g1;have le:=Wd.le_frz (o:=.frz o v) g2;have hd:=h.drop i;refine⟨le,⟨fun b u q=>?_,fun j c q=>?_,fun j k b c1 c2 q1 q2 e1 e2=>hd.inj j k b c1 c2 q1 q2 e1 e2,h.top,fun b u q=>?_,h.gl⟩⟩
 ·have q:L2.upd W.F a (.frz o v) b=some u:=q
  by_cases z:b=a
  ·subst z;rw[jr]at q ⊢;exact q
  ·rw[jk z]at q ⊢;exact h.f b u q
 ·have q:(if j=i then none else M.g j)=some c:=q
  by_cases z:j=i
  ·rw[if_pos z]at q;cases q
  ·rw[if_neg z]at q;obtain⟨b,u',h1,h2,h3,h4⟩:=h.m j c q;have nb:b≠a:=fun zz=>z (h.inj j i a c _ q e (zz ▸ h1) ea);refine⟨b,u',h1,?_,by rw[jk nb];exact h3,h4.up le⟩;show L2.upd W.F a _ b=none;rw[jk nb];exact h2
 ·obtain⟨h1,h2,h3⟩:=hd.gd b u q;have nb:b≠a:=fun z:b=a=>(h.gd b u q).2.2 i _ e (z ▸ ea);refine⟨by rw[jk nb];exact h1,?_,h3⟩;show L2.upd W.F a _ b=none;rw[jk nb];exact h2
def jhG (neg:Bool)(M:Sto)(y o:PV):Option PV:=match y with
 | .tup ks=>inTv neg M ks o
 | _=>none
def UX (neg:Bool)(dy do_:DE):DE:=fun ρ M=>(dy ρ M).bind fun y M1=>(do_ ρ M1).bind fun o M2=>match jhG neg M2 y o with
 | some z=>.ok z M2
 | none=>.bad
def jgw (i:Nat)(dk:DA)(d do_:DE):DS:=fun ρ M=>(dk ρ M).st ρ fun ks M0=>if ks.length<=sizeLine∧i < ρ.length then(d (ρ.set i (some (.tup ks))) M0).st (ρ.set i (some (.tup ks))) fun x M1=>(do_ (ρ.set i (some (.tup ks))) M1).st (ρ.set i (some (.tup ks))) fun o M2=>(match vg M2 o ks x with
 | some M4=>.nx (ρ.set i (some (.tup ks))) M4
 | none=>.bad)else .bad
section
variable {X:Cx}{T:Tb}{ES:St->XK}{e o y:Expr}{d do_ dy:DE}{dk:DA}{pos:Pos}
theorem sqt_up {K K':Frag}{F H:Hp}{b:Addr}{xs:List V}(e:K=K')(h:SqT K F b xs)(f:∀ a o,F a=some o->H a=some o):SqT K' H b xs:=by
 subst e
 rcases h with(h | ⟨o,h⟩) | h
 ·exact .inl (.inl (f _ _ h))
 ·exact .inl (.inr ⟨o,f _ _ h⟩)
 ·exact .inr h
theorem jcM {neg:Bool}{σ:St}{H:Hp}{Q:VK}(hT:T.K=X.K)(h:lft T Rep ES (UX neg dy do_) σ H Q):jgh X.K neg (lft T Rep ES dy) (lft T Rep ES do_) σ H Q:=by
 refine jC h fun W ρ M k hh hs q=>⟨W,ρ,M,k,hh,hs,yg.bind q fun W1 M1 yy yv H1 l1 h1 r1 q1=>⟨W1,ρ,M1,l1.k.trans k,h1,hs.up l1,yg.bind q1 fun W2 M2 o' ov H2 l2 h2 r2 q2=>?_⟩⟩
 split at q2
 rotate_left
 ·exact q2.elim
 rename_i z e4;unfold jhG at e4;split at e4
 rotate_left
 ·cases e4
 rename_i ks;unfold inTv at e4;split at e4
 rotate_left
 ·cases e4
 rename_i i;split at e4
 rotate_left
 ·cases e4
 rename_i l e5;split at e4
 rotate_left
 ·cases e4
 rename_i ns e6;split at e4
 rotate_left
 ·cases e4
 cases e4;have ek:=xq e6;subst ek;obtain⟨b,kv,rfl,hb,rk⟩:=r1.up l2;have ev:kv=ns.map V.int:=yc.ints.mp rk;subst ev;obtain⟨a,rfl,ea⟩:=r2;obtain⟨b',ob,g1,g2,g3,vs,rfl,ra⟩:=h2.m i _ e5;rw[ea]at g1;cases g1
 have kT:W2.T.K=X.K:=by rw[l2.k,l1.k,k,hT]
 refine⟨a,vs,xw ns,b,rfl,rfl,g3,by rw[xS];exact sqt_up kT hb.toT fun a o e=>h2.f a o e,?_⟩
 have hv:(yT vs (xw ns)).isSome=(xb l ns).isSome:=by
  rcases ra.get yX ns with⟨a1,a2⟩ | ⟨x,v,a1,a2,_⟩
  ·rw[a1,a2];rfl
  ·rw[a1,a2];rfl
 rw[hv];exact q2 W2 H2 _ (.refl W2) h2 rfl
theorem jaN (hT:T.K=X.K)(hu:X.A.units+1<cLine)(hy:QE X T ES y dy)(ho:QE X T ES o do_)(hm:behindInMarks .NotIn o=false):QT X T ES (.Compare y [.NotIn] [o] pos) (yq (UX true dy do_)) :=
 ⟨Ux (jgR (jcy hu hy.h ho.h) hm) fun σ H Q ae=>jC ae fun W ρ M k hh hs p=>show jgh X.K true _ _ σ H (fun v H'=>∃ b,v=V.bl b∧Q b H')from jcM (Q:=fun v H'=>∃ b,v=V.bl b∧Q b H') (neg:=true) (dy:=dy) (do_:=do_) (T:=T) (ES:=ES) hT ⟨W,ρ,M,k,hh,hs,yg.bind (R1:=Rep) p fun W1 M1 x v H1 l1 h1 r1 p1=>by
  cases x with
  | bl b=>exact⟨b,r1,p1 W1 H1 b (.refl W1) h1 rfl⟩
  | _=>exact p1.elim⟩⟩
theorem jck {α:Type}{r:Res α}{ρ:En}{k:α->Sto->RS}{d2:DS}:(r.st ρ k).then d2=r.st ρ fun a M=>(k a M).then d2:=by
 cases r <;> rfl
theorem qss_row {i:Nat}{x:Str}{es:List Expr}{x1:Nat}{kp px pn p2 eJ cR:Pos}{rest:List Stmt}{d2:DS}(hu:X.A.units+1<cLine)(hN:X.N.Nodup)(hi:X.N[i]? = some x)(hx:Loc X.env.scope x)(hk:QA X T ES es dk)(hn:PE X (.Name x pn) (jaw i))(he:QE X T ES e d)(ho:QE X T ES o do_)(hr:QSs X T ES rest d2)
  (hs:swapsWith (.Tuple es x1 kp) (some (.Name x px)) eJ.line X.env=pure false:=by rfl) (hf:X.fn x=true∨X.env.scope.names.lookup x=some .local:=by first | exact .inl rfl | exact .inr rfl | assumption)
  (hw:swapsWith e (some (.Subscript o (.Name x pn) p2)) cR.line X.env=pure false:=by rfl) :
  QSs X T ES (.Assign [.Name x px] (.Tuple es x1 kp) eJ::.Assign [.Subscript o (.Name x pn) p2] e cR::rest) (yh (jgw i dk d do_) d2) :=
 ⟨Uy (Xm (jgS hN hi hx (UC hk.h) hs hf) (Xm (Uz hu ho.h hn he.h hw) hr.h)) fun D σ H ae=>yP ae fun W ρ M k hh hs q=>by
  unfold yh jgw at q;rw[jck]at q;refine⟨W,ρ,M,k,hh,hs,yn.bind hs q fun W1 M1 ks kv H1 l1 h1 r1 q1=>?_⟩
  by_cases hz:ks.length<=sizeLine∧i < ρ.length
  rotate_left
  ·rw[if_neg hz]at q1;exact q1.elim
  rw[if_pos hz,jck]at q1;refine⟨by rw[r1.length];exact hz.1,fun p hp=>?_⟩;obtain⟨l4,h4,f4⟩:=h1.frz (o:=.tup kv) hp
  have rp:Rep (W1.frz p (.tup kv)) (.tup ks) (.ref p):=⟨p,kv,rfl,.inl f4,r1.up l4⟩
  have iW:=((hs.up l1).up l4).set (i:=i) rp;have q4:=yn.up q1 l4;refine⟨_,ρ.set i (some (.tup ks)),M1,l4.k.trans (l1.k.trans k),h4,iW,yn.bind iW q4 fun W5 M5 xx xv H5 l5 h5 r5 q5=>?_⟩;rw[jck]at q5;have iV:=iW.up l5;refine⟨W5,_,M5,l5.k.trans (l4.k.trans (l1.k.trans k)),h5,iV,yn.bind iV q5 fun W6 M6 o' ov H6 l6 h6 r6 q6=>?_⟩;have hs6:=iV.up l6
  have q6:yn W6 ((match vg M6 o' ks xx with
   | some M4=>RS.nx (ρ.set i (some (.tup ks))) M4
   | none=>.bad).then d2) D ES:=q6
  cases e4:vg M6 o' ks xx with
  | none=>rw[e4]at q6;exact q6.elim
  | some M4 =>
  rw[e4]at q6;have q6:yn W6 (d2 (ρ.set i (some (.tup ks))) M4) D ES:=q6;unfold vg at e4;split at e4
  rotate_left
  ·cases e4
  rename_i j;split at e4
  rotate_left
  ·cases e4
  rename_i l e5;split at e4
  rotate_left
  ·cases e4
  rename_i ns e6;split at e4
  rotate_left
  ·cases e4
  rename_i hc;cases e4;have ek:=xq e6;subst ek;have ev:kv=ns.map V.int:=yc.ints.mp r1;subst ev;obtain⟨a,rfl,ea⟩:=r6;obtain⟨b,ob,g1,g2,g3,vs,rfl,ra⟩:=h6.m j _ e5;rw[ea]at g1;cases g1
  have hσ:(σ.set i (some (.ref p)))[i]? = some (some (.ref p)):=by
   rw[getElem?_set_self (by rw[hs.1];exact hz.2)]
  refine⟨.ref p,hσ,a,_,rfl,jdl.t (k:=xw ns) (kvs:=vs) g3 (by rw[xS];exact h6.f _ _ (l6.f _ _ (l5.f _ _ f4))) (by rw[ra.length];exact hc.2),?_⟩
  exact⟨W6,_,_,l6.k.trans (l5.k.trans (l4.k.trans (l1.k.trans k))),h6.upd e5 ea (c':=.dtv (xD l ns xx)) (o:=.dT (vh vs (xw ns) xv)) ⟨_,rfl,ra.put yX (r5.up l6)⟩,hs6,q6⟩⟩
end
def intV:Value->Bool
 | .int _ _=>true
 | _=>false
def jhE (o:Obj):Bool:=match o.data with
 | .seq its _=>(its.size==2 || its.size==3) && its.toList.all intV
 | _=>false
theorem jar:∀{ns:List Int}{us:List Value},yf (ns.map V.int) us->us.all intV=true
 | [],_,.nil=>rfl
 | n::ns,_,.cons r t=>by
  obtain⟨k,rfl⟩:=r;have h:=jar (ns:=ns) t;rw[all_cons,h];rfl
def Yp (K:Frag):Bool:=K.all fun p=>!jhE p.2
theorem jbf:∀{K:Frag}{a:Addr}{o:Obj},List.lookup a K=some o->(a,o)∈K
 | [],_,_,h=>by cases h
 | (b,u)::K,a,o,h=>by
  rw[lookup_cons]at h
  by_cases z:(a==b)=true
  ·rw[z]at h;cases h;rw[beq_iff_eq.mp z];exact mem_cons_self
  ·rw[not_eq_true]at z;rw[z]at h;exact mem_cons_of_mem _ (jbf h)
theorem jgz {K:Frag}{F:Hp}{b:Addr}{ns:List Int}(hn:Yp K=true)(h3:(ns.map V.int).length=2∨(ns.map V.int).length=3)(h:SqF K F b (ns.map V.int)):F b=some (.tup (ns.map V.int)):=by
 rcases h with h | ⟨o,its,n,hk,hc,hd,hz,r⟩
 ·exact h
 ·exfalso
  have q:=List.all_eq_true.mp hn _ (jbf hk);have e:=r.length
  have e:(ns.map V.int).length=its.size:=by rw[<- length_toList];exact e
  have:jhE o=true:=by
   unfold jhE;rw[hd];show((its.size==2 || its.size==3) && its.toList.all intV)=true;rw[<- e,jar r]
   rcases h3 with h | h
   ·rw[h];rfl
   ·rw[h];rfl
  rw[this]at q;cases q
def jcu (M:Sto)(o y x:PV):Option Sto:=match y with
 | .tup ks=>if ks.length=3 then vg M o ks x else none
 | _=>none
def Jh (d do_ dy:DE):DS:=fun ρ M=>(d ρ M).st ρ fun x M1=>(do_ ρ M1).st ρ fun o M2=>(dy ρ M2).st ρ fun y M3=>match jcu M3 o y x with
 | some M4=>.nx ρ M4
 | none=>.bad
section
variable {X:Cx}{T:Tb}{ES:St->XK}{e o f:Expr}{d do_ dy:DE}{pos p2:Pos}
theorem Vy (eV:Yp T.K=true)(hu:X.A.units+1<cLine)(he:QE X T ES e d)(ho:QE X T ES o do_)(hy:QE X T ES f dy)(hw:swapsWith e (some (.Subscript o f p2)) pos.line X.env=pure false:=by rfl) :
  QS X T ES (.Assign [.Subscript o f p2] e pos) (Jh d do_ dy) :=
 ⟨xt (Uz hu ho.h hy.h he.h hw) fun D σ H ae=>yP ae fun W ρ M k hh hs q=>⟨W,ρ,M,k,hh,hs,yn.bind hs q fun W1 M1 x v H1 l1 h1 r1 q1=>by
  have bc:=hs.up l1;refine⟨W1,ρ,M1,l1.k.trans k,h1,bc,yn.bind bc q1 fun W2 M2 o' ov H2 l2 h2 r2 q2=>?_⟩;have bx:=bc.up l2;refine⟨W2,ρ,M2,l2.k.trans (l1.k.trans k),h2,bx,yn.bind bx q2 fun W3 M3 y yv H3 l3 h3 r3 q3=>?_⟩;split at q3
  rotate_left
  ·exact q3.elim
  rename_i M4 e4;unfold jcu at e4;split at e4
  rotate_left
  ·cases e4
  rename_i ks;split at e4
  rotate_left
  ·cases e4
  rename_i h3l;unfold vg at e4;split at e4
  rotate_left
  ·cases e4
  rename_i i;split at e4
  rotate_left
  ·cases e4
  rename_i l e5;split at e4
  rotate_left
  ·cases e4
  rename_i ns e6;split at e4
  rotate_left
  ·cases e4
  rename_i hc;cases e4;have ek:=xq e6;subst ek;obtain⟨b,kv,rfl,hb,rk⟩:=r3;have ev:kv=ns.map V.int:=yc.ints.mp rk;subst ev;have kT:W3.T=T:=l3.k.trans (l2.k.trans (l1.k.trans k));have hF:W3.F b=some (.tup (ns.map V.int)):=jgz (by rw[kT];exact eV) (.inr (by rw[length_map]at h3l ⊢;exact h3l)) hb;obtain⟨a,rfl,ea⟩:=r2.up l3;obtain⟨b',ob,g1,g2,g3,vs,rfl,ra⟩:=h3.m i _ e5;rw[ea]at g1;cases g1;refine⟨a,_,rfl,jdl.t (k:=xw ns) (kvs:=vs) g3 (by rw[xS];exact h3.f _ _ hF) (by rw[ra.length];exact hc.2),?_⟩
  exact q3 W3 σ _ (.refl W3) (h3.upd e5 ea (c':=.dtv (xD l ns x)) (o:=.dT (vh vs (xw ns) v)) ⟨_,rfl,ra.put yX ((r1.up l2).up l3)⟩) (bx.up l3)⟩⟩
end
end L3
namespace L2
open PySem PySem.Spec PyProof.Rows PySem.W
def uf (aP:List (List Key×V))(kv:List Key×V):Bool:=!(yT aP kv.1).isSome
inductive Keys (H:Hp):List (List Key×V)->List V->Prop
 | nil:Keys H [] []
 | cons {kv:List Key×V}{kvs:List (List Key×V)}{c:Addr}{xs:List V}(h:H c=some (.tup (kv.1.map kV))) (t:Keys H kvs xs):Keys H (kv::kvs) (.ref c::xs)
theorem Keys.snoc {H:Hp}{kvs:List (List Key×V)}{xs:List V}{kv:List Key×V}{c:Addr}(k:Keys H kvs xs)(h:H c=some (.tup (kv.1.map kV))):Keys H (kvs++[kv]) (xs++[.ref c]):=by
 induction k with
 | nil=>exact .cons h .nil
 | cons a _ ih=>exact .cons a ih
theorem Keys.length {H:Hp}{kvs:List (List Key×V)}{xs:List V}(k:Keys H kvs xs):xs.length=kvs.length:=by
 induction k with
 | nil=>rfl
 | cons a _ ih=>rw[length_cons,length_cons,ih]
def tNew (j:Nat)(te:TE):TE:=fun σ H Q=>te σ H fun x H1=>∃ a kvs b aP,x = .ref a∧H1 a=some (.dT kvs)∧σ[j]? = some (some (.ref b))∧H1 b=some (.dT aP)∧kvs.length<=sizeLine ∧
 ∀ acc xs,H1 acc=none->Keys H1 (kvs.filter (uf aP)) xs->Q (.ref acc) (upd H1 acc (.lst xs))
theorem new_w {X:Cx}{j:Nat}{te:TE}{σ:St}{H:Hp}{Q:VK}(mono:∀{σ:St}{H:Hp}{Q Q':VK},te σ H Q->(∀ v H',Q v H'->Q' v H')->te σ H Q')(h:tNew j te σ H Q) :
  tMelt X (Vq (iKeys X te) 1 [j] (vo 0) (tB (jdt (jaw 0) (jaw 1))) (jaw 0)) σ H Q:=by
 refine mono h fun v H ae=>?_;obtain⟨a,kvs,b,aP,rfl,ha,hs,hb,hl,q⟩:=ae;refine⟨a,kvs,rfl,ha,fun o nf acc aB=>?_⟩
 have aY:acc≠a:=fun z=>by rw[z,jr]at aB;cases aB
 have dF:H acc=none:=by rw[jk aY]at aB;exact aB
 have hnb:acc≠b:=fun z=>by rw[z,hb]at dF;cases dF
 obtain⟨F,hF⟩:∃ F,F=upd H a (.frz o (.dT kvs)):=⟨_,rfl⟩
 have fa:∀ l:HO,upd F acc l a=some (.frz o (.dT kvs)):=fun l=>by rw[jk (Ne.symm aY),hF,jr]
 have fb:∀ l:HO,Rd (upd F acc l) b (.dT aP):=fun l=>by
  by_cases z:b=a
  ·subst z;rw[ha]at hb;cases hb;exact .inr ⟨o,fa l⟩
  ·refine .inl ?_;rw[jk (Ne.symm hnb),hF,jk z];exact hb
 have ft:∀ l c ys,upd F acc (.lst l) c=some (.tup ys)->H c=some (.tup ys):=fun l c ys e=>by
  by_cases z:c=acc
  ·rw[z,jr]at e;cases e
  ·rw[jk z,hF]at e
   by_cases y:c=a
   ·rw[y,jr]at e;cases e
   ·rw[jk y]at e;exact e
 rw[<- hF];refine⟨fun i m xs H2=>i+m=kvs.length∧Keys H ((kvs.take i).filter (uf aP)) xs∧H2=upd F acc (.lst xs),⟨kvs.length,by omega,.nil,rfl⟩,?_⟩;rintro i m xs H2 ⟨h1,h2,rfl⟩
 by_cases hi:kvs.length<=i
 ·refine .inl ⟨⟨fa _,hi⟩,a,o,kvs,nf,fa _,?_⟩
  have e1:upd (upd F acc (.lst xs)) a (.dT kvs)=upd H acc (.lst xs):=by
   funext c
   by_cases z:c=a
   ·subst z;rw[jr,jk (Ne.symm aY),ha]
   ·rw[jk z]
    by_cases y:c=acc
    ·subst y;rw[jr,jr]
    ·rw[jk y,jk y,hF,jk z]
  rw[e1];rw[List.take_of_length_le hi]at h2;exact q acc xs dF h2
 ·have aU:i<kvs.length:=by omega
  have hle:((kvs.take i).filter (uf aP)).length<=i:=le_trans (length_filter_le _ _) (by rw[length_take];exact Nat.min_le_left _ _);refine .inr ⟨⟨fa _,aU⟩,by rw[h2.length];omega,fun ys H'=>Keys H ((kvs.take (i+1)).filter (uf aP)) ys∧H'=upd F acc (.lst ys),fun ys H' hN=>⟨m-1,by omega,by omega,hN.1,hN.2⟩,?_⟩;rintro x H3 ⟨c,kv,rfl,cC,hc,rfl⟩
  have ei:yY 1 [j] σ=[none,some (.ref b)]:=by
   show [none]++[(σ[j]?).getD none]=_;rw[hs];rfl
  rw[ei]
  have tk:kvs.take (i+1)=kvs.take i++[kv]:=by
   rw[take_succ,cC];rfl
  refine⟨keep1,?_⟩;refine⟨.ref c,rfl,.ref b,rfl,b,yT aP kv.1,rfl,.inr ⟨aP,kv.1,c,fb _,rfl,hc,rfl⟩,!(yT aP kv.1).isSome,rfl,?_⟩
  by_cases hv:(!(yT aP kv.1).isSome)=true
  ·dsimp only;rw[if_pos hv];refine⟨.ref c,rfl,jr,?_,vB⟩;rw[tk,List.filter_append]
   have:[kv].filter (uf aP)=[kv]:=by
    rw[filter_cons,if_pos (show uf aP kv=true from hv)];rfl
   rw[this];exact h2.snoc (ft _ _ _ hc)
  ·dsimp only;rw[if_neg hv];refine⟨?_,rfl⟩;rw[tk,List.filter_append]
   have:[kv].filter (uf aP)=[]:=by
    rw[filter_cons,if_neg (show ¬ uf aP kv=true from hv)];rfl
   rw[this,append_nil];exact h2
def tMeltS (X:Cx)(t:TS):TS:=fun D σ H=>t { D with nx:=fun σ' H'=>∃ a o kvs,(∀ o u,X.H₀ a≠some (.frz o u))∧H' a=some (.frz o (.dT kvs))∧D.nx σ' (upd H' a (.dT kvs)) } σ H
theorem ps_melt {X:Cx}{st:Stmt}{t:TS}(h:PS X st t):PS X st (tMeltS X t):=by
 intro aa s σ H D I hq;refine thn (h aa s σ H _ I hq) fun f s1 q=>?_
 cases f with
 | next =>
  obtain⟨σ1,H1,I1,a,o,kvs,nf,ha,q⟩:=q;exact⟨σ1,_,I1.melt ha nf,q⟩
 | _=>exact q
end L2
namespace L3
open PySem L2
def uU (m:List (List Int×PV))(p:List Int×PV):Bool:=!(xb m p.1).isSome
def Jr (M:Sto)(x y:PV):Option (List PV):=match x,y with
 | .ref i,.ref j=>(match M.g i,M.g j with
  | some (.dtv l),some (.dtv m)=>if l.length<=sizeLine then some (jem (l.filter (uU m)))else none
  | _,_=>none)
 | _,_=>none
def JD (d:DE)(j:Nat):DE:=fun ρ M=>(d ρ M).bind fun x M1=>match ρ[j]? with
 | some (some y)=>(match Jr M1 x y with
  | some xs=>.ok (.lst xs) M1
  | none=>.bad)
 | _=>.bad
theorem XA {M:Sto}{H:Hp}:∀(l:List (List Int×PV)) {kvs:List (List Key×V)}{xs:List V}{W:Wd},Held W M H->Keys H kvs xs->kvs.map (·.1)=l.map (fun p=>xw p.1)->∃ W',W.le W'∧Held W' M H∧yc W' (jem l) xs
 | [],kvs,xs,W,h,k,e=>by
  cases k with
  | nil=>exact⟨W,.refl W,h,rfl⟩
  | cons _ _=>cases e
 | p::l,kvs,xs,W,h,k,e=>by
  cases k with
  | nil=>cases e
  | cons hc t =>
   rw[map_cons,map_cons]at e;obtain⟨e1,e2⟩:=List.cons.inj e;rw[e1,xS]at hc;obtain⟨W1,l1,h1,f1⟩:=h.adopt hc;obtain⟨W2,l2,h2,r2⟩:=XA l h1 t e2;exact⟨W2,l1.trans l2,h2,_,_,rfl,⟨_,_,rfl,.inl (l2.f _ _ f1),yc.ints.mpr rfl⟩,r2⟩
theorem filt {W:Wd}{m:List (List Int×PV)}{gp:List (List Key×V)}(rm:yJ W xw m gp):∀{l:List (List Int×PV)}{vs:List (List Key×V)},yJ W xw l vs->(vs.filter (uf gp)).map (·.1)=(l.filter (uU m)).map fun p=>xw p.1
 | [],_,e=>by
  have e:_=[]:=e;subst e;rfl
 | p::l,_,⟨v,rs,e,_,t⟩=>by
  subst e
  have hv:uf gp (xw p.1,v)=uU m p:=by
   unfold uf uU
   rcases rm.get yX p.1 with⟨a1,a2⟩ | ⟨x,v',a1,a2,_⟩
   ·rw[a1,a2];rfl
   ·rw[a1,a2];rfl
  rw[filter_cons,filter_cons,hv]
  by_cases z:uU m p=true
  ·rw[if_pos z,if_pos z,map_cons,map_cons,filt rm t]
  ·rw[if_neg z,if_neg z,filt rm t]
section
variable {X:Cx}{T:Tb}{ES:St->XK}{osc sc:Scope}{xr xs':Str}{j:Nat}{iter:Expr}{pos p1 p2 p3 p4 p5:Pos}{d:DE}
theorem jhz {d:DE}{σ:St}{H:Hp}{Q Q':VK}(h:lft T Rep ES d σ H Q)(f:∀ v H',Q v H'->Q' v H'):lft T Rep ES d σ H Q':=by
 obtain⟨W,ρ,M,k,hh,hs,p⟩:=h;refine⟨W,ρ,M,k,hh,hs,?_⟩
 cases e:d ρ M with
 | ok x M1 =>
  rw[e]at p;exact fun W1 H1 v l1 h1 r1=>f _ _ (p W1 H1 v l1 h1 r1)
 | exc c M1 =>
  rw[e]at p;exact p
 | bad =>
  rw[e]at p;exact p
theorem jhs {σ:St}{H:Hp}{Q:VK}(h:lft T Rep ES (JD d j) σ H Q):tNew j (lft T Rep ES d) σ H Q:=by
 refine jC h fun W ρ M k hh hs q=>⟨W,ρ,M,k,hh,hs,yg.bind q fun W1 M1 x v H1 l1 h1 r1 q1=>?_⟩
 split at q1
 rotate_left
 ·exact q1.elim
 rename_i y ey;split at q1
 rotate_left
 ·exact q1.elim
 rename_i ks e2;unfold Jr at e2;split at e2
 rotate_left
 ·cases e2
 rename_i i i2;split at e2
 rotate_left
 ·cases e2
 rename_i l m e5 e6;split at e2
 rotate_left
 ·cases e2
 rename_i hz;cases e2;obtain⟨a,rfl,ea⟩:=r1;obtain⟨w,hw,ry⟩:=(hs.up l1).2 j _ ey;obtain⟨b,rfl,eb⟩:=ry;obtain⟨_,_,g1,_,g3,vs,rfl,ra⟩:=h1.m i _ e5;rw[ea]at g1;cases g1;obtain⟨_,_,g1',_,gZ,gp,rfl,ra2⟩:=h1.m i2 _ e6;rw[eb]at g1';cases g1';refine⟨a,vs,b,gp,rfl,g3,hw,gZ,by rw[ra.length];exact hz,fun acc xs aB hk=>?_⟩;obtain⟨W2,l2,h2,r2⟩:=XA (l.filter (uU m)) h1 hk (filt ra2 ra);obtain⟨W3,l3,h3,r3⟩:=vI h2 r2 aB;exact q1 W3 _ _ (l2.trans l3) h3 r3
theorem jco {i:Nat}{x:Str}{px b8:Pos}(hu:X.A.units+1<cLine)(hc:X.calm=true)(ho:X.env.scope=osc)(S:CompScope osc sc [xr] [xs'])(hj:[j].map (fun j=>X.N[j]?)=[xs'].map some)(hN:X.N.Nodup)(cq:X.N[i]? = some x)(hx:X.env.scope.names.lookup x=some .local)(hi:QE X T ES iter d)
  (hg:∀ s₃ H₃ fp,PG (jQ X ([xr]++[xs']) sc s₃ H₃ fp) (.Name xr p1) (vo 0)) (h0:∀ s₃ H₃ fp,PE (jQ X ([xr]++[xs']) sc s₃ H₃ fp) (.Name xr p2) (jaw 0)) (h0':∀ s₃ H₃ fp,PE (jQ X ([xr]++[xs']) sc s₃ H₃ fp) (.Name xr p4) (jaw 0)) (h1:∀ s₃ H₃ fp,PE (jQ X ([xr]++[xs']) sc s₃ H₃ fp) (.Name xs' p5) (jaw 1))
  (hm:behindInMarks .NotIn (.Name xs' p5)=false) (fB:swapsWith (.ListComp (.Name xr p2) [⟨.Name xr p1,iter,[.Compare (.Name xr p4) [.NotIn] [.Name xs' p5] p3],0⟩] sc pos) (some (.Name x px)) b8.line X.env=pure true) (hs:∀ x,foldedSetIterable iter X.env x=pure x:=by intro _;rfl) :
  QS X T ES (.Assign [.Name x px] (.ListComp (.Name xr p2) [⟨.Name xr p1,iter,[.Compare (.Name xr p4) [.NotIn] [.Name xs' p5] p3],0⟩] sc pos) b8) (yK i (JD d j)) :=
 ⟨xt (ps_melt (jdZ hc ho S hj hN cq hx (pi_keys hi.h) hg (fun a b c=>jhH (jgR (jfj hu (h0' a b c) (h1 a b c)) hm)) (fun a b c=>h0 a b c) fB hs)) fun D σ H h=>by
  have:=YZ h
  exact new_w (X:=X) (fun h f=>jhz h f) (jhs this)⟩
end
end L3
namespace Sr3
open PySem PySem.W PyProof.Rows Srt
def lexB3 (x y:Int×Int×Int):Bool:=if x.1=y.1 then(if x.2.1=y.2.1 then decide (x.2.2<y.2.2)else decide (x.2.1<y.2.1))else decide (x.1<y.1)
theorem lex_iff3 {x y:Int×Int×Int}:lexB3 x y=true↔x.1<y.1∨(x.1=y.1∧(x.2.1<y.2.1∨(x.2.1=y.2.1∧x.2.2<y.2.2))):=by
 unfold lexB3
 by_cases h:x.1=y.1
 ·rw[if_pos h]
  by_cases h2:x.2.1=y.2.1
  ·rw[if_pos h2,decide_eq_true_eq];omega
  ·rw[if_neg h2,decide_eq_true_eq];omega
 ·rw[if_neg h,decide_eq_true_eq];omega
def jaM (ks:List (Int×Int×Int))(x:Int×Int×Int):Int:=((ks.filter fun y=>lexB3 y x).length:Nat)
theorem Xk {x y:Int×Int×Int}(h:lexB3 y x=false):∀ ks:List (Int×Int×Int),(ks.filter fun z=>lexB3 z x).length<=(ks.filter fun z=>lexB3 z y).length
 | []=>le_refl _
 | k::ks=>by
  have ih:=Xk h ks;rw[filter_cons,filter_cons]
  cases h1:lexB3 k x with
  | false =>
   rw[if_neg (by simp)];split
   ·simp;omega
   ·exact ih
  | true =>
   have h2:lexB3 k y=true:=by
    have a:=lex_iff3.mp h1
    have b:¬ _:=fun z=>by rw[lex_iff3.mpr z]at h;cases h
    exact lex_iff3.mpr (by omega)
   rw[h2,if_pos rfl,if_pos rfl];simp;exact ih
theorem jaL {x y:Int×Int×Int}(h:lexB3 x y=true):∀{ks:List (Int×Int×Int)},x∈ks->(ks.filter fun z=>lexB3 z x).length<(ks.filter fun z=>lexB3 z y).length
 | k::ks,hm=>by
  have hxy:lexB3 y x=false:=by
   cases e:lexB3 y x with
   | false=>rfl
   | true=>have a:=lex_iff3.mp h;have b:=lex_iff3.mp e;omega
  have le:=Xk hxy ks;rw[filter_cons,filter_cons]
  by_cases hk:k=x
  ·subst hk
   have:lexB3 k k=false:=by
    cases e:lexB3 k k with
    | false=>rfl
    | true=>have b:=lex_iff3.mp e;omega
   rw[this,h,if_neg (by simp),if_pos rfl];simp;omega
  ·have iY:x∈ks:=by
    rcases List.mem_cons.mp hm with z | z
    ·exact absurd z.symm hk
    ·exact z
   have ih:=jaL h iY
   cases h1:lexB3 k x with
   | false =>
    rw[if_neg (by simp)];split
    ·simp;omega
    ·exact ih
   | true =>
    have h2:lexB3 k y=true:=lex_iff3.mpr (by have a:=lex_iff3.mp h;have b:=lex_iff3.mp h1;omega);rw[h2,if_pos rfl,if_pos rfl];simp;exact ih
theorem Vx {ks:List (Int×Int×Int)}{x y:Int×Int×Int}(hx:x∈ks):lexB3 x y=decide (jaM ks x<jaM ks y):=by
 unfold jaM
 cases h:lexB3 x y with
 | true =>
  have:=jaL h hx
  rw[decide_eq_true (by omega)]
 | false =>
  have:=Xk h ks
  rw[decide_eq_false (by omega)]
def T3 (h:Heap)(v:Value)(k:Int×Int×Int):Prop:=∃ a o t u r n,v = .ref a∧h.get? a=some o∧o.cls = .type "tuple"∧o.data = .seq #[.int k.1 t,.int k.2.1 u,.int k.2.2 r] n
theorem T3.mono {h h':Heap}{v:Value}{k:Int×Int×Int}(q:T3 h v k)(e:∀ b o,v = .ref b->h.get? b=some o->h'.get? b=some o):T3 h' v k:=by
 obtain⟨a,o,t,u,r,n,rfl,h1,h2,h3⟩:=q;exact⟨a,o,t,u,r,n,rfl,e a o rfl h1,h2,h3⟩
def All3 (h:Heap):List Value->List (Int×Int×Int)->Prop
 | [],[]=>True
 | v::vs,k::ks=>T3 h v k∧All3 h vs ks
 | _,_=>False
theorem All3.mono {h h':Heap}:∀{vs:List Value}{ks:List (Int×Int×Int)},All3 h vs ks->(∀ b o,.ref b∈vs->h.get? b=some o->h'.get? b=some o)->All3 h' vs ks
 | [],[],_,_=>trivial
 | v::vs,k::ks,q,e=>⟨q.1.mono fun b o z=>e b o (by rw[z];exact mem_cons_self),q.2.mono fun b o z=>e b o (mem_cons_of_mem _ z)⟩
 | [],_::_,q,_=>q.elim
 | _::_,[],q,_=>q.elim
theorem All3.length {h:Heap}:∀{vs:List Value}{ks:List (Int×Int×Int)},All3 h vs ks->vs.length=ks.length
 | [],[],_=>rfl
 | _::_,_::_,q=>by simp[q.2.length]
 | [],_::_,q=>q.elim
 | _::_,[],q=>q.elim
theorem All3.at {h:Heap}:∀{vs:List Value}{ks:List (Int×Int×Int)}{i:Nat},All3 h vs ks->i<vs.length->T3 h (vs.getD i .none) (ks.getD i (0,0,0))
 | _::_,_::_,0,q,_=>q.1
 | _::_,_::_,i+1,q,hi=>q.2.at (i:=i) (by simpa using hi)
 | [],[],i,_,hi=>absurd hi (not_lt_zero _)
 | [],_::_,_,q,_=>q.elim
 | _::_,[],_,q,_=>q.elim
theorem All3.firsts {h:Heap}:∀{vs:List Value}{ks:List (Int×Int×Int)},All3 h vs ks->∃ fs,KatTups h vs fs∧fs.length=vs.length∧∀ v∈fs,∃ i t,v=Value.int i t
 | [],[],_=>⟨[],trivial,rfl,fun _ h=>by cases h⟩
 | _::_,k::_,q=>by
  obtain⟨fs,a,b,c⟩:=q.2.firsts;obtain⟨ad,o,t,u,r,n,rfl,h1,h2,h3⟩:=q.1
  exact⟨.int k.1 t::fs,KatTups.cons h1 h2 h3 rfl a,by simp[b],fun v hv=>by
   rcases List.mem_cons.mp hv with e | e
   ·exact⟨_,_,e⟩
   ·exact c v e⟩
 | [],_::_,q=>q.elim
 | _::_,[],q=>q.elim
section
variable {prog:Program}{w:World}{A:Around}{E:Value->Shared->Prop}{s:Shared}
theorem jix {x y:Value}{k l:Int×Int×Int}{Q:Bool->Shared->Prop}(hx:T3 s.heap x k)(hy:T3 s.heap y l)(h:Q (lexB3 k l) s):wpAny (model prog w) A (keyLt' (tuples' true) x y) Q E s:=by
 obtain⟨a,o,t,u,r,n,rfl,x1,_,x3⟩:=hx;obtain⟨b,o',t',u',r',n',rfl,y1,_,y3⟩:=hy;refine kat_lt x1 x3 y1 y3 (kat_cons (wpAny_eqBool_int ?_));unfold lexB3 at h
 by_cases he:k.1=l.1
 ·rw[if_pos he]at h;rw[show(k.1==l.1)=true by simpa using he];refine kat_yes (kat_cons (wpAny_eqBool_int ?_))
  by_cases f9:k.2.1=l.2.1
  ·rw[if_pos f9]at h;rw[show(k.2.1==l.2.1)=true by simpa using f9];refine kat_yes (kat_cons (wpAny_eqBool_int ?_))
   by_cases he3:k.2.2=l.2.2
   ·rw[show(k.2.2==l.2.2)=true by simpa using he3];refine kat_yes (kat_nil ?_);rw[decide_eq_false (by omega)]at h;exact h
   ·rw[show(k.2.2==l.2.2)=false by simpa using he3];exact kat_no (kat_one _ _ (lt_int h))
  ·rw[if_neg f9]at h;rw[show(k.2.1==l.2.1)=false by simpa using f9];exact kat_no (kat_one _ _ (lt_int h))
 ·rw[if_neg he]at h;rw[show(k.1==l.1)=false by simpa using he];exact kat_no (oneLt_int h)
theorem jft {vs:List Value}{ks:List (Int×Int×Int)}{Q:SortKind->Shared->Prop}(q:All3 s.heap vs ks)(h2:2<=vs.length)(h:Q (tuples' true) s):wpAny (model prog w) A (keyKind' vs.toArray) Q E s:=by
 obtain⟨fs,a,b,c⟩:=q.firsts;refine kat_kind (T:=Value.type "int") a (by omega) (fun v hv=>?_) rfl h;obtain⟨i,t,rfl⟩:=c v hv;exact Looks.now
def Rises (ks:List (Int×Int×Int))(p:List Nat):Prop:=p.Perm (List.range ks.length)∧(p.map fun i=>ks.getD i (0,0,0)).Pairwise fun x y=>lexB3 y x=false
theorem sort_tup3 {a:Addr}{vs:List Value}{ks:List (Int×Int×Int)}{n:Nat}{P:Fin->Shared->Prop}(ho:s.heap.get? a=some (seqObj "list" vs.toArray n))(q:All3 s.heap vs ks)(hna:.ref a∉vs)(fT:vs.length<64)
  (h:∀ p,Rises ks p->P (.done (.ret .none)) { s with heap:=sortedHeap s.heap a vs (outOf vs p) }):wpAny (model prog w) A (Builtin.«list.sort» ⟨[.ref a],[]⟩) P E s:=by
 have gM:=q.length;rw[list_sort_plain];have aU:a<s.heap.objs.size:=lt_size ho
 have zz:vs.toArray.size<=sizeLine:=by rw[size_toArray,sizeLine_eq];omega
 refine wpAny_bind (listItems_at ho rfl (wpAny_bind (listUpdate_at ho rfl ?_ zz (zero_le _))))
 obtain⟨e1,g1⟩:∃ e,(s.heap.update a (Obj.mapSeq fun _=>(#[]:Array Value))).get? a=some (seqObj "list" #[] e):=⟨_,get?_update_seq ho fun _=>#[]⟩
 refine wpAny_bind (seqEpoch_at g1 rfl (wpAny_bind (wpAny_newTuple (wpAny_bind (wpAny_newList (wpAny_holding ?_) (zero_le _))) (by show vs.length<=_;rw[sizeLine_eq];omega))))
 obtain⟨h5,e5⟩:∃ h5,h5=((s.heap.update a (Obj.mapSeq fun _=>(#[]:Array Value))).push (seqObj "tuple" vs.toArray 0)).push (seqObj "list" #[] 0):=⟨_,rfl⟩
 have b4:∀ b o,b≠a->s.heap.get? b=some o->h5.get? b=some o:=fun b o hb z=>by
  rw[e5];exact get?_push_of_some _ (get?_push_of_some _ (by rw[get?_update_ne _ _ _ _ hb];exact z))
 have g5:h5.get? a=some (seqObj "list" #[] e1):=by
  rw[e5];exact get?_push_of_some _ (get?_push_of_some _ g1)
 have q5:All3 h5 vs ks:=q.mono fun b o hb z=>b4 b o (fun y=>hna (by rw[<- y];exact hb)) z;show wpAny (model prog w) A _ P E { s with heap:=((s.heap.update a (Obj.mapSeq fun _=>(#[]:Array Value))).push (seqObj "tuple" vs.toArray 0)).push (seqObj "list" #[] 0) };rw[<- e5]
 have fin:∀ p,Rises ks p->P (.done (.ret .none)) { s with heap:=h5.update a (Obj.mapSeq fun _=>outOf vs p) }:=fun p hp=>by
  have:=h p hp
  unfold sortedHeap at this;rw[e5];exact this
 have osz:∀ p,Rises ks p->(outOf vs p).size<=sizeLine:=fun p hp=>by
  have:(outOf vs p).size=ks.length:=by
   unfold outOf;rw[size_toArray,length_map,hp.1.length_eq,length_range]
  rw[this,sizeLine_eq];omega
 dsimp only
 by_cases h2:vs.toArray.size<2
 ·have hR:Rises ks (List.range ks.length):=⟨.refl _,by
   have h2:ks.length<2:=by rw[<- gM];simpa using h2
   match ks,h2 with
   | [],_=>exact .nil
   | [k],_=>exact List.pairwise_singleton _ _⟩
  have eO:((vs.toArray.zip vs.toArray).map (·.2))=outOf vs (List.range ks.length):=by
   unfold outOf;rw[<- gM,jcO];apply Array.toList_inj.mp;rw[Array.toList_map,Array.toList_zip];exact List.map_snd_zip (le_refl _)
  rw[if_pos h2,if_pos h2];refine wpAny_bind (wpAny_pure ?_);rw[StateT.run_pure];refine wpAny_bind (wpAny_pure (wpAny_bind (seqEpoch_at g5 rfl (wpAny_bind (listUpdate_at g5 rfl ?_ (zero_le _) (by show((vs.toArray.zip vs.toArray).map (·.2)).size<=_;rw[eO];exact Nat.le_succ_of_le (osz _ hR)))))));simp only[bne_self_eq_false,false_eq_true,if_false];refine wpAny_pure ?_
  have:=fin _ hR
  rw[<- eO]at this;exact this
 ·have h2:2<=vs.length:=by simpa using h2
  rw[if_neg (by simpa using h2),if_neg (by simpa using h2)];refine wpAny_bind (jft (s:={ s with heap:=h5 }) q5 h2 ?_);obtain⟨p,ep,pp,up⟩:=jgp (r:=fun i=>jaM ks (ks.getD i (0,0,0))) (n:=vs.length) (by omega)
  have hR:Rises ks p.toList:=by
   refine⟨by rw[<- gM];exact pp,?_⟩;rw[List.pairwise_iff_getElem];intro i j hi hj cp;rw[length_map]at hi hj
   have hsz:p.toList.length=vs.length:=by rw[pp.length_eq,length_range]
   rw[length_toList]at hi hj hsz;have u:=up i j (by omega) (by omega);unfold Kp at u;dsimp only at u;rw[getD_eq_getD_getElem?,getD_eq_getD_getElem?,Array.getElem?_eq_getElem hi,Array.getElem?_eq_getElem hj,getD_some,getD_some]at u
   have hm:ks.getD p[j] (0,0,0)∈ks:=by
    have:p[j]∈List.range vs.length:=pp.mem_iff.mp (by simp)
    have aU:=List.mem_range.mp this;rw[getD_eq_getElem?_getD,getElem?_eq_getElem (by omega),getD_some];exact getElem_mem _
   rw[List.getElem_map,List.getElem_map,getElem_toList,getElem_toList,Vx hm];exact decide_eq_false (by omega)
  refine wpAny_bind (wpAny_mono (kat_run (ks:=vs) (vs:=vs) (κ:=tuples' true) (s:={ s with heap:=h5 }) (G:=fun p' s'=>p'=p∧s'={ s with heap:=h5 })
   (Q:=fun cL s'=>arrOf cL=p.map (kas_item (vs.toArray.zip vs.toArray))∧failedOf cL=none∧s'={ s with heap:=h5 }) rfl h2 fT (fun p' cL s' _ a2 a3 a4=>by rw[a4.1]at a2;exact⟨a2,a3,a4.2⟩) ?_) ?_ fun _ _ z=>z)
  ·refine jdn (n:=vs.length) (lt:=lo fun i=>jaM ks (ks.getD i (0,0,0))) (fun i j C hi hj hC=>?_) (kas_sort vs.length) (jiD (by omega)) ⟨ep,rfl⟩;refine jix (All3.at q5 hi) (All3.at q5 hj) ?_
   have hm:ks.getD i (0,0,0)∈ks:=by
    rw[getD_eq_getElem?_getD,getElem?_eq_getElem (by omega),getD_some];exact getElem_mem _
   rw[Vx hm];exact hC
  ·rintro⟨⟨⟩,cL⟩ s' ⟨a1,a2,rfl⟩;dsimp only;have eO:(arrOf cL).map (·.2)=outOf vs p.toList:=kat_snds rfl a1;refine wpAny_bind (seqEpoch_at g5 rfl (wpAny_bind (listUpdate_at g5 rfl ?_ (zero_le _) (by rw[eO];exact Nat.le_succ_of_le (osz _ hR)))));rw[a2,eO];simp only[bne_self_eq_false,false_eq_true,if_false];exact wpAny_pure (fin _ hR)
end
end Sr3
namespace Srt
open PySem PySem.W PyProof.Rows
section
variable {prog:Program}{w:World}{A:Around}{E:Value->Shared->Prop}{s:Shared}
theorem sorted_src3 {T:String}{r d:Addr}{n:Nat}{P:Nat->Value->Prop}{OK:Heap->Prop}{ks:List (Int×Int×Int)}{vs0:List Value}{Q:Value->Shared->Prop}(K:KdlSrc prog w T r d n P OK)(hh:A.handled=none)(hok:OK s.heap)(fT:n<64)(hi:∀ vs:List Value,vs.length=n->(∀ j v,vs[j]? = some v->P j v)->vs=vs0)
  (ha:Sr3.All3 s.heap vs0 ks) (hl0:∀ b,Value.ref b∈vs0->b<s.heap.objs.size)
  (h:∀ h' tk a e (q:List Nat),(∀ b o,s.heap.get? b=some o->h'.get? b=some o)->s.heap.objs.size<=a->h'.get? a=some (seqObj "list" (outOf vs0 q) e)->Sr3.Rises ks q->Q (.ref a) { s with heap:=h',toks:=tk }):wpAny (model prog w) A (call (.builtin "sorted") [.ref r]) Q E s:=by
 refine Calls.call_function_entry kind_sorted plain_sorted entry_sorted (args_sorted1 _) ?_;unfold Builtin.«sorted»;refine wpAny_bind (m:=checkCount "sorted" 1 1 _) (wpAny_pure (wpAny_bind (Yz K hh hok (by rw[sizeLine_eq];omega) fun h1 tk vs k1 z1 hl hp=>?_)));obtain rfl:=hi vs hl hp;refine wpAny_bind (wpAny_newList ?_ (by show vs.length<=_;rw[sizeLine_eq];omega));show wpAny _ _ _ _ _ { s with heap:=h1.push (seqObj "list" vs.toArray 0),toks:=tk };have g2:(h1.push (seqObj "list" vs.toArray 0)).get? h1.objs.size=some (seqObj "list" vs.toArray 0):=get?_push_size _ rfl;have ha2:Sr3.All3 (h1.push (seqObj "list" vs.toArray 0)) vs ks:=ha.mono fun b o _ e=>get?_push_of_some _ (k1 b o e);refine wpAny_bind (wpAny_holding (wpAny_call_entry slot_list_sort ⟨_,g2,rfl⟩ entry_list_sort (Sr3.sort_tup3 (s:={ s with heap:=h1.push (seqObj "list" vs.toArray 0),toks:=tk }) g2 ha2 (fun hm=>absurd (hl0 _ hm) (Nat.not_lt.mpr z1)) (by omega) fun q hq=>⟨_,rfl,?_⟩) (args_list_sort _)))
 refine wpAny_pure ⟨_,rfl,?_⟩;unfold sortedHeap
 obtain⟨e1,g3⟩:∃ e,((h1.push (seqObj "list" vs.toArray 0)).update h1.objs.size (Obj.mapSeq fun _=>#[])).get? h1.objs.size=some (seqObj "list" #[] e):=⟨_,get?_update_seq g2 fun _=>#[]⟩
 have g4:((((h1.push (seqObj "list" vs.toArray 0)).update h1.objs.size (Obj.mapSeq fun _=>#[])).push (seqObj "tuple" vs.toArray 0)).push (seqObj "list" #[] 0)).get? h1.objs.size=some (seqObj "list" #[] e1):=get?_push_of_some _ (get?_push_of_some _ g3);refine h _ tk h1.objs.size _ q (fun b o q=>?_) z1 (get?_update_seq g4 fun _=>outOf vs q) hq;have hb:b<h1.objs.size:=lt_size (k1 b o q);rw[get?_update_ne _ _ _ _ (ne_of_lt hb)];refine get?_push_of_some _ (get?_push_of_some _ ?_);rw[get?_update_ne _ _ _ _ (ne_of_lt hb)];exact get?_push_of_some _ (k1 b o q)
end
end Srt
namespace L2
open PySem PySem.Spec PyProof.Rows PySem.W
def jcH (k:Int×Int×Int):List Key:=[Sum.inl k.1,Sum.inl k.2.1,Sum.inl k.2.2]
section
variable {X:Cx}
theorem jeM {prog:Program}{w:World}{H:Hp}{h:Heap}(ok:HOk prog w H h):∀{bs:List Addr}{ks:List (Int×Int×Int)},bs.length=ks.length->(∀(j:Nat) (k:Int×Int×Int) (b:Addr),ks[j]? = some k->bs[j]? = some b->H b=some (.tup ((jcH k).map kV)))->Sr3.All3 h (bs.map Value.ref) ks
 | [],[],_,_=>trivial
 | [],_::_,e,_=>by cases e
 | _::_,[],e,_=>by cases e
 | b::bs,k::ks,e,f=>by
  refine⟨?_,jeM ok (Nat.succ.inj e) fun j k b e1 e2=>f (j+1) k b e1 e2⟩
  obtain⟨_,its,r,o,h1,h2,n,h3⟩:=(show yk prog w H h b (.tup ((jcH k).map kV))from ok b _ (f 0 k b rfl rfl))
  cases r with
  | cons r1 t1 =>
   cases t1 with
   | cons r2 t2 =>
    cases t2 with
    | cons r3 t3 =>
     cases t3;obtain⟨u1,rfl⟩:=r1;obtain⟨u2,rfl⟩:=r2;obtain⟨u3,rfl⟩:=r3;exact⟨b,o,u1,u2,u3,n,rfl,h1,h2,h3⟩
theorem jad (hc:X.calm=true):yM X (.builtin "sorted") (fun xs H Q=>∃ p kvs ks,xs=[.ref p]∧H p=some (.dT kvs)∧kvs.length<64∧kvs.map (·.1)=ks.map jcH ∧
  ∀(l:Addr) (bs:List Addr) (q:List Nat),H l=none->bs.length=kvs.length->(∀(j:Nat) (kv:List Key×V) (b:Addr),kvs[j]? = some kv->bs[j]? = some b->H b=some (.tup (kv.1.map kV)))->Sr3.Rises ks q->Q (.ref l) (upd H l (.lst (q.map fun i=>V.ref (bs.getD i 0))))):=by
 intro aa s σ H xs us Q I r h;obtain⟨p,kvs,ks,rfl,hp,fT,cU,q⟩:=h;obtain⟨u,rfl,rx⟩:=Vo r;cases rx
 obtain⟨hz,hd,ys,rel,o,es,ep,ho,hx,bX,cE,nd⟩:=(show yk X.prog X.w H s.heap p (.dT kvs)from I.hok p _ hp)
 obtain⟨bs,fR,hbv,gW⟩:=jfu (P:=X.prog) (w:=X.w) rel;have hsz:es.size=ys.length:=size_of_entries cE;have hyl:ys.length=kvs.length:=(Paired.length rel).symm
 have gM:kvs.length=ks.length:=by
  have:=congrArg List.length cU
  simpa using this
 have hb3:∀(j:Nat) (k:Int×Int×Int) (b:Addr),ks[j]? = some k->bs[j]? = some b->H b=some (.tup ((jcH k).map kV)):=fun j k b e1 e2=>by
  obtain⟨kv,cC⟩:∃ kv,kvs[j]? = some kv:=by
   have hj:j<ks.length:=by
    rcases Nat.lt_or_ge j ks.length with z | z
    ·exact z
    ·rw[getElem?_eq_none z]at e1;cases e1
   exact⟨_,getElem?_eq_getElem (by omega)⟩
  have e3:(kvs.map (·.1))[j]? = (ks.map jcH)[j]?:=by rw[cU]
  rw[getElem?_map,getElem?_map,cC,e1]at e3;have e4:kv.1=jcH k:=Option.some.inj e3;rw[<- e4];exact gW j kv b cC e2
 refine Srt.sorted_src3 (ks:=ks) (vs0:=bs.map Value.ref) (srcK hd hx bX) (I.ok.hd hc) ho (by rw[hsz,hyl];exact fT) (fun vs hv hp=>?_) (jeM I.hok (by rw[fR,gM]) hb3) (fun b hb=>?_) fun h' tk a e qs k1 z1 g hr=>?_
 ·rw[<- hbv];refine ext_getElem? fun j=>?_
  by_cases hj:j<es.size
  ·obtain⟨v,iq⟩:∃ v,vs[j]? = some v:=⟨_,getElem?_eq_getElem (by omega)⟩
   obtain⟨e1,e2,e3⟩:=hp j v iq;rw[entry_at cE j]at e2;rw[iq,getElem?_map]
   cases ey:ys[j]? with
   | none=>rw[ey]at e2;cases e2
   | some y =>
    rw[ey]at e2;cases e2;rw[e3];rfl
  ·rw[getElem?_eq_none (by omega),getElem?_map,getElem?_eq_none (by omega)];rfl
 ·obtain⟨c,cV,e⟩:=List.mem_map.mp hb;cases e;obtain⟨j,hj,e⟩:=List.mem_iff_getElem.mp cV
  obtain⟨kv,cC⟩:∃ kv,kvs[j]? = some kv:=⟨_,getElem?_eq_getElem (by omega)⟩
  have hb:=gW j kv b cC (by rw[getElem?_eq_getElem hj,e])
  obtain⟨_,its,r,o',h1,_⟩:=(show yk X.prog X.w H s.heap b (.tup (kv.1.map kV))from I.hok b _ hb)
  exact lt_size h1
 ·have hq:∀ i∈qs,i<bs.length:=fun i hi=>by
   have:=hr.1.mem_iff.mp hi
   rw[List.mem_range]at this;omega
  have ev:Srt.outOf (bs.map Value.ref) qs=((qs.map fun i=>bs.getD i 0).map Value.ref).toArray:=by
   unfold Srt.outOf;congr 1;rw[map_map];refine map_congr_left fun i hi=>?_;show(bs.map Value.ref).getD i Value.none=Value.ref (bs.getD i 0)
   have:=hq i hi
   simp[getD_eq_getElem?_getD,this]
  have ql:qs.length=ks.length:=by
   have:=hr.1.length_eq
   rw[length_range]at this;exact this
  refine⟨.ref a,_,I.laid (a:=a) (o:=.lst (qs.map fun i=>V.ref (bs.getD i 0))) (h':=h') (t':=tk) k1 z1 ?_,rfl,q a bs qs (I.hok.fresh z1) fR gW hr⟩;refine⟨by rw[length_map,sizeLine_eq];omega,(qs.map fun i=>bs.getD i 0).map Value.ref,e,?_,?_⟩
  ·have:=Vm (qs.map fun i=>bs.getD i 0)
   rw[map_map]at this;exact this
  ·rw[g,ev]
end
end L2
namespace L3
open PySem L2
def jfy (k:Int×Int×Int):List (Int×Int×Int)->List (Int×Int×Int)
 | []=>[k]
 | m::ms=>if Sr3.lexB3 m k=true then m::jfy k ms else k::m::ms
def vV:List (Int×Int×Int)->List (Int×Int×Int)
 | []=>[]
 | k::ks=>jfy k (vV ks)
theorem Yc (k:Int×Int×Int):∀ ms:List (Int×Int×Int),(jfy k ms).Perm (k::ms)
 | []=>.refl _
 | m::ms=>by
  unfold jfy;split
  ·exact((Yc k ms).cons m).trans (List.Perm.swap k m ms)
  ·exact .refl _
theorem xf:∀ ks:List (Int×Int×Int),(vV ks).Perm ks
 | []=>.refl _
 | k::ks=>(Yc k _).trans ((xf ks).cons k)
def jfW (ks:List (Int×Int×Int)):Prop:=ks.Pairwise fun x y=>Sr3.lexB3 y x=false
theorem lex3_tr {x y z:Int×Int×Int}(h1:Sr3.lexB3 y x=false)(h2:Sr3.lexB3 z y=false):Sr3.lexB3 z x=false:=by
 cases e:Sr3.lexB3 z x with
 | false=>rfl
 | true =>
  have a:=Sr3.lex_iff3.mp e
  have b:¬ _:=fun w=>by rw[Sr3.lex_iff3.mpr w]at h1;cases h1
  have c:¬ _:=fun w=>by rw[Sr3.lex_iff3.mpr w]at h2;cases h2
  omega
theorem Yv {k:Int×Int×Int}:∀{ms:List (Int×Int×Int)},jfW ms->jfW (jfy k ms)
 | [],_=>List.pairwise_singleton _ _
 | m::ms,h=>by
  unfold jfy;have h':=List.pairwise_cons.mp h;split
  ·rename_i hc;refine List.pairwise_cons.mpr ⟨fun z hz=>?_,Yv h'.2⟩
   rcases List.mem_cons.mp ((Yc k ms).mem_iff.mp hz)with e | e
   ·subst e
    cases e2:Sr3.lexB3 z m with
    | false=>rfl
    | true=>have a:=Sr3.lex_iff3.mp hc;have b:=Sr3.lex_iff3.mp e2;omega
   ·exact h'.1 z e
  ·rename_i hc
   have hc:Sr3.lexB3 m k=false:=by simpa using hc
   refine List.pairwise_cons.mpr ⟨fun z hz=>?_,h⟩
   rcases List.mem_cons.mp hz with e | e
   ·rw[e];exact hc
   ·exact lex3_tr hc (h'.1 z e)
theorem vC:∀ ks:List (Int×Int×Int),jfW (vV ks)
 | []=>.nil
 | k::ks=>Yv (vC ks)
theorem lex3_eq {x y:Int×Int×Int}(h1:Sr3.lexB3 y x=false)(h2:Sr3.lexB3 x y=false):x=y:=by
 have b:¬ _:=fun w=>by rw[Sr3.lex_iff3.mpr w]at h1;cases h1
 have c:¬ _:=fun w=>by rw[Sr3.lex_iff3.mpr w]at h2;cases h2
 exact Prod.ext (by omega) (Prod.ext (by omega) (by omega))
theorem jbg:∀{xs ys:List (Int×Int×Int)},xs.Perm ys->jfW xs->jfW ys->xs=ys
 | [],ys,h,_,_=>(List.nil_perm.mp h).symm
 | x::xs,[],h,_,_=>absurd h.length_eq (by simp)
 | x::xs,y::ys,h,hx,hy=>by
  have fX:=List.pairwise_cons.mp hx;have gF:=List.pairwise_cons.mp hy
  have e:x=y:=by
   rcases List.mem_cons.mp (h.subset mem_cons_self)with z | z
   ·exact z
   ·rcases List.mem_cons.mp (h.symm.subset mem_cons_self)with w | w
    ·exact w.symm
    ·exact lex3_eq (fX.1 y w) (gF.1 x z)
  subst e;rw[jbg ((List.perm_cons x).mp h) fX.2 gF.2]
def tri (ns:List Int):Option (Int×Int×Int):=match ns with
 | [a,b,c]=>some (a,b,c)
 | _=>none
def jcg:List (List Int×PV)->Option (List (Int×Int×Int))
 | []=>some []
 | p::l=>(tri p.1).bind fun k=>(jcg l).map fun ks=>k::ks
def yd (k:Int×Int×Int):PV:=.tup [.int k.1,.int k.2.1,.int k.2.2]
def US (M:Sto)(x:PV):Option PV:=match x with
 | .ref i=>(match M.g i with
  | some (.dtv l)=>(match jcg l with
   | some ks=>if l.length<64 then some (.lst ((vV ks).map yd))else none
   | none=>none)
  | _=>none)
 | _=>none
theorem tri_eq {ns:List Int}{k:Int×Int×Int}(h:tri ns=some k):ns=[k.1,k.2.1,k.2.2]:=by
 unfold tri at h;split at h
 ·cases h;rfl
 ·cases h
theorem jds:∀{l:List (List Int×PV)}{ks:List (Int×Int×Int)},jcg l=some ks->l.map (·.1)=ks.map fun k=>[k.1,k.2.1,k.2.2]
 | [],_,h=>by cases h;rfl
 | p::l,_,h=>by
  unfold jcg at h
  cases h1:tri p.1 with
  | none=>rw[h1]at h;cases h
  | some k =>
   rw[h1]at h
   cases h2:jcg l with
   | none=>rw[h2]at h;cases h
   | some ks =>
    rw[h2]at h;cases h;rw[map_cons,map_cons,tri_eq h1,jds h2]
theorem Vw {W:Wd}:∀{l:List (List Int×PV)}{vs:List (List Key×V)},yJ W xw l vs->vs.map (·.1)=(l.map (·.1)).map xw
 | [],_,e=>by
  have e:_=[]:=e;subst e;rfl
 | p::l,_,⟨v,rs,e,_,t⟩=>by
  subst e;rw[map_cons,map_cons,map_cons,Vw t]
section
variable {X:Cx}{T:Tb}
theorem jfT (hc:X.calm=true):yM X (.builtin "sorted") (rC T (one US)):=uG (jad hc) fun W M H x v z Q k hh r e q=>by
 unfold US at e;split at e
 rotate_left
 ·cases e
 rename_i i;split at e
 rotate_left
 ·cases e
 rename_i l e5;split at e
 rotate_left
 ·cases e
 rename_i ks e6;split at e
 rotate_left
 ·cases e
 rename_i fT;cases e;obtain⟨a,rfl,ea⟩:=r;obtain⟨b,ob,g1,g2,g3,vs,rfl,ra⟩:=hh.m i _ e5;rw[ea]at g1;cases g1;have hk:=jds e6
 have hv:vs.map (·.1)=ks.map jcH:=by
  rw[Vw ra,hk,map_map];rfl
 have hlk:l.length=ks.length:=by
  have:=congrArg List.length hk
  simpa using this
 refine⟨a,vs,ks,rfl,g3,by rw[ra.length];exact fT,hv,fun l' bs qs cJ fR gW hr=>?_⟩
 obtain⟨W1,l1,h1,r1⟩:=jiI l bs hh (by rw[fR,ra.length]) fun j p b e1 e2=>by
  obtain⟨kv,e3,e4⟩:=jhD ra j p e1
  have:=gW j kv b e3 e2
  rw[e4,xS]at this;exact this
 have el:(l.map fun p=>PV.tup (p.1.map PV.int))=ks.map yd:=by
  have:(l.map fun p=>PV.tup (p.1.map PV.int))=(l.map (·.1)).map fun ns=>PV.tup (ns.map PV.int):=by rw[map_map];rfl
  rw[this,hk,map_map];rfl
 rw[el]at r1;have hq:∀ i∈qs,i<ks.length:=fun i hi=>List.mem_range.mp (hr.1.mem_iff.mp hi)
 have r2:=Vu r1 qs fun i hi=>by rw[length_map];exact hq i hi
 have e2:(qs.map fun i=>(ks.map yd).getD i .non)=(vV ks).map yd:=by
  have e3:(qs.map fun i=>ks.getD i (0,0,0))=vV ks:=by
   refine jbg ?_ hr.2 (vC ks)
   have e4:(List.range ks.length).map (fun i=>ks.getD i (0,0,0))=ks:=by
    refine List.ext_getElem (by simp) fun i h1 h2=>?_;simp[getD_eq_getElem?_getD,h2]
   have:=hr.1.map fun i=>ks.getD i (0,0,0)
   rw[e4]at this;exact this.trans (xf ks).symm
  rw[<- e3,map_map];refine map_congr_left fun i hi=>?_
  have:=hq i hi
  show(ks.map yd).getD i .non=yd (ks.getD i (0,0,0));rw[getD_eq_getElem?_getD,getD_eq_getElem?_getD,getElem?_map,getElem?_eq_getElem this];rfl
 have e7:(qs.map fun i=>(bs.map V.ref).getD i .non)=qs.map fun i=>V.ref (bs.getD i 0):=map_congr_left fun i hi=>by
  have h1:=hq i hi
  have h2:i<bs.length:=by rw[fR,ra.length,hlk];exact h1
  rw[getD_eq_getElem?_getD,getD_eq_getElem?_getD,getElem?_map,getElem?_eq_getElem h2];rfl
 rw[e2,e7]at r2;obtain⟨W2,l2,h2,r3⟩:=vI h1 r2 cJ;exact q W2 _ _ (l1.trans l2) h2 r3
end
end L3
namespace L2
open PySem PySem.Spec PyProof.Rows PySem.W
section
variable {prog:Program}{w:World}{A:Around}{E:Value->Shared->Prop}{s:Shared}
theorem jcB {it d:Addr}{i ep:Nat}{es:Array DictEntry}{od:Obj}{Q:Option Value->Shared->Prop}(hit:s.heap.IsValIter it d i es.size ep)(cT:s.heap.get? d=some od)(cu:od.data = .dict es ep)(fI:i<es.size)
  (hQ:∀ h',h'.IsValIter it d (i+1) es.size ep->SameBut it s.heap h'->Q (some es[i].val) { s with heap:=h' }):wpAny (model prog w) A (pyNext (.ref it)) Q E s:=by
 obtain⟨o,ho,hc,hd⟩:=id hit;unfold pyNext
 refine wpAny_bind (wpAny_attempt (wpAny_callSpecial?_slot (name:=Str.ofString "__next__") hit.typeIs PySem.F.slot_dict_valueiterator_next
  (wpAny_call_entry PySem.F.slot_dict_valueiterator_next hit.typeIs PySem.F.entry_dict_valueiterator_next ?_ (PySem.F.args_dict_valueiterator_next_1 _))))
 refine wpAny_bind (wpAny_pure ?_);refine wpAny_bind ?_;refine wpAny_bind ?_
 first | refine wpAny_bind (wpAny_typeNameOfWhole_valiter hit.typeIs (wpAny_pure ?_)) | refine wpAny_bind (wpAny_typeNameOf_valiter hit.typeIs (wpAny_pure ?_))
 refine wpAny_bind (wpAny_fieldsOf ho hd ?_)
 have bV:Builtin.Dict_items.ownsTuple "dict_valueiterator" = false:=by decide
 simp only[bV,false_eq_true,if_false];show wpAny _ _ (if(Value.ref d==Value.none)=true then _ else _) _ _ s;rw[if_neg (show ¬((Value.ref d==Value.none)=true)from Bool.false_ne_true)];refine wpAny_bind (wpAny_pure ?_);refine wpAny_bind (wpAny_dictEntries cT cu ?_);rw[if_neg (by simp)];refine wpAny_bind (wpAny_pure ?_);refine wpAny_bind (wpAny_dictEpoch cT cu ?_);rw[if_neg (by simp)];refine wpAny_pure ?_;simp only[show ¬((i:Int)<0)from by omega,if_false,Int.toNat_natCast,Array.getElem?_eq_getElem fI];refine wpAny_bind ?_
 first | refine wpAny_bind (wpAny_typeNameOfWhole_valiter hit.typeIs (wpAny_pure ?_)) | refine wpAny_bind (wpAny_typeNameOf_valiter hit.typeIs (wpAny_pure ?_))
 refine wpAny_bind (wpAny_isOneOf_valiter hit.typeIs ?_);show wpAny _ _ (setField (.ref it) 1 (rawInt ((i:Int)+1)) >>= _) _ _ s;refine wpAny_bind (wpAny_setField ho hd (by simp) ?_)
 have cn:(s.heap.update it (Obj.mapFields (·.setIfInBounds 1 (rawInt ((i:Int)+1))))).IsValIter it d (i+1) es.size ep :=
  ⟨_,get?_update_self _ ho (Obj.isFreed_of_fields (Obj.data_mapFields hd _)),(Obj.cls_mapFields ..).trans hc,by rw[Obj.data_mapFields hd];simp[rawInt]⟩
 refine wpAny_bind (wpAny_holding ?_);refine wpAny_bind (wpAny_isOneOf_valiter (s:={ s with heap:=s.heap.update it (Obj.mapFields (·.setIfInBounds 1 (rawInt ((i:Int)+1)))) }) cn.typeIs ?_);rw[if_neg (by decide)];refine wpAny_bind (wpAny_isOneOf_valiter (s:={ s with heap:=s.heap.update it (Obj.mapFields (·.setIfInBounds 1 (rawInt ((i:Int)+1)))) }) cn.typeIs ?_);show wpAny _ _ (pure es[i].val) _ _ _;exact wpAny_pure (wpAny_pure ⟨_,rfl,wpAny_pure (hQ _ cn (Heap.SameBut.update ..))⟩)
theorem jfm {it d:Addr}{i ep:Nat}{es:Array DictEntry}{od:Obj}{Q:Option Value->Shared->Prop}(hh:A.handled=none)(hit:s.heap.IsValIter it d i es.size ep)(cT:s.heap.get? d=some od)(cu:od.data = .dict es ep)(i6:es.size<=i)
  (hQ:∀ h',ExtBut it s.heap h'->Q none { s with heap:=h' }):wpAny (model prog w) A (pyNext (.ref it)) Q E s:=by
 obtain⟨o,ho,hc,hd⟩:=id hit;unfold pyNext
 refine wpAny_bind (wpAny_attempt (wpAny_callSpecial?_slot (name:=Str.ofString "__next__") hit.typeIs PySem.F.slot_dict_valueiterator_next
  (wpAny_call_entry PySem.F.slot_dict_valueiterator_next hit.typeIs PySem.F.entry_dict_valueiterator_next ?_ (PySem.F.args_dict_valueiterator_next_1 _))))
 refine wpAny_bind (wpAny_pure ?_);refine wpAny_bind ?_;refine wpAny_bind ?_
 first | refine wpAny_bind (wpAny_typeNameOfWhole_valiter hit.typeIs (wpAny_pure ?_)) | refine wpAny_bind (wpAny_typeNameOf_valiter hit.typeIs (wpAny_pure ?_))
 refine wpAny_bind (wpAny_fieldsOf ho hd ?_)
 have bV:Builtin.Dict_items.ownsTuple "dict_valueiterator" = false:=by decide
 simp only[bV,false_eq_true,if_false];show wpAny _ _ (if(Value.ref d==Value.none)=true then _ else _) _ _ s;rw[if_neg (show ¬((Value.ref d==Value.none)=true)from Bool.false_ne_true)];refine wpAny_bind (wpAny_pure ?_);refine wpAny_bind (wpAny_dictEntries cT cu ?_);rw[if_neg (by simp)];refine wpAny_bind (wpAny_pure ?_);refine wpAny_bind (wpAny_dictEpoch cT cu ?_);rw[if_neg (by simp)];refine wpAny_pure ?_;simp only[show ¬((i:Int)<0)from by omega,if_false,Int.toNat_natCast,Array.getElem?_eq_none i6];refine wpAny_bind ?_
 first | refine wpAny_bind (wpAny_typeNameOfWhole_valiter hit.typeIs (wpAny_pure ?_)) | refine wpAny_bind (wpAny_typeNameOf_valiter hit.typeIs (wpAny_pure ?_))
 show wpAny _ _ (setField (.ref it) 0 .none >>= _) _ _ s;refine wpAny_bind (wpAny_setField ho hd (by simp) ?_);show wpAny _ _ (newExc (.type "StopIteration") [] >>= _) _ _ _;refine wpAny_bind ?_;simp only[newExc,newTuple];refine wpAny_bind (wpAny_newObj_type ?_ (by size_fits));refine wpAny_bind (m:=firstArgMember _ _) (wpAny_of_eq (a:=Value.none) (by first | rfl | (simp only[firstArgMember];rfl)) ?_);refine wpAny_newObj_type ?_ (by size_fits);simp only[raiseNew];refine wpAny_bind (wpAny_handled ?_);rw[show A.in1.handled=none from hh];refine wpAny_bind (wpAny_pure (wpAny_throw ?_));refine wpAny_bind (wpAny_isInstance (T:="StopIteration") (b:=true) ⟨_,get?_push_size _ rfl,rfl⟩ isSubtype_stop ?_);exact wpAny_pure (hQ _ (((Heap.SameBut.update ..).extBut.push _).push _))
theorem meetsV {P:Program}{W:World}(d:Addr)(nd:(d==sysModules)=false):MeetsIn P W (Builtin.«dict.values» ⟨[.ref d],[]⟩) (fun _ R s=>(∃ o,s.heap.get? d=some o∧o.ExactDict)∧R (.ok (.ret (.ref s.heap.objs.size))) { s with heap:=s.heap.push { cls:=.type "dict_values",data:=.fields #[.ref d] } }) :=
 .of_wp fun A R s hR=>by
  obtain⟨⟨o,ho,hx⟩,h⟩:=hR;unfold Builtin.«dict.values»;refine wpAny_bind ?_;unfold Builtin.Dict.noArgs;refine wpAny_bind (wpAny_notOrdered_dict ⟨o,ho,hx.1⟩ ?_);show wpAny _ _ (pure d) _ _ s;refine wpAny_pure ?_;show wpAny _ _ (Builtin.Dict.showsAll d >>= _) _ _ s;unfold Builtin.Dict.showsAll;rw[if_neg (by rw[nd];exact Bool.false_ne_true)];refine wpAny_bind (wpAny_pure ?_);exact wpAny_bind (wpAny_newObj_type (wpAny_pure ⟨_,rfl,h⟩))
theorem iterV {v d:Addr}{od:Obj}{es:Array DictEntry}{ep:Nat}{Q:Value->Shared->Prop}(hv:s.heap.IsValuesView v d)(ho:s.heap.get? d=some od)(hd:od.data = .dict es ep)
  (hQ:Q (.ref s.heap.objs.size) { s with heap:=s.heap.push { cls:=.type "dict_valueiterator",data:=.fields #[.ref d,.int 0 0,.int es.size 0,.int ep 0] } }):wpAny (model prog w) A (pyIter (.ref v)) Q E s:=by
 obtain⟨ov,hov,hcv,hdv⟩:=id hv;refine wpAny_pyIter_slot hv.typeIs F.slot_dict_values_iter (wpAny_call_entry F.slot_dict_values_iter hv.typeIs F.entry_dict_values_iter ?_ (F.args_dict_values_iter_1 _));unfold Builtin.«dict_values.__iter__»;refine wpAny_bind (wpAny_pure ?_);refine wpAny_bind ?_;unfold Builtin.Dict_items.dictOf;refine wpAny_bind (wpAny_field hov hdv (x:=.ref d) rfl (wpAny_pure ?_));refine wpAny_bind ?_;unfold Builtin.Dict_items.newIterator;refine wpAny_bind (wpAny_dictEntries ho hd ?_);refine wpAny_bind (wpAny_dictEpoch ho hd ?_)
 have bV:Builtin.Dict_items.ownsTuple "dict_valueiterator" = false:=by decide
 simp only[bV,false_eq_true,if_false];refine wpAny_newObj_type (wpAny_pure ⟨_,rfl,"dict_valueiterator",_,⟨_,get?_push_size _ rfl,rfl⟩,F.slot_dict_valueiterator_next.lookup,?_⟩);simpa[rawInt]using hQ
end
def Itv (a:Addr)(o:Obj)(kvs:List (List Key×V)):It :=
 ⟨fun i H=>H a=some (.frz o (.dT kvs))∧i<kvs.length,fun i H x H'=>∃ kv,kvs[i]? = some kv∧x=kv.2∧H'=H,fun i H=>H a=some (.frz o (.dT kvs))∧kvs.length<=i⟩
theorem jeV {P:Program}{w:World}{K:Frag}{tg:Expr}{a it:Addr}{o:Obj}{es:Array DictEntry}{ep:Nat}{kvs:List (List Key×V)}(hd:o.data = .dict es ep)(hz:es.size=kvs.length) :
  Turn P w K tg (Itv a o kvs) [it] it (fun i h=>h.IsValIter it a i es.size ep) where
 mem:=by simp
 obj:=fun i h st c hc=>by
  obtain⟨oi,h1,h2,h3⟩:=st
  have hc:c=it:=by simpa using hc
  subst hc;exact⟨_,h1,fun v e=>by rw[h3]at e;cases e⟩
 keep:=fun i h h' st k=>by
  obtain⟨oi,h1,h2,h3⟩:=st;exact⟨oi,k it (by simp) _ h1,h2,h3⟩
 item:=by
  intro X hP hw hK hc i aa s σ H E I hf st hg;subst hP hw hK;obtain⟨ha,lt⟩:=hg
  obtain⟨ho,_,_,xs,rel,o',bf,g9,a9,fX,c6,cE,nd⟩:=(show yk X.prog X.w H s.heap a (.frz o (.dT kvs))from I.hok a _ ha)
  rw[ho]at a9;cases a9;rw[hd]at c6;cases c6
  have gE:i<es.size:=by rw[hz];exact lt
  obtain⟨f0,f1,f2,f3,f4,f5⟩:=hf it (by simp);refine jcB st ho hd gE fun h' out same=>?_;have e1:es[i]? = (xs[i]?).map (entryOfKey (tupleKind (ye X.prog X.w))):=entry_at cE i
  obtain⟨kv,cC⟩:∃ kv,kvs[i]? = some kv:=⟨_,getElem?_eq_getElem lt⟩
  obtain⟨q,hq,z1,z2,z3⟩:=L2.Paired.at rel cC
  have e2:es[i]=entryOfKey (tupleKind (ye X.prog X.w)) q:=by
   rw[hq,Array.getElem?_eq_getElem gE]at e1;exact Option.some.inj e1
  have kk:es[i].val=q.2.2:=by rw[e2];rfl
  obtain⟨oi,h1,h2,h3⟩:=id out;refine⟨_,rfl,jbl (s:={ s with heap:=h' }) h1 h2 h3 (by decide) ⟨kv.2,H,I.turned (t':=s.toks) (fun b ob hb e=>same.extBut b ob hb e) f0 f1 f3 f4 f5,by rw[kk];exact z3,⟨kv,cC,rfl,rfl⟩,out,fun c hc=>?_⟩⟩
  have hc:c=it:=by simpa using hc
  rw[hc];exact f0
 done:=by
  intro X hP hw hK hc i aa s σ H E I hf st hg;subst hP hw hK;obtain⟨ha,ge⟩:=hg
  obtain⟨ho,_⟩:=(show yk X.prog X.w H s.heap a (.frz o (.dT kvs))from I.hok a _ ha)
  obtain⟨f0,f1,f2,f3,f4,f5⟩:=hf it (by simp)
  exact jfm (I.ok.hd hc) st ho hd (by rw[hz];exact ge) fun h' eb=>⟨rfl,I.turned (t':=s.toks) (fun b o hb q=>eb b o hb q) f0 f1 f3 f4 f5⟩
 self:=fun A i s Q E st h=>wpAny_pyIter_valiter st h
def iValsT (te:TE):TI:=fun σ H R=>te σ H fun x H1=>∃ a kvs,x = .ref a∧H1 a=some (.dT kvs)∧∀ o,R (Itv a o kvs) (upd H1 a (.frz o (.dT kvs)))
theorem jgZ {X:Cx}{tg l:Expr}{te:TE}{apos ar:Pos}(he:PE X l te)(bB:attributeBase l "values" X.env (eval l X.env)=eval l X.env:=by rfl)(bz:(apos.endLine==ar.line)=true:=by rfl) :
  PI X tg (.Call (.Attribute l "values" apos) [] [] ar) (iValsT te):=by
 intro aa s σ H R I h;refine wpAny_Call_method0_late bB bz (thn (he aa s σ H _ I h) fun v s1 ae=>?_);obtain⟨x,H1,I1,rx,a,kvs,rfl,ha,q⟩:=ae;obtain rfl:v=Value.ref a:=rx;obtain⟨o,I2⟩:=I1.freezeD ha
 obtain⟨ho,hl,hd,xs,rel,o',es,ep,a9,hx,bX,cE,nd⟩:=(show yk X.prog X.w _ s1.heap a (.frz o (.dT kvs))from I2.hok a _ jr)
 rw[ho]at a9;cases a9
 have hz:es.size=kvs.length:=by rw[size_of_entries cE];exact(Paired.length rel).symm
 have t1:s1.TypeIs (.ref a) "dict":=⟨o,ho,hx.1⟩
 have t2:∀ b,Value.ref a = .ref b->∃ ob,s1.heap.get? b=some ob∧ob.dict=none:=fun b q=>by
  cases q;exact⟨o,ho,hx.2.1⟩
 refine⟨"dict","dict.values",PySem.F.plainAttrs_dict,PySem.F.slot_dict_values,PySem.F.type_dict_values,t1,t2,Calls.callWith_builtin rfl (PySem.evalArgs_none ?_)⟩;refine call_meetsIn PySem.F.slot_dict_values t1 PySem.F.entry_dict_values (PySem.F.args_dict_values_1 _) (meetsV a hd) ⟨⟨o,ho,hx⟩,?_⟩;have up:∀ b ob,s1.heap.get? b=some ob->(s1.heap.push { cls:=.type "dict_values",data:=.fields #[.ref a] }).get? b=some ob:=fun b ob e=>get?_push_of_some _ e;refine iterV (od:=o) (es:=es) (ep:=ep) ⟨_,get?_push_size _ rfl,rfl,rfl⟩ (up _ _ ho) bX ?_;have sz:(s1.heap.push { cls:=.type "dict_values",data:=.fields #[.ref a] }).objs.size=s1.heap.objs.size+1:=size_push ..;refine⟨_,[_],_,_,upd H1 a (.frz o (.dT kvs)),rfl,I2.kept (t':=s1.toks) (fun b ob e=>get?_push_of_some _ (up b ob e)),jeV bX hz,⟨_,get?_push_size _ rfl,rfl,rfl⟩,fun c hc=>?_,q o⟩
 have hc:c=(s1.heap.push { cls:=.type "dict_values",data:=.fields #[.ref a] }).objs.size:=by simpa using hc
 have le:s1.heap.objs.size<=c:=by rw[hc,sz];exact le_succ _
 exact I2.fpOk le (I2.hok.fresh le)
end L2
namespace L3
open PySem L2
def jdo (M:Sto)(x:PV):Option (List PV×Sto):=match x with
 | .ref j=>(match M.g j with
  | some (.dtv l)=>some (l.map (·.2),M.drop j)
  | _=>none)
 | _=>none
def UV (d:DE):En->Sto->Res ItP:=fun ρ M=>(d ρ M).bind fun x M1=>match jdo M1 x with
 | some (xs,M2)=>.ok (.fix xs) M2
 | none=>.bad
theorem jdp {W:Wd}:∀{l:List (List Int×PV)}{vs:List (List Key×V)},yJ W xw l vs->∀(i:Nat) (z:PV),(l.map (·.2))[i]? = some z->∃ kv,vs[i]? = some kv∧Rep W z kv.2
 | [],_,_,_,_,e=>by cases e
 | _::_,_,⟨_,_,e,r,_⟩,0,z,q=>by subst e;cases q;exact⟨_,rfl,r⟩
 | _::_,_,⟨_,_,e,_,t⟩,i+1,z,q=>by subst e;exact jdp t i z q
section
variable {X:Cx}{T:Tb}{ES:St->XK}{e:Expr}{d:DE}
theorem jgG {tg:Expr}{apos ar:Pos}(h:QE X T ES e d)(bB:attributeBase e "values" X.env (eval e X.env)=eval e X.env:=by rfl)(bz:(apos.endLine==ar.line)=true:=by rfl) :
  QI X T ES tg (.Call (.Attribute e "values" apos) [] [] ar) (UV d) :=
 ⟨uS (jgZ h.h bB bz) fun σ H R ae=>jC ae fun W ρ M k hh hs q=>⟨W,ρ,M,k,hh,hs,yg.bind q fun W1 M1 x v H1 l1 h1 r1 p1=>by
  split at p1
  rotate_left
  ·exact p1.elim
  rename_i xs M2 e2;unfold jdo at e2;split at e2
  rotate_left
  ·cases e2
  rename_i j;split at e2
  rotate_left
  ·cases e2
  rename_i l e5;cases e2;obtain⟨a,rfl,ea⟩:=r1;obtain⟨b,u,g1,g2,g3,vs,rfl,ra⟩:=h1.m j _ e5;rw[ea]at g1;cases g1;refine⟨a,vs,rfl,g3,fun ob=>?_⟩;obtain⟨le,h2⟩:=h1.freezeU (v:=.dT vs) e5 ea ob;have fa:(W1.frz a (.frz ob (.dT vs))).F a=some (.frz ob (.dT vs)):=jr
  refine p1 _ _ _ le h2 fun W' M' H' iR aO i=>⟨fun z e=>?_,fun e=>?_⟩
  ·have e:(l.map (·.2))[i]? = some z:=Option.some.inj e;obtain⟨kv,cC,rz⟩:=jdp ra i z e
   have hi:i<vs.length:=by
    rcases Nat.lt_or_ge i vs.length with q | q
    ·exact q
    ·rw[getElem?_eq_none q]at cC;cases cC
   refine⟨⟨aO.f _ _ (iR.f _ _ fa),hi⟩,fun w H3 hy=>?_⟩;obtain⟨kv',hkv',rfl,rfl⟩:=hy;rw[cC]at hkv';cases hkv';exact⟨W',.refl W',aO,(rz.up0 le.toLe0).up0 iR⟩
  ·have e:(l.map (·.2))[i]? = none:=Option.some.inj e;refine⟨aO.f _ _ (iR.f _ _ fa),?_⟩;rw[List.getElem?_eq_none_iff,length_map]at e;rw[ra.length]
   exact e⟩⟩
end
def emG (p:ItP)(g:DG)(em:EM)(ρ:En):Nat->Nat->Sto->Res (List PV)
 | 0,_,_=>.bad
 | n+1,k,M=>match nxt p M k with
  | none=>.bad
  | some none=>.ok [] M
  | some (some x)=>match g x ρ with
   | none=>.bad
   | some ρ'=>(em ρ' M).noX.bind fun ys M2=>(emG p g em ρ n (k+1) M2).noX.bind fun zs M3=>.ok (ys++zs) M3
def jbv (g:DG)(di:En->Sto->Res ItP)(em:EM):EM:=fun ρ M=>(di ρ M).noX.bind fun p M1=>emG p g em ρ (yj p M1) 0 M1
def Yk (di:En->Sto->Res ItP)(g:DG)(own:Nat)(js:List Nat)(em:EM):DE:=fun ρ M=>(di ρ M).bind fun p M1=>(emG p g em (replicate own none++rest js ρ) (yj p M1) 0 M1).noX.bind fun ys M2=>if ys.length<=sizeLine then .ok (.lst ys) M2 else .bad
structure QMG (X:Cx)(T:Tb)(own:Nat)(ax:Expr)(gens:List Comprehension)(sc:Scope)(pos:Pos)(d e:Nat)(em:EM):Prop where
 h:PMb X ax gens sc pos d (lfM T own e em)
section
variable {X:Cx}{T:Tb}{ES:St->XK}{own d:Nat}{ax ab iter:Expr}{gens:List Comprehension}{sc:Scope}{pos:Pos}{di:En->Sto->Res ItP}{em:EM}{de:DE}
theorem jaP {e0:Nat}(b6:X.xe=fun _ _=>False)(h1:gens[d+1]? = none)(he:QE X T ES0 ax de):QMG X T own ax gens sc pos d e0 (emE de):=by
 refine⟨fun acc aa s σ H N I hQ=>pm_last b6 h1 he.h acc aa s σ H N I ?_⟩;obtain⟨W,ρ,M,vs,k,hh,hs,ga,hN,f⟩:=hQ;refine⟨W,ρ,M,k,hh,hs,?_⟩;unfold emE at f
 cases e:de ρ M with
 | bad=>rw[e]at f;exact f.elim
 | exc _ _=>rw[e]at f;exact f.elim
 | ok y M1 =>
  rw[e]at f;have f:jdj W acc ρ vs N (.ok [y] M1):=f;obtain⟨hz,f⟩:=f;intro W' H' v l h' r
  have ga':W'.G acc=some (.lst vs):=by rw[l.g];exact ga
  refine⟨vs,(h'.gd _ _ ga').1,hz,?_⟩;refine f (W'.gd acc (.lst (vs++[v]))) σ _ [v] (l.toLe0.trans Wd.le0_gd) ?_ (h'.reguard ga') ⟨v,[],rfl,r.up0 Wd.le0_gd,rfl⟩ ((hs.up l).up0 Wd.le0_gd);show L2.upd W'.G acc _=_;rw[l.g]
theorem jgd {W0:Wd}{it:ItP}{J:It}{acc:Addr}{ρ:En}{vs:List V}{N:St->Hp->Prop}{g:DG}{i0 e0:Nat}{M0:Sto}{σ:St}{H0:Hp}{tb:TB}(k0:W0.T=T)(ri:RI W0 it J)(g0:W0.G acc=some (.lst vs))(un:uN g own i0 e0)(hn:∀ j,i0<=j->j<own->ρ[j]? = some none)(h0:Held W0 M0 H0)(hs:yl W0 ρ σ)
  (f:jdj W0 acc ρ vs N (emG it g em ρ (yj it M0) 0 M0))
  (body:∀(W:Wd) (M:Sto) (ρ':En) (us:List V) (N':St->Hp->Prop) (σ4:St) (H4:Hp),W.T=T->Held W M H4->yl W ρ' σ4->(∀ j,e0<j->j<own->ρ'[j]? = some none)->W.G acc=some (.lst us)->jdj W acc ρ' us N' (em ρ' M)->tb acc σ4 H4 N') :
  ∃ Wk:Nat->Nat->St->Hp->Prop,(∃ m,Wk 0 m σ H0)∧∀ i m σ2 H2,Wk i m σ2 H2->(J.stop i H2∧N σ2 H2) ∨
   (J.go i H2∧∃ N':St->Hp->Prop,(∀ σ' H',N' σ' H'->∃ m',m'<m∧Wk (i+1) m' σ' H')∧∀ v H3,J.yld i H2 v H3->jhB T g v σ2 H3 fun σ4 H4=>tb acc σ4 H4 N'):=by
 let eY:Nat->Nat->St->Hp->Prop:=fun i m σ2 H2=>∃ W1 M1 us ys,W0.le0 W1∧W1.G=L2.upd W0.G acc (.lst (vs++us))∧Held W1 M1 H2∧yc W1 ys us∧yl W1 ρ σ2∧(match emG it g em ρ m i M1 with
  | .ok zs M'=>vs.length+(ys.length+zs.length)<=sizeLine∧∀ W' σ' H' ws,W0.le0 W'->W'.G=L2.upd W0.G acc (.lst (vs++ws))->Held W' M' H'->yc W' (ys++zs) ws->yl W' ρ σ'->N σ' H'
  | _=>False)
 refine⟨eY,⟨yj it M0,W0,M0,[],[],(Wd.le.refl W0).toLe0,by rw[append_nil,jce g0],h0,rfl,hs,?_⟩,?_⟩
 ·cases e:emG it g em ρ (yj it M0) 0 M0 with
  | bad=>rw[e]at f;exact f.elim
  | exc _ _=>rw[e]at f;exact f.elim
  | ok zs M' =>
   rw[e]at f;refine⟨by simpa using f.1,fun W' σ' H' ws le g h r s=>f.2 W' σ' H' ws le g h (by simpa using r) s⟩
 rintro i m σ2 H2 ⟨W1,M1,us,ys,bK,g1,h1,r1,s1,f1⟩;have k1:W1.T=T:=bK.k.trans k0;have rl:=r1.length
 cases m with
 | zero=>exact f1.elim
 | succ m =>
  unfold emG at f1;obtain⟨bZ,a6⟩:=ri W1 M1 H2 bK h1 i;split at f1
  rotate_left
  ·exact f1.elim
  rename_i zs M' ef;split at ef
  ·cases ef
  ·rename_i en;cases ef;exact .inl ⟨a6 en,f1.2 W1 σ2 H2 us bK g1 h1 (by simpa using r1) s1⟩
  ·rename_i x en;obtain⟨go,yld⟩:=bZ x en;refine .inr ⟨go,eY (i+1) m,fun σ' H' q=>⟨m,lt_succ_self _,q⟩,fun v H3 hy=>?_⟩;obtain⟨W2,l2,h2,r2⟩:=yld v H3 hy
   have ga:W2.G acc=some (.lst (vs++us)):=by rw[l2.g,g1,jr]
   cases eg:g x ρ with
   | none=>rw[eg]at ef;cases ef
   | some ρ' =>
   rw[eg]at ef;have ef:((em ρ' M1).noX.bind fun ys M2=>(emG it g em ρ m (i+1) M2).noX.bind fun zs M3=>Res.ok (ys++zs) M3) = .ok zs M':=ef;obtain⟨jiC,fr⟩:=un x ρ ρ' eg hn;refine⟨W2,ρ,M1,x,ρ',l2.k.trans k1,h2,s1.up l2,r2,eg,fun σ4 s4=>?_⟩;refine body W2 M1 ρ' (vs++us) _ σ4 H3 (l2.k.trans k1) h2 s4 fr ga ?_
   cases e1:em ρ' M1 with
   | bad=>rw[e1]at ef;cases ef
   | exc _ _=>rw[e1]at ef;cases ef
   | ok eP M2 =>
    rw[e1]at ef;have ef:((emG it g em ρ m (i+1) M2).noX.bind fun zs M3=>Res.ok (eP++zs) M3) = .ok zs M':=ef
    cases e2:emG it g em ρ m (i+1) M2 with
    | bad=>rw[e2]at ef;cases ef
    | exc _ _=>rw[e2]at ef;cases ef
    | ok zs1 M3 =>
     rw[e2]at ef;cases ef;obtain⟨hz,f1⟩:=f1;simp only[length_append]at hz;refine⟨by simp only[length_append];omega,fun W' σ' H' ws le gg h r s=>?_⟩;refine⟨W',M2,us++ws,ys++eP,(bK.trans l2.toLe0).trans le,?_,h,((r1.up l2).up0 le).append r,jiC W' σ' s,?_⟩
     ·rw[gg,l2.g,g1,vB,append_assoc]
     ·rw[e2];refine⟨by simp only[length_append];omega,fun W' σ' H' iH le g h r s=>f1 W' σ' H' iH le g h (by simpa[append_assoc]using r) s⟩
theorem Xl {e i e':Nat}{g:DG}(b6:X.xe=fun _ _=>False)(hc:X.calm=true)(h1:gens[d+1]? = some ⟨ab,iter,[],0⟩)(h2:Plainly X.env gens (d+1))(hi:QI X T ES0 ab iter di)(hg:QG X T ab g)(un:uN g own i e')(hei:e<i)(hb:QMG X T own ax gens sc pos (d+1) e' em):QMG X T own ax gens sc pos d e (jbv g di em):=by
 refine⟨fun acc aa s σ H N I hQ=>jff b6 hc h1 h2 hi.h hg.h hb.h acc aa s σ H N I ?_⟩;obtain⟨W,ρ,M,vs,k,hh,hs,ga,hN,f⟩:=hQ;refine⟨W,ρ,M,k,hh,hs,?_⟩;unfold jbv at f
 cases ed:di ρ M with
 | bad=>rw[ed]at f;exact f.elim
 | exc _ _=>rw[ed]at f;exact f.elim
 | ok it M0 =>
  rw[ed]at f;have f:jdj W acc ρ vs N (emG it g em ρ (yj it M0) 0 M0):=f;intro W0 H0 J l0 h0 ri
  have g0:W0.G acc=some (.lst vs):=by rw[l0.g];exact ga
  refine jgd (T:=T) (em:=em) (M0:=M0) (l0.k.trans k) ri g0 un (fun j h1 h2=>hN j (by omega) h2) h0 (hs.up l0) ?_ ?_
  ·cases e2:emG it g em ρ (yj it M0) 0 M0 with
   | bad=>rw[e2]at f;exact f.elim
   | exc _ _=>rw[e2]at f;exact f.elim
   | ok zs M' =>
    rw[e2]at f;exact⟨f.1,fun W' σ' H' ws le g h r s=>f.2 W' σ' H' ws (l0.toLe0.trans le) (by rw[g,l0.g]) h r s⟩
  ·intro W1 M1 ρ' us N' σ4 H4 k1 h1 s1 fr g1 f1;exact⟨W1,ρ',M1,us,k1,h1,s1,g1,fr,f1⟩
theorem jcX {g:DG}{e0:Nat}{js:List Nat}{σ:St}{H:Hp}{Q:VK}(un:uN g own 0 e0)(h:lft T Rep ES (Yk di g own js em) σ H Q):jgj (lft T RI ES di) own js (jhB T g) (lfM T own e0 em) σ H Q:=by
 obtain⟨W,ρ,M,k,hh,hs,p⟩:=h;refine⟨W,ρ,M,k,hh,hs,yg.bind p fun W0 M0 it J H0 l0 h0 ri p0=>fun acc aB=>?_⟩;have k0:W0.T=T:=l0.k.trans k;have fY:=hs.up l0
 have cW:W0.G acc=none:=by
  cases q:W0.G acc with
  | none=>rfl
  | some o =>
   rw[(h0.gd acc o q).1]at aB;cases aB
 have p0:yg W0 Rep ((emG it g em (replicate own none++rest js ρ) (yj it M0) 0 M0).noX.bind fun ys M2=>if ys.length<=sizeLine then .ok (.lst ys) M2 else .bad) Q (ES σ):=p0
 cases e:emG it g em (replicate own none++rest js ρ) (yj it M0) 0 M0 with
 | bad=>rw[e]at p0;exact p0.elim
 | exc _ _=>rw[e]at p0;exact p0.elim
 | ok zs M' =>
 rw[e]at p0;have p0:yg W0 Rep (if zs.length<=sizeLine then .ok (.lst zs) M' else .bad) Q (ES σ):=p0
 by_cases hz:zs.length<=sizeLine
 rotate_left
 ·rw[if_neg hz]at p0;exact p0.elim
 rw[if_pos hz]at p0;have p0:∀ W' H' v,W0.le W'->Held W' M' H'->Rep W' (.lst zs) v->Q v H':=p0
 have hn:∀ j,0<=j->j<own->(replicate own none++rest js ρ)[j]? = some none:=fun j _ hj=>by
  rw[getElem?_append_left (by simpa using hj),getElem?_replicate,if_pos hj]
 have gn:(W0.gd acc (.lst [])).G acc=some (.lst []):=jr;refine jgd (T:=T) (em:=em) (M0:=M0) (W0:=W0.gd acc (.lst [])) (vs:=[]) (N:=fun _ H2=>Q (.ref acc) H2) (ρ:=replicate own none++rest js ρ) k0 (fun W' M' H' le=>ri W' M' H' (Wd.le0_gd.trans le)) gn un hn (h0.guard aB) ((Vv own fY).up0 Wd.le0_gd) ?_ ?_
 ·rw[e];refine⟨by simpa using hz,fun W' σ' H' ws le gg h r s=>?_⟩;rw[nil_append]at gg
  have g':W'.G=L2.upd W0.G acc (.lst ws):=by
   rw[gg];show L2.upd (L2.upd W0.G acc (.lst [])) acc _=_;rw[vB]
  have gb:W'.G acc=some (.lst ws):=by rw[g',jr]
  obtain⟨l2,h2⟩:=h.unguard (G0:=W0.G) gb fun b u q=>by
   have z:b≠acc:=fun z=>by rw[z,cW]at q;cases q
   exact⟨by rw[g',jk z];exact q,z⟩
  exact p0 (W'.out W0.G acc (.lst ws)) H' (.ref acc) ⟨(Wd.le0_gd.trans le).trans l2,rfl⟩ h2 ⟨acc,ws,rfl,jr,r.up0 l2⟩
 ·intro W1 M1 ρ' us N' σ4 H4 k1 h1 s1 fr g1 f1;exact⟨W1,ρ',M1,us,k1,h1,s1,g1,fr,f1⟩
end
section
variable {X:Cx}{T:Tb}{ES:St->XK}{osc sc:Scope}{own fr:List Str}{js:List Nat}{ax ab iter:Expr}{rest:List Comprehension}{pos:Pos}{di:En->Sto->Res ItP}{em:EM}{g:DG}{e0:Nat}
theorem jaR (un:uN g own.length 0 e0)(hc:X.calm=true)(ho:X.env.scope=osc)(S:CompScope osc sc own fr)(hj:js.map (fun j=>X.N[j]?)=fr.map some)(hi:QI X T ES ab iter di)
  (hg:∀ s₃ H₃ fp,QG (jQ X (own++fr) sc s₃ H₃ fp) T ab g) (aX:∀ s₃ H₃ fp,Plainly (jQ X (own++fr) sc s₃ H₃ fp).env (⟨ab,iter,[],0⟩::rest) 0) (hb:∀ s₃ H₃ fp,QMG (jQ X (own++fr) sc s₃ H₃ fp) T own.length ax (⟨ab,iter,[],0⟩::rest) sc pos 0 e0 em)
  (hs:∀ x,foldedSetIterable iter X.env x=pure x:=by intro _;rfl):QE X T ES (.ListComp ax (⟨ab,iter,[],0⟩::rest) sc pos) (Yk di g own.length js em) :=
 ⟨jN (jhh hc ho S hj hi.h (fun a b c=>(hg a b c).h) aX (fun a b c=>(hb a b c).h) hs) fun _ _ _=>jcX un⟩
end
def jdS (y:PV):Option (List Int):=match y with
 | .tup ks=>if ks.length=2∨ks.length=3 then vm ks else none
 | _=>none
def vt (do_ dy dz:DE):DE:=fun ρ M=>(do_ ρ M).bind fun o M1=>match o with
 | .ref i=>(match M1.g i with
  | some (.dtv _)=>(dy ρ M1).bind fun y M2=>(match jdS y with
   | some ns=>(dz ρ M2).bind fun z M3=>(match M3.g i with
    | some (.dtv l)=>if l.length<sizeLine then(match xb l ns with
     | some x=>.ok x M3
     | none=>.ok z (M3.set i (.dtv (xD l ns z))))else .bad
    | _=>.bad)
   | none=>.bad)
  | _=>.bad)
 | _=>.bad
section
variable {X:Cx}{T:Tb}{ES:St->XK}{o e f:Expr}{do_ dy dz:DE}
theorem jcq {apos ar:Pos}(eV:Yp T.K=true)(hu:X.A.units+1<cLine)(ho:QE X T ES o do_)(hy:QE X T ES e dy)(hz:QE X T ES f dz)(m:M2 X o "setdefault" apos e f ar):QE X T ES (.Call (.Attribute o "setdefault" apos) [e,f] [] ar) (vt do_ dy dz) :=
 ⟨jN (jcx hu ho.h hy.h hz.h m) fun σ H Q ae=>jC ae fun W ρ M k hh hs q=>⟨W,ρ,M,k,hh,hs,yg.bind q fun W1 M1 x v H1 l1 h1 r1 q1=>by
  split at q1
  rotate_left
  ·exact q1.elim
  rename_i i;split at q1
  rotate_left
  ·exact q1.elim
  rename_i l0 e0;obtain⟨a,rfl,ea⟩:=r1;obtain⟨b,ob,g1,g2,g3,vs0,rfl,ra0⟩:=h1.m i _ e0;rw[ea]at g1;cases g1;refine⟨a,rfl,.inr ⟨vs0,.inl g3⟩,W1,ρ,M1,l1.k.trans k,h1,hs.up l1,yg.bind q1 fun W2 M2 y yv H2 l2 h2 r2 q2=>?_⟩;split at q2
  rotate_left
  ·exact q2.elim
  rename_i ns e6;unfold jdS at e6;split at e6
  rotate_left
  ·cases e6
  rename_i ks;split at e6
  rotate_left
  ·cases e6
  rename_i h23;have ek:=xq e6;subst ek;obtain⟨p,kv,rfl,hb,rk⟩:=r2;have ev:kv=ns.map V.int:=yc.ints.mp rk;subst ev;have kT:W2.T=T:=l2.k.trans (l1.k.trans k);have hF:W2.F p=some (.tup (ns.map V.int)):=jgz (by rw[kT];exact eV) (by rw[length_map]at h23 ⊢;exact h23) hb;refine⟨W2,ρ,M2,kT,h2,(hs.up l1).up l2,yg.bind q2 fun W3 M3 z zv H3 l3 h3 r3 q3=>?_⟩;split at q3
  rotate_left
  ·exact q3.elim
  rename_i l e5;split at q3
  rotate_left
  ·exact q3.elim
  rename_i hl;have iD:W3.α i=some a:=l3.a _ _ (l2.a _ _ ea);obtain⟨b,ob,g1,g2',gZ,vs,rfl,ra⟩:=h3.m i _ e5;rw[iD]at g1;cases g1;refine⟨p,xw ns,vs,rfl,by rw[xS];exact h3.f _ _ (l3.f _ _ hF),gZ,by rw[ra.length];exact hl,fun v hv=>?_,fun hv=>?_⟩
  ·rcases ra.get yX ns with⟨a1,a2⟩ | ⟨x,v',a1,a2,rv⟩
   ·rw[a2]at hv;cases hv
   ·rw[a2]at hv;cases hv;rw[a1]at q3;exact q3 W3 H3 _ (.refl W3) h3 rv
  ·rcases ra.get yX ns with⟨a1,a2⟩ | ⟨x,v',a1,a2,rv⟩
   ·rw[a1]at q3;exact q3 W3 _ _ (.refl W3) (h3.upd e5 iD (c':=.dtv (xD l ns z)) (o:=.dT (vh vs (xw ns) zv)) ⟨_,rfl,ra.put yX r3⟩) r3
   ·rw[a2]at hv;cases hv⟩⟩
end
end L3
set_option maxHeartbeats 4000000
namespace My
open PySem L2 L3
def top (i:Nat):Stmt:=PySem.Challenge.pw_liarclocks_k28_whole_only_liars.main.body.getD i (.Pass ⟨0,0,0,0⟩)
abbrev tb (w:World)(K:Frag)(C:Nat->Addr):Tb:=⟨K,C,w⟩
abbrev jdI:Stmt:=top 26
abbrev jdH:Stmt:=top 27
abbrev jdL:Stmt:=top 31
abbrev jdB:Stmt:=top 10
abbrev jdG:Stmt:=top 11
abbrev jdO:Stmt:=top 15
abbrev jdN:Stmt:=top 16
abbrev jdA:Stmt:=top 13
abbrev jaB:Stmt:=top 14
abbrev jaI:Stmt:=top 17
abbrev Xc:Stmt:=xl (top 23) 0
abbrev jdF:Stmt:=top 28
abbrev jdM:Stmt:=top 18
abbrev jdP:Stmt:=xl (top 23) 2
abbrev jdE:Stmt:=top 12
abbrev jdD:Stmt:=xl (top 23) 4
abbrev jdz:Stmt:=xl (top 23) 3
abbrev jaA:Stmt:=top 21
abbrev jdC:Stmt:=xl (top 23) 5
abbrev jaE:Stmt:=xl (top 23) 6
abbrev jaC:Stmt:=xl (top 23) 1
abbrev jdK:Stmt:=xl (top 23) 7
abbrev jaz:Stmt:=top 22
abbrev jaD:Stmt:=xl (top 23) 8
abbrev jaG:Stmt:=xl (top 23) 9
abbrev jaF:Stmt:=top 24
abbrev jdJ:Stmt:=top 29
abbrev jaH:Stmt:=top 30
abbrev vP:Stmt:=top 32
theorem sc_zap:FnScope ["_law_script"] ["_law_script"] (jc jdI):=⟨rfl,rfl,rfl,by decide +kernel,rfl,by decide +kernel,by decide +kernel⟩
theorem JQ:FnScope ["_law_town_here","_law_many","_law_row","_law_at","_law_cell","_law_mixed"] ["_law_town_here","_law_many"] (jc jdH):=⟨rfl,rfl,rfl,by decide +kernel,rfl,by decide +kernel,by decide +kernel⟩
theorem jcl:FnScope ["_law_town_here","_law_crew","_law_most","_law_found","_law_house"] ["_law_town_here","_law_crew","_law_most"] (jc jdL):=⟨rfl,rfl,rfl,by decide +kernel,rfl,by decide +kernel,by decide +kernel⟩
theorem sc_zay:FnScope ["thing"] ["thing"] (jc jdB):=⟨rfl,rfl,rfl,by decide +kernel,rfl,by decide +kernel,by decide +kernel⟩
theorem sc_zar:FnScope ["thing","least","most"] ["thing","least","most"] (jc jdG):=⟨rfl,rfl,rfl,by decide +kernel,rfl,by decide +kernel,by decide +kernel⟩
theorem sc_zag:FnScope ["thing","least","most"] ["thing","least","most"] (jc jdO):=⟨rfl,rfl,rfl,by decide +kernel,rfl,by decide +kernel,by decide +kernel⟩
theorem sc_zah:FnScope ["houses"] ["houses"] (jc jdN):=⟨rfl,rfl,rfl,by decide +kernel,rfl,by decide +kernel,by decide +kernel⟩
theorem sc_zaz:FnScope ["thing","houses"] ["thing","houses"] (jc jdA):=⟨rfl,rfl,rfl,by decide +kernel,rfl,by decide +kernel,by decide +kernel⟩
theorem sc_zas:FnScope ["numbers"] ["numbers"] (jc jaB):=⟨rfl,rfl,rfl,by decide +kernel,rfl,by decide +kernel,by decide +kernel⟩
theorem sc_zab:FnScope ["some","houses","most"] ["some","houses","most"] (jc jaI):=⟨rfl,rfl,rfl,by decide +kernel,rfl,by decide +kernel,by decide +kernel⟩
theorem sc_zae:FnScope ["self","houses","liars"] ["self","houses","liars"] (jc Xc):=⟨rfl,rfl,rfl,by decide +kernel,rfl,by decide +kernel,by decide +kernel⟩
theorem sc_zat:FnScope ["_law_town_here","_law_some"] ["_law_town_here","_law_some"] (jc jdF):=⟨rfl,rfl,rfl,by decide +kernel,rfl,by decide +kernel,by decide +kernel⟩
theorem sc_zak:FnScope ["house","houses"] ["house","houses"] (jc jdM):=⟨rfl,rfl,rfl,by decide +kernel,rfl,by decide +kernel,by decide +kernel⟩
theorem sc_zaa:FnScope ["self","house"] ["self","house"] (jc jdP):=⟨rfl,rfl,rfl,by decide +kernel,rfl,by decide +kernel,by decide +kernel⟩
theorem sc_zau:FnScope ["thing"] ["thing"] (jc jdE):=⟨rfl,rfl,rfl,by decide +kernel,rfl,by decide +kernel,by decide +kernel⟩
theorem sc_zav:FnScope ["self","house","place","number"] ["self","house","place","number"] (jc jdD):=⟨rfl,rfl,rfl,by decide +kernel,rfl,by decide +kernel,by decide +kernel⟩
theorem jgu:FnScope ["self","house","place","number","row"] ["self","house","place","number"] (jc jdz):=⟨rfl,rfl,rfl,by decide +kernel,rfl,by decide +kernel,by decide +kernel⟩
theorem sc_zaw:FnScope ["thing"] ["thing"] (jc jaA):=⟨rfl,rfl,rfl,by decide +kernel,rfl,by decide +kernel,by decide +kernel⟩
theorem jgv:FnScope ["self","house","row","seen"] ["self","house","row"] (jc jdC):=⟨rfl,rfl,rfl,by decide +kernel,rfl,by decide +kernel,by decide +kernel⟩
theorem Uq:FnScope ["self","house","other","seen","new","row"] ["self","house","other"] (jc jaE):=⟨rfl,rfl,rfl,by decide +kernel,rfl,by decide +kernel,by decide +kernel⟩
theorem sc_zal:FnScope ["self"] ["self"] (jc jaC):=⟨rfl,rfl,rfl,by decide +kernel,rfl,by decide +kernel,by decide +kernel⟩
theorem sc_zan:FnScope ["self","house"] ["self","house"] (jc jdK):=⟨rfl,rfl,rfl,by decide +kernel,rfl,by decide +kernel,by decide +kernel⟩
theorem sc_zbb:FnScope ["rows"] ["rows"] (jc jaz):=⟨rfl,rfl,rfl,by decide +kernel,rfl,by decide +kernel,by decide +kernel⟩
theorem jcm:FnScope ["self","house","groups","row"] ["self","house"] (jc jaD):=⟨rfl,rfl,rfl,by decide +kernel,rfl,by decide +kernel,by decide +kernel⟩
theorem sc_zad:FnScope ["self","house"] ["self","house"] (jc jaG):=⟨rfl,rfl,rfl,by decide +kernel,rfl,by decide +kernel,by decide +kernel⟩
theorem sc_zaf:FnScope ["book"] ["book"] (jc jaF):=⟨rfl,rfl,rfl,by decide +kernel,rfl,by decide +kernel,by decide +kernel⟩
theorem sc_zao:FnScope ["_law_thing"] ["_law_thing"] (jc jdJ):=⟨rfl,rfl,rfl,by decide +kernel,rfl,by decide +kernel,by decide +kernel⟩
theorem sc_zac:FnScope ["_law_thing"] ["_law_thing"] (jc jaH):=⟨rfl,rfl,rfl,by decide +kernel,rfl,by decide +kernel,by decide +kernel⟩
theorem yB:FnScope ["_law_script","_law_town_here","_law_crew","_law_foes","_law_honest","_law_book","_law_shown","_law_turn","_law_house","_law_place","_law_number","_law_row","_law_goal","_law_other","_law_due","_law_one"] ["_law_script"] (jc vP):=⟨rfl,rfl,rfl,by decide +kernel,rfl,by decide +kernel,by decide +kernel⟩
def d_zap:DS:=(yR (xP (jb (dIf (yq (dOp gScr (ya 0) (jcU yb))) (dCB (jcQ) (jb (ya 0) yb)) (xP (jb (dC (.int 0)) yb))) (jb (dC (.int 0)) yb))))
def jbW:List PV->Sto->Res PV:=yu 1 1 d_zap
def jim:DS:=(yh (yK 2 (dOp gIx (ya 0) (dC (.int 0))))
 (yh (jdQ (dOp XM (dOp gIx (ya 0) (dC (.int 1))) (dC (.int 1))) (ya 0) (dC (.int 1)))
 (yh (yK 3 (dOp jbp (dOp gIx (ya 0) (dC (.int 1))) (dCB (one uq) (jb (ya 2) yb))))
 (yh (yK 4 (dOp gIx (ya 2) (ya 3)))
 (yh (sIf (yq (dOp gGe (ya 4) (dC (.int 1000000000000000000)))) (yh (jdQ (dOp jhX (ya 4) (ya 1)) (ya 2) (ya 3))
 (yR (dOp jbp (ya 4) (ya 1)))) yG)
 (yh (yK 5 (dOp jbp (dOp XM (ya 4) (dOp jbo (dC (.int 104729)) (dOp gIx (ya 0) (dC (.int 1))))) (dC (.int 4294967291))))
 (yh (yK 5 (dOp jbp (dOp gPow (ya 5) (dC (.int 5))) (dC (.int 4294967279))))
 (yR (dOp jbp (dOp jhX (dOp jbp (dOp XM (dOp jbo (dOp jhX (ya 5) (dC (.int 64))) (dC (.int 69621))) (ya 5)) (dC (.int 4294967231))) (dC (.int 8))) (ya 1))))))))))
def xX:List PV->Sto->Res PV:=yu 2 6 jim
def uu:DS:=(sIf (dAnd (yq (dOp gLt (dCB (one uq) (jb (ya 3) yb)) (ya 2))) (yq (dOp (eqG false) (jo xX 2 0 [.p 0,.p 1] [] (jb (ya 0) (jb (dC (.int 3)) yb)) yb) (dC (.int 0))))) (yA (dMt yZ (ya 3) (jb (ya 4) yb))) yG)
def jio:DS:=(yh (yK 3 (xP yb))
 (yh (uJ 200 (vR (jb (ya 1) yb)) (gN 4) uu)
 (yR (dFrz (ya 3)))))
def Ug:List PV->Sto->Res PV:=Xs (yu 3 5 jio)
def jii:DS:=(yR (vw (dCB (YF) (jb (ya 0) (jb (dC (.ty "int")) yb))) (jbE (dCB (YF) (jb (ya 0) (jb (dC (.ty "bool")) yb))))))
def YB:List PV->Sto->Res PV:=yu 1 1 jii
def jil:DS:=(yR (vw (jo YB 1 0 [.p 0] [] (jb (ya 0) yb) yb) (UZ gLe gLe (ya 1) (ya 0) (ya 2))))
def uO:List PV->Sto->Res PV:=yu 3 3 jil
def jir:DS:=(sIf (Vj (Vi (jo uO 3 0 [.p 0,.p 1,.p 2] [] (jb (ya 0) (jb (ya 1) (jb (ya 2) yb))) yb))) Us yG)
def JN:List PV->Sto->Res PV:=yu 3 3 jir
def jiq:DS:=(yA (jo JN 3 0 [.p 0,.p 1,.p 2] [] (jb (ya 0) (jb (dC (.int 1)) (jb (dC (.int 16)) yb))) yb))
def jeO:List PV->Sto->Res PV:=yu 1 1 jiq
def d_zaz:DS:=(yR (jo uO 3 0 [.p 0,.p 1,.p 2] [] (jb (ya 0) (jb (dC (.int 0)) (jb (dOp jfC (ya 1) (dC (.int 1))) yb))) yb))
def YA:List PV->Sto->Res PV:=yu 2 2 d_zaz
def d_zas:DS:=(yR (dCB (one YG) (jb (yI (dZip (jb (ya 0) (jb (dSl (ya 0) (dOS (dC (.int 1))) dON) yb))) bnd2 [] vQ (dOp gLt (ya 0) (ya 1))) yb)))
def jbV:List PV->Sto->Res PV:=yu 1 1 d_zas
def jah:DE:=(jo YA 2 0 [.p 0,.p 1] [] (jb (ya 0) (jb (ya 1) yb)) yb)
def jis:DS:=(yh (sIf (dOr (Vj (Vi (dCB (YF) (jb (ya 0) (jb (jfI (jb (dC (.ty "list")) (jb (dC (.ty "tuple")) yb))) yb))))) (yq (dOp gGt (dCB (one uq) (jb (ya 0) yb)) (ya 2)))) Us yG)
 (sIf (dOr (Vj (Vi (dCB (one YG) (jb (yI (dItS (ya 0)) vT [1] vQ jah) yb)))) (Vj (Vi (jo jbV 1 0 [.p 0] [] (jb (ya 0) yb) yb)))) Us yG))
def Vd:List PV->Sto->Res PV:=yu 3 3 jis
def d_zae:DS:=(yh (yA (jo jeO 1 0 [.p 0] [] (jb (ya 1) yb) yb))
 (yh (yA (jo Vd 3 0 [.p 0,.p 1,.p 2] [] (jb (ya 2) (jb (ya 1) (jb (ya 1) yb))) yb))
 (yh (Ji 10 "liars" (dCB (one jbs) (jb (ya 2) yb)) (ya 0))
 (yh (Ji 10 "said" jfJ (ya 0))
 (yh (Ji 10 "bound" jfJ (ya 0))
 (Ji 10 "seen" (yI (vR (jb (ya 1) yb)) vT [] vQ jfJ) (ya 0)))))))
def Uh:List PV->Sto->Res PV:=yu 3 3 d_zae
def jik:DS:=(yR (dOp gIx (ya 1) (jo xX 2 0 [.p 0,.p 1] [] (jb (ya 0) (jb (dCB (one uq) (jb (ya 1) yb)) yb)) yb)))
def vA:List PV->Sto->Res PV:=yu 2 2 jik
def jip:DS:=(sIf (Vj (Vi (jo YA 2 0 [.p 0,.p 1] [] (jb (ya 0) (jb (ya 1) yb)) yb))) Us yG)
def jbZ:List PV->Sto->Res PV:=yu 2 2 jip
def d_zaa:DS:=(yA (jo jbZ 2 0 [.p 0,.p 1] [] (jb (ya 1) (jb (dCB (one uq) (jb (uv 10 "seen" (ya 0)) yb)) yb)) yb))
def vS:List PV->Sto->Res PV:=yu 2 2 d_zaa
def jij:DS:=(yR (jo uO 3 0 [.p 0,.p 1,.p 2] [] (jb (ya 0) (jb (dUn gNeg (dC (.int 1000000))) (jb (dC (.int 1000000)) yb))) yb))
def Vb:List PV->Sto->Res PV:=yu 1 1 jij
def d_zav:DS:=(yh (sIf (yq (dOp (eqG true) (UY (uv 10 "bound" (ya 0)) (jb (ya 1) (jb (ya 2) yb)) (ya 3)) (ya 3))) Us yG)
 (Ur (ya 3) (uv 10 "bound" (ya 0)) (jb (ya 1) (jb (ya 2) yb))))
def jbU:List PV->Sto->Res PV:=yu 4 4 d_zav
def d_zba:DS:=(yh (yA (xF 10 "check_is_house" vS 2 0 [.p 0,.p 1] [] (ya 0) (jb (ya 1) yb) yb))
 (yh (yA (jo JN 3 0 [.p 0,.p 1,.p 2] [] (jb (ya 2) (jb (dC (.int 0)) (jb (dC (.int 99)) yb))) yb))
 (yh (sIf (Vj (Vi (jo Vb 1 0 [.p 0] [] (jb (ya 3) yb) yb))) Us yG)
 (yh (sIf (yq (dOp (gIn true) (ya 1) (uv 10 "liars" (ya 0)))) (yA (xF 10 "bind" jbU 4 0 [.p 0,.p 1,.p 2,.p 3] [] (ya 0) (jb (ya 1) (jb (ya 2) (jb (ya 3) yb))) yb)) yG)
 (yh (jgw 4 (jb (ya 1) (jb (ya 2) (jb (ya 3) yb))) (dC (.bl true)) (uv 10 "said" (ya 0)))
 (yR (ya 4)))))))
def Ue:List PV->Sto->Res PV:=yu 4 5 d_zba
def c_zaw_1:DE:=(jo YB 1 0 [.p 0] [] (jb (ya 0) yb) yb)
def d_zaw:DS:=(yR (vw (dCB (YF) (jb (ya 0) (jb (dC (.ty "tuple")) yb))) (vw (dOp (eqG false) (dCB (one uq) (jb (ya 0) yb)) (dC (.int 3))) (dCB (one YG) (jb (yI (dItT (ya 0)) vT [] vQ c_zaw_1) yb)))))
def jbT:List PV->Sto->Res PV:=yu 1 1 d_zaw
def d_zax:DS:=(yh (yA (xF 10 "check_is_house" vS 2 0 [.p 0,.p 1] [] (ya 0) (jb (ya 1) yb) yb))
 (yh (sIf (dOr (Vj (Vi (jo jbT 1 0 [.p 0] [] (jb (ya 2) yb) yb))) (yq (UX true (ya 2) (uv 10 "said" (ya 0))))) Us yG)
 (yh (yK 3 (dOp gIx (uv 10 "seen" (ya 0)) (ya 1)))
 (Jh (dC (.bl true)) (ya 3) (ya 2)))))
def Va:List PV->Sto->Res PV:=yu 3 4 d_zax
def jbA:DS:=(Jh (dC (.bl true)) (ya 3) (ya 5))
def jew:DS:=(yh (yA (xF 10 "check_is_house" vS 2 0 [.p 0,.p 1] [] (ya 0) (jb (ya 1) yb) yb))
 (yh (yA (xF 10 "check_is_house" vS 2 0 [.p 0,.p 1] [] (ya 0) (jb (ya 2) yb) yb))
 (yh (yK 3 (dOp gIx (uv 10 "seen" (ya 0)) (ya 2)))
 (yh (yK 4 (JD (dOp gIx (uv 10 "seen" (ya 0)) (ya 1)) 3))
 (yh (uJ 200 (dIt (ya 4)) (gN 5) jbA)
 (yR (dCB (one uq) (jb (ya 4) yb))))))))
def YC:List PV->Sto->Res PV:=Xs (yu 3 6 jew)
def d_zal:DS:=(yR (yI (vR (jb (dCB (one uq) (jb (uv 10 "seen" (ya 0)) yb)) yb)) vT [0] (yq (dOp (gIn true) (ya 0) (uv 10 "liars" (ya 1)))) (ya 0)))
def jbY:List PV->Sto->Res PV:=yu 1 1 d_zal
def d_zan:DS:=(yh (yA (xF 10 "check_is_house" vS 2 0 [.p 0,.p 1] [] (ya 0) (jb (ya 1) yb) yb))
 (yR (dCB (one US) (jb (dOp gIx (uv 10 "seen" (ya 0)) (ya 1)) yb))))
def jbX:List PV->Sto->Res PV:=yu 2 2 d_zan
def d_zbb:DS:=(yR (Yk (jey (jb (ya 0) yb)) (gT 2 (xN (gN 0) (xN (gN 1) VJ))) 3 [0] (jbv (gN 2) (dIt (dSl (ya 3) (dOS (dOp XM (ya 0) (dC (.int 1)))) dON)) (emE (jfI (jb (ya 1) (jb (ya 2) yb)))))))
def XZ:List PV->Sto->Res PV:=yu 1 1 d_zbb
def yo:DS:=(yA (dMt yZ (vt (ya 2) (dSl (ya 3) dON (dOS (dC (.int 2)))) (xP yb)) (jb (ya 3) yb)))
def jev:DS:=(yh (yK 2 jfJ)
 (yh (uJ 200 (dIt (xF 10 "known" jbX 2 0 [.p 0,.p 1] [] (ya 0) (jb (ya 1) yb) yb)) (gN 3) yo)
 (yR (Yk (UV (ya 2)) (gN 0) 2 [] (jbv (gN 1) (dIt (jo XZ 1 0 [.p 0] [] (jb (ya 0) yb) yb)) (emE (ya 1)))))))
def jca:List PV->Sto->Res PV:=Xs (yu 2 4 jev)
def d_zad:DS:=(yR (Yj (dIt (xF 10 "clashes" jca 2 0 [.p 0,.p 1] [] (ya 0) (jb (ya 1) yb) yb)) (gT 2 (xN (gN 0) (xN (gN 1) VJ))) 2 [] (jcS (dOp gIx (ya 0) (dC (.int 0))))))
def JO:List PV->Sto->Res PV:=yu 2 2 d_zad
def d_zaf:DS:=(yh (sIf (Vj (Vi (dCB jhW (jb (ya 0) (jb (dC (.top 10)) yb))))) Us yG)
 (yR (Yj (dIt (xF 10 "honest" jbY 1 0 [.p 0] [] (ya 0) yb yb)) (gN 0) 2 [0] (jif (gN 1) (dIt (xF 10 "convicted" JO 2 0 [.p 0,.p 1] [] (ya 2) (jb (ya 0) yb) yb)) (jcS (ya 1))))))
def Vc:List PV->Sto->Res PV:=yu 1 1 d_zaf
def jin:DS:=(yR (vw (dCB (YF) (jb (ya 0) (jb (dC (.ty "int")) yb))) (jbE (dCB (YF) (jb (ya 0) (jb (dC (.ty "bool")) yb))))))
def Uf:List PV->Sto->Res PV:=yu 1 1 jin
def jag:DE:=(jo Uf 1 0 [.p 0] [] (jb (ya 0) yb) yb)
def d_zac:DS:=(yR (vw (dCB (YF) (jb (ya 0) (jb (dC (.ty "list")) yb))) (dCB (one YG) (jb (yI (dIt (ya 0)) vT [] vQ jag) yb))))
def jcb:List PV->Sto->Res PV:=yu 1 1 d_zac
def Uk:DT:=(dAnd (yq (dOp (eqG false) (dSl (ya 1) dON (dOS (dC (.int 2)))) (dSl (ya 0) dON (dOS (dC (.int 2)))))) (yq (dOp (eqG true) (dOp gIx (ya 1) (dC (.int 2))) (dOp gIx (ya 0) (dC (.int 2))))))
def vq:DS:=(sIf (yq (dOp (eqG true) (yI (dIt (ya 6)) vT [15] Uk (ya 0)) (xP yb))) (yA (dMt yZ (ya 14) (jb (dOp gIx (ya 15) (dC (.int 0))) yb))) yG)
def jbB:DS:=(yA (xF 10 "pass_on" YC 3 0 [.p 0,.p 1,.p 2] [] (ya 5) (jb (ya 8) (jb (ya 13) yb)) yb))
def JB:DS:=(uJ 200 (dIt (ya 4)) (gN 13) jbB)
def JC:DS:=(uJ 200 (dIt (ya 4)) (gN 8) JB)
def Jz:DS:=(yh (yK 8 (jo xX 2 0 [.p 0,.p 1] [] (jb (ya 1) (jb (ya 2) yb)) yb))
 (yh (yK 9 (jo xX 2 0 [.p 0,.p 1] [] (jb (ya 1) (jb (dC (.int 3)) yb)) yb))
 (yh (yK 10 (dIf (yq (dOp (gIn false) (ya 8) (ya 3))) (jo vA 2 0 [.p 0,.p 1] [] (jb (ya 1) (jb (jcU (jb (dC (.int 1)) (jb (dC (.int 2)) (jb (dC (.int 3)) yb)))) yb)) yb) (dOp XM (dOp jbo (dC (.int 10)) (ya 8)) (ya 9))))
 (yh (yK 11 (xF 10 "say" Ue 4 0 [.p 0,.p 1,.p 2,.p 3] [] (ya 5) (jb (ya 8) (jb (ya 9) (jb (ya 10) yb))) yb))
 (yh (yK 12 (jo vA 2 0 [.p 0,.p 1] [] (jb (ya 1) (jb (ya 4) yb)) yb))
 (yh (sIf (yq (dOp gGt (jo xX 2 0 [.p 0,.p 1] [] (jb (ya 1) (jb (dC (.int 3)) yb)) yb) (dC (.int 0)))) (yh (yA (xF 10 "show" Va 3 0 [.p 0,.p 1,.p 2] [] (ya 5) (jb (ya 12) (jb (ya 11) yb)) yb))
 (yA (dMt yZ (ya 6) (jb (ya 11) yb)))) yG)
 (yh (sIf (yq (dOp (eqG false) (jo xX 2 0 [.p 0,.p 1] [] (jb (ya 1) (jb (dC (.int 3)) yb)) yb) (dC (.int 0)))) (yA (xF 10 "pass_on" YC 3 0 [.p 0,.p 1,.p 2] [] (ya 5) (jb (jo vA 2 0 [.p 0,.p 1] [] (jb (ya 1) (jb (ya 4) yb)) yb) (jb (jo vA 2 0 [.p 0,.p 1] [] (jb (ya 1) (jb (ya 4) yb)) yb) yb)) yb)) yG)
 (sIf (yq (dOp (eqG true) (yI (dIt (jo Vc 1 0 [.p 0] [] (jb (ya 5) yb) yb)) vT [3] (yq (dOp (gIn true) (ya 0) (ya 1))) (ya 0)) (xP yb))) (yR (dC (.bl false))) yG))))))))
def jbC:DS:=(yh (yK 1 (jo jbW 1 0 [.p 0] [] (jb (ya 0) yb) yb))
 (yh (yK 2 (dOp XM (dC (.int 2)) (jo xX 2 0 [.p 0,.p 1] [] (jb (ya 1) (jb (dC (.int 5)) yb)) yb)))
 (yh (yK 3 (jo Ug 3 0 [.p 0,.p 1,.p 2] [] (jb (ya 1) (jb (ya 2) (jb (dOp jfC (ya 2) (dC (.int 1))) yb))) yb))
 (yh (yK 4 (yI (vR (jb (ya 2) yb)) vT [3] (yq (dOp (gIn true) (ya 0) (ya 1))) (ya 0)))
 (yh (yK 5 (dNew 10 Uh 2 1 [.p 0,.p 1,.k 0] [] (jb (ya 2) yb) (jb (ya 3) yb)))
 (yh (yK 6 (xP yb))
 (yh (uJ 200 (vR (jb (dC (.int 20)) yb)) (gN 7) Jz)
 (yh (uJ 200 (vR (jb (dC (.int 2)) yb)) (gN 7) JC)
 (yh (yK 14 (xP yb))
 (yh (uJ 200 (dIt (ya 6)) (gN 15) vq)
 (yh (yK 14 (jcT (ya 14)))
 (yh (sIf (dOr (yq (dOp (eqG true) (yI (dIt (ya 4)) vT [5] vQ (xF 10 "convicted" JO 2 0 [.p 0,.p 1] [] (ya 1) (jb (ya 0) yb) yb)) (dOp jbo (jcU (jb (ya 14) yb)) (dCB (one uq) (jb (ya 4) yb))))) (yq (dOp (eqG true) (jo Vc 1 0 [.p 0] [] (jb (ya 5) yb) yb) (ya 14)))) (yR (dC (.bl false))) yG)
 (yR (vw (jo jcb 1 0 [.p 0] [] (jb (jo Vc 1 0 [.p 0] [] (jb (ya 5) yb) yb) yb) yb) (dOp (eqG false) (yI (dIt (ya 14)) vT [3] (yq (dOp (gIn true) (ya 0) (ya 1))) (ya 0)) (xP yb))))))))))))))))
def Tw (M:Sto):Prop:=∃ ns c,Town M ns c
theorem jiR (ns:List Int):∃ M,jbW [.scr ns] ⟨0,fun _=>none⟩ = .ok (.ref 1) M∧Tw M∧M.n=2:=by
 cases ns with
 | nil=>exact⟨_,rfl,⟨[0],0,rfl,rfl,by simp,le_refl _⟩,rfl⟩
 | cons n r=>exact⟨_,rfl,⟨n::r,0,rfl,rfl,by simp,le_refl _⟩,rfl⟩
theorem vK {M:Sto}(T:Tw M){k:Int}(h1:1<=k)(h2:k<1073741824):∃ d M',xX [.ref 1,.int k] M = .ok (.int d) M'∧0<=d∧d<k∧Tw M'∧Off M M':=by
 obtain⟨ns,c,T⟩:=T
 have hl:(0:Int)<(ns.length:Int):=by
  have:ns.length≠0:=fun z=>T.ne (eq_nil_of_length_eq_zero z)
  omega
 have e0:xX [.ref 1,.int k] M=fin (jim [some (.ref 1),some (.int k),none,none,none,none] M):=rfl;rw[e0];have a1:=uz T.tw;have a0:=uz T.row
 obtain⟨M1,hE⟩:∃ M1,M1=M.set 1 (.lst [.ref 0,.int (c+1)]):=⟨_,rfl⟩
 have g0:M1.g 0=some (.lst (ns.map PV.int)):=by rw[hE,Sto.set_ne (by decide)];exact T.row
 have g1:M1.g 1=some (.lst [.ref 0,.int (c+1)]):=by rw[hE,Sto.set_same]
 have gi:∀ i,2<=i->i<M.n->M1.g i=M.g i:=fun i hi _=>by rw[hE,Sto.set_ne (by omega)]
 have n1:M1.n=M.n:=by rw[hE];rfl
 have p1:putI M (.ref 1) (.int 1) (.int (c+1))=some M1:=by
  show(match M.g 1 with
   | some (.lst xs)=>(ixN xs.length 1).map fun n=>M.set 1 (.lst (xs.set n (.int (c+1))))
   | _=>none)=_
  rw[T.tw,hE];rfl
 have j9:0<=(c+1)%(ns.length:Int):=Int.emod_nonneg _ (by omega);have j8:(c+1)%(ns.length:Int)<ns.length:=Int.emod_lt_of_pos _ hl
 obtain⟨at_,eat⟩:∃ a,a=(c+1)%(ns.length:Int):=⟨_,rfl⟩
 rw[<- eat]at j9 j8
 obtain⟨cell,ecell⟩:∃ z,ns[at_.toNat]? = some z:=⟨_,getElem?_eq_getElem (by omega)⟩
 have b1:=uz g1;have b0:=uz g0;unfold jim
 have s1:dOp gIx (ya 0) (dC (.int 0)) [some (.ref 1),some (.int k),none,none,none,none] M = .ok (.ref 0) M:=by
  simp[uT a1];rfl
 have ix0:atI (ns.map PV.int) at_=some (.int cell):=by
  rw[jal j9 (by simpa using j8),getElem?_map,ecell];rfl
 simp[s1,uT a1,uT b1,uT b0,xT b0,jdQ,p1,jal,vp hl,<- eat,ix0,dMt]
 by_cases hc:1000000000000000000<=cell
 ·rw[if_pos hc,XJ (by omega) h2]
  obtain⟨M2,gh⟩:∃ M2,M2=M1.set 0 (.lst ((ns.set at_.toNat (cell/k)).map PV.int)):=⟨_,rfl⟩
  have p2:putI M1 (.ref 0) (.int at_) (.int (cell/k))=some M2:=by
   show(match M1.g 0 with
    | some (.lst xs)=>(ixN xs.length at_).map fun n=>M1.set 0 (.lst (xs.set n (.int (cell/k))))
    | _=>none)=_
   rw[g0,gh]
   have:ixN (ns.map PV.int).length at_=some at_.toNat:=by
    unfold ixN;rw[if_pos j9,if_pos (by simpa using j8)]
   simp only[this];rw[List.map_set];rfl
  simp[p2,vp (show 0<k by omega)];refine⟨_,_,⟨rfl,rfl⟩,Int.emod_nonneg _ (by omega),Int.emod_lt_of_pos _ (by omega),⟨ns.set at_.toNat (cell/k),c+1,?_,?_,?_,?_⟩,?_,fun i hi hn=>?_⟩
  ·rw[gh,Sto.set_same]
  ·rw[gh,Sto.set_ne (by decide)];exact g1
  ·intro z
   have:=congrArg List.length z
   rw[length_set]at this;exact T.ne (eq_nil_of_length_eq_zero this)
  ·rw[gh];show 2<=M1.n;rw[n1];exact T.n
  ·rw[gh];exact le_of_eq n1.symm
  ·rw[gh,Sto.set_ne (by omega)];exact gi i hi hn
 ·rw[if_neg hc]
  obtain⟨x,ex⟩:∃ x,x=(cell+104729*(c+1))%4294967291:=⟨_,rfl⟩
  have x0:0<=x:=by rw[ex];exact Int.emod_nonneg _ (by decide)
  have x1:x<4294967291:=by rw[ex];exact Int.emod_lt_of_pos _ (by decide)
  obtain⟨y,ey⟩:∃ y,y=x ^ 5%4294967279:=⟨_,rfl⟩
  have y0:0<=y:=by rw[ey];exact Int.emod_nonneg _ (by decide)
  have y1:y<4294967279:=by rw[ey];exact Int.emod_lt_of_pos _ (by decide)
  have ix1:atI [PV.ref 0,PV.int (c+1)] 1=some (.int (c+1)):=rfl
  simp[uT b1,ix1,XI (i:=104729) (j:=c+1) (.inl (by decide)),vp (show(0:Int)<4294967291 by decide),<- ex,jhU (i:=x) (j:=5) (by decide) (by decide) (by omega),vp (show(0:Int)<4294967279 by decide),<- ey,
   XJ (show(0:Int)<64 by decide) (by decide),XI (i:=y/64) (j:=69621) (.inr (by decide)),vp (show(0:Int)<4294967231 by decide),XJ (show(0:Int)<8 by decide) (by decide),vp (show 0<k by omega)]
  exact⟨_,_,⟨rfl,rfl⟩,Int.emod_nonneg _ (by omega),Int.emod_lt_of_pos _ (by omega),⟨ns,c+1,g0,g1,T.ne,by rw[n1];exact T.n⟩,le_of_eq n1.symm,gi⟩
theorem pick_ok {M:Sto}(T:Tw M){xs:List PV}(aY:xs≠[])(hl:xs.length<1073741824):∃ x M',vA [.ref 1,.lst xs] M = .ok x M'∧x∈xs∧Tw M'∧Off M M':=by
 have h0:xs.length≠0:=fun z=>aY (eq_nil_of_length_eq_zero z);obtain⟨d,M',e,d0,d1,T',o⟩:=vK T (k:=(xs.length:Int)) (by omega) (by omega)
 have hd:d.toNat<xs.length:=by omega
 refine⟨xs[d.toNat],M',?_,getElem_mem hd,T',o⟩;have e0:vA [.ref 1,.lst xs] M=fin (jik [some (.ref 1),some (.lst xs)] M):=rfl;rw[e0];unfold jik;simp[ym,gen,xT (M:=M) (x:=.lst xs) rfl,e,uT (M:=M') (x:=.lst xs) rfl,jal d0 d1,getElem?_eq_getElem hd]
theorem jhy {M:Sto}(T:Tw M){crew most:Int}(h0:0<=crew)(h1:crew<=1000)(hm:0<=most):∃(fs:List Int) (M':Sto),Ug [.ref 1,.int crew,.int most] M = .ok (.lst (fs.map PV.int)) M'∧(fs.length:Int)<=most∧(∀ f∈fs,0<=f∧f<crew)∧fs.Pairwise (· < ·)∧Tw M'∧Off M M':=by
 have fZ:2<=M.n:=by obtain⟨ns,c,t⟩:=T;exact t.n
 have e0:Ug [.ref 1,.int crew,.int most] M=(fin (jio [some (.ref 1),some (.int crew),some (.int most),none,none] M)).noX:=rfl;have sz:(0:Nat)<=sizeLine:=zero_le _
 have T0:Tw (M.new (.lst [])):=by
  obtain⟨ns,c,t⟩:=T;exact⟨ns,c,by rw[Sto.new_ne (by omega)];exact t.row,by rw[Sto.new_ne (by omega)];exact t.tw,t.ne,Nat.le_succ_of_le t.n⟩
 have dr:vR (jb (ya 1) yb) [some (.ref 1),some (.int crew),some (.int most),some (.ref M.n),none] (M.new (.lst [])) = .ok (.fix (ve 0 crew.toNat)) (M.new (.lst [])):=by
  have:small crew=true:=xH.mpr (by omega)
  simp[vR,this]
 have lp:=xL (g:=gN 4) (db:=uu)
  (fun i ρ M'=>∃(h:Option PV) (fs:List Int),ρ=[some (.ref 1),some (.int crew),some (.int most),some (.ref M.n),h]∧M'.g M.n=some (.lst (fs.map PV.int))∧Tw M'∧M.n<M'.n∧(∀ j,2<=j->j<M.n->M'.g j=M.g j)∧(fs.length:Int)<=most∧(∀ f∈fs,0<=f∧f<i)∧fs.Pairwise (· < ·)∧fs.length<=i)
  (ve 0 crew.toNat) 0 [some (.ref 1),some (.int crew),some (.int most),some (.ref M.n),none] (M.new (.lst []))
  ⟨none,[],rfl,Sto.new_same,T0,lt_succ_self _,fun j _ hj=>Sto.new_ne (by omega),by simpa using hm,by simp,.nil,le_refl _⟩ (by
   rintro i x hx ρ M1 ⟨hh,fs,rfl,g1,T1,n1,of1,len1,mem1,gx,li1⟩;rw[Xf]at hx;split at hx
   ·rename_i hi;cases hx;generalize hzi:(0+(i:Int))=z;obtain⟨d,M2,ed,d0,d1,T2,o2⟩:=vK T1 (k:=3) (by decide) (by decide)
    have g2:M2.g M.n=some (.lst (fs.map PV.int)):=by rw[o2.g M.n fZ n1];exact g1
    have of2:∀ j,2<=j->j<M.n->M2.g j=M.g j:=fun j hj hn=>by rw[o2.g j hj (by omega)];exact of1 j hj hn
    have n2:M.n<M2.n:=lt_of_lt_of_le n1 o2.n
    have fu:∀ f∈fs,0<=f∧f<((0+i+1:Nat):Int):=fun f hf=>by have:=mem1 f hf;omega
    have stay1:∃(h:Option PV) (fs:List Int),[some (.ref 1),some (.int crew),some (.int most),some (.ref M.n),some (PV.int z)]=[some (.ref 1),some (.int crew),some (.int most),some (.ref M.n),h]∧M1.g M.n=some (.lst (fs.map PV.int))∧Tw M1∧M.n<M1.n∧(∀ j,2<=j->j<M.n->M1.g j=M.g j)∧(fs.length:Int)<=most∧(∀ f∈fs,0<=f∧f<((0+i+1:Nat):Int))∧fs.Pairwise (· < ·)∧fs.length<=0+i+1:=⟨_,fs,rfl,g1,T1,n1,of1,len1,fu,gx,by omega⟩
    have fw:uq M1 (.ref M.n)=some (.int fs.length):=by
     rw[xT (uz g1),length_map]
    by_cases hl:(fs.length:Int)<most
    ·by_cases hd:d=0
     ·subst hd;have eq:eqG false M2 (.int 0) (.int 0)=some (.bl true):=rfl
      have hz:fs.length<sizeLine:=by
       exact Nat.lt_of_le_of_lt (show fs.length<=1000 by omega) (by decide)
      have ap:yZ M2 (.ref M.n) [.int z]=some (.non,M2.set M.n (.lst ((fs++[z]).map PV.int))):=by
       unfold yZ
       have:jeE M2 (.ref M.n)=some (M.n,fs.map PV.int):=by
        show(match M2.g M.n with
         | some (.lst xs)=>some (M.n,xs)
         | _=>none)=_
        rw[g2]
       rw[this];simp[hz]
      refine⟨_,[some (.ref 1),some (.int crew),some (.int most),some (.ref M.n),some (PV.int z)],M2.set M.n (.lst ((fs++[z]).map PV.int)),rfl,?_,_,fs++[z],rfl,Sto.set_same,?_,n2,fun j hj hn=>?_,by simp;omega,fun f hf=>?_,?_,by simp;omega⟩
      ·have sq:yz M2 (.ref M.n)=some (fs.map PV.int):=yF g2;simp[uu,ym,gen,gN,fw,hl,ed,eq,dMt,sq,ap]
      ·obtain⟨ns,c,t⟩:=T2;exact⟨ns,c,by rw[Sto.set_ne (by omega)];exact t.row,by rw[Sto.set_ne (by omega)];exact t.tw,t.ne,t.n⟩
      ·rw[Sto.set_ne (by omega)];exact of2 j hj hn
      ·rcases List.mem_append.mp hf with hf | hf
       ·exact fu f hf
       ·rw[List.mem_singleton.mp hf];omega
      ·refine List.pairwise_append.mpr ⟨gx,List.pairwise_singleton _ _,fun a ha b hb=>?_⟩;rw[List.mem_singleton.mp hb]
       have:=mem1 a ha
       omega
     ·have eq:eqG false M2 (.int d) (.int 0)=some (.bl false):=by
       show some (PV.bl (d==0))=_;rw[show(d==0)=false by simpa using hd]
      refine⟨_,[some (.ref 1),some (.int crew),some (.int most),some (.ref M.n),some (PV.int z)],M2,rfl,?_,_,fs,rfl,g2,T2,n2,of2,len1,fu,gx,by omega⟩;simp[uu,ym,gen,gN,fw,hl,ed,eq]
    ·refine⟨_,[some (.ref 1),some (.int crew),some (.int most),some (.ref M.n),some (PV.int z)],M1,rfl,?_,stay1⟩;simp[uu,gN,fw,hl]
   ·cases hx)
 obtain⟨ρ',M',e,hh,fs,rfl,g',T',n',of',len',dj,fk,_⟩:=lp;rw[xm]at dj;refine⟨fs,M'.drop M.n,?_,len',fun f hf=>by have:=dj f hf;omega,fk,?_,le_of_lt n',fun i hi hn=>?_⟩
 ·rw[e0];unfold jio
  have e1:(xP yb [some (.ref 1),some (.int crew),some (.int most),none,none] M) = .ok (.ref M.n) (M.new (.lst [])):=by simp[sz]
  simp only[jjd,jjc,e1,Res.st_ok,RS.then_nx,set_cons_succ,set_cons_zero];rw[vX dr,e];simp[dFrz,g']
 ·obtain⟨ns,c,t⟩:=T';exact⟨ns,c,by show(if 0=M.n then none else M'.g 0)=_;rw[if_neg (by omega)];exact t.row,by show(if 1=M.n then none else M'.g 1)=_;rw[if_neg (by omega)];exact t.tw,t.ne,t.n⟩
 ·show(if i=M.n then none else M'.g i)=_;rw[if_neg (by omega)];exact of' i hi hn
def Ui:PV->Bool
 | .int _=>true
 | _=>false
def jcL (x:PV)(a b:Int):Bool:=match x with
 | .int i=>decide (a<=i) && decide (i<=b)
 | _=>false
def Kd (M:Sto)(x:PV):Prop:=∃ n,Ys M x=some n
theorem UI {M:Sto}{x:PV}{n m:String}(h:Ys M x=some n)(hm:m∈yW):YF M [x,.ty m]=some (.bl (sub n m),M):=by
 show(match Ys M x with
  | some n=>if m∈yW then some (PV.bl (sub n m),M)else none
  | none=>none)=_
 rw[h];exact if_pos hm
theorem Vl {M:Sto}{x:PV}{n:String}(h:Ys M x=some n):(sub n "int" && !sub n "bool")=Ui x:=by
 cases x with
 | ref i =>
  have h:(match M.g i with
   | some (.lst _)=>some "list"
   | _=>none)=some n:=h
  split at h
  ·cases h;rfl
  ·cases h
 | non=>cases h;rfl
 | bl _=>cases h;rfl
 | int _=>cases h;rfl
 | str _=>cases h;rfl
 | tup _=>cases h;rfl
 | lst _=>cases h;rfl
 | dct _=>cases h;rfl
 | dod _ _=>cases h;rfl
 | _=>cases h
theorem jbj {M:Sto}{x:PV}(h:Kd M x):YB [x] M = .ok (.bl (Ui x)) M:=by
 obtain⟨n,h⟩:=h;have e0:YB [x] M=fin (jii [some x] M):=rfl;rw[e0,<- Vl h];unfold jii;simp[vw,jbE,UI h (show "int"∈yW by decide),UI h (show "bool"∈yW by decide)];cases sub n "int" <;> simp
theorem UH {M:Sto}{x:PV}(h:Kd M x):Uf [x] M = .ok (.bl (Ui x)) M:=by
 obtain⟨n,h⟩:=h;have e0:Uf [x] M=fin (jin [some x] M):=rfl;rw[e0,<- Vl h];unfold jin;simp[vw,jbE,UI h (show "int"∈yW by decide),UI h (show "bool"∈yW by decide)];cases sub n "int" <;> simp
theorem vJ {M:Sto}{x:PV}{a b:Int}(h:Kd M x):uO [x,.int a,.int b] M = .ok (.bl (jcL x a b)) M:=by
 have e0:uO [x,.int a,.int b] M=fin (jil [some x,some (.int a),some (.int b)] M):=rfl;rw[e0];unfold jil;simp[ym,gen,jbj h,vw,UZ]
 cases x with
 | int i =>
  simp[Ui,jcL]
  by_cases h:a<=i <;> simp[h]
 | _=>rfl
theorem UL {M:Sto}{x:PV}(h:Kd M x):Vb [x] M = .ok (.bl (jcL x (-1000000) 1000000)) M:=by
 have e0:Vb [x] M=fin (jij [some x] M):=rfl;rw[e0];unfold jij;simp[ym,gen,vJ h]
theorem Kd.int {M:Sto}(i:Int):Kd M (.int i):=⟨_,rfl⟩
theorem jA {M:Sto}{x:PV}{a b:Int}(h:Kd M x)(ha:small a=true)(hb:small b=true):JN [x,.int a,.int b] M=if jcL x a b=true then .ok .non M else .bad:=by
 have e0:JN [x,.int a,.int b] M=fin (jir [some x,some (.int a),some (.int b)] M):=rfl;rw[e0];unfold jir;simp[ym,gen,vJ h]
 cases jcL x a b with
 | true=>simp
 | false =>
  rfl
theorem YD {n:Nat}(h:n<=1000):n<sizeLine:=Nat.lt_of_le_of_lt h (by decide)
theorem jiY {M:Sto}{c:Nat}{x y:Cell}:(M.set c x).set c y=M.set c y:=by
 unfold Sto.set;congr 1;funext j
 by_cases h:j=c <;> simp[h]
theorem jgr {M:Sto}{c:Nat}{x:Cell}(h:M.g c=some x):M.set c x=M:=by
 cases M with
 | mk n g =>
  show Sto.mk n _=_;congr 1;funext j
  by_cases hj:j=c
  ·subst hj;simp;exact h.symm
  ·simp[hj]
structure Ex (M M':Sto):Prop where
 n:M.n<=M'.n
 g:∀ i,i<M.n->M'.g i=M.g i
theorem Ex.refl (M:Sto):Ex M M:=⟨le_refl _,fun _ _=>rfl⟩
theorem Ex.trans {A B C:Sto}(h:Ex A B)(k:Ex B C):Ex A C:=⟨le_trans h.n k.n,fun i hi=>(k.g i (lt_of_lt_of_le hi h.n)).trans (h.g i hi)⟩
theorem Ex.tw {M M':Sto}(h:Ex M M')(T:Tw M):Tw M':=by
 obtain⟨ns,c,t⟩:=T
 have:=t.n
 exact⟨ns,c,by rw[h.g 0 (by omega)];exact t.row,by rw[h.g 1 (by omega)];exact t.tw,t.ne,le_trans t.n h.n⟩
theorem Yd {M:Sto}{c:Cell}:Ex M (M.new c):=⟨le_succ _,fun i hi=>Sto.new_ne (by omega)⟩
theorem Yh:∀ ns:List Int,xi (ns.map PV.int)=0
 | []=>rfl
 | _::ns=>by
  show max 0 (xi (ns.map PV.int))=0;rw[Yh ns];rfl
theorem XO {neg:Bool}{M:Sto}{x y z:PV}(hx:look M x=z)(hy:look M y=z)(p:plain z=true)(d:dep z<=60):eqG neg M x y=some (.bl (!neg)):=by
 unfold eqG;rw[hx,hy,if_pos ⟨p,p,d⟩,Jv p];cases neg <;> rfl
theorem Yo (ns:List Int):plain (.lst (ns.map PV.int))=true:=ue ns
theorem jfG (ns:List Int):dep (.lst (ns.map PV.int))<=60:=by
 show xi (ns.map PV.int)+1<=60;rw[Yh];decide
theorem ui {M:Sto}{i k:Nat}{fs:List (Str×PV)}(h:M.g i=some (.ins k fs)):Yu M k (.ref i)=some (i,fs):=by
 show(match M.g i with
  | some (.ins c fs)=>if c=k then some (i,fs)else none
  | _=>none)=_
 rw[h];exact if_pos rfl
def hon (n:Nat)(fs:List Int):List Int:=((List.range n).map fun k:Nat=>(0+(k:Int))).filter fun h=>!decide (h∈fs)
theorem yO {n:Nat}{fs:List Int}{h:Int}:h∈hon n fs↔(0<=h∧h<n)∧h∉fs:=by
 unfold hon;rw[mem_filter,mem_map];constructor
 ·rintro⟨⟨k,hk,rfl⟩,h2⟩
  have:=List.mem_range.mp hk
  exact⟨⟨by omega,by omega⟩,by simpa using h2⟩
 ·rintro⟨⟨h0,h1⟩,h2⟩;exact⟨⟨h.toNat,List.mem_range.mpr (by omega),by omega⟩,by simpa using h2⟩
theorem jdT (n:Nat):ve 0 n=((List.range n).map fun k:Nat=>(0+(k:Int))).map PV.int:=by
 unfold ve;rw[map_map];rfl
theorem Yt {M:Sto}{h n:Int}:YA [.int h,.int n] M = .ok (.bl (jcL (.int h) 0 (n-1))) M:=by
 refine jV (ρ:=[some (.int h),some (.int n)]) rfl rfl ?_;unfold d_zaz;refine jO ?_;simp only[jT,jp,jz,jF,ju,jez,jY,Res.bind_ok,jhT,jy];exact vJ (Kd.int h)
theorem XF {h a b:Int}(h0:a<=h)(h1:h<=b):jcL (.int h) a b=true:=by
 show(decide (a<=h) && decide (h<=b))=true;simp[h0,h1]
theorem cut1 (fs:List Int):Yl (fs.map PV.int) (some 1) none=(fs.drop 1).map PV.int:=by
 cases fs with
 | nil=>rfl
 | cons a r =>
  unfold Yl
  have e1:HT.sIx ((a::r).map PV.int).length 0 (some 1)=1:=by
   unfold HT.sIx;simp
  have e2:HT.sIx ((a::r).map PV.int).length ((a::r).map PV.int).length none=((a::r).map PV.int).length:=rfl;rw[e1,e2,map_drop,List.take_of_length_le];rw[length_drop];exact le_refl _
theorem UK {M:Sto}{fs:List Int}(h:fs.Pairwise (· < ·))(hl:fs.length<=40):jbV [.lst (fs.map PV.int)] M = .ok (.bl true) M:=by
 refine jV (ρ:=[some (.lst (fs.map PV.int))]) rfl rfl ?_;unfold d_zas;refine jO ?_
 have gs:gSl M (.lst (fs.map PV.int)) (some 1) none=some (.lst ((fs.drop 1).map PV.int)):=by
  show some (PV.lst (Yl (fs.map PV.int) (some 1) none))=_;rw[cut1]
 have q2:yI (dZip (jb (ya 0) (jb (dSl (ya 0) (dOS (dC (.int 1))) dON) yb))) bnd2 [] vQ (dOp gLt (ya 0) (ya 1)) [some (.lst (fs.map PV.int))] M = .ok (.lst ((fs.zip (fs.drop 1)).map fun _=>.bl true)) M:=by
  refine jK (xs:=(fs.zip (fs.drop 1)).map fun p=>PV.tup [.int p.1,.int p.2]) (M1:=M) ?_ (by rw[length_map,List.length_zip];exact YD (by omega)) ?_
  ·have e3:dSl (ya 0) (dOS (dC (.int 1))) dON [some (.lst (fs.map PV.int))] M = .ok (.lst ((fs.drop 1).map PV.int)) M:=by
    show ofO (gSl M (.lst (fs.map PV.int)) (some 1) none) M=_;rw[gs];rfl
   unfold dZip;simp only[jp,jz,e3,ju,Res.bind_ok];congr 2;unfold jaq;rw[List.zipWith_map];unfold List.zip;rw[List.map_zipWith]
  ·refine jW (fun p:Int×Int=>PV.tup [.int p.1,.int p.2]) (fun _=>.bl true) _ fun p hp=>⟨[some (.int p.1),some (.int p.2)],rfl,rfl,?_⟩
   have lt:p.1<p.2:=by
    obtain⟨k,hk⟩:=List.getElem?_of_mem hp;rw[List.getElem?_zip_eq_some]at hk;obtain⟨k1,k2⟩:=hk;rw[getElem?_drop]at k2;obtain⟨l1,e1⟩:=List.getElem?_eq_some_iff.mp k1;obtain⟨l2,e2⟩:=List.getElem?_eq_some_iff.mp k2;rw[<- e1,<- e2];exact List.pairwise_iff_getElem.mp h k (1+k) l1 l2 (by omega)
   have gl:gLt M (.int p.1) (.int p.2)=some (.bl true):=by
    show some (PV.bl (decide (p.1<p.2)))=_;rw[decide_eq_true lt]
   simp only[jY,jz,jF,Res.bind_ok,gl,jy]
 have q3:YG M (.lst ((fs.zip (fs.drop 1)).map fun _=>PV.bl true))=some (.bl true):=by
  have e1:((fs.zip (fs.drop 1)).map fun _=>PV.bl true)=((fs.zip (fs.drop 1)).map fun _=>true).map PV.bl:=by rw[map_map];rfl
  unfold YG jfQ;rw[e1];simp only[Xb,bind_some,vN]
  have:((fs.zip (fs.drop 1)).map fun _=>true).all id=true:=by simp
  rw[this]
 simp only[jcV,jp,q2,ju,Res.bind_ok,one,q3,map_some]
theorem YW {M:Sto}{fs:List Int}{n s:Int}(h:fs.Pairwise (· < ·))(hb:∀ f∈fs,0<=f∧f<n)(hl:(fs.length:Int)<=s)(s5:s<=40):Vd [.lst (fs.map PV.int),.int n,.int s] M = .ok .non M:=by
 show fin (jis [some (.lst (fs.map PV.int)),some (.int n),some (.int s)] M)=_;unfold jis;have q1:YF M [.lst (fs.map PV.int),.tup [.ty "list",.ty "tuple"]]=some (.bl true,M):=rfl
 have aq:uq M (.lst (fs.map PV.int))=some (.int fs.length):=by rw[xT (x:=.lst (fs.map PV.int)) rfl,length_map]
 have hg:gGt M (.int fs.length) (.int s)=some (.bl false):=by
  show some (PV.bl (decide (s<(fs.length:Int))))=_;rw[decide_eq_false (by omega)]
 have q2:yI (dItS (ya 0)) vT [1] vQ jah [some (.lst (fs.map PV.int)),some (.int n),some (.int s)] M = .ok (.lst (fs.map fun _=>.bl true)) M:=by
  refine jK (xs:=fs.map PV.int) (M1:=M) rfl (by rw[length_map];exact YD (by omega)) ?_
  refine jW PV.int (fun _=>.bl true) _ fun f hf=>⟨[some (.int f),some (.int n)],rfl,rfl,?_⟩
  obtain⟨f0,f1⟩:=hb f hf;unfold jah;simp only[jT,jp,jz,jF,ju,Res.bind_ok];rw[show YA (ym 2 0 [Sl.p 0,Sl.p 1] [] [PV.int f,PV.int n] []) M=_ from Yt,XF f0 (by omega)]
 have q3:YG M (.lst (fs.map fun _=>PV.bl true))=some (.bl true):=by
  have e1:(fs.map fun _=>PV.bl true)=(fs.map fun _=>true).map PV.bl:=by rw[map_map];rfl
  unfold YG jfQ;rw[e1];simp only[Xb,bind_some,vN]
  have:(fs.map fun _=>true).all id=true:=by simp
  rw[this]
 have s2:(2:Nat)<=sizeLine:=by decide
 simp[ym,gen,q1,aq,hg,q2,q3,jgf,UK h (by omega),s2]
theorem jM {M M1 M2:Sto}{i c a b:Nat}{fl:List (Str×PV)}{nm:Str}{D:List PV->Sto->Res PV}{sl:List Sl}{dP xs zs:List PV}{do_:DE}{da dk:DA}{ρ:En}(ho:do_ ρ M = .ok (.ref i) M)(hi:M.g i=some (.ins c fl))(hn:fl.lookup nm=none)(ha:da ρ M = .ok xs M1)(hk:dk ρ M1 = .ok zs M2) :
  xF c nm D a b sl dP do_ da dk ρ M=D (ym a b sl dP (.ref i::xs) zs) M2:=by
 unfold xF;rw[ho];simp only[Res.bind_ok,ui hi,hn,if_true];rw[ha];simp only[Res.bind_ok];rw[hk];simp only[Res.bind_ok]
theorem jP {M:Sto}{i c:Nat}{fl:List (Str×PV)}{x:Str}{v:PV}{d:DE}{ρ:En}(ho:d ρ M = .ok (.ref i) M)(hi:M.g i=some (.ins c fl))(hx:fl.lookup x=some v):uv c x d ρ M = .ok v M:=by
 unfold uv;rw[ho];simp only[Res.bind_ok,ui hi,hx,jy]
theorem jcA {M Ma:Sto}{i k:Nat}{fU:List (Str×PV)}{f:Str}{v:PV}{d do_:DE}{c:DS}{ρ:En}{r:RS}(hd:d ρ M = .ok v Ma)(ho:do_ ρ Ma = .ok (.ref i) Ma)(hg:Ma.g i=some (.ins k fU))(hl:fU.length<1000)(hc:c ρ (Ma.set i (.ins k (Vf f v fU)))=r):yh (Ji k f d do_) c ρ M=r:=by
 unfold yh Ji;rw[hd];simp only[Res.st_ok];rw[ho];simp only[Res.st_ok,ui hg,hl,if_true];exact hc
theorem nx_fldL {M Ma:Sto}{i k:Nat}{fU:List (Str×PV)}{f:Str}{v:PV}{d do_:DE}{ρ:En}(hd:d ρ M = .ok v Ma)(ho:do_ ρ Ma = .ok (.ref i) Ma)(hg:Ma.g i=some (.ins k fU))(hl:fU.length<1000):Ji k f d do_ ρ M = .nx ρ (Ma.set i (.ins k (Vf f v fU))):=by
 unfold Ji;rw[hd];simp only[Res.st_ok];rw[ho];simp only[Res.st_ok,ui hg,hl,if_true]
structure Ck where
 f:Int
 r:Int
 t:Int
def Ck.at (q:Ck)(b:Int):Int:=q.f+b*(1000+q.r)/1000+q.t
def Ck.to (q:Ck)(x b:Int):Ck:=⟨q.f,q.r,q.t+(x-q.at b)⟩
theorem yE {d:DE}{ρ:En}{M M1:Sto}{b:Bool}(h:d ρ M = .ok (.bl b) M1):yq d ρ M = .ok b M1:=by
 rw[jbD,h];rfl
theorem or_no {t1 t2:DT}{ρ:En}{M M1 M2:Sto}(h1:t1 ρ M = .ok false M1)(h2:t2 ρ M1 = .ok false M2):dOr t1 t2 ρ M = .ok false M2:=by
 unfold dOr;rw[h1];exact h2
theorem yH {g:G2}{da db:DE}{ρ:En}{M M1 M2:Sto}{x y z:PV}(h1:da ρ M = .ok x M1)(h2:db ρ M1 = .ok y M2)(h3:g M2 x y=some z):dOp g da db ρ M = .ok z M2:=by
 rw[jY,h1];simp only[Res.bind_ok];rw[h2];simp only[Res.bind_ok];rw[h3];rfl
theorem jhp {t:DT}{A B c:DS}{ρ ρ':En}{M M1 M2:Sto}{bb:Bool}{r:RS}(h:t ρ M = .ok bb M1)(hb:(if bb=true then A else B) ρ M1 = .nx ρ' M2)(k:c ρ' M2=r):yh (sIf t A B) c ρ M=r:=by
 unfold yh sIf;rw[h]
 have e:(Res.ok bb M1).st ρ (fun b M1=>if b=true then A ρ M1 else B ρ M1) = .nx ρ' M2:=by
  rw[<- hb];cases bb <;> rfl
 rw[e];exact k
theorem jej {M:Sto}{j:Nat}{xs:List PV}{d:DE}{ρ:En}(h:M.g j=some (.lst xs))(e:d ρ M = .ok (.ref j) M):dIt d ρ M = .ok (.live j) M:=by
 unfold dIt
 have e2:itOf M (.ref j)=some (.live j):=by
  show(match M.g j with
   | some (.lst _)=>some (ItP.live j)
   | _=>none)=_
  rw[h]
 simp only[e,Res.bind_ok,e2,jy]
theorem cut_hi {xs:List PV}{n:Int}(h0:0<=n)(h1:n<=xs.length):Yl xs (some n) none=xs.drop n.toNat:=by
 unfold Yl;have e1:HT.sIx xs.length xs.length none=xs.length:=rfl
 have e2:HT.sIx xs.length 0 (some n)=n.toNat:=by
  simp only[HT.sIx];rw[if_neg (by omega)];omega
 rw[e1,e2,List.take_of_length_le (by simp)]
theorem sIf_t {t:DT}{A B:DS}{ρ:En}{M M1:Sto}{r:RS}(h:t ρ M = .ok true M1)(k:A ρ M1=r):sIf t A B ρ M=r:=by
 unfold sIf;rw[h];exact k
theorem sIf_f {t:DT}{A B:DS}{ρ:En}{M M1:Sto}{r:RS}(h:t ρ M = .ok false M1)(k:B ρ M1=r):sIf t A B ρ M=r:=by
 unfold sIf;rw[h];exact k
theorem vy {d:DE}{ρ:En}{M M1:Sto}{x:PV}(h:d ρ M = .ok x M1):jb d yb ρ M = .ok [x] M1:=by
 rw[jp,h];rfl
abbrev Row:=Int×Int×Int
def rk (a:Row):Int×Int:=(a.1,a.2.1)
def prs {α:Type}:List α->List (α×α)
 | []=>[]
 | a::l=>l.map (fun b=>(a,b))++prs l
def cls:List Row->List (Row×Row)
 | []=>[]
 | a::l=>(l.filter fun b=>decide (rk a=rk b)).map (fun b=>(a,b))++cls l
structure Bl (B:List (List Row)):Prop where
 ne:∀ b∈B,b≠[]
 same:∀ b∈B,∀ x∈b,∀ y∈b,rk x=rk y
 off:B.Pairwise fun b c=>∀ x∈b,∀ y∈c,rk x≠rk y
theorem jgy {x y:Row}(h:Sr3.lexB3 y x=false):x.1<y.1∨(x.1=y.1∧(x.2.1<y.2.1∨(x.2.1=y.2.1∧x.2.2<=y.2.2))):=by
 have:¬ Sr3.lexB3 y x=true:=by rw[h];simp
 rw[Sr3.lex_iff3]at this;omega
theorem Vt {x y:Row}:rk x=rk y↔x.1=y.1∧x.2.1=y.2.1:=by
 unfold rk;rw[Prod.mk.injEq]
theorem jiA:∀(R:List Row),jfW R->∃ B,Bl B∧B.flatten=R
 | [],_=>⟨[],⟨fun b hb=>(by cases hb),fun b hb=>(by cases hb),.nil⟩,rfl⟩
 | a::R,h=>by
  obtain⟨h1,h2⟩:=List.pairwise_cons.mp h;obtain⟨B,hB,e⟩:=jiA R h2
  cases B with
  | nil =>
   have e:[]=R:=e;subst e
   exact⟨[[a]],⟨fun b hb=>by cases List.mem_singleton.mp hb;simp,fun b hb x hx y hy=>by
    cases List.mem_singleton.mp hb;cases List.mem_singleton.mp hx;cases List.mem_singleton.mp hy
    rfl,List.pairwise_singleton _ _⟩,rfl⟩
  | cons b B =>
   obtain⟨o1,o2⟩:=List.pairwise_cons.mp hB.off
   cases b with
   | nil=>exact absurd rfl (hB.ne [] mem_cons_self)
   | cons y b =>
    have hy:y∈R:=by rw[<- e];simp
    by_cases hk:rk a=rk y
    ·refine⟨(a::y::b)::B,⟨fun c hc=>?_,fun c hc=>?_,List.pairwise_cons.mpr ⟨fun c hc x hx z hz=>?_,o2⟩⟩,by rw[<- e];rfl⟩
     ·rcases List.mem_cons.mp hc with rfl | hc
      ·simp
      ·exact hB.ne c (mem_cons_of_mem _ hc)
     ·rcases List.mem_cons.mp hc with rfl | hc
      ·have q:∀ x∈a::y::b,rk x=rk y:=fun x hx=>by
        rcases List.mem_cons.mp hx with rfl | hx
        ·exact hk
        ·exact hB.same _ mem_cons_self x hx y mem_cons_self
       intro x hx z hz;rw[q x hx,q z hz]
      ·exact hB.same c (mem_cons_of_mem _ hc)
     ·rcases List.mem_cons.mp hx with rfl | hx
      ·rw[hk];exact o1 c hc y mem_cons_self z hz
      ·exact o1 c hc x hx z hz
    ·refine⟨[a]::(y::b)::B,⟨fun c hc=>?_,fun c hc=>?_,List.pairwise_cons.mpr ⟨fun c hc x hx z hz=>?_,hB.off⟩⟩,by rw[<- e];rfl⟩
     ·rcases List.mem_cons.mp hc with rfl | hc
      ·simp
      ·exact hB.ne c hc
     ·rcases List.mem_cons.mp hc with rfl | hc
      ·intro x hx z hz;cases List.mem_singleton.mp hx;cases List.mem_singleton.mp hz;rfl
      ·exact hB.same c hc
     ·cases List.mem_singleton.mp hx;intro iS
      have hzR:z∈R:=by rw[<- e];exact List.mem_flatten.mpr ⟨c,hc,hz⟩
      have l1:=jgy (h1 y hy)
      have l2:y=z∨Sr3.lexB3 z y=false:=by
       have e:y::(b++B.flatten)=R:=e;rw[<- e]at hzR h2
       rcases List.mem_cons.mp hzR with r | r
       ·exact .inl r.symm
       ·exact .inr ((List.pairwise_cons.mp h2).1 z r)
      rcases l2 with l2 | l2
      ·subst l2;exact hk iS
      ·have l2:=jgy l2;apply hk;rw[Vt]at iS ⊢;omega
theorem jeC:∀{b c:List Row},(∀ x∈b,∀ y∈c,rk x≠rk y)->cls (b++c)=cls b++cls c
 | [],_,_=>rfl
 | a::b,c,h=>by
  show((b++c).filter fun y=>decide (rk a=rk y)).map (fun y=>(a,y))++cls (b++c)=_;rw[jeC fun x hx=>h x (mem_cons_of_mem _ hx),List.filter_append,show c.filter (fun y=>decide (rk a=rk y))=[]from List.filter_eq_nil_iff.mpr fun y hy=>by simpa using h a mem_cons_self y hy,append_nil,<- append_assoc];rfl
theorem jbK:∀{b:List Row},(∀ x∈b,∀ y∈b,rk x=rk y)->cls b=prs b
 | [],_=>rfl
 | a::b,h=>by
  show(b.filter fun y=>decide (rk a=rk y)).map (fun y=>(a,y))++cls b=_;rw[jbK fun x hx y hy=>h x (mem_cons_of_mem _ hx) y (mem_cons_of_mem _ hy),List.filter_eq_self.mpr fun y hy=>by simpa using h a mem_cons_self y (mem_cons_of_mem _ hy)];rfl
theorem XT:∀{B:List (List Row)},Bl B->cls B.flatten=(B.map prs).flatten
 | [],_=>rfl
 | b::B,h=>by
  obtain⟨o1,o2⟩:=List.pairwise_cons.mp h.off
  rw[flatten_cons,jeC fun x hx y hy=>by
   obtain⟨c,hc,hy⟩:=List.mem_flatten.mp hy
   exact o1 c hc x hx y hy,jbK (h.same b mem_cons_self),XT ⟨fun c hc=>h.ne c (mem_cons_of_mem _ hc),fun c hc=>h.same c (mem_cons_of_mem _ hc),o2⟩]
  rfl
theorem jac:∀{R:List Row}{p:Row×Row},p∈cls R->p.1∈R∧p.2∈R∧rk p.1=rk p.2∧(R.Nodup->p.1≠p.2)
 | a::R,p,h=>by
  rcases List.mem_append.mp h with h | h
  ·obtain⟨b,hb,rfl⟩:=List.mem_map.mp h;obtain⟨hb,hk⟩:=List.mem_filter.mp hb
   exact⟨mem_cons_self,mem_cons_of_mem _ hb,of_decide_eq_true hk,fun nd z=>by
    have z:a=b:=z;subst z
    exact(List.nodup_cons.mp nd).1 hb⟩
  ·obtain⟨h1,h2,h3,h4⟩:=jac (R:=R) h;exact⟨mem_cons_of_mem _ h1,mem_cons_of_mem _ h2,h3,fun nd=>h4 (List.nodup_cons.mp nd).2⟩
theorem jei:∀{R:List Row}{a b:Row},a∈R->b∈R->rk a=rk b->a≠b->(a,b)∈cls R∨(b,a)∈cls R
 | c::R,a,b,ha,hb,hk,hn=>by
  have e:cls (c::R)=(R.filter fun y=>decide (rk c=rk y)).map (fun y=>(c,y))++cls R:=rfl;rw[e]
  rcases List.mem_cons.mp ha with rfl | eW
  ·rcases List.mem_cons.mp hb with rfl | gY
   ·exact absurd rfl hn
   ·exact .inl (List.mem_append.mpr (.inl (List.mem_map.mpr ⟨b,List.mem_filter.mpr ⟨gY,decide_eq_true hk⟩,rfl⟩)))
  ·rcases List.mem_cons.mp hb with rfl | gY
   ·exact .inr (List.mem_append.mpr (.inl (List.mem_map.mpr ⟨a,List.mem_filter.mpr ⟨eW,decide_eq_true hk.symm⟩,rfl⟩)))
   ·rcases jei eW gY hk hn with h | h
    ·exact .inl (List.mem_append.mpr (.inr h))
    ·exact .inr (List.mem_append.mpr (.inr h))
theorem jfM {R:List Row}(nd:R.Nodup)(h:Int):h∈(cls R).map (fun p=>p.1.1)↔∃ a b,a∈R∧b∈R∧rk a=rk b∧a≠b∧a.1=h:=by
 rw[mem_map];constructor
 ·rintro⟨p,hp,e⟩;obtain⟨h1,h2,h3,h4⟩:=jac hp;exact⟨p.1,p.2,h1,h2,h3,h4 nd,e⟩
 ·rintro⟨a,b,ha,hb,hk,hn,e⟩
  rcases jei ha hb hk hn with h | h
  ·exact⟨_,h,e⟩
  ·exact⟨_,h,by rw[<- e];exact(Vt.mp hk).1.symm⟩
theorem jeB:∀(R:List Row),(cls R).length<=R.length*R.length
 | []=>le_refl _
 | a::R=>by
  have e:cls (a::R)=(R.filter fun y=>decide (rk a=rk y)).map (fun y=>(a,y))++cls R:=rfl
  have:=jeB R
  have h2:=length_filter_le (fun y=>decide (rk a=rk y)) R;rw[e,length_append,length_map,length_cons]
  have:(R.length+1)*(R.length+1)=R.length*R.length+R.length+R.length+1:=by
   rw[Nat.add_mul,Nat.mul_add];omega
  omega
theorem jea {α:Type}:∀(R:List α),(prs R).length<=R.length*R.length
 | []=>le_refl _
 | a::R=>by
  have e:prs (a::R)=R.map (fun y=>(a,y))++prs R:=rfl
  have:=jea R
  rw[e,length_append,length_map,length_cons]
  have:(R.length+1)*(R.length+1)=R.length*R.length+R.length+R.length+1:=by
   rw[Nat.add_mul,Nat.mul_add];omega
  omega
theorem jgU {α β:Type}(d:α)(f:α×α->β):∀(R:List α),(prs R).map f=((List.range R.length).map fun k=>(R.drop (k+1)).map fun b=>f (R.getD k d,b)).flatten
 | []=>rfl
 | a::R=>by
  rw[length_cons,range_succ_eq_map,map_cons,flatten_cons,map_map];show(R.map (fun y=>(a,y))++prs R).map f=_;rw[map_append,map_map,jgU d f R];rfl
theorem szB {n:Nat}(h:n<=100000):n<sizeLine:=Nat.lt_of_le_of_lt h (by decide)
theorem UU {n N:Nat}{aF:List PV}{ρ ρ':En}{dd:DS}{M M1:Sto}(hn:aF.length=n)(hρ:aF.map some++replicate (N-n) none=ρ)(h:dd ρ M = .nx ρ' M1):yu n N dd aF M = .ok .non M1:=by
 unfold yu;rw[if_pos hn,hρ,h];rfl
theorem UW {g:GM}{do_:DE}{da:DA}{ρ:En}{M M1 M2 M3:Sto}{x z:PV}{ys xs:List PV}(h1:do_ ρ M = .ok x M1)(h2:yz M1 x=some ys)(h3:da ρ M1 = .ok xs M2)(h4:g M2 x xs=some (z,M3)):dMt g do_ da ρ M = .ok z M3:=by
 unfold dMt;rw[h1];simp only[Res.bind_ok];rw[h2];simp only[];rw[h3];simp only[Res.bind_ok];rw[h4]
theorem jao {M:Sto}{j:Nat}{xs:List PV}{y:PV}(h:M.g j=some (.lst xs))(hl:xs.length<sizeLine):yZ M (.ref j) [y]=some (.non,M.set j (.lst (xs++[y]))):=by
 unfold yZ
 have:jeE M (.ref j)=some (j,xs):=by
  show(match M.g j with
   | some (.lst xs)=>some (j,xs)
   | _=>none)=_
  rw[h]
 rw[this];exact if_pos hl
theorem JV {f:Sto->PV->Option PV}{d:DE}{ρ:En}{M M1:Sto}{x z:PV}(h1:d ρ M = .ok x M1)(h2:f M1 x=some z):dCB (one f) (jb d yb) ρ M = .ok z M1:=by
 rw[jcV,jp,h1];simp only[Res.bind_ok,ju,jhl,h2]
theorem xU {d:DE}{ρ:En}{M M1:Sto}{v:PV}(h:d ρ M = .ok v M1):yA d ρ M = .nx ρ M1:=by
 unfold yA;rw[h];rfl
theorem seq_of {d1 d2:DS}{ρ ρ':En}{M M1:Sto}{r:RS}(h:d1 ρ M = .nx ρ' M1)(k:d2 ρ' M1=r):yh d1 d2 ρ M=r:=by
 unfold yh;rw[h];exact k
theorem jhS {do_ dz:DE}{dk:DA}{ρ:En}{M:Sto}{j:Nat}{l:List (List Int×PV)}{ks:List PV}{ns:List Int}{z:PV}(h1:do_ ρ M = .ok (.ref j) M)(h2:M.g j=some (.dtv l))(h3:dk ρ M = .ok ks M)(h4:vm ks=some ns)(h5:ns.length<=sizeLine)(h6:dz ρ M = .ok z M):UY do_ dk dz ρ M = .ok ((xb l ns).getD z) M:=by
 unfold UY;rw[h1];simp only[Res.bind_ok,h2,h3,h4,h5,h6,if_true]
theorem Jp {M:Sto}{j:Nat}{l:List (List Int×PV)}{ks:List PV}{ns:List Int}{x:PV}(h2:M.g j=some (.dtv l))(h4:vm ks=some ns)(h5:ns.length<=1000)(h6:l.length<=1000):vg M (.ref j) ks x=some (M.set j (.dtv (xD l ns x))):=by
 unfold vg;simp only[h2,h4];rw[if_pos ⟨le_of_lt (szB (by omega)),szB (by omega)⟩]
theorem jfc {d do_:DE}{dk:DA}{ρ:En}{M M4:Sto}{x o:PV}{ks:List PV}(h1:d ρ M = .ok x M)(h2:do_ ρ M = .ok o M)(h3:dk ρ M = .ok ks M)(h4:vg M o ks x=some M4):Ur d do_ dk ρ M = .nx ρ M4:=by
 unfold Ur;rw[h1];simp only[Res.st_ok];rw[h2];simp only[Res.st_ok];rw[h3];simp only[Res.st_ok,h4]
theorem Xd {d do_ dy:DE}{ρ:En}{M M4:Sto}{x o:PV}{ks:List PV}(h1:d ρ M = .ok x M)(h2:do_ ρ M = .ok o M)(h3:dy ρ M = .ok (.tup ks) M)(hk:ks.length=3)(h4:vg M o ks x=some M4):Jh d do_ dy ρ M = .nx ρ M4:=by
 unfold Jh;rw[h1];simp only[Res.st_ok];rw[h2];simp only[Res.st_ok];rw[h3];simp only[Res.st_ok,jcu,hk,if_true,h4]
theorem sRow_of {i:Nat}{dk:DA}{d do_:DE}{ρ:En}{M M4:Sto}{x o:PV}{ks:List PV}(h3:dk ρ M = .ok ks M)(hk:ks.length<=1000)(hi:i < ρ.length)(h1:d (ρ.set i (some (.tup ks))) M = .ok x M)(h2:do_ (ρ.set i (some (.tup ks))) M = .ok o M)(h4:vg M o ks x=some M4):jgw i dk d do_ ρ M = .nx (ρ.set i (some (.tup ks))) M4:=by
 unfold jgw;rw[h3];simp only[Res.st_ok];rw[if_pos ⟨le_of_lt (szB (by omega)),hi⟩,h1];simp only[Res.st_ok];rw[h2];simp only[Res.st_ok,h4]
def Jg (k:Row):List Int:=[k.1,k.2.1,k.2.2]
def kr (k:Row):List Int×PV:=(Jg k,.bl true)
def vU (T:List Row)(k:Row):List Row:=if k∈T then T else T++[k]
theorem jgg {a b:Row}(h:Jg a=Jg b):a=b:=by
 unfold Jg at h
 injection h with h1 h
 injection h with h2 h
 injection h with h3 _
 exact Prod.ext h1 (Prod.ext h2 h3)
theorem jiF (T:List Row)(k:Row):((T.map kr).any fun p=>decide (p.1=Jg k))=decide (k∈T):=by
 rw[Bool.eq_iff_iff,any_eq_true,decide_eq_true_eq];constructor
 ·rintro⟨x,hx,e⟩;obtain⟨y,hy,rfl⟩:=List.mem_map.mp hx;rw[<- jgg (a:=y) (b:=k) (of_decide_eq_true e)];exact hy
 ·intro hm;exact⟨kr k,List.mem_map.mpr ⟨_,hm,rfl⟩,decide_eq_true rfl⟩
theorem jhR (T:List Row)(k:Row):(xb (T.map kr) (Jg k)).isSome=decide (k∈T):=by
 rw[<- jiF];unfold xb;rw[isSome_map,Bool.eq_iff_iff,List.find?_isSome,any_eq_true]
theorem jct (T:List Row)(k:Row):xD (T.map kr) (Jg k) (.bl true)=(vU T k).map kr:=by
 unfold xD vU;rw[jiF]
 by_cases h:k∈T
 ·rw[decide_eq_true h,if_pos rfl,if_pos h,map_map];refine map_congr_left fun y hy=>?_;show(if Jg y=Jg k then(Jg y,PV.bl true)else kr y)=kr y;split <;> rfl
 ·rw[decide_eq_false h,if_neg (by simp),if_neg h,map_append];rfl
theorem Js {T:List Row}{k x:Row}:x∈vU T k↔x∈T∨x=k:=by
 unfold vU;split
 ·rename_i h;exact⟨.inl,fun z=>z.elim id fun e=>e ▸ h⟩
 ·rw[mem_append,mem_singleton]
theorem addR_nd {T:List Row}{k:Row}(h:T.Nodup):(vU T k).Nodup:=by
 unfold vU;split
 ·exact h
 ·rename_i z;exact List.nodup_append.mpr ⟨h,List.nodup_cons.mpr ⟨by simp,nodup_nil⟩,fun a ha b hb e=>z (by rw[<- List.mem_singleton.mp hb,<- e];exact ha)⟩
theorem jiK (T:List Row)(k:Row):(vU T k).length<=T.length+1:=by
 unfold vU;split
 ·omega
 ·rw[length_append];exact le_refl _
theorem jdr:∀ T:List Row,jcg (T.map kr)=some T
 | []=>rfl
 | k::T=>by
  show(tri (Jg k)).bind (fun k=>(jcg (T.map kr)).map fun ks=>k::ks)=_;rw[jdr T];rfl
def bkF (i n:Nat)(fs:List Int):List (Str×PV):=[("liars",.lst (fs.map PV.int)),("said",.ref (i+1)),("bound",.ref (i+2)),("seen",.lst ((List.range n).map fun h=>PV.ref (i+3+h)))]
structure Bk (M:Sto)(i n:Nat)(fs:List Int)(sd:List Row)(bd:List (List Int×PV))(T:Nat->List Row):Prop where
 bk:M.g i=some (.ins 10 (bkF i n fs))
 sa:M.g (i+1)=some (.dtv (sd.map kr))
 bo:M.g (i+2)=some (.dtv bd)
 sn:∀ h,h<n->M.g (i+3+h)=some (.dtv ((T h).map kr))
 ln:i+3+n<=M.n
 n16:n<=16
structure FrB (M M':Sto)(i m:Nat):Prop where
 n:M.n<=M'.n
 g:∀ j,j<M.n->(j<i∨m<=j)->M'.g j=M.g j
theorem FrB.refl (M:Sto)(i m:Nat):FrB M M i m:=⟨le_refl _,fun _ _ _=>rfl⟩
theorem FrB.trans {A B C:Sto}{i m:Nat}(h:FrB A B i m)(k:FrB B C i m):FrB A C i m:=⟨le_trans h.n k.n,fun j a b=>(k.g j (lt_of_lt_of_le a h.n) b).trans (h.g j a b)⟩
theorem Ex.fr {A B:Sto}(h:Ex A B)(i m:Nat):FrB A B i m:=⟨h.n,fun j a _=>h.g j a⟩
section
variable {M M':Sto}{i n:Nat}{fs:List Int}{sd:List Row}{bd:List (List Int×PV)}{T:Nat->List Row}
theorem Bk.off (B:Bk M i n fs sd bd T)(hn:M.n<=M'.n)(hg:∀ j,i<=j->j<i+3+n->M'.g j=M.g j):Bk M' i n fs sd bd T:=by
 have:=B.ln
 exact⟨by rw[hg _ (by omega) (by omega)];exact B.bk,by rw[hg _ (by omega) (by omega)];exact B.sa,by rw[hg _ (by omega) (by omega)];exact B.bo,fun h hh=>by rw[hg _ (by omega) (by omega)];exact B.sn h hh,le_trans B.ln hn,B.n16⟩
theorem Bk.ex (B:Bk M i n fs sd bd T)(h:Ex M M'):Bk M' i n fs sd bd T:=by
 have:=B.ln
 exact B.off h.n fun j _ hj=>h.g j (by omega)
theorem Bk.fld {x:Str}{v:PV}{d:DE}{ρ:En}(B:Bk M i n fs sd bd T)(ho:d ρ M = .ok (.ref i) M)(hx:(bkF i n fs).lookup x=some v):uv 10 x d ρ M = .ok v M:=jP ho B.bk hx
theorem Bk.mth {M1 M2:Sto}{a b:Nat}{nm:Str}{D:List PV->Sto->Res PV}{sl:List Sl}{dP xs zs:List PV}{do_:DE}{da dk:DA}{ρ:En}(B:Bk M i n fs sd bd T)(ho:do_ ρ M = .ok (.ref i) M)(hn:(bkF i n fs).lookup nm=none)(ha:da ρ M = .ok xs M1)(hk:dk ρ M1 = .ok zs M2):xF 10 nm D a b sl dP do_ da dk ρ M=D (ym a b sl dP (.ref i::xs) zs) M2:=jM ho B.bk hn ha hk
theorem jbN (B:Bk M i n fs sd bd T){h:Int}(h0:0<=h)(h1:h<n):vS [.ref i,.int h] M = .ok .non M:=by
 have c1:jbZ [.int h,.int n] M = .ok .non M:=by
  show fin (jip [some (.int h),some (.int n)] M)=_;unfold jip;have q:=Yt (M:=M) (h:=h) (n:=n);rw[XF h0 (by omega)]at q;simp[ym,gen,q]
 have ln:uq M (.lst ((List.range n).map fun h=>PV.ref (i+3+h)))=some (.int n):=by rw[xT (x:=.lst _) rfl,length_map,length_range]
 refine UU (ρ:=[some (.ref i),some (.int h)]) (ρ':=[some (.ref i),some (.int h)]) rfl rfl ?_;unfold d_zaa;refine xU (v:=.non) ?_;rw[jT,jp,jF,jz];simp only[Res.bind_ok];rw[jp,JV (B.fld (d:=ya 0) (ρ:=[some (.ref i),some (.int h)]) rfl rfl) ln];simp only[Res.bind_ok,ju];exact c1
theorem YL (B:Bk M i n fs sd bd T){h:Int}(h0:0<=h)(h1:h<n){d0 d1:DE}{ρ:En}(e0:d0 ρ M = .ok (.ref i) M)(e1:d1 ρ M = .ok (.int h) M):dOp gIx (uv 10 "seen" d0) d1 ρ M = .ok (.ref (i+3+h.toNat)) M:=by
 refine yH (B.fld e0 rfl) e1 ?_;rw[uT (x:=.lst _) rfl,jal h0 (by rw[length_map,length_range];omega),getElem?_map,List.getElem?_range (by omega)];rfl
theorem bind_b (B:Bk M i n fs sd bd T){h p x:Int}(hb:(xb bd [h,p]).getD (.int x) = .int x)(hl:bd.length<=1000):jbU [.ref i,.int h,.int p,.int x] M = .ok .non (M.set (i+2) (.dtv (xD bd [h,p] (.int x)))):=by
 refine UU (ρ:=[some (.ref i),some (.int h),some (.int p),some (.int x)]) (ρ':=[some (.ref i),some (.int h),some (.int p),some (.int x)]) rfl rfl ?_;unfold d_zav;refine jeh (M1:=M) ?_ ?_
 ·refine yE (yH (x:=.int x) (y:=.int x) (M1:=M) ?_ rfl ?_)
  ·rw[jhS (B.fld (d:=ya 0) (ρ:=[some (.ref i),some (.int h),some (.int p),some (.int x)]) rfl rfl) B.bo (ks:=[.int h,.int p]) rfl rfl (le_of_lt (szB (show 2<=100000 by decide))) (z:=.int x) rfl,hb]
  ·show some (PV.bl (!(x==x)))=_;rw[beq_self_eq_true];rfl
 ·exact jfc (x:=.int x) (ks:=[.int h,.int p]) rfl (B.fld (d:=ya 0) rfl rfl) rfl (Jp B.bo rfl (show 2<=1000 by decide) hl)
def bdS (fs:List Int)(bd:List (List Int×PV))(h p x:Int):List (List Int×PV):=if h∈fs then bd else xD bd [h,p] (.int x)
theorem say_b (B:Bk M i n fs sd bd T){h p x:Int}(h0:0<=h)(h1:h<n)(p0:0<=p)(p1:p<=99)(x0:-1000000<=x)(x1:x<=1000000)(hb:h∉fs->(xb bd [h,p]).getD (.int x) = .int x)(hl:bd.length<=1000)(hs:sd.length<=1000) :
  ∃ M',Ue [.ref i,.int h,.int p,.int x] M = .ok (yd (h,p,x)) M'∧Bk M' i n fs (vU sd (h,p,x)) (bdS fs bd h p x) T∧FrB M M' i (i+3+n):=by
 obtain⟨M1,cG⟩:∃ M1,M1=if h∈fs then M else M.set (i+2) (.dtv (xD bd [h,p] (.int x))):=⟨_,rfl⟩
 have g1:∀ j,j≠i+2->M1.g j=M.g j:=fun j hj=>by
  rw[cG];split
  ·rfl
  ·exact Sto.set_ne hj
 have n1:M1.n=M.n:=by
  rw[cG];split <;> rfl
 have b1:M1.g (i+2)=some (.dtv (bdS fs bd h p x)):=by
  rw[cG];unfold bdS;split
  ·exact B.bo
  ·exact Sto.set_same
 have i1:M1.g i=some (.ins 10 (bkF i n fs)):=by rw[g1 _ (by omega)];exact B.bk
 have s1:M1.g (i+1)=some (.dtv (sd.map kr)):=by rw[g1 _ (by omega)];exact B.sa
 refine⟨M1.set (i+1) (.dtv ((vU sd (h,p,x)).map kr)),?_,⟨by rw[Sto.set_ne (by omega)];exact i1,Sto.set_same,by rw[Sto.set_ne (by omega)];exact b1,fun j hj=>by rw[Sto.set_ne (by omega),g1 _ (by omega)];exact B.sn j hj,by show _<=M1.n;rw[n1];exact B.ln,B.n16⟩,⟨by show _<=M1.n;omega,fun j _ hj=>by rw[Sto.set_ne (by omega),g1 _ (by omega)]⟩⟩;refine jV (ρ:=[some (.ref i),some (.int h),some (.int p),some (.int x),none]) rfl rfl ?_;unfold d_zba;refine xE (v:=.non) (M1:=M) ?_ ?_
 ·rw[B.mth (xs:=[.int h]) (zs:=[]) (M1:=M) (M2:=M) rfl rfl rfl rfl];exact jbN B h0 h1
 refine xE (v:=.non) (M1:=M) ?_ ?_
 ·simp only[jT,jp,jz,jF,jez,ju,Res.bind_ok];show JN [.int p,.int 0,.int 99] M=_;rw[jA (Kd.int p) (by decide) (by decide),XF p0 p1];rfl
 refine jeh (M1:=M) ?_ ?_
 ·have q:Vb [.int x] M = .ok (.bl true) M:=by rw[UL (Kd.int x),XF x0 x1]
  simp[ym,gen,q]
 refine jhp (bb:=!decide (h∈fs)) (M1:=M) (M2:=M1) (ρ':=[some (.ref i),some (.int h),some (.int p),some (.int x),none]) ?_ ?_ ?_
 ·exact yE (yH (x:=.int h) (y:=.lst (fs.map PV.int)) (M1:=M) rfl (B.fld (d:=ya 0) rfl rfl) (um (neg:=true) (M:=M) (x:=.lst (fs.map PV.int)) (k:=h) (ns:=fs) rfl))
 ·by_cases hf:h∈fs
  ·rw[decide_eq_true hf,cG,if_pos hf];rfl
  ·rw[decide_eq_false hf,cG,if_neg hf];refine xU (v:=.non) ?_;rw[B.mth (xs:=[.int h,.int p,.int x]) (zs:=[]) (M1:=M) (M2:=M) rfl rfl rfl rfl];exact bind_b B (hb hf) hl
 refine seq_of (sRow_of (ks:=[.int h,.int p,.int x]) (x:=.bl true) (o:=.ref (i+1)) rfl (show 3<=1000 by decide) (show 4<5 by decide) rfl (jP (d:=ya 0) (i:=i) rfl i1 rfl) (Jp s1 rfl (show 3<=1000 by decide) (by rw[length_map];exact hs))) ?_;rw[show xD (sd.map kr) [h,p,x] (.bl true)=(vU sd (h,p,x)).map kr from jct sd (h,p,x)];exact jO rfl
theorem jfb {M:Sto}{k:Row}:jbT [yd k] M = .ok (.bl true) M:=rfl
def upT (T:Nat->List Row)(h:Nat)(r:List Row):Nat->List Row:=fun j=>if j=h then r else T j
theorem yU {T:Nat->List Row}{h:Nat}{r:List Row}:upT T h r h=r:=if_pos rfl
theorem uP {T:Nat->List Row}{h j:Nat}{r:List Row}(e:j≠h):upT T h r j=T j:=if_neg e
theorem Bk.up (B:Bk M i n fs sd bd T){h:Nat}(hh:h<n)(r:List Row):Bk (M.set (i+3+h) (.dtv (r.map kr))) i n fs sd bd (upT T h r) :=
 ⟨by rw[Sto.set_ne (by omega)];exact B.bk,by rw[Sto.set_ne (by omega)];exact B.sa,by rw[Sto.set_ne (by omega)];exact B.bo,fun j hj=>by
  by_cases e:j=h
  ·subst e;rw[yU];exact Sto.set_same
  ·rw[uP e,Sto.set_ne (by omega)]
   exact B.sn j hj,B.ln,B.n16⟩
theorem show_b (B:Bk M i n fs sd bd T){h:Int}(h0:0<=h)(h1:h<n){k:Row}(hk:k∈sd)(hl:(T h.toNat).length<=1000):Va [.ref i,.int h,yd k] M = .ok .non (M.set (i+3+h.toNat) (.dtv ((vU (T h.toNat) k).map kr))):=by
 refine UU (ρ:=[some (.ref i),some (.int h),some (yd k),none]) (ρ':=[some (.ref i),some (.int h),some (yd k),some (.ref (i+3+h.toNat))]) rfl rfl ?_;unfold d_zax;refine xE (v:=.non) (M1:=M) ?_ ?_
 ·rw[B.mth (xs:=[.int h]) (zs:=[]) (M1:=M) (M2:=M) rfl rfl rfl rfl];exact jbN B h0 h1
 refine jeh (M1:=M) ?_ ?_
 ·refine or_no (M1:=M) ?_ ?_
  ·simp[ym,gen,jfb]
  ·refine yE ?_;unfold UX;simp only[jz,jF,Res.bind_ok];rw[B.fld (x:="said") (v:=.ref (i+1)) (d:=ya 0) (ρ:=[some (.ref i),some (.int h),some (yd k),none]) rfl rfl];simp only[Res.bind_ok]
   have:jhG true M (yd k) (.ref (i+1))=some (.bl false):=by
    show inTv true M [.int k.1,.int k.2.1,.int k.2.2] (.ref (i+1))=_;unfold inTv;simp only[B.sa];show(if(3:Nat)<=sizeLine then some (PV.bl (if true=true then !(xb (sd.map kr) (Jg k)).isSome else(xb (sd.map kr) (Jg k)).isSome))else none)=_;rw[if_pos (by decide),jhR,decide_eq_true hk];rfl
   rw[this]
 refine jR (v:=.ref (i+3+h.toNat)) (M1:=M) (YL B h0 h1 rfl rfl) ?_;rw[<- jct];exact Xd (x:=.bl true) (o:=.ref (i+3+h.toNat)) (ks:=[.int k.1,.int k.2.1,.int k.2.2]) rfl rfl rfl rfl (Jp (B.sn h.toNat (by omega)) rfl (show 3<=1000 by decide) (by rw[length_map];exact hl))
def UF (A C:List Row):List Row:=A.filter fun k=>decide (k∉C)
theorem new_kr (A C:List Row):jem ((A.map kr).filter (uU (C.map kr)))=(UF A C).map yd:=by
 unfold UF jem;rw[List.filter_map,map_map];congr 1;refine List.filter_congr fun k _=>?_;show(!(xb (C.map kr) (Jg k)).isSome)=_;rw[jhR];simp
theorem pass_b (B:Bk M i n fs sd bd T){h o:Int}(h0:0<=h)(h1:h<n)(o0:0<=o)(o1:o<n)(nd:(T h.toNat).Nodup)(hl:(T h.toNat).length<=400)(i3:(T o.toNat).length<=400) :
  YC [.ref i,.int h,.int o] M = .ok (.int (UF (T h.toNat) (T o.toNat)).length) (M.set (i+3+o.toNat) (.dtv ((T o.toNat++UF (T h.toNat) (T o.toNat)).map kr))):=by
 obtain⟨N,hN⟩:∃ N,N=UF (T h.toNat) (T o.toNat):=⟨_,rfl⟩
 obtain⟨C,hC⟩:∃ C,C=T o.toNat:=⟨_,rfl⟩
 have hNl:N.length<=400:=by rw[hN];exact le_trans (length_filter_le _ _) hl
 have Nnd:N.Nodup:=by rw[hN];exact nd.filter _
 have hNC:∀ k∈N,k∉C:=fun k hk=>by
  rw[hN]at hk;rw[hC];exact of_decide_eq_true (List.mem_filter.mp hk).2
 have gC:M.g (i+3+o.toNat)=some (.dtv (C.map kr)):=by rw[hC];exact B.sn _ (by omega)
 rw[<- hN,<- hC]
 have main:yu 3 6 jew [.ref i,.int h,.int o] M = .ok (.int N.length) (M.set (i+3+o.toNat) (.dtv ((C++N).map kr))):=by
  refine jV (ρ:=[some (.ref i),some (.int h),some (.int o),none,none,none]) rfl rfl ?_;unfold jew;refine xE (v:=.non) (M1:=M) ?_ ?_
  ·rw[B.mth (xs:=[.int h]) (zs:=[]) (M1:=M) (M2:=M) rfl rfl rfl rfl];exact jbN B h0 h1
  refine xE (v:=.non) (M1:=M) ?_ ?_
  ·rw[B.mth (xs:=[.int o]) (zs:=[]) (M1:=M) (M2:=M) rfl rfl rfl rfl];exact jbN B o0 o1
  refine jR (v:=.ref (i+3+o.toNat)) (M1:=M) (YL B o0 o1 rfl rfl) ?_;refine jR (v:=.lst (N.map yd)) (M1:=M) ?_ ?_
  ·unfold JD;rw[YL B h0 h1 rfl rfl];simp only[Res.bind_ok]
   have:Jr M (.ref (i+3+h.toNat)) (.ref (i+3+o.toNat))=some (N.map yd):=by
    unfold Jr;simp only[B.sn h.toNat (by omega),gC];rw[if_pos (by rw[length_map];exact le_of_lt (szB (by omega))),new_kr,hN,hC]
   show(match(match Jr M (.ref (i+3+h.toNat)) (.ref (i+3+o.toNat))with
    | some xs=>Res.ok (PV.lst xs) M
    | none=>.bad)with
    | r=>r)=_
   rw[this]
  obtain⟨ρ',M',e,x5,hρ,hM⟩:=xL (g:=gN 5) (db:=jbA)
   (fun j ρ M'=>∃ x5,ρ=[some (.ref i),some (.int h),some (.int o),some (.ref (i+3+o.toNat)),some (.lst (N.map yd)),x5]∧M'=M.set (i+3+o.toNat) (.dtv ((C++N.take j).map kr)))
   (N.map yd) 0 [some (.ref i),some (.int h),some (.int o),some (.ref (i+3+o.toNat)),some (.lst (N.map yd)),none] M
   ⟨none,rfl,by rw[take_zero,append_nil,jgr gC]⟩ (by
    rintro j x hx ρ M' ⟨x5,rfl,rfl⟩;rw[getElem?_map,map_eq_some_iff]at hx;obtain⟨k,hk,rfl⟩:=hx;have hj:j<N.length:=(List.getElem?_eq_some_iff.mp hk).1;rw[zero_add];refine⟨_,_,_,rfl,Xd (x:=.bl true) (o:=.ref (i+3+o.toNat)) (ks:=[.int k.1,.int k.2.1,.int k.2.2]) rfl rfl rfl rfl (Jp Sto.set_same rfl (show 3<=1000 by decide) (by rw[length_map,length_append,length_take,hC];omega)),_,rfl,?_⟩;rw[jiY,show xD ((C++N.take j).map kr) [k.1,k.2.1,k.2.2] (.bl true)=_ from jct _ k];congr 2;unfold vU;rw[if_neg,append_assoc]
    ·rw[take_succ,hk];rfl
    ·rw[mem_append];rintro(z | z)
     ·exact hNC k (mem_of_getElem? hk) z
     ·obtain⟨j2,eE,e2⟩:=List.mem_iff_getElem.mp z;rw[length_take]at eE;rw[List.getElem_take]at e2
      have e3:N[j]? = some N[j2]:=by rw[e2];exact hk
      have:=((List.getElem?_inj hj Nnd).mp (by rw[e3,getElem?_eq_getElem (by omega)]):j=j2)
      omega)
  refine jho (F:=200) (M1:=M) (xs:=N.map yd) rfl e ?_;subst hρ;rw[hM,length_map,zero_add,take_length];refine jO (JV (x:=.lst (N.map yd)) rfl ?_);rw[xT (x:=.lst _) rfl,length_map]
 show(yu 3 6 jew _ _).noX=_;rw[main];rfl
theorem known_b (B:Bk M i n fs sd bd T){h:Int}(h0:0<=h)(h1:h<n)(hl:(T h.toNat).length<64):jbX [.ref i,.int h] M = .ok (.lst ((vV (T h.toNat)).map yd)) M:=by
 refine jV (ρ:=[some (.ref i),some (.int h)]) rfl rfl ?_;unfold d_zan;refine xE (v:=.non) (M1:=M) ?_ ?_
 ·rw[B.mth (xs:=[.int h]) (zs:=[]) (M1:=M) (M2:=M) rfl rfl rfl rfl];exact jbN B h0 h1
 refine jO (JV (YL B h0 h1 rfl rfl) ?_);unfold US;simp only[B.sn h.toNat (by omega),jdr];rw[if_pos (by rw[length_map];exact hl)]
end
theorem Jx {p:ItP}{g:DG}{em:EM}{ρ:En}{xs:List PV}{outs:List (List PV)}(I:Sto->Prop)(hl:outs.length=xs.length)(hn:∀ M,I M->∀ k,nxt p M k=some (xs[k]?))(hs:∀(k:Nat) x o,xs[k]? = some x->outs[k]? = some o->∀ M,I M->∃ ρ' M',g x ρ=some ρ'∧em ρ' M = .ok o M'∧I M') :
  ∀(n k:Nat) (M:Sto),I M->xs.length<n+k->k<=xs.length->∃ M',emG p g em ρ n k M = .ok (outs.drop k).flatten M'∧I M'
 | 0,k,M,hI,hk,f6=>absurd hk (by omega)
 | n+1,k,M,hI,hk,f6=>by
  unfold emG;rw[hn M hI k]
  cases e:xs[k]? with
  | none =>
   have:xs.length<=k:=List.getElem?_eq_none_iff.mp e
   exact⟨M,by rw[List.drop_eq_nil_of_le (by omega)];rfl,hI⟩
  | some x =>
   have hk3:k<xs.length:=(List.getElem?_eq_some_iff.mp e).1
   have gO:k<outs.length:=by omega
   obtain⟨ρ',M1,e1,e2,h1⟩:=hs k x _ e (getElem?_eq_getElem gO) M hI;obtain⟨M2,e3,h2⟩:=Jx I hl hn hs n (k+1) M1 h1 (by omega) (by omega);refine⟨M2,?_,h2⟩;simp only[e1,e2,e3,xu,Res.bind_ok];rw[List.drop_eq_getElem_cons gO,flatten_cons]
theorem Jw {p:ItP}{g:DG}{em:EMS}{ρ:En}{xs:List PV}{outs:List (List Int)}(I:Sto->Prop)(hl:outs.length=xs.length)(hn:∀ M,I M->∀ k,nxt p M k=some (xs[k]?))(hs:∀(k:Nat) x o,xs[k]? = some x->outs[k]? = some o->∀ M,I M->∃ ρ' M',g x ρ=some ρ'∧em ρ' M = .ok o M'∧I M') :
  ∀(n k:Nat) (M:Sto),I M->xs.length<n+k->k<=xs.length->∃ M',uK p g em ρ n k M = .ok (outs.drop k).flatten M'∧I M'
 | 0,k,M,hI,hk,f6=>absurd hk (by omega)
 | n+1,k,M,hI,hk,f6=>by
  unfold uK;rw[hn M hI k]
  cases e:xs[k]? with
  | none =>
   have:xs.length<=k:=List.getElem?_eq_none_iff.mp e
   exact⟨M,by rw[List.drop_eq_nil_of_le (by omega)];rfl,hI⟩
  | some x =>
   have hk3:k<xs.length:=(List.getElem?_eq_some_iff.mp e).1
   have gO:k<outs.length:=by omega
   obtain⟨ρ',M1,e1,e2,h1⟩:=hs k x _ e (getElem?_eq_getElem gO) M hI;obtain⟨M2,e3,h2⟩:=Jw I hl hn hs n (k+1) M1 h1 (by omega) (by omega);refine⟨M2,?_,h2⟩;simp only[e1,e2,e3,xu,Res.bind_ok];rw[List.drop_eq_getElem_cons gO,flatten_cons]
theorem uo {α β:Type}(f:α->β):∀ l:List α,(l.map fun x=>[f x]).flatten=l.map f
 | []=>rfl
 | a::l=>by
  rw[map_cons,flatten_cons,uo f l];rfl
def prP (p:Row×Row):PV:=.tup [yd p.1,yd p.2]
theorem jhj {M:Sto}{r:Nat}{R:List Row}(h:M.g r=some (.lst (R.map yd)))(hl:R.length<=200):XZ [.ref r] M = .ok (.lst ((prs R).map prP)) M:=by
 refine jV (ρ:=[some (.ref r)]) rfl rfl ?_;unfold d_zbb;refine jO ?_;unfold Yk
 have e1:jey (jb (ya 0) yb) [some (.ref r)] M = .ok (.gen fun M=>(yz M (.ref r)).map (xK 0)) M:=by
  unfold jey;simp only[jp,jz,ju,Res.bind_ok,h]
 rw[e1];simp only[Res.bind_ok];have sq:yz M (.ref r)=some (R.map yd):=yF h
 have ln:(xK 0 (R.map yd)).length=R.length:=by
  have:∀(xs:List PV) (n:Nat),(xK n xs).length=xs.length:=fun xs=>by
   induction xs with
   | nil=>intro n;rfl
   | cons x xs ih=>intro n;show(xK (n+1) xs).length+1=_;rw[ih];rfl
  rw[this,length_map]
 obtain⟨M',e,rfl⟩:=Jx (p:=.gen fun M=>(yz M (.ref r)).map (xK 0)) (g:=gT 2 (xN (gN 0) (xN (gN 1) VJ))) (em:=jbv (gN 2) (dIt (dSl (ya 3) (dOS (dOp XM (ya 0) (dC (.int 1)))) dON)) (emE (jfI (jb (ya 1) (jb (ya 2) yb))))) (ρ:=replicate 3 none++L3.rest [0] [some (.ref r)])
  (xs:=xK 0 (R.map yd)) (outs:=(List.range R.length).map fun k=>(R.drop (k+1)).map fun b=>prP (R.getD k (0,0,0),b)) (fun M'=>M'=M) (by rw[ln,length_map,length_range]) (by
   rintro M' rfl k;show((yz M' (.ref r)).map (xK 0)).map (fun xs=>xs[k]?)=_;rw[sq]
   rfl) (by
   rintro k x o hx ho M' rfl;rw[vj,getElem?_map,Option.map_map,map_eq_some_iff]at hx;obtain⟨a,ha,rfl⟩:=hx;have hk:k<R.length:=(List.getElem?_eq_some_iff.mp ha).1;rw[getElem?_map,List.getElem?_range hk]at ho;cases ho;refine⟨[some (.int ((0+k:Nat):Int)),some (yd a),none,some (.ref r)],M',rfl,?_,rfl⟩;unfold jbv
   have e2:dIt (dSl (ya 3) (dOS (dOp XM (ya 0) (dC (.int 1)))) dON) [some (.int ((0+k:Nat):Int)),some (yd a),none,some (.ref r)] M' = .ok (.fix ((R.drop (k+1)).map yd)) M':=by
    refine xV ?_;show ofO (gSl M' (.ref r) (some (((0+k:Nat):Int)+1)) none) M'=_
    have:gSl M' (.ref r) (some (((0+k:Nat):Int)+1)) none=(yz M' (.ref r)).map fun xs=>.lst (Yl xs (some (((0+k:Nat):Int)+1)) none):=rfl
    rw[this,sq];show Res.ok (PV.lst (Yl (R.map yd) (some (((0+k:Nat):Int)+1)) none)) M'=_;rw[cut_hi (by omega) (by rw[length_map];omega),show(((0+k:Nat):Int)+1).toNat=k+1 by omega,map_drop]
   rw[e2];simp only[xu,Res.bind_ok]
   obtain⟨M2,e3,rfl⟩:=Jx (p:=.fix ((R.drop (k+1)).map yd)) (g:=gN 2) (em:=emE (jfI (jb (ya 1) (jb (ya 2) yb)))) (ρ:=[some (.int ((0+k:Nat):Int)),some (yd a),none,some (.ref r)])
    (xs:=(R.drop (k+1)).map yd) (outs:=(R.drop (k+1)).map fun b=>[prP (a,b)]) (fun M2=>M2=M') (by rw[length_map,length_map]) (by
     rintro M2 rfl j
     rfl) (by
     rintro j x o hx ho M2 rfl;rw[getElem?_map,map_eq_some_iff]at hx ho;obtain⟨b,hb,rfl⟩:=hx;obtain⟨b',iz,rfl⟩:=ho;rw[hb]at iz;cases iz
     exact⟨_,M2,rfl,rfl,rfl⟩) (yj (.fix ((R.drop (k+1)).map yd)) M') 0 M' rfl (by show _<_+1+0;omega) (zero_le _)
   rw[e3,drop_zero,uo]
   have:R.getD k (0,0,0)=a:=by rw[getD_eq_getElem?_getD,ha];rfl
   rw[this]) (yj (.gen fun M=>(yz M (.ref r)).map (xK 0)) M) 0 M rfl (by
    show _<(((yz M (.ref r)).map (xK 0)).getD []).length+1+0;rw[sq];show _<(xK 0 (R.map yd)).length+1+0
    omega) (zero_le _)
 rw[e,drop_zero,<- jgU (0,0,0) prP R];simp only[xu,Res.bind_ok];rw[if_pos];rw[length_map]
 have:=jea R
 have:R.length*R.length<=200*200:=Nat.mul_le_mul hl hl
 exact le_of_lt (szB (by omega))
structure Gs (M0 M:Sto)(q:Nat)(G:List (List Int×Nat×List Row)):Prop where
 lo:∀ j,j<q->M.g j=M0.g j
 dt:M.g q=some (.dtv (G.map fun e=>(e.1,.ref e.2.1)))
 ce:∀ e∈G,M.g e.2.1=some (.lst (e.2.2.map yd))∧q<e.2.1∧e.2.1<M.n
 nd:(G.map (·.2.1)).Nodup
 n:q<M.n
def rkL (x:Row):List Int:=[x.1,x.2.1]
theorem getA_no {G:List (List Int×Nat×List Row)}{k:List Int}(h:∀ e∈G,e.1≠k):xb (G.map fun e=>(e.1,PV.ref e.2.1)) k=none:=by
 unfold xb;rw[Option.map_eq_none_iff,List.find?_eq_none];intro x hx e;obtain⟨y,hy,rfl⟩:=List.mem_map.mp hx;exact h y hy (of_decide_eq_true e)
theorem putA_no {G:List (List Int×Nat×List Row)}{k:List Int}{v:PV}(h:∀ e∈G,e.1≠k):xD (G.map fun e=>(e.1,PV.ref e.2.1)) k v=(G.map fun e=>(e.1,PV.ref e.2.1))++[(k,v)]:=by
 unfold xD;rw[if_neg];rw[any_eq_true];rintro⟨x,hx,e⟩;obtain⟨y,hy,rfl⟩:=List.mem_map.mp hx;exact h y hy (of_decide_eq_true e)
theorem jfB {G:List (List Int×Nat×List Row)}{k:List Int}{r:Nat}{b:List Row}(h:∀ e∈G,e.1≠k):xb ((G++[(k,r,b)]).map fun e=>(e.1,PV.ref e.2.1)) k=some (.ref r):=by
 unfold xb;rw[map_append,List.find?_append]
 have:(G.map fun e=>(e.1,PV.ref e.2.1)).find? (fun p=>decide (p.1=k))=none:=by
  rw[List.find?_eq_none];intro x hx e;obtain⟨y,hy,rfl⟩:=List.mem_map.mp hx;exact h y hy (of_decide_eq_true e)
 rw[this];simp
theorem jeZ {do_ dy dz:DE}{ρ:En}{M M3:Sto}{q:Nat}{l:List (List Int×PV)}{y z:PV}{ns:List Int}(h1:do_ ρ M = .ok (.ref q) M)(h2:M.g q=some (.dtv l))(h3:dy ρ M = .ok y M)(h4:jdS y=some ns)(h5:dz ρ M = .ok z M3)(h6:M3.g q=some (.dtv l))(h7:l.length<=1000)(h8:xb l ns=none):vt do_ dy dz ρ M = .ok z (M3.set q (.dtv (xD l ns z))):=by
 unfold vt;rw[h1];simp only[Res.bind_ok,h2];rw[h3];simp only[Res.bind_ok,h4];rw[h5];simp only[Res.bind_ok,h6,h8];rw[if_pos (szB (by omega))]
theorem jci {do_ dy dz:DE}{ρ:En}{M M3:Sto}{q:Nat}{l:List (List Int×PV)}{y z x:PV}{ns:List Int}(h1:do_ ρ M = .ok (.ref q) M)(h2:M.g q=some (.dtv l))(h3:dy ρ M = .ok y M)(h4:jdS y=some ns)(h5:dz ρ M = .ok z M3)(h6:M3.g q=some (.dtv l))(h7:l.length<=1000)(h8:xb l ns=some x):vt do_ dy dz ρ M = .ok x M3:=by
 unfold vt;rw[h1];simp only[Res.bind_ok,h2];rw[h3];simp only[Res.bind_ok,h4];rw[h5];simp only[Res.bind_ok,h6,h8];rw[if_pos (szB (by omega))]
section
variable {M0 M:Sto}{q:Nat}{G:List (List Int×Nat×List Row)}{v0 v1 v3:Option PV}
theorem jgm (S:Gs M0 M q G){a:Row}(h:∀ e∈G,e.1≠rkL a)(hl:G.length<=1000):∃ M' r,yo [v0,v1,some (.ref q),some (yd a)] M = .nx [v0,v1,some (.ref q),some (yd a)] M'∧Gs M0 M' q (G++[(rkL a,r,[a])]):=by
 have hq:=S.n
 obtain⟨M3,h3⟩:∃ M3,M3=M.new (.lst []):=⟨_,rfl⟩
 obtain⟨l,cJ⟩:∃ l,l=G.map fun e=>(e.1,PV.ref e.2.1):=⟨_,rfl⟩
 have e3:M3.g q=some (.dtv l):=by rw[h3,Sto.new_ne (by omega),S.dt,cJ]
 obtain⟨M4,h4⟩:∃ M4,M4=M3.set q (.dtv (l++[(rkL a,.ref M.n)])):=⟨_,rfl⟩
 have g4:M4.g M.n=some (.lst []):=by rw[h4,Sto.set_ne (by omega),h3];exact Sto.new_same
 refine⟨M4.set M.n (.lst [yd a]),M.n,?_,⟨fun j hj=>?_,?_,fun e he=>?_,?_,?_⟩⟩
 ·unfold yo;refine xU (UW (x:=.ref M.n) (M1:=M4) (ys:=[]) (xs:=[yd a]) ?_ (yF g4) rfl (jao (xs:=[]) g4 (szB (show 0<=100000 by decide))));rw[h4,show l++[(rkL a,PV.ref M.n)]=xD l (rkL a) (.ref M.n) by rw[cJ];exact(putA_no h).symm];refine jeZ (y:=.tup [.int a.1,.int a.2.1]) (ns:=rkL a) (l:=l) rfl (by rw[S.dt,cJ]) rfl rfl ?_ e3 (by rw[cJ,length_map];exact hl) (by rw[cJ];exact getA_no h);rw[XS,ju];simp only[Res.bind_ok];rw[h3];exact if_pos (zero_le _)
 ·rw[Sto.set_ne (by omega),h4,Sto.set_ne (by omega),h3,Sto.new_ne (by omega)];exact S.lo j hj
 ·rw[Sto.set_ne (by omega),h4,Sto.set_same,cJ,map_append];rfl
 ·rcases List.mem_append.mp he with he | he
  ·obtain⟨c1,c2,c3⟩:=S.ce e he;refine⟨?_,c2,?_⟩
   ·rw[Sto.set_ne (by omega),h4,Sto.set_ne (by omega),h3,Sto.new_ne (by omega)];exact c1
   ·show _<M4.n;rw[h4,h3];exact lt_succ_of_lt c3
  ·cases List.mem_singleton.mp he;exact⟨Sto.set_same,hq,by show _<M4.n;rw[h4,h3];exact lt_succ_self _⟩
 ·rw[map_append,List.nodup_append];refine⟨S.nd,by simp,fun x hx y hy e=>?_⟩;obtain⟨z,hz,rfl⟩:=List.mem_map.mp hx;have hy:y=M.n:=List.mem_singleton.mp hy
  have:=(S.ce z hz).2.2
  omega
 ·show _<M4.n;rw[h4,h3];exact lt_succ_of_lt hq
theorem jgl {k:List Int}{r:Nat}{b:List Row}(S:Gs M0 M q (G++[(k,r,b)])){a:Row}(h:∀ e∈G,e.1≠k)(ha:rkL a=k)(hl:G.length<=900)(hb:b.length<=900):∃ M',yo [v0,v1,some (.ref q),some (yd a)] M = .nx [v0,v1,some (.ref q),some (yd a)] M'∧Gs M0 M' q (G++[(k,r,b++[a])]):=by
 have hq:=S.n
 obtain⟨M3,h3⟩:∃ M3,M3=M.new (.lst []):=⟨_,rfl⟩
 obtain⟨cr,r1,r2⟩:=S.ce (k,r,b) (List.mem_append.mpr (.inr (List.mem_singleton.mpr rfl)));have cr:M.g r=some (.lst (b.map yd)):=cr;have r1:q<r:=r1;have r2:r<M.n:=r2
 have e3:M3.g q=some (.dtv ((G++[(k,r,b)]).map fun e=>(e.1,PV.ref e.2.1))):=by rw[h3,Sto.new_ne (by omega),S.dt]
 have g3:M3.g r=some (.lst (b.map yd)):=by rw[h3,Sto.new_ne (by omega)];exact cr
 have nr:∀ e∈G,e.2.1≠r:=fun e he z=>by
  have:=S.nd
  rw[map_append,List.nodup_append]at this;exact this.2.2 _ (List.mem_map.mpr ⟨e,he,rfl⟩) _ (List.mem_singleton.mpr rfl) z
 refine⟨M3.set r (.lst (b.map yd++[yd a])),?_,⟨fun j hj=>?_,?_,fun e he=>?_,?_,?_⟩⟩
 ·unfold yo;refine xU (UW (x:=.ref r) (M1:=M3) (ys:=b.map yd) (xs:=[yd a]) ?_ (yF g3) rfl (jao g3 (by rw[length_map];exact szB (by omega))));refine jci (y:=.tup [.int a.1,.int a.2.1]) (ns:=rkL a) (z:=.ref M.n) rfl S.dt rfl rfl ?_ e3 (by rw[length_map,length_append];show _+1<=_;omega) (by rw[ha];exact jfB h);rw[XS,ju];simp only[Res.bind_ok];rw[h3];exact if_pos (zero_le _)
 ·rw[Sto.set_ne (by omega),h3,Sto.new_ne (by omega)];exact S.lo j hj
 ·rw[Sto.set_ne (by omega),e3,map_append,map_append];rfl
 ·rcases List.mem_append.mp he with he | he
  ·obtain⟨c1,c2,c3⟩:=S.ce e (List.mem_append.mpr (.inl he));refine⟨?_,c2,?_⟩
   ·rw[Sto.set_ne (nr e he),h3,Sto.new_ne (by omega)];exact c1
   ·show _<M3.n;rw[h3];exact lt_succ_of_lt c3
  ·cases List.mem_singleton.mp he;refine⟨?_,r1,by show r<M3.n;rw[h3];exact lt_succ_of_lt r2⟩;rw[map_append];exact Sto.set_same
 ·have:=S.nd
  rw[map_append]at this ⊢;exact this
 ·show _<M3.n;rw[h3];exact lt_succ_of_lt hq
theorem jaJ {k:List Int}{r:Nat}(h:∀ e∈G,e.1≠k)(hl:G.length<=900):∀(bs b:List Row) (M:Sto) (v3:Option PV),Gs M0 M q (G++[(k,r,b)])->(∀ x∈bs,rkL x=k)->b.length+bs.length<=900->∀ ys:List PV,
  ∃ M' fc,xc (gN 3) yo (bs.map yd++ys) [v0,v1,some (.ref q),v3] M=xc (gN 3) yo ys [v0,v1,some (.ref q),fc] M'∧Gs M0 M' q (G++[(k,r,b++bs)])
 | [],b,M,v3,S,_,_,ys=>⟨M,v3,rfl,by rw[append_nil];exact S⟩
 | a::bs,b,M,v3,S,hk,hb,ys=>by
  rw[length_cons]at hb;obtain⟨M1,e1,S1⟩:=jgl (v0:=v0) (v1:=v1) S h (hk a mem_cons_self) hl (by omega);obtain⟨M',fc,e2,S2⟩:=jaJ h hl bs (b++[a]) M1 (some (yd a)) S1 (fun x hx=>hk x (mem_cons_of_mem _ hx)) (by rw[length_append];show _+1+_<=_;omega) ys;refine⟨M',fc,?_,by rw[append_assoc]at S2;exact S2⟩;rw[<- e2,map_cons,List.cons_append]
  show(match gN 3 (yd a) [v0,v1,some (.ref q),v3]with
   | none=>RS.bad
   | some ρ1=>match yo ρ1 M with
    | .nx ρ2 M2=>xc (gN 3) yo (bs.map yd++ys) ρ2 M2
    | .ct ρ2 M2=>xc (gN 3) yo (bs.map yd++ys) ρ2 M2
    | .bk ρ2 M2=>.nx ρ2 M2
    | r=>r)=_
  show(match yo [v0,v1,some (.ref q),some (yd a)] M with
    | .nx ρ2 M2=>xc (gN 3) yo (bs.map yd++ys) ρ2 M2
    | .ct ρ2 M2=>xc (gN 3) yo (bs.map yd++ys) ρ2 M2
    | .bk ρ2 M2=>.nx ρ2 M2
    | r=>r)=_
  rw[e1]
theorem jgA {x y:Row}:rkL x=rkL y↔rk x=rk y:=by
 rw[Vt];unfold rkL;simp
theorem Xe:∀(B:List (List Row)) (G:List (List Int×Nat×List Row)) (M:Sto) (v3:Option PV),Bl B->(∀ e∈G,∀ b∈B,∀ x∈b,e.1≠rkL x)->Gs M0 M q G->G.length+B.flatten.length<=800 ->
  ∃ M' fc G',xc (gN 3) yo (B.flatten.map yd) [v0,v1,some (.ref q),v3] M = .nx [v0,v1,some (.ref q),fc] M'∧Gs M0 M' q (G++G')∧G'.map (·.2.2)=B
 | [],G,M,v3,_,_,S,_=>⟨M,v3,[],rfl,by rw[append_nil];exact S,rfl⟩
 | []::B,_,_,_,hB,_,_,_=>absurd rfl (hB.ne [] mem_cons_self)
 | (a::bs)::B,G,M,v3,hB,hG,S,hl=>by
  obtain⟨o1,o2⟩:=List.pairwise_cons.mp hB.off;rw[flatten_cons,length_append,length_cons]at hl;have ha:a∈a::bs:=mem_cons_self;obtain⟨M1,r,e1,S1⟩:=jgm (v0:=v0) (v1:=v1) S (a:=a) (fun e he=>hG e he _ mem_cons_self a ha) (by omega);obtain⟨M2,v2,e2,S2⟩:=jaJ (v0:=v0) (v1:=v1) (fun e he=>hG e he _ mem_cons_self a ha) (by omega) bs [a] M1 (some (yd a)) S1 (fun x hx=>jgA.mpr (hB.same _ mem_cons_self x (mem_cons_of_mem _ hx) a ha)) (by show 1+_<=_;omega) (B.flatten.map yd)
  obtain⟨M',fc,G',e3,S3,e4⟩:=Xe B (G++[(rkL a,r,[a]++bs)]) M2 v2 ⟨fun c hc=>hB.ne c (mem_cons_of_mem _ hc),fun c hc=>hB.same c (mem_cons_of_mem _ hc),o2⟩ (fun e he c hc x hx=>by
   rcases List.mem_append.mp he with he | he
   ·exact hG e he c (mem_cons_of_mem _ hc) x hx
   ·cases List.mem_singleton.mp he;show rkL a≠rkL x;rw[Ne,jgA]
    exact o1 c hc a ha x hx) S2 (by rw[length_append];show _+1+_<=_;omega)
  refine⟨M',fc,(rkL a,r,[a]++bs)::G',?_,by rw[append_assoc]at S3;exact S3,by rw[map_cons,e4];rfl⟩;rw[<- e3,<- e2,flatten_cons,map_append,map_cons,List.cons_append]
  show(match yo [v0,v1,some (.ref q),some (yd a)] M with
    | .nx ρ2 M2=>xc (gN 3) yo (bs.map yd++B.flatten.map yd) ρ2 M2
    | .ct ρ2 M2=>xc (gN 3) yo (bs.map yd++B.flatten.map yd) ρ2 M2
    | .bk ρ2 M2=>.nx ρ2 M2
    | r=>r)=_
  rw[e1]
end
section
variable {M M':Sto}{i n:Nat}{fs:List Int}{sd:List Row}{bd:List (List Int×PV)}{T:Nat->List Row}
theorem clash_b (B:Bk M i n fs sd bd T){h:Int}(h0:0<=h)(h1:h<n)(hl:(T h.toNat).length<64):∃ M',jca [.ref i,.int h] M = .ok (.lst ((cls (vV (T h.toNat))).map prP)) M'∧Ex M M':=by
 obtain⟨R,hR⟩:∃ R,R=vV (T h.toNat):=⟨_,rfl⟩
 have hRl:R.length<64:=by rw[hR,(xf _).length_eq];exact hl
 obtain⟨C,hC,eC⟩:=jiA R (by rw[hR];exact vC _)
 obtain⟨q,hq⟩:∃ q,q=M.n:=⟨_,rfl⟩
 obtain⟨M1,cG⟩:∃ M1,M1=M.new (.dtv []):=⟨_,rfl⟩
 have x1:Ex M M1:=by rw[cG];exact Yd
 have S1:Gs M M1 q []:=⟨fun j hj=>x1.g j (by omega),by rw[cG,hq];exact Sto.new_same,fun e he=>(by cases he),nodup_nil,by rw[cG,hq];exact lt_succ_self _⟩
 obtain⟨M2,v3,G,e2,S2,eG⟩:=Xe (v0:=some (.ref i)) (v1:=some (.int h)) C [] M1 none hC (fun e he=>(by cases he)) S1 (by rw[eC];show 0+_<=_;omega);rw[eC]at e2;have S2:Gs M M2 q G:=S2;have n2:M1.n<=M2.n∨True:=.inr trivial
 obtain⟨M3,iB⟩:∃ M3,M3=M2.drop q:=⟨_,rfl⟩
 have c3:∀ e∈G,M3.g e.2.1=some (.lst (e.2.2.map yd)):=fun e he=>by
  obtain⟨a,b,_⟩:=S2.ce e he;rw[iB];show(if e.2.1=q then none else M2.g e.2.1)=_;rw[if_neg (by omega)];exact a
 have hb:∀ e∈G,e.2.2.length<=200:=fun e he=>by
  have hm:e.2.2∈C:=by rw[<- eG];exact List.mem_map.mpr ⟨e,he,rfl⟩
  have:=(List.sublist_flatten_of_mem hm).length_le
  rw[eC]at this;omega
 refine⟨M3,?_,⟨by rw[iB];show M.n<=M2.n;have:=S2.n;omega,fun j hj=>?_⟩⟩
 ·have main:yu 2 4 jev [.ref i,.int h] M = .ok (.lst ((cls R).map prP)) M3:=by
   refine jV (ρ:=[some (.ref i),some (.int h),none,none]) rfl rfl ?_;unfold jev;refine jR (v:=.ref q) (M1:=M1) (by rw[hq,cG];rfl) ?_;refine jho (F:=200) (M1:=M1) (xs:=R.map yd) (ρ':=[some (.ref i),some (.int h),some (.ref q),v3]) (M2:=M2) (xV ?_) e2 ?_
   ·rw[(B.ex x1).mth (xs:=[.int h]) (zs:=[]) (M1:=M1) (M2:=M1) rfl rfl rfl rfl,hR];exact known_b (B.ex x1) h0 h1 hl
   refine jO ?_;unfold Yk
   have ev:UV (ya 2) [some (.ref i),some (.int h),some (.ref q),v3] M2 = .ok (.fix (G.map fun e=>.ref e.2.1)) M3:=by
    unfold UV;simp only[jF,jz,Res.bind_ok]
    have:jdo M2 (.ref q)=some (G.map fun e=>.ref e.2.1,M3):=by
     unfold jdo;simp only[S2.dt];rw[map_map,iB];rfl
    rw[this]
   rw[ev];simp only[Res.bind_ok]
   obtain⟨M4,e4,rfl⟩:=Jx (p:=.fix (G.map fun e=>.ref e.2.1)) (g:=gN 0) (em:=jbv (gN 1) (dIt (jo XZ 1 0 [.p 0] [] (jb (ya 0) yb) yb)) (emE (ya 1))) (ρ:=replicate 2 none++L3.rest [] [some (.ref i),some (.int h),some (.ref q),v3])
    (xs:=G.map fun e=>.ref e.2.1) (outs:=G.map fun e=>(prs e.2.2).map prP) (fun M4=>M4=M3) (by rw[length_map,length_map]) (by
     rintro M4 rfl j
     rfl) (by
     rintro j x o hx ho M4 rfl;rw[getElem?_map,map_eq_some_iff]at hx ho;obtain⟨e,he,rfl⟩:=hx;obtain⟨e',fP,rfl⟩:=ho;rw[he]at fP;cases fP;have hm:=mem_of_getElem? he;refine⟨[some (.ref e.2.1),none],M4,rfl,?_,rfl⟩;unfold jbv
     have ep:dIt (jo XZ 1 0 [.p 0] [] (jb (ya 0) yb) yb) [some (.ref e.2.1),none] M4 = .ok (.fix ((prs e.2.2).map prP)) M4:=by
      refine xV ?_;rw[jT];simp only[jp,jz,ju,Res.bind_ok];exact jhj (c3 e hm) (hb e hm)
     rw[ep];simp only[xu,Res.bind_ok]
     obtain⟨M5,e5,rfl⟩:=Jx (p:=.fix ((prs e.2.2).map prP)) (g:=gN 1) (em:=emE (ya 1)) (ρ:=[some (.ref e.2.1),none])
      (xs:=(prs e.2.2).map prP) (outs:=((prs e.2.2).map prP).map fun x=>[x]) (fun M5=>M5=M4) (by rw[length_map]) (by
       rintro M5 rfl j
       rfl) (by
       rintro j x o hx ho M5 rfl;rw[getElem?_map,hx]at ho;cases ho
       exact⟨_,M5,rfl,rfl,rfl⟩) (yj (.fix ((prs e.2.2).map prP)) M4) 0 M4 rfl (by show _<_+1+0;omega) (zero_le _)
     rw[e5,drop_zero,uo (fun x=>x),List.map_id']) (yj (.fix (G.map fun e=>.ref e.2.1)) M3) 0 M3 rfl (by show _<_+1+0;omega) (zero_le _)
   rw[e4,drop_zero];simp only[xu,Res.bind_ok]
   have ef:(G.map fun e=>(prs e.2.2).map prP).flatten=(cls R).map prP:=by
    rw[<- eC,XT hC,List.map_flatten,<- eG,map_map,map_map];rfl
   rw[ef,if_pos];rw[length_map]
   have:=jeB R
   have:R.length*R.length<=64*64:=Nat.mul_le_mul (by omega) (by omega)
   exact le_of_lt (szB (by omega))
  show(yu 2 4 jev _ _).noX=_;rw[main,hR];rfl
 ·rw[iB];show(if j=q then none else M2.g j)=_;rw[if_neg (by omega)];exact S2.lo j (by omega)
def conv (R:List Row):List Int:=(cls (vV R)).map fun p=>p.1.1
theorem jbH {R:List Row}(nd:R.Nodup)(h:Int):h∈conv R↔∃ a b,a∈R∧b∈R∧rk a=rk b∧a≠b∧a.1=h:=by
 unfold conv;rw[jfM ((xf R).nodup_iff.mpr nd)];simp only[(xf R).mem_iff]
theorem jaa {R:List Row}{h:Int}(hh:h∈conv R):∃ a∈R,a.1=h:=by
 unfold conv at hh;obtain⟨p,hp,e⟩:=List.mem_map.mp hh;exact⟨p.1,(xf R).mem_iff.mp (jac hp).1,e⟩
theorem YX {ns:List Int}(h:∀ x∈ns,0<=x∧x<16):vW ns=true:=List.all_eq_true.mpr fun x hx=>by
 have:=h x hx
 rw[and_eq_true,decide_eq_true_eq,decide_eq_true_eq];exact this
theorem jiu (B:Bk M i n fs sd bd T){h:Int}(h0:0<=h)(h1:h<n)(hl:(T h.toNat).length<64)(hr:∀ a∈T h.toNat,0<=a.1∧a.1<16):∃ M',JO [.ref i,.int h] M = .ok (.lst ((yr (conv (T h.toNat))).map PV.int)) M'∧Ex M M':=by
 obtain⟨M1,e1,x1⟩:=clash_b B h0 h1 hl
 have sm:∀ x∈conv (T h.toNat),0<=x∧x<16:=fun x hx=>by
  obtain⟨a,ha,e⟩:=jaa hx;rw[<- e];exact hr a ha
 refine⟨M1,?_,x1⟩
 obtain⟨P,hP⟩:∃ P,P=cls (vV (T h.toNat)):=⟨_,rfl⟩
 rw[<- hP]at e1
 have hc:conv (T h.toNat)=P.map fun p=>p.1.1:=by rw[hP];rfl
 rw[hc]at sm ⊢;refine jV (ρ:=[some (.ref i),some (.int h)]) rfl rfl ?_;unfold d_zad;refine jO ?_;unfold Yj
 rw[xV (xs:=P.map prP) (M1:=M1) (by
  rw[B.mth (xs:=[.int h]) (zs:=[]) (M1:=M) (M2:=M) rfl rfl rfl rfl]
  exact e1)]
 simp only[Res.bind_ok]
 obtain⟨M2,e2,rfl⟩:=Jw (p:=.fix (P.map prP)) (g:=gT 2 (xN (gN 0) (xN (gN 1) VJ))) (em:=jcS (dOp gIx (ya 0) (dC (.int 0)))) (ρ:=replicate 2 none++L3.rest [] [some (.ref i),some (.int h)])
  (xs:=P.map prP) (outs:=P.map fun p=>[p.1.1]) (fun M2=>M2=M1) (by rw[length_map,length_map]) (by
   rintro M2 rfl j
   rfl) (by
   rintro j x o hx ho M2 rfl;rw[getElem?_map,map_eq_some_iff]at hx ho;obtain⟨p,hp,rfl⟩:=hx;obtain⟨p',cm,rfl⟩:=ho;rw[hp]at cm;cases cm;refine⟨[some (yd p.1),some (yd p.2)],M2,rfl,?_,rfl⟩
   have:=sm p.1.1 (List.mem_map.mpr ⟨p,mem_of_getElem? hp,rfl⟩)
   show(if 0<=p.1.1∧p.1.1<16 then Res.ok [p.1.1] M2 else .bad)=_
   rw[if_pos this]) (yj (.fix (P.map prP)) M1) 0 M1 rfl (by show _<_+1+0;omega) (zero_le _)
 rw[e2,drop_zero,uo];simp only[xu,Res.bind_ok];rw[if_pos (YX sm)]
theorem jhK (B:Bk M i n fs sd bd T):jbY [.ref i] M = .ok (.lst ((hon n fs).map PV.int)) M:=by
 have hn:=B.n16
 have ln:uq M (.lst ((List.range n).map fun h=>PV.ref (i+3+h)))=some (.int n):=by rw[xT (x:=.lst _) rfl,length_map,length_range]
 refine jV (ρ:=[some (.ref i)]) rfl rfl ?_;unfold d_zal;refine jO ?_;refine jK (xs:=ve 0 n) (M1:=M) ?_ (by rw[xm];exact YD (by omega)) ?_
 ·have hs:small (n:Int)=true:=xH.mpr ⟨by omega,by omega⟩;unfold vR;rw[jp,JV (B.fld (d:=ya 0) (ρ:=[some (.ref i)]) rfl rfl) ln];simp only[ju,Res.bind_ok,hs,if_true,Int.toNat_natCast]
 ·rw[jdT]
  refine vz PV.int (fun x=>!decide (x∈fs)) PV.int _ fun x hx=>⟨[some (.int x),some (.ref i)],rfl,?_,fun _=>rfl⟩
  have gi:gIn true M (.int x) (.lst (fs.map PV.int))=some (.bl (!decide (x∈fs))):=um (neg:=true) (M:=M) (x:=.lst (fs.map PV.int)) (k:=x) (ns:=fs) rfl;simp only[jbD,jY,jz,Res.bind_ok,B.fld (x:="liars") (v:=.lst (fs.map PV.int)) (d:=ya 1) (ρ:=[some (.int x),some (.ref i)]) rfl rfl,gi,jy];rfl
def allc (n:Nat)(fs:List Int)(T:Nat->List Row):List Int:=((hon n fs).map fun h=>yr (conv (T h.toNat))).flatten
theorem jdg (B:Bk M i n fs sd bd T)(hl:∀ h,h<n->(T h).length<64)(hr:∀ h,h<n->∀ a∈T h,0<=a.1∧a.1<16):∃ M',Vc [.ref i] M = .ok (.lst ((yr (allc n fs T)).map PV.int)) M'∧Ex M M':=by
 have sm:∀ h,h<n->∀ x∈yr (conv (T h)),0<=x∧x<16:=fun h hh x hx=>by
  have s1:∀ x∈conv (T h),0<=x∧x<16:=fun x hx=>by
   obtain⟨a,ha,e⟩:=jaa hx;rw[<- e];exact hr h hh a ha
  exact s1 x ((yQ s1 x).mp hx)
 have hb:∀ h∈hon n fs,0<=h∧h<(n:Int):=fun h hh=>(yO.mp hh).1
 obtain⟨M2,e2,x2⟩:=Jw (p:=.fix ((hon n fs).map PV.int)) (g:=gN 0) (em:=jif (gN 1) (dIt (xF 10 "convicted" JO 2 0 [.p 0,.p 1] [] (ya 2) (jb (ya 0) yb) yb)) (jcS (ya 1))) (ρ:=replicate 2 none++L3.rest [0] [some (.ref i)])
  (xs:=(hon n fs).map PV.int) (outs:=(hon n fs).map fun h=>yr (conv (T h.toNat))) (fun M2=>Ex M M2) (by rw[length_map,length_map]) (by
   rintro M2 _ j
   rfl) (by
   rintro j x o hx ho M2 x2;rw[getElem?_map,map_eq_some_iff]at hx ho;obtain⟨h,hp,rfl⟩:=hx;obtain⟨h',cm,rfl⟩:=ho;rw[hp]at cm;cases cm;obtain⟨h0,h1⟩:=hb h (mem_of_getElem? hp);have B2:=B.ex x2;obtain⟨M3,e3,x3⟩:=jiu B2 h0 h1 (hl _ (by omega)) (hr _ (by omega));refine⟨[some (.int h),none,some (.ref i)],M3,rfl,?_,x2.trans x3⟩;unfold jif
   obtain⟨Y,hY⟩:∃ Y,Y=yr (conv (T h.toNat)):=⟨_,rfl⟩
   rw[<- hY]at e3 ⊢
   rw[xV (xs:=Y.map PV.int) (M1:=M3) (by
    rw[B2.mth (xs:=[.int h]) (zs:=[]) (M1:=M2) (M2:=M2) rfl rfl rfl rfl]
    exact e3)]
   simp only[xu,Res.bind_ok]
   obtain⟨M5,e5,rfl⟩:=Jw (p:=.fix (Y.map PV.int)) (g:=gN 1) (em:=jcS (ya 1)) (ρ:=[some (.int h),none,some (.ref i)])
    (xs:=Y.map PV.int) (outs:=Y.map fun x=>[x]) (fun M5=>M5=M3) (by rw[length_map,length_map]) (by
     rintro M5 rfl j
     rfl) (by
     rintro j x o hx ho M5 rfl;rw[getElem?_map,map_eq_some_iff]at hx ho;obtain⟨y,hy,rfl⟩:=hx;obtain⟨y',gF,rfl⟩:=ho;rw[hy]at gF;cases gF;refine⟨[some (.int h),some (.int y),some (.ref i)],M5,rfl,?_,rfl⟩
     have:=sm h.toNat (by omega) y (by rw[<- hY];exact mem_of_getElem? hy)
     show(if 0<=y∧y<16 then Res.ok [y] M5 else .bad)=_
     rw[if_pos this]) (yj (.fix (Y.map PV.int)) M3) 0 M3 rfl (by show _<_+1+0;omega) (zero_le _)
   rw[e5,drop_zero,uo (fun x=>x),List.map_id']) (yj (.fix ((hon n fs).map PV.int)) M) 0 M (Ex.refl M) (by show _<_+1+0;omega) (zero_le _)
 refine⟨M2,?_,x2⟩;refine jV (ρ:=[some (.ref i)]) rfl rfl ?_;unfold d_zaf;refine jeh (M1:=M) ?_ ?_
 ·have:jhW M [.ref i,.top 10]=some (.bl true,M):=by
   unfold jhW;simp only[ui B.bk]
  simp[this]
 refine jO ?_;unfold Yj
 rw[xV (xs:=(hon n fs).map PV.int) (M1:=M) (by
  rw[B.mth (xs:=[]) (zs:=[]) (M1:=M) (M2:=M) rfl rfl rfl rfl]
  exact jhK B)]
 simp only[Res.bind_ok];rw[e2,drop_zero];simp only[xu,Res.bind_ok]
 rw[if_pos (YX fun x hx=>by
  obtain⟨l,hl,hx⟩:=List.mem_flatten.mp hx;obtain⟨h,hh,rfl⟩:=List.mem_map.mp hl
  have:=hb h hh
  exact sm h.toNat (by omega) x hx)]
 rfl
end
section
variable {M:Sto}{i n:Nat}{fs:List Int}
theorem jfR {F:PV}(hi:M.g i=some (.ins 10 []))(hn:M.n=i+1)(n1:1<=n)(n16:n<=16)(cF:∀ M,Vd [F,.int n,.int n] M = .ok .non M)(lF:∀ M,jbs M F=some (.lst (fs.map PV.int))) :
  ∃ M',Uh [.ref i,.int n,F] M = .ok .non M'∧Bk M' i n fs [] [] (fun _=>[])∧M'.n=i+3+n∧∀ j,j<i->M'.g j=M.g j:=by
 obtain⟨L,hL⟩:∃ L,L=PV.lst (fs.map PV.int):=⟨_,rfl⟩
 obtain⟨ρ,hρ⟩:∃ ρ:En,ρ=[some (.ref i),some (.int n),some F]:=⟨_,rfl⟩
 have v0:∀ M,ya 0 ρ M = .ok (.ref i) M:=fun M=>by rw[hρ];rfl
 have v1:∀ M,ya 1 ρ M = .ok (.int n) M:=fun M=>by rw[hρ];rfl
 have v2:∀ M,ya 2 ρ M = .ok F M:=fun M=>by rw[hρ];rfl
 obtain⟨M1,e1⟩:∃ M1,M1=M.set i (.ins 10 [("liars",L)]):=⟨_,rfl⟩
 obtain⟨M2,e2⟩:∃ M2,M2=M1.new (.dtv []):=⟨_,rfl⟩
 obtain⟨M3,e3⟩:∃ M3,M3=M2.set i (.ins 10 [("liars",L),("said",.ref (i+1))]):=⟨_,rfl⟩
 obtain⟨M4,e4⟩:∃ M4,M4=M3.new (.dtv []):=⟨_,rfl⟩
 obtain⟨M5,e5⟩:∃ M5,M5=M4.set i (.ins 10 [("liars",L),("said",.ref (i+1)),("bound",.ref (i+2))]):=⟨_,rfl⟩
 have iQ:M1.n=i+1:=by rw[e1];exact hn
 have n3:M3.n=i+2:=by rw[e3,e2];show M1.n+1=_;rw[iQ]
 have n5:M5.n=i+3:=by rw[e5,e4];show M3.n+1=_;rw[n3]
 have g1:M1.g i=some (.ins 10 [("liars",L)]):=by rw[e1];exact Sto.set_same
 have g2:M2.g i=some (.ins 10 [("liars",L)]):=by rw[e2,Sto.new_ne (by omega)];exact g1
 have g3:M3.g i=some (.ins 10 [("liars",L),("said",.ref (i+1))]):=by rw[e3];exact Sto.set_same
 have g4:M4.g i=some (.ins 10 [("liars",L),("said",.ref (i+1))]):=by rw[e4,Sto.new_ne (by omega)];exact g3
 have g5:M5.g i=some (.ins 10 [("liars",L),("said",.ref (i+1)),("bound",.ref (i+2))]):=by rw[e5];exact Sto.set_same
 have a5:M5.g (i+1)=some (.dtv []):=by rw[e5,Sto.set_ne (by omega),e4,Sto.new_ne (by omega),e3,Sto.set_ne (by omega),e2,<- iQ];exact Sto.new_same
 have b5:M5.g (i+2)=some (.dtv []):=by rw[e5,Sto.set_ne (by omega),e4,<- n3];exact Sto.new_same
 have l5:∀ j,j<i->M5.g j=M.g j:=fun j hj=>by rw[e5,Sto.set_ne (by omega),e4,Sto.new_ne (by omega),e3,Sto.set_ne (by omega),e2,Sto.new_ne (by omega),e1,Sto.set_ne (by omega)]
 obtain⟨ys,M6,e6,q1,q2,q3,q4⟩:=JE (bnd:=vT) (r:=L3.rest [] ρ) (dt:=vQ) (de:=jfJ)
  (fun j acc M'=>acc=((List.range j).map fun h=>PV.ref (i+3+h))∧M'.n=i+3+j∧(∀ h,h<j->M'.g (i+3+h)=some (.dtv []))∧∀ k,k<i+3->M'.g k=M5.g k)
  (ve 0 n) 0 [] M5 ⟨rfl,n5,fun h hh=>absurd hh (not_lt_zero _),fun _ _=>rfl⟩ (by
   rintro j x hx acc M' ⟨r1,r2,r3,r4⟩;rw[zero_add]at r1 r2 r3 ⊢;refine⟨_,true,M',rfl,rfl,fun z=>(by cases z),fun _=>⟨.ref M'.n,M'.new (.dtv []),rfl,?_,?_,fun h hh=>?_,fun k hk=>?_⟩⟩
   ·rw[r1,List.range_succ,map_append,r2];rfl
   ·show M'.n+1=_;omega
   ·by_cases e:h=j
    ·subst e;rw[<- r2];exact Sto.new_same
    ·rw[Sto.new_ne (by omega)];exact r3 h (by omega)
   ·rw[Sto.new_ne (by omega)]
    exact r4 k hk)
 rw[nil_append]at q1;rw[xm,zero_add]at q1 q2 q3
 obtain⟨M7,e7⟩:∃ M7,M7=M6.set i (.ins 10 (bkF i n fs)):=⟨_,rfl⟩
 refine⟨M7,?_,⟨by rw[e7];exact Sto.set_same,by rw[e7,Sto.set_ne (by omega),q4 _ (by omega)];exact a5,by rw[e7,Sto.set_ne (by omega),q4 _ (by omega)];exact b5,fun h hh=>by rw[e7,Sto.set_ne (by omega)];exact q3 h hh,by rw[e7];show _<=M6.n;omega,n16⟩,by rw[e7];exact q2,fun j hj=>by rw[e7,Sto.set_ne (by omega),q4 _ (by omega)];exact l5 j hj⟩;refine UU (ρ:=ρ) (ρ':=ρ) rfl (by rw[hρ];rfl) ?_;unfold d_zae;refine xE (v:=.non) (M1:=M) ?_ ?_
 ·simp only[jT,jp,v1,ju,Res.bind_ok];show fin (jiq [some (.int n)] M)=_;unfold jiq;simp[ym,gen,jA (M:=M) (a:=1) (b:=16) (Kd.int (n:Int)) (by decide) (by decide),XF (h:=(n:Int)) (a:=1) (b:=16) (by omega) (by omega)]
 refine xE (v:=.non) (M1:=M) ?_ ?_
 ·simp only[jT,jp,v1,v2,ju,Res.bind_ok];exact cF M
 refine jcA (v:=L) (Ma:=M) (i:=i) (JV (v2 M) (by rw[hL];exact lF M)) (v0 M) hi (by decide) ?_;rw[show M.set i (.ins 10 (Vf "liars" L []))=M1 from e1.symm];refine jcA (v:=.ref (i+1)) (Ma:=M2) (i:=i) (by show Res.ok (PV.ref M1.n) (M1.new (.dtv []))=_;rw[iQ,e2]) (v0 M2) g2 (show 1<1000 by decide) ?_;rw[show M2.set i (.ins 10 (Vf "said" (.ref (i+1)) [("liars",L)]))=M3 from e3.symm];refine jcA (v:=.ref (i+2)) (Ma:=M4) (i:=i) (by show Res.ok (PV.ref M3.n) (M3.new (.dtv []))=_;rw[n3,e4]) (v0 M4) g4 (show 2<1000 by decide) ?_;rw[show M4.set i (.ins 10 (Vf "bound" (.ref (i+2)) [("liars",L),("said",.ref (i+1))]))=M5 from e5.symm]
 have g6:M6.g i=some (.ins 10 [("liars",L),("said",.ref (i+1)),("bound",.ref (i+2))]):=by rw[q4 _ (by omega)];exact g5
 rw[nx_fldL (v:=.lst ys) (Ma:=M6) (i:=i) (jK (xs:=ve 0 n) (M1:=M5) (by
  have hs:small (n:Int)=true:=xH.mpr ⟨by omega,by omega⟩;unfold vR
  simp only[jp,v1,ju,Res.bind_ok,hs,if_true,Int.toNat_natCast]) (by rw[xm];exact YD (by omega)) e6) (v0 M6) g6 (show 3<1000 by decide)]
 rw[e7,q1,hL];rfl
theorem jiz {F:PV}(n1:1<=n)(n16:n<=16)(cF:∀ M,Vd [F,.int n,.int n] M = .ok .non M)(lF:∀ M,jbs M F=some (.lst (fs.map PV.int))) :
  ∃ M',made 10 Uh (fun x=>[x,.int n,F]) M = .ok (.ref M.n) M'∧Bk M' M.n n fs [] [] (fun _=>[])∧M'.n=M.n+3+n∧∀ j,j<M.n->M'.g j=M.g j:=by
 obtain⟨M',e,B,h1,h2⟩:=jfR (M:=M.new (.ins 10 [])) (i:=M.n) Sto.new_same rfl n1 n16 cF lF;refine⟨M',?_,B,h1,fun j hj=>by rw[h2 j hj,Sto.new_ne (by omega)]⟩;unfold made;simp only[e]
end
theorem jiH:∀(n:Nat) (fs:List Int),(∀ k:Nat,k<n->(k:Int)∈fs)->n<=fs.length
 | 0,_,_=>zero_le _
 | n+1,fs,h=>by
  have h1:=h n (lt_succ_self _);have h2:=jiH n (fs.erase (n:Int)) fun k hk=>(List.mem_erase_of_ne (by omega)).mpr (h k (by omega));rw[List.length_erase_of_mem h1]at h2
  have:fs.length≠0:=fun z=>by rw[eq_nil_of_length_eq_zero z]at h1;cases h1
  omega
theorem jhL {n:Nat}{fs:List Int}(h:fs.length<n):hon n fs≠[]:=fun z=>by
 have:=jiH n fs fun k hk=>Classical.byContradiction fun hf=>by
  have:(k:Int)∈hon n fs:=yO.mpr ⟨⟨by omega,by omega⟩,hf⟩
  rw[z]at this;cases this
 omega
theorem jhM (n:Nat)(fs:List Int):(hon n fs).length<=n:=le_trans (length_filter_le _ _) (by rw[length_map,length_range];exact le_refl _)
theorem UB {M:Sto}(t:Tw M){l:List Int}(aY:l≠[])(hl:l.length<=1000):∃ x M',vA [.ref 1,.lst (l.map PV.int)] M = .ok (.int x) M'∧x∈l∧Tw M'∧Off M M':=by
 obtain⟨x,M1,e,hx,t1,o1⟩:=pick_ok t (xs:=l.map PV.int) (fun z=>aY (List.map_eq_nil_iff.mp z)) (by rw[length_map];omega);obtain⟨y,hy,rfl⟩:=List.mem_map.mp hx;exact⟨y,M1,e,hy,t1,o1⟩
theorem jau {M M':Sto}(t:Tw M)(h0:M'.g 0=M.g 0)(h1:M'.g 1=M.g 1)(hn:M.n<=M'.n):Tw M':=by
 obtain⟨ns,c,t⟩:=t;exact⟨ns,c,by rw[h0];exact t.row,by rw[h1];exact t.tw,t.ne,le_trans t.n hn⟩
def gud (n:Nat)(fs:List Int)(a:Row):Prop:=0<=a.1∧a.1<n∧(a.1∈fs∨a.2.2=10*a.1+a.2.1)
structure J28 (M:Sto)(i n:Nat)(fs:List Int)(t u:Nat)(sd:List Row)(bd:List (List Int×PV))(T:Nat->List Row)(SH:List Row):Prop where
 tw:Tw M
 b:Bk M i n fs sd bd T
 sh:M.g (i+3+n)=some (.lst (SH.map yd))
 ln:i+3+n<M.n
 i2:2<=i
 nd:∀ h,h<n->(T h).Nodup
 sub:∀ h,h<n->∀ a∈T h,a∈SH
 cov:∀ a∈SH,∃ h∈hon n fs,a∈T h.toNat
 gd:∀ a∈SH,gud n fs a
 bg:∀ e∈bd,∃ h p:Int,e=([h,p],.int (10*h+p))
 bl:bd.length<=t
 sl:sd.length<=t
 ul:SH.length<=u
section
variable {M M':Sto}{i n:Nat}{fs:List Int}{t u:Nat}{sd:List Row}{bd:List (List Int×PV)}{T:Nat->List Row}{SH:List Row}
theorem J28.off (J:J28 M i n fs t u sd bd T SH)(o:Off M M')(w:Tw M'):J28 M' i n fs t u sd bd T SH:=by
 have:=J.ln
 have:=J.i2
 exact⟨w,J.b.off o.n fun j h1 h2=>o.g j (by omega) (by omega),by rw[o.g _ (by omega) (by omega)];exact J.sh,lt_of_lt_of_le J.ln o.n,J.i2,J.nd,J.sub,J.cov,J.gd,J.bg,J.bl,J.sl,J.ul⟩
theorem J28.ex (J:J28 M i n fs t u sd bd T SH)(x:Ex M M'):J28 M' i n fs t u sd bd T SH :=
 ⟨x.tw J.tw,J.b.ex x,by rw[x.g _ J.ln];exact J.sh,lt_of_lt_of_le J.ln x.n,J.i2,J.nd,J.sub,J.cov,J.gd,J.bg,J.bl,J.sl,J.ul⟩
theorem J28.le (J:J28 M i n fs t u sd bd T SH){u':Nat}(h:u<=u'):J28 M i n fs t u' sd bd T SH :=
 ⟨J.tw,J.b,J.sh,J.ln,J.i2,J.nd,J.sub,J.cov,J.gd,J.bg,J.bl,J.sl,le_trans J.ul h⟩
theorem J28.tl (J:J28 M i n fs t u sd bd T SH){h:Nat}(hh:h<n):(T h).length<=u:=le_trans (Sml.sublen _ _ (J.nd h hh) (J.sub h hh)) J.ul
theorem jgP {bd:List (List Int×PV)}{k:List Int}{v:PV}{e:List Int×PV}(h:e∈xD bd k v):e∈bd∨e=(k,v):=by
 unfold xD at h;split at h
 ·obtain⟨p,hp,rfl⟩:=List.mem_map.mp h
  by_cases z:p.1=k
  ·rw[if_pos z,z];exact .inr rfl
  ·rw[if_neg z];exact .inl hp
 ·rcases List.mem_append.mp h with h | h
  ·exact .inl h
  ·exact .inr (List.mem_singleton.mp h)
theorem jgQ {bd:List (List Int×PV)}{k:List Int}{v:PV}:(xD bd k v).length<=bd.length+1:=by
 unfold xD;split
 ·rw[length_map];omega
 ·rw[length_append];exact le_refl _
theorem J28.say (J:J28 M i n fs t u sd bd T SH)(ht:t<=100){h p x:Int}(h0:0<=h)(h1:h<n)(p0:0<=p)(p1:p<=2)(x0:-1000000<=x)(x1:x<=1000000)(hx:h∉fs->x=10*h+p) :
  ∃ M' hV,Ue [.ref i,.int h,.int p,.int x] M = .ok (yd (h,p,x)) M'∧J28 M' i n fs (t+1) u (vU sd (h,p,x)) hV T SH:=by
 have fJ:=J.ln;have fM:=J.i2;have hb:=J.bl;have hs:=J.sl
 obtain⟨M',e,B',F⟩:=say_b J.b h0 h1 p0 (by omega) x0 x1 (fun hf=>by
  rw[hx hf]
  cases z:xb bd [h,p]with
  | none=>rfl
  | some v =>
   unfold xb at z;rw[map_eq_some_iff]at z;obtain⟨q,hq,rfl⟩:=z;have m:=List.mem_of_find?_eq_some hq
   have k:q.1=[h,p]:=by simpa using List.find?_some hq
   obtain⟨h',p',rfl⟩:=J.bg q m;have k:[h',p']=[h,p]:=k
   injection k with k1 k2
   injection k2 with k2 _
   rw[k1,k2]
   rfl) (by omega) (by omega)
 refine⟨M',_,e,jau J.tw (F.g 0 (by omega) (.inl (by omega))) (F.g 1 (by omega) (.inl (by omega))) F.n,B',by rw[F.g _ fJ (.inr (le_refl _))];exact J.sh,lt_of_lt_of_le fJ F.n,J.i2,J.nd,J.sub,J.cov,J.gd,fun q hq=>?_,?_,?_,J.ul⟩
 ·unfold bdS at hq;split at hq
  ·exact J.bg q hq
  ·rename_i hf
   rcases jgP hq with hq | rfl
   ·exact J.bg q hq
   ·exact⟨h,p,by rw[hx hf]⟩
 ·unfold bdS;split
  ·omega
  ·have:=jgQ (bd:=bd) (k:=[h,p]) (v:=.int x)
   omega
 ·have:=jiK sd (h,p,x)
  omega
theorem J28.shw (J:J28 M i n fs t u sd bd T SH)(hu:u<=100){g:Int}(hg:g∈hon n fs){k:Row}(hk:k∈sd)(gk:gud n fs k) :
  ∃ M' T',Va [.ref i,.int g,yd k] M = .ok .non M'∧M'.g (i+3+n)=some (.lst (SH.map yd))∧J28 (M'.set (i+3+n) (.lst ((SH++[k]).map yd))) i n fs t (u+1) sd bd T' (SH++[k]):=by
 obtain⟨⟨g0,g1⟩,gf⟩:=yO.mp hg;have fM:=J.i2;have fJ:=J.ln;have hT:=J.tl (h:=g.toNat) (by omega);have B1:=J.b.up (h:=g.toNat) (by omega) (vU (T g.toNat) k);refine⟨_,upT T g.toNat (vU (T g.toNat) k),show_b J.b g0 g1 hk (by omega),by rw[Sto.set_ne (by omega)];exact J.sh,?_⟩;refine⟨jau J.tw (by rw[Sto.set_ne (by omega),Sto.set_ne (by omega)]) (by rw[Sto.set_ne (by omega),Sto.set_ne (by omega)]) (le_refl _),B1.off (le_refl _) fun j _ hj=>Sto.set_ne (by omega),Sto.set_same,fJ,fM,fun h hh=>?_,fun h hh a ha=>?_,fun a ha=>?_,fun a ha=>?_,J.bg,J.bl,J.sl,?_⟩
 ·by_cases e:h=g.toNat
  ·subst e;rw[yU];exact addR_nd (J.nd _ hh)
  ·rw[uP e];exact J.nd h hh
 ·rw[mem_append,mem_singleton]
  by_cases e:h=g.toNat
  ·subst e;rw[yU]at ha;exact(Js.mp ha).imp (J.sub _ hh a) id
  ·rw[uP e]at ha;exact .inl (J.sub h hh a ha)
 ·rcases List.mem_append.mp ha with ha | ha
  ·obtain⟨h,hh,hm⟩:=J.cov a ha;refine⟨h,hh,?_⟩
   by_cases e:h.toNat=g.toNat
   ·rw[e,yU];rw[e]at hm;exact Js.mpr (.inl hm)
   ·rw[uP e];exact hm
  ·refine⟨g,hg,?_⟩;rw[yU];exact Js.mpr (.inr (List.mem_singleton.mp ha))
 ·rcases List.mem_append.mp ha with ha | ha
  ·exact J.gd a ha
  ·rw[List.mem_singleton.mp ha];exact gk
 ·rw[length_append]
  have:=J.ul
  show _+1<=_;omega
theorem Xv {A C:List Row}{a:Row}:a∈UF A C↔a∈A∧a∉C:=by
 unfold UF;rw[mem_filter,decide_eq_true_eq]
theorem J28.pass (J:J28 M i n fs t u sd bd T SH)(hu:u<=100){h o:Int}(h0:0<=h)(h1:h<n)(o0:0<=o)(o1:o<n) :
  ∃ v M' T',YC [.ref i,.int h,.int o] M = .ok v M'∧J28 M' i n fs t u sd bd T' SH∧(∀ j a,a∈T j->a∈T' j)∧∀ a∈T h.toNat,a∈T' o.toNat:=by
 have fM:=J.i2;have fJ:=J.ln;have hT:=J.tl (h:=h.toNat) (by omega);have hT2:=J.tl (h:=o.toNat) (by omega);have B1:=J.b.up (h:=o.toNat) (by omega) (T o.toNat++UF (T h.toNat) (T o.toNat))
 have mono:∀ j a,a∈T j->a∈upT T o.toNat (T o.toNat++UF (T h.toNat) (T o.toNat)) j:=fun j a ha=>by
  by_cases e:j=o.toNat
  ·subst e;rw[yU];exact List.mem_append.mpr (.inl ha)
  ·rw[uP e];exact ha
 refine⟨_,_,_,pass_b J.b h0 h1 o0 o1 (J.nd _ (by omega)) (by omega) (by omega),⟨jau J.tw (Sto.set_ne (by omega)) (Sto.set_ne (by omega)) (le_refl _),B1,by rw[Sto.set_ne (by omega)];exact J.sh,fJ,fM,fun j hj=>?_,fun j hj a ha=>?_,fun a ha=>?_,J.gd,J.bg,J.bl,J.sl,J.ul⟩,mono,fun a ha=>?_⟩
 ·by_cases e:j=o.toNat
  ·subst e;rw[yU];exact List.nodup_append.mpr ⟨J.nd _ hj,(J.nd _ (by omega)).filter _,fun a ha b hb e=>(Xv.mp hb).2 (e ▸ ha)⟩
  ·rw[uP e];exact J.nd j hj
 ·by_cases e:j=o.toNat
  ·subst e;rw[yU]at ha
   rcases List.mem_append.mp ha with ha | ha
   ·exact J.sub _ hj a ha
   ·exact J.sub _ (by omega) a (Xv.mp ha).1
  ·rw[uP e]at ha;exact J.sub j hj a ha
 ·obtain⟨j,hj,hm⟩:=J.cov a ha;exact⟨j,hj,mono _ _ hm⟩
 ·rw[yU,mem_append]
  by_cases z:a∈T o.toNat
  ·exact .inl z
  ·exact .inr (Xv.mpr ⟨ha,z⟩)
theorem J28.small (J:J28 M i n fs t u sd bd T SH):∀ h,h<n->∀ a∈T h,0<=a.1∧a.1<16:=fun h hh a ha=>by
 obtain⟨a0,a1,_⟩:=J.gd a (J.sub h hh a ha)
 have:=J.b.n16
 omega
theorem J28.conv (J:J28 M i n fs t u sd bd T SH){h:Nat}(hh:h<n){x:Int}(hx:x∈conv (T h)):x∈fs:=by
 obtain⟨a,b,ha,hb,hk,hn,e⟩:=(jbH (J.nd h hh) x).mp hx;obtain⟨_,_,qa⟩:=J.gd a (J.sub h hh a ha);obtain⟨_,_,qb⟩:=J.gd b (J.sub h hh b hb);rw[Vt]at hk;rw[e]at qa
 rcases qa with qa | qa
 ·exact qa
 rw[<- hk.1,e]at qb
 rcases qb with qb | qb
 ·exact qb
 exact absurd (Prod.ext hk.1 (Prod.ext hk.2 (by rw[qa,qb,hk.2]))) hn
theorem J28.csm (J:J28 M i n fs t u sd bd T SH){h:Nat}(hh:h<n):∀ x∈My.conv (T h),0<=x∧x<16:=fun x hx=>by
 obtain⟨a,ha,e⟩:=jaa hx;rw[<- e];exact J.small h hh a ha
theorem J28.asm (J:J28 M i n fs t u sd bd T SH):∀ x∈allc n fs T,0<=x∧x<16:=fun x hx=>by
 obtain⟨l,hl,hx⟩:=List.mem_flatten.mp hx;obtain⟨h,hh,rfl⟩:=List.mem_map.mp hl;obtain⟨⟨h0,h1⟩,_⟩:=yO.mp hh;exact J.csm (h:=h.toNat) (by omega) x ((yQ (J.csm (by omega)) x).mp hx)
theorem J28.allc (J:J28 M i n fs t u sd bd T SH):∀ x∈yr (allc n fs T),x∈fs:=fun x hx=>by
 obtain⟨l,hl,hx⟩:=List.mem_flatten.mp ((yQ J.asm x).mp hx);obtain⟨h,hh,rfl⟩:=List.mem_map.mp hl;obtain⟨⟨h0,h1⟩,_⟩:=yO.mp hh;exact J.conv (h:=h.toNat) (by omega) ((yQ (J.csm (by omega)) x).mp hx)
end
theorem uy {D:List PV->Sto->Res PV}{da:DA}{ρ:En}{M M1:Sto}{a b:PV}(h:da ρ M = .ok [a,b] M1):jo D 2 0 [.p 0,.p 1] [] da yb ρ M=D [a,b] M1:=by
 rw[jT,h];rfl
theorem jaf {D:List PV->Sto->Res PV}{da:DA}{ρ:En}{M M1:Sto}{a:PV}(h:da ρ M = .ok [a] M1):jo D 1 0 [.p 0] [] da yb ρ M=D [a] M1:=by
 rw[jT,h];rfl
theorem yL {d1 d2:DE}{ρ:En}{M M1 M2:Sto}{x y:PV}(h1:d1 ρ M = .ok x M1)(h2:d2 ρ M1 = .ok y M2):jb d1 (jb d2 yb) ρ M = .ok [x,y] M2:=by
 rw[jp,h1];simp only[Res.bind_ok];rw[jp,h2];rfl
theorem newl {M:Sto}{ρ:En}:xP yb ρ M = .ok (.ref M.n) (M.new (.lst [])):=by
 rw[XS,ju];simp only[Res.bind_ok];exact if_pos (zero_le _)
theorem jib {neg:Bool}{d:DE}{ρ:En}{M M1:Sto}(h:d ρ M = .ok (.lst []) M1):dOp (eqG neg) d (xP yb) ρ M = .ok (.bl (!neg)) (M1.new (.lst [])) :=
 yH h newl (XO (z:=.lst []) rfl (Xx Sto.new_same) rfl (show 1<=60 by decide))
theorem Vs (a:List Int):(yr a).length<=16:=by
 unfold yr;refine le_trans (length_filter_le _ _) ?_;rw[length_map,length_range];exact le_refl _
theorem jaY {d:DE}{ρ:En}{M M1:Sto}{C fs:List Int}(hd:d ρ M = .ok (.lst (C.map PV.int)) M1)(hC:∀ x∈C,x∈fs)(hl:C.length<=100)(hr:L3.rest [3] ρ=[some (.lst (fs.map PV.int))]):yI (dIt d) vT [3] (yq (dOp (gIn true) (ya 0) (ya 1))) (ya 0) ρ M = .ok (.lst []) M1:=by
 refine jK (xs:=C.map PV.int) (M1:=M1) (xV hd) (by rw[length_map];exact YD (by omega)) ?_;rw[hr]
 have:=vz (bnd:=vT) (r:=[some (.lst (fs.map PV.int))]) (dt:=yq (dOp (gIn true) (ya 0) (ya 1))) (de:=ya 0) (M:=M1) PV.int (fun _=>false) PV.int C fun x hx=>⟨[some (.int x),some (.lst (fs.map PV.int))],rfl,by
  refine yE (yH (x:=.int x) (y:=.lst (fs.map PV.int)) (M1:=M1) rfl rfl ?_);rw[um (neg:=true) (M:=M1) (x:=.lst (fs.map PV.int)) (k:=x) (ns:=fs) rfl,decide_eq_true (hC x hx)]
  rfl,fun z=>by cases z⟩
 rw[this,List.filter_eq_nil_iff.mpr fun x _=>by simp];rfl
section
variable {M:Sto}{i n:Nat}{fs:List Int}{t u:Nat}{sd:List Row}{bd:List (List Int×PV)}{T:Nat->List Row}{SH:List Row}
def r28 (i n:Nat)(fs:List Int)(x0 x7 x8 x9 bI bH bG bF bE bD:Option PV):En:=[x0,some (.ref 1),some (.int n),some (.lst (fs.map PV.int)),some (.lst ((hon n fs).map PV.int)),some (.ref i),some (.ref (i+3+n)),x7,x8,x9,bI,bH,bG,bF,bE,bD]
theorem turn28 (J:J28 M i n fs t u sd bd T SH)(ht:t<=60)(hu:u<=60)(n1:1<=n)(n16:n<=16)(aY:hon n fs≠[])(x0 x7 x8 x9 bI bH bG bF bE bD:Option PV) :
  ∃ y8 y9 cB cA cz M' iJ hV T' ke,Jz (r28 i n fs x0 x7 x8 x9 bI bH bG bF bE bD) M = .nx (r28 i n fs x0 x7 y8 y9 cB cA cz bF bE bD) M'∧J28 M' i n fs (t+1) (u+1) iJ hV T' ke:=by
 have hlh:=jhM n fs;obtain⟨h,M1,e1,h0,h1,T1,o1⟩:=vK J.tw (k:=(n:Int)) (by omega) (by omega);have J1:=J.off o1 T1;obtain⟨p,M2,e2,p0,p1,T2,o2⟩:=vK J1.tw (k:=3) (by decide) (by decide);have J2:=J1.off o2 T2
 obtain⟨x,M3,e3,J3,x0',x1',hx⟩:∃ x M3,dIf (yq (dOp (gIn false) (ya 8) (ya 3))) (jo vA 2 0 [.p 0,.p 1] [] (jb (ya 1) (jb (jcU (jb (dC (.int 1)) (jb (dC (.int 2)) (jb (dC (.int 3)) yb)))) yb)) yb) (dOp XM (dOp jbo (dC (.int 10)) (ya 8)) (ya 9)) (r28 i n fs x0 x7 (some (.int h)) (some (.int p)) bI bH bG bF bE bD) M2 = .ok (.int x) M3∧J28 M3 i n fs t u sd bd T SH∧-1000000<=x∧x<=1000000∧(h∉fs->x=10*h+p):=by
  rw[dIf_eq,yE (b:=decide (h∈fs)) (yH (x:=.int h) (y:=.lst (fs.map PV.int)) (M1:=M2) rfl rfl (um (neg:=false) (M:=M2) (x:=.lst (fs.map PV.int)) (k:=h) (ns:=fs) rfl))];simp only[Res.bind_ok]
  by_cases hf:h∈fs
  ·obtain⟨x,M3,e3,hx,T3,o3⟩:=UB J2.tw (l:=[1,2,3]) (by simp) (by decide);refine⟨x,M3,?_,J2.off o3 T3,?_,?_,fun z=>absurd hf z⟩
   ·rw[decide_eq_true hf,if_pos rfl,uy (a:=.ref 1) (b:=.lst [.int 1,.int 2,.int 3]) (M1:=M2) (yL (M1:=M2) rfl (by
     rw[jex];simp only[jp,jez,ju,Res.bind_ok]
     exact if_pos (show 3<=sizeLine by decide)))]
    exact e3
   ·simp only[mem_cons,mem_nil_iff,or_false]at hx;omega
   ·simp only[mem_cons,mem_nil_iff,or_false]at hx;omega
  ·refine⟨10*h+p,M2,?_,J2,by omega,by omega,fun _=>rfl⟩;rw[decide_eq_false hf,if_neg (by simp)];exact yH (yH (x:=.int 10) (y:=.int h) (M1:=M2) rfl rfl (XI (.inl (by decide)))) (y:=.int p) rfl rfl
 obtain⟨M4,bd4,e4,J4⟩:=J3.say (by omega) h0 h1 p0 (by omega) x0' x1' hx;obtain⟨g,M5,e5,hg,T5,o5⟩:=UB J4.tw (l:=hon n fs) aY (by omega);have J5:=J4.off o5 T5;obtain⟨d6,M6,e6,d60,d61,T6,o6⟩:=vK J5.tw (k:=3) (by decide) (by decide);have J6:=J5.off o6 T6
 obtain⟨ρ,hρ⟩:∃ ρ:En,ρ=r28 i n fs x0 x7 (some (.int h)) (some (.int p)) (some (.int x)) (some (yd (h,p,x))) (some (.int g)) bF bE bD:=⟨_,rfl⟩
 have v1:∀ M,ya 1 ρ M = .ok (.ref 1) M:=fun M=>by rw[hρ];rfl
 have v4:∀ M,ya 4 ρ M = .ok (.lst ((hon n fs).map PV.int)) M:=fun M=>by rw[hρ];rfl
 have v5:∀ M,ya 5 ρ M = .ok (.ref i) M:=fun M=>by rw[hρ];rfl
 have v6:∀ M,ya 6 ρ M = .ok (.ref (i+3+n)) M:=fun M=>by rw[hρ];rfl
 have v11:∀ M,ya 11 ρ M = .ok (yd (h,p,x)) M:=fun M=>by rw[hρ];rfl
 have v12:∀ M,ya 12 ρ M = .ok (.int g) M:=fun M=>by rw[hρ];rfl
 obtain⟨M7,T7,kd,e7,J7⟩:∃ M7 T7 kd,(if decide (0<d6)=true then(yh (yA (xF 10 "show" Va 3 0 [.p 0,.p 1,.p 2] [] (ya 5) (jb (ya 12) (jb (ya 11) yb)) yb)) (yA (dMt yZ (ya 6) (jb (ya 11) yb))))else yG) ρ M6 = .nx ρ M7∧J28 M7 i n fs (t+1) (u+1) (vU sd (h,p,x)) bd4 T7 kd:=by
  by_cases hd:0<d6
  ·rw[decide_eq_true hd,if_pos rfl]
   obtain⟨M7,T7,e7,s7,J7⟩:=J6.shw (by omega) hg (k:=(h,p,x)) (Js.mpr (.inr rfl)) ⟨h0,h1,by
    by_cases hf:h∈fs
    ·exact .inl hf
    ·exact .inr (hx hf)⟩
   refine⟨_,T7,_,?_,J7⟩;refine xE (v:=.non) (M1:=M7) ?_ ?_
   ·rw[J6.b.mth (xs:=[.int g,yd (h,p,x)]) (zs:=[]) (M1:=M6) (M2:=M6) (v5 M6) rfl (yL (v12 M6) (v11 M6)) rfl];exact e7
   ·refine xU (v:=.non) (UW (v6 M7) (yF s7) (vy (v11 M7)) ?_);rw[jao s7 (by rw[length_map];have:=J6.ul;exact YD (by omega)),map_append];rfl
  ·rw[decide_eq_false hd,if_neg (by simp)];exact⟨M6,T,SH,rfl,J6.le (by omega)⟩
 obtain⟨d8,M8,e8,d80,d81,T8,o8⟩:=vK J7.tw (k:=3) (by decide) (by decide);have J8:=J7.off o8 T8
 obtain⟨M9,T9,e9,J9⟩:∃ M9 T9,(if(d8==0)=true then(yA (xF 10 "pass_on" YC 3 0 [.p 0,.p 1,.p 2] [] (ya 5) (jb (jo vA 2 0 [.p 0,.p 1] [] (jb (ya 1) (jb (ya 4) yb)) yb) (jb (jo vA 2 0 [.p 0,.p 1] [] (jb (ya 1) (jb (ya 4) yb)) yb) yb)) yb))else yG) ρ M8 = .nx ρ M9∧J28 M9 i n fs (t+1) (u+1) (vU sd (h,p,x)) bd4 T9 kd:=by
  by_cases hd:d8=0
  ·rw[hd,if_pos (by decide)];obtain⟨a,Ma,ea,ha,Ta,oa⟩:=UB J8.tw (l:=hon n fs) aY (by omega);have Ja:=J8.off oa Ta;obtain⟨b,Mb,eb,hb,Tb,ob⟩:=UB Ja.tw (l:=hon n fs) aY (by omega);have Jb:=Ja.off ob Tb;obtain⟨⟨a0,a1⟩,_⟩:=yO.mp ha;obtain⟨⟨b0,b1⟩,_⟩:=yO.mp hb;obtain⟨v,M9,T9,e9,J9,_,_⟩:=Jb.pass (by omega) a0 a1 b0 b1;refine⟨M9,T9,xU (v:=v) ?_,J9⟩;rw[J8.b.mth (xs:=[.int a,.int b]) (zs:=[]) (M1:=Mb) (M2:=Mb) (v5 M8) rfl (yL (M1:=Ma) (by rw[uy (yL (v1 M8) (v4 M8))];exact ea) (by rw[uy (yL (v1 Ma) (v4 Ma))];exact eb)) rfl];exact e9
  ·rw[if_neg (by simpa using hd)];exact⟨M8,T7,rfl,J8⟩
 obtain⟨M10,e10,x10'⟩:=jdg J9.b (fun h hh=>by have:=J9.tl hh;omega) J9.small;have J10:=J9.ex x10';have J11:=J10.ex (Yd (c:=.lst []));refine⟨some (.int h),some (.int p),some (.int x),some (yd (h,p,x)),some (.int g),_,_,_,_,_,?_,J11⟩;unfold Jz;refine jR (v:=.int h) (M1:=M1) (by rw[uy (yL (M1:=M) (x:=.ref 1) (y:=.int n) rfl rfl)];exact e1) ?_;refine jR (v:=.int p) (M1:=M2) (by rw[uy (yL (M1:=M1) (x:=.ref 1) (y:=.int 3) rfl rfl)];exact e2) ?_;refine jR (v:=.int x) (M1:=M3) e3 ?_;refine jR (v:=yd (h,p,x)) (M1:=M4) ?_ ?_
 ·rw[J3.b.mth (xs:=[.int h,.int p,.int x]) (zs:=[]) (M1:=M3) (M2:=M3) rfl rfl rfl rfl];exact e4
 refine jR (v:=.int g) (M1:=M5) (by rw[uy (yL (M1:=M4) (x:=.ref 1) (y:=.lst ((hon n fs).map PV.int)) rfl rfl)];exact e5) ?_;show yh _ _ (r28 i n fs x0 x7 (some (.int h)) (some (.int p)) (some (.int x)) (some (yd (h,p,x))) (some (.int g)) bF bE bD) M5 = .nx (r28 i n fs x0 x7 (some (.int h)) (some (.int p)) (some (.int x)) (some (yd (h,p,x))) (some (.int g)) bF bE bD) _;rw[<- hρ];refine jhp (bb:=decide (0<d6)) (M1:=M6) (yE (yH (x:=.int d6) (y:=.int 0) (M1:=M6) (by rw[uy (yL (v1 M5) (y:=.int 3) rfl)];exact e6) rfl rfl)) e7 ?_;refine jhp (bb:=d8==0) (M1:=M8) (yE (yH (x:=.int d8) (y:=.int 0) (M1:=M8) (by rw[uy (yL (v1 M7) (y:=.int 3) rfl)];exact e8) rfl rfl)) e9 ?_;refine nx_last (yE (jib (neg:=true) (jaY (fs:=fs) (C:=yr (allc n fs T9)) ?_ J9.allc (le_trans (Vs _) (by decide)) (by rw[hρ];rfl))))
 rw[jaf (vy (v5 M9))];exact e10
theorem inner28 (J:J28 M i n fs t u sd bd T SH)(hu:u<=60){h:Int}(hh:h∈hon n fs)(x0 x7 x9 bI bH bG bF bE bD:Option PV) :
  ∃ cK M' T',JB (r28 i n fs x0 x7 (some (.int h)) x9 bI bH bG bF bE bD) M = .nx (r28 i n fs x0 x7 (some (.int h)) x9 bI bH bG cK bE bD) M'∧J28 M' i n fs t u sd bd T' SH∧(∀ j a,a∈T j->a∈T' j)∧∀ o∈hon n fs,∀ a∈T h.toNat,a∈T' o.toNat:=by
 obtain⟨⟨h0,h1⟩,_⟩:=yO.mp hh
 obtain⟨ρ',M',e,cK,T',hρ,J',m1,m2⟩:=xL (g:=gN 13) (db:=jbB)
  (fun j ρ M'=>∃ cK T',ρ=r28 i n fs x0 x7 (some (.int h)) x9 bI bH bG cK bE bD∧J28 M' i n fs t u sd bd T' SH∧(∀ j a,a∈T j->a∈T' j)∧∀ o∈(hon n fs).take j,∀ a∈T h.toNat,a∈T' o.toNat)
  ((hon n fs).map PV.int) 0 (r28 i n fs x0 x7 (some (.int h)) x9 bI bH bG bF bE bD) M ⟨bF,T,rfl,J,fun _ _ z=>z,fun o ho=>by rw[take_zero]at ho;cases ho⟩ (by
   rintro j x hx ρ M' ⟨cK,T',rfl,J',m1,m2⟩;rw[zero_add]at m2 ⊢;rw[getElem?_map,map_eq_some_iff]at hx;obtain⟨o,ho,rfl⟩:=hx;obtain⟨⟨o0,o1⟩,_⟩:=yO.mp (mem_of_getElem? ho);obtain⟨v,M2,T2,e2,J2,k1,k2⟩:=J'.pass (by omega) h0 h1 o0 o1;refine⟨_,r28 i n fs x0 x7 (some (.int h)) x9 bI bH bG (some (.int o)) bE bD,M2,rfl,xU (v:=v) ?_,some (.int o),T2,rfl,J2,fun j a ha=>k1 j a (m1 j a ha),fun o' a9 a ha=>?_⟩
   ·rw[J'.b.mth (xs:=[.int h,.int o]) (zs:=[]) (M1:=M') (M2:=M') rfl rfl rfl rfl];exact e2
   ·rw[take_succ,ho]at a9
    rcases List.mem_append.mp a9 with z | z
    ·exact k1 _ a (m2 o' z a ha)
    ·have z:o'=o:=List.mem_singleton.mp z;rw[z]
     exact k2 a (m1 _ a ha))
 refine⟨cK,M',T',?_,J',m1,fun o ho=>m2 o ?_⟩
 ·unfold JB;rw[vX (xs:=(hon n fs).map PV.int) (M1:=M) rfl,e,hρ]
 ·rw[zero_add,length_map,take_length];exact ho
theorem outer28 (J:J28 M i n fs t u sd bd T SH)(hu:u<=60)(x0 x7 x8 x9 bI bH bG bF bE bD:Option PV) :
  ∃ y8 cK M' T',JC (r28 i n fs x0 x7 x8 x9 bI bH bG bF bE bD) M = .nx (r28 i n fs x0 x7 y8 x9 bI bH bG cK bE bD) M'∧J28 M' i n fs t u sd bd T' SH∧∀ o∈hon n fs,∀ a∈SH,a∈T' o.toNat:=by
 obtain⟨ρ',M',e,y8,cK,T',hρ,J',m1,m2⟩:=xL (g:=gN 8) (db:=JB)
  (fun j ρ M'=>∃ y8 cK T',ρ=r28 i n fs x0 x7 y8 x9 bI bH bG cK bE bD∧J28 M' i n fs t u sd bd T' SH∧(∀ j a,a∈T j->a∈T' j)∧∀ h∈(hon n fs).take j,∀ o∈hon n fs,∀ a∈T h.toNat,a∈T' o.toNat)
  ((hon n fs).map PV.int) 0 (r28 i n fs x0 x7 x8 x9 bI bH bG bF bE bD) M ⟨x8,bF,T,rfl,J,fun _ _ z=>z,fun o ho=>by rw[take_zero]at ho;cases ho⟩ (by
   rintro j x hx ρ M' ⟨y8,cK,T',rfl,J',m1,m2⟩;rw[zero_add]at m2 ⊢;rw[getElem?_map,map_eq_some_iff]at hx;obtain⟨h,ho,rfl⟩:=hx;obtain⟨iG,M2,T2,e2,J2,k1,k2⟩:=inner28 J' hu (mem_of_getElem? ho) x0 x7 x9 bI bH bG cK bE bD;refine⟨_,_,M2,rfl,e2,some (.int h),iG,T2,rfl,J2,fun j a ha=>k1 j a (m1 j a ha),fun h' aO o a9 a ha=>?_⟩;rw[take_succ,ho]at aO
   rcases List.mem_append.mp aO with z | z
   ·exact k1 _ a (m2 h' z o a9 a ha)
   ·have z:h'=h:=List.mem_singleton.mp z;rw[z]at ha
    exact k2 o a9 a (m1 _ a ha))
 refine⟨y8,cK,M',T',?_,J',fun o ho a ha=>?_⟩
 ·unfold JC;rw[vX (xs:=(hon n fs).map PV.int) (M1:=M) rfl,e,hρ]
 ·obtain⟨h,hh,hm⟩:=J.cov a ha;exact m2 h (by rw[zero_add,length_map,take_length];exact hh) o ho a hm
end
theorem jfp {j:Nat}{xs:List PV}{g:DG}{db:DS}(I:Nat->En->Sto->Prop)(hI:∀ k ρ M,I k ρ M->M.g j=some (.lst xs))(hs:∀ i x,xs[i]? = some x->∀ ρ M,I i ρ M->∃ ρ1 ρ' M',g x ρ=some ρ1∧db ρ1 M = .nx ρ' M'∧I (i+1) ρ' M'):∀(n k:Nat) (ρ:En) (M:Sto),k<=xs.length->xs.length-k<n->I k ρ M->∃ ρ' M',xo (.live j) g db n k ρ M = .nx ρ' M'∧I xs.length ρ' M':=by
 intro n
 induction n with
 | zero=>intro k ρ M _ h;exact absurd h (not_lt_zero _)
 | succ n ih =>
  intro k ρ M hk hn h;have en:nxt (.live j) M k=some (xs[k]?):=vi (yF (hI k ρ M h))
  by_cases aU:k<xs.length
  ·have ex:xs[k]? = some xs[k]:=getElem?_eq_getElem aU;obtain⟨ρ1,ρ2,M2,e1,e2,h2⟩:=hs k _ ex ρ M h;obtain⟨ρ3,M3,e3,h3⟩:=ih (k+1) ρ2 M2 aU (by omega) h2;refine⟨ρ3,M3,?_,h3⟩;unfold xo;rw[en,ex];simp only[e1,e2];exact e3
  ·have ek:k=xs.length:=by omega
   subst ek;refine⟨ρ,M,?_,h⟩;unfold xo;rw[en,getElem?_eq_none (le_refl _)]
theorem nx_loop {F:Nat}{b7:En->Sto->Res ItP}{g:DG}{d1 c:DS}{ρ ρ':En}{M M1 M2:Sto}{j:Nat}{r:RS}(h:b7 ρ M = .ok (.live j) M1)(hl:xo (.live j) g d1 F 0 ρ M1 = .nx ρ' M2)(k:c ρ' M2=r):yh (uJ F b7 g d1) c ρ M=r:=by
 unfold yh uJ;rw[h]
 show(match xo (.live j) g d1 F 0 ρ M1 with
  | .nx ρ1 M1=>c ρ1 M1
  | r=>r)=r
 rw[hl];exact k
theorem Yy {α:Type}(f0:α->PV)(p:α->Bool)(f:α->PV){c:Nat}{bnd:PV->En->Option En}{r:En}{dt:DT}{de:DE}{M:Sto}{all:List α}(hc:M.g c=some (.lst (all.map f0)))(h:∀ a∈all,∃ ρ,bnd (f0 a) r=some ρ∧dt ρ M = .ok (p a) M∧(p a=true->de ρ M = .ok (f a) M)):∀(n i:Nat) (as:List α),all.drop i=as->as.length<n->yD (.live c) bnd r dt de n i M = .ok ((as.filter p).map f) M
 | 0,_,_,_,hl=>absurd hl (not_lt_zero _)
 | n+1,i,as,e,hl=>by
  have hn:nxt (.live c) M i=some ((all.map f0)[i]?):=vi (yF hc)
  have hd:(all.drop i)[0]? = all[i]?:=by rw[getElem?_drop,add_zero]
  cases as with
  | nil =>
   have:all[i]? = none:=by rw[<- hd,e];rfl
   unfold yD;rw[hn,getElem?_map,this];rfl
  | cons a as =>
   have ha:all[i]? = some a:=by rw[<- hd,e];rfl
   have e':all.drop (i+1)=as:=by
    rw[<- drop_drop,e];rfl
   have ih:=Yy f0 p f hc h n (i+1) as e' (by simpa using hl);obtain⟨ρ,e1,e2,e3⟩:=h a (mem_of_getElem? ha);unfold yD;rw[hn,getElem?_map,ha];simp only[map_some,e1,e2,xu,Res.bind_ok]
   cases hp:p a with
   | false=>simp[hp,ih]
   | true=>simp[hp,ih,e3 hp]
theorem jbF {α:Type}(f0:α->PV)(p:α->Bool)(f:α->PV){c:Nat}{di:En->Sto->Res ItP}{bnd:PV->En->Option En}{js:List Nat}{dt:DT}{de:DE}{ρ:En}{M M1:Sto}{all:List α}(h:di ρ M = .ok (.live c) M1)(hc:M1.g c=some (.lst (all.map f0)))(hl:all.length<sizeLine)(hs:∀ a∈all,∃ ρ',bnd (f0 a) (L3.rest js ρ)=some ρ'∧dt ρ' M1 = .ok (p a) M1∧(p a=true->de ρ' M1 = .ok (f a) M1)):yI di bnd js dt de ρ M = .ok (.lst ((all.filter p).map f)) M1:=by
 unfold yI;rw[h]
 have hf:yj (.live c) M1=all.length+1:=by
  show((yz M1 (.ref c)).getD []).length+1=_;rw[yF hc];simp
 show(if yj (.live c) M1<=sizeLine then _ else _)=_;rw[hf,if_pos (show all.length+1<=sizeLine from hl),Yy f0 p f hc hs (all.length+1) 0 all rfl (lt_succ_self _)];rfl
theorem jeT {M:Sto}{us:List Int}(hl:us.length<=40):jcb [.lst (us.map PV.int)] M = .ok (.bl true) M:=by
 refine jV (ρ:=[some (.lst (us.map PV.int))]) rfl rfl ?_;unfold d_zac;refine jO ?_;have q1:YF M [.lst (us.map PV.int),.ty "list"]=some (.bl true,M):=rfl
 have q2:yI (dIt (ya 0)) vT [] vQ jag [some (.lst (us.map PV.int))] M = .ok (.lst (us.map fun _=>.bl true)) M:=by
  refine jK (xs:=us.map PV.int) (M1:=M) rfl (by rw[length_map];exact YD (by omega)) ?_
  refine jW PV.int (fun _=>.bl true) us fun x hx=>⟨[some (.int x)],rfl,rfl,?_⟩
  unfold jag;simp only[jT,jp,jz,ju,Res.bind_ok];exact UH (Kd.int x)
 have q3:YG M (.lst (us.map fun _=>PV.bl true))=some (.bl true):=by
  have e1:(us.map fun _=>PV.bl true)=(us.map fun _=>true).map PV.bl:=by rw[map_map];rfl
  unfold YG jfQ;rw[e1];simp only[Xb,bind_some,vN]
  have:(us.map fun _=>true).all id=true:=by simp
  rw[this]
 unfold vw;simp only[jcV,jp,jz,jez,ju,Res.bind_ok,q1,q2,q3,jhl]
theorem Xn {xs:List PV}(h:∀ x∈xs,plain x=true):yt xs=true:=by
 induction xs with
 | nil=>rfl
 | cons x xs ih =>
  show(plain x && yt xs)=true;rw[h x mem_cons_self,ih fun y hy=>h y (mem_cons_of_mem _ hy)];rfl
theorem jbx {xs:List PV}{k:Nat}(h:∀ x∈xs,dep x<=k):xi xs<=k:=by
 induction xs with
 | nil=>exact zero_le _
 | cons x xs ih =>
  show max (dep x) (xi xs)<=k;exact Nat.max_le.mpr ⟨h x mem_cons_self,ih fun y hy=>h y (mem_cons_of_mem _ hy)⟩
theorem jcv (R:List Row):plain (.lst (R.map yd))=true:=Xn fun x hx=>by
 obtain⟨a,_,rfl⟩:=List.mem_map.mp hx;rfl
theorem jih (R:List Row):dep (.lst (R.map yd))<=60:=by
 have:xi (R.map yd)<=1:=jbx fun x hx=>by
  obtain⟨a,_,rfl⟩:=List.mem_map.mp hx;exact(show 1<=1 from le_refl _)
 show xi (R.map yd)+1<=60;omega
theorem jdR {M:Sto}{R:List Row}{d:DE}{ρ:En}(hd:d ρ M = .ok (.lst (R.map yd)) M):yq (dOp (eqG true) d (xP yb)) ρ M = .ok (!decide (R=[])) (M.new (.lst [])):=by
 refine yE (yH hd (M2:=M.new (.lst [])) (y:=.ref M.n) newl ?_);have h2:look (M.new (.lst [])) (.ref M.n) = .lst []:=Xx Sto.new_same;unfold eqG;rw[h2,show look (M.new (.lst [])) (.lst (R.map yd)) = .lst (R.map yd)from rfl,if_pos ⟨jcv R,rfl,jih R⟩]
 cases R with
 | nil=>rfl
 | cons a l=>rfl
def UT (SH:List Row)(a:Row):List Row:=SH.filter fun b=>decide (rk a=rk b) && decide (a.2.2≠b.2.2)
section
variable {M:Sto}{i n:Nat}{fs:List Int}{t u:Nat}{sd:List Row}{bd:List (List Int×PV)}{T:Nat->List Row}{SH:List Row}
theorem due28 (J:J28 M i n fs t u sd bd T SH)(hu:u<=60){d:Nat}{dl:List Int}(hd:M.g d=some (.lst (dl.map PV.int)))(d1:i+3+n<d)(d2:d<M.n)(hl:dl.length<=60)(a:Row)(x0 x7 x8 x9 bI bH bG bF:Option PV) :
  ∃ M',vq (r28 i n fs x0 x7 x8 x9 bI bH bG bF (some (.ref d)) (some (yd a))) M = .nx (r28 i n fs x0 x7 x8 x9 bI bH bG bF (some (.ref d)) (some (yd a))) M'∧J28 M' i n fs t u sd bd T SH∧M'.g d=some (.lst ((if UT SH a=[]then dl else dl++[a.1]).map PV.int))∧d<M'.n:=by
 have fJ:=J.ln;have hul:=J.ul
 obtain⟨ρ,hρ⟩:∃ ρ:En,ρ=r28 i n fs x0 x7 x8 x9 bI bH bG bF (some (.ref d)) (some (yd a)):=⟨_,rfl⟩
 have ec:yI (dIt (ya 6)) vT [15] Uk (ya 0) ρ M = .ok (.lst ((UT SH a).map yd)) M:=by
  refine jbF yd (fun b=>decide (rk a=rk b) && decide (a.2.2≠b.2.2)) yd (c:=i+3+n) (all:=SH) (jej J.sh (by rw[hρ];rfl)) J.sh (YD (by omega)) fun b hb=>⟨[some (yd b),some (yd a)],by rw[hρ];rfl,?_,fun _=>rfl⟩
  unfold Uk
  have q1:yq (dOp (eqG false) (dSl (ya 1) dON (dOS (dC (.int 2)))) (dSl (ya 0) dON (dOS (dC (.int 2))))) [some (yd b),some (yd a)] M = .ok (decide (rk a=rk b)) M:=by
   refine yE (yH (x:=.tup [.int a.1,.int a.2.1]) (y:=.tup [.int b.1,.int b.2.1]) (M1:=M) rfl rfl ?_);show some (PV.bl ((a.1==b.1) && ((a.2.1==b.2.1) && true)))=_;congr 2;rw[Bool.eq_iff_iff];simp[Vt]
  have q2:yq (dOp (eqG true) (dOp gIx (ya 1) (dC (.int 2))) (dOp gIx (ya 0) (dC (.int 2)))) [some (yd b),some (yd a)] M = .ok (decide (a.2.2≠b.2.2)) M:=by
   refine yE (yH (x:=.int a.2.2) (y:=.int b.2.2) (M1:=M) rfl rfl ?_);show some (PV.bl (!(a.2.2==b.2.2)))=_;congr 2;rw[Bool.eq_iff_iff];simp
  rw[dAnd_eq,q1];simp only[Res.bind_ok];rw[q2]
  by_cases hk:rk a=rk b
  ·rw[decide_eq_true hk,if_pos rfl];rfl
  ·rw[decide_eq_false hk,if_neg (by simp)];rfl
 obtain⟨M1,cG⟩:∃ M1,M1=M.new (.lst []):=⟨_,rfl⟩
 have J1:J28 M1 i n fs t u sd bd T SH:=by rw[cG];exact J.ex Yd
 have g1:M1.g d=some (.lst (dl.map PV.int)):=by rw[cG,Sto.new_ne (by omega)];exact hd
 have n1:d<M1.n:=by rw[cG];exact lt_succ_of_lt d2
 rw[<- hρ]
 by_cases hq:UT SH a=[]
 ·refine⟨M1,?_,J1,by rw[if_pos hq];exact g1,n1⟩;unfold vq
  have:=jdR ec
  rw[decide_eq_true hq,<- cG]at this;exact sIf_f this rfl
 ·refine⟨M1.set d (.lst ((dl++[a.1]).map PV.int)),?_,?_,by rw[if_neg hq];exact Sto.set_same,n1⟩
  ·unfold vq
   have:=jdR ec
   rw[decide_eq_false hq,<- cG]at this;refine sIf_t this (xU (v:=.non) (UW (x:=.ref d) (M1:=M1) (M2:=M1) (xs:=[.int a.1]) (by rw[hρ];rfl) (yF g1) (by rw[hρ];rfl) ?_));rw[jao g1 (by rw[length_map];exact YD (by omega)),map_append];rfl
  ·have fM:=J1.i2;exact⟨jau J1.tw (Sto.set_ne (by omega)) (Sto.set_ne (by omega)) (le_refl _),J1.b.off (le_refl _) fun j _ hj=>Sto.set_ne (by omega),by rw[Sto.set_ne (by omega)];exact J1.sh,J1.ln,J1.i2,J1.nd,J1.sub,J1.cov,J1.gd,J1.bg,J1.bl,J1.sl,J1.ul⟩
theorem J28.due (J:J28 M i n fs t u sd bd T SH)(cX:∀ o∈hon n fs,∀ a∈SH,a∈T o.toNat){h:Int}(hh:h∈hon n fs)(x:Int):x∈My.conv (T h.toNat)↔∃ a∈SH,UT SH a≠[]∧a.1=x:=by
 obtain⟨⟨h0,h1⟩,_⟩:=yO.mp hh
 have hn:h.toNat<n:=by omega
 rw[jbH (J.nd _ hn)];constructor
 ·rintro⟨a,b,ha,hb,hk,aY,e⟩;refine⟨a,J.sub _ hn a ha,fun z=>?_,e⟩
  have:b∈UT SH a:=List.mem_filter.mpr ⟨J.sub _ hn b hb,by
   rw[and_eq_true,decide_eq_true_eq,decide_eq_true_eq];refine⟨hk,fun z=>aY ?_⟩;rw[Vt]at hk
   exact Prod.ext hk.1 (Prod.ext hk.2 z)⟩
  rw[z]at this;cases this
 ·rintro⟨a,ha,hd,e⟩;obtain⟨b,hb⟩:=List.exists_mem_of_ne_nil _ hd;obtain⟨gY,gX⟩:=List.mem_filter.mp hb;rw[and_eq_true,decide_eq_true_eq,decide_eq_true_eq]at gX;exact⟨a,b,cX h hh a ha,cX h hh b gY,gX.1,fun z=>gX.2 (by rw[z]),e⟩
end
theorem law_true (ns:List Int)(hl:ns.length<=63):∃ M',yu 1 16 jbC [.scr ns] ⟨0,fun _=>none⟩ = .ok (.bl true) M':=by
 show Tru (jbC [some (.scr ns),none,none,none,none,none,none,none,none,none,none,none,none,none,none,none] ⟨0,fun _=>none⟩);obtain⟨M1,e1,T1,n1⟩:=jiR ns;obtain⟨k,M2,e2,k0,k1,T2,o2⟩:=vK T1 (k:=5) (by decide) (by decide)
 obtain⟨n,hn⟩:∃ n:Nat,2+k=(n:Int):=⟨(2+k).toNat,by omega⟩
 obtain⟨fs,M3,e3,fl,fb,pw,T3,o3⟩:=jhy T2 (crew:=(n:Int)) (most:=(n:Int)-1) (by omega) (by omega) (by omega);have aY:hon n fs≠[]:=jhL (by omega);have hlh:=jhM n fs;obtain⟨M4,e4,B4,n4,u4⟩:=jiz (M:=M3) (n:=n) (fs:=fs) (F:=.lst (fs.map PV.int)) (by omega) (by omega) (fun M=>YW pw fb (by omega) (by omega)) (fun M=>rfl)
 obtain⟨i,hi⟩:∃ i,i=M3.n:=⟨_,rfl⟩
 rw[<- hi]at e4 B4 n4 u4
 have i2:2<=i:=by rw[hi];obtain⟨_,_,t⟩:=T3;exact t.n
 have T4:Tw M4:=jau T3 (u4 0 (by omega)) (u4 1 (by omega)) (by omega)
 have J5:J28 (M4.new (.lst [])) i n fs 0 0 [] [] (fun _=>[]) []:=by
  have x:Ex M4 (M4.new (.lst [])):=Yd;exact⟨x.tw T4,B4.ex x,by rw[<- n4];exact Sto.new_same,by show _<M4.n+1;omega,i2,fun h _=>nodup_nil,fun h _ a ha=>(by cases ha),fun a ha=>(by cases ha),fun a ha=>(by cases ha),fun a ha=>(by cases ha),le_refl _,le_refl _,le_refl _⟩
 unfold jbC;refine uk (v:=.ref 1) (M1:=M1) (by simpa[ym,gen]using e1) ?_;simp only[set_cons_succ,set_cons_zero];refine uk (v:=.int n) (M1:=M2) (by simp[ym,gen,e2,hn]) ?_;simp only[set_cons_succ,set_cons_zero];refine uk (v:=.lst (fs.map PV.int)) (M1:=M3) (by simpa[ym,gen]using e3) ?_;simp only[set_cons_succ,set_cons_zero];refine uk (v:=.lst ((hon n fs).map PV.int)) (M1:=M3) ?_ ?_
 ·refine jK (xs:=ve 0 n) (M1:=M3) ?_ (by rw[xm];exact YD (by omega)) ?_
  ·have hs:small (n:Int)=true:=xH.mpr ⟨by omega,by omega⟩;unfold vR;simp only[jp,jz,jF,ju,Res.bind_ok,hs,if_true,Int.toNat_natCast]
  ·rw[jdT]
   refine vz PV.int (fun x=>!decide (x∈fs)) PV.int _ fun x hx=>⟨[some (.int x),some (.lst (fs.map PV.int))],rfl,?_,fun _=>rfl⟩
   exact yE (yH (x:=.int x) (y:=.lst (fs.map PV.int)) (M1:=M3) rfl rfl (um (neg:=true) (M:=M3) (x:=.lst (fs.map PV.int)) (k:=x) (ns:=fs) rfl))
 simp only[set_cons_succ,set_cons_zero];refine uk (v:=.ref i) (M1:=M4) ?_ ?_
 ·unfold dNew;simp only[jp,jz,jF,ju,Res.bind_ok];exact e4
 simp only[set_cons_succ,set_cons_zero];refine uk (v:=.ref (i+3+n)) (M1:=M4.new (.lst [])) (by rw[newl,n4]) ?_;simp only[set_cons_succ,set_cons_zero]
 obtain⟨ρ6,M6,e6,y7,y8,y9,cB,cA,cz,sd,bd,T,SH,hρ6,J6⟩:=xL (g:=gN 7) (db:=Jz)
  (fun j ρ M=>∃ y7 y8 y9 cB cA cz sd bd T SH,ρ=r28 i n fs (some (.scr ns)) y7 y8 y9 cB cA cz none none none∧J28 M i n fs j j sd bd T SH)
  (ve 0 20) 0 (r28 i n fs (some (.scr ns)) none none none none none none none none none) (M4.new (.lst []))
  ⟨none,none,none,none,none,none,[],[],fun _=>[],[],rfl,J5⟩ (by
   rintro j z hz ρ M ⟨y7,y8,y9,cB,cA,cz,sd,bd,T,SH,rfl,J⟩
   have hq:j<20:=by
    have:=(List.getElem?_eq_some_iff.mp hz).1
    rw[xm]at this;exact this
   rw[zero_add]at J ⊢;obtain⟨z8,z9,z10,z11,z12,M',iJ,hV,T',ke,e',J'⟩:=turn28 J (by omega) (by omega) (by omega) (by omega) aY (some (.scr ns)) (some z) y8 y9 cB cA cz none none none
   exact⟨_,_,M',rfl,e',some z,z8,z9,z10,z11,z12,iJ,hV,T',ke,rfl,J'⟩)
 rw[xm,zero_add]at J6;refine jhP (M1:=M4.new (.lst [])) (xs:=ve 0 20) rfl e6 ?_;subst hρ6
 obtain⟨ρ7,M7,e7,w7,w8,c8,T',hρ7,J7,cX⟩:=xL (g:=gN 7) (db:=JC)
  (fun j ρ M=>∃ w7 w8 c8 T',ρ=r28 i n fs (some (.scr ns)) w7 w8 y9 cB cA cz c8 none none∧J28 M i n fs 20 20 sd bd T' SH∧(0<j->∀ o∈hon n fs,∀ a∈SH,a∈T' o.toNat))
  (ve 0 2) 0 (r28 i n fs (some (.scr ns)) y7 y8 y9 cB cA cz none none none) M6
  ⟨y7,y8,none,T,rfl,J6,fun z=>absurd z (not_lt_zero _)⟩ (by
   rintro j z hz ρ M ⟨w7,w8,c8,T',rfl,J,_⟩;obtain⟨z8,iG,M',T2,e',J',f'⟩:=outer28 J (by decide) (some (.scr ns)) (some z) w8 y9 cB cA cz c8 none none
   exact⟨_,_,M',rfl,e',some z,z8,iG,T2,rfl,J',fun _=>f'⟩)
 have cX:=cX (by rw[xm];decide);refine jhP (M1:=M6) (xs:=ve 0 2) rfl e7 ?_;subst hρ7
 obtain⟨d,hd⟩:∃ d,d=M7.n:=⟨_,rfl⟩
 refine uk (v:=.ref d) (M1:=M7.new (.lst [])) (by rw[newl,hd]) ?_;show Tru (yh _ _ (r28 i n fs (some (.scr ns)) w7 w8 y9 cB cA cz c8 (some (.ref d)) none) _);have hln7:=J7.ln
 obtain⟨ρ8,M8,e8,gq,dl,hρ8,J8,g8,d8,_,m8⟩:=jfp (j:=i+3+n) (xs:=SH.map yd) (g:=gN 15) (db:=vq)
  (fun j ρ M=>∃ gq dl,ρ=r28 i n fs (some (.scr ns)) w7 w8 y9 cB cA cz c8 (some (.ref d)) gq∧J28 M i n fs 20 20 sd bd T' SH∧M.g d=some (.lst (dl.map PV.int))∧d<M.n∧dl.length<=j∧∀ x,x∈dl↔∃ a∈SH.take j,UT SH a≠[]∧a.1=x)
  (fun k ρ M h=>by obtain⟨_,_,_,J,_⟩:=h;exact J.sh) (by
   rintro j z hz ρ M ⟨gq,dl,rfl,J,g,dn,ll,m⟩;rw[getElem?_map,map_eq_some_iff]at hz;obtain⟨a,ha,rfl⟩:=hz;have hj:j<SH.length:=(List.getElem?_eq_some_iff.mp ha).1
   have:=J.ul
   obtain⟨M',e',J',g',n'⟩:=due28 J (by decide) g (by omega) dn (by omega) a (some (.scr ns)) w7 w8 y9 cB cA cz c8;refine⟨_,_,M',rfl,e',some (yd a),_,rfl,J',g',n',?_,fun x=>?_⟩
   ·split
    ·omega
    ·rw[length_append];show _+1<=_;omega
   ·rw[take_succ,ha]
    have hx:(∃ b∈SH.take j++(some a).toList,UT SH b≠[]∧b.1=x)↔(x∈dl∨(UT SH a≠[]∧a.1=x)):=by
     rw[m];constructor
     ·rintro⟨b,hb,q⟩
      rcases List.mem_append.mp hb with hb | hb
      ·exact .inl ⟨b,hb,q⟩
      ·have hb:b=a:=List.mem_singleton.mp hb;rw[hb]at q;exact .inr q
     ·rintro(⟨b,hb,q⟩ | q)
      ·exact⟨b,List.mem_append.mpr (.inl hb),q⟩
      ·exact⟨a,List.mem_append.mpr (.inr (List.mem_singleton.mpr rfl)),q⟩
    rw[hx]
    by_cases hq:UT SH a=[]
    ·rw[if_pos hq];exact⟨.inl,fun z=>z.elim id fun z=>absurd hq z.1⟩
    ·rw[if_neg hq,mem_append,mem_singleton]
     exact⟨fun z=>z.imp id fun z=>⟨hq,z.symm⟩,fun z=>z.imp id fun z=>z.2.symm⟩)
  200 0 (r28 i n fs (some (.scr ns)) w7 w8 y9 cB cA cz c8 (some (.ref d)) none) (M7.new (.lst [])) (zero_le _) (by rw[length_map];have:=J7.ul;omega)
  ⟨none,[],rfl,J7.ex Yd,by rw[hd];exact Sto.new_same,by rw[hd];exact lt_succ_self _,le_refl _,fun x=>by rw[take_zero];simp⟩
 have nx8:∀ c:DS,Tru (c ρ8 M8)->Tru (yh (uJ 200 (dIt (ya 6)) (gN 15) vq) c (r28 i n fs (some (.scr ns)) w7 w8 y9 cB cA cz c8 (some (.ref d)) none) (M7.new (.lst []))):=fun c hc=>by
  rw[nx_loop (jej (J7.ex (Yd (c:=.lst []))).sh rfl) e8 rfl];exact hc
 refine nx8 _ ?_;subst hρ8;rw[length_map,take_length]at m8
 have sm:∀ x∈dl,0<=x∧x<16:=fun x hx=>by
  obtain⟨a,ha,_,e⟩:=(m8 x).mp hx;obtain⟨a0,a1,_⟩:=J8.gd a ha;rw[<- e];omega
 obtain⟨D,hD⟩:∃ D,D=yr dl:=⟨_,rfl⟩
 have cD:∀ h∈hon n fs,yr (conv (T' h.toNat))=D:=fun h hh=>by
  obtain⟨⟨h0,h1⟩,_⟩:=yO.mp hh;rw[hD]
  exact YM _ _ (xJ _) (xJ _) fun x=>by rw[yQ (J8.csm (by omega)),yQ sm,J8.due cX hh,m8]
 have aD:yr (allc n fs T')=D:=by
  rw[hD];refine YM _ _ (xJ _) (xJ _) fun x=>?_;rw[yQ J8.asm,<- hD];constructor
  ·intro hx;obtain⟨l,hl,hx⟩:=List.mem_flatten.mp hx;obtain⟨h,hh,rfl⟩:=List.mem_map.mp hl;rw[<- cD h hh];exact hx
  ·intro hx;obtain⟨h,hh⟩:=List.exists_mem_of_ne_nil _ aY;exact List.mem_flatten.mpr ⟨_,List.mem_map.mpr ⟨h,hh,rfl⟩,by rw[cD h hh];exact hx⟩
 have Dl:D.length<=16:=by rw[hD];exact Vs _
 refine uk (v:=.lst (D.map PV.int)) (M1:=M8) ?_ ?_
 ·unfold jcT
  show(match UJ M8 (.ref d)with
   | some ns=>if vW ns=true then Res.ok (PV.lst ((yr ns).map PV.int)) M8 else .bad
   | none=>.bad)=_
  have:UJ M8 (.ref d)=some dl:=by
   unfold UJ;rw[yF g8];exact VH dl
  rw[this];simp only[];rw[if_pos (YX sm),hD]
 obtain⟨ρ,hρ⟩:∃ ρ:En,ρ=r28 i n fs (some (.scr ns)) w7 w8 y9 cB cA cz c8 (some (.lst (D.map PV.int))) gq:=⟨_,rfl⟩
 show Tru (yh _ _ (r28 i n fs (some (.scr ns)) w7 w8 y9 cB cA cz c8 (some (.lst (D.map PV.int))) gq) M8);rw[<- hρ]
 have v4:∀ M,ya 4 ρ M = .ok (.lst ((hon n fs).map PV.int)) M:=fun M=>by rw[hρ];rfl
 have v5:∀ M,ya 5 ρ M = .ok (.ref i) M:=fun M=>by rw[hρ];rfl
 have iI:∀ M,ya 14 ρ M = .ok (.lst (D.map PV.int)) M:=fun M=>by rw[hρ];rfl
 have tl:∀ h,h<n->(T' h).length<64:=fun h hh=>by have:=J8.tl hh;omega
 obtain⟨ys,M9,e9,ik,J9⟩:=JE (bnd:=vT) (r:=L3.rest [5] ρ) (dt:=vQ) (de:=xF 10 "convicted" JO 2 0 [.p 0,.p 1] [] (ya 1) (jb (ya 0) yb) yb)
  (fun j acc M=>acc=replicate j (PV.lst (D.map PV.int))∧J28 M i n fs 20 20 sd bd T' SH) ((hon n fs).map PV.int) 0 [] M8 ⟨rfl,J8⟩ (by
   rintro j x hx acc M ⟨ha,J⟩;rw[getElem?_map,map_eq_some_iff]at hx;obtain⟨h,hh,rfl⟩:=hx;have hh:=mem_of_getElem? hh;obtain⟨⟨h0,h1⟩,_⟩:=yO.mp hh;rw[zero_add]at ha ⊢;obtain⟨M',e',x'⟩:=jiu J.b h0 h1 (tl _ (by omega)) (J.small _ (by omega));rw[cD h hh]at e';refine⟨[some (.int h),some (.ref i)],true,M,by rw[hρ];rfl,rfl,fun z=>(by cases z),fun _=>⟨.lst (D.map PV.int),M',?_,?_,J.ex x'⟩⟩
   ·rw[J.b.mth (xs:=[.int h]) (zs:=[]) (M1:=M) (M2:=M) rfl rfl rfl rfl];exact e'
   ·rw[ha,List.replicate_succ'])
 rw[nil_append,length_map,zero_add]at ik;obtain⟨MA,eA,xA⟩:=jdg J9.b tl J9.small;rw[aD]at eA;have JA:=J9.ex xA;obtain⟨MB,eB,xB⟩:=jdg JA.b tl JA.small;rw[aD]at eB;refine go_no (M1:=MA) (or_no (M1:=M9) ?_ ?_) ?_
 ·refine yE (yH (x:=.lst ys) (M1:=M9) (jK (xs:=(hon n fs).map PV.int) (M1:=M8) (xV (v4 M8)) (by rw[length_map];exact YD (by omega)) e9) (M2:=M9) (y:=.lst ys) ?_ ?_)
  ·have l1:jcU (jb (ya 14) yb) ρ M9 = .ok (.lst [.lst (D.map PV.int)]) M9:=by
    rw[jex,vy (iI M9)];simp only[Res.bind_ok];exact if_pos (show 1<=sizeLine by decide)
   refine yH l1 (JV (v4 M9) (xT (x:=.lst _) rfl)) ?_;rw[jhV (xs:=[.lst (D.map PV.int)]) rfl (by omega) (by rw[length_map];omega) (by rw[length_map,Int.toNat_natCast];show 1*_<=_;exact le_of_lt (YD (by omega))),ik,length_map,Int.toNat_natCast];congr 2
   have:∀ k,(replicate k [PV.lst (D.map PV.int)]).flatten=replicate k (PV.lst (D.map PV.int)):=fun k=>by
    induction k with
    | zero=>rfl
    | succ k ih=>rw[replicate_succ,flatten_cons,ih];rfl
   exact this _
  ·refine XO (neg:=true) (z:=.lst ys) rfl rfl (Xn fun x hx=>?_) ?_
   ·rw[ik]at hx;rw[(List.mem_replicate.mp hx).2];exact Yo D
   ·have:xi ys<=50:=jbx fun x hx=>by
     rw[ik]at hx;rw[(List.mem_replicate.mp hx).2];show xi (D.map PV.int)+1<=50;rw[Yh];decide
    show xi ys+1<=60;omega
 ·exact yE (yH (x:=.lst (D.map PV.int)) (M1:=MA) (by rw[jaf (vy (v5 M9))];exact eA) (iI MA) (XO (neg:=true) (z:=.lst (D.map PV.int)) rfl rfl (Yo D) (jfG D)))
 have fD:∀ x∈D,x∈fs:=fun x hx=>by
  rw[<- aD]at hx;exact J8.allc x hx
 refine go_ret (M1:=MB.new (.lst [])) ?_;unfold vw;rw[jaf (vy (x:=.lst (D.map PV.int)) (M1:=MB) (by rw[jaf (vy (v5 MA))];exact eB)),jeT (by omega)];exact jib (neg:=false) (jaY (fs:=fs) (C:=D) (iI MB) fD (by omega) (by rw[hρ];rfl))
section
variable {P:Program}{w:World}{K:Frag}{mg:Str->Option Value}{base:Heap}{C:Nat->Addr}{f:Addr}{fd:FuncData}
theorem ok_zap (F:Fun K "_law_town" "_law_town" jdI f fd)(aC:mg "list" = none):FnOk P w K mg base (CX1 P w) 1 f fd ["_law_script"] (spD (tb w K C) jbW) :=
 have hT:(tb w K C).K=K:=rfl
 jI F sc_zap fun ay A outer s H E hr=>(jf (jt (xC (ja (qe_if (jU (o_scr hT (hu0 hr)) (qv 0) (jcr jd) (jS _)) (Vz (b_listS hT) rfl aC YS (ja (qv 0) jd)) (xC (ja jm jd))) (ja jm jd)))))
theorem ok_zaq (F:Fun K "_law_draw" "_law_draw" jdH f fd)(au:mg "len" = none):FnOk P w K mg base (CX1 P w) 1 f fd ["_law_town_here","_law_many"] (spD (tb w K C) xX) :=
 have hT:(tb w K C).K=K:=rfl
 jI F JQ fun ay A outer s H E hr=>(je (jD (i:=2) JQ.nd rfl (Or.inl rfl) (xR (uZ hT) (qv 0) jm (fun _ _=>rfl)))
   (je (jdW (jw (VC hT) (xR (uZ hT) (qv 0) jm (fun _ _=>rfl)) jm) (qv 0) jm)
   (je (jD (i:=3) JQ.nd rfl (Or.inl rfl) (jw (VB) (xR (uZ hT) (qv 0) jm (fun _ _=>rfl)) (jj (JJ hT) rfl au vM (ja (qv 2) jd))))
   (je (jD (i:=4) JQ.nd rfl (Or.inl rfl) (xR (uZ hT) (qv 2) (qv 3) (fun _ _=>rfl)))
   (je (xy (jU (o_ge) (qv 4) jm (jS _)) (je (jdW (jw (jhn) (qv 4) (qv 1)) (qv 2) (qv 3))
   (jf (jt (jw (VB) (qv 4) (qv 1))))) jG)
   (je (jD (i:=5) JQ.nd rfl (Or.inl rfl) (jw (VB) (jw (VC hT) (qv 4) (jw (jeg) jm (xR (uZ hT) (qv 0) jm (fun _ _=>rfl)))) jm))
   (je (jD (i:=5) JQ.nd rfl (Or.inl rfl) (jw (VB) (jw (o_pow) (qv 5) jm) jm))
   (jf (jt (jw (VB) (jw (jhn) (jw (VB) (jw (VC hT) (jw (jeg) (jw (jhn) (qv 5) jm) jm) (qv 5)) jm) jm) (qv 1)))))))))))
theorem ok_zam (F:Fun K "_law_liars" "_law_liars" jdL f fd)(aI:CalD P w K mg base (tb w K C) "_law_draw" 1 ["_law_town_here","_law_many"] [] 2 0 [.p 0,.p 1] [] xX)(au:mg "len" = none)(aw:mg "range" = none):FnOk P w K mg base (CX1 P w) 2 f fd ["_law_town_here","_law_crew","_law_most"] (spD (tb w K C) Ug) :=
 have hT:(tb w K C).K=K:=rfl
 XR (jeu F jcl fun ay A outer s H E hr=>(je (jD (i:=3) jcl.nd rfl (Or.inl rfl) (xC jd))
   (je (uc 200 PassesOwn.never rfl (uD rfl aw (ja (qv 1) jd)) (yx (i:=4) jcl.nd rfl (Or.inl rfl)) (jf (xy (QW.qt (jgE (jU (o_lt) (jj (JJ hT) rfl au vM (ja (qv 3) jd)) (qv 2) (jS _)) (jdV (jU (jhm hT hr.units) (jh aI (hr.mono (by decide)) rfl jx (ja (qv 0) (ja jm jd)) jg) jm (jS _))))) (jf (jL (jdY PySem.F.slot_list_append PySem.F.type_list_append Jt (qv 3) (ja (qv 4) jd)))) jG)))
   (jf (jt (qe_frz (qv 3)))))))
theorem ok_zay (F:Fun K "is_whole" "is_whole" jdB f fd)(bp:mg "bool" = none)(bS:mg "int" = none)(ag:mg "isinstance" = none):FnOk P w K mg base (CX1 P w) 1 f fd ["thing"] (spD (tb w K C) YB) :=
 have hT:(tb w K C).K=K:=rfl
 jI F sc_zay fun ay A outer s H E hr=>(jf (jt (uQ (jj (XY hT) rfl ag jH (ja (qv 0) (ja (jaS rfl bS jiy) jd))) (JS (jgK (jj (XY hT) rfl ag jH (ja (qv 0) (ja (jaS rfl bp jeG) jd))))))))
theorem ok_zar (F:Fun K "is_within" "is_within" jdG f fd)(bO:CalD P w K mg base (tb w K C) "is_whole" 1 ["thing"] [] 1 0 [.p 0] [] YB):FnOk P w K mg base (CX1 P w) 2 f fd ["thing","least","most"] (spD (tb w K C) uO) :=
 have hT:(tb w K C).K=K:=rfl
 jI F sc_zar fun ay A outer s H E hr=>(jf (jt (uQ (jh bO (hr.mono (by decide)) rfl jB (ja (qv 0) jd) jg) (JS (jgM (o_le) (o_le) (qv 1) (qv 0) (qv 2))))))
theorem ok_zag (F:Fun K "check_within" "check_within" jdO f fd)(ba:CalD P w K mg base (tb w K C) "is_within" 2 ["thing","least","most"] [] 3 0 [.p 0,.p 1,.p 2] [] uO):FnOk P w K mg base (CX1 P w) 3 f fd ["thing","least","most"] (spD (tb w K C) JN) :=
 have hT:(tb w K C).K=K:=rfl
 jI F sc_zag fun ay A outer s H E hr=>(jf (xy (ua (vZ hT (jh ba (hr.mono (by decide)) rfl jB (ja (qv 0) (ja (qv 1) (ja (qv 2) jd))) jg))) (jf xn) jG))
theorem ok_zah (F:Fun K "check_houses" "check_houses" jdN f fd){aE:Tok}(aH:mg "MOST_HOUSES" = some (.int 16 aE))(bQ:CalD P w K mg base (tb w K C) "check_within" 3 ["thing","least","most"] [] 3 0 [.p 0,.p 1,.p 2] [] JN):FnOk P w K mg base (CX1 P w) 4 f fd ["houses"] (spD (tb w K C) jeO) :=
 have hT:(tb w K C).K=K:=rfl
 jI F sc_zah fun ay A outer s H E hr=>(jf (jL (jh bQ (hr.mono (by decide)) rfl jB (ja (qv 0) (ja jm (ja (Uw rfl aH) jd))) jg)))
theorem ok_zaz (F:Fun K "is_house" "is_house" jdA f fd)(ba:CalD P w K mg base (tb w K C) "is_within" 2 ["thing","least","most"] [] 3 0 [.p 0,.p 1,.p 2] [] uO):FnOk P w K mg base (CX1 P w) 3 f fd ["thing","houses"] (spD (tb w K C) YA) :=
 have hT:(tb w K C).K=K:=rfl
 jI F sc_zaz fun ay A outer s H E hr=>(jf (jt (jh ba (hr.mono (by decide)) rfl jB (ja (qv 0) (ja jm (ja (jw (o_sub) (qv 1) jm) jd))) jg)))
theorem ok_zas (F:Fun K "is_rising" "is_rising" jaB f fd)(aN:mg "all" = none)(er:mg "zip" = none):FnOk P w K mg base (CX1 P w) 1 f fd ["numbers"] (spD (tb w K C) jbV) :=
 have hT:(tb w K C).K=K:=rfl
 jI F sc_zas fun ay A outer s H E hr=>(jf (jt (jj (jeI rfl) rfl aN jaj (ja (xj (osc:=(jc jaB)) (own:=["ahead","number"]) (fr:=[]) (js:=[]) (bnd_2 (T:=tb w K C)) rfl rfl (by exact⟨rfl,by decide +kernel,by decide +kernel,by decide +kernel,by decide +kernel,by decide +kernel⟩) rfl (qi_zip hT rfl er (ja (qv 0) (ja (ud hT (qv 0) (Jl jm) Jm) jd))) (fun _ _ _=>(show PG _ _ (gTup K 2 (jbq (vo 0) (jbq (vo 1) gNil)))from(jha rfl (Xp (jJ (i:=0) (show Nodup (["ahead","number"]:List Str)from by decide +kernel) rfl (Or.inl rfl)) (Xp (jJ (i:=1) (show Nodup (["ahead","number"]:List Str)from by decide +kernel) rfl (Or.inl rfl)) jec))))) (fun _ _ _=>uC) (fun _ _ _=>(jcs (o_lt) (qv 0) (qv 1) (jS _)))) jd))))
theorem ok_zab (F:Fun K "check_some_houses" "check_some_houses" jaI f fd)(bN:CalD P w K mg base (tb w K C) "is_house" 3 ["thing","houses"] [] 2 0 [.p 0,.p 1] [] YA)(dS:CalD P w K mg base (tb w K C) "is_rising" 1 ["numbers"] [] 1 0 [.p 0] [] jbV)(aN:mg "all" = none)(ag:mg "isinstance" = none)(au:mg "len" = none)(aC:mg "list" = none)(aT:mg "tuple" = none):FnOk P w K mg base (CX1 P w) 4 f fd ["some","houses","most"] (spD (tb w K C) Vd) :=
 have hT:(tb w K C).K=K:=rfl
 jI F sc_zab fun ay A outer s H E hr=>(je (xy (QW.qt (jdU (ua (vZ hT (jj (XY hT) rfl ag jH (ja (qv 0) (ja (jgI (ja (jaS rfl aC YS) (ja (jaS rfl aT jbP) jd))) jd))))) (Ut (jU (o_gt) (jj (JJ hT) rfl au vM (ja (qv 0) jd)) (qv 2) (jS _))))) (jf xn) jG)
   (jf (xy (QW.qt (jdU (ua (vZ hT (jj (jeI rfl) rfl aN jaj (ja (xj (osc:=(jc jaI)) (own:=["house"]) (fr:=["houses"]) (js:=[1]) uM rfl rfl (by exact⟨rfl,by decide +kernel,by decide +kernel,by decide +kernel,by decide +kernel,by decide +kernel⟩) rfl (qi_seq hT (qv 0)) (fun _ _ _=>(jJ (i:=0) (show Nodup (["house","houses"]:List Str)from by decide +kernel) rfl (Or.inl rfl))) (fun _ _ _=>uC) (fun _ _ _=>(jh bN (hr.mono (by decide)) rfl jx (ja (qv 0) (ja (qv 1) jd)) jg))) jd)))) (Ut (ua (vZ hT (jh dS (hr.mono (by decide)) rfl jB (ja (qv 0) jd) jg)))))) (jf xn) jG)))
theorem ok_zae (F:Fun K "__init__" "Book.__init__" Xc f fd)(ao:jn K (C 10) "bound")(ai:jn K (C 10) "liars")(aj:jn K (C 10) "said")(ah:jn K (C 10) "seen")(d7:CalD P w K mg base (tb w K C) "check_houses" 4 ["houses"] [] 1 0 [.p 0] [] jeO)(eh:CalD P w K mg base (tb w K C) "check_some_houses" 4 ["some","houses","most"] [] 3 0 [.p 0,.p 1,.p 2] [] Vd)(aC:mg "list" = none)(aw:mg "range" = none)(af:Cls K (C 10)):FnOk P w K mg base (CX1 P w) 5 f fd ["self","houses","liars"] (spD (tb w K C) Uh) :=
 have hT:(tb w K C).K=K:=rfl
 jI F sc_zae fun ay A outer s H E hr=>(je (jL (jh d7 (hr.mono (by decide)) rfl jB (ja (qv 1) jd) jg))
   (je (jL (jh eh (hr.mono (by decide)) rfl jB (ja (qv 2) (ja (qv 1) (ja (qv 1) jd))) jg))
   (je (Uu hT af ai (qv 0) (Vz (b_list hT) rfl aC YS (ja (qv 2) jd)))
   (je (Uu hT af aj (qv 0) Uv)
   (je (Uu hT af ao (qv 0) Uv)
   (jf (Uu hT af ah (qv 0) (xj (osc:=(jc Xc)) (own:=["house"]) (fr:=[]) (js:=[]) uM rfl rfl (by exact⟨rfl,by decide +kernel,by decide +kernel,by decide +kernel,by decide +kernel,by decide +kernel⟩) rfl (uD rfl aw (ja (qv 1) jd)) (fun _ _ _=>(jJ (i:=0) (show Nodup (["house"]:List Str)from by decide +kernel) rfl (Or.inl rfl))) (fun _ _ _=>uC) (fun _ _ _=>Uv)))))))))
theorem ok_zat (F:Fun K "_law_pick" "_law_pick" jdF f fd)(aI:CalD P w K mg base (tb w K C) "_law_draw" 1 ["_law_town_here","_law_many"] [] 2 0 [.p 0,.p 1] [] xX)(au:mg "len" = none):FnOk P w K mg base (CX1 P w) 2 f fd ["_law_town_here","_law_some"] (spD (tb w K C) vA) :=
 have hT:(tb w K C).K=K:=rfl
 jI F sc_zat fun ay A outer s H E hr=>(jf (jt (xR (uZ hT) (qv 1) (jh aI (hr.mono (by decide)) rfl jB (ja (qv 0) (ja (jj (JJ hT) rfl au vM (ja (qv 1) jd)) jd)) jg) (fun _ _=>rfl))))
theorem ok_zak (F:Fun K "check_house" "check_house" jdM f fd)(bN:CalD P w K mg base (tb w K C) "is_house" 3 ["thing","houses"] [] 2 0 [.p 0,.p 1] [] YA):FnOk P w K mg base (CX1 P w) 4 f fd ["house","houses"] (spD (tb w K C) jbZ) :=
 have hT:(tb w K C).K=K:=rfl
 jI F sc_zak fun ay A outer s H E hr=>(jf (xy (ua (vZ hT (jh bN (hr.mono (by decide)) rfl jB (ja (qv 0) (ja (qv 1) jd)) jg))) (jf xn) jG))
theorem ok_zaa (F:Fun K "check_is_house" "Book.check_is_house" jdP f fd)(ah:jn K (C 10) "seen")(d4:CalD P w K mg base (tb w K C) "check_house" 4 ["house","houses"] [] 2 0 [.p 0,.p 1] [] jbZ)(au:mg "len" = none)(af:Cls K (C 10)):FnOk P w K mg base (CX1 P w) 5 f fd ["self","house"] (spD (tb w K C) vS) :=
 have hT:(tb w K C).K=K:=rfl
 jI F sc_zaa fun ay A outer s H E hr=>(jf (jL (jh d4 (hr.mono (by decide)) rfl jB (ja (qv 1) (ja (jj (JJ hT) rfl au vM (ja (jX hT af ah (qv 0)) jd)) jd)) jg)))
theorem ok_zau (F:Fun K "is_number" "is_number" jdE f fd){aV:Tok}(aM:mg "FARTHEST" = some (.int 1000000 aV))(ba:CalD P w K mg base (tb w K C) "is_within" 2 ["thing","least","most"] [] 3 0 [.p 0,.p 1,.p 2] [] uO):FnOk P w K mg base (CX1 P w) 3 f fd ["thing"] (spD (tb w K C) Vb) :=
 have hT:(tb w K C).K=K:=rfl
 jI F sc_zau fun ay A outer s H E hr=>(jf (jt (jh ba (hr.mono (by decide)) rfl jB (ja (qv 0) (ja (qe_neg (Uw rfl aM)) (ja (Uw rfl aM) jd))) jg)))
theorem ok_zav (F:Fun K "bind" "Book.bind" jdD f fd)(ao:jn K (C 10) "bound")(af:Cls K (C 10)):FnOk P w K mg base (CX1 P w) 1 f fd ["self","house","place","number"] (spD (tb w K C) jbU) :=
 have hT:(tb w K C).K=K:=rfl
 jI F sc_zav fun ay A outer s H E hr=>(je (xy (jU (jfl hT hr.units) (jgL (hu1 hr) (jX hT af ao (qv 0)) (ja (qv 1) (ja (qv 2) jd)) (qv 3) ⟨rfl,rfl,rfl,rfl⟩) (qv 3) (jS _)) (jf xn) jG)
   (jf (jgF (hu1 hr) (qv 3) (jX hT af ao (qv 0)) (ja (qv 1) (ja (qv 2) jd)))))
theorem ok_zba (F:Fun K "say" "Book.say" jdz f fd){aK:Tok}(aL:mg "LAST_PLACE" = some (.int 99 aK))(ai:jn K (C 10) "liars")(aj:jn K (C 10) "said")(bQ:CalD P w K mg base (tb w K C) "check_within" 3 ["thing","least","most"] [] 3 0 [.p 0,.p 1,.p 2] [] JN)(dR:CalD P w K mg base (tb w K C) "is_number" 3 ["thing"] [] 1 0 [.p 0] [] Vb)(dQ:MetD P w K mg base (tb w K C) 10 "bind" 1 ["self","house","place","number"] [] 4 0 [.p 0,.p 1,.p 2,.p 3] [] jbU)(aJ:MetD P w K mg base (tb w K C) 10 "check_is_house" 5 ["self","house"] [] 2 0 [.p 0,.p 1] [] vS)(af:Cls K (C 10)):FnOk P w K mg base (CX1 P w) 6 f fd ["self","house","place","number"] (spD (tb w K C) Ue) :=
 have hT:(tb w K C).K=K:=rfl
 jI F jgu fun ay A outer s H E hr=>(je (jL (yV aJ (hr.mono (by decide)) jB (qv 0) (ja (qv 1) jd) jg))
   (je (jL (jh bQ (hr.mono (by decide)) rfl jB (ja (qv 2) (ja jm (ja (Uw rfl aL) jd))) jg))
   (je (xy (ua (vZ hT (jh dR (hr.mono (by decide)) rfl jB (ja (qv 3) jd) jg))) (jf xn) jG)
   (je (xy (jU (Jq hT (XG hr)) (qv 1) (jX hT af ai (qv 0)) (by with_unfolding_all rfl)) (jf (jL (yV dQ (hr.mono (by decide)) jB (qv 0) (ja (qv 1) (ja (qv 2) (ja (qv 3) jd))) jg))) jG)
   (qss_row (i:=4) (hu1 hr) jgu.nd rfl (Or.inl rfl) (ja (qv 1) (ja (qv 2) (ja (qv 3) jd))) (Xq rfl (by first | exact Or.inl rfl | exact Or.inr (Or.inl rfl) | exact Or.inr (Or.inr rfl))) jgN (jX hT af aj (qv 0))
   (jf (jt (qv 4))))))))
theorem ok_zaw (F:Fun K "is_saying" "is_saying" jaA f fd)(bO:CalD P w K mg base (tb w K C) "is_whole" 1 ["thing"] [] 1 0 [.p 0] [] YB)(aN:mg "all" = none)(ag:mg "isinstance" = none)(au:mg "len" = none)(aT:mg "tuple" = none):FnOk P w K mg base (CX1 P w) 2 f fd ["thing"] (spD (tb w K C) jbT) :=
 have hT:(tb w K C).K=K:=rfl
 jI F sc_zaw fun ay A outer s H E hr=>(jf (jt (uQ (jj (XY hT) rfl ag jH (ja (qv 0) (ja (jaS rfl aT jbP) jd))) (uQ (jcs (jhm hT hr.units) (jj (JJ hT) rfl au vM (ja (qv 0) jd)) jm (jS _)) (JS (jj (jeI rfl) rfl aN jaj (ja (xj (osc:=(jc jaA)) (own:=["part"]) (fr:=[]) (js:=[]) uM rfl rfl (by exact⟨rfl,by decide +kernel,by decide +kernel,by decide +kernel,by decide +kernel,by decide +kernel⟩) rfl (qi_tup hT (qv 0)) (fun _ _ _=>(jJ (i:=0) (show Nodup (["part"]:List Str)from by decide +kernel) rfl (Or.inl rfl))) (fun _ _ _=>uC) (fun _ _ _=>(jh bO (hr.mono (by decide)) rfl jx (ja (qv 0) jd) jg))) jd)))))))
theorem ok_zax (F:Fun K "show" "Book.show" jdC f fd)(aj:jn K (C 10) "said")(ah:jn K (C 10) "seen")(dO:CalD P w K mg base (tb w K C) "is_saying" 2 ["thing"] [] 1 0 [.p 0] [] jbT)(aJ:MetD P w K mg base (tb w K C) 10 "check_is_house" 5 ["self","house"] [] 2 0 [.p 0,.p 1] [] vS)(NR:Yp K=true)(af:Cls K (C 10)):FnOk P w K mg base (CX1 P w) 6 f fd ["self","house","row"] (spD (tb w K C) Va) :=
 have hT:(tb w K C).K=K:=rfl
 jI F jgv fun ay A outer s H E hr=>(je (jL (yV aJ (hr.mono (by decide)) jB (qv 0) (ja (qv 1) jd) jg))
   (je (xy (QW.qt (jdU (ua (vZ hT (jh dO (hr.mono (by decide)) rfl jB (ja (qv 2) jd) jg))) (Ut (jaN hT (hu1 hr) (qv 2) (jX hT af aj (qv 0)) (by with_unfolding_all rfl))))) (jf xn) jG)
   (je (jD (i:=3) jgv.nd rfl (Or.inl rfl) (xR (uZ hT) (jX hT af ah (qv 0)) (qv 1) (fun _ _=>rfl)))
   (jf (Vy NR (hu1 hr) jgN (qv 3) (qv 2))))))
theorem ok_zai (F:Fun K "pass_on" "Book.pass_on" jaE f fd)(ah:jn K (C 10) "seen")(aJ:MetD P w K mg base (tb w K C) 10 "check_is_house" 5 ["self","house"] [] 2 0 [.p 0,.p 1] [] vS)(au:mg "len" = none)(NR:Yp K=true)(af:Cls K (C 10)):FnOk P w K mg base (CX1 P w) 6 f fd ["self","house","other"] (spD (tb w K C) YC) :=
 have hT:(tb w K C).K=K:=rfl
 XR (jeu F Uq fun ay A outer s H E hr=>(je (jL (yV aJ (hr.mono (by decide)) jx (qv 0) (ja (qv 1) jd) jg))
   (je (jL (yV aJ (hr.mono (by decide)) jx (qv 0) (ja (qv 2) jd) jg))
   (je (jD (i:=3) Uq.nd rfl (Or.inr rfl) (xR (uZ hT) (jX hT af ah (qv 0)) (qv 2) (fun _ _=>rfl)))
   (je (jco (osc:=(jc jaE)) (xr:="row") (xs':="seen") (j:=3) (i:=4) (hu1 hr) rfl rfl (by exact⟨rfl,by decide +kernel,by decide +kernel,by decide +kernel,by decide +kernel,by decide +kernel⟩) rfl Uq.nd rfl rfl (xR (uZ hT) (jX hT af ah (qv 0)) (qv 1) (fun _ _=>rfl)) (fun _ _ _=>(jJ (i:=0) (show Nodup (["row","seen"]:List Str)from by decide +kernel) rfl (Or.inl rfl))) (fun _ _ _=>(Xq rfl (by first | exact Or.inl rfl | exact Or.inr (Or.inl rfl) | exact Or.inr (Or.inr rfl)))) (fun _ _ _=>(Xq rfl (by first | exact Or.inl rfl | exact Or.inr (Or.inl rfl) | exact Or.inr (Or.inr rfl)))) (fun _ _ _=>(Xq rfl (by first | exact Or.inl rfl | exact Or.inr (Or.inl rfl) | exact Or.inr (Or.inr rfl)))) (by with_unfolding_all rfl) rfl)
   (je (uc 200 PassesOwn.never rfl (yC (qv 4)) (yx (i:=5) Uq.nd rfl (Or.inl rfl)) (jf (Vy NR (hu1 hr) jgN (qv 3) (qv 5))))
   (jf (jt (jj (JJ hT) rfl au vM (ja (qv 4) jd))))))))))
theorem ok_zal (F:Fun K "honest" "Book.honest" jaC f fd)(ai:jn K (C 10) "liars")(ah:jn K (C 10) "seen")(au:mg "len" = none)(aw:mg "range" = none)(af:Cls K (C 10)):FnOk P w K mg base (CX1 P w) 1 f fd ["self"] (spD (tb w K C) jbY) :=
 have hT:(tb w K C).K=K:=rfl
 jI F sc_zal fun ay A outer s H E hr=>(jf (jt (xj (osc:=(jc jaC)) (own:=["house"]) (fr:=["self"]) (js:=[0]) uM rfl rfl (by exact⟨rfl,by decide +kernel,by decide +kernel,by decide +kernel,by decide +kernel,by decide +kernel⟩) rfl (uD rfl aw (ja (jj (JJ hT) rfl au vM (ja (jX hT af ah (qv 0)) jd)) jd)) (fun _ _ _=>(jJ (i:=0) (show Nodup (["house","self"]:List Str)from by decide +kernel) rfl (Or.inl rfl))) (fun _ _ _=>(Jn (jU (Jq hT (XG hr)) (qv 0) (jX hT af ai (qv 1)) (by with_unfolding_all rfl)))) (fun _ _ _=>(qv 0)))))
theorem ok_zan (F:Fun K "known" "Book.known" jdK f fd)(ah:jn K (C 10) "seen")(aJ:MetD P w K mg base (tb w K C) 10 "check_is_house" 5 ["self","house"] [] 2 0 [.p 0,.p 1] [] vS)(av:mg "sorted" = none)(af:Cls K (C 10)):FnOk P w K mg base (CX1 P w) 6 f fd ["self","house"] (spD (tb w K C) jbX) :=
 have hT:(tb w K C).K=K:=rfl
 jI F sc_zan fun ay A outer s H E hr=>(je (jL (yV aJ (hr.mono (by decide)) jB (qv 0) (ja (qv 1) jd) jg))
   (jf (jt (jj (jfT rfl) rfl av uH (ja (xR (uZ hT) (jX hT af ah (qv 0)) (qv 1) (fun _ _=>rfl)) jd)))))
theorem ok_zbb (F:Fun K "pairs_of" "pairs_of" jaz f fd)(aR:mg "enumerate" = none):FnOk P w K mg base (CX1 P w) 1 f fd ["rows"] (spD (tb w K C) XZ) :=
 have hT:(tb w K C).K=K:=rfl
 jI F sc_zbb fun ay A outer s H E hr=>(jf (jt (jaR (osc:=(jc jaz)) (own:=["at","row","other"]) (fr:=["rows"]) (js:=[0]) (jdq (by decide)) rfl rfl (by exact⟨rfl,by decide +kernel,by decide +kernel,by decide +kernel,by decide +kernel,by decide +kernel⟩) rfl (qi_enum rfl aR (ja (qv 0) jd)) (fun _ _ _=>(jgH hT rfl (Jo (yx (i:=0) (show Nodup (["at","row","other","rows"]:List Str)from by decide +kernel) rfl (Or.inl rfl)) (Jo (yx (i:=1) (show Nodup (["at","row","other","rows"]:List Str)from by decide +kernel) rfl (Or.inl rfl)) jdX)))) (fun _ _ _=>(jgW rfl rfl rfl (fun _=>rfl))) (fun _ _ _=>(Xl rfl rfl rfl (UA rfl) (yC (ud hT (qv 3) (Jl (jw (VC hT) (qv 0) jm)) Jm)) (yx (i:=2) (show Nodup (["at","row","other","rows"]:List Str)from by decide +kernel) rfl (Or.inl rfl)) (Jf (by decide)) (by decide) (jaP rfl rfl (jgI (ja (qv 1) (ja (qv 2) jd)))))))))
theorem ok_zaj (F:Fun K "clashes" "Book.clashes" jaD f fd)(dJ:CalD P w K mg base (tb w K C) "pairs_of" 1 ["rows"] [] 1 0 [.p 0] [] XZ)(dX:MetD P w K mg base (tb w K C) 10 "known" 6 ["self","house"] [] 2 0 [.p 0,.p 1] [] jbX)(NR:Yp K=true):FnOk P w K mg base (CX1 P w) 7 f fd ["self","house"] (spD (tb w K C) jca) :=
 have hT:(tb w K C).K=K:=rfl
 XR (jeu F jcm fun ay A outer s H E hr=>(je (jD (i:=2) jcm.nd rfl (Or.inl rfl) Uv)
   (je (uc 200 PassesOwn.never rfl (yC (yV dX (hr.mono (by decide)) jx (qv 0) (ja (qv 1) jd) jg)) (yx (i:=3) jcm.nd rfl (Or.inl rfl)) (jf (jL (jdY PySem.F.slot_list_append PySem.F.type_list_append Jt (jcq NR (hu1 hr) (qv 2) (ud hT (qv 3) Jm (Jl jm)) (xC jd) ⟨rfl,rfl,rfl,rfl⟩) (ja (qv 3) jd)))))
   (jf (jt (jaR (osc:=(jc jaD)) (own:=["group","pair"]) (fr:=[]) (js:=[]) (Jf (by decide)) rfl rfl (by exact⟨rfl,by decide +kernel,by decide +kernel,by decide +kernel,by decide +kernel,by decide +kernel⟩) rfl (jgG (qv 2)) (fun _ _ _=>(yx (i:=0) (show Nodup (["group","pair"]:List Str)from by decide +kernel) rfl (Or.inl rfl))) (fun _ _ _=>(jgW rfl rfl rfl (fun _=>rfl))) (fun _ _ _=>(Xl rfl rfl rfl (UA rfl) (yC (jh dJ (hr.mono (by decide)) rfl jx (ja (qv 0) jd) jg)) (yx (i:=1) (show Nodup (["group","pair"]:List Str)from by decide +kernel) rfl (Or.inl rfl)) (Jf (by decide)) (by decide) (jaP rfl rfl (qv 1))))))))))
theorem ok_zad (F:Fun K "convicted" "Book.convicted" jaG f fd)(d5:MetD P w K mg base (tb w K C) 10 "clashes" 7 ["self","house"] [] 2 0 [.p 0,.p 1] [] jca)(av:mg "sorted" = none):FnOk P w K mg base (CX1 P w) 8 f fd ["self","house"] (spD (tb w K C) JO) :=
 have hT:(tb w K C).K=K:=rfl
 jI F sc_zad fun ay A outer s H E hr=>(jf (jt (jaQ (osc:=(jc jaG)) (own:=["row","other"]) (fr:=[]) (js:=[]) (jdq (by decide)) rfl rfl (by exact⟨rfl,by decide +kernel,by decide +kernel,by decide +kernel,by decide +kernel,by decide +kernel⟩) rfl rfl av uH (yC (yV d5 (hr.mono (by decide)) jB (qv 0) (ja (qv 1) jd) jg)) (fun _ _ _=>(jgH hT rfl (Jo (yx (i:=0) (show Nodup (["row","other"]:List Str)from by decide +kernel) rfl (Or.inl rfl)) (Jo (yx (i:=1) (show Nodup (["row","other"]:List Str)from by decide +kernel) rfl (Or.inl rfl)) jdX)))) (fun _ _ _=>(UA rfl)) (fun _ _ _=>(jaO rfl rfl (xR (uZ hT) (qv 0) jm (fun _ _=>rfl)))))))
theorem ok_zaf (F:Fun K "all_convicted" "all_convicted" jaF f fd)(bR:MetD P w K mg base (tb w K C) 10 "convicted" 8 ["self","house"] [] 2 0 [.p 0,.p 1] [] JO)(dZ:MetD P w K mg base (tb w K C) 10 "honest" 1 ["self"] [] 1 0 [.p 0] [] jbY)(ag:mg "isinstance" = none)(av:mg "sorted" = none)(b3:mg "Book" = some (.ref (C 10))):FnOk P w K mg base (CX1 P w) 9 f fd ["book"] (spD (tb w K C) Vc) :=
 have hT:(tb w K C).K=K:=rfl
 jI F sc_zaf fun ay A outer s H E hr=>(je (xy (ua (vZ hT (jj (b_isO hT) rfl ag jH (ja (qv 0) (ja (q_gcls (k:=10) rfl b3) jd))))) (jf xn) jG)
   (jf (jt (jaQ (osc:=(jc jaF)) (own:=["house","liar"]) (fr:=["book"]) (js:=[0]) (Jf (by decide)) rfl rfl (by exact⟨rfl,by decide +kernel,by decide +kernel,by decide +kernel,by decide +kernel,by decide +kernel⟩) rfl rfl av uH (yC (qe_mth0 dZ (hr.mono (by decide)) jB (qv 0) jg)) (fun _ _ _=>(yx (i:=0) (show Nodup (["house","liar","book"]:List Str)from by decide +kernel) rfl (Or.inl rfl))) (fun _ _ _=>(jgW rfl rfl rfl (fun _=>rfl))) (fun _ _ _=>(jcp rfl rfl rfl (UA rfl) (yC (yV bR (hr.mono (by decide)) jx (qv 2) (ja (qv 0) jd) jg)) (yx (i:=1) (show Nodup (["house","liar","book"]:List Str)from by decide +kernel) rfl (Or.inl rfl)) (Jf (by decide)) (by decide) (jaO rfl rfl (qv 1))))))))
theorem ok_zao (F:Fun K "_law_whole" "_law_whole" jdJ f fd)(bp:mg "bool" = none)(bS:mg "int" = none)(ag:mg "isinstance" = none):FnOk P w K mg base (CX1 P w) 1 f fd ["_law_thing"] (spD (tb w K C) Uf) :=
 have hT:(tb w K C).K=K:=rfl
 jI F sc_zao fun ay A outer s H E hr=>(jf (jt (uQ (jj (XY hT) rfl ag jH (ja (qv 0) (ja (jaS rfl bS jiy) jd))) (JS (jgK (jj (XY hT) rfl ag jH (ja (qv 0) (ja (jaS rfl bp jeG) jd))))))))
theorem ok_zac (F:Fun K "_law_whole_list" "_law_whole_list" jaH f fd)(dW:CalD P w K mg base (tb w K C) "_law_whole" 1 ["_law_thing"] [] 1 0 [.p 0] [] Uf)(aN:mg "all" = none)(ag:mg "isinstance" = none)(aC:mg "list" = none):FnOk P w K mg base (CX1 P w) 2 f fd ["_law_thing"] (spD (tb w K C) jcb) :=
 have hT:(tb w K C).K=K:=rfl
 jI F sc_zac fun ay A outer s H E hr=>(jf (jt (uQ (jj (XY hT) rfl ag jH (ja (qv 0) (ja (jaS rfl aC YS) jd))) (JS (jj (jeI rfl) rfl aN jaj (ja (xj (osc:=(jc jaH)) (own:=["_law_one"]) (fr:=[]) (js:=[]) uM rfl rfl (by exact⟨rfl,by decide +kernel,by decide +kernel,by decide +kernel,by decide +kernel,by decide +kernel⟩) rfl (yC (qv 0)) (fun _ _ _=>(jJ (i:=0) (show Nodup (["_law_one"]:List Str)from by decide +kernel) rfl (Or.inl rfl))) (fun _ _ _=>uC) (fun _ _ _=>(jh dW (hr.mono (by decide)) rfl jx (ja (qv 0) jd) jg))) jd))))))
theorem ok_law (F:Fun K "law" "law" vP f fd)(aI:CalD P w K mg base (tb w K C) "_law_draw" 1 ["_law_town_here","_law_many"] [] 2 0 [.p 0,.p 1] [] xX)(dY:CalD P w K mg base (tb w K C) "_law_liars" 2 ["_law_town_here","_law_crew","_law_most"] [] 3 0 [.p 0,.p 1,.p 2] [] Ug)(bP:CalD P w K mg base (tb w K C) "_law_pick" 2 ["_law_town_here","_law_some"] [] 2 0 [.p 0,.p 1] [] vA)(dU:CalD P w K mg base (tb w K C) "_law_town" 1 ["_law_script"] [] 1 0 [.p 0] [] jbW)(d9:CalD P w K mg base (tb w K C) "_law_whole_list" 2 ["_law_thing"] [] 1 0 [.p 0] [] jcb)(cy:CalD P w K mg base (tb w K C) "all_convicted" 9 ["book"] [] 1 0 [.p 0] [] Vc)(bR:MetD P w K mg base (tb w K C) 10 "convicted" 8 ["self","house"] [] 2 0 [.p 0,.p 1] [] JO)(cQ:MetD P w K mg base (tb w K C) 10 "pass_on" 6 ["self","house","other"] [] 3 0 [.p 0,.p 1,.p 2] [] YC)(dM:MetD P w K mg base (tb w K C) 10 "say" 6 ["self","house","place","number"] [] 4 0 [.p 0,.p 1,.p 2,.p 3] [] Ue)(dN:MetD P w K mg base (tb w K C) 10 "show" 6 ["self","house","row"] [] 3 0 [.p 0,.p 1,.p 2] [] Va)(aG:NewD P w K mg base (tb w K C) 10 "Book" 5 ["self","houses","liars"] ["liars"] 2 1 [.p 0,.p 1,.k 0] [] Uh)(au:mg "len" = none)(aw:mg "range" = none)(ez:mg "set" = none)(av:mg "sorted" = none):FnOk P w K mg base CX0 10 f fd ["_law_script"] (jgo (tb w K C) (yu 1 16 jbC)) :=
 have hT:(tb w K C).K=K:=rfl
 jeu F yB fun ay A outer s H E hr=>(je (jD (i:=1) yB.nd rfl (Or.inl rfl) (jh dU (hr.mono (by decide)) rfl jx (ja (qv 0) jd) jg))
   (je (jD (i:=2) yB.nd rfl (Or.inl rfl) (jw (VC hT) jm (jh aI (hr.mono (by decide)) rfl jx (ja (qv 1) (ja jm jd)) jg)))
   (je (jD (i:=3) yB.nd rfl (Or.inr rfl) (jh dY (hr.mono (by decide)) rfl jx (ja (qv 1) (ja (qv 2) (ja (jw (o_sub) (qv 2) jm) jd))) jg))
   (je (qs_comp (i:=4) (osc:=(jc vP)) (own:=["_law_house"]) (fr:=["_law_foes"]) (js:=[3]) uM rfl rfl (by exact⟨rfl,by decide +kernel,by decide +kernel,by decide +kernel,by decide +kernel,by decide +kernel⟩) rfl yB.nd rfl rfl (uD rfl aw (ja (qv 2) jd)) (fun _ _ _=>(jJ (i:=0) (show Nodup (["_law_house","_law_foes"]:List Str)from by decide +kernel) rfl (Or.inl rfl))) (fun _ _ _=>(Jn (jU (Jq hT (XG hr)) (qv 0) (qv 1) (by with_unfolding_all rfl)))) (fun _ _ _=>(qv 0)) rfl)
   (je (jD (i:=5) yB.nd rfl (Or.inr rfl) (qe_new aG (hr.mono (by decide)) rfl jx (ja (qv 2) jd) (qk_cons (qv 3) jg)))
   (je (jD (i:=6) yB.nd rfl (Or.inl rfl) (xC jd))
   (je (uc 200 PassesOwn.never rfl (uD rfl aw (ja jm jd)) (yx (i:=7) yB.nd rfl (Or.inl rfl)) (je (jD (i:=8) yB.nd rfl (Or.inl rfl) (jh aI (hr.mono (by decide)) rfl jx (ja (qv 1) (ja (qv 2) jd)) jg))
   (je (jD (i:=9) yB.nd rfl (Or.inl rfl) (jh aI (hr.mono (by decide)) rfl jx (ja (qv 1) (ja jm jd)) jg))
   (je (jD (i:=10) yB.nd rfl (Or.inl rfl) (qe_if (jU (o_in hT (XG hr)) (qv 8) (qv 3) (by with_unfolding_all rfl)) (jh bP (hr.mono (by decide)) rfl jx (ja (qv 1) (ja (jcr (ja jm (ja jm (ja jm jd)))) jd)) jg) (jw (VC hT) (jw (jeg) jm (qv 8)) (qv 9))))
   (je (jD (i:=11) yB.nd rfl (Or.inl rfl) (yV dM (hr.mono (by decide)) jx (qv 5) (ja (qv 8) (ja (qv 9) (ja (qv 10) jd))) jg))
   (je (jD (i:=12) yB.nd rfl (Or.inl rfl) (jh bP (hr.mono (by decide)) rfl jx (ja (qv 1) (ja (qv 4) jd)) jg))
   (je (xy (jU (o_gt) (jh aI (hr.mono (by decide)) rfl jx (ja (qv 1) (ja jm jd)) jg) jm (jS _)) (je (jL (yV dN (hr.mono (by decide)) jx (qv 5) (ja (qv 12) (ja (qv 11) jd)) jg))
   (jf (jL (jdY PySem.F.slot_list_append PySem.F.type_list_append Jt (qv 6) (ja (qv 11) jd))))) jG)
   (je (xy (jU (jhm hT hr.units) (jh aI (hr.mono (by decide)) rfl jx (ja (qv 1) (ja jm jd)) jg) jm (jS _)) (jf (jL (yV cQ (hr.mono (by decide)) jx (qv 5) (ja (jh bP (hr.mono (by decide)) rfl jx (ja (qv 1) (ja (qv 4) jd)) jg) (ja (jh bP (hr.mono (by decide)) rfl jx (ja (qv 1) (ja (qv 4) jd)) jg) jd)) jg))) jG)
   (jf (xy (jU (jfl hT hr.units) (xj (osc:=(jc vP)) (own:=["_law_one"]) (fr:=["_law_foes"]) (js:=[3]) uM rfl rfl (by exact⟨rfl,by decide +kernel,by decide +kernel,by decide +kernel,by decide +kernel,by decide +kernel⟩) rfl (yC (jh cy (hr.mono (by decide)) rfl jx (ja (qv 5) jd) jg)) (fun _ _ _=>(jJ (i:=0) (show Nodup (["_law_one","_law_foes"]:List Str)from by decide +kernel) rfl (Or.inl rfl))) (fun _ _ _=>(Jn (jU (Jq hT (XG hr)) (qv 0) (qv 1) (by with_unfolding_all rfl)))) (fun _ _ _=>(qv 0))) (xC jd) (jS _)) (jf (jt jgN)) jG))))))))))
   (je (uc 200 PassesOwn.never rfl (uD rfl aw (ja jm jd)) (yx (i:=7) yB.nd rfl (Or.inl rfl)) (jf (uc 200 PassesOwn.never rfl (yC (qv 4)) (yx (i:=8) yB.nd rfl (Or.inl rfl)) (jf (uc 200 PassesOwn.never rfl (yC (qv 4)) (yx (i:=13) yB.nd rfl (Or.inl rfl)) (jf (jL (yV cQ (hr.mono (by decide)) jx (qv 5) (ja (qv 8) (ja (qv 13) jd)) jg))))))))
   (je (jD (i:=14) yB.nd rfl (Or.inl rfl) (xC jd))
   (je (uc 200 PassesOwn.never rfl (yC (qv 6)) (yx (i:=15) yB.nd rfl (Or.inr rfl)) (jf (xy (jU (jfl hT hr.units) (xj (osc:=(jc vP)) (own:=["_law_two"]) (fr:=["_law_one"]) (js:=[15]) uM rfl rfl (by exact⟨rfl,by decide +kernel,by decide +kernel,by decide +kernel,by decide +kernel,by decide +kernel⟩) rfl (yC (qv 6)) (fun _ _ _=>(jJ (i:=0) (show Nodup (["_law_two","_law_one"]:List Str)from by decide +kernel) rfl (Or.inl rfl))) (fun _ _ _=>(Jn (QW.qt (jgE (jU (jhm hT hr.units) (ud hT (qv 1) Jm (Jl jm)) (ud hT (qv 0) Jm (Jl jm)) (jS _)) (jdV (jU (jfl hT hr.units) (xR (uZ hT) (qv 1) jm (fun _ _=>rfl)) (xR (uZ hT) (qv 0) jm (fun _ _=>rfl)) (jS _))))))) (fun _ _ _=>(qv 0))) (xC jd) (jS _)) (jf (jL (jdY PySem.F.slot_list_append PySem.F.type_list_append Jt (qv 14) (ja (xR (uZ hT) (qv 15) jm (fun _ _=>rfl)) jd)))) jG)))
   (je (jD (i:=14) yB.nd rfl (Or.inl rfl) (jgJ hT rfl rfl av uH rfl ez rfl (qv 14)))
   (je (xy (QW.qt (jdU (jU (jfl hT hr.units) (xj (osc:=(jc vP)) (own:=["_law_house"]) (fr:=["_law_book"]) (js:=[5]) uM rfl rfl (by exact⟨rfl,by decide +kernel,by decide +kernel,by decide +kernel,by decide +kernel,by decide +kernel⟩) rfl (yC (qv 4)) (fun _ _ _=>(jJ (i:=0) (show Nodup (["_law_house","_law_book"]:List Str)from by decide +kernel) rfl (Or.inl rfl))) (fun _ _ _=>uC) (fun _ _ _=>(yV bR (hr.mono (by decide)) jx (qv 1) (ja (qv 0) jd) jg))) (jw (jeg) (jcr (ja (qv 14) jd)) (jj (JJ hT) rfl au vM (ja (qv 4) jd))) (jS _)) (Ut (jU (jfl hT hr.units) (jh cy (hr.mono (by decide)) rfl jx (ja (qv 5) jd) jg) (qv 14) (jS _))))) (jf (jt jgN)) jG)
   (jf (jt (uQ (jh d9 (hr.mono (by decide)) rfl jx (ja (jh cy (hr.mono (by decide)) rfl jx (ja (qv 5) jd) jg) jd) jg) (JS (jcs (jhm hT hr.units) (xj (osc:=(jc vP)) (own:=["_law_one"]) (fr:=["_law_foes"]) (js:=[3]) uM rfl rfl (by exact⟨rfl,by decide +kernel,by decide +kernel,by decide +kernel,by decide +kernel,by decide +kernel⟩) rfl (yC (qv 14)) (fun _ _ _=>(jJ (i:=0) (show Nodup (["_law_one","_law_foes"]:List Str)from by decide +kernel) rfl (Or.inl rfl))) (fun _ _ _=>(Jn (jU (Jq hT (XG hr)) (qv 0) (qv 1) (by with_unfolding_all rfl)))) (fun _ _ _=>(qv 0))) (xC jd) (jS _))))))))))))))))))
end
theorem ln0 {α:Type}:∀{us:List α},us.length=0->us=[]
 | [],_=>rfl
theorem ln1 {α:Type}{us:List α}(h:us.length=1):∃ u0,us=[u0]:=by
 cases us with
 | nil=>cases h
 | cons x0 us=>exact⟨x0,by rw[ln0 (Nat.succ.inj h)]⟩
theorem ln2 {α:Type}{us:List α}(h:us.length=2):∃ u0 u1,us=[u0,u1]:=by
 cases us with
 | nil=>cases h
 | cons x0 us=>obtain⟨v0,e⟩:=ln1 (Nat.succ.inj h);exact⟨x0,v0,by rw[e]⟩
theorem ln3 {α:Type}{us:List α}(h:us.length=3):∃ u0 u1 u2,us=[u0,u1,u2]:=by
 cases us with
 | nil=>cases h
 | cons x0 us=>obtain⟨v0,v1,e⟩:=ln2 (Nat.succ.inj h);exact⟨x0,v0,v1,by rw[e]⟩
theorem ln4 {α:Type}{us:List α}(h:us.length=4):∃ u0 u1 u2 u3,us=[u0,u1,u2,u3]:=by
 cases us with
 | nil=>cases h
 | cons x0 us=>obtain⟨v0,v1,v2,e⟩:=ln3 (Nat.succ.inj h);exact⟨x0,v0,v1,v2,by rw[e]⟩
def S0:Sto:=⟨0,fun _=>none⟩
def Ul (K:Frag):Sp:=fun vs H Q _=>∃(a:Addr) (ns:List Int),vs=[.ref a]∧SqL K H a (ns.map V.int)∧ns.length<=63∧∀ H',Q (.bl true) H'
theorem law_sp {P:Program}{w:World}{K:Frag}{mg:Str->Option Value}{base:Heap}{C:Nat->Addr}{f:Addr}{fd:FuncData}(h:FnOk P w K mg base CX0 10 f fd ["_law_script"] (jgo (tb w K C) (yu 1 16 jbC))):FnOk P w K mg base CX0 10 f fd ["_law_script"] (Ul K):=h.imp fun vs H Q E ⟨a,ns,e,hq,hl,q⟩=>by
 subst e;obtain⟨M',e⟩:=law_true ns hl;exact⟨⟨tb w K C,H,fun _=>none,fun _=>none⟩,[.scr ns],S0,.bl true,M',rfl,⟨fun _ _ e=>e,(fun _ _ e=>nomatch e),(fun _ _ _ _ _ e=>nomatch e),fun _ _=>rfl,(fun _ _ e=>nomatch e),(fun _ _ e=>nomatch e)⟩,⟨.ref a,[],rfl,⟨a,rfl,hq,hl⟩,rfl⟩,e,fun W' H' u _ _ r=>by cases r;exact q H'⟩
def FO (K:Frag)(nm ql:Str)(st:Stmt)(f:Addr)(fd:FuncData):Prop:=∃ oc od sl kV dc pm an cd ct,fd=fnOf nm ql (jl st) (ji st) (jc st) .none kV dc pm an cd ct∧K.lookup f=some ⟨oc,od,.func fd,sl⟩∧codeIn K cd ql=true∧keepIn K (.ref f)=true
def FA (K:Frag)(nm:Str)(st:Stmt)(f:Addr)(fd:FuncData):Prop:=nsIn K mainGlobals nm=some (some (.ref f))∧FO K nm nm st f fd
def FM (K:Frag)(c:Addr)(nm ql:Str)(st:Stmt)(f:Addr)(fd:FuncData):Prop:=findIn K (.ref c) nm=some (some (.ref f))∧isFn K (.ref f)=true∧FO K nm ql st f fd
theorem FA.of {K:Frag}{nm:Str}{st:Stmt}{f:Addr}{od an:Option Addr}{sl:Array (Option Value)}{oc kV dc pm cd ct:Value}(a:nsIn K mainGlobals nm=some (some (.ref f)))(l:K.lookup f=some ⟨oc,od,.func (fnOf nm nm (jl st) (ji st) (jc st) .none kV dc pm an cd ct),sl⟩)(c:codeIn K cd nm=true)(k:keepIn K (.ref f)=true):FA K nm st f (fnOf nm nm (jl st) (ji st) (jc st) .none kV dc pm an cd ct):=⟨a,_,_,_,_,_,_,_,_,_,rfl,l,c,k⟩
theorem FM.of {K:Frag}{x:Addr}{nm ql:Str}{st:Stmt}{f:Addr}{od an:Option Addr}{sl:Array (Option Value)}{oc kV dc pm cd ct:Value}(a:findIn K (.ref x) nm=some (some (.ref f)))(i:isFn K (.ref f)=true)(l:K.lookup f=some ⟨oc,od,.func (fnOf nm ql (jl st) (ji st) (jc st) .none kV dc pm an cd ct),sl⟩)(c:codeIn K cd ql=true)(k:keepIn K (.ref f)=true):FM K x nm ql st f (fnOf nm ql (jl st) (ji st) (jc st) .none kV dc pm an cd ct):=⟨a,i,_,_,_,_,_,_,_,_,_,rfl,l,c,k⟩
theorem all_mk {l:PySem.W.OpenLaw}{w:World}{K:Frag}{h:Heap}{mg:Str->Option Value}{fa:Addr}(X:K.In h)(G:h.Ns mainGlobals mg)(hfa:mg "law" = some (.ref fa))
  {ak:Addr}
  {f_zap:Addr}{g_zap:FuncData}
  {f_zaq:Addr}{g_zaq:FuncData}
  {f_zam:Addr}{g_zam:FuncData}
  {f_zay:Addr}{g_zay:FuncData}
  {f_zar:Addr}{g_zar:FuncData}
  {f_zag:Addr}{g_zag:FuncData}
  {f_zah:Addr}{g_zah:FuncData}
  {f_zaz:Addr}{g_zaz:FuncData}
  {f_zas:Addr}{g_zas:FuncData}
  {f_zab:Addr}{g_zab:FuncData}
  {cv:Addr}{od_zae an_zae:Option Addr}{sl_zae:Array (Option Value)}{oc_zae  dc_zae pm_zae cd_zae ct_zae:Value}
  {kd_zae:Addr}
  {tu_zae_liars:Addr}{tq_zae_liars:Option Addr}{tn_zae_liars:Nat}{ts_zae_liars:Array (Option Value)}
  {f_zat:Addr}{g_zat:FuncData}
  {f_zak:Addr}{g_zak:FuncData}
  {f_zaa:Addr}{g_zaa:FuncData}
  {f_zau:Addr}{g_zau:FuncData}
  {f_zav:Addr}{g_zav:FuncData}
  {f_zba:Addr}{g_zba:FuncData}
  {f_zaw:Addr}{g_zaw:FuncData}
  {f_zax:Addr}{g_zax:FuncData}
  {f_zai:Addr}{g_zai:FuncData}
  {f_zal:Addr}{g_zal:FuncData}
  {f_zan:Addr}{g_zan:FuncData}
  {f_zbb:Addr}{g_zbb:FuncData}
  {f_zaj:Addr}{g_zaj:FuncData}
  {f_zad:Addr}{g_zad:FuncData}
  {f_zaf:Addr}{g_zaf:FuncData}
  {f_zao:Addr}{g_zao:FuncData}
  {f_zac:Addr}{g_zac:FuncData}
  {f_law:Addr}{g_law:FuncData}
  {aV:Tok}
  {aK:Tok}
  {aE:Tok}
  (a_Book:nsIn K mainGlobals "Book" = some (some (.ref ak)))
  (o_Book_pg:plainGet K ak Str.empty=true)
  (o_Book_hd:hasDictIn K ak=true)
  (o_Book_po:plainOver K ak=true)
  (o_Book_sa:findIn K (.ref ak) "__setattr__" = some (some (.builtin "object.__setattr__")))
  (o_Book_mk:makesIn K ak=true)
  (o_Book_kp:keepIn K (.ref ak)=true)
  (o_Book_n_bound:findIn K (.ref ak) "bound" = some none)
  (o_Book_n_liars:findIn K (.ref ak) "liars" = some none)
  (o_Book_n_said:findIn K (.ref ak) "said" = some none)
  (o_Book_n_seen:findIn K (.ref ak) "seen" = some none)
  (h_zap:FA K "_law_town" jdI f_zap g_zap)
  (h_zaq:FA K "_law_draw" jdH f_zaq g_zaq)
  (h_zam:FA K "_law_liars" jdL f_zam g_zam)
  (h_zay:FA K "is_whole" jdB f_zay g_zay)
  (h_zar:FA K "is_within" jdG f_zar g_zar)
  (h_zag:FA K "check_within" jdO f_zag g_zag)
  (h_zah:FA K "check_houses" jdN f_zah g_zah)
  (h_zaz:FA K "is_house" jdA f_zaz g_zaz)
  (h_zas:FA K "is_rising" jaB f_zas g_zas)
  (h_zab:FA K "check_some_houses" jaI f_zab g_zab)
  (a_zae:findIn K (.ref ak) "__init__" = some (some (.ref cv)))
  (i_zae:isFn K (.ref cv)=true)
  (l_zae:K.lookup cv=some ⟨oc_zae,od_zae,.func (fnOf "__init__" "Book.__init__" (jl Xc) (ji Xc) (jc Xc) .none (.ref kd_zae) dc_zae pm_zae an_zae cd_zae ct_zae),sl_zae⟩)
  (c_zae:codeIn K cd_zae "Book.__init__" = true)
  (k_zae:keepIn K (.ref cv)=true)
  (kd_zae_liars:nsIn K kd_zae "liars" = some (some (.ref tu_zae_liars)))
  (tu_zae_liars_o:K.lookup tu_zae_liars=some ⟨.type "tuple",tq_zae_liars,.seq #[] tn_zae_liars,ts_zae_liars⟩)
  (h_zat:FA K "_law_pick" jdF f_zat g_zat)
  (h_zak:FA K "check_house" jdM f_zak g_zak)
  (h_zaa:FM K ak "check_is_house" "Book.check_is_house" jdP f_zaa g_zaa)
  (h_zau:FA K "is_number" jdE f_zau g_zau)
  (h_zav:FM K ak "bind" "Book.bind" jdD f_zav g_zav)
  (h_zba:FM K ak "say" "Book.say" jdz f_zba g_zba)
  (h_zaw:FA K "is_saying" jaA f_zaw g_zaw)
  (h_zax:FM K ak "show" "Book.show" jdC f_zax g_zax)
  (h_zai:FM K ak "pass_on" "Book.pass_on" jaE f_zai g_zai)
  (h_zal:FM K ak "honest" "Book.honest" jaC f_zal g_zal)
  (h_zan:FM K ak "known" "Book.known" jdK f_zan g_zan)
  (h_zbb:FA K "pairs_of" jaz f_zbb g_zbb)
  (h_zaj:FM K ak "clashes" "Book.clashes" jaD f_zaj g_zaj)
  (h_zad:FM K ak "convicted" "Book.convicted" jaG f_zad g_zad)
  (h_zaf:FA K "all_convicted" jaF f_zaf g_zaf)
  (h_zao:FA K "_law_whole" jdJ f_zao g_zao)
  (h_zac:FA K "_law_whole_list" jaH f_zac g_zac)
  (h_law:FA K "law" vP f_law g_law)
  (n_FARTHEST:nsIn K mainGlobals "FARTHEST" = some (some (.int 1000000 aV)))
  (n_LAST_PLACE:nsIn K mainGlobals "LAST_PLACE" = some (some (.int 99 aK)))
  (n_MOST_HOUSES:nsIn K mainGlobals "MOST_HOUSES" = some (some (.int 16 aE)))
  (ei_norow:Yp K=true)
  (z_all:nsIn K mainGlobals "all" = some none)
  (z_bool:nsIn K mainGlobals "bool" = some none)
  (z_enumerate:nsIn K mainGlobals "enumerate" = some none)
  (z_int:nsIn K mainGlobals "int" = some none)
  (z_isinstance:nsIn K mainGlobals "isinstance" = some none)
  (z_len:nsIn K mainGlobals "len" = some none)
  (z_list:nsIn K mainGlobals "list" = some none)
  (z_range:nsIn K mainGlobals "range" = some none)
  (z_set:nsIn K mainGlobals "set" = some none)
  (z_sorted:nsIn K mainGlobals "sorted" = some none)
  (z_tuple:nsIn K mainGlobals "tuple" = some none)
  (z_zip:nsIn K mainGlobals "zip" = some none) :
  ∃ fd:FuncData,(∀(s:Shared) (v:Value),BindsTo s fd ⟨[v],[]⟩ [("_law_script",v)])∧∀ base:Heap,K.In base->base.Ns mainGlobals mg->FnOk l.prog w K mg base CX0 10 fa fd ["_law_script"] (Ul K):=by
 obtain⟨a_zap,_,_,_,_,_,_,_,_,_,rfl,l_zap,c_zap,k_zap⟩:=h_zap;obtain⟨a_zaq,_,_,_,_,_,_,_,_,_,rfl,l_zaq,c_zaq,k_zaq⟩:=h_zaq;obtain⟨a_zam,_,_,_,_,_,_,_,_,_,rfl,l_zam,c_zam,k_zam⟩:=h_zam;obtain⟨a_zay,_,_,_,_,_,_,_,_,_,rfl,l_zay,c_zay,k_zay⟩:=h_zay;obtain⟨a_zar,_,_,_,_,_,_,_,_,_,rfl,l_zar,c_zar,k_zar⟩:=h_zar;obtain⟨a_zag,_,_,_,_,_,_,_,_,_,rfl,l_zag,c_zag,k_zag⟩:=h_zag;obtain⟨a_zah,_,_,_,_,_,_,_,_,_,rfl,l_zah,c_zah,k_zah⟩:=h_zah;obtain⟨a_zaz,_,_,_,_,_,_,_,_,_,rfl,l_zaz,c_zaz,k_zaz⟩:=h_zaz;obtain⟨a_zas,_,_,_,_,_,_,_,_,_,rfl,l_zas,c_zas,k_zas⟩:=h_zas;obtain⟨a_zab,_,_,_,_,_,_,_,_,_,rfl,l_zab,c_zab,k_zab⟩:=h_zab;obtain⟨a_zat,_,_,_,_,_,_,_,_,_,rfl,l_zat,c_zat,k_zat⟩:=h_zat;obtain⟨a_zak,_,_,_,_,_,_,_,_,_,rfl,l_zak,c_zak,k_zak⟩:=h_zak;obtain⟨a_zaa,i_zaa,_,_,_,_,_,_,_,_,_,rfl,l_zaa,c_zaa,k_zaa⟩:=h_zaa;obtain⟨a_zau,_,_,_,_,_,_,_,_,_,rfl,l_zau,c_zau,k_zau⟩:=h_zau;obtain⟨a_zav,i_zav,_,_,_,_,_,_,_,_,_,rfl,l_zav,c_zav,k_zav⟩:=h_zav
 obtain⟨a_zba,i_zba,_,_,_,_,_,_,_,_,_,rfl,l_zba,c_zba,k_zba⟩:=h_zba;obtain⟨a_zaw,_,_,_,_,_,_,_,_,_,rfl,l_zaw,c_zaw,k_zaw⟩:=h_zaw;obtain⟨a_zax,i_zax,_,_,_,_,_,_,_,_,_,rfl,l_zax,c_zax,k_zax⟩:=h_zax;obtain⟨a_zai,i_zai,_,_,_,_,_,_,_,_,_,rfl,l_zai,c_zai,k_zai⟩:=h_zai;obtain⟨a_zal,i_zal,_,_,_,_,_,_,_,_,_,rfl,l_zal,c_zal,k_zal⟩:=h_zal;obtain⟨a_zan,i_zan,_,_,_,_,_,_,_,_,_,rfl,l_zan,c_zan,k_zan⟩:=h_zan;obtain⟨a_zbb,_,_,_,_,_,_,_,_,_,rfl,l_zbb,c_zbb,k_zbb⟩:=h_zbb;obtain⟨a_zaj,i_zaj,_,_,_,_,_,_,_,_,_,rfl,l_zaj,c_zaj,k_zaj⟩:=h_zaj;obtain⟨a_zad,i_zad,_,_,_,_,_,_,_,_,_,rfl,l_zad,c_zad,k_zad⟩:=h_zad;obtain⟨a_zaf,_,_,_,_,_,_,_,_,_,rfl,l_zaf,c_zaf,k_zaf⟩:=h_zaf;obtain⟨a_zao,_,_,_,_,_,_,_,_,_,rfl,l_zao,c_zao,k_zao⟩:=h_zao;obtain⟨a_zac,_,_,_,_,_,_,_,_,_,rfl,l_zac,c_zac,k_zac⟩:=h_zac;obtain⟨a_law,_,_,_,kVl,dcl,pml,anl,cdl,ctl,rfl,l_law,c_law,k_law⟩:=h_law;have e:=hfa.symm.trans (mg_of X G a_law)
 cases e
 let C:Nat->Addr:=fun k=>([0,0,0,0,0,0,0,0,0,0,ak]:List Addr).getD k 0
 have aN:=mg_none_of X G z_all;have bp:=mg_none_of X G z_bool;have aR:=mg_none_of X G z_enumerate;have bS:=mg_none_of X G z_int;have ag:=mg_none_of X G z_isinstance;have au:=mg_none_of X G z_len;have aC:=mg_none_of X G z_list;have aw:=mg_none_of X G z_range;have ez:=mg_none_of X G z_set;have av:=mg_none_of X G z_sorted;have aT:=mg_none_of X G z_tuple;have er:=mg_none_of X G z_zip;have aM:=mg_of X G n_FARTHEST;have aL:=mg_of X G n_LAST_PLACE;have aH:=mg_of X G n_MOST_HOUSES;have b3:mg "Book" = some (.ref (C 10)):=mg_of X G a_Book
 have af:Cls K (C 10):=⟨o_Book_pg,o_Book_hd,o_Book_po,o_Book_sa⟩
 have ao:jn K (C 10) "bound":=o_Book_n_bound;have ai:jn K (C 10) "liars":=o_Book_n_liars;have aj:jn K (C 10) "said":=o_Book_n_said;have ah:jn K (C 10) "seen":=o_Book_n_seen;have NR:Yp K=true:=ei_norow;have F_zap:=jq (st:=jdI) l_zap c_zap k_zap;have F_zaq:=jq (st:=jdH) l_zaq c_zaq k_zaq;have F_zam:=jq (st:=jdL) l_zam c_zam k_zam;have F_zay:=jq (st:=jdB) l_zay c_zay k_zay;have F_zar:=jq (st:=jdG) l_zar c_zar k_zar;have F_zag:=jq (st:=jdO) l_zag c_zag k_zag;have F_zah:=jq (st:=jdN) l_zah c_zah k_zah;have F_zaz:=jq (st:=jdA) l_zaz c_zaz k_zaz;have F_zas:=jq (st:=jaB) l_zas c_zas k_zas;have F_zab:=jq (st:=jaI) l_zab c_zab k_zab;have F_zae:=jq (st:=Xc) l_zae c_zae k_zae;have F_zat:=jq (st:=jdF) l_zat c_zat k_zat;have F_zak:=jq (st:=jdM) l_zak c_zak k_zak;have F_zaa:=jq (st:=jdP) l_zaa c_zaa k_zaa;have F_zau:=jq (st:=jdE) l_zau c_zau k_zau
 have F_zav:=jq (st:=jdD) l_zav c_zav k_zav;have F_zba:=jq (st:=jdz) l_zba c_zba k_zba;have F_zaw:=jq (st:=jaA) l_zaw c_zaw k_zaw;have F_zax:=jq (st:=jdC) l_zax c_zax k_zax;have F_zai:=jq (st:=jaE) l_zai c_zai k_zai;have F_zal:=jq (st:=jaC) l_zal c_zal k_zal;have F_zan:=jq (st:=jdK) l_zan c_zan k_zan;have F_zbb:=jq (st:=jaz) l_zbb c_zbb k_zbb;have F_zaj:=jq (st:=jaD) l_zaj c_zaj k_zaj;have F_zad:=jq (st:=jaG) l_zad c_zad k_zad;have F_zaf:=jq (st:=jaF) l_zaf c_zaf k_zaf;have F_zao:=jq (st:=jdJ) l_zao c_zao k_zao;have F_zac:=jq (st:=jaH) l_zac c_zac k_zac;have F_law:=jq (st:=vP) l_law c_law k_law;refine⟨fnOf "law" "law" (jl vP) (ji vP) (jc vP) .none kVl dcl pml anl cdl ctl,fun s v=>.of_eq rfl,fun base _ _=>?_⟩;have ok_zap_:=ok_zap (P:=l.prog) (w:=w) (mg:=mg) (base:=base) (C:=C) F_zap aC
 have dU:CalD l.prog w K mg base (tb w K C) "_law_town" 1 ["_law_script"] [] 1 0 [.p 0] [] jbW:=⟨f_zap,_,[],[],ok_zap_,mg_of X G a_zap,k_zap,jE (dV:=[]) (ds:=[]) .nil (fun s us ws KX h1 h2=>by obtain⟨u0,rfl⟩:=ln1 h1;obtain rfl:=ln0 h2;exact .of_eq rfl),fun W hW=>rfl⟩
 have ok_zaq_:=ok_zaq (P:=l.prog) (w:=w) (mg:=mg) (base:=base) (C:=C) F_zaq au
 have aI:CalD l.prog w K mg base (tb w K C) "_law_draw" 1 ["_law_town_here","_law_many"] [] 2 0 [.p 0,.p 1] [] xX:=⟨f_zaq,_,[],[],ok_zaq_,mg_of X G a_zaq,k_zaq,jE (dV:=[]) (ds:=[]) .nil (fun s us ws KX h1 h2=>by obtain⟨u0,u1,rfl⟩:=ln2 h1;obtain rfl:=ln0 h2;exact .of_eq rfl),fun W hW=>rfl⟩
 have ok_zam_:=ok_zam (P:=l.prog) (w:=w) (mg:=mg) (base:=base) (C:=C) F_zam aI au aw
 have dY:CalD l.prog w K mg base (tb w K C) "_law_liars" 2 ["_law_town_here","_law_crew","_law_most"] [] 3 0 [.p 0,.p 1,.p 2] [] Ug:=⟨f_zam,_,[],[],ok_zam_,mg_of X G a_zam,k_zam,jE (dV:=[]) (ds:=[]) .nil (fun s us ws KX h1 h2=>by obtain⟨u0,u1,u2,rfl⟩:=ln3 h1;obtain rfl:=ln0 h2;exact .of_eq rfl),fun W hW=>rfl⟩
 have ok_zay_:=ok_zay (P:=l.prog) (w:=w) (mg:=mg) (base:=base) (C:=C) F_zay bp bS ag
 have bO:CalD l.prog w K mg base (tb w K C) "is_whole" 1 ["thing"] [] 1 0 [.p 0] [] YB:=⟨f_zay,_,[],[],ok_zay_,mg_of X G a_zay,k_zay,jE (dV:=[]) (ds:=[]) .nil (fun s us ws KX h1 h2=>by obtain⟨u0,rfl⟩:=ln1 h1;obtain rfl:=ln0 h2;exact .of_eq rfl),fun W hW=>rfl⟩
 have ok_zar_:=ok_zar (P:=l.prog) (w:=w) (mg:=mg) (base:=base) (C:=C) F_zar bO
 have ba:CalD l.prog w K mg base (tb w K C) "is_within" 2 ["thing","least","most"] [] 3 0 [.p 0,.p 1,.p 2] [] uO:=⟨f_zar,_,[],[],ok_zar_,mg_of X G a_zar,k_zar,jE (dV:=[]) (ds:=[]) .nil (fun s us ws KX h1 h2=>by obtain⟨u0,u1,u2,rfl⟩:=ln3 h1;obtain rfl:=ln0 h2;exact .of_eq rfl),fun W hW=>rfl⟩
 have ok_zag_:=ok_zag (P:=l.prog) (w:=w) (mg:=mg) (base:=base) (C:=C) F_zag ba
 have bQ:CalD l.prog w K mg base (tb w K C) "check_within" 3 ["thing","least","most"] [] 3 0 [.p 0,.p 1,.p 2] [] JN:=⟨f_zag,_,[],[],ok_zag_,mg_of X G a_zag,k_zag,jE (dV:=[]) (ds:=[]) .nil (fun s us ws KX h1 h2=>by obtain⟨u0,u1,u2,rfl⟩:=ln3 h1;obtain rfl:=ln0 h2;exact .of_eq rfl),fun W hW=>rfl⟩
 have ok_zah_:=ok_zah (P:=l.prog) (w:=w) (mg:=mg) (base:=base) (C:=C) F_zah aH bQ
 have d7:CalD l.prog w K mg base (tb w K C) "check_houses" 4 ["houses"] [] 1 0 [.p 0] [] jeO:=⟨f_zah,_,[],[],ok_zah_,mg_of X G a_zah,k_zah,jE (dV:=[]) (ds:=[]) .nil (fun s us ws KX h1 h2=>by obtain⟨u0,rfl⟩:=ln1 h1;obtain rfl:=ln0 h2;exact .of_eq rfl),fun W hW=>rfl⟩
 have ok_zaz_:=ok_zaz (P:=l.prog) (w:=w) (mg:=mg) (base:=base) (C:=C) F_zaz ba
 have bN:CalD l.prog w K mg base (tb w K C) "is_house" 3 ["thing","houses"] [] 2 0 [.p 0,.p 1] [] YA:=⟨f_zaz,_,[],[],ok_zaz_,mg_of X G a_zaz,k_zaz,jE (dV:=[]) (ds:=[]) .nil (fun s us ws KX h1 h2=>by obtain⟨u0,u1,rfl⟩:=ln2 h1;obtain rfl:=ln0 h2;exact .of_eq rfl),fun W hW=>rfl⟩
 have ok_zas_:=ok_zas (P:=l.prog) (w:=w) (mg:=mg) (base:=base) (C:=C) F_zas aN er
 have dS:CalD l.prog w K mg base (tb w K C) "is_rising" 1 ["numbers"] [] 1 0 [.p 0] [] jbV:=⟨f_zas,_,[],[],ok_zas_,mg_of X G a_zas,k_zas,jE (dV:=[]) (ds:=[]) .nil (fun s us ws KX h1 h2=>by obtain⟨u0,rfl⟩:=ln1 h1;obtain rfl:=ln0 h2;exact .of_eq rfl),fun W hW=>rfl⟩
 have ok_zab_:=ok_zab (P:=l.prog) (w:=w) (mg:=mg) (base:=base) (C:=C) F_zab bN dS aN ag au aC aT
 have eh:CalD l.prog w K mg base (tb w K C) "check_some_houses" 4 ["some","houses","most"] [] 3 0 [.p 0,.p 1,.p 2] [] Vd:=⟨f_zab,_,[],[],ok_zab_,mg_of X G a_zab,k_zab,jE (dV:=[]) (ds:=[]) .nil (fun s us ws KX h1 h2=>by obtain⟨u0,u1,u2,rfl⟩:=ln3 h1;obtain rfl:=ln0 h2;exact .of_eq rfl),fun W hW=>rfl⟩
 have ok_zae_:=ok_zae (P:=l.prog) (w:=w) (mg:=mg) (base:=base) (C:=C) F_zae ao ai aj ah d7 eh aC aw af
 have aG:NewD l.prog w K mg base (tb w K C) 10 "Book" 5 ["self","houses","liars"] ["liars"] 2 1 [.p 0,.p 1,.k 0] [] Uh:=⟨cv,_,[],[],ok_zae_,⟨o_Book_mk,a_zae,i_zae,o_Book_kp⟩,b3,jE (dV:=[]) (ds:=[]) .nil (fun s us ws KX h1 h2=>by obtain⟨u0,u1,rfl⟩:=ln2 h1;obtain⟨w0,rfl⟩:=ln1 h2;exact .of_eq rfl),fun W hW=>rfl⟩
 have ok_zat_:=ok_zat (P:=l.prog) (w:=w) (mg:=mg) (base:=base) (C:=C) F_zat aI au
 have bP:CalD l.prog w K mg base (tb w K C) "_law_pick" 2 ["_law_town_here","_law_some"] [] 2 0 [.p 0,.p 1] [] vA:=⟨f_zat,_,[],[],ok_zat_,mg_of X G a_zat,k_zat,jE (dV:=[]) (ds:=[]) .nil (fun s us ws KX h1 h2=>by obtain⟨u0,u1,rfl⟩:=ln2 h1;obtain rfl:=ln0 h2;exact .of_eq rfl),fun W hW=>rfl⟩
 have ok_zak_:=ok_zak (P:=l.prog) (w:=w) (mg:=mg) (base:=base) (C:=C) F_zak bN
 have d4:CalD l.prog w K mg base (tb w K C) "check_house" 4 ["house","houses"] [] 2 0 [.p 0,.p 1] [] jbZ:=⟨f_zak,_,[],[],ok_zak_,mg_of X G a_zak,k_zak,jE (dV:=[]) (ds:=[]) .nil (fun s us ws KX h1 h2=>by obtain⟨u0,u1,rfl⟩:=ln2 h1;obtain rfl:=ln0 h2;exact .of_eq rfl),fun W hW=>rfl⟩
 have ok_zaa_:=ok_zaa (P:=l.prog) (w:=w) (mg:=mg) (base:=base) (C:=C) F_zaa ah d4 au af
 have aJ:MetD l.prog w K mg base (tb w K C) 10 "check_is_house" 5 ["self","house"] [] 2 0 [.p 0,.p 1] [] vS:=⟨f_zaa,_,[],[],ok_zaa_,⟨a_zaa,i_zaa,k_zaa⟩,af,jE (dV:=[]) (ds:=[]) .nil (fun s us ws KX h1 h2=>by obtain⟨u0,u1,rfl⟩:=ln2 h1;obtain rfl:=ln0 h2;exact .of_eq rfl),fun W hW=>rfl⟩
 have ok_zau_:=ok_zau (P:=l.prog) (w:=w) (mg:=mg) (base:=base) (C:=C) F_zau aM ba
 have dR:CalD l.prog w K mg base (tb w K C) "is_number" 3 ["thing"] [] 1 0 [.p 0] [] Vb:=⟨f_zau,_,[],[],ok_zau_,mg_of X G a_zau,k_zau,jE (dV:=[]) (ds:=[]) .nil (fun s us ws KX h1 h2=>by obtain⟨u0,rfl⟩:=ln1 h1;obtain rfl:=ln0 h2;exact .of_eq rfl),fun W hW=>rfl⟩
 have ok_zav_:=ok_zav (P:=l.prog) (w:=w) (mg:=mg) (base:=base) (C:=C) F_zav ao af
 have dQ:MetD l.prog w K mg base (tb w K C) 10 "bind" 1 ["self","house","place","number"] [] 4 0 [.p 0,.p 1,.p 2,.p 3] [] jbU:=⟨f_zav,_,[],[],ok_zav_,⟨a_zav,i_zav,k_zav⟩,af,jE (dV:=[]) (ds:=[]) .nil (fun s us ws KX h1 h2=>by obtain⟨u0,u1,u2,u3,rfl⟩:=ln4 h1;obtain rfl:=ln0 h2;exact .of_eq rfl),fun W hW=>rfl⟩
 have ok_zba_:=ok_zba (P:=l.prog) (w:=w) (mg:=mg) (base:=base) (C:=C) F_zba aL ai aj bQ dR dQ aJ af
 have dM:MetD l.prog w K mg base (tb w K C) 10 "say" 6 ["self","house","place","number"] [] 4 0 [.p 0,.p 1,.p 2,.p 3] [] Ue:=⟨f_zba,_,[],[],ok_zba_,⟨a_zba,i_zba,k_zba⟩,af,jE (dV:=[]) (ds:=[]) .nil (fun s us ws KX h1 h2=>by obtain⟨u0,u1,u2,u3,rfl⟩:=ln4 h1;obtain rfl:=ln0 h2;exact .of_eq rfl),fun W hW=>rfl⟩
 have ok_zaw_:=ok_zaw (P:=l.prog) (w:=w) (mg:=mg) (base:=base) (C:=C) F_zaw bO aN ag au aT
 have dO:CalD l.prog w K mg base (tb w K C) "is_saying" 2 ["thing"] [] 1 0 [.p 0] [] jbT:=⟨f_zaw,_,[],[],ok_zaw_,mg_of X G a_zaw,k_zaw,jE (dV:=[]) (ds:=[]) .nil (fun s us ws KX h1 h2=>by obtain⟨u0,rfl⟩:=ln1 h1;obtain rfl:=ln0 h2;exact .of_eq rfl),fun W hW=>rfl⟩
 have ok_zax_:=ok_zax (P:=l.prog) (w:=w) (mg:=mg) (base:=base) (C:=C) F_zax aj ah dO aJ NR af
 have dN:MetD l.prog w K mg base (tb w K C) 10 "show" 6 ["self","house","row"] [] 3 0 [.p 0,.p 1,.p 2] [] Va:=⟨f_zax,_,[],[],ok_zax_,⟨a_zax,i_zax,k_zax⟩,af,jE (dV:=[]) (ds:=[]) .nil (fun s us ws KX h1 h2=>by obtain⟨u0,u1,u2,rfl⟩:=ln3 h1;obtain rfl:=ln0 h2;exact .of_eq rfl),fun W hW=>rfl⟩
 have ok_zai_:=ok_zai (P:=l.prog) (w:=w) (mg:=mg) (base:=base) (C:=C) F_zai ah aJ au NR af
 have cQ:MetD l.prog w K mg base (tb w K C) 10 "pass_on" 6 ["self","house","other"] [] 3 0 [.p 0,.p 1,.p 2] [] YC:=⟨f_zai,_,[],[],ok_zai_,⟨a_zai,i_zai,k_zai⟩,af,jE (dV:=[]) (ds:=[]) .nil (fun s us ws KX h1 h2=>by obtain⟨u0,u1,u2,rfl⟩:=ln3 h1;obtain rfl:=ln0 h2;exact .of_eq rfl),fun W hW=>rfl⟩
 have ok_zal_:=ok_zal (P:=l.prog) (w:=w) (mg:=mg) (base:=base) (C:=C) F_zal ai ah au aw af
 have dZ:MetD l.prog w K mg base (tb w K C) 10 "honest" 1 ["self"] [] 1 0 [.p 0] [] jbY:=⟨f_zal,_,[],[],ok_zal_,⟨a_zal,i_zal,k_zal⟩,af,jE (dV:=[]) (ds:=[]) .nil (fun s us ws KX h1 h2=>by obtain⟨u0,rfl⟩:=ln1 h1;obtain rfl:=ln0 h2;exact .of_eq rfl),fun W hW=>rfl⟩
 have ok_zan_:=ok_zan (P:=l.prog) (w:=w) (mg:=mg) (base:=base) (C:=C) F_zan ah aJ av af
 have dX:MetD l.prog w K mg base (tb w K C) 10 "known" 6 ["self","house"] [] 2 0 [.p 0,.p 1] [] jbX:=⟨f_zan,_,[],[],ok_zan_,⟨a_zan,i_zan,k_zan⟩,af,jE (dV:=[]) (ds:=[]) .nil (fun s us ws KX h1 h2=>by obtain⟨u0,u1,rfl⟩:=ln2 h1;obtain rfl:=ln0 h2;exact .of_eq rfl),fun W hW=>rfl⟩
 have ok_zbb_:=ok_zbb (P:=l.prog) (w:=w) (mg:=mg) (base:=base) (C:=C) F_zbb aR
 have dJ:CalD l.prog w K mg base (tb w K C) "pairs_of" 1 ["rows"] [] 1 0 [.p 0] [] XZ:=⟨f_zbb,_,[],[],ok_zbb_,mg_of X G a_zbb,k_zbb,jE (dV:=[]) (ds:=[]) .nil (fun s us ws KX h1 h2=>by obtain⟨u0,rfl⟩:=ln1 h1;obtain rfl:=ln0 h2;exact .of_eq rfl),fun W hW=>rfl⟩
 have ok_zaj_:=ok_zaj (P:=l.prog) (w:=w) (mg:=mg) (base:=base) (C:=C) F_zaj dJ dX NR
 have d5:MetD l.prog w K mg base (tb w K C) 10 "clashes" 7 ["self","house"] [] 2 0 [.p 0,.p 1] [] jca:=⟨f_zaj,_,[],[],ok_zaj_,⟨a_zaj,i_zaj,k_zaj⟩,af,jE (dV:=[]) (ds:=[]) .nil (fun s us ws KX h1 h2=>by obtain⟨u0,u1,rfl⟩:=ln2 h1;obtain rfl:=ln0 h2;exact .of_eq rfl),fun W hW=>rfl⟩
 have ok_zad_:=ok_zad (P:=l.prog) (w:=w) (mg:=mg) (base:=base) (C:=C) F_zad d5 av
 have bR:MetD l.prog w K mg base (tb w K C) 10 "convicted" 8 ["self","house"] [] 2 0 [.p 0,.p 1] [] JO:=⟨f_zad,_,[],[],ok_zad_,⟨a_zad,i_zad,k_zad⟩,af,jE (dV:=[]) (ds:=[]) .nil (fun s us ws KX h1 h2=>by obtain⟨u0,u1,rfl⟩:=ln2 h1;obtain rfl:=ln0 h2;exact .of_eq rfl),fun W hW=>rfl⟩
 have ok_zaf_:=ok_zaf (P:=l.prog) (w:=w) (mg:=mg) (base:=base) (C:=C) F_zaf bR dZ ag av b3
 have cy:CalD l.prog w K mg base (tb w K C) "all_convicted" 9 ["book"] [] 1 0 [.p 0] [] Vc:=⟨f_zaf,_,[],[],ok_zaf_,mg_of X G a_zaf,k_zaf,jE (dV:=[]) (ds:=[]) .nil (fun s us ws KX h1 h2=>by obtain⟨u0,rfl⟩:=ln1 h1;obtain rfl:=ln0 h2;exact .of_eq rfl),fun W hW=>rfl⟩
 have ok_zao_:=ok_zao (P:=l.prog) (w:=w) (mg:=mg) (base:=base) (C:=C) F_zao bp bS ag
 have dW:CalD l.prog w K mg base (tb w K C) "_law_whole" 1 ["_law_thing"] [] 1 0 [.p 0] [] Uf:=⟨f_zao,_,[],[],ok_zao_,mg_of X G a_zao,k_zao,jE (dV:=[]) (ds:=[]) .nil (fun s us ws KX h1 h2=>by obtain⟨u0,rfl⟩:=ln1 h1;obtain rfl:=ln0 h2;exact .of_eq rfl),fun W hW=>rfl⟩
 have ok_zac_:=ok_zac (P:=l.prog) (w:=w) (mg:=mg) (base:=base) (C:=C) F_zac dW aN ag aC
 have d9:CalD l.prog w K mg base (tb w K C) "_law_whole_list" 2 ["_law_thing"] [] 1 0 [.p 0] [] jcb:=⟨f_zac,_,[],[],ok_zac_,mg_of X G a_zac,k_zac,jE (dV:=[]) (ds:=[]) .nil (fun s us ws KX h1 h2=>by obtain⟨u0,rfl⟩:=ln1 h1;obtain rfl:=ln0 h2;exact .of_eq rfl),fun W hW=>rfl⟩
 exact law_sp (C:=C) (ok_law F_law aI dY bP dU d9 cy bR cQ dM dN aG au aw ez av)
theorem walk {l:PySem.W.OpenLaw}{q:Program}{loose:List Str}{XP:(Str->Option Value)->Heap->Prop}{YP:World->Heap->Prop}{d:DefRec}{K:Params->Frag}(hn:l.most=some 63)(gU:d.params.defaults=[])
  (hY:∀(w:World) (h:Heap),YP w h->(K w.params).In h)
  (F:∀(w:World) (mg:Str->Option Value) (fa:Addr) (h:Heap),(K w.params).In h->h.Ns mainGlobals mg->mg d.name=some (.ref fa) ->
   ∃ fd:FuncData,(∀(s:Shared) (u:Value),BindsTo s fd ⟨[u],[]⟩ [("_law_script",u)])∧∀ base:Heap,(K w.params).In base->base.Ns mainGlobals mg->FnOk l.prog w (K w.params) mg base CX0 10 fa fd ["_law_script"] (Ul (K w.params))) :
  PySem.W.WalkO q loose XP YP l.row.toRowW d [] (fun f vs=>PySem.call f vs) :=
 L2.walk_of (n:=63) (k:=10) (x:="_law_script") (CX:=fun _=>CX0) (sp:=fun w=>Ul (K w.params)) hn (by decide) gU ⟨rfl,by decide,by decide⟩ hY F (fun _ _ a ns hl _ hS=>⟨a,ns,rfl,hS,hl,fun _=>rfl⟩) fun _ _ _ _ _ z=>z
theorem walk_x {q:Program}{loose:List Str}{XP:(Str->Option Value)->Heap->Prop}{K:Params->Frag}{as:List Addr}{n t:Nat}{r:PySem.W.RowW}{d:DefRec}{kwd:List (Str×Expr)}{run:Value->List Value->Sem Value}(e:∀ P:Params,as=(K P).map fun p=>p.1)
  (h:PySem.W.WalkO q loose XP (fun w h=>(K w.params).In h) r d kwd run):PySem.W.WalkX q loose XP (PySem.W.X.obsZ as) (PySem.W.X.valZ K n t) r d kwd run :=
 fun w s₀ s₁ mg mb G y a o pm cd bM dV kV ho hd hc hD hm hg args c9 ka L cS eM hrd gH hlo=>h w s₀ s₁ mg mb G (fun a o q=>L.keeps a o ((PySem.W.X.z_facts e y).2.1 a o q)) a o pm cd bM dV kV ho hd hc hD hm hg args c9 ka cS eM hrd gH hlo
end My
open PySem PySem.W PyProof.Rows
set_option maxRecDepth 100000 in
set_option maxHeartbeats 0 in
theorem PySem.Challenge.cw_liarclocks_k28_whole_only_liars_holds : PySem.Challenge.rw_liarclocks_k28_whole_only_liars.Holds := by
 w_on;o_law;refine PySem.W.holds_openX (q := MH.wr.view_552) (loose := [PySem.Str.ofString "Book"]) (Xt := fun s => PySem.W.xlAt MH.wr.view_552 [] s && PySem.W.recOk (PySem.W.RowW.records (PySem.W.OpenRow.toRowW (PySem.W.OpenLaw.row PySem.Challenge.rw_liarclocks_k28_whole_only_liars))) s) (XP := XL MH.wr.view_552 []) (Yf := PySem.W.X.obsZ MH.as0) (Ya := PySem.W.X.valZ MH.wr.heap_271 290 552) MH.le_ok (fun s e => PySem.W.xl_of s (Bool.and_eq_true_iff.mp e).1) PySem.W.XL.keeps (by rfl) (by rfl) (by rfl) (fun s e => PySem.W.recFacts_of (Bool.and_eq_true_iff.mp e).2) (by rfl) (by first | assumption | decide +kernel) (by decide +kernel) ⟨rfl, rfl, rfl, rfl, rfl, by decide +kernel⟩ ?hw ?hc;(case hw => w_witness2)
 k_fill
 refine My.walk_x MH.as_eq (My.walk (l := PySem.Challenge.rw_liarclocks_k28_whole_only_liars) rfl rfl (fun w h Y => Y) ?F)
 case F =>
  intro w mg fa h KX G hmg
  refine' My.all_mk KX G hmg ?_ ?_ ?_ ?_ ?_ ?_ ?_ ?_ ?_ ?_ ?_ ?_ ?_ ?_ ?_ ?_ ?_ ?_ ?_ ?_ ?_ ?_ ?_ ?_ ?_ ?_ ?_ ?_ ?_ ?_ ?_ ?_ ?_ ?_ ?_ ?_ ?_ ?_ ?_ ?_ ?_ ?_ ?_ ?_ ?_ ?_ ?_ ?_ ?_ ?ei_norow ?_ ?_ ?_ ?_ ?_ ?_ ?_ ?_ ?_ ?_ ?_ ?_
  (case ei_norow => kernel_rfl)
  all_goals first | (refine' My.FA.of ?a ?l ?c ?k;(case a => k_is);(case l => k_is);(case c => k_is);(case k => k_is)) | (refine' My.FM.of ?a ?i ?l ?c ?k;(case a => k_is);(case i => k_is);(case l => k_is);(case c => k_is);(case k => k_is)) | k_is | skip