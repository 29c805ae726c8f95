import PyProof.Rows.All
import Wide.All
import OpenK.AllK
import Wide.FinOn
import Lean
import PyProof.EqAt
import PyProof.EqKinds
import PyProof.TupleCall
import PySem.Challenge.RW_liarclocks_k38_points_refused
set_option bootstrap.genMatcherCode false
noncomputable section
set_option Elab.async false
set_option linter.all false
set_option maxRecDepth 100000
namespace Mth
def srt (ns : List Int) : List Int := ns.mergeSort (fun a b => decide (a ≤ b))
theorem srt_perm (ns : List Int) : (srt ns).Perm ns := List.mergeSort_perm _ _
theorem srt_sorted (ns : List Int) : (srt ns).Pairwise (· ≤ ·) := by
  have h := List.pairwise_mergeSort (le := fun a b : Int => decide (a ≤ b)) (by intro a b c h1 h2; simp only [decide_eq_true_eq] at *; omega) (by intro a b; simp only [Bool.or_eq_true, decide_eq_true_eq]; omega) ns
  exact h.imp (by intro a b h; simpa using h)
theorem eq_of_sorted : ∀ {xs ys : List Int}, xs.Perm ys → xs.Pairwise (· ≤ ·) → ys.Pairwise (· ≤ ·) → xs = ys
  | [], ys, h, _, _ => (List.nil_perm.mp h).symm
  | x :: xs, [], h, _, _ => absurd h.length_eq (by simp)
  | x :: xs, y :: ys, h, hx, hy => by
    rw [List.pairwise_cons] at hx hy
    have h1 : x ∈ y :: ys := h.subset (List.mem_cons_self)
    have h2 : y ∈ x :: xs := h.symm.subset (List.mem_cons_self)
    have e : x = y := by
      rcases List.mem_cons.mp h1 with z | z
      · exact z
      · rcases List.mem_cons.mp h2 with z2 | z2
        · exact z2.symm
        · have a := hx.1 _ z2
          have b := hy.1 _ z
          omega
    subst e
    rw [eq_of_sorted (List.Perm.cons_inv h) hx.2 hy.2]
theorem eq_srt {ms ns : List Int} (h : ms.Perm ns) (s : ms.Pairwise (· ≤ ·)) : ms = srt ns := eq_of_sorted (h.trans (srt_perm ns).symm) s (srt_sorted ns)
theorem srt_length (ns : List Int) : (srt ns).length = ns.length := (srt_perm ns).length_eq
theorem mem_srt {a : Int} {ns : List Int} : a ∈ srt ns ↔ a ∈ ns := (srt_perm ns).mem_iff
def cut (ns : List Int) (k : Nat) : List Int := ((srt ns).drop k).take (ns.length - 2 * k)
theorem cut_length {ns : List Int} {k : Nat} : (cut ns k).length = ns.length - 2 * k := by
  unfold cut
  rw [List.length_take, List.length_drop, srt_length]
  omega
theorem mono_getD {ms : List Int} (s : ms.Pairwise (· ≤ ·)) {i j : Nat} (hij : i ≤ j) (hj : j < ms.length) : ms.getD i 0 ≤ ms.getD j 0 := by
  rw [List.getD_eq_getElem?_getD, List.getD_eq_getElem?_getD, List.getElem?_eq_getElem hj, List.getElem?_eq_getElem (by omega)]
  simp only [Option.getD_some]
  rcases Nat.lt_or_ge i j with h | h
  · exact (List.pairwise_iff_getElem.mp s) i j (by omega) hj h
  · have e : i = j := by omega
    subst e
    exact Int.le_refl _
theorem getD_mem {ms : List Int} {i : Nat} (h : i < ms.length) : ms.getD i 0 ∈ ms := by
  rw [List.getD_eq_getElem?_getD, List.getElem?_eq_getElem h]
  exact List.getElem_mem h
theorem mem_getD {ms : List Int} {a : Int} (h : a ∈ ms) : ∃ i, i < ms.length ∧ ms.getD i 0 = a := by
  obtain ⟨i, hi, e⟩ := List.mem_iff_getElem.mp h
  exact ⟨i, hi, by rw [List.getD_eq_getElem?_getD, List.getElem?_eq_getElem hi]; exact e⟩
theorem least_eq {ns : List Int} {M : Int} (h1 : M ∈ ns) (h2 : ∀ a ∈ ns, M ≤ a) : M = (srt ns).getD 0 0 := by
  have hl : 0 < (srt ns).length := by rw [srt_length]; exact List.length_pos_of_mem h1
  obtain ⟨i, hi, e⟩ := mem_getD (mem_srt.mpr h1)
  have a := h2 _ (mem_srt.mp (getD_mem hl))
  have b := mono_getD (srt_sorted ns) (Nat.zero_le i) hi
  omega
theorem most_eq {ns : List Int} {M : Int} (h1 : M ∈ ns) (h2 : ∀ a ∈ ns, a ≤ M) : M = (srt ns).getD (ns.length - 1) 0 := by
  have hl : ns.length - 1 < (srt ns).length := by rw [srt_length]; have := List.length_pos_of_mem h1; omega
  obtain ⟨i, hi, e⟩ := mem_getD (mem_srt.mpr h1)
  have a := h2 _ (mem_srt.mp (getD_mem hl))
  have b := mono_getD (srt_sorted ns) (show i ≤ ns.length - 1 by rw [srt_length] at hi; omega) hl
  omega
end Mth
namespace Mth
end Mth
namespace L2
open PySem PySem.Spec PyProof.Rows

abbrev Key := Sum Int Str
def keyIs : Key → Value → Bool
  | .inl k, v => Value.isInt k v
  | .inr x, v => Value.isStrOf x v
def keyH (w : World) : Key → Int
  | .inl k => hashInt k
  | .inr x => hashStr w x
theorem keyIs_shape : ∀ {k : Key} {v : Value}, keyIs k v = true → (∃ i t, k = Sum.inl i ∧ v = Value.int i t) ∨ (∃ x t, k = Sum.inr x ∧ v = Value.str x t)
  | .inl i, v, h => by
    obtain ⟨t, e⟩ := Value.isInt_shape (k := i) (v := v) h
    exact .inl ⟨i, t, rfl, e⟩
  | .inr x, v, h => by
    obtain ⟨t, e⟩ := Value.isStrOf_shape (x := x) (v := v) h
    exact .inr ⟨x, t, rfl, e⟩
theorem key_ll (a b : Int) : decide ((Sum.inl a : Key) = Sum.inl b) = (a == b) := by
  by_cases e : a = b
  · subst e; simp
  · have h : ¬ (Sum.inl a : Key) = Sum.inl b := fun q => e (Sum.inl.inj q)
    rw [decide_eq_false h]
    exact (beq_eq_false_iff_ne.mpr e).symm
theorem key_rr (a b : Str) : decide ((Sum.inr a : Key) = Sum.inr b) = decide (a = b) := by
  by_cases e : a = b
  · subst e; simp
  · have h : ¬ (Sum.inr a : Key) = Sum.inr b := fun q => e (Sum.inr.inj q)
    rw [decide_eq_false h, decide_eq_false e]
theorem key_lr (a : Int) (b : Str) : decide ((Sum.inl a : Key) = Sum.inr b) = false := decide_eq_false (fun q => nomatch q)
theorem key_rl (a : Str) (b : Int) : decide ((Sum.inr a : Key) = Sum.inl b) = false := decide_eq_false (fun q => nomatch q)

def mixKind (prog : Program) (w : World) : PySem.KeyKind prog w Key where
  is := keyIs
  hash := keyH w
  inj := fun v a b ha hb => by
    rcases keyIs_shape ha with ⟨i, t, rfl, rfl⟩ | ⟨x, t, rfl, rfl⟩
    · rcases keyIs_shape hb with ⟨j, u, rfl, e⟩ | ⟨y, u, rfl, e⟩
      · injection e with e1 _; rw [e1]
      · exact nomatch e
    · rcases keyIs_shape hb with ⟨j, u, rfl, e⟩ | ⟨y, u, rfl, e⟩
      · exact nomatch e
      · injection e with e1 _; rw [e1]
  byValue := fun k v h => by
    rcases keyIs_shape h with ⟨i, t, rfl, rfl⟩ | ⟨x, t, rfl, rfl⟩ <;> rfl
  pyHash := fun hv h => by
    rcases keyIs_shape hv with ⟨i, t, rfl, rfl⟩ | ⟨x, t, rfl, rfl⟩
    · exact wpAny_pyHash_int h
    · exact wpAny_pyHash_str h
  eqBool := fun hu hv h => by
    rcases keyIs_shape hu with ⟨i, t, rfl, rfl⟩ | ⟨x, t, rfl, rfl⟩
    · rcases keyIs_shape hv with ⟨j, u, rfl, rfl⟩ | ⟨y, u, rfl, rfl⟩
      · rw [key_ll] at h; exact wpAny_eqBool_int h
      · rw [key_lr] at h; exact SeqAt.EqAt.int_str i t y u _ _ _ _ h
    · rcases keyIs_shape hv with ⟨j, u, rfl, rfl⟩ | ⟨y, u, rfl, rfl⟩
      · rw [key_rl] at h; exact SeqAt.EqAt.str_int x t j u _ _ _ _ h
      · rw [key_rr] at h; exact wpAny_eqBool_str h
  «strs» := fun k x t v h => by
    rcases keyIs_shape h with ⟨i, u, rfl, e⟩ | ⟨y, u, rfl, e⟩
    · exact nomatch e
    · injection e with e1 _
      subst e1
      cases v <;> rfl

end L2

namespace L2
open PySem PySem.Spec PyProof.Rows

inductive V where
  | non | bl (b : Bool) | int (i : Int) | str (x : Str) | byt (b : Array UInt8) | flt (b : UInt64) | ref (a : Addr) | ty (n : String)
  deriving DecidableEq

def RelV : V → Value → Prop
  | .non, u => u = Value.none
  | .bl b, u => u = Value.bool b
  | .int i, u => ∃ t, u = Value.int i t
  | .str x, u => ∃ t, u = Value.str x t
  | .byt b, u => ∃ t, u = Value.bytes b t
  | .flt b, u => ∃ t, u = Value.float b t
  | .ref a, u => u = Value.ref a
  | .ty n, u => u = Value.type n

abbrev Vals : List V → List Value → Prop := Paired RelV
theorem Vals.length {xs : List V} {us : List Value} (r : Vals xs us) : xs.length = us.length := Paired.length r
theorem Vals.get : ∀ {xs : List V} {us : List Value} {i : Nat} {x : V}, Vals xs us → xs[i]? = some x → ∃ u, us[i]? = some u ∧ RelV x u
  | _, _, _, _, .nil, e => by simp at e
  | _, _, 0, _, .cons r _, e => by simp at e; subst e; exact ⟨_, rfl, r⟩
  | _, _, i + 1, x, .cons _ t, e => by
    obtain ⟨u, h1, h2⟩ := Vals.get (i := i) (x := x) t (by simpa using e)
    exact ⟨u, by simpa using h1, h2⟩
theorem Vals.set {x : V} {u : Value} (r : RelV x u) : ∀ {xs : List V} {us : List Value} (i : Nat), Vals xs us → Vals (xs.set i x) (us.set i u)
  | _, _, _, .nil => .nil
  | _, _, 0, .cons _ t => .cons r t
  | _, _, i + 1, .cons q t => .cons q (Vals.set r i t)
theorem Vals.append : ∀ {xs ys : List V} {us ws : List Value}, Vals xs us → Vals ys ws → Vals (xs ++ ys) (us ++ ws)
  | _, _, _, _, .nil, s => s
  | _, _, _, _, .cons r t, s => .cons r (Vals.append t s)
theorem Vals.take : ∀ {xs : List V} {us : List Value} (n : Nat), Vals xs us → Vals (xs.take n) (us.take n)
  | _, _, 0, _ => .nil
  | _, _, _ + 1, .nil => .nil
  | _, _, n + 1, .cons r t => .cons r (Vals.take n t)
theorem Vals.drop : ∀ {xs : List V} {us : List Value} (n : Nat), Vals xs us → Vals (xs.drop n) (us.drop n)
  | _, _, 0, r => r
  | _, _, _ + 1, .nil => .nil
  | _, _, n + 1, .cons _ t => Vals.drop n t
def RelO : Option V → Option Value → Prop
  | some v, some u => RelV v u
  | none, none => True
  | _, _ => False
def KV {κ : Type} : List (κ × V) → List (κ × Value) → Prop := Paired fun (p : κ × V) (q : κ × Value) => p.1 = q.1 ∧ RelV p.2 q.2

def kV : Key → V
  | .inl i => .int i
  | .inr x => .str x

inductive HO where
    | lst (xs : List V)
    | tup (xs : List V)
    | dK (kvs : List (Key × V)) | dT (kvs : List (List Key × V))
    | set (S : Int → Bool) (n : Nat)
    | ins (C dx : Addr) (fs : List (Str × V))
    | own (x : Addr)
    | xd (fs : List (Str × V))
    | met (f x : Addr)
    | rng (lo hi : Int)
    | frz (o : Obj) (u : HO)
    | tbl (ps : Array Value)
    | ext (φ : Heap → Prop)

abbrev Hp := Addr → Option HO
def upd (H : Hp) (a : Addr) (o : HO) : Hp := fun b => if b = a then some o else H b
theorem upd_same {H : Hp} {a : Addr} {o : HO} : upd H a o a = some o := by unfold upd; rw [if_pos rfl]
theorem upd_ne {H : Hp} {a b : Addr} {o : HO} (h : b ≠ a) : upd H a o b = H b := by unfold upd; rw [if_neg h]
theorem ne_of_none {H : Hp} {a b : Addr} {o : HO} (h : H a = some o) (h' : H b = none) : a ≠ b := by
  intro e; subst e; rw [h] at h'; cases h'

section
variable (P : Program) (w : World)
def ObjOk (H : Hp) (h : Heap) (a : Addr) : HO → Prop
  | .lst xs => xs.length ≤ sizeLine ∧ ∃ (its : List Value) (n : Nat), Vals xs its ∧ h.get? a = some { cls := .type "list", data := .seq its.toArray n }
  | .tup xs => xs.length ≤ sizeLine ∧ ∃ its : List Value, Vals xs its ∧ IsTup h a its.toArray
  | .dK kvs => kvs.length ≤ sizeLine ∧ (a == sysModules) = false ∧ ∃ vs, KV kvs vs ∧ h.DictOf (mixKind P w) a vs
  | .dT kvs => kvs.length ≤ sizeLine ∧ (a == sysModules) = false ∧ ∃ xs : List (List Key × Addr × Value),
      Paired (fun (p : List Key × V) (q : List Key × Addr × Value) => p.1 = q.1 ∧ H q.2.1 = some (.tup (p.1.map kV)) ∧ RelV p.2 q.2.2) kvs xs ∧
      ∃ o es ep, h.get? a = some o ∧ o.ExactDict ∧ o.data = .dict es ep ∧ es.toList = xs.map (entryOfKey (tupleKind (mixKind P w))) ∧ (xs.map (·.1)).Nodup
  | .set S n => h.SetOf (intKind P w) a S n
  | .ins C dx fs => H dx = some (.own a) ∧ fs.length ≤ 1000 ∧ dx ≠ a ∧ h.get? a = some (PySem.W.instObj C dx) ∧
      ∃ mA, h.Ns1 dx mA ∧ (∀ f, RelO (fs.lookup f) (mA f)) ∧ PySem.Within mA (fs.map (·.1))
  | .own _ => ∃ o, h.get? a = some o
  | .xd fs => ∃ mA, h.Ns1 a mA ∧ ∀ f, RelO (fs.lookup f) (mA f)
  | .rng lo hi => ∃ t u v, h.get? a = some { cls := .type "range", data := .fields #[.int lo t, .int hi u, .int 1 v] }
  | .frz o u => h.get? a = some o ∧ ObjOk H h a u
  | .tbl ps => h.get? a = some { cls := .none, data := .fields ps }
  | .met f x => h.get? a = some (PySem.W.methodObj (.ref f) (.ref x))
  | .ext φ => φ h ∧ (∃ o, h.get? a = some o) ∧ ∀ h1 h2 : Heap, φ h1 → (∀ o, h1.get? a = some o → h2.get? a = some o) → φ h2
def HOk (H : Hp) (h : Heap) : Prop := ∀ a o, H a = some o → ObjOk P w H h a o
end

section
variable {P : Program} {w : World} {H H' : Hp} {h h' : Heap} {a : Addr} {o : HO}
theorem ObjOk.lt (x : ObjOk P w H h a o) : a < h.objs.size := by
  cases o with
  | lst xs => obtain ⟨_, _, _, _, e⟩ := x; exact Heap.lt_size e
  | tup xs => obtain ⟨_, _, _, p⟩ := x; exact p.lt
  | dK kvs => obtain ⟨_, _, _, _, o, _, _, e, _⟩ := x; exact Heap.lt_size e
  | dT kvs => obtain ⟨_, _, _, _, o, _, _, e, _⟩ := x; exact Heap.lt_size e
  | set S n => obtain ⟨o, _, _, _, e, _⟩ := x; exact Heap.lt_size e
  | ins C dx fs => obtain ⟨_, _, _, e, _⟩ := x; exact Heap.lt_size e
  | own y => obtain ⟨_, e⟩ := x; exact Heap.lt_size e
  | xd fs => obtain ⟨_, ⟨_, _, _, e, _⟩, _⟩ := x; exact Heap.lt_size e
  | rng lo hi => obtain ⟨_, _, _, e⟩ := x; exact Heap.lt_size e
  | frz ob u => obtain ⟨e, _⟩ := x; exact Heap.lt_size e
  | tbl ps => exact Heap.lt_size (show h.get? a = some _ from x)
  | met f y => exact Heap.lt_size (show h.get? a = some _ from x)
  | ext φ => obtain ⟨_, ⟨_, e⟩, _⟩ := x; exact Heap.lt_size e
theorem Paired.mapP {α β : Type} {F G : α → β → Prop} : ∀ {l₁ : List α} {l₂ : List β}, Paired F l₁ l₂ → (∀ a b, F a b → G a b) → Paired G l₁ l₂
  | _, _, .nil, _ => .nil
  | _, _, .cons r t, f => .cons (f _ _ r) (Paired.mapP t f)
theorem ObjOk.stay (x : ObjOk P w H h a o) (k : ∀ b u, (b = a ∨ H b = some (.own a)) → h.get? b = some u → h'.get? b = some u)
    (ho : ∀ b, H b = some (.own a) → H' b = some (.own a)) (ht : ∀ b xs, H b = some (.tup xs) → H' b = some (.tup xs)) : ObjOk P w H' h' a o := by
  induction o with
  | lst xs => obtain ⟨z, its, n, r, e⟩ := x; exact ⟨z, its, n, r, k _ _ (.inl rfl) e⟩
  | tup xs => obtain ⟨z, its, r, ob, e, c⟩ := x; exact ⟨z, its, r, ob, k _ _ (.inl rfl) e, c⟩
  | dK kvs => obtain ⟨z, y, vs, r, ob, es, ep, e, c⟩ := x; exact ⟨z, y, vs, r, ob, es, ep, k _ _ (.inl rfl) e, c⟩
  | dT kvs =>
    obtain ⟨z, y, xs, r, ob, es, ep, e, c⟩ := x
    exact ⟨z, y, xs, Paired.mapP r fun p q z => ⟨z.1, ht _ _ z.2.1, z.2.2⟩, ob, es, ep, k _ _ (.inl rfl) e, c⟩
  | set S n => obtain ⟨ob, es, ep, t, e, c⟩ := x; exact ⟨ob, es, ep, t, k _ _ (.inl rfl) e, c⟩
  | ins C dx fs =>
    obtain ⟨d, z, ne, e, mA, ⟨od, es, ep, e2, c⟩, r⟩ := x
    exact ⟨ho _ d, z, ne, k _ _ (.inl rfl) e, mA, ⟨od, es, ep, k _ _ (.inr d) e2, c⟩, r⟩
  | own y => obtain ⟨ob, e⟩ := x; exact ⟨ob, k _ _ (.inl rfl) e⟩
  | xd fs => obtain ⟨mA, ⟨od, es, ep, e, c⟩, r⟩ := x; exact ⟨mA, ⟨od, es, ep, k _ _ (.inl rfl) e, c⟩, r⟩
  | rng lo hi => obtain ⟨t, u, v, e⟩ := x; exact ⟨t, u, v, k _ _ (.inl rfl) e⟩
  | frz ob u ih => obtain ⟨e, q⟩ := x; exact ⟨k _ _ (.inl rfl) e, ih q⟩
  | tbl ps =>
    have e : h.get? a = some { cls := .none, data := .fields ps } := x
    show h'.get? a = some { cls := .none, data := .fields ps }
    exact k a _ (.inl rfl) e
  | met f y =>
    have e : h.get? a = some (PySem.W.methodObj (.ref f) (.ref y)) := x
    show h'.get? a = some (PySem.W.methodObj (.ref f) (.ref y))
    exact k a _ (.inl rfl) e
  | ext φ => obtain ⟨p, ⟨o, e⟩, st⟩ := x; exact ⟨st _ _ p fun o q => k _ _ (.inl rfl) q, ⟨o, k _ _ (.inl rfl) e⟩, st⟩
theorem HOk.lt (x : HOk P w H h) (e : H a = some o) : a < h.objs.size := (x a o e).lt
theorem HOk.fresh (x : HOk P w H h) (e : h.objs.size ≤ a) : H a = none := by
  cases q : H a with
  | none => rfl
  | some u => exact absurd (Nat.lt_of_lt_of_le (x.lt q) e) (Nat.lt_irrefl _)
theorem HOk.kept (x : HOk P w H h) (k : ∀ b u, h.get? b = some u → h'.get? b = some u) : HOk P w H h' := fun a o e =>
  (x a o e).stay (fun b u _ q => k b u q) (fun _ q => q) fun _ _ q => q
theorem HOk.laid (x : HOk P w H h) (k : ∀ b u, h.get? b = some u → h'.get? b = some u) (hp : h.objs.size ≤ a) (new : ObjOk P w (upd H a o) h' a o) : HOk P w (upd H a o) h' := fun b u e => by
  have hn := x.fresh hp
  by_cases hb : b = a
  · subst hb; rw [upd_same] at e; cases e; exact new
  · rw [upd_ne hb] at e
    exact (x b u e).stay (fun c v _ q => k c v q) (fun c q => by rw [upd_ne (ne_of_none q hn)]; exact q) fun c xs q => by rw [upd_ne (ne_of_none q hn)]; exact q
end

def Rd (H : Hp) (a : Addr) (u : HO) : Prop := H a = some u ∨ ∃ o, H a = some (.frz o u)
theorem Rd.ok {P : Program} {w : World} {H : Hp} {h : Heap} {a : Addr} {u : HO} (r : Rd H a u) (x : HOk P w H h) : ObjOk P w H h a u := by
  rcases r with r | ⟨o, r⟩
  · exact x a u r
  · obtain ⟨_, q⟩ := x a _ r
    exact q
def Mut : Option HO → Prop
  | some (.lst _) => True
  | some (.dK _) => True
  | some (.dT _) => True
  | some (.set _ _) => True
  | some (.ins _ _ _) => True
  | some (.ext _) => True
  | _ => False
section
variable {P : Program} {w : World} {H : Hp} {h h' : Heap} {x e : Addr} {o' : HO}
theorem HOk.write (ok : HOk P w H h) (mu : Mut (H x)) (he : e = x ∨ H e = some (.own x)) (k : ∀ b u, b ≠ e → h.get? b = some u → h'.get? b = some u) (heo : ∃ u, h'.get? e = some u)
    (new : ObjOk P w (upd H x o') h' x o') : HOk P w (upd H x o') h' := fun b u q => by
  have nown : ∀ c y, H c = some (.own y) → c ≠ x := fun c y r z => by subst z; rw [r] at mu; exact mu
  have ntup : ∀ c xs, H c = some (.tup xs) → c ≠ x := fun c xs r z => by subst z; rw [r] at mu; exact mu
  by_cases hb : b = x
  · subst hb; rw [upd_same] at q; cases q; exact new
  · rw [upd_ne hb] at q
    by_cases hbe : b = e
    · have q' : H b = some (.own x) := by
        rcases he with z | z
        · exact absurd (hbe.trans z) hb
        · rw [hbe]; exact z
      rw [q] at q'; cases q'
      obtain ⟨v, hv⟩ := heo
      exact ⟨v, by rw [hbe]; exact hv⟩
    · refine (ok b u q).stay (fun c v hc r => k c v ?_ r) (fun c r => by rw [upd_ne (nown c b r)]; exact r) fun c xs r => by rw [upd_ne (ntup c xs r)]; exact r
      rcases hc with rfl | hc
      · exact hbe
      · rintro rfl
        rcases he with z | z
        · exact nown c b hc z
        · rw [hc] at z; cases z; exact hb rfl
end

structure Un (fs ex : List Addr) (H H' : Hp) (h h' : Heap) : Prop where
  keep : ∀ b o, h.get? b = some o → H b = none → b ∉ fs → b ∉ ex → h'.get? b = some o
  slot : ∀ b o, h.get? b = some o → H b = none → b ∈ fs → b ∉ ex → ∃ sl, h'.get? b = some { o with slots := sl }
  free : ∀ b o, h.get? b = some o → H b = none → b ∉ ex → H' b = none
  there : ∀ b o, h.get? b = some o → b ∉ ex → ∃ o', h'.get? b = some o'
  tups : ∀ b xs, H b = some (.tup xs) → H' b = some (.tup xs)
  frzs : ∀ b o u, H b = some (.frz o u) → H' b = some (.frz o u)
  tbls : ∀ b ps, H b = some (.tbl ps) → ∃ more, H' b = some (.tbl (ps ++ more))
section
variable {fs fs' ex ex' : List Addr} {H H1 H2 : Hp} {h h1 h2 h' : Heap} {a x e : Addr} {o : HO}
theorem Un.any (u : Un fs ex H H1 h h1) {b : Addr} {ob : Obj} (q : h.get? b = some ob) (n : H b = none) (hx : b ∉ ex) : ∃ sl, h1.get? b = some { ob with slots := sl } := by
  by_cases hb : b ∈ fs
  · exact u.slot b ob q n hb hx
  · exact ⟨ob.slots, u.keep b ob q n hb hx⟩
theorem Un.trans (a : Un fs ex H H1 h h1) (b : Un fs ex H1 H2 h1 h2) : Un fs ex H H2 h h2 where
  keep := fun c ob q n hc hx => b.keep c ob (a.keep c ob q n hc hx) (a.free c ob q n hx) hc hx
  slot := fun c ob q n hc hx => by
    obtain ⟨sl, e1⟩ := a.slot c ob q n hc hx
    obtain ⟨sl', e2⟩ := b.slot c _ e1 (a.free c ob q n hx) hc hx
    exact ⟨sl', e2⟩
  free := fun c ob q n hx => by
    obtain ⟨o', e1⟩ := a.there c ob q hx
    exact b.free c o' e1 (a.free c ob q n hx) hx
  there := fun c ob q hx => by
    obtain ⟨o', e1⟩ := a.there c ob q hx
    exact b.there c o' e1 hx
  tups := fun c xs q => b.tups c xs (a.tups c xs q)
  frzs := fun c ob xs q => b.frzs c ob xs (a.frzs c ob xs q)
  tbls := fun c ps q => by
    obtain ⟨m1, e1⟩ := a.tbls c ps q
    obtain ⟨m2, e2⟩ := b.tbls c _ e1
    exact ⟨m1 ++ m2, by rw [e2, Array.append_assoc]⟩
theorem Un.kept (k : ∀ b u, h.get? b = some u → h'.get? b = some u) : Un fs ex H H h h' :=
  ⟨fun b ob q _ _ _ => k b ob q, fun b ob q _ _ _ => ⟨ob.slots, k b ob q⟩, fun _ _ _ n _ => n, fun b ob q _ => ⟨ob, k b ob q⟩, fun _ _ q => q, fun _ _ _ q => q, fun _ ps q => ⟨#[], by rw [q]; simp⟩⟩
theorem Un.refl : Un fs ex H H h h := Un.kept fun _ _ q => q
theorem Un.laid (k : ∀ b u, h.get? b = some u → h'.get? b = some u) (hp : h.objs.size ≤ a) (hn : H a = none) : Un fs ex H (upd H a o) h h' where
  keep := fun b u q _ _ _ => k b u q
  slot := fun b u q _ _ _ => ⟨u.slots, k b u q⟩
  free := fun b u q n _ => by rw [upd_ne (Nat.ne_of_lt (Nat.lt_of_lt_of_le (Heap.lt_size q) hp))]; exact n
  there := fun b u q _ => ⟨u, k b u q⟩
  tups := fun b xs q => by rw [upd_ne (ne_of_none q hn)]; exact q
  frzs := fun b u xs q => by rw [upd_ne (ne_of_none q hn)]; exact q
  tbls := fun b ps q => ⟨#[], by rw [upd_ne (ne_of_none q hn), q]; simp⟩
theorem Un.write (mu : Mut (H x)) (he : e = x ∨ H e = some (.own x)) (k : ∀ b u, b ≠ e → h.get? b = some u → h'.get? b = some u) (heo : ∃ u, h'.get? e = some u) : Un fs ex H (upd H x o) h h' := by
  have hx : ∀ b, H b = none → b ≠ x := fun b n z => by subst z; rw [n] at mu; exact mu
  have hb : ∀ b, H b = none → b ≠ e := fun b n z => by
    subst z
    rcases he with r | r
    · exact hx b n r
    · rw [n] at r; cases r
  have hm : ∀ b u, H b = some u → ¬ Mut (some u) → b ≠ x := fun b u q nm z => by subst z; rw [q] at mu; exact nm mu
  refine ⟨fun b u q n _ _ => k b u (hb b n) q, fun b u q n _ _ => ⟨u.slots, k b u (hb b n) q⟩, fun b u q n _ => by rw [upd_ne (hx b n)]; exact n, fun b u q _ => ?_,
    fun b xs q => by rw [upd_ne (hm b _ q fun z => z)]; exact q, fun b u xs q => by rw [upd_ne (hm b _ q fun z => z)]; exact q, fun b ps q => ⟨#[], by rw [upd_ne (hm b _ q fun z => z), q]; simp⟩⟩
  by_cases hbe : b = e
  · subst hbe; exact heo
  · exact ⟨u, k b u hbe q⟩
end

def trk (h : Heap) (H : Hp) : List Addr := (List.range h.objs.size).filter fun a => (H a).isSome
def hidT (h : Heap) (H : Hp) : Heap := PySem.W.hideAll h (trk h H)
theorem hidT_size (h : Heap) (H : Hp) : (hidT h H).objs.size = h.objs.size := PySem.W.hideAll_size _ _
theorem hidT_get {h : Heap} {H : Hp} {b : Addr} {o : Obj} (e : h.get? b = some o) (n : H b = none) : (hidT h H).get? b = some o :=
  PySem.W.hideAll_get _ e fun hm => by
    have q : (H b).isSome = true := (List.mem_filter.mp hm).2
    rw [n] at q; simp at q
theorem of_hidT {h : Heap} {H : Hp} {b : Addr} {o : Obj} (e : (hidT h H).get? b = some o) : h.get? b = some o ∧ H b = none := by
  have e' : h.get? b = some o := PySem.W.of_hideAll (trk h H) e
  refine ⟨e', ?_⟩
  cases q : H b with
  | none => rfl
  | some x =>
    have hm : b ∈ trk h H := List.mem_filter.mpr ⟨List.mem_range.mpr (Heap.lt_size e'), by simp [q]⟩
    have z : (hidT h H).get? b = none := PySem.W.hideAll_none (trk h H) hm
    rw [z] at e; cases e

def allNews (g h : Heap) (L : Addr) : List (Addr × Obj) := (List.range h.objs.size).filterMap fun a => if a = L ∨ (g.get? a).isSome = true then none else (h.get? a).map fun o => (a, o)
def rest (g h : Heap) (L d : Addr) : List (Addr × Obj) := (allNews g h L).filter fun p => decide (p.1 ≠ d)
end L2

namespace L2
open PySem PySem.Spec PyProof.Rows

structure Mod (K : PySem.W.Frag) (mg : Str → Option Value) (base : Heap) : Prop where
  kin : K.In base
  glob : base.Ns mainGlobals mg
  blt : ∃ mb, base.Ns builtinsNs mb ∧ ∀ x : Str, x ≠ "__name__" → mb x = bootBuiltins x
  nolimit : base.NoLimit

structure Cx where
  prog : Program
  w : World
  K : PySem.W.Frag
  mg : Str → Option Value
  base : Heap
  A : Around
  N : List Str
  s₀ : Shared
  H₀ : Hp
  env : Env
  outer : List Env
  stack : List Env
  ex : List Addr
  fn : Str → Bool
  calm : Bool
  pn : List (Addr × Obj)
  xe : Value → Shared → Prop
def frs (l : List Env) : List Addr := l.filterMap (·.frame)
abbrev Cx.fs (X : Cx) : List Addr := frs X.outer

def Vis (sc : Scope) (x : Str) : Prop := sc.names.lookup x = some .local ∨ sc.names.lookup x = some .cell ∨ sc.names.lookup x = some .free
def Loc (sc : Scope) (x : Str) : Prop := sc.names.lookup x = some .local ∨ sc.names.lookup x = some .cell
def Look (env : Env) (h : Heap) (m : Str → Option Value) (x : Str) (u : Value) : Prop :=
  (env.kindOf x = some .local ∧ m x = some u) ∨ ((env.kindOf x = some .cell ∨ env.kindOf x = some .free) ∧ ∃ c, env.cells.lookup x = some c ∧ h.IsCell c (some u))

structure Cx.Ok (X : Cx) : Prop where
  mod : Mod X.K X.mg X.base
  kind : X.env.scope.kind = .function
  glob : X.env.globals = mainGlobals
  blt : X.env.builtins = builtinsNs
  above : X.s₀.heap.objs.size ≤ X.env.locals
  inj : ∀ x y c, X.env.cells.lookup x = some c → X.env.cells.lookup y = some c → x = y
  has : ∀ x, (X.env.kindOf x = some .cell ∨ X.env.kindOf x = some .free) → ∃ c, X.env.cells.lookup x = some c
  cab : ∀ x c, X.fn x = true → X.env.cells.lookup x = some c → X.s₀.heap.objs.size ≤ c
  hd : X.calm = true → X.A.handled = none
  frames : X.A.frames = some X.stack
  stk : X.stack = X.outer ∨ (X.stack = X.env :: X.outer ∧ X.env.frame = some X.env.locals)
  exf : ∀ b ∈ X.ex, b ≠ X.env.locals ∧ ∀ x c, X.env.cells.lookup x = some c → c ≠ b
  bs : ∀ b o, X.base.get? b = some o → X.s₀.heap.get? b = some o ∧ X.H₀ b = none
  bsz : X.base.objs.size ≤ X.s₀.heap.objs.size
  noex : ∀ b o, X.base.get? b = some o → b ∉ X.ex
  exfs : ∀ b ∈ X.ex, b ∉ X.fs
  funs : X.s₀.heap.FunFrames X.base X.outer
  frf : ∀ b ∈ X.fs, X.H₀ b = none

structure Inv (X : Cx) (pins : List (Addr × Obj)) (σ : List (Option V)) (H : Hp) (s : Shared) : Prop where
  ok : X.Ok
  os : s.os = X.s₀.os
  bare : AllBare s.gens
  base : Un X.fs X.ex X.H₀ H X.s₀.heap s.heap
  loc : ∃ m, s.heap.Ns X.env.locals m ∧ ∀ (i : Nat) (x : Str) (v : V), X.N[i]? = some x → σ[i]? = some (some v) → Vis X.env.scope x → ∃ u, RelV v u ∧ Look X.env s.heap m x u
  cell : ∀ x c, X.env.cells.lookup x = some c → ∃ v, s.heap.IsCell c v
  free : H X.env.locals = none
  freeC : ∀ x c, X.env.cells.lookup x = some c → H c = none
  pin : ∀ p ∈ X.pn ++ pins, s.heap.get? p.1 = some p.2 ∧ H p.1 = none ∧ p.1 ≠ X.env.locals ∧ p.1 ∉ X.fs ∧ ∀ v, p.2.data ≠ .cell v
  hok : HOk X.prog X.w H s.heap
  len : σ.length = X.N.length

section
variable {X : Cx} {pins : List (Addr × Obj)} {σ : List (Option V)} {H H' : Hp} {s : Shared} {h' : Heap}

theorem Cx.Ok.nofr (ok : X.Ok) {b : Addr} {o : Obj} (e : X.base.get? b = some o) : b ∉ X.fs := fun hb => by
  have := (ok.funs.mem hb).1
  rw [e] at this; cases this
theorem Inv.bs (I : Inv X pins σ H s) : ∀ b o, X.base.get? b = some o → s.heap.get? b = some o ∧ H b = none := fun b o e =>
  ⟨I.base.keep b o (I.ok.bs b o e).1 (I.ok.bs b o e).2 (I.ok.nofr e) (I.ok.noex b o e), I.base.free b o (I.ok.bs b o e).1 (I.ok.bs b o e).2 (I.ok.noex b o e)⟩
theorem Inv.bk (I : Inv X pins σ H s) : ∀ b o, X.base.get? b = some o → s.heap.get? b = some o := fun b o e => (I.bs b o e).1
theorem Inv.mod (I : Inv X pins σ H s) : Mod X.K X.mg X.base := I.ok.mod
theorem Inv.kIn (I : Inv X pins σ H s) : X.K.In s.heap := I.ok.mod.kin.keeps I.bk
theorem Inv.lt (I : Inv X pins σ H s) : X.env.locals < s.heap.objs.size := let ⟨_, hn, _⟩ := I.loc; hn.lt
theorem Inv.sz (I : Inv X pins σ H s) : X.s₀.heap.objs.size ≤ s.heap.objs.size := Nat.le_trans I.ok.above (Nat.le_of_lt I.lt)
theorem Inv.nofs (I : Inv X pins σ H s) {a : Addr} (h : s.heap.objs.size ≤ a) : a ∉ X.fs := fun hb => by
  obtain ⟨_, o, ho, _⟩ := I.ok.funs.mem hb
  exact absurd (Nat.lt_of_lt_of_le (Heap.lt_size ho) (Nat.le_trans I.sz h)) (Nat.lt_irrefl _)
theorem Inv.cne (I : Inv X pins σ H s) : ∀ x c, X.env.cells.lookup x = some c → c ≠ X.env.locals := fun x c e z => by
  obtain ⟨v, o, ho, hd⟩ := I.cell x c e
  obtain ⟨m, ⟨o', es, ep, ho', hd', _⟩, _⟩ := I.loc
  rw [z, ho'] at ho; cases ho; rw [hd'] at hd; cases hd
theorem Inv.funs (I : Inv X pins σ H s) : s.heap.FunFrames X.base X.outer := by
  have all : ∀ (l : List Env), (∀ b ∈ frs l, b ∈ X.fs) → X.s₀.heap.FunFrames X.base l → s.heap.FunFrames X.base l := by
    intro l
    induction l with
    | nil => intro _ _; trivial
    | cons env r ih =>
      intro hs hl
      obtain ⟨hk, ⟨L, o, hf, hn, ho, hd⟩, hr⟩ := hl
      have hL : L ∈ X.fs := hs L (by unfold frs; rw [List.filterMap_cons, hf]; exact List.mem_cons_self)
      obtain ⟨sl, e⟩ := I.base.slot L o ho (I.ok.frf L hL) hL fun z => I.ok.exfs L z hL
      exact ⟨hk, ⟨L, _, hf, hn, e, hd⟩, ih (fun b hb => hs b (by unfold frs; rw [List.filterMap_cons, hf]; exact List.mem_cons_of_mem _ hb)) hr⟩
  exact all X.outer (fun _ hb => hb) I.ok.funs

theorem Inv.stack (I : Inv X pins σ H s) : s.heap.FunFrames X.base X.stack := by
  rcases I.ok.stk with e | ⟨e, hf⟩
  · rw [e]; exact I.funs
  · rw [e]
    obtain ⟨m, hn, _⟩ := I.loc
    refine .cons (by rw [I.ok.kind]; decide) hf hn ?_ I.funs
    exact Heap.get?_none_of_le (Nat.le_trans I.ok.bsz I.ok.above)
theorem Inv.stkSub (I : Inv X pins σ H s) : ∀ b ∈ frs X.stack, b ∈ X.env.locals :: X.fs := fun b hb => by
  rcases I.ok.stk with e | ⟨e, hf⟩
  · rw [e] at hb; exact List.mem_cons_of_mem _ hb
  · rw [e] at hb
    unfold frs at hb
    rw [List.filterMap_cons, hf] at hb
    exact hb
theorem Inv.stkFree (I : Inv X pins σ H s) : ∀ b ∈ frs X.stack, H b = none := fun b hb => by
  rcases List.mem_cons.mp (I.stkSub b hb) with e | hb
  · rw [e]; exact I.free
  · obtain ⟨_, o, ho, _⟩ := I.ok.funs.mem hb
    exact I.base.free b o ho (I.ok.frf b hb) fun z => I.ok.exfs b z hb

theorem Inv.step {g' : Array GenState} {t' : Nat} {d' : Drawn} {ch : List Addr} (I : Inv X pins σ H s)
    (hch : ∀ b ∈ ch, (b ∈ X.ex ∨ X.s₀.heap.objs.size ≤ b) ∧ b ≠ X.env.locals ∧ (∀ x c, X.env.cells.lookup x = some c → c ≠ b) ∧ ∀ p ∈ X.pn ++ pins, p.1 ≠ b)
    (keep : ∀ b o, b ≠ X.env.locals → b ∉ X.fs → b ∉ ch → s.heap.get? b = some o → H b = none → h'.get? b = some o)
    (slot : ∀ b o, b ≠ X.env.locals → b ∈ X.fs → b ∉ ch → s.heap.get? b = some o → H b = none → ∃ sl, h'.get? b = some { o with slots := sl }) (free : ∀ b o, b ∉ ch → s.heap.get? b = some o → H b = none → H' b = none)
    (there : ∀ b o, b ∉ ch → s.heap.get? b = some o → ∃ o', h'.get? b = some o')
    (tups : ∀ b xs, H b = some (.tup xs) → H' b = some (.tup xs)) (frzs : ∀ b o u, H b = some (.frz o u) → H' b = some (.frz o u)) (tbls : ∀ b ps, H b = some (.tbl ps) → ∃ more, H' b = some (.tbl (ps ++ more)))
    (ns : ∀ m, s.heap.Ns X.env.locals m → h'.Ns X.env.locals m) (hok : HOk X.prog X.w H' h') (hg : AllBare g') :
    Inv X pins σ H' { s with heap := h', gens := g', drawn := d', toks := t' } := by
  have neL : ∀ b o, X.s₀.heap.get? b = some o → b ≠ X.env.locals := fun b o e => Nat.ne_of_lt (Nat.lt_of_lt_of_le (Heap.lt_size e) I.ok.above)
  have neC : ∀ b o, X.s₀.heap.get? b = some o → b ∉ X.ex → b ∉ ch := fun b o e hx hb => by
    rcases (hch b hb).1 with z | z
    · exact hx z
    · exact absurd (Nat.lt_of_lt_of_le (Heap.lt_size e) z) (Nat.lt_irrefl _)
  have cellK : ∀ x c, X.env.cells.lookup x = some c → ∀ v, s.heap.IsCell c v → h'.IsCell c v := fun x c e v ⟨o, ho, hd⟩ => by
    have nch : c ∉ ch := fun z => (hch c z).2.2.1 x c e rfl
    by_cases hc : c ∈ X.fs
    · obtain ⟨sl, q⟩ := slot c o (I.cne x c e) hc nch ho (I.freeC x c e)
      exact ⟨_, q, hd⟩
    · exact ⟨o, keep c o (I.cne x c e) hc nch ho (I.freeC x c e), hd⟩
  refine ⟨I.ok, I.os, hg, ⟨fun b o e n hb hx => ?_, fun b o e n hb hx => ?_, fun b o e n hx => ?_, fun b o e hx => ?_, fun b xs e => tups b xs (I.base.tups b xs e), fun b o xs e => frzs b o xs (I.base.frzs b o xs e), fun b ps e => ?_⟩, ?_, fun x c e => ?_, ?_, fun x c e => ?_, fun p hp => ?_, hok, I.len⟩
  · exact keep b o (neL b o e) hb (neC b o e hx) (I.base.keep b o e n hb hx) (I.base.free b o e n hx)
  · obtain ⟨sl, e1⟩ := I.base.slot b o e n hb hx
    obtain ⟨sl', e2⟩ := slot b _ (neL b o e) hb (neC b o e hx) e1 (I.base.free b o e n hx)
    exact ⟨sl', e2⟩
  · obtain ⟨o', e1⟩ := I.base.there b o e hx
    exact free b o' (neC b o e hx) e1 (I.base.free b o e n hx)
  · obtain ⟨o', e1⟩ := I.base.there b o e hx
    exact there b o' (neC b o e hx) e1
  · obtain ⟨m1, e1⟩ := I.base.tbls b ps e
    obtain ⟨m2, e2⟩ := tbls b _ e1
    exact ⟨m1 ++ m2, by rw [e2, Array.append_assoc]⟩
  · obtain ⟨m, hn, hl⟩ := I.loc
    refine ⟨m, ns m hn, fun i x v e1 e2 e3 => ?_⟩
    obtain ⟨u, r, l⟩ := hl i x v e1 e2 e3
    refine ⟨u, r, ?_⟩
    rcases l with l | ⟨k, c, e, z⟩
    · exact .inl l
    · exact .inr ⟨k, c, e, cellK x c e _ z⟩
  · obtain ⟨v, z⟩ := I.cell x c e
    exact ⟨v, cellK x c e v z⟩
  · obtain ⟨m, ⟨o, _, _, ho, _⟩, _⟩ := I.loc
    exact free _ o (fun z => (hch _ z).2.1 rfl) ho I.free
  · obtain ⟨v, o, ho, hd⟩ := I.cell x c e
    exact free c o (fun z => (hch c z).2.2.1 x c e rfl) ho (I.freeC x c e)
  · obtain ⟨e, n, ne, nf, d⟩ := I.pin p hp
    have nch : p.1 ∉ ch := fun z => (hch p.1 z).2.2.2 p hp rfl
    exact ⟨keep p.1 p.2 ne nf nch e n, free p.1 p.2 nch e n, ne, nf, d⟩
theorem Inv.un {t' : Nat} (I : Inv X pins σ H s) (u : Un X.fs [] H H' s.heap h') (hok : HOk X.prog X.w H' h') : Inv X pins σ H' { s with heap := h', toks := t' } := by
  obtain ⟨m, ⟨o, es, ep, ho, r⟩, _⟩ := id I.loc
  obtain ⟨sl, hL⟩ := u.any ho I.free (by simp)
  exact I.step (g' := s.gens) (d' := s.drawn) (ch := []) (fun _ z => nomatch z) (fun b o _ hb _ e n => u.keep b o e n hb (by simp)) (fun b o _ hb _ e n => u.slot b o e n hb (by simp)) (fun b o _ e n => u.free b o e n (by simp)) (fun b o _ e => u.there b o e (by simp)) u.tups u.frzs u.tbls (fun m' hm => by
    obtain ⟨o', es', ep', ho', r'⟩ := hm
    rw [ho] at ho'; cases ho'
    exact ⟨_, es', ep', hL, r'⟩) hok I.bare
theorem Inv.call {g' : Array GenState} {t' : Nat} {d' : Drawn} {ch : List Addr} (I : Inv X pins σ H s) (u : Un (frs X.stack) ch H H' s.heap h') (hok : HOk X.prog X.w H' h') (hg : AllBare g')
    (hch : ∀ b ∈ ch, (b ∈ X.ex ∨ X.s₀.heap.objs.size ≤ b) ∧ b ≠ X.env.locals ∧ (∀ x c, X.env.cells.lookup x = some c → c ≠ b) ∧ ∀ p ∈ X.pn ++ pins, p.1 ≠ b) :
    Inv X pins σ H' { s with heap := h', gens := g', drawn := d', toks := t' } := by
  obtain ⟨m, ⟨o, es, ep, ho, r⟩, _⟩ := id I.loc
  obtain ⟨sl, hL⟩ := u.any ho I.free fun z => (hch _ z).2.1 rfl
  exact I.step (ch := ch) hch (fun b o hL hb hc e n => u.keep b o e n (fun z => (List.mem_cons.mp (I.stkSub b z)).elim hL hb) hc) (fun b o _ _ hc e n => u.any e n hc) (fun b o hc e n => u.free b o e n hc) (fun b o hc e => u.there b o e hc) u.tups u.frzs u.tbls (fun m' hm => by
    obtain ⟨o', es', ep', ho', r'⟩ := hm
    rw [ho] at ho'; cases ho'
    exact ⟨_, es', ep', hL, r'⟩) hok hg
theorem Inv.turned {t' : Nat} {it : Addr} (I : Inv X pins σ H s) (k : ∀ b o, b ≠ it → s.heap.get? b = some o → h'.get? b = some o) (hn : H it = none) (hL : it ≠ X.env.locals)
    (h1 : it ∈ X.ex ∨ X.s₀.heap.objs.size ≤ it) (h2 : ∀ x c, X.env.cells.lookup x = some c → c ≠ it) (h3 : ∀ p ∈ X.pn ++ pins, p.1 ≠ it) : Inv X pins σ H { s with heap := h', toks := t' } := by
  have nit : ∀ b u, H b = some u → b ≠ it := fun b u e z => by rw [z, hn] at e; cases e
  refine I.step (g' := s.gens) (d' := s.drawn) (ch := [it]) (fun b hb => ?_) (fun b o _ _ hc e _ => k b o (fun z => hc (by simp [z])) e) (fun b o _ _ hc e _ => ⟨o.slots, k b o (fun z => hc (by simp [z])) e⟩) (fun _ _ _ _ n => n)
    (fun b o hc e => ⟨o, k b o (fun z => hc (by simp [z])) e⟩) (fun _ _ e => e) (fun _ _ _ e => e) (fun b ps e => ⟨#[], by rw [e]; simp⟩) (fun m hm => ?_) (fun b u e => ?_) I.bare
  · have e : b = it := by simpa using hb
    subst e
    exact ⟨h1, hL, h2, h3⟩
  · obtain ⟨o, es, ep, ho, r⟩ := hm
    exact ⟨o, es, ep, k _ o (Ne.symm hL) ho, r⟩
  · refine (I.hok b u e).stay (fun c v hc q => k c v ?_ q) (fun _ q => q) fun _ _ q => q
    rcases hc with z | z
    · rw [z]; exact nit b u e
    · exact nit c _ z
theorem Inv.tok (I : Inv X pins σ H s) (t : Nat) : Inv X pins σ H { s with toks := t } := I.un (h' := s.heap) (t' := t) Un.refl I.hok
theorem Inv.kept {t' : Nat} (I : Inv X pins σ H s) (k : ∀ b u, s.heap.get? b = some u → h'.get? b = some u) : Inv X pins σ H { s with heap := h', toks := t' } := I.un (Un.kept k) (I.hok.kept k)
theorem Inv.laid {a : Addr} {o : HO} {t' : Nat} (I : Inv X pins σ H s) (k : ∀ b u, s.heap.get? b = some u → h'.get? b = some u) (hp : s.heap.objs.size ≤ a) (new : ObjOk X.prog X.w (upd H a o) h' a o) :
    Inv X pins σ (upd H a o) { s with heap := h', toks := t' } := I.un (Un.laid k hp (I.hok.fresh hp)) (I.hok.laid k hp new)
theorem Inv.write {x e : Addr} {o : HO} {t' : Nat} (I : Inv X pins σ H s) (mu : Mut (H x)) (he : e = x ∨ H e = some (.own x)) (k : ∀ b u, b ≠ e → s.heap.get? b = some u → h'.get? b = some u) (heo : ∃ u, h'.get? e = some u)
    (new : ObjOk X.prog X.w (upd H x o) h' x o) : Inv X pins σ (upd H x o) { s with heap := h', toks := t' } := I.un (Un.write mu he k heo) (I.hok.write mu he k heo new)
theorem Inv.weak {σ' : List (Option V)} (I : Inv X pins σ H s) (hl : σ'.length = σ.length) (w : ∀ (i : Nat) v, σ'[i]? = some (some v) → σ[i]? = some (some v)) : Inv X pins σ' H s :=
  ⟨I.ok, I.os, I.bare, I.base, let ⟨m, hn, hl'⟩ := I.loc; ⟨m, hn, fun i x v e1 e2 e3 => hl' i x v e1 (w i v e2) e3⟩, I.cell, I.free, I.freeC, I.pin, I.hok, hl.trans I.len⟩
theorem Inv.pins_of {pins' : List (Addr × Obj)} (I : Inv X pins σ H s) (h : ∀ p ∈ pins', s.heap.get? p.1 = some p.2 ∧ H p.1 = none ∧ p.1 ≠ X.env.locals ∧ p.1 ∉ X.fs ∧ ∀ v, p.2.data ≠ .cell v) : Inv X pins' σ H s :=
  ⟨I.ok, I.os, I.bare, I.base, I.loc, I.cell, I.free, I.freeC, fun p hp => (List.mem_append.mp hp).elim (fun z => I.pin p (List.mem_append_left _ z)) (h p), I.hok, I.len⟩

theorem nodup_ix {N : List Str} (hN : N.Nodup) {i j : Nat} {x : Str} (a : N[i]? = some x) (b : N[j]? = some x) : i = j := by
  obtain ⟨h1, e1⟩ := List.getElem?_eq_some_iff.mp a
  obtain ⟨h2, e2⟩ := List.getElem?_eq_some_iff.mp b
  exact (List.getElem_inj hN).mp (e1.trans e2.symm)

theorem store_ok2 {M : Model} {A : Around} {E : Value → Shared → Prop} {i : Nat} {x : Str} {v : V} {u : Value} {Q : Unit → Shared → Prop} (I : Inv X pins σ H s) (hN : X.N.Nodup) (hi : X.N[i]? = some x) (hx : Loc X.env.scope x) (r : RelV v u)
    (h : ∀ s', Inv X pins (σ.set i (some v)) H s' → (∃ a, Heap.SameBut a s.heap s'.heap ∧ (a = X.env.locals ∨ X.env.cells.lookup x = some a)) → Q () s') (hf : X.fn x = true ∨ X.env.scope.names.lookup x = some .local := by first | exact .inl rfl | exact .inr rfl | assumption) : wpAny M A (storeName X.env x u) Q E s := by
  obtain ⟨m, hn, hl⟩ := id I.loc
  have hcls : (X.env.scope.kind == .class || (X.env.scope.kind == .module && X.env.locals != X.env.globals)) = false := by rw [I.ok.kind]; rfl
  have hiσ : i < σ.length := by rw [I.len]; exact (List.getElem?_eq_some_iff.mp hi).1
  have cne := I.cne
  have tracked : ∀ {a : Addr} {h' : Heap}, (∃ o, s.heap.get? a = some o ∧ H a = none) → Heap.SameBut a s.heap h' → HOk X.prog X.w H h' := fun {a h'} ha hs b ob e => by
    obtain ⟨_, _, hfree⟩ := ha
    refine (I.hok b ob e).stay (fun c w' hc q => (hs.2 c ?_).trans q) (fun _ q => q) fun _ _ q => q
    rintro rfl
    rcases hc with rfl | hc
    · rw [hfree] at e; cases e
    · rw [hfree] at hc; cases hc
  rcases hx with hk | hk
  · refine wpAny_storeName_local hk hn (fun h' hn' hs => ?_) hcls
    obtain ⟨oL, _, _, hoL, _⟩ := id hn
    refine h _ ⟨I.ok, I.os, I.bare, ⟨fun b o e n hb hx => ?_, fun b o e n hb hx => ?_, I.base.free, fun b o e hx => ?_, I.base.tups, I.base.frzs, I.base.tbls⟩, ⟨_, hn', fun j y v' e1 e2 e3 => ?_⟩, fun y c e => ?_, I.free, I.freeC, fun p hp => ?_, tracked ⟨oL, hoL, I.free⟩ hs, by simpa using I.len⟩ ⟨_, hs, .inl rfl⟩
    · exact (hs.2 b (Nat.ne_of_lt (Nat.lt_of_lt_of_le (Heap.lt_size e) I.ok.above))).trans (I.base.keep b o e n hb hx)
    · obtain ⟨sl, e1⟩ := I.base.slot b o e n hb hx
      exact ⟨sl, (hs.2 b (Nat.ne_of_lt (Nat.lt_of_lt_of_le (Heap.lt_size e) I.ok.above))).trans e1⟩
    · obtain ⟨o', e1⟩ := I.base.there b o e hx
      exact ⟨o', (hs.2 b (Nat.ne_of_lt (Nat.lt_of_lt_of_le (Heap.lt_size e) I.ok.above))).trans e1⟩
    · by_cases hj : j = i
      · subst hj
        rw [hi] at e1; cases e1
        rw [List.getElem?_set_self hiσ] at e2
        cases e2
        exact ⟨u, r, .inl ⟨hk, by simp⟩⟩
      · rw [List.getElem?_set_ne (Ne.symm hj)] at e2
        obtain ⟨u', r', q⟩ := hl j y v' e1 e2 e3
        refine ⟨u', r', ?_⟩
        rcases q with ⟨k, e⟩ | ⟨k, c, e, z⟩
        · refine .inl ⟨k, ?_⟩
          have : y ≠ x := fun e => hj (nodup_ix hN e1 (e ▸ hi))
          simp [this, e]
        · exact .inr ⟨k, c, e, z.sameBut hs (cne y c e)⟩
    · obtain ⟨w', z⟩ := I.cell y c e
      exact ⟨w', z.sameBut hs (cne y c e)⟩
    · obtain ⟨e, n, ne, nf, d⟩ := I.pin p hp
      exact ⟨(hs.2 p.1 ne).trans e, n, ne, nf, d⟩
  · have hfn : X.fn x = true := by
      rcases hf with z | z
      · exact z
      · rw [z] at hk; cases hk
    obtain ⟨c, hc⟩ := I.ok.has x (.inl hk)
    obtain ⟨w', z⟩ := I.cell x c hc
    refine wpAny_storeName_cell I.ok.kind hk hc z (fun h' hc' hs => ?_)
    obtain ⟨oc, hoc, hocd⟩ := id z
    refine h { s with heap := h' } ⟨I.ok, I.os, I.bare, ⟨fun b o e n hb hx => ?_, fun b o e n hb hx => ?_, I.base.free, fun b o e hx => ?_, I.base.tups, I.base.frzs, I.base.tbls⟩, ⟨m, hn.sameBut hs (Ne.symm (cne x c hc)), fun j y v' e1 e2 e3 => ?_⟩, fun y c' e => ?_, I.free, I.freeC, fun p hp => ?_, tracked ⟨oc, hoc, I.freeC x c hc⟩ hs, by simpa using I.len⟩ ⟨c, hs, .inr hc⟩
    · exact (hs.2 b (Nat.ne_of_lt (Nat.lt_of_lt_of_le (Heap.lt_size e) (I.ok.cab x c hfn hc)))).trans (I.base.keep b o e n hb hx)
    · obtain ⟨sl, e1⟩ := I.base.slot b o e n hb hx
      exact ⟨sl, (hs.2 b (Nat.ne_of_lt (Nat.lt_of_lt_of_le (Heap.lt_size e) (I.ok.cab x c hfn hc)))).trans e1⟩
    · obtain ⟨o', e1⟩ := I.base.there b o e hx
      exact ⟨o', (hs.2 b (Nat.ne_of_lt (Nat.lt_of_lt_of_le (Heap.lt_size e) (I.ok.cab x c hfn hc)))).trans e1⟩
    · by_cases hj : j = i
      · subst hj
        rw [hi] at e1; cases e1
        rw [List.getElem?_set_self hiσ] at e2
        cases e2
        exact ⟨u, r, .inr ⟨.inl hk, c, hc, hc'⟩⟩
      · rw [List.getElem?_set_ne (Ne.symm hj)] at e2
        obtain ⟨u', r', q⟩ := hl j y v' e1 e2 e3
        refine ⟨u', r', ?_⟩
        rcases q with q | ⟨k, c', e, z'⟩
        · exact .inl q
        · refine .inr ⟨k, c', e, z'.sameBut hs ?_⟩
          rintro rfl
          exact hj (nodup_ix hN e1 (I.ok.inj _ _ _ e hc ▸ hi))
    · by_cases hcc : c' = c
      · subst hcc; exact ⟨_, hc'⟩
      · obtain ⟨w2, z2⟩ := I.cell y c' e
        exact ⟨w2, z2.sameBut hs hcc⟩
    · obtain ⟨e, n, ne, nf, d⟩ := I.pin p hp
      refine ⟨(hs.2 p.1 ?_).trans e, n, ne, nf, d⟩
      intro q
      rw [q, hoc] at e
      have q' : oc = p.2 := Option.some.inj e
      exact d w' (by rw [← q']; exact hocd)
theorem store_ok {M : Model} {A : Around} {E : Value → Shared → Prop} {i : Nat} {x : Str} {v : V} {u : Value} {Q : Unit → Shared → Prop} (I : Inv X pins σ H s) (hN : X.N.Nodup) (hi : X.N[i]? = some x) (hx : Loc X.env.scope x) (r : RelV v u)
    (h : ∀ s', Inv X pins (σ.set i (some v)) H s' → Q () s') (hf : X.fn x = true ∨ X.env.scope.names.lookup x = some .local := by first | exact .inl rfl | exact .inr rfl | assumption) : wpAny M A (storeName X.env x u) Q E s :=
  store_ok2 I hN hi hx r (fun s' I' _ => h s' I') hf
theorem Inv.call' {s' : Shared} {ch : List Addr} (I : Inv X pins σ H s) (ho : s'.os = s.os) (u : Un (frs X.stack) ch H H' s.heap s'.heap) (hok : HOk X.prog X.w H' s'.heap) (hg : AllBare s'.gens)
    (hch : ∀ b ∈ ch, (b ∈ X.ex ∨ X.s₀.heap.objs.size ≤ b) ∧ b ≠ X.env.locals ∧ (∀ x c, X.env.cells.lookup x = some c → c ≠ b) ∧ ∀ p ∈ X.pn ++ pins, p.1 ≠ b) : Inv X pins σ H' s' := by
  obtain ⟨h', g', d', t', o'⟩ := s'
  have e : o' = s.os := ho
  subst e
  exact I.call (g' := g') (t' := t') (d' := d') u hok hg hch
end

abbrev XK := Value → Option Addr → Hp → Prop
abbrev St := List (Option V)
abbrev VK := V → Hp → Prop
abbrev TE := St → Hp → VK → Prop
abbrev TT := St → Hp → (Bool → Hp → Prop) → Prop
abbrev TA := St → Hp → (List V → Hp → Prop) → Prop
structure Ends where
  nx : St → Hp → Prop
  rt : VK
  bk : St → Hp → Prop := fun _ _ => False
  ct : St → Hp → Prop := fun _ _ => False
abbrev TS := Ends → St → Hp → Prop

def EP (X : Cx) (pins : List (Addr × Obj)) (σ : St) (Q : VK) (u : Value) (s' : Shared) : Prop := ∃ v H', Inv X pins σ H' s' ∧ RelV v u ∧ Q v H'
def TP (X : Cx) (pins : List (Addr × Obj)) (σ : St) (Q : Bool → Hp → Prop) (b : Bool) (s' : Shared) : Prop := ∃ H', Inv X pins σ H' s' ∧ Q b H'
def AP (X : Cx) (pins : List (Addr × Obj)) (σ : St) (Q : List V → Hp → Prop) (us : List Value) (s' : Shared) : Prop := ∃ vs H', Inv X pins σ H' s' ∧ Vals vs us ∧ Q vs H'
def SP (X : Cx) (pins : List (Addr × Obj)) (D : Ends) (f : Flow) (s' : Shared) : Prop :=
  match f with
  | .next => ∃ σ' H', Inv X pins σ' H' s' ∧ D.nx σ' H'
  | .brk => ∃ σ' H', Inv X pins σ' H' s' ∧ D.bk σ' H'
  | .cont => ∃ σ' H', Inv X pins σ' H' s' ∧ D.ct σ' H'
  | .ret u => ∃ v σ' H', Inv X pins σ' H' s' ∧ RelV v u ∧ D.rt v H'

def PE (X : Cx) (e : Expr) (t : TE) : Prop :=
  ∀ (pins : List (Addr × Obj)) (s : Shared) (σ : St) (H : Hp) (Q : VK), Inv X pins σ H s → t σ H Q → wpAny (model X.prog X.w) X.A (eval e X.env) (EP X pins σ Q) X.xe s
def PT (X : Cx) (e : Expr) (t : TT) : Prop :=
  ∀ (pins : List (Addr × Obj)) (s : Shared) (σ : St) (H : Hp) (Q : Bool → Hp → Prop), Inv X pins σ H s → t σ H Q → wpAny (model X.prog X.w) X.A (isTrue e X.env (eval e X.env)) (TP X pins σ Q) X.xe s
def PW (X : Cx) (e : Expr) (t : TT) : Prop :=
  ∀ (whole : Sem Value) (pins : List (Addr × Obj)) (s : Shared) (σ : St) (H : Hp) (Q : Bool → Hp → Prop), Inv X pins σ H s → t σ H Q → wpAny (model X.prog X.w) X.A (isTrue e X.env whole) (TP X pins σ Q) X.xe s
theorem PW.pt {X : Cx} {e : Expr} {t : TT} (h : PW X e t) : PT X e t := h _
def PA (X : Cx) (es : List Expr) (t : TA) : Prop :=
  ∀ (pos : Pos) (pins : List (Addr × Obj)) (s : Shared) (σ : St) (H : Hp) (Q : List V → Hp → Prop), Inv X pins σ H s → t σ H Q → wpAny (model X.prog X.w) X.A (spliced (backTo pos (starEach es X.env))) (AP X pins σ Q) X.xe s
def PS (X : Cx) (st : Stmt) (t : TS) : Prop :=
  ∀ (pins : List (Addr × Obj)) (s : Shared) (σ : St) (H : Hp) (D : Ends), Inv X pins σ H s → t D σ H → wpAny (model X.prog X.w) X.A (exec st X.env) (SP X pins D) X.xe s
def PSs (X : Cx) (st : List Stmt) (t : TS) : Prop :=
  ∀ (pins : List (Addr × Obj)) (s : Shared) (σ : St) (H : Hp) (D : Ends), Inv X pins σ H s → t D σ H → wpAny (model X.prog X.w) X.A (execs st X.env) (SP X pins D) X.xe s
theorem thn {α : Type} {t : Sem α} {Q Q' : α → Shared → Prop} {M : Model} {A : Around} {E : Value → Shared → Prop} {s : Shared} (h : wpAny M A t Q E s) (hQ : ∀ a s, Q a s → Q' a s) : wpAny M A t Q' E s := wpAny_mono h hQ fun _ _ x => x
end L2

namespace L2
open PySem PySem.Spec PyProof.Rows
section
variable {X : Cx}

def tVar (i : Nat) : TE := fun σ H Q => ∃ v, σ[i]? = some (some v) ∧ Q v H
def tC (v : V) : TE := fun _ H Q => Q v H
theorem pe_var {i : Nat} {x : Str} {pos : Pos} (hN : X.N[i]? = some x) (hv : Vis X.env.scope x) (hd : (x == ("__debug__" : Str)) = false := by decide) (hcd : (x == ("__classdict__" : Str)) = false := by decide) : PE X (.Name x pos) (tVar i) := by
  intro pins s σ H Q I h
  obtain ⟨v, e, h⟩ := h
  obtain ⟨m, hn, hl⟩ := I.loc
  obtain ⟨u, r, l⟩ := hl i x v hN e hv
  have fin : EP X pins σ Q u s := ⟨v, H, I, r, h⟩
  rcases l with ⟨hk, hm⟩ | ⟨hk, c, hc, hcell⟩
  · exact wpAny_Name (wpAny_loadName_local I.ok.kind hk hn hm fin) hd
  · rcases hk with hk | hk
    · exact wpAny_Name (wpAny_loadName_cell I.ok.kind hk hc hcell fin) hd
    · exact wpAny_Name (wpAny_loadName_free I.ok.kind hk hc hcell fin hcd) hd
theorem pe_int {i j pos} : PE X (.Constant (.int i) j pos) (tC (.int i)) := fun _ _ _ H _ I h => wpAny_Constant_int ⟨.int i, H, I.tok _, ⟨_, rfl⟩, h⟩
theorem pe_bl {b j pos} : PE X (.Constant (.bool b) j pos) (tC (.bl b)) := fun _ _ _ H _ I h => Constant_bool ⟨.bl b, H, I, rfl, h⟩
theorem pe_non {j pos} : PE X (.Constant .none j pos) (tC .non) := fun _ _ _ H _ I h => Constant_none ⟨.non, H, I, rfl, h⟩
theorem pe_str {x j pos} : PE X (.Constant (.str x) j pos) (tC (.str x)) := fun _ _ _ H _ I h => Calls.Constant_str ⟨.str x, H, I.tok _, ⟨_, rfl⟩, h⟩

def Gl (X : Cx) (x : Str) : Prop := X.env.kindOf x = some .globalImplicit
theorem ld_glob {E : Value → Shared → Prop} {pins : List (Addr × Obj)} {s : Shared} {σ : St} {H : Hp} {x : Str} {u : Value} {pos : Pos} {Q : Value → Shared → Prop} (I : Inv X pins σ H s) (hg : Gl X x) (hm : X.mg x = some u) (h : Q u s)
    (hd : (x == ("__debug__" : Str)) = false := by decide) : wpAny (model X.prog X.w) X.A (eval (.Name x pos) X.env) Q E s :=
  Calls.Name_function_global I.ok.kind hg (Calls.loadGlobal_global (by rw [I.ok.glob]; exact I.mod.glob.keeps I.bk) hm h) hd
theorem ld_blt {E : Value → Shared → Prop} {pins : List (Addr × Obj)} {s : Shared} {σ : St} {H : Hp} {x : Str} {u : Value} {pos : Pos} {Q : Value → Shared → Prop} (I : Inv X pins σ H s) (hg : Gl X x) (hm : X.mg x = none) (hv : bootBuiltins x = some u) (h : Q u s)
    (hn : x ≠ "__name__" := by decide) (hd : (x == ("__debug__" : Str)) = false := by decide) : wpAny (model X.prog X.w) X.A (eval (.Name x pos) X.env) Q E s := by
  obtain ⟨mb, h1, h2⟩ := I.mod.blt
  exact Calls.Name_function_global I.ok.kind hg (Calls.loadGlobal_builtin (by rw [I.ok.glob]; exact I.mod.glob.keeps I.bk) hm (by rw [I.ok.blt]; exact h1.keeps I.bk) ((h2 x hn).trans hv) h) hd
theorem pe_glob {x : Str} {v : V} {u : Value} {pos : Pos} (hg : Gl X x) (hm : X.mg x = some u) (r : RelV v u) (hd : (x == ("__debug__" : Str)) = false := by decide) : PE X (.Name x pos) (tC v) :=
  fun _ _ _ H _ I h => ld_glob I hg hm ⟨v, H, I, r, h⟩ hd
theorem pe_bltn {x : Str} {v : V} {u : Value} {pos : Pos} (hg : Gl X x) (hm : X.mg x = none) (hv : bootBuiltins x = some u) (r : RelV v u) (hn : x ≠ "__name__" := by decide) (hd : (x == ("__debug__" : Str)) = false := by decide) : PE X (.Name x pos) (tC v) :=
  fun _ _ _ H _ I h => ld_blt I hg hm hv ⟨v, H, I, r, h⟩ hn hd

variable {a b : Expr} {ta tb : TE} {pos : Pos}
def tB (t : TE) : TT := fun σ H Q => t σ H fun x H1 => ∃ c, x = .bl c ∧ Q c H1
theorem pt_val {e : Expr} {t : TE} (h : PE X e t) (he : ∀ whole, isTrue e X.env whole = (do let v ← whole; standAt e.pos; holding [v] (truthy v)) := by intro _; rfl) : PT X e (tB t) := by
  intro pins s σ H Q I hw
  refine isTrue_plain (thn (h pins s σ H _ I hw) fun v s1 ⟨x, H1, I1, r1, q1⟩ => ?_) (he _)
  obtain ⟨d, rfl, q⟩ := q1
  cases r1
  exact wpAny_truthy_bool ⟨H1, I1, q⟩

variable {tA tB' : TT} {rest : List Expr}
def tAnd (t u : TT) : TT := fun σ H Q => t σ H fun c H1 => if c = true then u σ H1 Q else Q false H1
def tOr (t u : TT) : TT := fun σ H Q => t σ H fun c H1 => if c = true then Q true H1 else u σ H1 Q
def tNot (t : TT) : TT := fun σ H Q => t σ H fun c H1 => Q (!c) H1
theorem pw_and1 (ha : PT X a tA) : PW X (.BoolOp .And [a] pos) tA := by
  intro wh pins s σ H Q I h
  refine isTrue_and (thn (ha pins s σ H Q I h) fun c s1 e => ?_)
  cases c with
  | true => exact isTrue_and_nil e
  | false => exact e
theorem pw_or1 (ha : PT X a tA) : PW X (.BoolOp .Or [a] pos) tA := by
  intro wh pins s σ H Q I h
  refine isTrue_or (thn (ha pins s σ H Q I h) fun c s1 e => ?_)
  cases c with
  | false => exact isTrue_or_nil e
  | true => exact e
theorem pw_and (ha : PT X a tA) (hb : PW X (.BoolOp .And (b :: rest) pos) tB') : PW X (.BoolOp .And (a :: b :: rest) pos) (tAnd tA tB') := by
  intro wh pins s σ H Q I h
  refine isTrue_and (thn (ha pins s σ H _ I h) fun c s1 ⟨H1, I1, q1⟩ => ?_)
  cases c with
  | true => exact hb wh pins s1 σ H1 Q I1 q1
  | false => exact ⟨H1, I1, q1⟩
theorem pw_or (ha : PT X a tA) (hb : PW X (.BoolOp .Or (b :: rest) pos) tB') : PW X (.BoolOp .Or (a :: b :: rest) pos) (tOr tA tB') := by
  intro wh pins s σ H Q I h
  refine isTrue_or (thn (ha pins s σ H _ I h) fun c s1 ⟨H1, I1, q1⟩ => ?_)
  cases c with
  | true => exact ⟨H1, I1, q1⟩
  | false => exact hb wh pins s1 σ H1 Q I1 q1
theorem pt_not (ha : PT X a tA) : PT X (.UnaryOp .Not a pos) (tNot tA) := by
  intro pins s σ H Q I h
  exact isTrue_not (ha pins s σ H (fun c H1 => Q (!c) H1) I h)
def tAndV (ta tb : TE) : TE := fun σ H Q => ta σ H fun x H1 => ∃ c, x = .bl c ∧ if c = true then tb σ H1 Q else Q (.bl false) H1
def tNotV (ta : TE) : TE := fun σ H Q => ta σ H fun x H1 => ∃ c, x = .bl c ∧ Q (.bl (!c)) H1
theorem pe_one {op} {t : TE} (h : PE X a t) : PE X (.BoolOp op [a] pos) t := fun pins s σ H Q I hw => BoolOp_one (h pins s σ H Q I hw)
theorem pe_and (ha : PE X a ta) (hb : PE X (.BoolOp .And (b :: rest) pos) tb) : PE X (.BoolOp .And (a :: b :: rest) pos) (tAndV ta tb) := by
  intro pins s σ H Q I h
  refine BoolOp_and (thn (ha pins s σ H _ I h) fun v s1 ⟨x, H1, I1, r1, q1⟩ => ?_)
  obtain ⟨c, rfl, q1⟩ := q1
  cases r1
  refine wpAny_truthy_bool ?_
  cases c with
  | true => exact hb pins s1 σ H1 Q I1 q1
  | false => exact ⟨.bl false, H1, I1, rfl, q1⟩
theorem pe_not (ha : PE X a ta) : PE X (.UnaryOp .Not a pos) (tNotV ta) := by
  intro pins s σ H Q I h
  refine UnaryOp_ (thn (ha pins s σ H _ I h) fun v s1 ⟨x, H1, I1, r1, q1⟩ => ?_)
  obtain ⟨c, rfl, q1⟩ := q1
  cases r1
  exact not_of (wpAny_truthy_bool ⟨.bl (!c), H1, I1, rfl, q1⟩)
def tIf (t : TT) (ta tb : TE) : TE := fun σ H Q => t σ H fun c H1 => if c = true then ta σ H1 Q else tb σ H1 Q
theorem pe_ifExp {c : Expr} (hc : PT X c tA) (ha : PE X a ta) (hb : PE X b tb) : PE X (.IfExp c a b pos) (tIf tA ta tb) := by
  intro pins s σ H Q I h
  refine wpAny_IfExp (thn (hc pins s σ H _ I h) fun d s1 ⟨H1, I1, q1⟩ => ?_)
  cases d with
  | true => exact ha pins s1 σ H1 Q I1 q1
  | false => exact hb pins s1 σ H1 Q I1 q1
end
end L2

namespace L2
open PySem PySem.Spec PyProof.Rows

def SqL (K : PySem.W.Frag) (H : Hp) (a : Addr) (xs : List V) : Prop :=
  Rd H a (.lst xs) ∨
    ∃ (o : Obj) (its : Array Value) (n : Nat), K.lookup a = some o ∧ o.cls = .type "list" ∧ o.dict = none ∧ o.data = .seq its n ∧ its.size ≤ sizeLine ∧ Vals xs its.toList
def SqT (K : PySem.W.Frag) (H : Hp) (a : Addr) (xs : List V) : Prop :=
  Rd H a (.tup xs) ∨
    ∃ (o : Obj) (its : Array Value) (n : Nat), K.lookup a = some o ∧ o.cls = .type "tuple" ∧ o.data = .seq its n ∧ its.size ≤ sizeLine ∧ Vals xs its.toList
def absV : Value → Option V
  | .none => some .non
  | .bool b => some (.bl b)
  | .int i _ => some (.int i)
  | .str x _ => some (.str x)
  | .bytes b _ => some (.byt b)
  | .float b _ => some (.flt b)
  | .ref a => some (.ref a)
  | .type n => some (.ty n)
  | _ => none
theorem RelV.abs {x : V} {u : Value} (r : RelV x u) : absV u = some x := by
  cases x with
  | non => cases r; rfl
  | bl _ => cases r; rfl
  | int _ => obtain ⟨t, rfl⟩ := r; rfl
  | str _ => obtain ⟨t, rfl⟩ := r; rfl
  | byt _ => obtain ⟨t, rfl⟩ := r; rfl
  | flt _ => obtain ⟨t, rfl⟩ := r; rfl
  | ref _ => cases r; rfl
  | ty _ => cases r; rfl
theorem RelV.inj {x y : V} {u : Value} (r : RelV x u) (q : RelV y u) : x = y := Option.some.inj (r.abs.symm.trans q.abs)
theorem Vals.inj : ∀ {xs ys : List V} {us : List Value}, Vals xs us → Vals ys us → xs = ys
  | _, _, _, .nil, .nil => rfl
  | _, _, _, .cons r t, .cons r' t' => by rw [r.inj r', Vals.inj t t']
section
variable {X : Cx} {pins : List (Addr × Obj)} {σ : St} {H : Hp} {s : Shared} {a : Addr} {xs ys : List V}
theorem SqL.of {K : PySem.W.Frag} (h : H a = some (.lst xs)) : SqL K H a xs := .inl (.inl h)
theorem SqT.of {K : PySem.W.Frag} (h : H a = some (.tup xs)) : SqT K H a xs := .inl (.inl h)
theorem Inv.list (I : Inv X pins σ H s) (h : SqL X.K H a xs) : ∃ its : List Value, Vals xs its ∧ PlainL s.heap a its.toArray ∧ xs.length ≤ sizeLine := by
  rcases h with h | ⟨o, its, n, hk, hc, hd, hs, hz, r⟩
  · obtain ⟨z, its, n, r, e⟩ := h.ok I.hok
    exact ⟨its, r, ⟨_, n, e, rfl, rfl, rfl⟩, z⟩
  · refine ⟨its.toList, r, ⟨o, n, I.kIn a o hk, hc, hd, by simpa using hs⟩, ?_⟩
    have e := r.length
    simp only [Array.length_toList] at e
    omega
theorem Inv.tuple (I : Inv X pins σ H s) (h : SqT X.K H a xs) : ∃ its : List Value, Vals xs its ∧ IsTup s.heap a its.toArray ∧ xs.length ≤ sizeLine := by
  rcases h with h | ⟨o, its, n, hk, hc, hs, hz, r⟩
  · obtain ⟨z, its, r, p⟩ := h.ok I.hok
    exact ⟨its, r, p, z⟩
  · refine ⟨its.toList, r, ⟨o, I.kIn a o hk, hc, n, by simpa using hs⟩, ?_⟩
    have e := r.length
    simp only [Array.length_toList] at e
    omega
theorem Inv.list_inj (I : Inv X pins σ H s) (h : SqL X.K H a xs) (h' : SqL X.K H a ys) : xs = ys := by
  obtain ⟨its, r, ⟨o, n, e, _, _, d⟩, _⟩ := I.list h
  obtain ⟨its', r', ⟨o', n', e', _, _, d'⟩, _⟩ := I.list h'
  rw [e] at e'; cases e'
  rw [d] at d'
  injection d' with d1 _
  have : its = its' := by simpa using congrArg Array.toList d1
  subst this
  exact r.inj r'
end

abbrev Cx.wish (X : Cx) (E : Value → Shared → Prop) : Cx := { X with xe := E }
abbrev Cx.nox (X : Cx) : Cx := X.wish fun _ _ => False
theorem Cx.Ok.wish {X : Cx} (ok : X.Ok) (E : Value → Shared → Prop) : (X.wish E).Ok :=
  ⟨ok.mod, ok.kind, ok.glob, ok.blt, ok.above, ok.inj, ok.has, ok.cab, ok.hd, ok.frames, ok.stk, ok.exf, ok.bs, ok.bsz, ok.noex, ok.exfs, ok.funs, ok.frf⟩
theorem Cx.Ok.unwish {X : Cx} {E : Value → Shared → Prop} (ok : (X.wish E).Ok) : X.Ok :=
  ⟨ok.mod, ok.kind, ok.glob, ok.blt, ok.above, ok.inj, ok.has, ok.cab, ok.hd, ok.frames, ok.stk, ok.exf, ok.bs, ok.bsz, ok.noex, ok.exfs, ok.funs, ok.frf⟩
section
variable {X : Cx} {pins : List (Addr × Obj)} {σ : St} {H : Hp} {s : Shared} {E : Value → Shared → Prop}
theorem Inv.wish (I : Inv X pins σ H s) (E : Value → Shared → Prop) : Inv (X.wish E) pins σ H s := ⟨I.ok.wish E, I.os, I.bare, I.base, I.loc, I.cell, I.free, I.freeC, I.pin, I.hok, I.len⟩
theorem Inv.unwish (I : Inv (X.wish E) pins σ H s) : Inv X pins σ H s := ⟨I.ok.unwish, I.os, I.bare, I.base, I.loc, I.cell, I.free, I.freeC, I.pin, I.hok, I.len⟩
theorem SP.unwish {D : Ends} {f : Flow} {s' : Shared} (h : SP (X.wish E) pins D f s') : SP X pins D f s' := by
  cases f with
  | next => obtain ⟨σ', H', I, q⟩ := h; exact ⟨σ', H', I.unwish, q⟩
  | brk => obtain ⟨σ', H', I, q⟩ := h; exact ⟨σ', H', I.unwish, q⟩
  | cont => obtain ⟨σ', H', I, q⟩ := h; exact ⟨σ', H', I.unwish, q⟩
  | ret u => obtain ⟨v, σ', H', I, r, q⟩ := h; exact ⟨v, σ', H', I.unwish, r, q⟩
theorem PSs.nox {st : List Stmt} {t : TS} (h : PSs X.nox st t) : PSs X st t := fun pins s σ H D I hw =>
  wpAny_mono (h pins s σ H D (I.wish _) hw) (fun _ _ q => q.unwish) fun _ _ z => False.elim z
end

section
variable {X : Cx} {st : Stmt} {rest : List Stmt} {t u : TS} {e : Expr} {te : TE} {pos : Pos}
def tNext : TS := fun D σ H => D.nx σ H
def tSeq (t u : TS) : TS := fun D σ H => t { D with nx := u D } σ H
theorem pss_nil : PSs X [] tNext := fun _ _ σ H _ I h => wpAny_execs_nil ⟨σ, H, I, h⟩
theorem pss_cons (h1 : PS X st t) (h2 : PSs X rest u) : PSs X (st :: rest) (tSeq t u) := by
  intro pins s σ H D I h
  refine wpAny_execs_cons (thn (h1 pins s σ H { D with nx := u D } I h) fun f s1 q => ?_)
  cases f with
  | next =>
    obtain ⟨σ', H', I', q⟩ := q
    exact h2 pins s1 σ' H' D I' q
  | ret v => exact q
  | brk => exact q
  | cont => exact q
theorem pss_one (h1 : PS X st t) : PSs X [st] t := by
  intro pins s σ H D I h
  refine wpAny_execs_cons (thn (h1 pins s σ H D I h) fun f s1 q => ?_)
  cases f with
  | next => exact wpAny_execs_nil q
  | ret v => exact q
  | brk => exact q
  | cont => exact q
theorem Inv.quiet {pins : List (Addr × Obj)} {σ : St} {H : Hp} {s : Shared} (I : Inv X pins σ H s) : interactive X.env = false := by simp [interactive, I.ok.kind]
def tDrop (te : TE) : TS := fun D σ H => te σ H fun _ H1 => D.nx σ H1
theorem ps_expr (he : PE X e te) (hs : swapsWith e none pos.line X.env = pure false := by rfl) : PS X (.Expr e pos) (tDrop te) := by
  intro pins s σ H D I h
  exact wpAny_Expr_any (thn (he pins s σ H _ I h) fun v s1 ⟨x, H1, I1, r1, q1⟩ => ⟨σ, H1, I1, q1⟩) I.quiet hs
def tRet (te : TE) : TS := fun D σ H => te σ H D.rt
theorem ps_ret (he : PE X e te) : PS X (.Return (some e) pos) (tRet te) := by
  intro pins s σ H D I h
  exact wpAny_Return_some (thn (he pins s σ H _ I h) fun v s1 ⟨x, H1, I1, r1, q1⟩ => ⟨x, σ, H1, I1, r1, q1⟩)
def tIfS (c : TT) (t u : TS) : TS := fun D σ H => c σ H fun b H1 => if b = true then t D σ H1 else u D σ H1
theorem ps_if {c : Expr} {a b : List Stmt} {tc : TT} (hc : PT X c tc) (ha : PSs X a t) (hb : PSs X b u) : PS X (.If c a b pos) (tIfS tc t u) := by
  intro pins s σ H D I h
  refine wpAny_If (thn (hc pins s σ H _ I h) fun d s1 ⟨H1, I1, q1⟩ => ?_)
  cases d with
  | true => exact ha pins s1 σ H1 D I1 q1
  | false => exact hb pins s1 σ H1 D I1 q1
def tNever : TS := fun _ _ _ => False
theorem pss_never {sts : List Stmt} : PSs X sts tNever := fun _ _ _ _ _ _ h => h.elim
end

abbrev TG := V → St → Hp → (St → Hp → Prop) → Prop
def PG (X : Cx) (target : Expr) (t : TG) : Prop :=
  ∀ (pins : List (Addr × Obj)) (s : Shared) (σ : St) (H : Hp) (v : V) (u : Value) (Q : St → Hp → Prop), Inv X pins σ H s → RelV v u → t v σ H Q →
    wpAny (model X.prog X.w) X.A (assign target X.env u) (fun _ s' => ∃ σ' H', Inv X pins σ' H' s' ∧ Q σ' H') X.xe s
abbrev TSet := V → V → V → Hp → (Hp → Prop) → Prop
def PSet (X : Cx) (t : TSet) : Prop :=
  ∀ (pins : List (Addr × Obj)) (s : Shared) (σ : St) (H : Hp) (o i v : V) (ov iv u : Value) (Q : Hp → Prop), Inv X pins σ H s → RelV o ov → RelV i iv → RelV v u → t o i v H Q →
    wpAny (model X.prog X.w) X.A (setItem ov iv u) (fun _ s' => ∃ H', Inv X pins σ H' s' ∧ Q H') X.xe s
section
variable {X : Cx} {pos : Pos}
def gName (i : Nat) : TG := fun v σ H Q => Q (σ.set i (some v)) H
theorem pg_name {i : Nat} {x : Str} (hN : X.N.Nodup) (hi : X.N[i]? = some x) (hx : Loc X.env.scope x) (hf : X.fn x = true ∨ X.env.scope.names.lookup x = some .local := by first | exact .inl rfl | exact .inr rfl | assumption) : PG X (.Name x pos) (gName i) := by
  intro pins s σ H v u Q I r h
  exact wpAny_assign_Name (store_ok I hN hi hx r (fun s' I' => ⟨_, H, I', h⟩) hf)
def gSub (to ti : TE) (t : TSet) : TG := fun v σ H Q => to σ H fun o H1 => ti σ H1 fun i H2 => t o i v H2 fun H3 => Q σ H3
theorem pg_sub {o i : Expr} {to ti : TE} {t : TSet} (ho : PE X o to) (hi : PE X i ti) (hs : PSet X t)
    (ha : ∀ v, assign (.Subscript o i pos) X.env v = (do
      let ov ← holding [v] (eval o X.env)
      let iv ← holding [v, ov] (eval i X.env)
      standAt pos
      holding [v, ov, iv] (setItem ov iv v)
      release [v, ov, iv] []) := by intro _; rfl) : PG X (.Subscript o i pos) (gSub to ti t) := by
  intro pins s σ H v u Q I r h
  rw [ha]
  refine wpAny_bind (wpAny_holding (thn (ho pins s σ H _ I h) fun ov s1 ⟨x, H1, I1, r1, q1⟩ => ?_))
  refine wpAny_bind (wpAny_holding (thn (hi pins s1 σ H1 _ I1 q1) fun iv s2 ⟨y, H2, I2, r2, q2⟩ => ?_))
  refine wpAny_bind (wpAny_standAt (wpAny_bind (wpAny_holding (thn (hs pins s2 σ H2 x y v ov iv u _ I2 r1 r2 r q2) fun _ s3 ⟨H3, I3, q3⟩ => ?_))))
  exact wpAny_release ⟨σ, H3, I3, q3⟩
def tAsg (te : TE) (g : TG) : TS := fun D σ H => te σ H fun x H1 => g x σ H1 D.nx
theorem ps_asg {tg e : Expr} {te : TE} {g : TG} (he : PE X e te) (hg : PG X tg g) (hs : swapsWithSole [tg] e pos.line X.env = pure false := by rfl) (hw : swappedStores [tg] e X.env = pure none := by rfl)
    (h1 : (assignEach [tg] X.env).map (·.2) = [assign tg X.env] := by rfl) : PS X (.Assign [tg] e pos) (tAsg te g) := by
  intro pins s σ H D I h
  refine wpAny_Assign_stores (thn (he pins s σ H _ I h) fun v s1 ⟨x, H1, I1, r1, q1⟩ => ?_) hs hw
  rw [h1]
  exact thn (hg pins s1 σ H1 x v _ I1 r1 q1) fun _ s2 q => q
theorem ps_set {i : Nat} {x : Str} {e : Expr} {te : TE} {pos' : Pos} (hN : X.N.Nodup) (hi : X.N[i]? = some x) (hx : Loc X.env.scope x) (he : PE X e te) (hs : swapsWith e (some (.Name x pos')) pos.line X.env = pure false := by rfl) (hf : X.fn x = true ∨ X.env.scope.names.lookup x = some .local := by first | exact .inl rfl | exact .inr rfl | assumption) :
    PS X (.Assign [.Name x pos'] e pos) (tAsg te (gName i)) := by
  intro pins s σ H D I h
  refine wpAny_Assign_Name (thn (he pins s σ H _ I h) fun v s1 ⟨y, H1, I1, r1, q1⟩ => ?_) hs
  exact store_ok I1 hN hi hx r1 (fun s2 I2 => ⟨_, H1, I2, q1⟩) hf
end

section
variable {X : Cx} {pos : Pos}
end

structure It where
  go : Nat → Hp → Prop
  yld : Nat → Hp → V → Hp → Prop
  stop : Nat → Hp → Prop
def FpOk (X : Cx) (pins : List (Addr × Obj)) (H : Hp) (b : Addr) : Prop :=
  H b = none ∧ b ≠ X.env.locals ∧ b ∉ X.fs ∧ (b ∈ X.ex ∨ X.s₀.heap.objs.size ≤ b) ∧ (∀ x c, X.env.cells.lookup x = some c → c ≠ b) ∧ ∀ p ∈ X.pn ++ pins, p.1 ≠ b
theorem Inv.fpOk {X : Cx} {pins : List (Addr × Obj)} {σ : St} {H H' : Hp} {s : Shared} {b : Addr} (I : Inv X pins σ H s) (hb : s.heap.objs.size ≤ b) (hn : H' b = none) : FpOk X pins H' b := by
  refine ⟨hn, Nat.ne_of_gt (Nat.lt_of_lt_of_le I.lt hb), I.nofs hb, .inr (Nat.le_trans I.sz hb), fun x c e z => ?_, fun p hp z => ?_⟩
  · obtain ⟨v, q⟩ := I.cell x c e
    exact absurd (Nat.lt_of_lt_of_le q.lt (by rw [z]; exact hb)) (Nat.lt_irrefl _)
  · exact absurd (Nat.lt_of_lt_of_le (Heap.lt_size (I.pin p hp).1) (by rw [z]; exact hb)) (Nat.lt_irrefl _)
structure Turn (P : Program) (w : World) (K : PySem.W.Frag) (tg : Expr) (J : It) (fp : List Addr) (it : Addr) (tn : Nat → Heap → Prop) : Prop where
  mem : it ∈ fp
  obj : ∀ i h, tn i h → ∀ b ∈ fp, ∃ o, h.get? b = some o ∧ ∀ v, o.data ≠ .cell v
  keep : ∀ i h h', tn i h → (∀ b ∈ fp, ∀ o, h.get? b = some o → h'.get? b = some o) → tn i h'
  item : ∀ (X : Cx), X.prog = P → X.w = w → X.K = K → X.calm = true → ∀ (i : Nat) (pins : List (Addr × Obj)) (s : Shared) (σ : St) (H : Hp) (E : Value → Shared → Prop), Inv X pins σ H s → (∀ b ∈ fp, FpOk X pins H b) → tn i s.heap → J.go i H →
    wpAny (model P w) X.A (pyNext (.ref it)) (fun r s1 => ∃ u, r = some u ∧
      wpAny (model P w) X.A (letOwnedTupleGo tg (.ref it) u) (fun _ s2 => ∃ x H', Inv X pins σ H' s2 ∧ RelV x u ∧ J.yld i H x H' ∧ tn (i + 1) s2.heap ∧ ∀ b ∈ fp, H' b = none) E s1) E s
  done : ∀ (X : Cx), X.prog = P → X.w = w → X.K = K → X.calm = true → ∀ (i : Nat) (pins : List (Addr × Obj)) (s : Shared) (σ : St) (H : Hp) (E : Value → Shared → Prop), Inv X pins σ H s → (∀ b ∈ fp, FpOk X pins H b) → tn i s.heap → J.stop i H →
    wpAny (model P w) X.A (pyNext (.ref it)) (fun r s1 => r = none ∧ Inv X pins σ H s1) E s
  self : ∀ (A : Around) (i : Nat) (s : Shared) (Q : Value → Shared → Prop) (E : Value → Shared → Prop), tn i s.heap → Q (.ref it) s → wpAny (model P w) A (pyIter (.ref it)) Q E s
abbrev TI := St → Hp → (It → Hp → Prop) → Prop
def PIE (X : Cx) (pins : List (Addr × Obj)) (σ : St) (tg : Expr) (R : It → Hp → Prop) (itv : Value) (s2 : Shared) : Prop :=
  ∃ (it : Addr) (fp : List Addr) (tn : Nat → Heap → Prop) (J : It) (H' : Hp), itv = .ref it ∧ Inv X pins σ H' s2 ∧ Turn X.prog X.w X.K tg J fp it tn ∧ tn 0 s2.heap ∧ (∀ b ∈ fp, FpOk X pins H' b) ∧ R J H'
def PI (X : Cx) (tg iter : Expr) (wi : TI) : Prop :=
  ∀ (pins : List (Addr × Obj)) (s : Shared) (σ : St) (H : Hp) (R : It → Hp → Prop), Inv X pins σ H s → wi σ H R →
    wpAny (model X.prog X.w) X.A (eval iter X.env) (fun v s1 => wpAny (model X.prog X.w) X.A (pyIter v) (PIE X pins σ tg R) X.xe s1) X.xe s

theorem go_of {M : Model} {A : Around} {E : Value → Shared → Prop} {s : Shared} {tg : Expr} {it : Addr} {u : Value} {o : Obj} {n : String} {vs : Array Value} {Q : Unit → Shared → Prop} (ho : s.heap.get? it = some o) (hc : o.cls = .type n) (hd : o.data = .fields vs)
    (hn : ["enumerate", "zip", "dict_itemiterator", "dict_reverseitemiterator", "odict_iterator", "itertools.zip_longest", "itertools.pairwise"].contains n = false) (hQ : Q () s) : wpAny M A (letOwnedTupleGo tg (.ref it) u) Q E s := by
  unfold letOwnedTupleGo
  cases tg <;> first
    | exact wpAny_pure hQ
    | (cases u <;> first
        | exact wpAny_pure hQ
        | (refine wpAny_bind (wpAny_load ho ?_)
           rw [hc, hd]
           show wpAny M A (if (["enumerate", "zip", "dict_itemiterator", "dict_reverseitemiterator", "odict_iterator", "itertools.zip_longest", "itertools.pairwise"].contains n && vs[0]? == some (rawInt _)) = true then _ else _) Q E s
           rw [if_neg (by intro h; rw [hn, Bool.false_and] at h; cases h)]
           exact wpAny_pure hQ))

def Itl (K : PySem.W.Frag) (a : Addr) : It :=
  ⟨fun i H => ∃ xs x, SqL K H a xs ∧ xs[i]? = some x, fun i H x H' => H' = H ∧ ∀ xs, SqL K H a xs → xs[i]? = some x, fun i H => ∃ xs, SqL K H a xs ∧ xs.length ≤ i⟩
def Itr (lo : Int) (n : Nat) : It := ⟨fun i _ => i < n, fun i H x H' => H' = H ∧ x = .int (lo + i), fun i _ => n ≤ i⟩
theorem turn_list {P : Program} {w : World} {K : PySem.W.Frag} {tg : Expr} (a it : Addr) : Turn P w K tg (Itl K a) [it] it (fun i h => h.IsListIter it a i) where
  mem := by simp
  obj := fun i h st b hb => by
    have e : b = it := by simpa using hb
    subst e
    obtain ⟨o, e, c, d⟩ := st
    exact ⟨o, e, fun v z => by rw [d] at z; cases z⟩
  keep := fun i h h' st k => st.at fun o e => k it (by simp) o e
  item := by
    intro X hP hw hK hc i pins s σ H E I hf st hg
    subst hP hw hK
    obtain ⟨xs, x, hq, hx⟩ := hg
    obtain ⟨its, rv, p, hz⟩ := I.list hq
    obtain ⟨u, hu, ru⟩ := rv.get hx
    obtain ⟨f0, f1, f2, f3, f4, f5⟩ := hf it (by simp)
    refine wpAny_pyNext_list_item st p.isList (x := u) (by simpa using hu) fun h' st' sb => ?_
    have I1 : Inv X pins σ H { s with heap := h' } := I.turned (t' := s.toks) (fun b o hb e => (sb.2 b hb).trans e) f0 f1 f3 f4 f5
    obtain ⟨o, e, c, d⟩ := id st'
    exact ⟨u, rfl, go_of (s := { s with heap := h' }) e c d (by decide) ⟨x, H, I1, ru, ⟨rfl, fun ys hy => by rw [I.list_inj hy hq]; exact hx⟩, st', fun b hb => (hf b hb).1⟩⟩
  done := by
    intro X hP hw hK hc i pins s σ H E I hf st hg
    subst hP hw hK
    obtain ⟨xs, hq, hx⟩ := hg
    obtain ⟨its, rv, p, hz⟩ := I.list hq
    obtain ⟨f0, f1, f2, f3, f4, f5⟩ := hf it (by simp)
    have hl := rv.length
    exact wpAny_pyNext_list_end (I.ok.hd hc) st p.isList (by simp; omega) fun h' eb => ⟨rfl, I.turned (t' := s.toks) (fun b o hb e => eb b o hb e) f0 f1 f3 f4 f5⟩
  self := fun _ _ _ _ _ st h => wpAny_pyIter_listiter st h
theorem turn_range {P : Program} {w : World} {K : PySem.W.Frag} {tg : Expr} (it : Addr) (lo : Int) (n : Nat) : Turn P w K tg (Itr lo n) [it] it (fun i h => IsRangeIter h it (lo + (i : Nat) * 1) ((n : Int) - (i : Nat)) 1) where
  mem := by simp
  obj := fun i h st b hb => by
    have e : b = it := by simpa using hb
    subst e
    exact ⟨_, st, fun v z => by
      have z' : Data.fields _ = Data.cell v := z
      cases z'⟩
  keep := fun i h h' st k => k it (by simp) _ st
  item := by
    intro X hP hw hK hc i pins s σ H E I hf st hg
    subst hP hw hK
    obtain ⟨f0, f1, f2, f3, f4, f5⟩ := hf it (by simp)
    have W := Walks.range (prog := X.prog) (w := X.w) (I.ok.hd hc) it lo 1 n
    refine W.item i s _ _ hg st fun v h' tk hv st' kk => ?_
    obtain ⟨t, rfl⟩ := hv
    have I1 : Inv X pins σ H { s with heap := h', toks := tk } := I.turned (fun b o hb e => kk b o (by simpa using hb) e) f0 f1 f3 f4 f5
    refine ⟨_, rfl, go_of (s := { s with heap := h', toks := tk }) (n := "range_iterator") st' rfl rfl (by decide) ⟨.int (lo + i), H, I1, ⟨t, ?_⟩, ⟨rfl, rfl⟩, st', fun b hb => (hf b hb).1⟩⟩
    rw [Int.mul_one]
  done := by
    intro X hP hw hK hc i pins s σ H E I hf st hg
    subst hP hw hK
    obtain ⟨f0, f1, f2, f3, f4, f5⟩ := hf it (by simp)
    exact wpAny_pyNext_range_end (I.ok.hd hc) st (by have : n ≤ i := hg; omega) fun h' eb => ⟨rfl, I.turned (t' := s.toks) (fun b o hb e => eb b o hb e) f0 f1 f3 f4 f5⟩
  self := fun _ _ _ _ _ st h => wpAny_pyIter_rangeiter st h
end L2

namespace L2
open PySem PySem.Spec PyProof.Rows
section
variable {X : Cx} {tg : Expr}
def iList (K : PySem.W.Frag) (tl : TE) : TI := fun σ H R => tl σ H fun x H1 => ∃ a, x = .ref a ∧ (∃ xs, SqL K H1 a xs) ∧ R (Itl K a) H1
theorem pi_list {l : Expr} {tl : TE} (hl : PE X l tl) : PI X tg l (iList X.K tl) := by
  intro pins s σ H R I h
  refine thn (hl pins s σ H _ I h) fun v s1 ⟨x, H1, I1, r1, q1⟩ => ?_
  obtain ⟨a, e, ⟨xs, hq⟩, q⟩ := q1
  subst e
  cases r1
  obtain ⟨its, rv, p, hz⟩ := I1.list hq
  refine wpAny_pyIter_list p.isList ?_
  refine ⟨s1.heap.objs.size, [s1.heap.objs.size], _, _, H1, rfl, I1.kept (t' := s1.toks) fun b o e => Heap.get?_push_of_some _ e, turn_list a _, ⟨_, Heap.get?_push_size _ rfl, rfl, rfl⟩, fun b hb => ?_, q⟩
  have e : b = s1.heap.objs.size := by simpa using hb
  subst e
  exact I1.fpOk (Nat.le_refl _) (I1.hok.fresh (Nat.le_refl _))
theorem range_it {pins : List (Addr × Obj)} {σ : St} {H : Hp} {s : Shared} {R : It → Hp → Prop} {E : Value → Shared → Prop} {lo hi : Int} {t u v : Tok} {tk : Nat} (I : Inv X pins σ H s) (h1 : -(2 ^ 62) ≤ lo) (h2 : lo < 2 ^ 62) (h3 : -(2 ^ 62) ≤ hi) (h4 : hi < 2 ^ 62)
    (q : R (Itr lo (hi - lo).toNat) H) : wpAny (model X.prog X.w) X.A (pyIter (.ref s.heap.objs.size)) (PIE X pins σ tg R) E { s with heap := s.heap.push { cls := .type "range", data := .fields #[.int lo t, .int hi u, .int 1 v] }, toks := tk } := by
  refine wpAny_pyIter_range (IsRange.new ..) (small_one h1 h2 h3 h4) ?_
  have I1 : Inv X pins σ H { s with heap := s.heap.push { cls := .type "range", data := .fields #[.int lo t, .int hi u, .int 1 v] }, toks := tk } := I.kept fun b o e => Heap.get?_push_of_some _ e
  refine ⟨(s.heap.push { cls := .type "range", data := .fields #[.int lo t, .int hi u, .int 1 v] }).objs.size, [(s.heap.push { cls := .type "range", data := .fields #[.int lo t, .int hi u, .int 1 v] }).objs.size], _, _, H, rfl,
    I1.kept (t' := tk) fun b o e => Heap.get?_push_of_some _ e, turn_range _ lo (hi - lo).toNat, ?_, fun b hb => ?_, q⟩
  · have e1 : lo + ((0 : Nat) : Int) * 1 = lo := by simp
    have e2 : (((hi - lo).toNat : Nat) : Int) - ((0 : Nat) : Int) = Builtin.Range.rangeSize lo hi 1 := by rw [rangeSize_one]; split <;> omega
    show IsRangeIter _ _ (lo + ((0 : Nat) : Int) * 1) ((((hi - lo).toNat : Nat) : Int) - ((0 : Nat) : Int)) 1
    rw [e1, e2]
    exact Heap.get?_push_size _ rfl
  · have e : b = (s.heap.push { cls := .type "range", data := .fields #[.int lo t, .int hi u, .int 1 v] }).objs.size := by simpa using hb
    subst e
    exact I1.fpOk (Nat.le_refl _) (I1.hok.fresh (Nat.le_refl _))
def iRng1 (ta : TA) : TI := fun σ H R => ta σ H fun vs H1 => ∃ j : Int, vs = [.int j] ∧ -(2 ^ 62) ≤ j ∧ j < 2 ^ 62 ∧ R (Itr 0 j.toNat) H1
theorem pi_range1 {a : Expr} {ta : TA} {p pos : Pos} (hg : Gl X "range") (hm : X.mg "range" = none) (ha : PA X [a] ta) (hs : starEach [a] X.env = [(false, eval a X.env)] := by rfl) : PI X tg (.Call (.Name "range" p) [a] [] pos) (iRng1 ta) := by
  intro pins s σ H R I h
  refine Call_ (ld_blt I hg hm boot_range (PyProof.Rows.callWith_type1 (thn (ha pos pins s σ H _ I h) fun us s1 ⟨vs, H1, I1, r1, q1⟩ => ?_) hs rfl))
  obtain ⟨j, e, q1, q2, q⟩ := q1
  subst e
  cases r1 with
  | cons r rr =>
    cases rr
    obtain ⟨t, rfl⟩ := r
    exact call_range_1 (range_it I1 (by omega) (by omega) q1 q2 (by simpa using q))
def tFor (wi : TI) (g : TG) (tb : TS) : TS := fun D σ H => wi σ H fun J H1 => ∃ W : Nat → Nat → St → Hp → Prop, (∃ m, W 0 m σ H1) ∧ ∀ i m σ H, W i m σ H →
  (J.stop i H ∧ D.nx σ H) ∨ (J.go i H ∧ ∃ N : St → Hp → Prop, (∀ σ' H', N σ' H' → ∃ m', m' < m ∧ W (i + 1) m' σ' H') ∧ ∀ x H', J.yld i H x H' → g x σ H' fun σ2 H2 => tb { D with nx := N, ct := N, bk := D.nx } σ2 H2)
def pinsAt (fp : List Addr) (h : Heap) : List (Addr × Obj) := fp.filterMap fun b => (h.get? b).map fun o => (b, o)
theorem mem_pinsAt {fp : List Addr} {h : Heap} {b : Addr} {o : Obj} (hb : b ∈ fp) (e : h.get? b = some o) : (b, o) ∈ pinsAt fp h := List.mem_filterMap.mpr ⟨b, hb, by rw [e]; rfl⟩
theorem of_pinsAt {fp : List Addr} {h : Heap} {p : Addr × Obj} (hp : p ∈ pinsAt fp h) : p.1 ∈ fp ∧ h.get? p.1 = some p.2 := by
  obtain ⟨b, hb, e⟩ := List.mem_filterMap.mp hp
  cases q : h.get? b with
  | none => rw [q] at e; cases e
  | some o =>
    rw [q] at e
    have e' : (b, o) = p := Option.some.inj e
    subst e'
    exact ⟨hb, q⟩
theorem Inv.pinned {pins : List (Addr × Obj)} {σ : St} {H : Hp} {s : Shared} {fp : List Addr} (I : Inv X pins σ H s) (hf : ∀ b ∈ fp, FpOk X pins H b) (ho : ∀ b ∈ fp, ∃ o, s.heap.get? b = some o ∧ ∀ v, o.data ≠ .cell v) : Inv X (pins ++ pinsAt fp s.heap) σ H s :=
  I.pins_of fun p hp => (List.mem_append.mp hp).elim (fun z => I.pin p (List.mem_append_right _ z)) fun z => by
    obtain ⟨hb, e⟩ := of_pinsAt z
    obtain ⟨f0, f1, f2, _⟩ := hf p.1 hb
    obtain ⟨o, e', d⟩ := ho p.1 hb
    rw [e] at e'; cases e'
    exact ⟨e, f0, f1, f2, d⟩
theorem Inv.unpinned {pins pl : List (Addr × Obj)} {σ : St} {H : Hp} {s : Shared} (I : Inv X (pins ++ pl) σ H s) : Inv X pins σ H s := I.pins_of fun p hp => I.pin p (List.mem_append_right _ (List.mem_append_left _ hp))
theorem ps_for {iter : Expr} {body : List Stmt} {wi : TI} {g : TG} {tb : TS} {pos : Pos} (hp : PassesOwn (model X.prog X.w) X.A X.env X.xe) (hc : X.calm = true) (hi : PI X tg iter wi) (hg : PG X tg g) (hb : PSs X body tb)
    (hs : ∀ x, foldedSetIterable iter X.env x = pure x := by intro _; rfl) : PS X (.For tg iter body [] pos) (tFor wi g tb) := by
  intro pins s σ H D I h
  refine wpAny_For (thn (hi pins s σ H _ I h) fun v s1 h1 => thn h1 fun itv s2 h2 => ?_) hs
  obtain ⟨it, fp, tn, J, H2, e, I2, T, st2, f2, W, ⟨m0, w0⟩, turn⟩ := h2
  subst e
  -- what stays true of the iterator's objects through the loop
  have stat : ∀ {H' : Hp}, (∀ b ∈ fp, H' b = none) → ∀ b ∈ fp, FpOk X pins H' b := fun hn b hb => ⟨hn b hb, (f2 b hb).2⟩
  refine codeAny_forLoop_any (fun n s' => ∃ i σ' H', Inv X pins σ' H' s' ∧ tn i s'.heap ∧ (∀ b ∈ fp, H' b = none) ∧ W i n σ' H') ?_ m0 ⟨0, σ, H2, I2, st2, fun b hb => (f2 b hb).1, w0⟩
  rintro n s3 ⟨i, σ3, H3, I3, st3, fr3, w3⟩
  rcases turn i n σ3 H3 w3 with ⟨stop, qn⟩ | ⟨go, N, hN, step⟩
  · refine wpAny_passesOwn hp (thn (T.done X rfl rfl rfl hc i pins s3 σ3 H3 X.xe I3 (stat fr3) st3 stop) fun r s4 ⟨hr, I4⟩ => ?_)
    subst hr
    exact wpAny_execs_nil ⟨σ3, H3, I4, qn⟩
  · refine wpAny_passesOwn hp (thn (T.item X rfl rfl rfl hc i pins s3 σ3 H3 X.xe I3 (stat fr3) st3 go) fun r s4 ⟨u, hr, h4⟩ => ?_)
    subst hr
    refine wpAny_passesOwn hp (thn h4 fun _ s5 ⟨x, H5, I5, r5, y5, st5, fr5⟩ => ?_)
    have I5' := I5.pinned (stat fr5) (T.obj _ _ st5)
    refine wpAny_passesOwn hp (thn (hg _ s5 σ3 H5 x u _ I5' r5 (step x H5 y5)) fun _ s6 ⟨σ6, H6, I6, q6⟩ => ?_)
    refine wpAny_passesOwn hp (thn (hb _ s6 σ6 H6 _ I6 q6) fun f s7 q7 => ?_)
    have again : ∀ {σ7 : St} {H7 : Hp}, Inv X (pins ++ pinsAt fp s5.heap) σ7 H7 s7 → N σ7 H7 → ∃ m, m < n ∧ ∃ i σ' H', Inv X pins σ' H' s7 ∧ tn i s7.heap ∧ (∀ b ∈ fp, H' b = none) ∧ W i m σ' H' := fun {σ7 H7} I7 n7 => by
      obtain ⟨m', hm, w7⟩ := hN σ7 H7 n7
      refine ⟨m', hm, i + 1, σ7, H7, I7.unpinned, T.keep _ _ _ st5 fun b hb o e => (I7.pin (b, o) (List.mem_append_right _ (List.mem_append_right _ (mem_pinsAt hb e)))).1, fun b hb => ?_, w7⟩
      obtain ⟨o, e, d⟩ := T.obj _ _ st5 b hb
      exact (I7.pin (b, o) (List.mem_append_right _ (List.mem_append_right _ (mem_pinsAt hb e)))).2.1
    cases f with
    | next => obtain ⟨σ7, H7, I7, n7⟩ := q7; exact again I7 n7
    | cont => obtain ⟨σ7, H7, I7, n7⟩ := q7; exact again I7 n7
    | brk => obtain ⟨σ7, H7, I7, q7⟩ := q7; exact ⟨σ7, H7, I7.unpinned, q7⟩
    | ret v => obtain ⟨x7, σ7, H7, I7, r7, q7⟩ := q7; exact ⟨x7, σ7, H7, I7.unpinned, r7, q7⟩
end

theorem for_list {K : PySem.W.Frag} {a : Addr} {xs : List V} {g : TG} {tb : TS} {D : Ends} {σ : St} {H : Hp} (Pv : Nat → St → Hp → Prop) (h0 : Pv 0 σ H) (hl : ∀ i σ H, i ≤ xs.length → Pv i σ H → SqL K H a xs)
    (hs : ∀ i x σ H, xs[i]? = some x → Pv i σ H → g x σ H fun σ2 H2 => tb { D with nx := Pv (i + 1), ct := Pv (i + 1), bk := D.nx } σ2 H2) (hd : ∀ σ H, Pv xs.length σ H → D.nx σ H) :
    ∃ W : Nat → Nat → St → Hp → Prop, (∃ m, W 0 m σ H) ∧ ∀ i m σ H, W i m σ H →
      ((Itl K a).stop i H ∧ D.nx σ H) ∨ ((Itl K a).go i H ∧ ∃ N : St → Hp → Prop, (∀ σ' H', N σ' H' → ∃ m', m' < m ∧ W (i + 1) m' σ' H') ∧ ∀ x H', (Itl K a).yld i H x H' → g x σ H' fun σ2 H2 => tb { D with nx := N, ct := N, bk := D.nx } σ2 H2) := by
  refine ⟨fun i m σ H => m = xs.length - i ∧ i ≤ xs.length ∧ Pv i σ H, ⟨xs.length, by simp, Nat.zero_le _, h0⟩, ?_⟩
  rintro i m σ H ⟨rfl, hi, p⟩
  have q := hl i σ H hi p
  by_cases hlt : i < xs.length
  · refine .inr ⟨⟨xs, xs[i], q, by simp [hlt]⟩, Pv (i + 1), fun σ' H' p' => ⟨xs.length - (i + 1), by omega, rfl, hlt, p'⟩, fun x H' y => ?_⟩
    obtain ⟨e, y⟩ := y
    subst e
    exact hs i x σ _ (y xs q) p
  · have e : i = xs.length := by omega
    subst e
    exact .inl ⟨⟨xs, q, Nat.le_refl _⟩, hd σ H p⟩
theorem for_range {lo : Int} {n : Nat} {g : TG} {tb : TS} {D : Ends} {σ : St} {H : Hp} (Pv : Nat → St → Hp → Prop) (h0 : Pv 0 σ H)
    (hs : ∀ i σ H, i < n → Pv i σ H → g (.int (lo + i)) σ H fun σ2 H2 => tb { D with nx := Pv (i + 1), ct := Pv (i + 1), bk := D.nx } σ2 H2) (hd : ∀ σ H, Pv n σ H → D.nx σ H) :
    ∃ W : Nat → Nat → St → Hp → Prop, (∃ m, W 0 m σ H) ∧ ∀ i m σ H, W i m σ H →
      ((Itr lo n).stop i H ∧ D.nx σ H) ∨ ((Itr lo n).go i H ∧ ∃ N : St → Hp → Prop, (∀ σ' H', N σ' H' → ∃ m', m' < m ∧ W (i + 1) m' σ' H') ∧ ∀ x H', (Itr lo n).yld i H x H' → g x σ H' fun σ2 H2 => tb { D with nx := N, ct := N, bk := D.nx } σ2 H2) := by
  refine ⟨fun i m σ H => m = n - i ∧ i ≤ n ∧ Pv i σ H, ⟨n, by simp, Nat.zero_le _, h0⟩, ?_⟩
  rintro i m σ H ⟨rfl, hi, p⟩
  by_cases hlt : i < n
  · refine .inr ⟨hlt, Pv (i + 1), fun σ' H' p' => ⟨n - (i + 1), by omega, rfl, hlt, p'⟩, fun x H' y => ?_⟩
    obtain ⟨e, y⟩ := y
    subst e y
    exact hs i σ _ hlt p
  · have e : i = n := by omega
    subst e
    exact .inl ⟨Nat.le_refl _, hd σ H p⟩
end L2

namespace L2
open PySem PySem.Spec PyProof.Rows

abbrev R2 := V → V → Hp → VK → Prop
def OpR (X : Cx) (f : Value → Value → Sem Value) (r : R2) : Prop :=
  ∀ (pins : List (Addr × Obj)) (s : Shared) (σ : St) (H : Hp) (x y : V) (v u : Value) (Q : VK), Inv X pins σ H s → RelV x v → RelV y u → r x y H Q →
    wpAny (model X.prog X.w) X.A (f v u) (EP X pins σ Q) X.xe s
def UnR (X : Cx) (f : Value → Sem Value) (r : V → Hp → VK → Prop) : Prop :=
  ∀ (pins : List (Addr × Obj)) (s : Shared) (σ : St) (H : Hp) (x : V) (v : Value) (Q : VK), Inv X pins σ H s → RelV x v → r x H Q →
    wpAny (model X.prog X.w) X.A (f v) (EP X pins σ Q) X.xe s
def CallR (X : Cx) (f : Value) (r : List V → Hp → VK → Prop) : Prop :=
  ∀ (pins : List (Addr × Obj)) (s : Shared) (σ : St) (H : Hp) (xs : List V) (us : List Value) (Q : VK), Inv X pins σ H s → Vals xs us → r xs H Q →
    wpAny (model X.prog X.w) X.A (call f us) (EP X pins σ Q) X.xe s
def tOp (r : R2) (ta tb : TE) : TE := fun σ H Q => ta σ H fun x H1 => tb σ H1 fun y H2 => r x y H2 Q
def tUn (r : V → Hp → VK → Prop) (ta : TE) : TE := fun σ H Q => ta σ H fun x H1 => r x H1 Q
def rI (C : Int → Int → Prop) (g : Int → Int → V) : R2 := fun x y H Q => ∃ i j, x = .int i ∧ y = .int j ∧ C i j ∧ Q (g i j) H
def rI0 (g : Int → Int → V) : R2 := fun x y H Q => ∃ i j, x = .int i ∧ y = .int j ∧ Q (g i j) H
def rU (g : Int → V) : V → Hp → VK → Prop := fun x H Q => ∃ i, x = .int i ∧ Q (g i) H

section
variable {X : Cx} {a b c : Expr} {ta tb tc : TE} {pos : Pos}

theorem binT (ha : PE X a ta) (hb : PE X b tb) {pins : List (Addr × Obj)} {s : Shared} {σ : St} {H : Hp} {R : V → V → Hp → Prop} (I : Inv X pins σ H s)
    (h : ta σ H fun x H1 => tb σ H1 fun y H2 => R x y H2) {Q : Value → Shared → Prop} {f : Value → Value → Sem Value}
    (hf : ∀ v u s2 x y H2, Inv X pins σ H2 s2 → RelV x v → RelV y u → R x y H2 → wpAny (model X.prog X.w) X.A (f v u) Q X.xe s2) :
    wpAny (model X.prog X.w) X.A (eval a X.env) (fun v s₁ => wpAny (model X.prog X.w) X.A (eval b X.env) (fun u s₂ => wpAny (model X.prog X.w) X.A (f v u) Q X.xe s₂) X.xe s₁) X.xe s := by
  refine thn (ha pins s σ H _ I h) fun v s1 ⟨x, H1, I1, r1, q1⟩ => ?_
  refine thn (hb pins s1 σ H1 _ I1 q1) fun u s2 ⟨y, H2, I2, r2, q2⟩ => ?_
  exact hf v u s2 x y H2 I2 r1 r2 q2

theorem pe_op {op : Operator} {r : R2} (ho : OpR X (binaryOp op) r) (ha : PE X a ta) (hb : PE X b tb) : PE X (.BinOp a op b pos) (tOp r ta tb) := by
  intro pins s σ H Q I h
  exact wpAny_BinOp (binT ha hb I h fun v u s2 x y H2 I2 rx ry q => ho pins s2 σ H2 x y v u Q I2 rx ry q)
theorem pe_un {op : UnaryOp} {r : V → Hp → VK → Prop} (ho : UnR X (unaryOp op) r) (ha : PE X a ta) : PE X (.UnaryOp op a pos) (tUn r ta) := by
  intro pins s σ H Q I h
  exact UnaryOp_ (thn (ha pins s σ H _ I h) fun v s1 ⟨x, H1, I1, r1, q1⟩ => ho pins s1 σ H1 x v Q I1 r1 q1)
theorem opI {f : Value → Value → Sem Value} {C : Int → Int → Prop} {g : Int → Int → Int}
    (rule : ∀ (i j : Int) (t u : Tok) (s : Shared) (Q : Value → Shared → Prop) (E : Value → Shared → Prop), C i j → Q (.int (g i j) s.toks) { s with toks := s.toks + 1 } → wpAny (model X.prog X.w) X.A (f (.int i t) (.int j u)) Q E s) :
    OpR X f (rI C fun i j => .int (g i j)) := by
  intro pins s σ H x y v u Q I rx ry h
  obtain ⟨i, j, rfl, rfl, hc, q⟩ := h
  obtain ⟨t, rfl⟩ := rx
  obtain ⟨t', rfl⟩ := ry
  exact rule i j t t' s _ _ hc ⟨.int (g i j), H, I.tok _, ⟨_, rfl⟩, q⟩
theorem opI0 {f : Value → Value → Sem Value} {g : Int → Int → Int}
    (rule : ∀ (i j : Int) (t u : Tok) (s : Shared) (Q : Value → Shared → Prop) (E : Value → Shared → Prop), Q (.int (g i j) s.toks) { s with toks := s.toks + 1 } → wpAny (model X.prog X.w) X.A (f (.int i t) (.int j u)) Q E s) :
    OpR X f (rI0 fun i j => .int (g i j)) := by
  intro pins s σ H x y v u Q I rx ry h
  obtain ⟨i, j, rfl, rfl, q⟩ := h
  obtain ⟨t, rfl⟩ := rx
  obtain ⟨t', rfl⟩ := ry
  exact rule i j t t' s _ _ ⟨.int (g i j), H, I.tok _, ⟨_, rfl⟩, q⟩
theorem opB0 {f : Value → Value → Sem Value} {g : Int → Int → Bool}
    (rule : ∀ (i j : Int) (t u : Tok) (s : Shared) (Q : Value → Shared → Prop) (E : Value → Shared → Prop), Q (.bool (g i j)) s → wpAny (model X.prog X.w) X.A (f (.int i t) (.int j u)) Q E s) :
    OpR X f (rI0 fun i j => .bl (g i j)) := by
  intro pins s σ H x y v u Q I rx ry h
  obtain ⟨i, j, rfl, rfl, q⟩ := h
  obtain ⟨t, rfl⟩ := rx
  obtain ⟨t', rfl⟩ := ry
  exact rule i j t t' s _ _ ⟨.bl (g i j), H, I, rfl, q⟩

def CDiv (i j : Int) : Prop := 0 < j ∧ j < 1073741824
def CPow (i j : Int) : Prop := 0 ≤ j ∧ j ≤ 1000000 ∧ i.natAbs < 2 ^ 64
def CMul (i j : Int) : Prop := (-(2 ^ 64) < i ∧ i < 2 ^ 64) ∨ (-(2 ^ 64) < j ∧ j < 2 ^ 64)
theorem CMul.ok {i j : Int} (h : CMul i j) : IntMulOk i j := by
  rcases h with ⟨h1, h2⟩ | ⟨h1, h2⟩
  · exact .of_left (intBits_le_64 h1 h2)
  · exact .of_right (intBits_le_64 h1 h2)
theorem op_add : OpR X (binaryOp .Add) (rI0 fun i j => .int (i + j)) := opI0 fun _ _ _ _ _ _ _ q => add_int q
theorem op_sub : OpR X (binaryOp .Sub) (rI0 fun i j => .int (i - j)) := opI0 fun _ _ _ _ _ _ _ q => sub_int q
theorem op_mul : OpR X (binaryOp .Mult) (rI CMul fun i j => .int (i * j)) := opI fun _ _ _ _ _ _ _ hc q => mul_int q hc.ok
theorem op_fdiv : OpR X (binaryOp .FloorDiv) (rI CDiv fun i j => .int (i / j)) := opI fun i j _ _ _ _ _ hc q => by
  have h1 : (0 : Int) < j := hc.1
  have h2 : j < 1073741824 := hc.2
  exact floordiv_int (by omega) (by rw [Int.fdiv_eq_ediv_of_nonneg i (by omega)]; exact q) (.inl (PyProof.noPylong_small (by omega)))
theorem op_mod : OpR X (binaryOp .Mod) (rI (fun _ j => 0 < j) fun i j => .int (i % j)) := opI fun i j _ _ _ _ _ hc q => by
  have h1 : (0 : Int) < j := hc
  exact mod_int' (by omega) (by rw [Int.fmod_eq_emod_of_nonneg i (by omega)]; exact q)
theorem op_pow : OpR X (binaryOp .Pow) (rI CPow fun i j => .int (i ^ j.toNat)) := opI fun _ _ _ _ _ _ _ hc q => pow_int_small hc.1 hc.2.1 hc.2.2 q
theorem unI {f : Value → Sem Value} {g : Int → Int}
    (rule : ∀ (i : Int) (t : Tok) (s : Shared) (Q : Value → Shared → Prop) (E : Value → Shared → Prop), Q (.int (g i) s.toks) { s with toks := s.toks + 1 } → wpAny (model X.prog X.w) X.A (f (.int i t)) Q E s) :
    UnR X f (rU fun i => .int (g i)) := by
  intro pins s σ H x v Q I rx h
  obtain ⟨i, rfl, q⟩ := h
  obtain ⟨t, rfl⟩ := rx
  exact rule i t s _ _ ⟨.int (g i), H, I.tok _, ⟨_, rfl⟩, q⟩
theorem un_neg : UnR X (unaryOp .USub) (rU fun i => .int (-i)) := unI fun _ _ _ _ _ q => neg_int q
end

def scal : V → V → Bool
  | .non, .non => true | .non, .int _ => true | .int _, .non => true | .non, .bl _ => true | .bl _, .non => true | .non, .str _ => true | .str _, .non => true
  | .int _, .int _ => true | .bl _, .bl _ => true | .str _, .str _ => true | .byt _, .byt _ => true
  | .int _, .str _ => true | .str _, .int _ => true | .bl _, .str _ => true | .str _, .bl _ => true
  | _, _ => false
def rEq : R2 := fun x y H Q => scal x y = true ∧ Q (.bl (decide (x = y))) H
def rNe : R2 := fun x y H Q => scal x y = true ∧ Q (.bl (!decide (x = y))) H

theorem dec_int {i j : Int} : decide (V.int i = V.int j) = (i == j) := by
  rw [Bool.eq_iff_iff]
  simp
theorem dec_bl {i j : Bool} : decide (V.bl i = V.bl j) = (i == j) := by
  rw [Bool.eq_iff_iff]
  simp
theorem dec_str {i j : Str} : decide (V.str i = V.str j) = (i == j) := by
  rw [Bool.eq_iff_iff]
  simp
theorem dec_byt {i j : Array UInt8} : decide (V.byt i = V.byt j) = (i.toList == j.toList) := by
  rw [Bool.eq_iff_iff]
  cases i
  cases j
  simp

section
variable {X : Cx} {a b c : Expr} {ta tb tc : TE} {pos : Pos}
theorem fin_bl {pins : List (Addr × Obj)} {σ : St} {H : Hp} {s : Shared} {Q : VK} {k k' : Bool} (I : Inv X pins σ H s) (q : Q (.bl k) H) (e : k = k') : EP X pins σ Q (.bool k') s := by
  subst e
  exact ⟨.bl k, H, I, rfl, q⟩
theorem op_eq : OpR X (compareOp .Eq) rEq := by
  intro pins s σ H x y v u Q I rx ry h
  obtain ⟨hs, q⟩ := h
  cases x with
  | non =>
    cases rx
    cases y with
    | non => cases ry; exact PySem.EqNone.eq_none_none (fin_bl I q (by simp))
    | bl j => cases ry; exact PySem.EqNone.eq_none_bool (fin_bl I q (by simp))
    | int j => obtain ⟨t', rfl⟩ := ry; exact PySem.EqNone.eq_none_int (fin_bl I q (by simp))
    | str j => obtain ⟨t', rfl⟩ := ry; exact PySem.EqNone.eq_none_str (fin_bl I q (by simp))
    | _ => exact absurd (show false = true from hs) Bool.false_ne_true
  | bl i =>
    cases rx
    cases y with
    | non => cases ry; exact PySem.EqNone.eq_bool_none (fin_bl I q (by simp))
    | bl j => cases ry; exact eq_bool (fin_bl I q dec_bl)
    | str j => obtain ⟨t', rfl⟩ := ry; exact PySem.EqMixed.eq_bool_str (fin_bl I q (by simp))
    | _ => exact absurd (show false = true from hs) Bool.false_ne_true
  | int i =>
    obtain ⟨t, rfl⟩ := rx
    cases y with
    | non => cases ry; exact PySem.EqNone.eq_int_none (fin_bl I q (by simp))
    | int j => obtain ⟨t', rfl⟩ := ry; exact eq_int (fin_bl I q dec_int)
    | str j => obtain ⟨t', rfl⟩ := ry; exact PySem.EqMixed.eq_int_str (fin_bl I q (by simp))
    | _ => exact absurd (show false = true from hs) Bool.false_ne_true
  | str i =>
    obtain ⟨t, rfl⟩ := rx
    cases y with
    | non => cases ry; exact PySem.EqNone.eq_str_none (fin_bl I q (by simp))
    | bl j => cases ry; exact PySem.EqMixed.eq_str_bool (fin_bl I q (by simp))
    | int j => obtain ⟨t', rfl⟩ := ry; exact PySem.EqMixed.eq_str_int (fin_bl I q (by simp))
    | str j => obtain ⟨t', rfl⟩ := ry; exact eq_str (fin_bl I q dec_str)
    | _ => exact absurd (show false = true from hs) Bool.false_ne_true
  | byt i =>
    obtain ⟨t, rfl⟩ := rx
    cases y with
    | byt j => obtain ⟨t', rfl⟩ := ry; exact PySem.W.eq_bytes (fin_bl I q dec_byt)
    | _ => exact absurd (show false = true from hs) Bool.false_ne_true
  | _ => cases y <;> exact absurd (show false = true from hs) Bool.false_ne_true
theorem op_ne : OpR X (compareOp .NotEq) rNe := by
  intro pins s σ H x y v u Q I rx ry h
  obtain ⟨hs, q⟩ := h
  cases x with
  | non =>
    cases rx
    cases y with
    | non => cases ry; exact PySem.EqNone.ne_none_none (fin_bl I q (by simp))
    | bl j => cases ry; exact PySem.EqNone.ne_none_bool (fin_bl I q (by simp))
    | int j => obtain ⟨t', rfl⟩ := ry; exact PySem.EqNone.ne_none_int (fin_bl I q (by simp))
    | str j => obtain ⟨t', rfl⟩ := ry; exact PySem.EqNone.ne_none_str (fin_bl I q (by simp))
    | _ => exact absurd (show false = true from hs) Bool.false_ne_true
  | bl i =>
    cases rx
    cases y with
    | non => cases ry; exact PySem.EqNone.ne_bool_none (fin_bl I q (by simp))
    | bl j => cases ry; exact ne_bool (fin_bl I q (congrArg not dec_bl))
    | str j => obtain ⟨t', rfl⟩ := ry; exact PySem.EqMixed.ne_bool_str (fin_bl I q (by simp))
    | _ => exact absurd (show false = true from hs) Bool.false_ne_true
  | int i =>
    obtain ⟨t, rfl⟩ := rx
    cases y with
    | non => cases ry; exact PySem.EqNone.ne_int_none (fin_bl I q (by simp))
    | int j => obtain ⟨t', rfl⟩ := ry; exact ne_int (fin_bl I q (congrArg not dec_int))
    | str j => obtain ⟨t', rfl⟩ := ry; exact PySem.EqMixed.ne_int_str (fin_bl I q (by simp))
    | _ => exact absurd (show false = true from hs) Bool.false_ne_true
  | str i =>
    obtain ⟨t, rfl⟩ := rx
    cases y with
    | non => cases ry; exact PySem.EqNone.ne_str_none (fin_bl I q (by simp))
    | bl j => cases ry; exact PySem.EqMixed.ne_str_bool (fin_bl I q (by simp))
    | int j => obtain ⟨t', rfl⟩ := ry; exact PySem.EqMixed.ne_str_int (fin_bl I q (by simp))
    | str j => obtain ⟨t', rfl⟩ := ry; exact ne_str (fin_bl I q (congrArg not dec_str))
    | _ => exact absurd (show false = true from hs) Bool.false_ne_true
  | byt i =>
    obtain ⟨t, rfl⟩ := rx
    cases y with
    | byt j => obtain ⟨t', rfl⟩ := ry; exact PySem.W.ne_bytes (fin_bl I q (congrArg not dec_byt))
    | _ => exact absurd (show false = true from hs) Bool.false_ne_true
  | _ => cases y <;> exact absurd (show false = true from hs) Bool.false_ne_true

theorem op_lt : OpR X (compareOp .Lt) (rI0 fun i j => .bl (decide (i < j))) := opB0 fun _ _ _ _ _ _ _ q => lt_int q
theorem op_le : OpR X (compareOp .LtE) (rI0 fun i j => .bl (decide (i ≤ j))) := opB0 fun _ _ _ _ _ _ _ q => le_int q
theorem op_ge : OpR X (compareOp .GtE) (rI0 fun i j => .bl (decide (j ≤ i))) := opB0 fun _ _ _ _ _ _ _ q => ge_int q
theorem op_isN : OpR X (compareOp .Is) (fun x y H Q => y = .non ∧ Q (.bl (decide (x = .non))) H) := by
  intro pins s σ H x y v u Q I rx ry h
  obtain ⟨rfl, q⟩ := h
  cases ry
  refine is_none_gen (fin_bl I q ?_)
  cases x <;> first
    | (cases rx; rfl)
    | (obtain ⟨t, rfl⟩ := rx; rfl)
theorem nomark (b : Expr) {op : CmpOp} (h : op ≠ .In := by decide) (h2 : op ≠ .NotIn := by decide) : behindInMarks op b = false := by
  have e1 : (op == CmpOp.In) = false := by cases op <;> first | rfl | exact absurd rfl h
  have e2 : (op == CmpOp.NotIn) = false := by cases op <;> first | rfl | exact absurd rfl h2
  cases b <;> simp [behindInMarks, e1, e2]
theorem pe_cmpR {op : CmpOp} {r : R2} (ho : OpR X (compareOp op) r) (ha : PE X a ta) (hb : PE X b tb) (hm : behindInMarks op b = false) : PE X (.Compare a [op] [b] pos) (tOp r ta tb) := by
  intro pins s σ H Q I h
  exact wpAny_Compare1 (binT ha hb I h fun v u s2 x y H2 I2 rx ry q => ho pins s2 σ H2 x y v u Q I2 rx ry q) hm
def tTest (t : TE) : TT := fun σ H Q => t σ H fun x H' => ∃ k, x = .bl k ∧ Q k H'
theorem pt_cmpR {op : CmpOp} {r : R2} (ho : OpR X (compareOp op) r) (ha : PE X a ta) (hb : PE X b tb) (hm : behindInMarks op b = false) : PT X (.Compare a [op] [b] pos) (tTest (tOp r ta tb)) := by
  intro pins s σ H Q I h
  refine wpAny_isTrue_Compare1 (thn (ha pins s σ H _ I h) fun v s1 ⟨x, H1, I1, r1, q1⟩ => thn (hb pins s1 σ H1 _ I1 q1) fun u s2 ⟨y, H2, I2, r2, q2⟩ =>
    thn (ho pins s2 σ H2 x y v u _ I2 r1 r2 q2) fun c s3 ⟨z, H3, I3, r3, k, e, q3⟩ => ?_) hm
  subst e
  cases r3
  exact wpAny_truthy_bool ⟨H3, I3, q3⟩
def tChain (r r' : R2) (ta tb tc : TE) : TE := fun σ H Q => ta σ H fun x H1 => tb σ H1 fun y H2 => r x y H2 fun z H3 => ∃ k, z = .bl k ∧
  (if k = true then tc σ H3 fun w' H4 => r' y w' H4 Q else Q (.bl false) H3)
theorem pe_chain {op op' : CmpOp} {r r' : R2} (ho : OpR X (compareOp op) r) (ho' : OpR X (compareOp op') r') (ha : PE X a ta) (hb : PE X b tb) (hc : PE X c tc)
    (hm : lastMarks [op, op'] [b, c] = false := by with_unfolding_all rfl) : PE X (.Compare a [op, op'] [b, c] pos) (tChain r r' ta tb tc) := by
  intro pins s σ H Q I h
  refine Compare_chain (thn (ha pins s σ H _ I h) fun v s1 ⟨x, H1, I1, r1, q1⟩ => chain_link (thn (hb pins s1 σ H1 _ I1 q1) fun u s2 ⟨y, H2, I2, r2, q2⟩ =>
    thn (ho pins s2 σ H2 x y v u _ I2 r1 r2 q2) fun d s3 ⟨z, H3, I3, r3, k, e, q3⟩ => ?_)) hm
  subst e
  cases r3
  refine wpAny_truthy_bool ?_
  cases k with
  | false => exact ite_ff ⟨.bl false, H3, I3, rfl, q3⟩
  | true => exact ite_tt (chain_last (thn (hc pins s3 σ H3 _ I3 q3) fun w' s4 ⟨z', H4, I4, r4, q4⟩ => ho' pins s4 σ H4 y z' u w' Q I4 r2 r4 q4))
theorem line63 : (sizeLine : Nat) < 2 ^ 63 := by rw [sizeLine_eq]; decide
theorem vals1 {x : V} {us : List Value} (r : Vals [x] us) : ∃ u, us = [u] ∧ RelV x u := by
  cases r with
  | cons r1 r2 => cases r2; exact ⟨_, rfl, r1⟩
theorem vals2 {x y : V} {us : List Value} (r : Vals [x, y] us) : ∃ u w', us = [u, w'] ∧ RelV x u ∧ RelV y w' := by
  cases r with
  | cons r1 r2 =>
    cases r2 with
    | cons r3 r4 => cases r4; exact ⟨_, _, rfl, r1, r3⟩
theorem call_max2 (hc : X.calm = true) : CallR X (.builtin "max") (fun xs H Q => ∃ i j, xs = [.int i, .int j] ∧ Q (.int (if j > i then j else i)) H) := by
  intro pins s σ H xs us Q I r h
  obtain ⟨i, j, rfl, q⟩ := h
  obtain ⟨u, w', rfl, ⟨t, rfl⟩, ⟨t', rfl⟩⟩ := vals2 r
  refine max_two_ints (I.ok.hd hc) fun h' tk k => ⟨_, H, I.kept k, ?_, q⟩
  by_cases hj : j > i
  · rw [if_pos hj, if_pos hj]; exact ⟨_, rfl⟩
  · rw [if_neg hj, if_neg hj]; exact ⟨_, rfl⟩
end
end L2

namespace L2
open PySem PySem.Spec PyProof.Rows

structure ObjM (h : Heap) (x dx C : Addr) (mA : Str → Option Value) : Prop where
  obj : h.get? x = some (PySem.W.instObj C dx)
  ns : h.Ns1 dx mA
  ne : dx ≠ x

theorem lookIn_ns {h : Heap} {dx : Addr} {mA : Str → Option Value} (n : h.Ns1 dx mA) : ∃ od, h.get? dx = some od ∧ ∀ name, PySem.W.lookIn name od = some (mA name) := by
  obtain ⟨o, es, ep, ho, hd, hk, _, hm⟩ := n
  refine ⟨o, ho, fun name => ?_⟩
  have e := hm name
  unfold nsFind findBy at e
  rw [← Array.find?_toList] at e
  unfold PySem.W.lookIn
  rw [hd]
  dsimp only
  split
  · rename_i y q
    rw [q] at e
    exact congrArg some e
  · rename_i q
    rw [q] at e
    have a : es.toList.any (·.refKey) = false := by
      rw [List.any_eq_false]
      intro y hy
      obtain ⟨z, t, hkey⟩ := hk y (Array.mem_toList_iff.mp hy)
      simp [DictEntry.refKey, hkey]
    have a' : ¬ es.toList.any (·.refKey) = true := by rw [a]; exact Bool.false_ne_true
    rw [if_neg a']
    exact congrArg some e

theorem ObjM.look {h : Heap} {x dx C : Addr} {mA : Str → Option Value} (I : ObjM h x dx C mA) : ∃ od, PySem.W.InstAt h x (PySem.W.instObj C dx) C (some od) ∧ ∀ name, PySem.W.lookIn name od = some (mA name) :=
  let ⟨od, ho, hl⟩ := lookIn_ns I.ns
  ⟨od, ⟨I.obj, rfl, rfl, ho⟩, hl⟩

section
variable {prog : Program} {w : World} {A : Around} {E : Value → Shared → Prop} {s : Shared} {K : PySem.W.Frag} {x dx C f : Addr} {mA : Str → Option Value} {name : Str} {v : Value}

end

section
variable {P : Program} {w : World} {H H' : Hp} {h h' : Heap} {a C dx : Addr} {fs fs' : List (Str × V)}
theorem ins_get (hok : HOk P w H h) (e : H a = some (.ins C dx fs)) : ∃ mA, ObjM h a dx C mA ∧ (∀ f, RelO (fs.lookup f) (mA f)) ∧ PySem.Within mA (fs.map (·.1)) ∧ fs.length ≤ 1000 ∧ H dx = some (.own a) := by
  obtain ⟨d, z, ne, ob, mA, n, r, q⟩ := (show ObjOk P w H h a (.ins C dx fs) from hok a _ e)
  exact ⟨mA, ⟨ob, n, ne⟩, r, q, z, d⟩
end

structure Cls (K : PySem.W.Frag) (C : Addr) : Prop where
  pg : PySem.W.plainGet K C Str.empty = true
  hd : PySem.W.hasDictIn K C = true
  po : PySem.W.plainOver K C = true
  sa : PySem.W.findIn K (.ref C) "__setattr__" = some (some (.builtin "object.__setattr__"))
theorem Cls.get {K : PySem.W.Frag} {C : Addr} (c : Cls K C) (f : Str) : PySem.W.plainGet K C f = true := c.pg
section
variable {X : Cx} {pins : List (Addr × Obj)} {σ : St} {H : Hp} {s : Shared} {a C dx : Addr} {fs : List (Str × V)} {f : Str} {v : V} {A : Around} {E : Value → Shared → Prop}

end

section
variable {X : Cx} {o e value : Expr} {f : Str} {pos pos' tpos : Pos} {ta tv : TE}
end

section
variable {X : Cx} {pins : List (Addr × Obj)} {σ : St} {H : Hp} {s : Shared} {A : Around} {E : Value → Shared → Prop} {Q : Value → Shared → Prop} {c : Value} {b : Bool}
inductive TyOf (K : PySem.W.Frag) (H : Hp) : V → Value → Prop where
  | non : TyOf K H .non (.type "NoneType")
  | bl (x : Bool) : TyOf K H (.bl x) (.type "bool")
  | int (i : Int) : TyOf K H (.int i) (.type "int")
  | str (x : Str) : TyOf K H (.str x) (.type "str")
  | flt (x : UInt64) : TyOf K H (.flt x) (.type "float")
  | lst {a : Addr} {xs : List V} (e : H a = some (.lst xs)) : TyOf K H (.ref a) (.type "list")
  | frz {a : Addr} {o : Obj} {xs : List V} (e : H a = some (.frz o (.lst xs))) : TyOf K H (.ref a) (.type "list")
  | tup {a : Addr} {xs : List V} (e : H a = some (.tup xs)) : TyOf K H (.ref a) (.type "tuple")
  | dK {a : Addr} {kvs : List (Key × V)} (e : H a = some (.dK kvs)) : TyOf K H (.ref a) (.type "dict")
  | dT {a : Addr} {kvs : List (List Key × V)} (e : H a = some (.dT kvs)) : TyOf K H (.ref a) (.type "dict")
  | ins {a C dx : Addr} {fs : List (Str × V)} (e : H a = some (.ins C dx fs)) (cl : Cls K C) (ha : PySem.W.findIn K (.ref C) "__class__" = some (some (.builtin "object.__class__")))
      (hn : PySem.W.specialIn K (.builtin "object.__class__") "__get__" = some (some (.builtin "getset_descriptor.__get__"))) (htk : PySem.W.takesIn K (.builtin "object.__class__") = some true)
      (hm : PySem.W.mroIn K C (.type "object") = some true) : TyOf K H (.ref a) (.ref C)
theorem isinst_ok {x : V} {u t : Value} (I : Inv X pins σ H s) (rx : RelV x u) (ty : TyOf X.K H x t) (e : PySem.W.kitOne X.K t c = some b) (h : ∀ tk, Q (.bool b) { s with toks := tk }) :
    wpAny (model X.prog X.w) A (call (.builtin "isinstance") [u, c]) Q E s := by
  cases ty with
  | non => cases (show u = Value.none from rx); exact PySem.W.kia_one PySem.W.kitx_none I.kIn True.intro e (fun z => nomatch z) h
  | bl y => cases (show u = Value.bool y from rx); exact PySem.W.kia_one PySem.W.kitx_bool I.kIn True.intro e (fun z => nomatch z) h
  | int i => obtain ⟨t, q⟩ := (show ∃ t, u = Value.int i t from rx); cases q; exact PySem.W.kia_one PySem.W.kitx_int I.kIn True.intro e (fun z => nomatch z) h
  | str y => obtain ⟨t, q⟩ := (show ∃ t, u = Value.str y t from rx); cases q; exact PySem.W.kia_one PySem.W.kitx_str I.kIn True.intro e (fun z => nomatch z) h
  | flt y => obtain ⟨t, q⟩ := (show ∃ t, u = Value.float y t from rx); cases q; exact PySem.W.kia_one PySem.W.kitx_float I.kIn True.intro e (fun z => nomatch z) h
  | @lst a xs ea =>
    cases (show u = Value.ref a from rx)
    obtain ⟨_, _, n, _, h1⟩ := (show ObjOk X.prog X.w H s.heap a (.lst xs) from I.hok a _ ea)
    exact PySem.W.kia_one PySem.W.kitx_list I.kIn ⟨_, h1, rfl⟩ e (fun z => nomatch z) h
  | @frz a ob xs ea =>
    cases (show u = Value.ref a from rx)
    obtain ⟨_, _, _, n, _, h1⟩ := (show ObjOk X.prog X.w H s.heap a (.frz ob (.lst xs)) from I.hok a _ ea)
    exact PySem.W.kia_one PySem.W.kitx_list I.kIn ⟨_, h1, rfl⟩ e (fun z => nomatch z) h
  | @tup a xs ea =>
    cases (show u = Value.ref a from rx)
    obtain ⟨_, _, _, p⟩ := (show ObjOk X.prog X.w H s.heap a (.tup xs) from I.hok a _ ea)
    obtain ⟨o, h1, h2, _⟩ := p
    exact PySem.W.kia_one PySem.W.kitx_tuple I.kIn ⟨o, h1, h2⟩ e (fun z => nomatch z) h
  | @dK a kvs ea =>
    cases (show u = Value.ref a from rx)
    obtain ⟨_, _, vs, _, p⟩ := (show ObjOk X.prog X.w H s.heap a (.dK kvs) from I.hok a _ ea)
    obtain ⟨o, es, ep, h1, h2, _⟩ := p
    exact PySem.W.kia_one PySem.W.kitx_dict I.kIn ⟨o, h1, h2.1⟩ e (fun z => nomatch z) h
  | @dT a kvs ea =>
    cases (show u = Value.ref a from rx)
    obtain ⟨_, _, xs, _, o, es, ep, h1, h2, _⟩ := (show ObjOk X.prog X.w H s.heap a (.dT kvs) from I.hok a _ ea)
    exact PySem.W.kia_one PySem.W.kitx_dict I.kIn ⟨o, h1, h2.1⟩ e (fun z => nomatch z) h
  | @ins a C dx fs ea cl ha hn htk hm =>
    cases (show u = Value.ref a from rx)
    obtain ⟨mA, O, _⟩ := ins_get I.hok ea
    obtain ⟨od, J, _⟩ := O.look
    exact PySem.W.kia_one (PySem.W.kitx_own (cl.get _) cl.hd ha hn htk hm) I.kIn J e (fun z => nomatch z) h
end
end L2

namespace L2
open PySem PySem.Spec PyProof.Rows

structure Room (k : Nat) (A : Around) : Prop where
  hd : A.handled = none
  dp : A.depth + 3 * k + 5 < recursionLimit
  un : A.units + 16 * k + 200 < cLine
theorem Room.mono {j k : Nat} {A : Around} (r : Room k A) (h : j ≤ k) : Room j A := ⟨r.hd, by have := r.dp; omega, by have := r.un; omega⟩
theorem Room.deeper {k : Nat} {A : Around} (r : Room (k + 1) A) (env : Env) : Room k (A.deeper env) :=
  ⟨r.hd, by have := r.dp; show A.depth + 1 + 3 * k + 5 < _; omega, by have := r.un; show A.units + 3 + 16 * k + 200 < _; omega⟩
theorem Room.depth {k : Nat} {A : Around} (r : Room k A) : A.depth < recursionLimit := by have := r.dp; omega
theorem Room.units0 {k : Nat} {A : Around} (r : Room k A) : A.units < cLine := by have := r.un; omega

def tNil : TA := fun _ H Q => Q [] H
def tCons (ta : TE) (tr : TA) : TA := fun σ H Q => ta σ H fun x H1 => tr σ H1 fun xs H2 => Q (x :: xs) H2
section
variable {X : Cx} {e : Expr} {es : List Expr} {te : TE} {t : TA} {pos : Pos}
theorem pa_nil : PA X [] tNil := fun _ _ _ _ H Q I h => Calls.spliced_nil ⟨[], H, I, .nil, h⟩
theorem pa_cons (ha : PE X e te) (hr : PA X es t) (hs : starEach (e :: es) X.env = (false, eval e X.env) :: starEach es X.env := by rfl) : PA X (e :: es) (tCons te t) := by
  intro pos pins s σ H Q I h
  rw [hs]
  show wpAny _ _ (spliced ((false, eval e X.env) :: backTo pos (starEach es X.env))) _ _ s
  refine Calls.spliced_cons (thn (ha pins s σ H _ I h) fun u s1 ⟨x, H1, I1, r1, q1⟩ => ?_)
  exact thn (hr pos pins s1 σ H1 _ I1 q1) fun us s2 ⟨xs, H2, I2, r2, q2⟩ => ⟨x :: xs, H2, I2, .cons r1 r2, q2⟩

def tTup (t : TA) : TE := fun σ H Q => t σ H fun xs H1 => xs.length ≤ sizeLine ∧ ∀ p, H1 p = none → Q (.ref p) (upd H1 p (.tup xs))
def tLst (t : TA) : TE := fun σ H Q => t σ H fun xs H1 => xs.length ≤ sizeLine ∧ ∀ p, H1 p = none → Q (.ref p) (upd H1 p (.lst xs))
theorem pe_tup {x1} (h : PA X es t) : PE X (.Tuple es x1 pos) (tTup t) := by
  intro pins s σ H Q I hq
  refine wpAny_Tuple_spliced (thn (h pos pins s σ H _ I hq) fun us s1 ⟨xs, H1, I1, r, z, q⟩ => ⟨by rw [← r.length]; exact z, ?_⟩)
  have hf : H1 s1.heap.objs.size = none := I1.hok.fresh (Nat.le_refl _)
  refine ⟨.ref s1.heap.objs.size, upd H1 s1.heap.objs.size (.tup xs), I1.laid (t' := s1.toks) (fun b u e => Heap.get?_push_of_some _ e) (Nat.le_refl _) ?_, rfl, q _ hf⟩
  exact ⟨z, us, r, ⟨_, Heap.get?_push_size _ rfl, rfl, _, rfl⟩⟩
theorem pe_lst (h : PA X es t) : PE X (.List es pos) (tLst t) := by
  intro pins s σ H Q I hq
  refine wpAny_List_spliced (thn (h pos pins s σ H _ I hq) fun us s1 ⟨xs, H1, I1, r, z, q⟩ => ⟨by rw [← r.length]; exact z, ?_⟩)
  have hf : H1 s1.heap.objs.size = none := I1.hok.fresh (Nat.le_refl _)
  refine ⟨.ref s1.heap.objs.size, upd H1 s1.heap.objs.size (.lst xs), I1.laid (t' := s1.toks) (fun b u e => Heap.get?_push_of_some _ e) (Nat.le_refl _) ?_, rfl, q _ hf⟩
  exact ⟨z, us, 0, r, Heap.get?_push_size _ rfl⟩
end

abbrev Sp := List V → Hp → VK → XK → Prop
abbrev CXT := List Env → Hp → Shared → XK → Value → Shared → Prop

structure Env0 (P : Program) (w : World) (K : PySem.W.Frag) (mg : Str → Option Value) (base : Heap) (A : Around) (outer : List Env) (s : Shared) (H : Hp) : Prop where
  frames : A.frames = some outer
  mod : Mod K mg base
  bs : ∀ b o, base.get? b = some o → s.heap.get? b = some o ∧ H b = none
  bsz : base.objs.size ≤ s.heap.objs.size
  funs : s.heap.FunFrames base outer
  frf : ∀ b ∈ frs outer, H b = none
  hok : HOk P w H s.heap
  bare : AllBare s.gens
def CE (outer : List Env) (P : Program) (w : World) (H : Hp) (s : Shared) (Q : VK) (u : Value) (s' : Shared) : Prop :=
  ∃ v H', s'.os = s.os ∧ AllBare s'.gens ∧ Un (frs outer) [] H H' s.heap s'.heap ∧ HOk P w H' s'.heap ∧ RelV v u ∧ Q v H'
def CR (CX : CXT) (outer : List Env) (P : Program) (w : World) (H : Hp) (s : Shared) (Q : VK) (E : XK) (r : Result) (s' : Shared) : Prop :=
  match r with
  | .ok (.ret u) => CE outer P w H s Q u s'
  | .ok _ => False
  | .error e => CX outer H s E e s'
structure FnOk (P : Program) (w : World) (K : PySem.W.Frag) (mg : Str → Option Value) (base : Heap) (CX : CXT) (k : Nat) (f : Addr) (fd : FuncData) (ps : List Str) (sp : Sp) : Prop where
  len : ∀ vs H Q E, sp vs H Q E → vs.length = ps.length
  run : ∀ (A : Around) (outer : List Env) (s : Shared) (H : Hp) (args : Args) (us : List Value) (vs : List V) (Q : VK) (E : XK), Room k A → Env0 P w K mg base A outer s H → BindsTo s fd args (ps.zip us) → Vals vs us → sp vs H Q E →
    codeAny (model P w) A (.call (.ref f) args) (CR CX outer P w H s Q E) s
section
variable {X : Cx} {pins : List (Addr × Obj)} {σ : St} {H : Hp} {s s' : Shared}
theorem Inv.env0 (I : Inv X pins σ H s) : Env0 X.prog X.w X.K X.mg X.base X.A X.stack s H :=
  ⟨I.ok.frames, I.ok.mod, I.bs, Nat.le_trans I.ok.bsz I.sz, I.stack, I.stkFree, I.hok, I.bare⟩
theorem Inv.after {Q : VK} {u : Value} (I : Inv X pins σ H s) (h : CE X.stack X.prog X.w H s Q u s') : EP X pins σ Q u s' := by
  obtain ⟨v, H', os, bare, un, hok, r, q⟩ := h
  obtain ⟨hh, g, d, t, os'⟩ := s'
  obtain rfl : os' = s.os := os
  exact ⟨v, H', I.call (h' := hh) (g' := g) (d' := d) (t' := t) (ch := []) un hok bare (fun b z => absurd z (by simp)), r, q⟩
end

def tCall (sp : Sp) (dvs : List V) (E : XK) (t : TA) : TE := fun σ H Q => t σ H fun vs H1 => sp (vs ++ dvs) H1 Q E
def Binds (K : PySem.W.Frag) (fd : FuncData) (ps : List Str) (ds : List Value) : Prop :=
  ∀ (s : Shared) (us : List Value), K.In s.heap → (us ++ ds).length = ps.length → BindsTo s fd ⟨us, []⟩ (ps.zip (us ++ ds))
theorem Binds.all {K : PySem.W.Frag} {fd : FuncData} {ps : List Str} (h : ∀ us : List Value, us.length = ps.length → bindArgs fd ⟨us, []⟩ = pure (ps.zip us)) : Binds K fd ps [] := fun s us _ hl => by
  rw [List.append_nil] at hl ⊢
  exact .of_eq (h us hl)

def Passes (CX : CXT) (X : Cx) (E : XK) : Prop := ∀ (pins : List (Addr × Obj)) (σ : St) (H : Hp) (s : Shared) (e : Value) (s' : Shared), Inv X pins σ H s → CX X.stack H s E e s' → X.xe e s'

section
variable {X : Cx} {CX : CXT} {k : Nat} {f C : Addr} {fd : FuncData} {ps : List Str} {sp : Sp} {dvs : List V} {ds : List Value} {E : XK} {x m : Str} {p pos apos : Pos} {e o : Expr} {es : List Expr} {ta : TE} {t : TA}

theorem run_fn {pins : List (Addr × Obj)} {σ : St} {H : Hp} {s : Shared} {Q : VK} {us : List Value} {vs : List V} (F : FnOk X.prog X.w X.K X.mg X.base CX k f fd ps sp) (hr : Room k X.A) (hb : Binds X.K fd ps ds) (hd : Vals dvs ds) (hx : Passes CX X E)
    (I : Inv X pins σ H s) (r : Vals vs us) (h : sp (vs ++ dvs) H Q E) : wpAny (model X.prog X.w) X.A (call (.ref f) us) (EP X pins σ Q) X.xe s := by
  have r2 : Vals (vs ++ dvs) (us ++ ds) := r.append hd
  have hl : (us ++ ds).length = ps.length := by rw [← r2.length]; exact F.len _ _ _ _ h
  refine wpAny_call (codeAny_mono (F.run X.A X.stack s H ⟨us, []⟩ (us ++ ds) (vs ++ dvs) Q E hr I.env0 (hb s us I.kIn hl) r2 h) fun r s' hq => ?_)
  cases r with
  | error e => exact hx pins σ H s e s' I hq
  | ok fl =>
    cases fl with
    | ret u => exact I.after hq
    | next => exact False.elim hq
    | brk => exact False.elim hq
    | cont => exact False.elim hq

theorem pe_call (F : FnOk X.prog X.w X.K X.mg X.base CX k f fd ps sp) (hr : Room k X.A) (hg : Gl X x) (hm : X.mg x = some (.ref f)) (hk : PySem.W.keepIn X.K (.ref f) = true) (hb : Binds X.K fd ps ds) (hd : Vals dvs ds) (hx : Passes CX X E)
    (ha : PA X (e :: es) t) (hdb : (x == ("__debug__" : Str)) = false := by decide) (he : starEach (e :: es) X.env = (false, eval e X.env) :: starEach es X.env := by rfl) (hpl : (backTo pos (starEach es X.env)).any (·.1) = false := by rfl) :
    PE X (.Call (.Name x p) (e :: es) [] pos) (tCall sp dvs E t) := by
  intro pins s σ H Q I h
  refine wpAny_Call_Name_kw (ld_glob I hg hm ?_ hdb)
  refine PySem.W.callWith_K (h₀ := X.base) I.ok.mod.kin hk (thn (ha pos pins s σ H _ I h) fun us s1 ⟨vs, H1, I1, r, q⟩ => ⟨I1.kIn, ?_⟩) he hpl
  exact run_fn F hr hb hd hx I1 r q
end

def PK (X : Cx) (kws : List Keyword) (t : TA) : Prop :=
  ∀ (pos : Pos) (pins : List (Addr × Obj)) (s : Shared) (σ : St) (H : Hp) (Q : List V → Hp → Prop), Inv X pins σ H s → t σ H Q → wpAny (model X.prog X.w) X.A (evalAll ((backToKw pos (keywordEach kws X.env)).map (·.2))) (AP X pins σ Q) X.xe s
section
variable {X : Cx} {CX : CXT} {k : Nat} {f C : Addr} {fd : FuncData} {ps ks : List Str} {sp : Sp} {E : XK} {x m : Str} {p pos apos kpos : Pos} {e o : Expr} {es : List Expr} {kws : List Keyword} {te ta : TE} {t tk : TA} {nm : Option Str}
theorem pk_nil : PK X [] tNil := fun _ _ _ _ H Q I h => wpAny_evalAll_nil ⟨[], H, I, .nil, h⟩
theorem pk_cons (ha : PE X e te) (hr : PK X kws t) : PK X (⟨nm, e, kpos⟩ :: kws) (tCons te t) := by
  intro pos pins s σ H Q I h
  show wpAny _ _ (evalAll ((do let v ← eval e X.env; standAt pos; pure v) :: (backToKw pos (keywordEach kws X.env)).map (·.2))) _ _ s
  refine wpAny_evalAll_cons (wpAny_bind (thn (ha pins s σ H _ I h) fun u s1 ⟨x, H1, I1, r1, q1⟩ => wpAny_bind (wpAny_standAt (wpAny_pure ?_))))
  exact thn (hr pos pins s1 σ H1 _ I1 q1) fun us s2 ⟨xs, H2, I2, r2, q2⟩ => ⟨x :: xs, H2, I2, .cons r1 r2, q2⟩

structure KBinds (K : PySem.W.Frag) (fd : FuncData) (ps ks : List Str) (g : List Value → List Value → List Value) (gV : List V → List V → List V) : Prop where
  to : ∀ (s : Shared) (us ws : List Value), K.In s.heap → (g us ws).length = ps.length → BindsTo s fd ⟨us, ks.zip ws⟩ (ps.zip (g us ws))
  rel : ∀ {vs : List V} {us : List Value} {zs : List V} {ws : List Value}, Vals vs us → Vals zs ws → Vals (gV vs zs) (g us ws)
def tCallK (sp : Sp) (gV : List V → List V → List V) (E : XK) (t tk : TA) : TE := fun σ H Q => t σ H fun vs H1 => tk σ H1 fun zs H2 => sp (gV vs zs) H2 Q E
variable {g : List Value → List Value → List Value} {gV : List V → List V → List V}
theorem run_fnk {pins : List (Addr × Obj)} {σ : St} {H : Hp} {s : Shared} {Q : VK} {us ws : List Value} {vs zs : List V} (F : FnOk X.prog X.w X.K X.mg X.base CX k f fd ps sp) (hr : Room k X.A) (hb : KBinds X.K fd ps ks g gV) (hx : Passes CX X E)
    (I : Inv X pins σ H s) (r : Vals vs us) (rz : Vals zs ws) (h : sp (gV vs zs) H Q E) : wpAny (model X.prog X.w) X.A (call (.ref f) us (ks.zip ws)) (EP X pins σ Q) X.xe s := by
  have r2 := hb.rel r rz
  have hl : (g us ws).length = ps.length := by rw [← r2.length]; exact F.len _ _ _ _ h
  refine wpAny_call (codeAny_mono (F.run X.A X.stack s H ⟨us, ks.zip ws⟩ (g us ws) (gV vs zs) Q E hr I.env0 (hb.to s us ws I.kIn hl) r2 h) fun r s' hq => ?_)
  cases r with
  | error e => exact hx pins σ H s e s' I hq
  | ok fl =>
    cases fl with
    | ret u => exact I.after hq
    | next => exact False.elim hq
    | brk => exact False.elim hq
    | cont => exact False.elim hq
theorem pe_callK (F : FnOk X.prog X.w X.K X.mg X.base CX k f fd ps sp) (hr : Room k X.A) (hg : Gl X x) (hm : X.mg x = some (.ref f)) (hk : PySem.W.keepIn X.K (.ref f) = true) (hb : KBinds X.K fd ps ks g gV) (hx : Passes CX X E)
    (ha : PA X (e :: es) t) (hkw : PK X kws tk) (hall : (backToKw pos (keywordEach kws X.env)).all (·.1.isSome) = true := by rfl) (hks : (backToKw pos (keywordEach kws X.env)).filterMap (·.1) = ks := by rfl)
    (hdb : (x == ("__debug__" : Str)) = false := by decide) (he : starEach (e :: es) X.env = (false, eval e X.env) :: starEach es X.env := by rfl)
    (hpl : ((backTo pos (starEach (e :: es) X.env)).any (·.1) || (backToKw pos (keywordEach kws X.env)).any (·.1.isNone)) = false := by rfl) :
    PE X (.Call (.Name x p) (e :: es) kws pos) (tCallK sp gV E t tk) := by
  intro pins s σ H Q I h
  refine wpAny_Call_Name_kw (ld_glob I hg hm ?_ hdb)
  refine PySem.W.callWith_KW (h₀ := X.base) I.ok.mod.kin hk hall (thn (ha pos pins s σ H _ I h) fun us s1 ⟨vs, H1, I1, r, q⟩ => ?_) hpl he
  refine thn (hkw pos pins s1 σ H1 _ I1 q) fun ws s2 ⟨zs, H2, I2, rz, q2⟩ => ⟨I2.kIn, ?_⟩
  rw [hks]
  exact run_fnk F hr hb hx I2 r rz q2
end

structure FnScope (N P : List Str) (sc : Scope) : Prop where
  kind : sc.kind = .function
  co : sc.isCoroutine = false
  gen : sc.isGenerator = false
  nd : N.Nodup
  pre : N.take P.length = P
  par : ∀ x ∈ P, sc.names.lookup x = some .local ∨ sc.names.lookup x = some .cell
  nofree : ∀ y ∈ sc.names, y.2 ≠ .free

theorem bindL_out {kindOf : Str → Option NameKind} {x : Str} : ∀ {binds : List (Str × Value)} {m : Str → Option Value}, (∀ v, (x, v) ∉ binds) → bindL kindOf binds m x = m x
  | [], _, _ => rfl
  | (n, v) :: r, m, h => by
    unfold bindL
    rw [bindL_out fun w hw => h w (List.mem_cons_of_mem _ hw)]
    split
    · have : x ≠ n := by rintro rfl; exact h v List.mem_cons_self
      simp [this]
    · rfl
theorem bindC_out {kindOf : Str → Option NameKind} {x : Str} : ∀ {binds : List (Str × Value)} {m : Str → Option Value}, (∀ v, (x, v) ∉ binds) → bindC kindOf binds m x = m x
  | [], _, _ => rfl
  | (n, v) :: r, m, h => by
    unfold bindC
    rw [bindC_out fun w hw => h w (List.mem_cons_of_mem _ hw)]
    split
    · rfl
    · have : x ≠ n := by rintro rfl; exact h v List.mem_cons_self
      simp [this]
theorem bindL_get {kindOf : Str → Option NameKind} {x : Str} {v : Value} : ∀ {P : List Str} {vs : List Value} {i : Nat} {m : Str → Option Value}, P.Nodup → P[i]? = some x → vs[i]? = some v → kindOf x = some .local →
    bindL kindOf (P.zip vs) m x = some v
  | [], _, _, _, _, h, _, _ => by simp at h
  | _ :: _, [], _, _, _, _, h, _ => by simp at h
  | p :: P, w :: vs, 0, m, nd, h1, h2, hk => by
    simp at h1 h2; subst h1; subst h2
    show bindL kindOf ((p, w) :: P.zip vs) m p = _
    unfold bindL
    rw [bindL_out fun v hv => (List.nodup_cons.mp nd).1 (List.of_mem_zip hv).1, if_pos hk]
    simp
  | p :: P, w :: vs, i + 1, m, nd, h1, h2, hk => by
    show bindL kindOf ((p, w) :: P.zip vs) m x = _
    unfold bindL
    exact bindL_get (i := i) (List.nodup_cons.mp nd).2 (by simpa using h1) (by simpa using h2) hk
theorem bindC_get {kindOf : Str → Option NameKind} {x : Str} {v : Value} : ∀ {P : List Str} {vs : List Value} {i : Nat} {m : Str → Option Value}, P.Nodup → P[i]? = some x → vs[i]? = some v → kindOf x ≠ some .local →
    bindC kindOf (P.zip vs) m x = some v
  | [], _, _, _, _, h, _, _ => by simp at h
  | _ :: _, [], _, _, _, _, h, _ => by simp at h
  | p :: P, w :: vs, 0, m, nd, h1, h2, hk => by
    simp at h1 h2; subst h1; subst h2
    show bindC kindOf ((p, w) :: P.zip vs) m p = _
    unfold bindC
    rw [bindC_out fun v hv => (List.nodup_cons.mp nd).1 (List.of_mem_zip hv).1, if_neg hk]
    simp
  | p :: P, w :: vs, i + 1, m, nd, h1, h2, hk => by
    show bindC kindOf ((p, w) :: P.zip vs) m x = _
    unfold bindC
    exact bindC_get (i := i) (List.nodup_cons.mp nd).2 (by simpa using h1) (by simpa using h2) hk

def start (N : List Str) (vs : List V) : St := vs.map some ++ List.replicate (N.length - vs.length) none

def cxOf (CX : CXT) (P : Program) (w : World) (K : PySem.W.Frag) (mg : Str → Option Value) (base : Heap) (N : List Str) (qual : Str) (scope : Scope) (f : Addr) (cd : Value) (A : Around) (outer : List Env) (s : Shared) (H : Hp) (E : XK) : Cx where
  prog := P
  w := w
  K := K
  mg := mg
  base := base
  A := A.deeper (envOfC qual scope s.heap.objs.size f cd)
  N := N
  s₀ := s
  H₀ := H
  env := envOfC qual scope s.heap.objs.size f cd
  outer := outer
  stack := envOfC qual scope s.heap.objs.size f cd :: outer
  ex := []
  calm := true
  fn := fun _ => true
  pn := []
  xe := fun e s' => wpAny (model P w) (A.deeper (envOfC qual scope s.heap.objs.size f cd)) («leaving» (envOfC qual scope s.heap.objs.size f cd) e) (fun _ s'' => CX outer H s E e s'') (fun e' s'' => CX outer H s E e' s'') s'

theorem cell_has {sc : Scope} {n : Nat} {x : Str} (h : sc.names.lookup x = some .cell) : ∃ c, (cellsFrom n sc.names []).lookup x = some c := by
  have q := PySem.W.cellsFrom_some sc.names n [] (.inl h)
  exact Option.isSome_iff_exists.mp q

theorem inv_start {CX : CXT} {P : Program} {w : World} {K : PySem.W.Frag} {mg : Str → Option Value} {base : Heap} {N ps : List Str} {qual : Str} {scope : Scope} {f : Addr} {cd : Value} {A : Around} {outer : List Env} {s s1 : Shared} {H : Hp} {E : XK} {us : List Value} {vs : List V}
    (S : FnScope N ps scope) (hd : A.handled = none) (e0 : Env0 P w K mg base A outer s H) (hl : vs.length = ps.length) (r : Vals vs us)
    (x : InCallC s s.heap.objs.size (bindL (envOfC qual scope s.heap.objs.size f cd).kindOf (ps.zip us) fun _ => none) (cellsFrom (s.heap.objs.size + 1) scope.names []) (bindC (envOfC qual scope s.heap.objs.size f cd).kindOf (ps.zip us) fun _ => none) s1) :
    Inv (cxOf CX P w K mg base N qual scope f cd A outer s H E) [] (start N vs) H s1 := by
  have hpl : ps.length ≤ N.length := by have := congrArg List.length S.pre; rw [List.length_take] at this; omega
  obtain ⟨h1, tk, rfl, hk⟩ := x.done
  have noA : ∀ b : Addr, b ∉ (cxOf CX P w K mg base N qual scope f cd A outer s H E).ex := fun b z => absurd (show b ∈ ([] : List Addr) from z) (by simp)
  refine ⟨⟨e0.mod, S.kind, rfl, rfl, Nat.le_refl _, fun y z c h1 h2 => ?_, fun y hy => ?_, fun y c _ h => ?_, fun _ => hd, Around.frames_deeper e0.frames, .inr ⟨rfl, rfl⟩, fun b z => absurd z (noA b), e0.bs, e0.bsz, fun b _ _ => noA b, fun b z => absurd z (noA b), e0.funs, e0.frf⟩,
    rfl, e0.bare, Un.kept hk, ⟨_, x.toInCall.ns, fun i y v h1 h2 h3 => ?_⟩, fun y c h => ⟨_, x.cell y c h⟩, e0.hok.fresh (Nat.le_refl _), fun y c h => ?_, fun p hp => absurd (show p ∈ ([] : List (Addr × Obj)) from hp) (by simp), e0.hok.kept hk, ?_⟩
  · exact name_of_addr x.apart (PySem.mem_of_lookup h1) (PySem.mem_of_lookup h2)
  · have hy : scope.names.lookup y = some .cell ∨ scope.names.lookup y = some .free := hy
    rcases hy with hy | hy
    · exact cell_has hy
    · exact absurd rfl (S.nofree _ (PySem.mem_of_lookup hy))
  · exact Nat.le_of_lt (x.above y c (PySem.mem_of_lookup h))
  · have hi : i < vs.length := by
      unfold start at h2
      by_cases hi : i < vs.length
      · exact hi
      · rw [List.getElem?_append_right (by simpa using hi)] at h2
        rw [List.getElem?_replicate] at h2
        split at h2 <;> cases h2
    have ha : vs[i]? = some v := by
      unfold start at h2
      rw [List.getElem?_append_left (by simpa using hi), List.getElem?_map] at h2
      cases e : vs[i]? with
      | none => rw [e] at h2; cases h2
      | some a => rw [e] at h2; cases h2; rfl
    obtain ⟨u, hu, rv⟩ := r.get ha
    have hp : ps[i]? = some y := by
      rw [← S.pre, List.getElem?_take_of_lt (by omega)]; exact h1
    have ndP : ps.Nodup := by rw [← S.pre]; exact S.nd.sublist (List.take_sublist _ _)
    refine ⟨u, rv, ?_⟩
    rcases S.par y (List.mem_of_getElem? hp) with k | k
    · exact .inl ⟨k, bindL_get ndP hp hu k⟩
    · obtain ⟨c, e⟩ := cell_has (n := s.heap.objs.size + 1) k
      refine .inr ⟨.inl k, c, e, ?_⟩
      have q := x.cell y c e
      rw [bindC_get ndP hp hu (by show scope.names.lookup y ≠ _; rw [k]; decide)] at q
      exact q
  · exact e0.hok.fresh (Nat.le_of_lt (x.above y c (PySem.mem_of_lookup h)))
  · unfold start
    show _ = N.length
    rw [List.length_append, List.length_map, List.length_replicate]
    omega

theorem fn_of {CX : CXT} {P : Program} {w : World} {K : PySem.W.Frag} {mg : Str → Option Value} {base : Heap} {k : Nat} {f : Addr} {name qual : Str} {params : Arguments} {body : List Stmt} {scope : Scope} {dV kV doc pm cdv ct oc : Value} {an od : Option Addr}
    {osl : Array (Option Value)} {N ps : List Str} {sp : Sp} (lk : K.lookup f = some ⟨oc, od, .func (PySem.W.fnOf name qual params body scope dV kV doc pm an cdv ct), osl⟩) (hcd : PySem.W.codeIn K cdv qual = true) (S : FnScope N ps scope)
    (len : ∀ vs H Q E, sp vs H Q E → vs.length = ps.length)
    (hbody : ∀ (A : Around) (outer : List Env) (s : Shared) (H : Hp) (vs : List V) (Q : VK) (E : XK), Room k (A.deeper (envOfC qual scope s.heap.objs.size f cdv)) → sp vs H Q E →
      ∃ t, PSs (cxOf CX P w K mg base N qual scope f cdv A outer s H E) body t ∧ t { nx := fun _ H' => Q .non H', rt := Q } (start N vs) H) :
    FnOk P w K mg base CX (k + 1) f (PySem.W.fnOf name qual params body scope dV kV doc pm an cdv ct) ps sp := by
  refine ⟨len, fun A outer s H args us vs Q E hr e0 hb r hsp => ?_⟩
  have hl := len _ _ _ _ hsp
  have KX : K.In s.heap := e0.mod.kin.keeps fun b o e => (e0.bs b o e).1
  have lim : s.heap.NoLimit := e0.mod.nolimit.keeps fun b o e => (e0.bs b o e).1
  have hkind : ∀ y ∈ ps.zip us, scope.names.lookup y.1 = some .local ∨ (scope.names.lookup y.1 = some .cell ∧ ((cellsFrom (s.heap.objs.size + 1) scope.names []).lookup y.1).isSome = true) := fun ⟨n, v⟩ hy => by
    rcases S.par n (List.of_mem_zip hy).1 with q | q
    · exact .inl q
    · exact .inr ⟨q, PySem.W.cellsFrom_some _ _ _ (.inl q)⟩
  refine codeAny_call_function hr.depth (KX _ _ lk) rfl S.co S.gen rfl (PySem.W.codeRec_of KX hcd) (hb _ _ _ _ ?_)
  refine wpAny_newFunctionEnv_cells S.kind hkind fun env he s1 x => ?_
  subst he
  refine ⟨lim.keeps x.toInCall.keep, codeAny_func ?_⟩
  obtain ⟨t, ht, hq⟩ := hbody A outer s H vs Q E (hr.deeper _) hsp
  have I : Inv (cxOf CX P w K mg base N qual scope f cdv A outer s H E) [] (start N vs) H s1 := inv_start S hr.hd e0 hl r x
  refine wpAny_mono (ht [] s1 (start N vs) H _ I hq) (fun fl s' hs => ?_) fun e s' hs => hs
  have fin : ∀ {σ' : St} {H' : Hp} {v : V} {u : Value}, Inv (cxOf CX P w K mg base N qual scope f cdv A outer s H E) [] σ' H' s' → RelV v u → Q v H' → CE outer P w H s Q u s' :=
    fun {σ' H' v u} J rv q => ⟨v, H', J.os, J.bare, J.base, J.hok, rv, q⟩
  cases fl with
  | ret u =>
    obtain ⟨v, σ', H', J, rv, q⟩ := hs
    exact fin J rv q
  | next =>
    obtain ⟨σ', H', J, q⟩ := hs
    exact fin (v := V.non) (u := Value.none) J rfl q
  | brk =>
    obtain ⟨_, _, _, q⟩ := hs
    exact False.elim q
  | cont =>
    obtain ⟨_, _, _, q⟩ := hs
    exact False.elim q
end L2

namespace L2
open PySem PySem.Spec PyProof.Rows
section
variable {X : Cx} {x : Str} {p pos : Pos} {e : Expr} {es : List Expr} {t : TA} {id T : String} {r : List V → Hp → VK → Prop}

def tCB (r : List V → Hp → VK → Prop) (t : TA) : TE := fun σ H Q => t σ H fun vs H1 => r vs H1 Q
theorem pe_callB (hc : CallR X (.builtin id) r) (hg : Gl X x) (hm : X.mg x = none) (hv : bootBuiltins x = some (.builtin id)) (ha : PA X (e :: es) t) (hn : x ≠ "__name__" := by decide) (hdb : (x == ("__debug__" : Str)) = false := by decide)
    (he : starEach (e :: es) X.env = (false, eval e X.env) :: starEach es X.env := by rfl) (hpl : (backTo pos (starEach es X.env)).any (·.1) = false := by rfl) : PE X (.Call (.Name x p) (e :: es) [] pos) (tCB r t) := by
  intro pins s σ H Q I h
  refine wpAny_Call_Name_kw (ld_blt I hg hm hv ?_ hn hdb)
  exact PyProof.Rows.callWith_builtin1 (thn (ha pos pins s σ H _ I h) fun us s1 ⟨vs, H1, I1, r1, q1⟩ => hc pins s1 σ H1 vs us Q I1 r1 q1) he hpl
theorem pe_callTy (hc : CallR X (.type T) r) (hg : Gl X x) (hm : X.mg x = none) (hv : bootBuiltins x = some (.type T)) (ha : PA X (e :: es) t) (hn : x ≠ "__name__" := by decide) (hdb : (x == ("__debug__" : Str)) = false := by decide)
    (he : starEach (e :: es) X.env = (false, eval e X.env) :: starEach es X.env := by rfl) (hpl : (backTo pos (starEach es X.env)).any (·.1) = false := by rfl) : PE X (.Call (.Name x p) (e :: es) [] pos) (tCB r t) := by
  intro pins s σ H Q I h
  refine wpAny_Call_Name_kw (ld_blt I hg hm hv ?_ hn hdb)
  exact PyProof.Rows.callWith_type1 (thn (ha pos pins s σ H _ I h) fun us s1 ⟨vs, H1, I1, r1, q1⟩ => hc pins s1 σ H1 vs us Q I1 r1 q1) he hpl
end
end L2

namespace HT
open PySem PyProof.Rows

section
open PySem.SeqAt
open PySem.AutoSeq1 (wpAny_loadPart')
open PySem.MeetsSeq PySem.MeetsSeq2 PySem.MeetsSeq3

end

section
variable {prog : Program} {w : World} {A : Around} {E : Value → Shared → Prop} {s : Shared}

def sIx (n d : Nat) : Option Int → Nat
  | none => d
  | some v => if v < 0 then (v + (n : Int)).toNat else min v.toNat n
theorem sIx_nat (n d k : Nat) : sIx n d (some (k : Int)) = min k n := by
  show (if (k : Int) < 0 then ((k : Int) + (n : Int)).toNat else min (k : Int).toNat n) = min k n
  rw [if_neg (by omega), Int.toNat_natCast]
end
end HT

namespace L2
open PySem PySem.Spec PyProof.Rows

abbrev TO := St → Hp → (Option Int → Hp → Prop) → Prop
def PO (X : Cx) (e : Option Expr) (t : TO) : Prop :=
  ∀ (pins : List (Addr × Obj)) (s : Shared) (σ : St) (H : Hp) (Q : Option Int → Hp → Prop), Inv X pins σ H s → t σ H Q →
    wpAny (model X.prog X.w) X.A (evalPart e X.env) (fun u s' => ∃ o H', Inv X pins σ H' s' ∧ IsPart u o ∧ Q o H') X.xe s
def tNoPart : TO := fun _ H Q => Q none H
def tPart (t : TE) : TO := fun σ H Q => t σ H fun x H1 => ∃ i, x = .int i ∧ Q (some i) H1

theorem intsAre_of {ns : List Int} : ∀ {us : List Value}, Vals (ns.map V.int) us → IntsAre us ns := by
  induction ns with
  | nil => intro us r; rw [List.map_nil] at r; cases r; exact .nil
  | cons n ns ih =>
    intro us r
    rw [List.map_cons] at r
    cases r with
    | cons r1 r2 =>
      obtain ⟨t, e⟩ := r1
      subst e
      exact .cons n t (ih r2)

section
variable {X : Cx} {e : Expr} {te : TE} {lo hi : Option Expr} {tl th : TO} {pos p2 : Pos}

theorem po_none : PO X none tNoPart := by
  intro pins s σ H Q I h
  rw [evalPart_none]
  exact wpAny_pure ⟨none, H, I, .none, h⟩
theorem po_some (h : PE X e te) : PO X (some e) (tPart te) := by
  intro pins s σ H Q I hw
  rw [evalPart_some]
  refine thn (h pins s σ H _ I hw) fun u s1 ⟨x, H1, I1, r1, q1⟩ => ?_
  obtain ⟨i, rfl, q⟩ := q1
  obtain ⟨t, rfl⟩ := r1
  exact ⟨some i, H1, I1, .int i t, q⟩

def SlR (X : Cx) (r : V → Option Int → Option Int → Hp → VK → Prop) : Prop :=
  ∀ (pins : List (Addr × Obj)) (s : Shared) (σ : St) (H : Hp) (x : V) (v vl vu : Value) (lo hi : Option Int) (sl : Addr) (Q : VK), Inv X pins σ H s → RelV x v → s.heap.IsSliceOf sl vl vu .none → IsPart vl lo → IsPart vu hi → r x lo hi H Q →
    ∃ T id, typeLookup (.type T) "__getitem__" = pure (some (.builtin id)) ∧ s.TypeIs v T ∧ wpAny (model X.prog X.w) X.A (getItem v (.ref sl)) (EP X pins σ Q) X.xe s
def tSl (r : V → Option Int → Option Int → Hp → VK → Prop) (te : TE) (tl th : TO) : TE := fun σ H Q => te σ H fun x H1 => tl σ H1 fun l H2 => th σ H2 fun u H3 => r x l u H3 Q
theorem pe_slice {r : V → Option Int → Option Int → Hp → VK → Prop} (hr : SlR X r) (he : PE X e te) (hl : PO X lo tl) (hu : PO X hi th) : PE X (.Subscript e (.Slice lo hi none p2) pos) (tSl r te tl th) := by
  intro pins s σ H Q I h
  refine Subscript_ (thn (he pins s σ H _ I h) fun v s1 ⟨x, H1, I1, r1, q1⟩ => ?_)
  refine wpAny_Slice (thn (hl pins s1 σ H1 _ I1 q1) fun vl s2 ⟨l, H2, I2, pl, q2⟩ => thn (hu pins s2 σ H2 _ I2 q2) fun vu s3 ⟨u, H3, I3, pu, q3⟩ => ?_)
  rw [evalPart_none]
  refine wpAny_pure ?_
  have I4 : Inv X pins σ H3 { s3 with heap := s3.heap.push { cls := .type "slice", data := .fields #[vl, vu, .none] } } := I3.kept (t' := s3.toks) fun b ob q => Heap.get?_push_of_some _ q
  obtain ⟨T, id, hT, ht, hg⟩ := hr pins { s3 with heap := s3.heap.push { cls := .type "slice", data := .fields #[vl, vu, .none] } } σ H3 x v vl vu l u s3.heap.objs.size Q I4 r1 (Heap.IsSliceOf.new ..) pl pu q3
  show wpAny (model X.prog X.w) X.A (subscriptTail e (.Slice lo hi none p2) v (.ref s3.heap.objs.size)) (EP X pins σ Q) X.xe { s3 with heap := s3.heap.push { cls := .type "slice", data := .fields #[vl, vu, .none] } }
  exact tail_any (ops := [.ref s3.heap.objs.size, v]) ht hT hg (by with_unfolding_all rfl)

def cutV (xs : List V) (lo hi : Option Int) : List V := (xs.drop (HT.sIx xs.length 0 lo)).take (HT.sIx xs.length xs.length hi - HT.sIx xs.length 0 lo)
theorem cutV_length (xs : List V) (lo hi : Option Int) : (cutV xs lo hi).length ≤ xs.length := by
  unfold cutV
  rw [List.length_take, List.length_drop]
  omega
end
end L2

namespace L2
open PySem PySem.Spec PyProof.Rows

def ixN (n : Nat) (i : Int) : Option Nat := if 0 ≤ i then (if i < n then some i.toNat else none) else if -(n : Int) ≤ i then some (i + n).toNat else none
def atI {α : Type} (xs : List α) (i : Int) : Option α := (ixN xs.length i).bind fun j => xs[j]?
theorem ixN_seq {n : Nat} {i : Int} {j : Nat} (h : ixN n i = some j) : seqIndex? i n = some j ∧ j < n ∧ -(n : Int) ≤ i ∧ i < n := by
  unfold ixN at h
  by_cases h0 : 0 ≤ i
  · rw [if_pos h0] at h
    by_cases h1 : i < n
    · rw [if_pos h1] at h
      have e : i.toNat = j := Option.some.inj h
      exact ⟨by rw [seqIndex_of h0 h1, e], by omega, by omega, h1⟩
    · rw [if_neg h1] at h; cases h
  · rw [if_neg h0] at h
    by_cases h1 : -(n : Int) ≤ i
    · rw [if_pos h1] at h
      have e : (i + n).toNat = j := Option.some.inj h
      exact ⟨by rw [seqIndex_neg (by omega) h1, e], by omega, h1, by omega⟩
    · rw [if_neg h1] at h; cases h
theorem atI_get {α : Type} {xs : List α} {i : Int} {v : α} (h : atI xs i = some v) : ∃ j, seqIndex? i xs.length = some j ∧ xs[j]? = some v ∧ j < xs.length ∧ -(xs.length : Int) ≤ i ∧ i < xs.length := by
  unfold atI at h
  cases e : ixN xs.length i with
  | none => rw [e] at h; cases h
  | some j =>
    rw [e] at h
    obtain ⟨h1, h2, h3, h4⟩ := ixN_seq e
    exact ⟨j, h1, h, h2, h3, h4⟩
theorem atI_nat {α : Type} {xs : List α} {j : Nat} {v : α} (h : xs[j]? = some v) : atI xs (j : Int) = some v := by
  have hj : j < xs.length := (List.getElem?_eq_some_iff.mp h).1
  have e : ixN xs.length (j : Int) = some j := by
    unfold ixN
    rw [if_pos (by omega), if_pos (by omega)]; simp
  unfold atI; rw [e]; exact h
theorem atI_last {α : Type} (xs : List α) (v : α) : atI (xs ++ [v]) (-1) = some v := by
  have hl : (xs ++ [v]).length = xs.length + 1 := by simp
  have e : ixN (xs ++ [v]).length (-1) = some xs.length := by
    unfold ixN
    rw [hl, if_neg (by decide), if_pos (by omega)]
    congr 1
    omega
  unfold atI
  rw [e]
  show (xs ++ [v])[xs.length]? = some v
  simp

def PlainIx (b : Expr) : Prop := ∀ o i, subscripted b false o i = operate [o, i] (getItem o i)
def IxR (X : Cx) (r : R2) : Prop :=
  ∀ (value slice : Expr) (pins : List (Addr × Obj)) (s : Shared) (σ : St) (H : Hp) (x y : V) (v u : Value) (Q : VK), Inv X pins σ H s → RelV x v → RelV y u → r x y H Q →
    subscripted slice false v u = operate [v, u] (getItem v u) → wpAny (model X.prog X.w) X.A (subscriptTail value slice v u) (EP X pins σ Q) X.xe s
def MtR (X : Cx) (id : String) (r : V → List V → Hp → VK → Prop) : Prop :=
  ∀ (pins : List (Addr × Obj)) (s : Shared) (σ : St) (H : Hp) (x : V) (xs : List V) (v : Value) (us : List Value) (Q : VK), Inv X pins σ H s → RelV x v → Vals xs us → r x xs H Q →
    wpAny (model X.prog X.w) X.A (call (.builtin id) (v :: us)) (EP X pins σ Q) X.xe s
section
variable {X : Cx} {a b : Expr} {ta tb : TE} {pos : Pos}
theorem pe_ix {r : R2} (hr : IxR X r) (ha : PE X a ta) (hb : PE X b tb) (hs : PlainIx b) : PE X (.Subscript a b pos) (tOp r ta tb) := by
  intro pins s σ H Q I h
  exact Subscript_ (binT ha hb I h fun v u s2 x y H2 I2 rx ry q => hr a b pins s2 σ H2 x y v u Q I2 rx ry q (hs _ _))

def rIxL (K : PySem.W.Frag) : R2 := fun x y H Q => ∃ p xs i v, x = .ref p ∧ y = .int i ∧ SqL K H p xs ∧ atI xs i = some v ∧ Q v H
def rIxT (K : PySem.W.Frag) : R2 := fun x y H Q => ∃ p xs i v, x = .ref p ∧ y = .int i ∧ SqT K H p xs ∧ atI xs i = some v ∧ Q v H
theorem ix_list : IxR X (rIxL X.K) := by
  intro value slice pins s σ H x y v u Q I rx ry h hs
  obtain ⟨p, xs, i, z, rfl, rfl, hq, he, q⟩ := h
  cases rx
  obtain ⟨t, rfl⟩ := ry
  obtain ⟨its, r, pl, hz⟩ := I.list hq
  obtain ⟨j, h1, h2, h3, h4, h5⟩ := atI_get he
  obtain ⟨w, ew, rw'⟩ := r.get h2
  have hl := r.length
  have hn := line63
  have fin : EP X pins σ Q w s := ⟨z, H, I, rw', q⟩
  by_cases h0 : 0 ≤ i
  · have hj : i.toNat = j := by
      rw [seqIndex_of h0 h5] at h1
      exact Option.some.inj h1
    exact item_listR pl.isList h0 (by omega) (by rw [hj]; simpa using ew) fin hs
  · have hj : (i + (its.toArray.size : Int)).toNat = j := by
      rw [seqIndex_neg (by omega) h4] at h1
      rw [List.size_toArray, ← hl]
      exact Option.some.inj h1
    exact subscriptTail_builtinR (x := w) pl.isList.typeIs slot_list_getitem.lookup
      (wpAny_getItem_list_neg (Q := fun r s' => r = w ∧ EP X pins σ Q r s') pl.isList (by omega) (by rw [List.size_toArray] <;> omega) (by omega) (by rw [hj]; simpa using ew) ⟨rfl, fin⟩) hs
theorem ix_tup : IxR X (rIxT X.K) := by
  intro value slice pins s σ H x y v u Q I rx ry h hs
  obtain ⟨p, xs, i, z, rfl, rfl, hq, he, q⟩ := h
  cases rx
  obtain ⟨t, rfl⟩ := ry
  obtain ⟨its, r, pl, hz⟩ := I.tuple hq
  obtain ⟨j, h1, h2, h3, h4, h5⟩ := atI_get he
  obtain ⟨w, ew, rw'⟩ := r.get h2
  have hl := r.length
  have hn := line63
  have fin : EP X pins σ Q w s := ⟨z, H, I, rw', q⟩
  exact subscriptTail_builtinR (x := w) pl.typeIs slot_tuple_getitem.lookup
    (getItem_tuple (j := j) (Q := fun r s' => r = w ∧ EP X pins σ Q r s') pl (by omega) (by omega) (by rw [List.size_toArray, ← hl]; exact h1) (by simpa using ew) ⟨rfl, fin⟩) hs
theorem mapSeq_set (its : List Value) (n j : Nat) (u : Value) : Obj.mapSeq (·.setIfInBounds j u) { cls := .type "list", data := .seq its.toArray n } = { cls := .type "list", data := .seq (its.set j u).toArray n } := by
  simp [Obj.mapSeq]
theorem Inv.lst {pins : List (Addr × Obj)} {σ : St} {H : Hp} {s : Shared} {p : Addr} {xs : List V} (I : Inv X pins σ H s) (h : H p = some (.lst xs)) :
    ∃ (its : List Value) (n : Nat), Vals xs its ∧ s.heap.get? p = some { cls := .type "list", data := .seq its.toArray n } ∧ xs.length ≤ sizeLine := by
  obtain ⟨z, its, n, r, e⟩ := I.hok p _ h
  exact ⟨its, n, r, e, z⟩
theorem Inv.lstUpd {pins : List (Addr × Obj)} {σ : St} {H : Hp} {s : Shared} {p : Addr} {xs ys : List V} {its its' : List Value} {n n' : Nat} {f : Obj → Obj} (I : Inv X pins σ H s) (h : H p = some (.lst xs))
    (ho : s.heap.get? p = some { cls := .type "list", data := .seq its.toArray n }) (hf : f { cls := .type "list", data := .seq its.toArray n } = { cls := .type "list", data := .seq its'.toArray n' }) (r : Vals ys its') (hz : ys.length ≤ sizeLine) (t : Nat) :
    Inv X pins σ (upd H p (.lst ys)) { s with heap := s.heap.update p f, toks := t } := by
  have e : (s.heap.update p f).get? p = some { cls := .type "list", data := .seq its'.toArray n' } := by
    rw [Heap.get?_update_self f ho (by rw [hf] <;> rfl), hf]
  refine I.write (x := p) (e := p) (by rw [h]; trivial) (.inl rfl) (fun b u hb q => (Heap.get?_update_other _ _ (Ne.symm hb)).trans q) ⟨_, e⟩ ?_
  exact ⟨hz, its', n', r, e⟩
def rSetL : V → V → V → Hp → (Hp → Prop) → Prop := fun o i v H Q => ∃ p xs k j, o = .ref p ∧ i = .int k ∧ H p = some (.lst xs) ∧ ixN xs.length k = some j ∧ Q (upd H p (.lst (xs.set j v)))
theorem set_list : PSet X rSetL := by
  intro pins s σ H o i v ov iv u Q I ro ri rv h
  obtain ⟨p, xs, k, j, rfl, rfl, hp, hj, q⟩ := h
  cases ro
  obtain ⟨t, rfl⟩ := ri
  obtain ⟨its, n, r, ho, hz⟩ := I.lst hp
  obtain ⟨h1, h2, h3, h4⟩ := ixN_seq hj
  have hl := r.length
  have hn := line63
  have I' : Inv X pins σ (upd H p (.lst (xs.set j v))) { s with heap := s.heap.update p (Obj.mapSeq (·.setIfInBounds j u)) } :=
    I.lstUpd hp ho (mapSeq_set its n j u) (r.set rv j) (by rw [List.length_set]; exact hz) s.toks
  by_cases h0 : 0 ≤ k
  · have hk : k.toNat = j := by
      rw [seqIndex_of h0 h4] at h1
      exact Option.some.inj h1
    exact PySem.W.ki_setAt ho h0 (by omega) (by rw [List.size_toArray, ← hl]; exact h4) (by rw [hk]; exact ⟨_, I', q⟩)
  · have hk : (k + (its.toArray.size : Int)).toNat = j := by
      rw [seqIndex_neg (by omega) h3] at h1
      rw [List.size_toArray, ← hl]
      exact Option.some.inj h1
    exact PySem.W.ki_setBack ho (by omega) (by rw [List.size_toArray, ← hl]; exact h3) (by omega) (by rw [hk]; exact ⟨_, I', q⟩)

theorem slice_bounds (lo hi : Option Int) (n : Nat) : (sliceBounds lo hi none n).1 = ((HT.sIx n 0 lo : Nat) : Int) ∧ (sliceBounds lo hi none n).2.1 = ((HT.sIx n n hi : Nat) : Int) ∧ (sliceBounds lo hi none n).2.2 = 1 := by
  refine ⟨?_, ?_, rfl⟩
  · cases lo with
    | none => simp [sliceBounds, HT.sIx]
    | some i =>
      simp only [sliceBounds, HT.sIx, Option.getD_none, show (1 : Int) > 0 by decide, if_true]
      by_cases h : i < 0
      · simp only [h, if_true] <;> omega
      · simp only [h, if_false] <;> omega
  · cases hi with
    | none => simp [sliceBounds, HT.sIx]
    | some i =>
      simp only [sliceBounds, HT.sIx, Option.getD_none, show (1 : Int) > 0 by decide, if_true]
      by_cases h : i < 0
      · simp only [h, if_true] <;> omega
      · simp only [h, if_false] <;> omega
theorem slicePick_cut (its : List Value) (lo hi : Option Int) : slicePick its.toArray lo hi none = ((its.drop (HT.sIx its.length 0 lo)).take (HT.sIx its.length its.length hi - HT.sIx its.length 0 lo)).toArray := by
  obtain ⟨h1, h2, h3⟩ := slice_bounds lo hi its.toArray.size
  unfold slicePick
  rw [h1, h2, h3]
  simp only [sliceRange_one, pick_run, List.size_toArray] <;> rfl
def rSlL (K : PySem.W.Frag) : V → Option Int → Option Int → Hp → VK → Prop := fun x lo hi H Q => ∃ a xs, x = .ref a ∧ SqL K H a xs ∧ ∀ p, H p = none → Q (.ref p) (upd H p (.lst (cutV xs lo hi)))
theorem sl_list : SlR X (rSlL X.K) := by
  intro pins s σ H x v vl vu lo hi sl Q I rx hs pl pu h
  obtain ⟨a, xs, rfl, hx, q⟩ := h
  cases rx
  obtain ⟨its, r, ht, hz⟩ := I.list hx
  have hlen := r.length
  refine ⟨"list", _, slot_list_getitem.lookup, ht.isList.typeIs, ?_⟩
  refine wpAny_getItem_list_slice ht.isList hs pl pu .none (by simp) ?_ (by rw [List.size_toArray] <;> omega)
  rw [slicePick_cut, ← hlen]
  refine ⟨.ref s.heap.objs.size, _, I.laid (t' := s.toks) (o := .lst (cutV xs lo hi)) (fun b ob q => Heap.get?_push_of_some _ q) (Nat.le_refl _) ?_, rfl, q _ (I.hok.fresh (Nat.le_refl _))⟩
  exact ⟨Nat.le_trans (cutV_length xs lo hi) hz, _, 0, (r.drop (HT.sIx xs.length 0 lo)).take (HT.sIx xs.length xs.length hi - HT.sIx xs.length 0 lo), Heap.get?_push_size _ rfl⟩

def flatV : V → Bool
  | .non => true
  | .bl _ => true
  | .int _ => true
  | .str _ => true
  | _ => false
def eqV : V → V → Bool
  | .non, .non => true
  | .bl a, .bl b => a == b
  | .bl a, .int b => (if a then 1 else 0) == b
  | .int a, .bl b => a == (if b then 1 else 0)
  | .int a, .int b => a == b
  | .str a, .str b => a == b
  | _, _ => false
theorem eqAt_V {A : Around} {s : Shared} {y x : V} {u v : Value} (ry : RelV y u) (rx : RelV x v) (fy : flatV y = true) (fx : flatV x = true) : SeqAt.EqAt A s u v (eqV y x) := by
  cases y with
  | non =>
    cases ry
    cases x with
    | non => cases rx; exact SeqAt.EqAt.same _
    | bl b => cases rx; exact SeqAt.EqAt.none_bool b
    | int b => obtain ⟨t, rfl⟩ := rx; exact SeqAt.EqAt.none_int b t
    | str b => obtain ⟨t, rfl⟩ := rx; exact SeqAt.EqAt.none_str b t
    | _ => exact absurd (show false = true from fx) Bool.false_ne_true
  | bl a =>
    cases ry
    cases x with
    | non => cases rx; exact SeqAt.EqAt.bool_none a
    | bl b => cases rx; exact SeqAt.EqAt.bool_bool a b
    | int b => obtain ⟨t, rfl⟩ := rx; exact SeqAt.EqAt.bool_int a b t
    | str b => obtain ⟨t, rfl⟩ := rx; exact SeqAt.EqAt.bool_str a b t
    | _ => exact absurd (show false = true from fx) Bool.false_ne_true
  | int a =>
    obtain ⟨t', rfl⟩ := ry
    cases x with
    | non => cases rx; exact SeqAt.EqAt.int_none a t'
    | bl b => cases rx; exact SeqAt.EqAt.int_bool a t' b
    | int b => obtain ⟨t, rfl⟩ := rx; exact SeqAt.EqAt.int_int a t' b t
    | str b => obtain ⟨t, rfl⟩ := rx; exact SeqAt.EqAt.int_str a t' b t
    | _ => exact absurd (show false = true from fx) Bool.false_ne_true
  | str a =>
    obtain ⟨t', rfl⟩ := ry
    cases x with
    | non => cases rx; exact SeqAt.EqAt.str_none a t'
    | bl b => cases rx; exact SeqAt.EqAt.str_bool a t' b
    | int b => obtain ⟨t, rfl⟩ := rx; exact SeqAt.EqAt.str_int a t' b t
    | str b => obtain ⟨t, rfl⟩ := rx; exact SeqAt.EqAt.str_str a t' b t
    | _ => exact absurd (show false = true from fx) Bool.false_ne_true
  | _ => exact absurd (show false = true from fy) Bool.false_ne_true
def eqU (x : V) (u : Value) : Bool := match u with
  | .none => eqV .non x
  | .bool b => eqV (.bl b) x
  | .int i _ => eqV (.int i) x
  | .str z _ => eqV (.str z) x
  | _ => false
theorem eqU_of {x y : V} {u : Value} (r : RelV y u) (f : flatV y = true) : eqU x u = eqV y x := by
  cases y with
  | non => cases r; rfl
  | bl b => cases r; rfl
  | int i => obtain ⟨t, rfl⟩ := r; rfl
  | str z => obtain ⟨t, rfl⟩ := r; rfl
  | _ => exact absurd (show false = true from f) Bool.false_ne_true
theorem mem_eqAt {A : Around} {s : Shared} {x : V} {v : Value} (rx : RelV x v) (fx : flatV x = true) : ∀ {xs : List V} {us : List Value}, Vals xs us → xs.all flatV = true → ∀ u ∈ us, SeqAt.EqAt A s u v (eqU x u)
  | _, _, .nil, _ => fun u hu => by cases hu
  | y :: xs, u :: us, .cons r t, f => fun u' hu => by
    rw [List.all_cons, Bool.and_eq_true] at f
    rcases List.mem_cons.mp hu with rfl | hu
    · rw [eqU_of r f.1]; exact eqAt_V r rx f.1 fx
    · exact mem_eqAt rx fx t f.2 u' hu
def inV (x : V) (xs : List V) : Bool := xs.any fun y => eqV y x
theorem call_len_seq : CallR X (.builtin "len") (fun xs H Q => ∃ p ys, xs = [.ref p] ∧ (SqL X.K H p ys ∨ SqT X.K H p ys) ∧ Q (.int ys.length) H) := by
  intro pins s σ H xs us Q I r h
  obtain ⟨p, ys, rfl, hq, q⟩ := h
  obtain ⟨u, rfl, rx⟩ := vals1 r
  cases rx
  have hn := line63
  rcases hq with hq | hq
  · obtain ⟨its, r', pl, hz⟩ := I.list hq
    have hlen := r'.length
    exact Calls.call_len_list pl.isList (by simp only [List.size_toArray] <;> omega) ⟨.int ys.length, H, I.tok _, ⟨s.toks + 1, by rw [List.size_toArray, hlen]⟩, q⟩
  · obtain ⟨its, r', pl, hz⟩ := I.tuple hq
    have hlen := r'.length
    exact len_tuple pl (by simp only [List.size_toArray] <;> omega) ⟨.int ys.length, H, I.tok _, ⟨s.toks + 1, by rw [List.size_toArray, hlen]⟩, q⟩
theorem call_list_of : CallR X (.type "list") (fun xs H Q => ∃ p ys, xs = [.ref p] ∧ (SqL X.K H p ys ∨ SqT X.K H p ys) ∧ ∀ l, H l = none → Q (.ref l) (upd H l (.lst ys))) := by
  intro pins s σ H xs us Q I r h
  obtain ⟨p, ys, rfl, hq, q⟩ := h
  obtain ⟨u, rfl, rx⟩ := vals1 r
  cases rx
  have fin : ∀ (its : List Value), Vals ys its → ys.length ≤ sizeLine → ∀ (h' : Heap) (c' : Nat), (∀ b o', s.heap.get? b = some o' → h'.get? b = some o') →
      h'.get? s.heap.objs.size = some { cls := .type "list", dict := none, data := .seq its.toArray c', slots := #[] } → EP X pins σ Q (.ref s.heap.objs.size) { s with heap := h' } := fun its r' hz h' c' kp e =>
    ⟨.ref s.heap.objs.size, _, I.laid (t' := s.toks) kp (Nat.le_refl _) (show ObjOk X.prog X.w _ h' _ (.lst ys) from ⟨hz, its, c', r', e⟩), rfl, q _ (I.hok.fresh (Nat.le_refl _))⟩
  rcases hq with hq | hq
  · obtain ⟨its, r', pl, hz⟩ := I.list hq
    have hlen := r'.length
    obtain ⟨o, ho, hc, n, hd⟩ := pl.isList
    exact call_list_seq p (.inl rfl) ho hc hd (fun h' c' kp e => fin its r' hz h' c' kp e) (by simp only [List.size_toArray] <;> omega)
  · obtain ⟨its, r', pl, hz⟩ := I.tuple hq
    have hlen := r'.length
    obtain ⟨o, ho, hc, n, hd⟩ := pl
    exact call_list_seq p (.inr rfl) ho hc hd (fun h' c' kp e => fin its r' hz h' c' kp e) (by simp only [List.size_toArray] <;> omega)
theorem call_tuple_of : CallR X (.type "tuple") (fun xs H Q => ∃ p ys, xs = [.ref p] ∧ ((SqL X.K H p ys ∧ ∀ l, H l = none → Q (.ref l) (upd H l (.tup ys))) ∨ (SqT X.K H p ys ∧ Q (.ref p) H))) := by
  intro pins s σ H xs us Q I r h
  obtain ⟨p, ys, rfl, h⟩ := h
  obtain ⟨u, rfl, rx⟩ := vals1 r
  cases rx
  rcases h with ⟨hq, q⟩ | ⟨hq, q⟩
  · obtain ⟨its, r', pl, hz⟩ := I.list hq
    have hlen := r'.length
    refine call_tuple_list pl.isList (fun h' kp => ?_) (by simp only [List.size_toArray] <;> omega)
    have I1 : Inv X pins σ H { s with heap := h' } := I.kept (t' := s.toks) kp
    have I2 : Inv X pins σ (upd H h'.objs.size (.tup ys)) { s with heap := h'.push { cls := .type "tuple", data := .seq its.toArray } } :=
      I1.laid (t' := s.toks) (fun b o e => Heap.get?_push_of_some _ e) (Nat.le_refl _) (show ObjOk X.prog X.w _ _ _ (.tup ys) from ⟨hz, its, r', IsTup.new _ _⟩)
    exact ⟨.ref h'.objs.size, _, I2, rfl, q _ (I1.hok.fresh (Nat.le_refl _))⟩
  · obtain ⟨its, r', pl, hz⟩ := I.tuple hq
    exact call_tuple_same pl ⟨.ref p, H, I, rfl, q⟩

def tyV (K : PySem.W.Frag) (T : String) (x : V) (H : Hp) : Prop := match x with
  | .str _ => T = "str"
  | .int _ => T = "int"
  | .ref p => (T = "list" ∧ ∃ xs, SqL K H p xs) ∨ (T = "tuple" ∧ ∃ o, K.lookup p = some o ∧ o.cls = .type "tuple" ∧ o.dict = none) ∨
      (T = "dict" ∧ ((∃ kvs, H p = some (.dK kvs)) ∨ ∃ kvs, H p = some (.dT kvs))) ∨ (T = "set" ∧ ∃ S n, H p = some (.set S n))
  | _ => False
theorem tyV_is {pins : List (Addr × Obj)} {σ : St} {H : Hp} {s : Shared} {T : String} {x : V} {v : Value} (I : Inv X pins σ H s) (r : RelV x v) (ty : tyV X.K T x H) :
    s.TypeIs v T ∧ ∀ a, v = .ref a → ∃ ob, s.heap.get? a = some ob ∧ ob.dict = none := by
  cases x with
  | str z =>
    obtain ⟨t, rfl⟩ := r
    cases (show T = "str" from ty)
    exact ⟨typeIs_str s z t, fun _ e => nomatch e⟩
  | int i =>
    obtain ⟨t, rfl⟩ := r
    cases (show T = "int" from ty)
    exact ⟨typeIs_int s i t, fun _ e => nomatch e⟩
  | ref p =>
    cases r
    rcases ty with ⟨rfl, xs, hq⟩ | ⟨rfl, o, hk, hc, hd⟩ | ⟨rfl, hk⟩ | ⟨rfl, S, n, hk⟩
    · obtain ⟨its, _, pl, _⟩ := I.list hq
      refine ⟨pl.isList.typeIs, fun a e => ?_⟩
      cases e
      obtain ⟨o, n, e, c, hd, _⟩ := pl
      exact ⟨o, e, hd⟩
    · refine ⟨⟨o, I.kIn p o hk, hc⟩, fun a e => ?_⟩
      cases e
      exact ⟨o, I.kIn _ o hk, hd⟩
    · have z : ∃ o, s.heap.get? p = some o ∧ o.ExactDict := by
        rcases hk with ⟨kvs, hk⟩ | ⟨kvs, hk⟩
        · obtain ⟨_, _, _, _, o, _, _, e, ex, _⟩ := I.hok p _ hk
          exact ⟨o, e, ex⟩
        · obtain ⟨_, _, _, _, o, _, _, e, ex, _⟩ := I.hok p _ hk
          exact ⟨o, e, ex⟩
      obtain ⟨o, e, ex⟩ := z
      refine ⟨⟨o, e, ex.1⟩, fun a e2 => ?_⟩
      cases e2
      exact ⟨o, e, ex.2.1⟩
    · obtain ⟨o, _, _, _, e, ex, _⟩ := I.hok p _ hk
      refine ⟨⟨o, e, ex.1⟩, fun a e2 => ?_⟩
      cases e2
      exact ⟨o, e, ex.2.1⟩
  | _ => exact False.elim ty
def tBM (K : PySem.W.Frag) (T : String) (r : V → List V → Hp → VK → Prop) (to : TE) (t : TA) : TE := fun σ H Q => to σ H fun x H1 => tyV K T x H1 ∧ t σ H1 fun xs H2 => r x xs H2 Q
variable {o e : Expr} {es : List Expr} {to : TE} {t : TA} {name : Str} {apos cpos : Pos} {T id : String} {r : V → List V → Hp → VK → Prop}
theorem pe_bm (pa : PlainAttrs T) (slot : Slot T name id) (hty : typeOf (.builtin id) = pure (.type "method_descriptor")) (hm : MtR X id r) (ho : PE X o to) (ha : PA X (e :: es) t)
    (hbase : attributeBase o name X.env (eval o X.env) = eval o X.env := by rfl)
    (hfew : ((backTo cpos (starEach (e :: es) X.env)).all (fun x => !x.1) && (backToKw cpos (keywordEach [] X.env)).all (fun x => x.1.isSome)
      && decide ((e :: es).length + ([] : List Keyword).length + (if ([] : List Keyword).isEmpty then 0 else 1) < 30)) = true := by rfl)
    (hline : (apos.endLine == cpos.line) = true := by rfl) (hs : starEach (e :: es) X.env = (false, eval e X.env) :: starEach es X.env := by rfl) (hplain : (backTo cpos (starEach es X.env)).any (·.1) = false := by rfl) :
    PE X (.Call (.Attribute o name apos) (e :: es) [] cpos) (tBM X.K T r to t) := by
  intro pins s σ H Q I h
  refine wpAny_Call_method_late hbase hfew hline rfl (thn (ho pins s σ H _ I h) fun v s1 ⟨x, H1, I1, r1, ty, q1⟩ => ?_)
  obtain ⟨h1, h2⟩ := tyV_is I1 r1 ty
  refine ⟨T, id, pa, slot, hty, h1, h2, ?_⟩
  have hA := ha cpos pins s1 σ H1 _ I1 q1
  rw [hs] at hA ⊢
  refine Calls.callWith_builtin (by show (false || (backTo cpos (starEach es X.env)).any (·.1)) = false; rw [hplain] <;> rfl) (Calls.evalArgs_plain ?_)
  exact thn hA fun us s2 ⟨vs, H2, I2, r2, q2⟩ => hm pins s2 σ H2 x vs v us Q I2 r1 r2 q2
/- xs.append(e), list.index on a module's tuple .. are MtR facts of 06m -/
end
end L2

namespace L2
open PySem PySem.Spec PyProof.Rows

def MtM (X : Cx) (id : String) (r : V → List V → Hp → VK → Prop) : Prop :=
  ∀ (pins : List (Addr × Obj)) (s : Shared) (σ : St) (H : Hp) (x : V) (xs : List V) (v : Value) (us : List Value) (Q : VK), Inv X pins σ H s → RelV x v → Vals xs us → r x xs H Q →
    wpAny (model X.prog X.w) X.A (call (.builtin id) (v :: us)) (EP X pins σ Q) X.xe s

theorem Vals.one : ∀ {x : V} {us : List Value}, Vals [x] us → ∃ u, us = [u] ∧ RelV x u
  | _, _, .cons r .nil => ⟨_, rfl, r⟩
theorem Vals.rep {xs : List V} {us : List Value} (h : Vals xs us) : ∀ k : Nat, Vals (List.replicate k xs).flatten (List.replicate k us).flatten
  | 0 => .nil
  | k + 1 => by
    rw [List.replicate_succ, List.replicate_succ, List.flatten_cons, List.flatten_cons]
    exact Vals.append h (Vals.rep h k)
theorem foldl_rep (its : List Value) : ∀ (k : Nat) (acc : List Value),
    List.foldl (fun x1 x2 => x1 ++ x2) acc.toArray (List.replicate k its.toArray) = (acc ++ (List.replicate k its).flatten).toArray
  | 0, acc => by simp
  | k + 1, acc => by
    have e : acc.toArray ++ its.toArray = (acc ++ its).toArray := by simp
    have e2 : (acc ++ its) ++ (List.replicate k its).flatten = acc ++ (List.replicate (k + 1) its).flatten := by
      rw [List.replicate_succ, List.flatten_cons, List.append_assoc]
    rw [← e2, ← foldl_rep its k (acc ++ its), ← e, List.replicate_succ, List.foldl_cons]

section
variable {X : Cx} {pins : List (Addr × Obj)} {σ : St} {H : Hp} {s : Shared} {l b : Addr} {xs ys zs : List V}

theorem Inv.lset {its its' : List Value} {n : Nat} {f : Array Value → Array Value} {t' : Nat} (I : Inv X pins σ H s) (hH : H l = some (.lst xs))
    (e : s.heap.get? l = some { cls := .type "list", data := .seq its.toArray n }) (hf : f its.toArray = its'.toArray) (hv : Vals ys its') (hz : ys.length ≤ sizeLine) :
    Inv X pins σ (upd H l (.lst ys)) { s with heap := s.heap.update l (Obj.mapSeq f), toks := t' } := by
  have q := PySem.IsL.update e f
  rw [hf] at q
  refine I.write (x := l) (e := l) (by rw [hH]; exact trivial) (.inl rfl) (fun b' u hb hu => (Heap.get?_update_other s.heap (Obj.mapSeq f) (Ne.symm hb)).trans hu) ⟨_, q⟩ ?_
  exact ⟨hz, its', _, hv, q⟩
theorem Inv.lnew {its : List Value} {t' : Nat} (I : Inv X pins σ H s) (hv : Vals ys its) (hz : ys.length ≤ sizeLine) :
    Inv X pins σ (upd H s.heap.objs.size (.lst ys)) { s with heap := s.heap.push { cls := .type "list", data := .seq its.toArray }, toks := t' } :=
  I.laid (fun _ _ q => Heap.get?_push_of_some _ q) (Nat.le_refl _) ⟨hz, its, 0, hv, Heap.get?_push_size _ rfl⟩
theorem Inv.fresh (I : Inv X pins σ H s) : H s.heap.objs.size = none := I.hok.fresh (Nat.le_refl _)
theorem Inv.lstM (I : Inv X pins σ H s) (hH : H l = some (.lst xs)) : xs.length ≤ sizeLine ∧ ∃ (its : List Value) (n : Nat), Vals xs its ∧ xs.length = its.length ∧ s.heap.get? l = some { cls := .type "list", data := .seq its.toArray n } := by
  obtain ⟨z, its, n, r, e⟩ := I.hok l _ hH
  exact ⟨z, its, n, r, r.length, e⟩

theorem notLongL {n : Nat} (h : n ≤ sizeLine) : Builtin.List.listTooLong n = false := by
  unfold Builtin.List.listTooLong
  exact decide_eq_false (by omega)
end

section
variable {X : Cx}

def rAppend : V → List V → Hp → VK → Prop := fun x vs H Q => ∃ l xs y, x = .ref l ∧ vs = [y] ∧ H l = some (.lst xs) ∧ xs.length < sizeLine ∧ Q .non (upd H l (.lst (xs ++ [y])))
theorem mt_append : MtM X "list.append" rAppend := by
  intro pins s σ H x vs v us Q I rx rv h
  obtain ⟨l, xs, y, rfl, rfl, hH, hz, q⟩ := h
  cases rx
  obtain ⟨u, rfl, ru⟩ := rv.one
  obtain ⟨z, its, n, r, hl, e⟩ := I.lstM hH
  refine call_meets F.slot_list_append ⟨_, e, rfl⟩ F.entry_list_append (F.args_list_append_2 _ _) (PySem.list_append l its.toArray n u (by rw [List.size_toArray]; omega)) ⟨e, ?_⟩
  refine ⟨.non, _, I.lset (its' := its ++ [u]) hH e (by simp) (r.append (.cons ru .nil)) ?_, rfl, q⟩
  rw [List.length_append, List.length_singleton]
  omega

def rCat : R2 := fun x y H Q => ∃ l b xs zs, x = .ref l ∧ y = .ref b ∧ H l = some (.lst xs) ∧ H b = some (.lst zs) ∧ xs.length + zs.length ≤ sizeLine ∧ ∀ p, H p = none → Q (.ref p) (upd H p (.lst (xs ++ zs)))
theorem op_cat : OpR X (binaryOp .Add) rCat := by
  intro pins s σ H x y v u Q I rx ry h
  obtain ⟨l, b, xs, zs, rfl, rfl, hH, hB, hz, q⟩ := h
  cases rx
  cases ry
  obtain ⟨z, its, n, r, hl, e⟩ := I.lstM hH
  obtain ⟨z2, its2, n2, r2, hl2, e2⟩ := I.lstM hB
  refine PySem.P.add_list e e2 ?_ (by rw [List.size_toArray, List.size_toArray]; omega)
  have ea : its.toArray ++ its2.toArray = (its ++ its2).toArray := by simp
  rw [ea]
  exact ⟨.ref _, _, I.lnew (t' := s.toks) (r.append r2) (by rw [List.length_append]; omega), rfl, q _ I.fresh⟩
def rRep : R2 := fun x y H Q => ∃ l k xs, x = .ref l ∧ y = .int k ∧ H l = some (.lst xs) ∧ -(2 ^ 63) ≤ k ∧ k < 2 ^ 63 ∧ xs.length * k.toNat ≤ sizeLine ∧
  ∀ p, H p = none → Q (.ref p) (upd H p (.lst (List.replicate k.toNat xs).flatten))
theorem len_rep {α : Type} (xs : List α) (k : Nat) : (List.replicate k xs).flatten.length = k * xs.length := by
  induction k with
  | zero => simp
  | succ k ih => rw [List.replicate_succ, List.flatten_cons, List.length_append, ih, Nat.succ_mul, Nat.add_comm]
theorem op_rep : OpR X (binaryOp .Mult) rRep := by
  intro pins s σ H x y v u Q I rx ry h
  obtain ⟨l, k, xs, rfl, rfl, hH, h1, h2, hz, q⟩ := h
  cases rx
  obtain ⟨t, rfl⟩ := ry
  obtain ⟨z, its, n, r, hl, e⟩ := I.lstM hH
  have hlen : its.toArray.size * k.toNat ≤ sizeLine := by rw [List.size_toArray, ← hl]; exact hz
  have hcap : ¬ its.toArray.size * k.toNat > (2 ^ 63 - 1) / 8 := by
    have : (sizeLine : Nat) ≤ (2 ^ 63 - 1) / 8 := by decide
    omega
  have hfit : ¬ (!Builtin.List.listFitsIndex k) = true := by
    rw [fitsIndex_both h1 h2]
    exact Bool.false_ne_true
  have hlong : ¬ Builtin.List.listTooLong (its.toArray.size * k.toNat) = true := by
    rw [notLongL hlen]
    exact Bool.false_ne_true
  have hnew : List.foldl (fun x1 x2 => x1 ++ x2) #[] (List.replicate (if its.toArray.isEmpty = true then 0 else k.toNat) its.toArray) = (List.replicate k.toNat its).flatten.toArray := by
    have f0 : ∀ m : Nat, List.foldl (fun x1 x2 => x1 ++ x2) #[] (List.replicate m its.toArray) = (List.replicate m its).flatten.toArray := fun m => by
      have := foldl_rep its m []
      rw [List.nil_append] at this
      exact this
    rw [f0]
    cases its with
    | nil => simp
    | cons a r' => rw [if_neg (by simp)]
  refine wpAny_binaryOp_repeat_ref (T := "list") (U := "int") (by decide) ⟨_, e, rfl⟩ (fun s' => typeIs_int s' k t) noFill_list_mul F.fills_int_mul F.slot_int_rmul repeat_list F.slot_int_index.lookup
    (call_meets F.slot_int_rmul (typeIs_int s k t) F.entry_int_rmul (F.args_int_rmul_2 _ _) (int___rmul___int_list k t l its.toArray n)
      ⟨e, rfl, ⟨_, e, rfl⟩, call_meets F.slot_list_mul ⟨_, e, rfl⟩ F.entry_list_mul (F.args_list_mul_2 _ _) (AutoListH.list___mul___list_int_3 l its.toArray n k t hfit hcap hlong) ⟨e, ?_⟩⟩)
  rw [hnew]
  exact ⟨.ref _, _, I.lnew (t' := s.toks) (r.rep k.toNat) (by rw [len_rep, Nat.mul_comm]; exact hz), rfl, q _ I.fresh⟩

end

section
variable {prog : Program} {w : World} {A : Around} {E : Value → Shared → Prop} {s : Shared}
end

section
variable {X : Cx}
end
end L2

namespace Att
open PySem PySem.W PySem.Calls PyProof.Rows

theorem ints_of_wellAll {P : Params} {h : Heap} : ∀ (ns : List Int) (vs : List Value), WellAll P h vs (ns.map WData.int) → IntsAre vs ns := by
  intro ns
  induction ns with
  | nil =>
    intro vs w
    rw [List.map_nil] at w
    cases w
    exact .nil
  | cons n ns ih =>
    intro vs w
    rw [List.map_cons] at w
    cases w with
    | cons a b =>
      cases a
      exact .cons _ _ (ih _ b)

theorem script_of {l : OpenLaw} {n : Nat} (hn : l.most = some n) {P : Params} {h : Heap} {args : List WData} {vals : List Value}
    (hpre : l.row.toRowW.claim.pre args = true) (hwl : WellAll P h vals args) :
    ∃ a vs ns, vals = [Value.ref a] ∧ args = [WData.list (ns.map WData.int)] ∧ h.get? a = some { cls := .type "list", data := .seq vs.toArray } ∧ IntsAre vs ns ∧ ns.length ≤ n := by
  have hsh : WShape.hasAll [] args [.list .int] = true := (pre_splitW hpre).1
  have hc : l.pre.holds [] { args := args } = true := (pre_splitW hpre).2
  obtain ⟨d, r, rfl, h1, h2⟩ := hasAllW_cons hsh
  obtain rfl := hasAllW_nil h2
  obtain ⟨xs, rfl, h3⟩ := hasW_list h1
  obtain ⟨ns, rfl⟩ := items_int h3
  have hlen : ns.length ≤ n := by
    unfold OpenLaw.pre at hc
    have h4 : (WTm.not (.lt (.lit (.int (n : Int))) (.len (.arg 0)))).holds [] { args := [.list (ns.map .int)] } = true := by
      have h4 := (holds_andW hc).1
      rw [hn] at h4
      exact h4
    have h5 := condW_of h4 (w_not (w_lt w_lit (w_len_list (w_arg rfl))))
    rw [List.length_map] at h5
    refine Nat.le_of_not_lt fun q => ?_
    have q' : (n : Int) < ((ns.length : Nat) : Int) := by omega
    first
      | (rw [decide_eq_true q'] at h5; exact absurd h5 (by decide))
      | (simp at h5; omega)
  cases hwl with
  | cons w1 w2 =>
    cases w2
    cases w1 with
    | list ho hall => exact ⟨_, _, ns, rfl, rfl, ho, ints_of_wellAll ns _ hall, hlen⟩

theorem post_true (l : OpenLaw) (args : List WData) : l.row.toRowW.claim.post args (.bool true) args = true :=
  postW_of (r := l.row.toRowW) (X := (true == true))
    (show WShape.has [] (.bool true) .bool = true by first | rfl | decide | simp [WShape.has, WShape.arms, WShape.armsAll])
    (show (WTm.eq .res (.lit (.bool true))).value [] { args := args, res := some (.bool true), after := args } = some (.bool (true == true)) from w_eq_bool (w_res rfl) w_lit) rfl

theorem attach_call {l : OpenLaw} {n : Nat} {q : Program} {loose : List Str} {XP : (Str → Option Value) → Heap → Prop} {YP : World → Heap → Prop} {d : DefRec}
    (hn : l.most = some n) (hdf : d.params.defaults = [])
    (call : ∀ (w : World) (s₀ s₁ : Shared) (mg mb : Str → Option Value) (fa : Addr) (o : Obj) (pm cd doc : Value) (a : Addr) (vs : List Value) (ns : List Int),
      Ground q loose [] XP w s₀ mg mb s₁.heap → YP w s₁.heap →
      s₁.heap.get? fa = some o → o.data = .func (docDef d.name d.params d.body d.scope pm cd doc) → s₁.heap.CodeRec cd d.name → mg d.name = some (.ref fa) →
      s₁.heap.get? a = some { cls := .type "list", data := .seq vs.toArray } → IntsAre vs ns → ns.length ≤ n → s₁.gens = #[] →
      codeAny (model l.prog w) callerA (.call (.ref fa) ⟨[.ref a], []⟩) (fun r s' => r = .ok (.ret (.bool true)) ∧ OldK s₁.heap s'.heap ∧ s'.os = s₁.os ∧ AllBare s'.gens) s₁) :
    WalkO q loose XP YP l.row.toRowW d [] (fun f vs => PySem.call f vs) := by
  intro w s₀ s₁ mg mb G Y fa o pm cd doc dV kV ho hd hcd hD hmg hg args vals as hpre hlay hrd hwl hlo
  obtain rfl : dV = .none := Dflts.none hD hdf
  obtain rfl : kV = .none := Dflts.noKw hD
  obtain ⟨a, vs, ns, rfl, rfl, hobj, hints, hlen⟩ := script_of hn hpre hwl
  refine enter_call (codeAny_mono (call w s₀ s₁ mg mb fa o pm cd doc a vs ns G Y ho (fd_plain hd) hcd hmg hobj hints hlen hg) fun r s' hq => ?_)
  obtain ⟨rfl, h2, h3, h4⟩ := hq
  exact ⟨.inl ⟨.bool true, .bool true, [], rfl, fun _ => rfl, .bool true, post_true l _, fun _ => ⟨List.Pairwise.nil, fun _ hm => (nomatch hm)⟩⟩, h2, h3, h4⟩

section
variable {prog : Program} {w : World} {A : Around} {E : Value → Shared → Prop} {s : Shared} {K : Frag}

end
end Att

namespace L2
open PySem PySem.Spec PyProof.Rows

theorem vals_ints : ∀ {vs : List Value} {ns : List Int}, IntsAre vs ns → Vals (ns.map V.int) vs
  | _, _, .nil => .nil
  | _, _, .cons n t h => .cons ⟨t, rfl⟩ (vals_ints h)

def Only (H : Hp) : Prop := ∀ b, H b = none ∨ ∃ o xs, H b = some (.frz o (.lst xs))

theorem law_call {P : Program} {w : World} {K : PySem.W.Frag} {mg mb : Str → Option Value} {CX : CXT} {k : Nat} {fa a : Addr} {fd : FuncData} {x : Str} {sp : Sp} {s₁ : Shared} {vs : List Value} {ns : List Int}
    (KX : K.In s₁.heap) (hns : s₁.heap.Ns mainGlobals mg) (hb : s₁.heap.Ns builtinsNs mb) (hbb : ∀ x : Str, x ≠ "__name__" → mb x = bootBuiltins x) (hlim : s₁.heap.NoLimit) (hg : s₁.gens = #[])
    (ha : s₁.heap.get? a = some { cls := .type "list", data := .seq vs.toArray }) (hi : IntsAre vs ns) (hl : ns.length ≤ sizeLine) (hr : Room k callerA)
    (F : ∀ base : Heap, K.In base → base.Ns mainGlobals mg → FnOk P w K mg base CX k fa fd [x] sp) (hbind : ∀ (s : Shared) (u : Value), BindsTo s fd ⟨[u], []⟩ [(x, u)])
    (hsp : ∀ H : Hp, Only H → SqL K H a (ns.map V.int) → sp [.ref a] H (fun v _ => v = .bl true) fun _ _ _ => False)
    (hCX : ∀ H e s', CX [] H s₁ (fun _ _ _ => False) e s' → False) :
    codeAny (model P w) callerA (.call (.ref fa) ⟨[.ref a], []⟩) (fun r s' => r = .ok (.ret (.bool true)) ∧ OldK s₁.heap s'.heap ∧ s'.os = s₁.os ∧ AllBare s'.gens) s₁ := by
  have rv := vals_ints hi
  have lenV := hi.length
  -- from an abstract heap in which nothing but the script may be tracked
  have core : ∀ H : Hp, Only H → SqL K H a (ns.map V.int) → HOk P w H s₁.heap → (∀ b, H b ≠ none → b = a) → (H a ≠ none → K.lookup a = none) →
      codeAny (model P w) callerA (.call (.ref fa) ⟨[.ref a], []⟩) (fun r s' => r = .ok (.ret (.bool true)) ∧ OldK s₁.heap s'.heap ∧ s'.os = s₁.os ∧ AllBare s'.gens) s₁ := by
    intro H hO hS hok hA hK
    have base_of : ∀ {b : Addr} {o : Obj}, s₁.heap.get? b = some o → H b = none → (hidT s₁.heap H).get? b = some o := fun e n => hidT_get e n
    have noA : ∀ {b : Addr} {o : Obj} {es : Array DictEntry} {ep : Nat}, s₁.heap.get? b = some o → o.data = .dict es ep → H b = none := fun {b o es ep} e d => by
      cases q : H b with
      | none => rfl
      | some u =>
        have e' : b = a := hA b (by rw [q]; simp)
        subst e'
        rw [ha] at e; cases e
        have d' : Data.seq vs.toArray _ = Data.dict es ep := d
        cases d'
    have nsK : ∀ {b : Addr} {m : Str → Option Value}, s₁.heap.Ns b m → (hidT s₁.heap H).Ns b m := fun {b m} ⟨o, es, ep, e, d, r⟩ => ⟨o, es, ep, base_of e (noA e d), d, r⟩
    have hKb : K.In (hidT s₁.heap H) := fun b o e => base_of (KX b o e) (by
      cases q : H b with
      | none => rfl
      | some u =>
        have e' : b = a := hA b (by rw [q]; simp)
        subst e'
        rw [hK (by rw [q]; simp)] at e; cases e)
    have hM : Mod K mg (hidT s₁.heap H) := ⟨hKb, nsK hns, ⟨mb, nsK hb, hbb⟩, let ⟨mc, h1, h2⟩ := hlim; ⟨mc, nsK h1, h2⟩⟩
    have e0 : Env0 P w K mg (hidT s₁.heap H) callerA [] s₁ H := ⟨rfl, hM, fun b o e => of_hidT e, Nat.le_of_eq (hidT_size _ _), trivial, fun b hb => absurd (show b ∈ ([] : List Addr) from hb) (by simp), hok, .of_eq hg⟩
    refine codeAny_mono ((F _ hKb (nsK hns)).run callerA [] s₁ H ⟨[.ref a], []⟩ [.ref a] [.ref a] _ _ hr e0 (hbind s₁ (.ref a)) (.cons rfl .nil) (hsp H hO hS)) fun r s' h => ?_
    cases r with
    | error e => exact (hCX H e s' h).elim
    | ok fl =>
      cases fl with
      | next => exact False.elim h
      | brk => exact False.elim h
      | cont => exact False.elim h
      | ret u =>
        obtain ⟨v, H', os, bare, un, hok', r', q⟩ := h
        have q' : v = .bl true := q
        subst q'
        obtain rfl : u = Value.bool true := r'
        refine ⟨rfl, OldK.of_keep fun b o e => ?_, os, bare⟩
        cases q : H b with
        | none => exact un.keep b o e q (by intro z; exact absurd (show b ∈ ([] : List Addr) from z) (by simp)) (by simp)
        | some u =>
          rcases hO b with z | ⟨ob, xs, z⟩
          · rw [q] at z; cases z
          · have z2 := un.frzs b ob _ z
            obtain ⟨e1, _⟩ := hok b _ z
            obtain ⟨e2, _⟩ := hok' b _ z2
            rw [e] at e1; cases e1
            exact e2
  cases hk : K.lookup a with
  | some o =>
    -- the script is one of the module's own objects
    have e := KX a o hk
    rw [ha] at e
    cases e
    refine core (fun _ => none) (fun _ => .inl rfl) (.inr ⟨_, vs.toArray, _, hk, rfl, rfl, rfl, by rw [List.size_toArray, lenV]; exact hl, by simpa using rv⟩) (fun b u z => by have z' : (none : Option HO) = some u := z; cases z') (fun b z => absurd rfl z) fun z => absurd rfl z
  | none =>
    refine core (fun b => if b = a then some (.frz { cls := .type "list", data := .seq vs.toArray } (.lst (ns.map V.int))) else none) (fun b => ?_) (.inl (.inr ⟨{ cls := .type "list", data := .seq vs.toArray }, if_pos rfl⟩)) (fun b u z => ?_) (fun b z => ?_) fun _ => hk
    · by_cases hb : b = a
      · exact .inr ⟨_, _, if_pos hb⟩
      · exact .inl (if_neg hb)
    · by_cases hb : b = a
      · have z' := (if_pos hb).symm.trans z
        cases z'
        subst hb
        exact ⟨ha, by rw [List.length_map]; exact hl, vs, _, rv, ha⟩
      · have z' := (if_neg hb).symm.trans z
        cases z'
    · by_cases hb : b = a
      · exact hb
      · exact absurd (if_neg hb) z
end L2

namespace L2
open PySem PySem.Spec PyProof.Rows

abbrev KOf {K : PySem.W.Frag} {h : Heap} (_ : K.In h) : PySem.W.Frag := K

theorem walk_of {l : PySem.W.OpenLaw} {n k : Nat} {q : Program} {loose : List Str} {XP : (Str → Option Value) → Heap → Prop} {YP : World → Heap → Prop} {d : DefRec} {K : Params → PySem.W.Frag} {CX : World → CXT} {sp : World → Sp} {x : Str}
    (hn : l.most = some n) (hn2 : n ≤ sizeLine) (hdf : d.params.defaults = []) (hr : Room k callerA)
    (hY : ∀ (w : World) (h : Heap), YP w h → (K w.params).In h)
    (F : ∀ (w : World) (mg : Str → Option Value) (fa : Addr) (h : Heap), (K w.params).In h → h.Ns mainGlobals mg → mg d.name = some (.ref fa) →
      ∃ fd : FuncData, (∀ (s : Shared) (u : Value), BindsTo s fd ⟨[u], []⟩ [(x, u)]) ∧
        ∀ base : Heap, (K w.params).In base → base.Ns mainGlobals mg → FnOk l.prog w (K w.params) mg base (CX w) k fa fd [x] (sp w))
    (hsp : ∀ (w : World) (H : Hp) (a : Addr) (ns : List Int), ns.length ≤ n → Only H → SqL (K w.params) H a (ns.map V.int) → sp w [.ref a] H (fun v _ => v = .bl true) fun _ _ _ => False)
    (hCX : ∀ (w : World) (H : Hp) (s : Shared) (e : Value) (s' : Shared), CX w [] H s (fun _ _ _ => False) e s' → False) :
    PySem.W.WalkO q loose XP YP l.row.toRowW d [] (fun f vs => PySem.call f vs) := by
  refine Att.attach_call hn hdf fun w s₀ s₁ mg mb fa o pm cd doc a vs ns G Y ho hd hcd hmg hobj hints hlen hg => ?_
  have KX := hY w _ Y
  obtain ⟨fd, hb, hF⟩ := F w mg fa _ KX G.T.g hmg
  exact law_call KX G.T.g G.T.b G.T.builtins G.T.nolimit hg hobj hints (Nat.le_trans hlen hn2) hr hF hb (fun H hO hS => hsp w H a ns hlen hO hS) fun H e s' => hCX w H s₁ e s'
end L2

/- THE LAST THEOREM (shape; LID, My.* are yours):
   My.Adr: a structure of the addresses that your layer names (classes, functions); My.Txt K t: a structure (Prop) of the equations over K;
   My.txt_mk : {K} {implicit addresses ..} (e1 : nsIn K mainGlobals "law" = some (some (.ref f))) (e2 : K.lookup f = some ⟨oc, od, .func (fnOf "law" "law" params body scope dV kV doc pm an cdv ct), sl⟩) (e3 : codeIn K cdv "law" = true) .. : ∃ t, My.Txt K t

set_option maxRecDepth 100000 in
set_option maxHeartbeats 0 in
theorem PySem.Challenge.cw_LID_holds : PySem.Challenge.rw_LID.Holds := by
  w_on; o_law; k_head; (case hw => w_witness2)
  k_fill
  refine L2.walk_of (l := PySem.Challenge.rw_LID) (n := 63) (k := 40) (x := "script") (CX := fun w => ..) (sp := fun _ => My.sp_law) rfl (by decide) rfl ⟨rfl, by decide, by decide⟩ (fun w h Y => PySem.W.kIn_of Y) ?F ?S ?C
  case F =>
    intro w mg fa h KX G hmg
    have T : ∃ t, My.Txt (L2.KOf KX) t := by
      dsimp only [L2.KOf]                          -- K must stand as «<heap const> w.params» for k_is
      refine' My.txt_mk ?e1 ?e2 ?e3 ..
      (case e1 => PySem.W.k_is)                    -- in the order: a name -> its address -> its object -> its parts
      (case e2 => PySem.W.k_is)
      ..
    obtain ⟨t, T⟩ := T
    have e0 := hmg.symm.trans (PySem.W.mg_of KX G T.law)
    cases e0                                       -- fa is the law's own address
    exact ⟨_, fun s u => .of_eq rfl, fun base kb nb => My.law_fn T kb nb⟩     -- if «.of_eq rfl» comes too early: refine' ⟨_, ?b, fun base kb nb => My.law_fn T kb nb⟩; exact fun s u => .of_eq rfl
  case S => exact fun w H a ns hl hO hS => ..
  case C => exact ..
(the tactic k_is has no namespace: write k_is) -/

namespace L2
open PySem PySem.Spec PyProof.Rows

def defArgs (s : Stmt) : Arguments := match s with
  | .FunctionDef _ a _ _ _ _ _ _ _ _ => a
  | _ => { posonlyargs := [], args := [], vararg := none, kwonlyargs := [], kw_defaults := [], kwarg := none, defaults := [] }
def defBody (s : Stmt) : List Stmt := match s with
  | .FunctionDef _ _ b _ _ _ _ _ _ _ => b
  | _ => []
def defScope (s : Stmt) : Scope := match s with
  | .FunctionDef _ _ _ _ _ _ sc _ _ _ => sc
  | _ => { kind := .function, names := [], isGenerator := false, isCoroutine := false }

abbrev CX0 : CXT := fun _ _ _ _ _ _ => False
abbrev E0 : XK := fun _ _ _ => False
theorem pass0 {X : Cx} : Passes CX0 X E0 := fun _ _ _ _ _ _ _ h => h.elim

structure Fun (K : PySem.W.Frag) (x qual : Str) (st : Stmt) (f : Addr) (fd : FuncData) : Prop where
  ex : ∃ (oc : Value) (od : Option Addr) (kV doc pm : Value) (an : Option Addr) (cdv ct : Value) (osl : Array (Option Value)),
    fd = PySem.W.fnOf x qual (defArgs st) (defBody st) (defScope st) .none kV doc pm an cdv ct ∧ K.lookup f = some ⟨oc, od, .func fd, osl⟩ ∧ PySem.W.codeIn K cdv qual = true
  kp : PySem.W.keepIn K (.ref f) = true
section
variable {P : Program} {w : World} {K : PySem.W.Frag} {mg : Str → Option Value} {base : Heap}
theorem Fun.ok {x qual : Str} {st : Stmt} {f : Addr} {fd : FuncData} {N ps : List Str} {k : Nat} {sp : Sp} (F : Fun K x qual st f fd) (S : FnScope N ps (defScope st)) (len : ∀ vs H Q E, sp vs H Q E → vs.length = ps.length)
    (hbody : ∀ (cdv : Value) (A : Around) (outer : List Env) (s : Shared) (H : Hp) (vs : List V) (Q : VK) (E : XK), Room k (A.deeper (envOfC qual (defScope st) s.heap.objs.size f cdv)) → sp vs H Q E →
      ∃ t, PSs (cxOf CX0 P w K mg base N qual (defScope st) f cdv A outer s H E).nox (defBody st) t ∧ t { nx := fun _ H' => Q .non H', rt := Q } (start N vs) H) : FnOk P w K mg base CX0 (k + 1) f fd ps sp := by
  obtain ⟨oc, od, kV, doc, pm, an, cdv, ct, osl, rfl, lk, hcd⟩ := F.ex
  refine fn_of lk hcd S len fun A outer s H vs Q E hr hsp => ?_
  obtain ⟨t, h, q⟩ := hbody cdv A outer s H vs Q E hr hsp
  exact ⟨t, h.nox, q⟩
theorem Fun.binds {x qual : Str} {st : Stmt} {f : Addr} {fd : FuncData} {ps : List Str} (F : Fun K x qual st f fd)
    (h : ∀ (kV doc pm : Value) (an : Option Addr) (cdv ct : Value) (us : List Value), us.length = ps.length → bindArgs (PySem.W.fnOf x qual (defArgs st) (defBody st) (defScope st) .none kV doc pm an cdv ct) ⟨us, []⟩ = pure (ps.zip us)) : Binds K fd ps [] := by
  obtain ⟨oc, od, kV, doc, pm, an, cdv, ct, osl, rfl, lk, hcd⟩ := F.ex
  exact .all (h kV doc pm an cdv ct)
theorem fun_mk {x qual : Str} {st : Stmt} {f : Addr} {oc : Value} {od an : Option Addr} {osl : Array (Option Value)} {kV doc pm cdv ct : Value} (l : K.lookup f = some ⟨oc, od, .func (PySem.W.fnOf x qual (defArgs st) (defBody st) (defScope st) .none kV doc pm an cdv ct), osl⟩)
    (c : PySem.W.codeIn K cdv qual = true) (k : PySem.W.keepIn K (.ref f) = true) : Fun K x qual st f (PySem.W.fnOf x qual (defArgs st) (defBody st) (defScope st) .none kV doc pm an cdv ct) := ⟨⟨oc, od, kV, doc, pm, an, cdv, ct, osl, rfl, l, c⟩, k⟩
end
theorem small1000 {n : Nat} (h : n ≤ 1000) : n < sizeLine := Nat.lt_of_le_of_lt h (by decide)

section
variable {X : Cx}
theorem pv (i : Nat) {x : Str} {pos : Pos} (hN : X.N[i]? = some x := by rfl) (hv : Vis X.env.scope x := by first | exact Or.inl rfl | exact Or.inr (Or.inl rfl) | exact Or.inr (Or.inr rfl)) (hd : (x == ("__debug__" : Str)) = false := by decide)
    (hcd : (x == ("__classdict__" : Str)) = false := by decide) : PE X (.Name x pos) (tVar i) := pe_var hN hv hd hcd
end

theorem iteF {A B : Prop} (h : B) : if false = true then A else B := by
  rw [if_neg Bool.false_ne_true]
  exact h
theorem iteT {A B : Prop} (h : A) : if true = true then A else B := by
  rw [if_pos rfl]
  exact h
theorem ite2 {c A B : Prop} [Decidable c] (h1 : c → A) (h2 : ¬ c → B) : if c then A else B := by
  by_cases h : c
  · rw [if_pos h]
    exact h1 h
  · rw [if_neg h]
    exact h2 h
theorem iteNS {c A B : Prop} [Decidable c] (hc : c) (h : B) : if (!decide c) = true then A else B := by
  rw [decide_eq_true hc]
  exact iteF h

def Same (H H' : Hp) : Prop := ∀ b o, H b = some o → H' b = some o
theorem Same.free {H H' : Hp} (e : Same H H') {l : Addr} (h : H' l = Option.none) : H l = Option.none := by
  cases q : H l with
  | none => rfl
  | some o =>
    rw [e l o q] at h
    cases h
theorem Same.seq {K : PySem.W.Frag} {H H' : Hp} {a : Addr} {xs : List V} (e : Same H H') (h : SqL K H a xs) : SqL K H' a xs := by
  rcases h with (h | ⟨o, h⟩) | h
  · exact .inl (.inl (e _ _ h))
  · exact .inl (.inr ⟨o, e _ _ h⟩)
  · exact .inr h

end L2

namespace L2
open PySem
section
variable {prog : Program} {w : World} {A : Around} {R : Result → Shared → Prop} {s : Shared}
theorem compLoop_any {elt target iter : Expr} {ifs : List Expr} {scope : Scope} {pos : Pos} {it acc : Value} {env : Env} (I : Nat → Shared → Prop)
    (turn : ∀ n s, I n s → wpAny (model prog w) A (pyNext it) (fun r s₁ => match r with
      | none => R (.ok .next) s₁
      | some v => wpAny (model prog w) A (letOwnedTupleGo target it v) (fun _ s₁' => wpAny (model prog w) A (assign target env v) (fun _ s₂ =>
          wpAny (model prog w) A (forIn ifs true fun c r => if r = true then do let ok ← isTrue c env (eval c env); pure (ForInStep.yield ok) else pure (ForInStep.yield r)) (fun ok s₃ =>
            if ok = true then wpAny (model prog w) A (eval elt env) (fun x s₄ =>
              wpAny (model prog w) A (call (.builtin "list.append") [acc, x]) (fun _ s₅ => ∃ m, m < n ∧ I m s₅) (fun _ _ => False) s₄) (fun _ _ => False) s₃
            else ∃ m, m < n ∧ I m s₃) (fun _ _ => False) s₂) (fun _ _ => False) s₁') (fun _ _ => False) s₁) (fun _ _ => False) s)
    (n : Nat) (h : I n s) :
    codeAny (model prog w) A (.compLoop (.ListComp elt [⟨target, iter, ifs, 0⟩] scope pos) 0 it acc env) R s := by
  refine codeAny_loop rfl I (fun n s hI => ?_) n h
  show wpAny _ A ((compTurn (.ListComp elt [⟨target, iter, ifs, 0⟩] scope pos) 0 it acc env).onRaise (fun x => do noteFrame x env; theTreesLotGoes x)) _ _ s
  refine wpAny_noted ?_
  rw [compTurn_list]
  refine wpAny_bind (wpAny_standAt (wpAny_bind (wpAny_mono (turn n s hI) (fun r s₁ h₁ => ?_) fun _ _ h' => h'.elim)))
  cases r with
  | none => exact wpAny_pure h₁
  | some v =>
    refine wpAny_bind (wpAny_mono h₁ (fun _ s₁' h₁' => ?_) fun _ _ h' => h'.elim)
    refine wpAny_bind (wpAny_mono h₁' (fun _ s₂ h₂ => wpAny_bind (wpAny_mono h₂ (fun ok s₃ h₃ => ?_) fun _ _ h' => h'.elim)) fun _ _ h' => h'.elim)
    cases ok with
    | false => exact wpAny_pure ⟨rfl, h₃⟩
    | true =>
      exact wpAny_bind (wpAny_bind (wpAny_mono h₃ (fun x s₄ h₄ => wpAny_bind (wpAny_mono h₄ (fun _ s₅ h₅ => wpAny_pure (wpAny_pure ⟨rfl, h₅⟩)) fun _ _ h' => h'.elim)) fun _ _ h' => h'.elim))
end
def clFrom (env : Env) : List (Str × NameKind) → List (Str × Addr) → List (Str × Addr)
  | [], cs => cs
  | (n, k) :: r, cs => clFrom env r (if k == .free then (n, (env.cells.lookup n).getD 0) :: cs else cs)
def clOf (scope : Scope) (env : Env) : List (Str × Addr) := clFrom env scope.names []
theorem clFrom_eq {env : Env} : ∀ (ns : List (Str × NameKind)) (cs : List (Str × Addr)), (∀ y ∈ ns, y.2 = .free → ∃ c, env.cells.lookup y.1 = some c) →
    (forIn ns cs fun (x : Str × NameKind) (r : List (Str × Addr)) => (if (x.2 == .free) = true then do
      let a ← cellOf env x.1
      pure (ForInStep.yield ((x.1, a) :: r)) else pure (ForInStep.yield r) : Sem (ForInStep (List (Str × Addr))))) = pure (clFrom env ns cs)
  | [], cs, _ => rfl
  | (n, k) :: r, cs, h => by
    rw [List.forIn_cons]
    have ih := fun cs => clFrom_eq r cs fun y hy => h y (List.mem_cons_of_mem _ hy)
    by_cases hk : k = .free
    · subst hk
      obtain ⟨c, e⟩ := h (n, .free) List.mem_cons_self rfl
      have e' : cellOf env n = pure c := by
        unfold cellOf
        have e2 : env.cells.lookup n = some c := e
        rw [e2]
      simp only [beq_self_eq_true, if_true, e', pure_bind, ih]
      have e3 : env.cells.lookup n = some c := e
      simp only [clFrom, beq_self_eq_true, if_true, e3, Option.getD_some]
    · have hb : (k == NameKind.free) = false := by simpa using hk
      simp only [hb, Bool.false_eq_true, if_false, pure_bind, ih, clFrom]
theorem closure_eq {scope : Scope} {env : Env} (h : ∀ y ∈ scope.names, y.2 = .free → ∃ c, env.cells.lookup y.1 = some c) : closureFor scope env = pure (clOf scope env) := by
  have e := clFrom_eq scope.names [] h
  unfold closureFor clOf
  rw [← e]
  simp only [bind_pure]
theorem clFrom_sub {env : Env} {x : Str} {c : Addr} : ∀ (ns : List (Str × NameKind)) (cs : List (Str × Addr)), (∀ y ∈ ns, y.2 = .free → ∃ c, env.cells.lookup y.1 = some c) →
    (cs.lookup x = some c → env.cells.lookup x = some c) → (clFrom env ns cs).lookup x = some c → env.cells.lookup x = some c
  | [], cs, _, h, e => h e
  | (n, k) :: r, cs, hf, h, e => by
    refine clFrom_sub r _ (fun y hy => hf y (List.mem_cons_of_mem _ hy)) ?_ e
    by_cases hk : k = .free
    · subst hk
      obtain ⟨c', e'⟩ := hf (n, .free) List.mem_cons_self rfl
      have e' : env.cells.lookup n = some c' := e'
      simp only [beq_self_eq_true, if_true, e', Option.getD_some]
      intro z
      rw [List.lookup_cons] at z
      cases hx : x == n with
      | true =>
        rw [hx] at z
        have hx' : x = n := by simpa using hx
        rw [hx', e']
        exact z
      | false =>
        rw [hx] at z
        exact h z
    · have hb : (k == NameKind.free) = false := by simpa using hk
      simp only [hb, Bool.false_eq_true, if_false]
      exact h
theorem clFrom_has {env : Env} {x : Str} : ∀ (ns : List (Str × NameKind)) (cs : List (Str × Addr)), ((∃ c, cs.lookup x = some c) ∨ (x, NameKind.free) ∈ ns) → ∃ c, (clFrom env ns cs).lookup x = some c
  | [], cs, h => by
    rcases h with h | h
    · exact h
    · cases h
  | (n, k) :: r, cs, h => by
    refine clFrom_has r _ ?_
    by_cases hk : k = .free
    · subst hk
      simp only [beq_self_eq_true, if_true]
      by_cases hx : x = n
      · subst hx
        left
        rw [List.lookup_cons]
        simp
      · rcases h with ⟨c, h⟩ | h
        · left
          refine ⟨c, ?_⟩
          rw [List.lookup_cons]
          have : (x == n) = false := by simpa using hx
          rw [this]
          exact h
        · right
          rcases List.mem_cons.mp h with h | h
          · cases h
            exact absurd rfl hx
          · exact h
    · have hb : (k == NameKind.free) = false := by simpa using hk
      simp only [hb, Bool.false_eq_true, if_false]
      rcases h with h | h
      · exact .inl h
      · right
        rcases List.mem_cons.mp h with h | h
        · cases h
          exact absurd rfl hk
        · exact h
end L2

namespace L2
open PySem PySem.Spec PyProof.Rows
def cxComp (X : Cx) (N' : List Str) (scope : Scope) (s₃ : Shared) (H₃ : Hp) (fp : List Addr) : Cx :=
  { X with N := N', s₀ := s₃, H₀ := H₃, env := compEnvC scope (clOf scope X.env) s₃.heap.objs.size X.env, outer := X.stack, ex := fp, fn := fun _ => false, pn := [], xe := fun _ _ => False }
def inner (own : Nat) (js : List Nat) (σ : St) : St := List.replicate own none ++ js.map fun j => (σ[j]?).getD none
def Keep (σ σ' : St) : Prop := σ'.length = σ.length ∧ ∀ (k : Nat) (v : V), σ[k]? = some (some v) → σ'[k]? = some (some v)
theorem Keep.refl (σ : St) : Keep σ σ := ⟨rfl, fun _ _ e => e⟩
theorem keep1 {r : St} {x : Option V} : Keep (none :: r) (x :: r) := ⟨rfl, fun k v e => by
  cases k with
  | zero => cases e
  | succ k => exact e⟩
structure CompScope (osc sc : Scope) (own fr : List Str) : Prop where
  kind : sc.kind = .function
  nocell : ∀ y ∈ sc.names, y.2 ≠ .cell
  loc : ∀ y ∈ sc.names, y.2 = .local → sc.names.lookup y.1 = some .local
  free : ∀ y ∈ sc.names, y.2 = .free → osc.names.lookup y.1 = some .cell ∨ osc.names.lookup y.1 = some .free
  nown : ∀ x ∈ own, sc.names.lookup x = some .local
  nfr : ∀ x ∈ fr, (osc.names.lookup x = some .cell ∨ osc.names.lookup x = some .free) ∧ sc.names.lookup x = some .free
theorem lookup_relabel {env : Env} {x : Str} {k : NameKind} : ∀ {names : List (Str × NameKind)},
    (names.map fun (n, k) => if (k == NameKind.free && env.scope.kind == .function && env.kindOf n == some .cell) then (n, NameKind.cell) else (n, k)).lookup x = some k → names.lookup x = some k ∨ (k = .cell ∧ names.lookup x = some .free)
  | [], h => by simp at h
  | (n, k') :: r, h => by
    have ih := @lookup_relabel env x k r
    simp only [List.map_cons] at h
    rw [List.lookup_cons]
    by_cases hc : (k' == NameKind.free && env.scope.kind == .function && env.kindOf n == some .cell) = true
    · rw [if_pos hc, List.lookup_cons] at h
      have hf : k' = .free := by
        have := (Bool.and_eq_true_iff.mp (Bool.and_eq_true_iff.mp hc).1).1
        simpa using this
      cases hx : x == n with
      | true =>
        rw [hx] at h
        subst hf
        exact .inr ⟨(Option.some.inj h).symm, rfl⟩
      | false =>
        rw [hx] at h
        exact ih h
    · rw [if_neg hc, List.lookup_cons] at h
      cases hx : x == n with
      | true =>
        rw [hx] at h
        exact .inl h
      | false =>
        rw [hx] at h
        exact ih h
theorem lookup_relabel_free {env : Env} {x : Str} : ∀ {names : List (Str × NameKind)}, names.lookup x = some .free →
    (names.map fun (n, k) => if (k == NameKind.free && env.scope.kind == .function && env.kindOf n == some .cell) then (n, NameKind.cell) else (n, k)).lookup x = some .cell ∨
    (names.map fun (n, k) => if (k == NameKind.free && env.scope.kind == .function && env.kindOf n == some .cell) then (n, NameKind.cell) else (n, k)).lookup x = some .free
  | [], h => by simp at h
  | (n, k') :: r, h => by
    have ih := @lookup_relabel_free env x r
    rw [List.lookup_cons] at h
    simp only [List.map_cons]
    by_cases hc : (k' == NameKind.free && env.scope.kind == .function && env.kindOf n == some .cell) = true
    · rw [if_pos hc, List.lookup_cons]
      cases hx : x == n with
      | true => exact .inl rfl
      | false =>
        rw [hx] at h
        exact ih h
    · rw [if_neg hc, List.lookup_cons]
      cases hx : x == n with
      | true =>
        rw [hx] at h
        exact .inr h
      | false =>
        rw [hx] at h
        exact ih h
section
variable {X : Cx} {pins : List (Addr × Obj)} {σ : St} {H : Hp} {s : Shared} {osc sc : Scope} {own fr : List Str} {js : List Nat} {fp : List Addr}
theorem cl_ok (I : Inv X pins σ H s) (ho : X.env.scope = osc) (S : CompScope osc sc own fr) : ∀ y ∈ sc.names, y.2 = .free → ∃ c, X.env.cells.lookup y.1 = some c := fun y hy e => by
  refine I.ok.has y.1 ?_
  have h := S.free y hy e
  rw [← ho] at h
  exact h
theorem cl_sub (I : Inv X pins σ H s) (ho : X.env.scope = osc) (S : CompScope osc sc own fr) {x : Str} {c : Addr} (e : (clOf sc X.env).lookup x = some c) : X.env.cells.lookup x = some c :=
  clFrom_sub sc.names [] (cl_ok I ho S) (fun z => by cases z) e
theorem cl_has (S : CompScope osc sc own fr) {x : Str} (h : sc.names.lookup x = some .free) : ∃ c, (clOf sc X.env).lookup x = some c :=
  clFrom_has sc.names [] (.inr (PySem.mem_of_lookup h))
theorem cx_comp (I : Inv X pins σ H s) (ho : X.env.scope = osc) (S : CompScope osc sc own fr) (hf : ∀ b ∈ fp, FpOk X pins H b) (hlt : ∀ b ∈ fp, b < s.heap.objs.size) (N' : List Str) : (cxComp X N' sc s H fp).Ok where
  mod := I.ok.mod
  kind := S.kind
  glob := I.ok.glob
  blt := I.ok.blt
  above := Nat.le_refl _
  inj := fun x y c h1 h2 => I.ok.inj x y c (cl_sub I ho S h1) (cl_sub I ho S h2)
  has := fun x h => by
    have h : (relabel sc X.env).names.lookup x = some .cell ∨ (relabel sc X.env).names.lookup x = some .free := h
    rcases h with h | h
    · rcases lookup_relabel h with h | ⟨_, h⟩
      · exact absurd rfl (S.nocell _ (PySem.mem_of_lookup h))
      · exact cl_has S h
    · rcases lookup_relabel h with h | ⟨e, _⟩
      · exact cl_has S h
      · cases e
  cab := fun x c h _ => by cases h
  hd := I.ok.hd
  frames := I.ok.frames
  stk := .inl rfl
  exf := fun b hb => ⟨Nat.ne_of_lt (hlt b hb), fun x c e => (hf b hb).2.2.2.2.1 x c (cl_sub I ho S e)⟩
  bs := fun b o e => I.bs b o e
  bsz := Nat.le_trans I.ok.bsz I.sz
  noex := fun b o e hb => by
    have h := I.ok.noex b o e
    have h2 := (hf b hb).2.2.2.1
    rcases h2 with h2 | h2
    · exact h h2
    · have hb2 : b < X.base.objs.size := Heap.lt_size e
      exact absurd (Nat.lt_of_lt_of_le hb2 (Nat.le_trans I.ok.bsz h2)) (Nat.lt_irrefl _)
  exfs := fun b hb hm => by
    have := I.stkSub b hm
    rcases List.mem_cons.mp this with z | z
    · exact (hf b hb).2.1 z
    · exact (hf b hb).2.2.1 z
  funs := I.stack
  frf := I.stkFree
theorem inv_comp {h' : Heap} {tk : Nat} (I : Inv X pins σ H s) (ho : X.env.scope = osc) (S : CompScope osc sc own fr) (hj : js.map (fun j => X.N[j]?) = fr.map some) (hf : ∀ b ∈ fp, FpOk X pins H b) (hlt : ∀ b ∈ fp, b < s.heap.objs.size)
    (hn : h'.Ns s.heap.objs.size fun _ => none) (hk : ∀ b o, s.heap.get? b = some o → h'.get? b = some o) : Inv (cxComp X (own ++ fr) sc s H fp) [] (inner own.length js σ) H { s with heap := h', toks := tk } := by
  refine ⟨cx_comp I ho S hf hlt _, rfl, I.bare, Un.kept hk, ⟨_, hn, fun i x v h1 h2 h3 => ?_⟩, fun x c e => ?_, I.hok.fresh (Nat.le_refl _), fun x c e => I.freeC x c (cl_sub I ho S e), fun p hp => absurd (show p ∈ ([] : List (Addr × Obj)) from hp) (by simp), I.hok.kept hk, ?_⟩
  · have h1 : (own ++ fr)[i]? = some x := h1
    by_cases hi : i < own.length
    · unfold inner at h2
      rw [List.getElem?_append_left (by simpa using hi), List.getElem?_replicate] at h2
      split at h2 <;> cases h2
    · have hi' : own.length ≤ i := Nat.le_of_not_lt hi
      rw [List.getElem?_append_right hi'] at h1
      unfold inner at h2
      rw [List.getElem?_append_right (by simpa using hi'), List.length_replicate, List.getElem?_map] at h2
      have hx := congrArg (fun l : List (Option Str) => l[i - own.length]?) hj
      simp only [List.getElem?_map, h1, Option.map_some] at hx
      cases ej : js[i - own.length]? with
      | none => rw [ej] at hx; cases hx
      | some j =>
        rw [ej] at hx h2
        simp only [Option.map_some, Option.some.injEq] at hx h2
        have hsv : σ[j]? = some (some v) := by
          cases es : σ[j]? with
          | none => rw [es] at h2; cases h2
          | some z => rw [es] at h2; simp only [Option.getD_some] at h2; rw [h2]
        have hxf := S.nfr x (List.mem_of_getElem? h1)
        obtain ⟨m, hm, hl⟩ := I.loc
        have hv : Vis X.env.scope x := by
          rw [ho]
          rcases hxf.1 with z | z
          · exact .inr (.inl z)
          · exact .inr (.inr z)
        obtain ⟨u, ru, lk⟩ := hl j x v hx hsv hv
        refine ⟨u, ru, .inr ⟨lookup_relabel_free hxf.2, ?_⟩⟩
        rcases lk with ⟨lk, _⟩ | ⟨_, c, ec, ic⟩
        · have lk : X.env.scope.names.lookup x = some .local := lk
          rw [ho] at lk
          rcases hxf.1 with z | z <;> (rw [lk] at z; cases z)
        · obtain ⟨c', e'⟩ := cl_has (X := X) S hxf.2
          have e2 := cl_sub I ho S e'
          rw [ec] at e2
          cases e2
          exact ⟨c, e', ic.keeps hk⟩
  · obtain ⟨v, hv⟩ := I.cell x c (cl_sub I ho S e)
    exact ⟨v, hv.keeps hk⟩
  · have e := congrArg List.length hj
    simp only [List.length_map] at e
    show (inner own.length js σ).length = (own ++ fr).length
    unfold inner
    simp only [List.length_append, List.length_replicate, List.length_map, e]
end
end L2

namespace L2
open PySem PySem.Spec PyProof.Rows
def CompW (J : It) (acc : Addr) (own : Nat) (js : List Nat) (g : TG) (tt : TT) (te : TE) (σ : St) (Q : VK) (H1 : Hp) : Prop :=
  ∃ W : Nat → Nat → List V → Hp → Prop, (∃ m, W 0 m [] (upd H1 acc (.lst []))) ∧ ∀ i m xs H2, W i m xs H2 → (J.stop i H2 ∧ Q (.ref acc) H2) ∨
    (J.go i H2 ∧ xs.length < sizeLine ∧ ∃ N : List V → Hp → Prop, (∀ ys H', N ys H' → ∃ m', m' < m ∧ W (i + 1) m' ys H') ∧ ∀ x H3, J.yld i H2 x H3 → g x (inner own js σ) H3 fun σ4 H4 => Keep (inner own js σ) σ4 ∧ tt σ4 H4 fun b H5 =>
      if b = true then te σ4 H5 fun y H6 => H6 acc = some (.lst xs) ∧ N (xs ++ [y]) (upd H6 acc (.lst (xs ++ [y]))) else N xs H5)
def tComp (wi : TI) (own : Nat) (js : List Nat) (g : TG) (tt : TT) (te : TE) : TE := fun σ H Q => wi σ H fun J H1 => ∀ acc, H1 acc = none → CompW J acc own js g tt te σ Q H1
def PIf (X : Cx) (ifs : List Expr) (tt : TT) : Prop :=
  ∀ (pins : List (Addr × Obj)) (s : Shared) (σ : St) (H : Hp) (Q : Bool → Hp → Prop), Inv X pins σ H s → tt σ H Q →
    wpAny (model X.prog X.w) X.A (forIn ifs true fun c r => if r = true then do let ok ← isTrue c X.env (eval c X.env); pure (ForInStep.yield ok) else pure (ForInStep.yield r)) (TP X pins σ Q) X.xe s
def tTrue : TT := fun _ H Q => Q true H
theorem if_nil {X : Cx} : PIf X [] tTrue := fun pins s σ H Q I h => wpAny_tests_nil ⟨H, I, h⟩
section
variable {X : Cx} {pins : List (Addr × Obj)} {σ : St} {H : Hp} {s : Shared} {osc sc : Scope} {own fr : List Str} {js : List Nat} {fp : List Addr}
theorem comp_back {acc : Addr} {s' : Shared} {σ' : St} {H' : Hp} {N' : List Str} (I : Inv X pins σ H s) (hacc : acc = s.heap.objs.size) {tk : Nat} (hf : ∀ b ∈ fp, FpOk X pins H b)
    (J : Inv (cxComp X N' sc { s with heap := s.heap.push { cls := .type "list", data := .seq ([] : List Value).toArray }, toks := tk } (upd H acc (.lst [])) fp) [] σ' H' s') : Inv X pins σ H' s' := by
  subst hacc
  refine I.call' J.os ?_ J.hok J.bare fun b hb => ⟨(hf b hb).2.2.2.1, (hf b hb).2.1, (hf b hb).2.2.2.2.1, (hf b hb).2.2.2.2.2⟩
  exact Un.trans (Un.laid (o := .lst []) (fun b u e => Heap.get?_push_of_some _ e) (Nat.le_refl _) (I.hok.fresh (Nat.le_refl _))) J.base
theorem comp_core {elt target iter : Expr} {ifs : List Expr} {pos : Pos} {it : Addr} {tn : Nat → Heap → Prop} {J : It} {g : TG} {tt : TT} {te : TE} {Q : VK} {RR : Value → Addr → Result → Shared → Prop} {E : Value → Shared → Prop}
    (hc : X.calm = true) (ho : X.env.scope = osc) (S : CompScope osc sc own fr) (hj : js.map (fun j => X.N[j]?) = fr.map some)
    (hg : ∀ s₃ H₃ fp, PG (cxComp X (own ++ fr) sc s₃ H₃ fp) target g) (ht : ∀ s₃ H₃ fp, PIf (cxComp X (own ++ fr) sc s₃ H₃ fp) ifs tt) (he : ∀ s₃ H₃ fp, PE (cxComp X (own ++ fr) sc s₃ H₃ fp) elt te)
    (I : Inv X pins σ H s) (T : Turn X.prog X.w X.K target J fp it tn) (st : tn 0 s.heap) (hf : ∀ b ∈ fp, FpOk X pins H b)
    (h : ∀ acc, H acc = none → CompW J acc own.length js g tt te σ Q H)
    (fin : ∀ acc C H' s', Inv X pins σ H' s' → FpOk X pins H' C → (∃ m, s'.heap.Ns C m) → Q (.ref acc) H' → RR (.ref acc) C (.ok .next) s') :
    wpAny (model X.prog X.w) X.A (newList []) (fun acc s₃ => wpAny (model X.prog X.w) X.A (newFunctionEnv sc X.env.globals (clOf sc X.env) [] X.env.qual none .none (some X.env)) (fun cenv s₄ =>
      codeAny (model X.prog X.w) X.A (.compStart (.ListComp elt [⟨target, iter, ifs, 0⟩] sc pos) 0 (.ref it) acc { cenv with scope := relabel sc X.env }) (RR acc cenv.locals) s₄) E s₃) E s := by
  obtain ⟨W, ⟨m0, w0⟩, turn⟩ := h s.heap.objs.size (I.hok.fresh (Nat.le_refl _))
  have hlt : ∀ b ∈ fp, b < s.heap.objs.size := fun b hb => by
    obtain ⟨o, e, _⟩ := T.obj _ _ st b hb
    exact Heap.lt_size e
  refine wpAny_newList ?_
  have I3 : Inv X pins σ (upd H s.heap.objs.size (.lst [])) { s with heap := s.heap.push { cls := .type "list", data := .seq ([] : List Value).toArray } } := I.lnew (its := []) (ys := []) (t' := s.toks) .nil (Nat.zero_le _)
  have f3 : ∀ b ∈ fp, FpOk X pins (upd H s.heap.objs.size (.lst [])) b := fun b hb => ⟨by rw [upd_ne (Nat.ne_of_lt (hlt b hb))]; exact (hf b hb).1, (hf b hb).2⟩
  have hsz3 : (s.heap.push { cls := .type "list", data := .seq ([] : List Value).toArray }).objs.size = s.heap.objs.size + 1 := Heap.size_push ..
  refine wpAny_newFunctionEnv S.nocell (by intro y hy; simp at hy) (fun h₁ hns₁ hsb₁ => ?_) S.kind
  dsimp only at hns₁ hsb₁ ⊢
  have old : ∀ b o, (s.heap.push { cls := .type "list", data := .seq ([] : List Value).toArray }).get? b = some o → h₁.get? b = some o := fun b o e =>
    hsb₁.extBut b o (Nat.ne_of_lt (Heap.lt_size e)) (Heap.get?_push_of_some _ e)
  have lt3 : ∀ b ∈ fp, b < (s.heap.push { cls := .type "list", data := .seq ([] : List Value).toArray }).objs.size := fun b hb => by rw [hsz3]; exact Nat.lt_succ_of_lt (hlt b hb)
  have I4 := inv_comp (own := own) (fr := fr) (js := js) (tk := s.toks + ([] : List (Str × Value)).length) I3 ho S hj f3 lt3 (by simpa using hns₁) old
  have st4 : tn 0 h₁ := T.keep _ _ _ st fun b _ o e => old b o (Heap.get?_push_of_some _ e)
  have fpX : ∀ {H' : Hp}, (∀ b ∈ fp, H' b = none) → ∀ b ∈ fp, FpOk (cxComp X (own ++ fr) sc { s with heap := s.heap.push { cls := .type "list", data := .seq ([] : List Value).toArray } } (upd H s.heap.objs.size (.lst [])) fp) [] H' b := fun hn b hb =>
    ⟨hn b hb, Nat.ne_of_lt (lt3 b hb), fun hm => by
      rcases List.mem_cons.mp (I.stkSub b hm) with z | z
      · exact (hf b hb).2.1 z
      · exact (hf b hb).2.2.1 z, .inl hb, fun x c e => (hf b hb).2.2.2.2.1 x c (cl_sub I ho S e), fun p hp => absurd (show p ∈ ([] : List (Addr × Obj)) from hp) (by simp)⟩
  have loop : ∀ s₃ : Shared, s₃ = { s with heap := h₁, toks := s.toks + ([] : List (Str × Value)).length } →
      codeAny (model X.prog X.w) X.A (.compLoop (.ListComp elt [⟨target, iter, ifs, 0⟩] sc pos) 0 (.ref it) (.ref s.heap.objs.size) (compEnvC sc (clOf sc X.env) (s.heap.push { cls := .type "list", data := .seq ([] : List Value).toArray }).objs.size X.env))
        (RR (.ref s.heap.objs.size) (s.heap.push { cls := .type "list", data := .seq ([] : List Value).toArray }).objs.size) s₃ := by
    rintro s₃ rfl
    refine compLoop_any (fun n s' => ∃ i xs σ' H', Inv (cxComp X (own ++ fr) sc { s with heap := s.heap.push { cls := .type "list", data := .seq ([] : List Value).toArray } } (upd H s.heap.objs.size (.lst [])) fp) [] σ' H' s' ∧ Keep (inner own.length js σ) σ' ∧ tn i s'.heap ∧ (∀ b ∈ fp, H' b = none) ∧ W i n xs H')
      ?_ m0 ⟨0, [], _, _, I4, Keep.refl _, st4, fun b hb => (f3 b hb).1, w0⟩
    rintro n s5 ⟨i, xs, σ5, H5, I5, k5, st5, fr5, w5⟩
    have I5' := I5.weak (σ' := inner own.length js σ) k5.1.symm k5.2
    have hc' : (cxComp X (own ++ fr) sc { s with heap := s.heap.push { cls := .type "list", data := .seq ([] : List Value).toArray } } (upd H s.heap.objs.size (.lst [])) fp).calm = true := hc
    rcases turn i n xs H5 w5 with ⟨stop, qn⟩ | ⟨go, hz, N, hN, step⟩
    · refine thn (T.done (cxComp X (own ++ fr) sc { s with heap := s.heap.push { cls := .type "list", data := .seq ([] : List Value).toArray } } (upd H s.heap.objs.size (.lst [])) fp) rfl rfl rfl hc' i [] s5 _ H5 _ I5' (fpX fr5) st5 stop) fun r s6 ⟨hr, I6⟩ => ?_
      subst hr
      have B := comp_back I rfl (tk := s.toks) hf I6
      refine fin _ _ H5 s6 B ?_ ?_ qn
      · refine I.fpOk ?_ I6.free
        show s.heap.objs.size ≤ (s.heap.push { cls := .type "list", data := .seq ([] : List Value).toArray }).objs.size
        rw [hsz3]
        exact Nat.le_succ _
      · obtain ⟨m, hm, _⟩ := I6.loc
        exact ⟨m, hm⟩
    · refine thn (T.item (cxComp X (own ++ fr) sc { s with heap := s.heap.push { cls := .type "list", data := .seq ([] : List Value).toArray } } (upd H s.heap.objs.size (.lst [])) fp) rfl rfl rfl hc' i [] s5 _ H5 _ I5' (fpX fr5) st5 go) fun r s6 ⟨u, hr, h6⟩ => ?_
      subst hr
      refine thn h6 fun _ s7 ⟨x, H7, I7, r7, y7, st7, fr7⟩ => ?_
      have I7' := I7.pinned (fpX fr7) (T.obj _ _ st7)
      have again : ∀ {s9 : Shared} {σ9 : St} {H9 : Hp} {ys : List V} {m' : Nat}, Inv (cxComp X (own ++ fr) sc { s with heap := s.heap.push { cls := .type "list", data := .seq ([] : List Value).toArray } } (upd H s.heap.objs.size (.lst [])) fp) ([] ++ pinsAt fp s7.heap) σ9 H9 s9 →
          Keep (inner own.length js σ) σ9 → m' < n → W (i + 1) m' ys H9 → ∃ m, m < n ∧ ∃ i xs σ' H', Inv (cxComp X (own ++ fr) sc { s with heap := s.heap.push { cls := .type "list", data := .seq ([] : List Value).toArray } } (upd H s.heap.objs.size (.lst [])) fp) [] σ' H' s9 ∧ Keep (inner own.length js σ) σ' ∧ tn i s9.heap ∧ (∀ b ∈ fp, H' b = none) ∧ W i m xs H' := fun {s9 σ9 H9 ys m'} I9 k9 hm w9 => by
        refine ⟨m', hm, i + 1, ys, σ9, H9, I9.unpinned, k9, T.keep _ _ _ st7 fun b hb o e => (I9.pin (b, o) (List.mem_append_right _ (List.mem_append_right _ (mem_pinsAt hb e)))).1, fun b hb => ?_, w9⟩
        obtain ⟨o, e, d⟩ := T.obj _ _ st7 b hb
        exact (I9.pin (b, o) (List.mem_append_right _ (List.mem_append_right _ (mem_pinsAt hb e)))).2.1
      refine thn (hg _ _ _ _ s7 _ H7 x u _ I7' r7 (step x H7 y7)) fun _ s8 ⟨σ8, H8, I8, k8, q8⟩ => ?_
      refine thn (ht _ _ _ _ s8 σ8 H8 _ I8 q8) fun b s9 ⟨H9, I9, q9⟩ => ?_
      cases b with
      | false =>
        rw [if_neg (by simp)]
        rw [if_neg (by simp)] at q9
        obtain ⟨m', hm, w9⟩ := hN _ _ q9
        exact again I9 k8 hm w9
      | true =>
        rw [if_pos rfl]
        rw [if_pos rfl] at q9
        refine thn (he _ _ _ _ s9 σ8 H9 _ I9 q9) fun y s10 ⟨v, H10, I10, r10, a10, n10⟩ => ?_
        obtain ⟨m', hm, w10⟩ := hN _ _ n10
        refine thn (mt_append _ s10 σ8 H10 (.ref s.heap.objs.size) [v] (.ref s.heap.objs.size) [y] (fun z H11 => z = .non ∧ H11 = upd H10 s.heap.objs.size (.lst (xs ++ [v]))) I10 rfl (.cons r10 .nil) ⟨_, xs, v, rfl, rfl, a10, hz, rfl, rfl⟩) fun z s11 ⟨z', H11, I11, _, _, e11⟩ => ?_
        subst e11
        exact again I11 k8 hm w10
  exact codeAny_compStart_list (loop _ rfl) (T.self _ 0 _ _ _ st4 (loop _ rfl))
end
section
variable {X : Cx} {osc sc : Scope} {own fr : List Str} {js : List Nat} {elt target iter : Expr} {ifs : List Expr} {pos : Pos} {wi : TI} {g : TG} {tt : TT} {te : TE}
theorem pe_comp (hc : X.calm = true) (ho : X.env.scope = osc) (S : CompScope osc sc own fr) (hj : js.map (fun j => X.N[j]?) = fr.map some) (hi : PI X target iter wi)
    (hg : ∀ s₃ H₃ fp, PG (cxComp X (own ++ fr) sc s₃ H₃ fp) target g) (ht : ∀ s₃ H₃ fp, PIf (cxComp X (own ++ fr) sc s₃ H₃ fp) ifs tt) (he : ∀ s₃ H₃ fp, PE (cxComp X (own ++ fr) sc s₃ H₃ fp) elt te)
    (hs : ∀ x, foldedSetIterable iter X.env x = pure x := by intro _; rfl) : PE X (.ListComp elt [⟨target, iter, ifs, 0⟩] sc pos) (tComp wi own.length js g tt te) := by
  intro pins s σ H Q I h
  rw [eval_ListComp]
  refine wpAny_comprehension_free (use := none) rfl hs (closure_eq (cl_ok I ho S)) S.kind S.loc (thn (hi pins s σ H _ I h) fun v s1 h1 => thn h1 fun itv s2 h2 => ?_)
  obtain ⟨it, fp, tn, J, H2, e, I2, T, st2, f2, q2⟩ := h2
  subst e
  refine comp_core (RR := fun acc C => compPost (model X.prog X.w) X.A X.xe none (EP X pins σ Q) acc C) hc ho S hj hg ht he I2 T st2 f2 q2 fun acc C H' s' J hC hn q => ?_
  obtain ⟨m, hm⟩ := hn
  refine ⟨m, hm, fun h' hs' => ⟨.ref acc, H', ?_, rfl, q⟩⟩
  obtain ⟨f0, f1, f2', f3, f4, f5⟩ := hC
  exact J.turned (t' := s'.toks) (fun b o hb e => hs'.extBut b o hb e) f0 f1 f3 f4 f5
theorem ps_comp {i : Nat} {x : Str} {px spos : Pos} (hc : X.calm = true) (ho : X.env.scope = osc) (S : CompScope osc sc own fr) (hj : js.map (fun j => X.N[j]?) = fr.map some) (hN : X.N.Nodup) (hi' : X.N[i]? = some x) (hx : X.env.scope.names.lookup x = some .local)
    (hi : PI X target iter wi) (hg : ∀ s₃ H₃ fp, PG (cxComp X (own ++ fr) sc s₃ H₃ fp) target g) (ht : ∀ s₃ H₃ fp, PIf (cxComp X (own ++ fr) sc s₃ H₃ fp) ifs tt) (he : ∀ s₃ H₃ fp, PE (cxComp X (own ++ fr) sc s₃ H₃ fp) elt te)
    (hsw : swapsWith (.ListComp elt [⟨target, iter, ifs, 0⟩] sc pos) (some (.Name x px)) spos.line X.env = pure true)
    (hs : ∀ x, foldedSetIterable iter X.env x = pure x := by intro _; rfl) : PS X (.Assign [.Name x px] (.ListComp elt [⟨target, iter, ifs, 0⟩] sc pos) spos) (tAsg (tComp wi own.length js g tt te) (gName i)) := by
  intro pins s σ H D I h
  rw [exec_Assign_Name_used _ _ _ _ hsw]
  refine wpAny_bind (wpAny_standAt (wpAny_bind ?_))
  show wpAny _ X.A (do let _ ← comprehension (.ListComp elt [⟨target, iter, ifs, 0⟩] sc pos) sc X.env _ (newList []) false (eval iter X.env) (some (assign (.Name x px) X.env))) _ _ s
  refine wpAny_bind (wpAny_mono (wpAny_comprehension_free (use := some (assign (.Name x px) X.env)) (Q := fun _ s' => SP X pins D .next s') rfl hs (closure_eq (cl_ok I ho S)) S.kind S.loc (thn (hi pins s σ H _ I h) fun v s1 h1 => thn h1 fun itv s2 h2 => ?_))
    (fun _ s' hq => wpAny_pure (wpAny_pure hq)) fun _ _ e => e)
  obtain ⟨it, fp, tn, J, H2, e, I2, T, st2, f2, q2⟩ := h2
  subst e
  refine comp_core (Q := fun v H' => gName i v σ H' D.nx) (RR := fun acc C => compPost (model X.prog X.w) X.A X.xe (some (assign (.Name x px) X.env)) (fun _ s' => SP X pins D .next s') acc C) hc ho S hj hg ht he I2 T st2 f2 q2 fun acc C H' s' J hC hn q => ?_
  obtain ⟨m, hm⟩ := hn
  obtain ⟨f0, f1, f2', f3, f4, f5⟩ := hC
  show wpAny _ X.A (assign (.Name x px) X.env (.ref acc)) _ _ _
  refine wpAny_assign_Name (store_ok2 J hN hi' (.inl hx) (v := .ref acc) rfl (fun s'' J' hsb => ?_) (.inr hx))
  obtain ⟨a, hsb, ha⟩ := hsb
  have hCa : C ≠ a := by
    rcases ha with rfl | ha
    · exact f1
    · exact (f4 x a ha).symm
  refine ⟨m, hm.sameBut hsb hCa, fun h' hs' => ⟨_, H', ?_, q⟩⟩
  exact J'.turned (t' := s''.toks) (fun b o hb e => hs'.extBut b o hb e) f0 f1 f3 f4 f5
end
end L2

namespace L2
open PySem PySem.Spec PyProof.Rows
section
variable {X : Cx}
theorem ints_of_vals : ∀ {ns : List Int} {us : List Value}, Vals (ns.map V.int) us → IntsAre us ns := fun h => intsAre_of h
theorem vals_of_ints {ns : List Int} {us : List Value} (h : IntsAre us ns) : Vals (ns.map V.int) us := vals_ints h
theorem call_sorted : CallR X (.builtin "sorted") (fun xs H Q => ∃ (p : Addr) (ns : List Int), xs = [.ref p] ∧ SqL X.K H p (ns.map V.int) ∧ ns.length < 64 ∧ ∀ (l : Addr) (ms : List Int), H l = none → ms.Perm ns → ms.Pairwise (· ≤ ·) → Q (.ref l) (upd H l (.lst (ms.map V.int)))) := by
  intro pins s σ H xs us Q I r h
  obtain ⟨p, ns, rfl, hq, h64, q⟩ := h
  obtain ⟨u, rfl, rx⟩ := vals1 r
  cases rx
  obtain ⟨its, r', pl, hz⟩ := I.list hq
  have hI := ints_of_vals r'
  have hlen := r'.length
  rw [List.length_map] at hlen
  refine sorted_ints pl.isList hI (by omega) fun out ns' hI' hp hs => ?_
  obtain ⟨e, he⟩ := sortedAll_at s.heap its out
  have hl' : ns'.length = ns.length := hp.length_eq
  refine ⟨.ref (s.heap.objs.size + 1), _, I.laid (a := s.heap.objs.size + 1) (o := .lst (ns'.map V.int)) (t' := s.toks) (fun b o z => sortedAll_old z) (Nat.le_succ _) ?_, rfl, q _ ns' (I.hok.fresh (Nat.le_succ _)) hp hs⟩
  refine ⟨by rw [List.length_map]; rw [List.length_map] at hz; omega, out.toList, e, vals_of_ints hI', ?_⟩
  rw [he]
theorem min_at {xs : Array (Int × Tok)} (h : 0 < xs.size) : numAt xs (argBest (fun i j => decide (numAt xs i < numAt xs j)) (xs.size - 1)) ∈ xs.toList.map (·.1) ∧
    ∀ a ∈ xs.toList.map (·.1), numAt xs (argBest (fun i j => decide (numAt xs i < numAt xs j)) (xs.size - 1)) ≤ a := by
  obtain ⟨h1, h2⟩ := argBest_lt (numAt xs) (xs.size - 1)
  refine ⟨?_, fun a ha => ?_⟩
  · rw [numAt_eq]; exact PySem.getD_mem (by rw [List.length_map, Array.length_toList]; omega)
  · obtain ⟨j, hj, rfl⟩ := PySem.mem_getD ha
    rw [List.length_map, Array.length_toList] at hj
    rw [← numAt_eq]; exact h2 j (by omega)
theorem max_at {xs : Array (Int × Tok)} (h : 0 < xs.size) : numAt xs (argBest (fun i j => decide (numAt xs i > numAt xs j)) (xs.size - 1)) ∈ xs.toList.map (·.1) ∧
    ∀ a ∈ xs.toList.map (·.1), a ≤ numAt xs (argBest (fun i j => decide (numAt xs i > numAt xs j)) (xs.size - 1)) := by
  obtain ⟨h1, h2⟩ := argBest_gt (numAt xs) (xs.size - 1)
  refine ⟨?_, fun a ha => ?_⟩
  · rw [numAt_eq]; exact PySem.getD_mem (by rw [List.length_map, Array.length_toList]; omega)
  · obtain ⟨j, hj, rfl⟩ := PySem.mem_getD ha
    rw [List.length_map, Array.length_toList] at hj
    rw [← numAt_eq]; exact h2 j (by omega)
theorem call_minL (hc : X.calm = true) : CallR X (.builtin "min") (fun xs H Q => ∃ (p : Addr) (ns : List Int), xs = [.ref p] ∧ SqL X.K H p (ns.map V.int) ∧ 0 < ns.length ∧ ∀ M : Int, M ∈ ns → (∀ a ∈ ns, M ≤ a) → Q (.int M) H) := by
  intro pins s σ H xs us Q I r h
  obtain ⟨p, ns, rfl, hq, hne, q⟩ := h
  obtain ⟨u, rfl, rx⟩ := vals1 r
  cases rx
  obtain ⟨its, r', pl, hz⟩ := I.list hq
  have hI := ints_of_vals r'
  obtain ⟨ys, e⟩ := hI.allInts.items
  have hns : ns = ys.toList.map (·.1) := by rw [← hI.numsOf, ← nums_intItems, ← e]
  have hsz : 0 < ys.size := by
    have h3 := hne; rw [hns, List.length_map, Array.length_toList] at h3; exact h3
  have hl := pl.isList
  rw [e] at hl
  refine min_intList (I.ok.hd hc) hl hsz fun v h' tk hv hk => ?_
  obtain ⟨t, rfl⟩ := intItems_at hv
  obtain ⟨m1, m2⟩ := min_at hsz
  exact ⟨.int _, H, I.kept hk, ⟨t, rfl⟩, q _ (by rw [hns]; exact m1) (by rw [hns]; exact m2)⟩
theorem call_maxL (hc : X.calm = true) : CallR X (.builtin "max") (fun xs H Q => ∃ (p : Addr) (ns : List Int), xs = [.ref p] ∧ SqL X.K H p (ns.map V.int) ∧ 0 < ns.length ∧ ∀ M : Int, M ∈ ns → (∀ a ∈ ns, a ≤ M) → Q (.int M) H) := by
  intro pins s σ H xs us Q I r h
  obtain ⟨p, ns, rfl, hq, hne, q⟩ := h
  obtain ⟨u, rfl, rx⟩ := vals1 r
  cases rx
  obtain ⟨its, r', pl, hz⟩ := I.list hq
  have hI := ints_of_vals r'
  obtain ⟨ys, e⟩ := hI.allInts.items
  have hns : ns = ys.toList.map (·.1) := by rw [← hI.numsOf, ← nums_intItems, ← e]
  have hsz : 0 < ys.size := by
    have h3 := hne; rw [hns, List.length_map, Array.length_toList] at h3; exact h3
  have hl := pl.isList
  rw [e] at hl
  refine max_intList (I.ok.hd hc) hl hsz fun v h' tk hv hk => ?_
  obtain ⟨t, rfl⟩ := intItems_at hv
  obtain ⟨m1, m2⟩ := max_at hsz
  exact ⟨.int _, H, I.kept hk, ⟨t, rfl⟩, q _ (by rw [hns]; exact m1) (by rw [hns]; exact m2)⟩
theorem vals_at : ∀ {xs : List V} {us : List Value}, Vals xs us → ∀ (j : Nat) (h : j < us.length), RelV (xs.getD j .non) us[j]
  | _, _, .nil, j, h => absurd h (Nat.not_lt_zero _)
  | _ :: _, _ :: _, .cons r t, 0, _ => r
  | _ :: _, _ :: _, .cons r t, j + 1, h => by
    have := vals_at t j (Nat.lt_of_succ_lt_succ h)
    simpa using this
theorem all_range {α : Type} (d : α) (f : α → Bool) : ∀ (bs : List α), ((List.range bs.length).all fun i => f (bs.getD i d)) = bs.all f
  | [] => rfl
  | b :: r => by
    rw [List.length_cons, List.range_succ_eq_map, List.all_cons, List.all_map, List.all_cons]
    have ih := all_range d f r
    rw [← ih]
    rfl
theorem call_allL (hc : X.calm = true) : CallR X (.builtin "all") (fun xs H Q => ∃ (p : Addr) (bs : List Bool), xs = [.ref p] ∧ SqL X.K H p (bs.map V.bl) ∧ Q (.bl (bs.all id)) H) := by
  intro pins s σ H xs us Q I r h
  obtain ⟨p, bs, rfl, hq, q⟩ := h
  obtain ⟨u, rfl, rx⟩ := vals1 r
  cases rx
  obtain ⟨its, r', pl, hz⟩ := I.list hq
  have hlen := r'.length
  rw [List.length_map] at hlen
  have hlt : p < s.heap.objs.size := by obtain ⟨_, e, _⟩ := pl.isList; exact Heap.lt_size e
  refine call_all_walk (wpAny_pyIter_list pl.isList ?_)
  refine ⟨_, _, _, _, _, _, fun i => id (bs.getD i true), rfl, Walks.list (A := X.A.in1) (I.ok.hd hc) _ p (Nat.ne_of_lt hlt) its.toArray, ⟨⟨_, Heap.get?_push_size _ rfl, rfl, rfl⟩, pl.isList.push _⟩, ?_, fun h' tk hk => ?_⟩
  · intro i v s' Q' E' hP hQ
    have hi : i < its.length := by
      have := (Array.getElem?_eq_some_iff.mp hP).1
      simpa using this
    have hv : v = its[i] := by
      have := (Array.getElem?_eq_some_iff.mp hP).2
      simpa using this.symm
    have rv := vals_at r' i hi
    have e : (bs.map V.bl).getD i .non = V.bl (bs.getD i true) := by
      rw [List.getD_eq_getElem?_getD, List.getD_eq_getElem?_getD, List.getElem?_map, List.getElem?_eq_getElem (by omega)]
      rfl
    rw [e] at rv
    have rv : its[i] = Value.bool (bs.getD i true) := rv
    rw [hv, rv]
    exact wpAny_truthy_bool hQ
  · have e : ((List.range its.toArray.size).all fun i => id (bs.getD i true)) = bs.all id := by
      rw [List.size_toArray, ← hlen]
      exact all_range true id bs
    rw [e]
    exact ⟨.bl _, H, I.kept (old_kept hk), rfl, q⟩
def eqVs : List V → List V → Bool
  | [], [] => true
  | x :: xs, y :: ys => eqV x y && eqVs xs ys
  | _, _ => false
theorem eqVs_len : ∀ {xs ys : List V}, xs.length ≠ ys.length → eqVs xs ys = false
  | [], [], h => absurd rfl h
  | [], _ :: _, _ => rfl
  | _ :: _, [], _ => rfl
  | x :: xs, y :: ys, h => by
    have : eqVs xs ys = false := eqVs_len fun e => h (by simp [e])
    simp [eqVs, this]
theorem eqVs_range : ∀ {xs ys : List V}, xs.length = ys.length → ((List.range xs.length).all fun i => eqV (xs.getD i .non) (ys.getD i .non)) = eqVs xs ys
  | [], [], _ => rfl
  | x :: xs, y :: ys, h => by
    rw [List.length_cons, List.range_succ_eq_map, List.all_cons, List.all_map]
    have ih := eqVs_range (xs := xs) (ys := ys) (by simpa using h)
    show (eqV x y && _) = (eqV x y && eqVs xs ys)
    rw [← ih]
    rfl
  | [], _ :: _, h => by simp at h
  | _ :: _, [], h => by simp at h
theorem flat_getD {xs : List V} (h : xs.all flatV = true) (i : Nat) : flatV (xs.getD i .non) = true := by
  rw [List.getD_eq_getElem?_getD]
  cases e : xs[i]? with
  | none => rfl
  | some v => exact List.all_eq_true.mp h v (List.mem_of_getElem? e)
def rEqL (K : PySem.W.Frag) (neg : Bool) : R2 := fun x y H Q => ∃ a b xs ys, x = .ref a ∧ y = .ref b ∧ SqL K H a xs ∧ SqL K H b ys ∧ xs.all flatV = true ∧ ys.all flatV = true ∧ Q (.bl (if neg then !eqVs xs ys else eqVs xs ys)) H
theorem lists_at {pins : List (Addr × Obj)} {s : Shared} {σ : St} {H : Hp} {a b : Addr} {xs ys : List V} (I : Inv X pins σ H s) (ha : SqL X.K H a xs) (hb : SqL X.K H b ys) (fx : xs.all flatV = true) (fy : ys.all flatV = true) :
    ∃ items items2 : Array Value, s.heap.IsList a items ∧ s.heap.IsList b items2 ∧ items.size = xs.length ∧ items2.size = ys.length ∧
      ∀ A j (h1 : j < items.size) (h2 : j < items2.size), SeqAt.EqAt A s items[j] items2[j] (eqV (xs.getD j .non) (ys.getD j .non)) := by
  obtain ⟨its, r, pl, hz⟩ := I.list ha
  obtain ⟨its2, r2, pl2, hz2⟩ := I.list hb
  refine ⟨its.toArray, its2.toArray, pl.isList, pl2.isList, by simp [r.length], by simp [r2.length], fun A j h1 h2 => ?_⟩
  have q1 := vals_at r j (by simpa using h1)
  have q2 := vals_at r2 j (by simpa using h2)
  have := eqAt_V (A := A) (s := s) q1 q2 (flat_getD fx j) (flat_getD fy j)
  simpa using this
theorem op_eqL (hu : X.A.units < cLine) : OpR X (compareOp .Eq) (rEqL X.K false) := by
  intro pins s σ H x y v u Q I rx ry h
  obtain ⟨a, b, xs, ys, rfl, rfl, ha, hb, fx, fy, q⟩ := h
  cases rx
  cases ry
  obtain ⟨items, items2, l1, l2, s1, s2, he⟩ := lists_at I ha hb fx fy
  by_cases hl : xs.length = ys.length
  · refine SeqAt.eq_listAt l1 l2 (by omega) hu (fun j h1 h2 => he _ j h1 h2) ⟨.bl _, H, I, rfl, ?_⟩
    rw [s1, eqVs_range hl]
    exact q
  · refine SeqAt.eq_list_lengthsAt l1 l2 (by simp; omega) hu ⟨.bl _, H, I, rfl, ?_⟩
    rw [eqVs_len hl] at q
    exact q
theorem op_neL (hu : X.A.units < cLine) : OpR X (compareOp .NotEq) (rEqL X.K true) := by
  intro pins s σ H x y v u Q I rx ry h
  obtain ⟨a, b, xs, ys, rfl, rfl, ha, hb, fx, fy, q⟩ := h
  cases rx
  cases ry
  obtain ⟨items, items2, l1, l2, s1, s2, he⟩ := lists_at I ha hb fx fy
  by_cases hl : xs.length = ys.length
  · refine SeqAt.RcNeAt.lists l1 l2 (by omega) hu (fun j h1 h2 => he _ j h1 h2) _ _ _ _ ⟨.bl _, H, I, rfl, ?_⟩
    rw [s1, eqVs_range hl]
    exact q
  · refine SeqAt.RcNeAt.lists_lengths l1 l2 (by simp; omega) hu _ _ _ _ ⟨.bl _, H, I, rfl, ?_⟩
    rw [eqVs_len hl] at q
    exact q
theorem call_isinst : CallR X (.builtin "isinstance") (fun xs H Q => ∃ x t c cv b, xs = [x, c] ∧ TyOf X.K H x t ∧ RelV c cv ∧ ((∃ n, c = .ty n) ∨ ∃ a, c = .ref a) ∧ PySem.W.kitOne X.K t cv = some b ∧ Q (.bl b) H) := by
  intro pins s σ H xs us Q I r h
  obtain ⟨x, t, c, cv, b, rfl, ty, rc, hcf, e, q⟩ := h
  obtain ⟨u, w', rfl, rx, rw'⟩ := vals2 r
  have ew : w' = cv := by
    rcases hcf with ⟨n, rfl⟩ | ⟨a, rfl⟩
    · exact (show w' = Value.type n from rw').trans (show cv = Value.type n from rc).symm
    · exact (show w' = Value.ref a from rw').trans (show cv = Value.ref a from rc).symm
  subst ew
  exact isinst_ok I rx ty e fun tk => ⟨.bl b, H, I.tok _, rfl, q⟩
end
end L2

namespace L2
open PySem PySem.Spec PyProof.Rows
theorem bt_len : bootBuiltins "len" = some (.builtin "len") := by decide +kernel
theorem bt_sorted : bootBuiltins "sorted" = some (.builtin "sorted") := by decide +kernel
theorem bt_min : bootBuiltins "min" = some (.builtin "min") := by decide +kernel
theorem bt_max : bootBuiltins "max" = some (.builtin "max") := by decide +kernel
theorem bt_all : bootBuiltins "all" = some (.builtin "all") := by decide +kernel
theorem bt_isinstance : bootBuiltins "isinstance" = some (.builtin "isinstance") := by decide +kernel
theorem bt_int : bootBuiltins "int" = some (.type "int") := by decide +kernel
theorem bt_bool : bootBuiltins "bool" = some (.type "bool") := by decide +kernel
theorem bt_list : bootBuiltins "list" = some (.type "list") := by decide +kernel
theorem bt_tuple : bootBuiltins "tuple" = some (.type "tuple") := by decide +kernel
structure Bl (mg : Str → Option Value) : Prop where
  no : ∀ x ∈ (["len", "sorted", "min", "max", "sum", "all", "isinstance", "int", "bool", "list", "tuple", "range"] : List Str), mg x = none
namespace Bl
variable {mg : Str → Option Value}
theorem len (B : Bl mg) : mg "len" = none := B.no _ (by simp)
theorem sorted (B : Bl mg) : mg "sorted" = none := B.no _ (by simp)
theorem min (B : Bl mg) : mg "min" = none := B.no _ (by simp)
theorem max (B : Bl mg) : mg "max" = none := B.no _ (by simp)
theorem all (B : Bl mg) : mg "all" = none := B.no _ (by simp)
theorem isinstance (B : Bl mg) : mg "isinstance" = none := B.no _ (by simp)
theorem int (B : Bl mg) : mg "int" = none := B.no _ (by simp)
theorem bool (B : Bl mg) : mg "bool" = none := B.no _ (by simp)
theorem list (B : Bl mg) : mg "list" = none := B.no _ (by simp)
theorem tuple (B : Bl mg) : mg "tuple" = none := B.no _ (by simp)
theorem range (B : Bl mg) : mg "range" = none := B.no _ (by simp)
end Bl
structure Cal (P : Program) (w : World) (K : PySem.W.Frag) (mg : Str → Option Value) (base : Heap) (x : Str) (j : Nat) (ps : List Str) (sp : Sp) : Prop where
  ex : ∃ f fd, FnOk P w K mg base CX0 j f fd ps sp ∧ mg x = some (.ref f) ∧ PySem.W.keepIn K (.ref f) = true ∧ Binds K fd ps []
def g11 {α : Type} (us ws : List α) : List α := match us, ws with
  | [a], [b] => [a, b]
  | _, _ => []
structure CalK (P : Program) (w : World) (K : PySem.W.Frag) (mg : Str → Option Value) (base : Heap) (x : Str) (j : Nat) (ps ks : List Str) (sp : Sp) : Prop where
  ex : ∃ f fd, FnOk P w K mg base CX0 j f fd ps sp ∧ mg x = some (.ref f) ∧ PySem.W.keepIn K (.ref f) = true ∧ KBinds K fd ps ks g11 g11
section
variable {X : Cx} {x : Str} {j : Nat} {ps ks : List Str} {sp : Sp} {p pos : Pos} {e : Expr} {es : List Expr} {t tk : TA} {kws : List Keyword}
theorem pe_cal (C : Cal X.prog X.w X.K X.mg X.base x j ps sp) (hr : Room j X.A) (hg : Gl X x) (ha : PA X (e :: es) t) (hdb : (x == ("__debug__" : Str)) = false := by decide)
    (he : starEach (e :: es) X.env = (false, eval e X.env) :: starEach es X.env := by rfl) (hpl : (backTo pos (starEach es X.env)).any (·.1) = false := by rfl) : PE X (.Call (.Name x p) (e :: es) [] pos) (tCall sp [] E0 t) := by
  obtain ⟨f, fd, F, hm, hk, hb⟩ := C.ex
  exact pe_call F hr hg hm hk hb .nil pass0 ha hdb he hpl
theorem pe_calK (C : CalK X.prog X.w X.K X.mg X.base x j ps ks sp) (hr : Room j X.A) (hg : Gl X x) (ha : PA X (e :: es) t) (hkw : PK X kws tk)
    (hall : (backToKw pos (keywordEach kws X.env)).all (·.1.isSome) = true := by rfl) (hks : (backToKw pos (keywordEach kws X.env)).filterMap (·.1) = ks := by rfl)
    (hdb : (x == ("__debug__" : Str)) = false := by decide) (he : starEach (e :: es) X.env = (false, eval e X.env) :: starEach es X.env := by rfl)
    (hpl : ((backTo pos (starEach (e :: es) X.env)).any (·.1) || (backToKw pos (keywordEach kws X.env)).any (·.1.isNone)) = false := by rfl) : PE X (.Call (.Name x p) (e :: es) kws pos) (tCallK sp g11 E0 t tk) := by
  obtain ⟨f, fd, F, hm, hk, hb⟩ := C.ex
  exact pe_callK F hr hg hm hk hb pass0 ha hkw hall hks hdb he hpl
end
theorem g11_rel {vs : List V} {us : List Value} {zs : List V} {ws : List Value} (a : Vals vs us) (b : Vals zs ws) : Vals (g11 vs zs) (g11 us ws) := by
  cases a with
  | nil => exact .nil
  | cons r t => cases t with
    | nil => cases b with
      | nil => exact .nil
      | cons r2 t2 => cases t2 with
        | nil => exact .cons r (.cons r2 .nil)
        | cons _ _ => exact .nil
    | cons _ _ => exact .nil
theorem Fun.kbinds {K : PySem.W.Frag} {x qual : Str} {st : Stmt} {f : Addr} {fd : FuncData} {p k : Str} (F : Fun K x qual st f fd)
    (h : ∀ (kV doc pm : Value) (an : Option Addr) (cdv ct a b : Value), bindArgs (PySem.W.fnOf x qual (defArgs st) (defBody st) (defScope st) .none kV doc pm an cdv ct) ⟨[a], [(k, b)]⟩ = pure [(p, a), (k, b)]) : KBinds K fd [p, k] [k] g11 g11 where
  to := fun s us ws _ hl => by
    obtain ⟨oc, od, kV, doc, pm, an, cdv, ct, osl, rfl, _⟩ := F.ex
    match us, ws, hl with
    | [a], [b], _ => exact .of_eq (h kV doc pm an cdv ct a b)
  rel := g11_rel
theorem Fun.cal {P : Program} {w : World} {K : PySem.W.Frag} {mg : Str → Option Value} {base : Heap} {x qual : Str} {st : Stmt} {f : Addr} {fd : FuncData} {j : Nat} {ps : List Str} {sp : Sp} (F : Fun K x qual st f fd)
    (G : FnOk P w K mg base CX0 j f fd ps sp) (m : mg x = some (.ref f)) (b : Binds K fd ps []) : Cal P w K mg base x j ps sp := ⟨f, fd, G, m, F.kp, b⟩
theorem Fun.calK {P : Program} {w : World} {K : PySem.W.Frag} {mg : Str → Option Value} {base : Heap} {x qual : Str} {st : Stmt} {f : Addr} {fd : FuncData} {j : Nat} {ps ks : List Str} {sp : Sp} (F : Fun K x qual st f fd)
    (G : FnOk P w K mg base CX0 j f fd ps sp) (m : mg x = some (.ref f)) (b : KBinds K fd ps ks g11 g11) : CalK P w K mg base x j ps ks sp := ⟨f, fd, G, m, F.kp, b⟩
theorem hu0 {A : Around} {k : Nat} (hr : Room k A) : A.units < cLine := hr.units0
def But (bs : List Addr) (H H' : Hp) : Prop := ∀ b o, H b = some o → b ∉ bs → H' b = some o
theorem Same.but {H H' : Hp} (s : Same H H') (bs : List Addr) : But bs H H' := fun b o e _ => s b o e
theorem But.trans {bs : List Addr} {H H1 H2 : Hp} (a : But bs H H1) (b : But bs H1 H2) : But bs H H2 := fun c o e n => b c o (a c o e n) n
theorem Same.laid {H : Hp} {p : Addr} {o : HO} (h : H p = none) : Same H (upd H p o) := fun b u e => by rw [upd_ne (ne_of_none e h)]; exact e
theorem Same.trans' {H H1 H2 : Hp} (a : Same H H1) (b : Same H1 H2) : Same H H2 := fun c o e => b c o (a c o e)
theorem But.upd {bs : List Addr} {H : Hp} {p : Addr} {o : HO} (h : p ∈ bs) : But bs H (L2.upd H p o) := fun b u e n => by
  rw [upd_ne (fun z : b = p => n (by rw [z]; exact h))]
  exact e
end L2

namespace L2
open PySem PySem.Spec PyProof.Rows
theorem comp_list {K : PySem.W.Frag} {a acc : Addr} {xs : List V} {g : TG} {tt : TT} {te : TE} {own : Nat} {js : List Nat} {σ : St} {H : Hp} {Q : VK} (Pv : Nat → List V → Hp → Prop) (h0 : Pv 0 [] (upd H acc (.lst [])))
    (hl : ∀ i ys H, i ≤ xs.length → Pv i ys H → SqL K H a xs) (hz : ∀ i ys H, i < xs.length → Pv i ys H → ys.length < sizeLine)
    (hs : ∀ i x ys H, xs[i]? = some x → Pv i ys H → g x (inner own js σ) H fun σ4 H4 => Keep (inner own js σ) σ4 ∧ tt σ4 H4 fun b H5 =>
      if b = true then te σ4 H5 fun y H6 => H6 acc = some (.lst ys) ∧ Pv (i + 1) (ys ++ [y]) (upd H6 acc (.lst (ys ++ [y]))) else Pv (i + 1) ys H5)
    (hd : ∀ ys H, Pv xs.length ys H → Q (.ref acc) H) :
    CompW (Itl K a) acc own js g tt te σ Q H := by
  refine ⟨fun i m ys H => m = xs.length - i ∧ i ≤ xs.length ∧ Pv i ys H, ⟨xs.length, by simp, Nat.zero_le _, h0⟩, ?_⟩
  rintro i m ys H2 ⟨rfl, hi, p⟩
  have q := hl i ys H2 hi p
  by_cases hlt : i < xs.length
  · refine .inr ⟨⟨xs, xs[i], q, by simp [hlt]⟩, hz i ys H2 hlt p, Pv (i + 1), fun ys' H' p' => ⟨xs.length - (i + 1), by omega, rfl, hlt, p'⟩, fun x H3 y => ?_⟩
    obtain ⟨e, y⟩ := y
    subst e
    exact hs i x ys H3 (y xs q) p
  · have e : i = xs.length := by omega
    subst e
    exact .inl ⟨⟨xs, q, Nat.le_refl _⟩, hd ys H2 p⟩
theorem comp_range {lo : Int} {n : Nat} {acc : Addr} {g : TG} {tt : TT} {te : TE} {own : Nat} {js : List Nat} {σ : St} {H : Hp} {Q : VK} (Pv : Nat → List V → Hp → Prop) (h0 : Pv 0 [] (upd H acc (.lst [])))
    (hz : ∀ i ys H, i < n → Pv i ys H → ys.length < sizeLine)
    (hs : ∀ i ys H, i < n → Pv i ys H → g (.int (lo + i)) (inner own js σ) H fun σ4 H4 => Keep (inner own js σ) σ4 ∧ tt σ4 H4 fun b H5 =>
      if b = true then te σ4 H5 fun y H6 => H6 acc = some (.lst ys) ∧ Pv (i + 1) (ys ++ [y]) (upd H6 acc (.lst (ys ++ [y]))) else Pv (i + 1) ys H5)
    (hd : ∀ ys H, Pv n ys H → Q (.ref acc) H) :
    CompW (Itr lo n) acc own js g tt te σ Q H := by
  refine ⟨fun i m ys H => m = n - i ∧ i ≤ n ∧ Pv i ys H, ⟨n, by simp, Nat.zero_le _, h0⟩, ?_⟩
  rintro i m ys H2 ⟨rfl, hi, p⟩
  by_cases hlt : i < n
  · refine .inr ⟨hlt, hz i ys H2 hlt p, Pv (i + 1), fun ys' H' p' => ⟨n - (i + 1), by omega, rfl, hlt, p'⟩, fun x H3 y => ?_⟩
    obtain ⟨e, e2⟩ := y
    subst e
    subst e2
    exact hs i ys H3 hlt p
  · have e : i = n := by omega
    subst e
    exact .inl ⟨Nat.le_refl _, hd ys H2 p⟩
end L2

namespace L2
open PySem PySem.Spec PyProof.Rows
section
variable {X : Cx}
end
end L2

namespace L2
open PySem PySem.Spec PyProof.Rows
section
variable {P : Program} {w : World} {H : Hp} {h h' : Heap} {a : Addr} {o : HO}
theorem ObjOk.there (x : ObjOk P w H h a o) : ∃ u, h.get? a = some u := by
  cases o with
  | lst xs =>
    obtain ⟨_, _, _, _, e⟩ := x
    exact ⟨_, e⟩
  | tup xs =>
    obtain ⟨_, _, _, p⟩ := x
    obtain ⟨ob, e, _⟩ := p
    exact ⟨_, e⟩
  | dK kvs =>
    obtain ⟨_, _, _, _, ob, _, _, e, _⟩ := x
    exact ⟨_, e⟩
  | dT kvs =>
    obtain ⟨_, _, _, _, ob, _, _, e, _⟩ := x
    exact ⟨_, e⟩
  | set S n =>
    obtain ⟨ob, _, _, _, e, _⟩ := x
    exact ⟨_, e⟩
  | ins C dx fs =>
    obtain ⟨_, _, _, e, _⟩ := x
    exact ⟨_, e⟩
  | own y => exact x
  | xd fs =>
    obtain ⟨_, ⟨_, _, _, e, _⟩, _⟩ := x
    exact ⟨_, e⟩
  | rng lo hi =>
    obtain ⟨_, _, _, e⟩ := x
    exact ⟨_, e⟩
  | frz ob u =>
    obtain ⟨e, _⟩ := x
    exact ⟨_, e⟩
  | tbl ps => exact ⟨_, x⟩
  | met f y => exact ⟨_, x⟩
  | ext φ => exact x.2.1
theorem HOk.moved (x : HOk P w H h) (k : ∀ b o u, H b = some o → h.get? b = some u → h'.get? b = some u) : HOk P w H h' := fun a o e =>
  (x a o e).stay (fun b u hb q => by
    rcases hb with rfl | hb
    · exact k _ _ u e q
    · exact k _ _ u hb q) (fun _ z => z) fun _ _ z => z
end
def CX1 (P : Program) (w : World) : CXT := fun outer H s E e s' => ∃ (ea C : Addr) (a0 : Value) (H' : Hp) (B : Heap), e = .ref ea ∧ s'.os = s.os ∧ AllBare s'.gens ∧ Heap.FlyingW B outer ea (.ref C) a0 s'.heap ∧
  (∀ b o, s.heap.get? b = some o → H b = none → b ∉ frs outer → B.get? b = some o) ∧ (∀ b o, s.heap.get? b = some o → b ∉ frs outer → ∃ o', B.get? b = some o') ∧
  (∀ b o, H' b = some o → ∃ u, B.get? b = some u) ∧ Un (frs outer) [] H H' s.heap s'.heap ∧ HOk P w H' s'.heap ∧ E (.ref C) none H'
theorem CX1.step {P : Program} {w : World} {outer : List Env} {H₀ H' : Hp} {s₀ s' : Shared} {h h'' : Heap} {B : Heap} {ea C : Addr} {a0 : Value} {E : XK} (ho : s'.os = s₀.os) (hb : AllBare s'.gens)
    (fl : Heap.FlyingW B outer ea (.ref C) a0 h'') (up : h.UpToSlots h'') (st : B.StaysIn h) (hfr : ∀ b ∈ frs outer, H₀ b = none) (hff : ∀ b ∈ frs outer, ∀ o, h.get? b = some o → ∀ vs, o.data ≠ .fields vs)
    (k1 : ∀ b o, s₀.heap.get? b = some o → H₀ b = none → b ∉ frs outer → B.get? b = some o) (k2 : ∀ b o, s₀.heap.get? b = some o → b ∉ frs outer → ∃ o', B.get? b = some o')
    (k3 : ∀ b o, H' b = some o → ∃ u, B.get? b = some u) (u : Un (frs outer) [] H₀ H' s₀.heap h) (hok : HOk P w H' h) (q : E (.ref C) none H') : CX1 P w outer H₀ s₀ E (.ref ea) { s' with heap := h'' } := by
  have slot : ∀ b o, s₀.heap.get? b = some o → H₀ b = none → b ∈ frs outer → ∃ sl, h''.get? b = some { o with slots := sl } := fun b o e n hm => by
    obtain ⟨sl, e1⟩ := u.slot b o e n hm (by simp)
    obtain ⟨sl', e2⟩ := up b _ e1 (hff b hm _ e1)
    exact ⟨sl', e2⟩
  refine ⟨ea, C, a0, H', B, rfl, ho, hb, fl, k1, k2, k3, ⟨fun b o e n hm _ => fl.1 b o (k1 b o e n hm), fun b o e n hm _ => slot b o e n hm, u.free, fun b o e _ => ?_, u.tups, u.frzs, u.tbls⟩, ?_, q⟩
  · by_cases hm : b ∈ frs outer
    · obtain ⟨sl, e2⟩ := slot b o e (hfr b hm) hm
      exact ⟨_, e2⟩
    · obtain ⟨o', e2⟩ := k2 b o e hm
      exact ⟨o', fl.1 b o' e2⟩
  · refine hok.moved fun b o u' e q' => ?_
    obtain ⟨u2, e2⟩ := k3 b o e
    have e3 := st b u2 e2
    rw [q'] at e3
    cases e3
    exact fl.1 b _ e2
section
variable {P : Program} {w : World} {K : PySem.W.Frag} {mg : Str → Option Value} {base : Heap} {N : List Str} {qual : Str} {scope : Scope} {f : Addr} {cd : Value} {A : Around} {outer : List Env} {s₀ : Shared} {H₀ : Hp} {E : XK}
theorem env_not {b : Addr} {o : Obj} (e : s₀.heap.get? b = some o) (hm : b ∉ frs outer) : b ∉ frs (envOfC qual scope s₀.heap.objs.size f cd :: outer) := fun hb => by
  have hb : b ∈ s₀.heap.objs.size :: frs outer := hb
  rcases List.mem_cons.mp hb with rfl | hb
  · exact Nat.lt_irrefl _ (Heap.lt_size e)
  · exact hm hb
theorem cx_raise {pins : List (Addr × Obj)} {σ : St} {H : Hp} {s : Shared} {e C : Addr} {us : List Value} {h' : Heap} (I : Inv (cxOf (CX1 P w) P w K mg base N qual scope f cd A outer s₀ H₀ E) pins σ H s)
    (hx : Heap.MadeExcOf s.heap h' e (.ref C) us) (q : E (.ref C) none H) : (cxOf (CX1 P w) P w K mg base N qual scope f cd A outer s₀ H₀ E).xe (.ref e) { s with heap := h' } := by
  have hst : s.heap.FunFrames base (envOfC qual scope s₀.heap.objs.size f cd :: outer) := I.stack
  have hin : ∀ env ∈ (envOfC qual scope s₀.heap.objs.size f cd :: outer), ∀ b, env.frame = some b → b ∈ frs (envOfC qual scope s₀.heap.objs.size f cd :: outer) := fun env he b hb => List.mem_filterMap.mpr ⟨env, he, hb⟩
  have hide := PySem.W.funFrames_hide hst hin
  refine wpAny_leaves_madeW (base := PySem.W.hideAll s.heap (frs (envOfC qual scope s₀.heap.objs.size f cd :: outer))) (s := { s with heap := h' }) I.ok.frames rfl (fun b o z => PySem.W.of_hideAll _ z) hide hx fun h'' t fl _ _ up => ?_
  have kB : ∀ b o, s.heap.get? b = some o → b ∉ frs (envOfC qual scope s₀.heap.objs.size f cd :: outer) → (PySem.W.hideAll s.heap (frs (envOfC qual scope s₀.heap.objs.size f cd :: outer))).get? b = some o := fun b o z n => PySem.W.hideAll_get _ z n
  have ub : Un (frs outer) [] H₀ H s₀.heap s.heap := I.base
  have bsx : ∀ b o, s₀.heap.get? b = some o → H₀ b = none → b ∉ frs outer → s.heap.get? b = some o := fun b o z n hm => ub.keep b o z n hm (by simp)
  refine CX1.step (s' := s) (h := s.heap) I.os I.bare fl (fun b o z nf => up b o (hx.keeps b o z) nf) (fun b o z => PySem.W.of_hideAll _ z) I.ok.frf (fun b hb o z => ?_) (fun b o z n hm => kB b o (bsx b o z n hm) (env_not z hm)) (fun b o z hm => ?_) (fun b o z => ?_) ub I.hok q
  · obtain ⟨_, o', e1, e2⟩ := hst.mem (b := b) (List.mem_cons_of_mem _ hb)
    rw [z] at e1
    cases e1
    exact e2
  · obtain ⟨o', e1⟩ := ub.there b o z (by simp)
    exact ⟨o', kB b o' e1 (env_not z hm)⟩
  · obtain ⟨u, e1⟩ := (I.hok b o z).there
    refine ⟨u, kB b u e1 fun hm => ?_⟩
    have := I.stkFree b hm
    rw [z] at this
    cases this
theorem cx_pass : Passes (CX1 P w) (cxOf (CX1 P w) P w K mg base N qual scope f cd A outer s₀ H₀ E) E := by
  intro pins σ H s e s' I h
  obtain ⟨ea, C, a0, H', B, rfl, ho, hb, fl, k1, k2, k3, u, hok, q⟩ := h
  have ub : Un (frs outer) [] H₀ H s₀.heap s.heap := I.base
  have fl : Heap.FlyingW B (envOfC qual scope s₀.heap.objs.size f cd :: outer) ea (.ref C) a0 s'.heap := fl
  have u : Un (frs (envOfC qual scope s₀.heap.objs.size f cd :: outer)) [] H H' s.heap s'.heap := u
  have J := I.call' ho u hok hb (ch := []) (fun b hb => by simp at hb)
  have uj : Un (frs outer) [] H₀ H' s₀.heap s'.heap := J.base
  have ofr : ∀ b ∈ frs outer, b ∈ frs (envOfC qual scope s₀.heap.objs.size f cd :: outer) := fun b hb => List.mem_cons_of_mem _ hb
  refine wpAny_leaves_onW I.ok.frames rfl fl fun h' fl' up => ?_
  refine CX1.step (s' := s') (h := s'.heap) (ho.trans I.os) hb fl' up fl.1 I.ok.frf (fun b hb o z => ?_) (fun b o z n hm => k1 b o (ub.keep b o z n hm (by simp)) (ub.free b o z n (by simp)) (env_not z hm)) (fun b o z hm => ?_) k3 uj hok q
  · obtain ⟨_, o', e1, e2⟩ := fl.2.2.1.mem (b := b) (ofr b hb)
    rw [z] at e1
    cases e1
    exact e2
  · obtain ⟨o', e1⟩ := ub.there b o z (by simp)
    exact k2 b o' e1 (env_not z hm)
end
theorem Fun.okX {P : Program} {w : World} {K : PySem.W.Frag} {mg : Str → Option Value} {base : Heap} {x qual : Str} {st : Stmt} {f : Addr} {fd : FuncData} {N ps : List Str} {k : Nat} {sp : Sp} (F : Fun K x qual st f fd) (S : FnScope N ps (defScope st)) (len : ∀ vs H Q E, sp vs H Q E → vs.length = ps.length)
    (hbody : ∀ (cdv : Value) (A : Around) (outer : List Env) (s : Shared) (H : Hp) (vs : List V) (Q : VK) (E : XK), Room k (A.deeper (envOfC qual (defScope st) s.heap.objs.size f cdv)) → sp vs H Q E →
      ∃ t, PSs (cxOf (CX1 P w) P w K mg base N qual (defScope st) f cdv A outer s H E) (defBody st) t ∧ t { nx := fun _ H' => Q .non H', rt := Q } (start N vs) H) : FnOk P w K mg base (CX1 P w) (k + 1) f fd ps sp := by
  obtain ⟨oc, od, kV, doc, pm, an, cdv, ct, osl, rfl, lk, hcd⟩ := F.ex
  exact fn_of lk hcd S len fun A outer s H vs Q E hr hsp => hbody cdv A outer s H vs Q E hr hsp
end L2

namespace L2
open PySem PySem.Spec PyProof.Rows
def tFmtI (tv : TE) : TE := fun σ H Q => tv σ H fun x H1 => ∃ i : Int, x = .int i ∧ i.natAbs.log2 < 1920 ∧ Q (.str (toString i)) H1
abbrev TJ := St → Hp → Str → (Str → Hp → Prop) → Prop
def PJ (X : Cx) (es : List Expr) (t : TJ) : Prop :=
  ∀ (pins : List (Addr × Obj)) (s : Shared) (σ : St) (H : Hp) (out : Str) (Q : Str → Hp → Prop), Inv X pins σ H s → t σ H out Q →
    wpAny (model X.prog X.w) X.A (joinParts out (evalEach es X.env)) (EP X pins σ fun v H' => ∃ z, v = .str z ∧ Q z H') X.xe s
def tjNil : TJ := fun _ H out Q => out.length ≤ sizeLine ∧ Q out H
def tjCons (te : TE) (tr : TJ) : TJ := fun σ H out Q => te σ H fun x H1 => ∃ y, x = .str y ∧ (out ++ y).length ≤ sizeLine ∧ tr σ H1 (out ++ y) Q
def tFstr (t : TJ) : TE := fun σ H Q => t σ H Str.empty fun z H1 => Q (.str z) H1
section
variable {X : Cx} {e e2 : Expr} {es : List Expr} {te tv : TE} {t : TJ} {pos : Pos}
theorem pe_fmtI (hv : PE X e tv) : PE X (.FormattedValue e (-1) none pos) (tFmtI tv) := by
  intro pins s σ H Q I h
  refine FormattedValue_plain (thn (hv pins s σ H _ I h) fun v s1 ⟨x, H1, I1, r1, i, ei, hi, q⟩ => ?_)
  subst ei
  obtain ⟨tk, rfl⟩ := (show ∃ tk, v = Value.int i tk from r1)
  exact formatField_int_small hi ⟨.str (toString i), H1, I1.tok _, ⟨_, rfl⟩, q⟩
theorem pj_nil : PJ X [] tjNil := fun pins s σ H out Q I h => joinParts_nil ⟨.str out, H, I.tok _, ⟨_, rfl⟩, out, rfl, h.2⟩ h.1
theorem pj_cons (he : PE X e te) (hr : PJ X es t) (hs : evalEach (e :: es) X.env = eval e X.env :: evalEach es X.env := by rfl) : PJ X (e :: es) (tjCons te t) := by
  intro pins s σ H out Q I h
  rw [hs]
  refine joinParts_cons (thn (he pins s σ H _ I h) fun v s1 ⟨x, H1, I1, r1, y, ey, hz, q⟩ => ?_)
  subst ey
  obtain ⟨tk, rfl⟩ := (show ∃ tk, v = Value.str y tk from r1)
  exact ⟨hz, hr pins s1 σ H1 _ Q I1 q⟩
theorem pe_fstr (h : PJ X (e :: e2 :: es) t) (hs : evalEach (e :: e2 :: es) X.env = eval e X.env :: eval e2 X.env :: evalEach es X.env := by rfl) : PE X (.JoinedStr (e :: e2 :: es) pos) (tFstr t) := by
  intro pins s σ H Q I q
  refine JoinedStr_many ?_
  rw [← hs]
  refine thn (h pins s σ H Str.empty _ I q) fun v s1 ⟨x, H1, I1, r1, z, ez, q1⟩ => ?_
  subst ez
  exact ⟨_, H1, I1, r1, q1⟩
end
abbrev bmVE : List Value := [.type "ValueError", .type "Exception", .type "BaseException", .type "object"]
theorem exc_obj {K : PySem.W.Frag} {h : Heap} {C : Addr} {bmB : List Value} {newId : String} (KX : K.In h) (hq : PySem.W.excIn K C bmB newId = true) :
    ∃ (tl : List Value) (Nn : Addr) (n1 n2 : Str) (bs : List Value) (b1 : Bool) (sn : List Str) (sub : List Value) (b2 : Bool) (col : Option Bool) (dd : Option Addr) (j0 j1 j2 j3 j5 : Option Value) (mN : Str → Option Value),
      h.get? C = some (excClassObj n1 n2 C Nn bs tl b1 sn sub b2 col dd j0 j1 j2 j3 j5 newId) ∧ h.Ns Nn mN ∧ mN "__init__" = none ∧ OwnTail h bmB tl := by
  unfold PySem.W.excIn at hq
  split at hq
  case h_2 => cases hq
  case h_1 dd cdat slots look =>
    split at hq
    case h_2 => cases hq
    case h_1 C2 tl j0 j1 j2 j3 idn j5 emro eslots =>
      simp only [Bool.and_eq_true, beq_iff_eq, Bool.not_eq_true'] at hq
      obtain ⟨⟨⟨⟨⟨z1, z2⟩, z3⟩, z4⟩, z5⟩, z6⟩ := hq
      subst z1
      subst z2
      obtain ⟨n1, bs, mr, nsa, n2, b1, sn, sub, b2, col, b3⟩ := cdat
      have z3' : b3 = false := z3
      have em : mr = .ref C2 :: tl := emro
      subst z3'
      subst em
      have es : slots = #[j0, j1, j2, j3, some (.builtin idn), j5] := by
        cases slots with
        | mk l =>
          have : l = [j0, j1, j2, j3, some (.builtin idn), j5] := eslots
          rw [this]
      subst es
      refine ⟨tl, nsa, n1, n2, bs, b1, sn, sub, b2, col, dd, j0, j1, j2, j3, j5, h.nsMap nsa, KX _ _ look, ?_⟩
      exact ⟨.of_isNs (PySem.W.isNs_of_in KX z5), PySem.W.nsMap_none_of_in KX z5 z6, PySem.W.tail_of_in KX z4⟩
structure Exc (K : PySem.W.Frag) (mg : Str → Option Value) (x : Str) (C : Addr) : Prop where
  at_ : mg x = some (.ref C)
  ex : PySem.W.excIn K C bmVE "ValueError.__new__" = true
def tRaise (C : Addr) (E : XK) (t : TA) : TS := fun _ σ H => t σ H fun vs H1 => vs.length ≤ sizeLine ∧ E (.ref C) none H1
theorem ps_raise {P : Program} {w : World} {K : PySem.W.Frag} {mg : Str → Option Value} {base : Heap} {N : List Str} {qual : Str} {scope : Scope} {f : Addr} {cd : Value} {A : Around} {outer : List Env} {s₀ : Shared} {H₀ : Hp} {E : XK}
    {x : Str} {C : Addr} {np cpos pos : Pos} {e : Expr} {es : List Expr} {t : TA} (hC : Exc K mg x C) (hg : Gl (cxOf (CX1 P w) P w K mg base N qual scope f cd A outer s₀ H₀ E) x) (ha : PA (cxOf (CX1 P w) P w K mg base N qual scope f cd A outer s₀ H₀ E) (e :: es) t)
    (hdb : (x == ("__debug__" : Str)) = false := by decide)
    (he : starEach (e :: es) (envOfC qual scope s₀.heap.objs.size f cd) = (false, eval e (envOfC qual scope s₀.heap.objs.size f cd)) :: starEach es (envOfC qual scope s₀.heap.objs.size f cd) := by rfl)
    (hpl : (backTo cpos (starEach es (envOfC qual scope s₀.heap.objs.size f cd))).any (·.1) = false := by rfl) :
    PS (cxOf (CX1 P w) P w K mg base N qual scope f cd A outer s₀ H₀ E) (.Raise (some (.Call (.Name x np) (e :: es) [] cpos)) none pos) (tRaise C E t) := by
  intro pins s σ H D I h
  obtain ⟨tl, Nn, n1, n2, bs, b1, sn, sub, b2, col, dd, j0, j1, j2, j3, j5, mN, o1, o2, o3, o4⟩ := exc_obj I.ok.mod.kin hC.ex
  refine wpAny_Raise_call_subT (C := C) (nm := n1) (q := n2) (N := Nn) (bs := bs) (bm := tl) (hdct := b1) (sn := sn) (sub := sub) (ab := b2) (col := col) (dd := dd) (k0 := j0) (k1 := j1) (k2 := j2) (k3 := j3) (k5 := j5) PySem.F.excBase_ValueError
    (mN := mN) (o4.hasType PySem.F.excBase_ValueError.hasBase) (I.ok.hd rfl) (by
      show (backTo cpos (starEach (e :: es) (envOfC qual scope s₀.heap.objs.size f cd))).any (·.1) = false
      rw [he]
      show (false || (backTo cpos (starEach es (envOfC qual scope s₀.heap.objs.size f cd))).any (·.1)) = false
      rw [hpl]
      rfl) o3 (ld_glob I hg hC.at_ ⟨rfl, ?_⟩ hdb)
  have hp := ha cpos pins s σ H _ I h
  have hp2 : wpAny (model P w) (A.deeper (envOfC qual scope s₀.heap.objs.size f cd)) (spliced (backTo cpos (starEach (e :: es) (envOfC qual scope s₀.heap.objs.size f cd)))) _ _ s := hp
  show wpAny (model P w) (A.deeper (envOfC qual scope s₀.heap.objs.size f cd)) (evalArgs (.ref C) true (backTo cpos (starEach (e :: es) (envOfC qual scope s₀.heap.objs.size f cd))) []) _ _ s
  rw [he] at hp2 ⊢
  refine Calls.evalArgs_plain (thn hp2 fun us s2 z => ?_)
  obtain ⟨vs, H1, I1, rv, hz, q⟩ := z
  refine ⟨rfl, by rw [← rv.length]; exact hz, I1.bk _ _ o1, o2.keeps I1.bk, o4.keeps I1.bk, fun h' ea hx => cx_raise I1 hx q⟩
end L2

namespace L2
open PySem PySem.Spec PyProof.Rows
def excO (ea C : Addr) : HO := .ext fun h => ∃ o vs, h.get? ea = some o ∧ o.cls = .ref C ∧ o.data = .fields vs
structure ExcK (K : PySem.W.Frag) (C : Addr) : Prop where
  ga : PySem.W.findIn K (.ref C) "__getattribute__" = some (some (.builtin "BaseException.__getattribute__"))
  cl : PySem.W.findIn K (.ref C) "__class__" = some (some (.builtin "object.__class__"))
  ob : PySem.W.mroIn K C (.type "object") = some true
  be : PySem.W.mroIn K C (.type "BaseException") = some true
  isc : (PySem.W.clsIn K C).isSome = true
  gh : PySem.W.findIn K (.ref C) "__getattr__" = some none
section
variable {prog : Program} {w : World} {A : Around} {E : Value → Shared → Prop} {K : PySem.W.Frag} {x C : Addr} {h : Heap} {g : Array GenState} {d : Drawn} {t : Nat} {os : OsState}
open PySem.W PySem.Calls Builtin Builtin.ObjectAttr Builtin.Getset_descriptor in
theorem xc_get {R : Result → Shared → Prop} {tp : Value} (KX : K.In h) (L0 : Looks (model prog w) h (typeOf (.ref x)) (.ref C)) (hm : mroIn K C (.type "object") = some true)
    (hR : R (.ok (.ret (.ref C))) ⟨h, g, d, t, os⟩) : codeAny (model prog w) A (.call (.builtin "getset_descriptor.__get__") ⟨[.builtin "object.__class__", .ref x, tp], []⟩) R ⟨h, g, d, t, os⟩ := by
  have L1 := looks_mroIn (M := model prog w) KX hm
  refine codeAny_call_builtin KF.slot_gs.plain
    KF.entry_gs (KF.slot_gs.check _ _ _ _ _ _ _ _
      KF.type_class (KF.args_gs _ _ _) ?_)
  unfold Builtin.«getset_descriptor.__get__»
  unfold descrGet
  rw [dga_obj]
  refine wpAny_bind (wpAny_pure ?_)
  unfold descrGetter descrCheckInstance
  unfold descrNameAndClass isInstance
  simp only [KF.owner_class]
  repeat lk
  refine ⟨Code.quiet_builtin _ (by decide +kernel),
    codeAny_builtin KF.entry_class ?_⟩
  unfold Builtin.«object.__class__»
  unfold shownTypeOf
  repeat lk
  exact hR
open PySem.W PySem.Calls in
theorem xc_entry {tk : Tok} {Q : PySem.Fin → Shared → Prop} (KX : K.In h) (L0 : Looks (model prog w) h (typeOf (.ref x)) (.ref C)) (X : ExcK K C) (hq : Q (.done (.ret (.ref C))) ⟨h, g, d, t, os⟩) :
    wpAny (model prog w) A (Builtin.«object.__getattribute__» ⟨[.ref x, .str "__class__" tk], []⟩) Q E ⟨h, g, d, t, os⟩ := by
  have L4 := looks_findIn (M := model prog w) KX X.cl
  have hT5 : (⟨h, g, d, t, os⟩ : Shared).TypeIs (.builtin "object.__class__") "getset_descriptor" := F.typeOf_object_class
  have g5 := F.typeOf_object_class
  have g6 := F.slot_gs_get.lookup
  have g7 := F.slot_gs_set.lookup
  repeat (any_goals (first
    | assumption
    | with_reducible refine L0.at ?_
    | with_reducible refine L4.at ?_
    | wp_step))
  refine xc_get KX L0 X.ob ?_
  repeat (any_goals (first | assumption | wp_step))
open PySem.W PySem.Calls in
theorem xc_call {tk : Tok} {R : Result → Shared → Prop} (KX : K.In h) (L0 : Looks (model prog w) h (typeOf (.ref x)) (.ref C)) (X : ExcK K C) (hR : R (.ok (.ret (.ref C))) ⟨h, g, d, t, os⟩) :
    codeAny (model prog w) A (.call (.builtin "BaseException.__getattribute__") ⟨[.ref x, .str "__class__" tk], []⟩) R ⟨h, g, d, t, os⟩ := by
  have L5 := looks_mroIn (M := model prog w) KX X.be
  refine codeAny_call_builtin F.attrBase_ValueError.ga.plain F.entry_bexc_ga ?_
  have hk : builtinKind "BaseException.__getattribute__" = some .slot := by decide +kernel
  have hsp : splitId "BaseException.__getattribute__" = some ("BaseException", "__getattribute__") := by decide +kernel
  have ha := F.args_bexc_ga (.ref x) (.str "__class__" tk)
  simp only [checkBuiltinCall, hk, hsp]
  refine wpAny_bind ?_
  refine wpAny_bind ?_
  refine L0.at ?_
  refine L5.at ?_
  rw [if_neg (by decide)]
  unfold argsOk at ha
  generalize Manifest.signature? "BaseException.__getattribute__" = sg at ha ⊢
  refine Eq.subst (motive := fun m => wpAny (model prog w) A.in1 m _ _ _) (a := pure ()) ?_ (wpAny_pure ?_)
  · cases sg with
    | none => rfl
    | some sig => exact ha.symm
  refine xc_entry KX L0 X ?_
  exact hR
open PySem.W PySem.Calls in
theorem xc_by {tk : Tok} {fill expr : Bool} {Q : Value → Shared → Prop} (KX : K.In h) (L0 : Looks (model prog w) h (typeOf (.ref x)) (.ref C)) (X : ExcK K C) (hq : Q (.ref C) ⟨h, g, d, t, os⟩) :
    wpAny (model prog w) A (getAttrBy (.ref x) (.str "__class__" tk) fill expr) Q E ⟨h, g, d, t, os⟩ := by
  have L6 := looks_findIn (M := model prog w) KX X.ga
  have L7 := looks_findIn (M := model prog w) KX X.gh
  have f3 := F.attrBase_ValueError.ga.bind (.ref x)
  have y0 : (expr && onTheHeap (Value.builtin "BaseException.__getattribute__")) = false := by cases expr <;> rfl
  have y2 : (Value.builtin "BaseException.__getattribute__" == Value.builtin "object.__getattribute__") = false := by decide +kernel
  have y1 : (onTheHeap (Value.ref C) && Value.builtin "BaseException.__getattribute__" == Value.builtin "object.__getattribute__") = false := by rw [y2]; rfl
  repeat (any_goals (first
    | assumption
    | with_reducible refine L0.at ?_
    | with_reducible refine L6.at ?_
    | with_reducible refine L7.at ?_
    | wp_step))
  refine xc_call KX L0 X ?_
  repeat (any_goals (first | assumption | wp_step))
open PySem.W PySem.Calls in
theorem xc_attr {Q : Option Value → Shared → Prop} {s : Shared} (KX : K.In s.heap) (L0 : Looks (model prog w) s.heap (typeOf (.ref x)) (.ref C)) (X : ExcK K C) (hq : Q (some (.ref C)) { s with toks := s.toks + 1 }) :
    wpAny (model prog w) A (getAttr? (.ref x) "__class__") Q E s := by
  obtain ⟨h, g, d, t, os⟩ := s
  unfold getAttr? getAttrBy?
  refine wpAny_bind (wpAny_mkText (wpAny_bind (wpAny_attempt ?_)))
  exact xc_by KX L0 X (wpAny_pure hq)
end
end L2
namespace L2
open PySem PySem.Spec PyProof.Rows
theorem xc_kit {K : PySem.W.Frag} {ea C : Addr} (X : ExcK K C) : PySem.W.KitX K (.ref ea) (.ref C) (fun h => ∃ o vs, h.get? ea = some o ∧ o.cls = .ref C ∧ o.data = .fields vs) where
  ty := fun M h _ ⟨o, vs, e, hc, hd⟩ => by
    intro A' Q' E' s' k q
    unfold typeOf
    refine wpAny_bind (wpAny_loadPart (k _ _ e) ?_)
    rw [← hc] at q
    exact wpAny_pure q
  it := fun M h KX _ => by
    obtain ⟨cd, hc⟩ := Option.isSome_iff_exists.mp X.isc
    unfold PySem.W.clsIn at hc
    split at hc
    · rename_i a1 a2 a3 a4 look
      intro A' Q' E' s' k q
      unfold isType loadHead
      exact wpAny_bind (wpAny_loadPart (k _ _
        (KX _ _ look)) (wpAny_pure q))
    · cases hc
  ne := fun h tp dd its n sl KX htp => by
    obtain ⟨cd, hc⟩ := Option.isSome_iff_exists.mp X.isc
    refine Bool.eq_false_iff.mpr fun q => ?_
    have e : C = tp := Value.ref.inj (beq_iff_eq.mp q)
    subst e
    unfold PySem.W.clsIn at hc
    split at hc
    · rename_i a1 a2 a3 a4 look
      have y := (KX _ _ look).symm.trans htp
      cases y
    · cases hc
  ca := fun {prog w A E Q s} KX ⟨o, vs, e, hc, hd⟩ hq => by
    refine xc_attr KX ?_ X hq
    intro A' Q' E' s' k q
    unfold typeOf
    refine wpAny_bind (wpAny_loadPart (k _ _ e) ?_)
    rw [← hc] at q
    exact wpAny_pure q
theorem call_isexc {X : Cx} : CallR X (.builtin "isinstance") (fun xs H Q => ∃ ea C c cv b, xs = [.ref ea, c] ∧ H ea = some (excO ea C) ∧ ExcK X.K C ∧ RelV c cv ∧ ((∃ n, c = .ty n) ∨ ∃ a, c = .ref a) ∧ PySem.W.kitOne X.K (.ref C) cv = some b ∧ Q (.bl b) H) := by
  intro pins s σ H xs us Q I r h
  obtain ⟨ea, C, c, cv, b, rfl, hH, hX, rc, hcf, e, q⟩ := h
  obtain ⟨u, w', rfl, rx, rw'⟩ := vals2 r
  cases rx
  have ew : w' = cv := by
    rcases hcf with ⟨n, rfl⟩ | ⟨a, rfl⟩
    · exact (show w' = Value.type n from rw').trans (show cv = Value.type n from rc).symm
    · exact (show w' = Value.ref a from rw').trans (show cv = Value.ref a from rc).symm
  subst ew
  obtain ⟨p, _⟩ := (show ObjOk X.prog X.w H s.heap ea (excO ea C) from I.hok ea _ hH)
  exact PySem.W.kia_one (xc_kit hX) I.kIn p e (fun z => nomatch z) fun tk => ⟨.bl b, H, I.tok _, rfl, q⟩
end L2

namespace L2
open PySem PySem.Spec PyProof.Rows
def Prot (X : Cx) (pins : List (Addr × Obj)) (H : Hp) (b : Addr) : Prop :=
  b = X.env.locals ∨ (∃ x, X.env.cells.lookup x = some b) ∨ (∃ p ∈ X.pn ++ pins, p.1 = b) ∨ (∃ o, H b = some o) ∨ ∃ o, X.s₀.heap.get? b = some o ∧ b ∉ X.ex
structure Fly (X : Cx) (pins : List (Addr × Obj)) (σ : St) (H : Hp) (B : Heap) (ea C : Addr) (a0 : Value) (s : Shared) : Prop where
  inv : Inv X pins σ H s
  fl : Heap.FlyingW B X.stack ea (.ref C) a0 s.heap
  kn : ∀ b, Prot X pins H b → b ∉ frs X.stack → ∃ o, B.get? b = some o
section
variable {X : Cx} {pins : List (Addr × Obj)} {σ : St} {H : Hp} {s : Shared} {B h' : Heap} {ea C a : Addr} {a0 : Value} {o : HO}
theorem Inv.flew {t' : Nat} (I : Inv X pins σ H s) (st : B.StaysIn s.heap) (st' : B.StaysIn h') (up : s.heap.UpToSlots h') (kn : ∀ b, Prot X pins H b → b ∉ frs X.stack → ∃ o, B.get? b = some o) :
    Inv X pins σ H { s with heap := h', toks := t' } := by
  have got : ∀ b o, Prot X pins H b → b ∉ frs X.stack → s.heap.get? b = some o → h'.get? b = some o := fun b o hp hf e => by
    obtain ⟨o', q⟩ := kn b hp hf
    have q2 := st b o' q
    rw [e] at q2
    cases q2
    exact st' b _ q
  have slot : ∀ b o, b ∈ frs X.stack → s.heap.get? b = some o → ∃ sl, h'.get? b = some { o with slots := sl } := fun b o hb e => by
    obtain ⟨_, o', e1, e2⟩ := I.stack.mem hb
    rw [e] at e1
    cases e1
    exact up b o e e2
  have any : ∀ b o, Prot X pins H b → s.heap.get? b = some o → ∃ sl, h'.get? b = some { o with slots := sl } := fun b o hp e => by
    by_cases hf : b ∈ frs X.stack
    · exact slot b o hf e
    · exact ⟨o.slots, got b o hp hf e⟩
  have neL : ∀ b o, X.s₀.heap.get? b = some o → b ≠ X.env.locals := fun b o e => Nat.ne_of_lt (Nat.lt_of_lt_of_le (Heap.lt_size e) I.ok.above)
  have nst : ∀ b, b ≠ X.env.locals → b ∉ X.fs → b ∉ frs X.stack := fun b hL hb z => (List.mem_cons.mp (I.stkSub b z)).elim hL hb
  have cellK : ∀ x c, X.env.cells.lookup x = some c → ∀ v, s.heap.IsCell c v → h'.IsCell c v := fun x c e v ⟨o, ho, hd⟩ => by
    obtain ⟨sl, q⟩ := any c o (.inr (.inl ⟨x, e⟩)) ho
    exact ⟨_, q, hd⟩
  refine ⟨I.ok, I.os, I.bare, ⟨fun b o e n hb hx => ?_, fun b o e n hb hx => ?_, I.base.free, fun b o e hx => ?_, I.base.tups, I.base.frzs, I.base.tbls⟩, ?_, fun x c e => ?_, I.free, I.freeC, fun p hp => ?_, ?_, I.len⟩
  · exact got b o (.inr (.inr (.inr (.inr ⟨o, e, hx⟩)))) (nst b (neL b o e) hb) (I.base.keep b o e n hb hx)
  · obtain ⟨sl, e1⟩ := I.base.slot b o e n hb hx
    obtain ⟨sl', e2⟩ := any b _ (.inr (.inr (.inr (.inr ⟨o, e, hx⟩)))) e1
    exact ⟨sl', e2⟩
  · obtain ⟨o', e1⟩ := I.base.there b o e hx
    obtain ⟨sl', e2⟩ := any b _ (.inr (.inr (.inr (.inr ⟨o, e, hx⟩)))) e1
    exact ⟨_, e2⟩
  · obtain ⟨m, ⟨o, es, ep, ho, r⟩, hl⟩ := I.loc
    obtain ⟨sl, q⟩ := any _ o (.inl rfl) ho
    refine ⟨m, ⟨_, es, ep, q, r⟩, fun i x v e1 e2 e3 => ?_⟩
    obtain ⟨u, r, l⟩ := hl i x v e1 e2 e3
    refine ⟨u, r, ?_⟩
    rcases l with l | ⟨k, c, e, z⟩
    · exact .inl l
    · exact .inr ⟨k, c, e, cellK x c e _ z⟩
  · obtain ⟨v, z⟩ := I.cell x c e
    exact ⟨v, cellK x c e v z⟩
  · obtain ⟨e, n, ne, nf, d⟩ := I.pin p hp
    exact ⟨got p.1 p.2 (.inr (.inr (.inl ⟨p, hp, rfl⟩))) (nst p.1 ne nf) e, n, ne, nf, d⟩
  · refine I.hok.moved fun b o u e q => got b u (.inr (.inr (.inr (.inl ⟨o, e⟩)))) (fun z => ?_) q
    have := I.stkFree b z
    rw [e] at this
    cases this
theorem Fly.turn {t' : Nat} (F : Fly X pins σ H B ea C a0 s) (fl : Heap.FlyingW B X.stack ea (.ref C) a0 h') (up : s.heap.UpToSlots h') : Fly X pins σ H B ea C a0 { s with heap := h', toks := t' } :=
  ⟨F.inv.flew F.fl.1 fl.1 up F.kn, fl, F.kn⟩
theorem Fly.obj (F : Fly X pins σ H B ea C a0 s) : ∃ o vs, s.heap.get? ea = some o ∧ o.cls = .ref C ∧ o.data = .fields vs := by
  obtain ⟨oe, vs, T, oT, ts, e1, e2, e3, _⟩ := F.fl.2.2.2
  exact ⟨oe, vs, e1, e2.1, e3⟩
theorem Fly.notp (F : Fly X pins σ H B ea C a0 s) : ¬ Prot X pins H ea := fun hp => by
  obtain ⟨o, vs, e1, _, e3⟩ := F.obj
  have hf : ea ∉ frs X.stack := fun z => by
    obtain ⟨_, o', q1, q2⟩ := F.inv.stack.mem z
    rw [e1] at q1
    cases q1
    exact q2 _ e3
  obtain ⟨o', q⟩ := F.kn ea hp hf
  rw [F.fl.2.1] at q
  cases q
theorem Inv.track (I : Inv X pins σ H s) (np : ¬ Prot X pins H a) (new : ObjOk X.prog X.w (upd H a o) s.heap a o) : Inv X pins σ (upd H a o) s := by
  have hn : H a = none := by
    cases q : H a with
    | none => rfl
    | some u => exact absurd (.inr (.inr (.inr (.inl ⟨u, q⟩)))) np
  refine ⟨I.ok, I.os, I.bare, ⟨I.base.keep, I.base.slot, fun b ob e n hx => ?_, I.base.there, fun b xs e => ?_, fun b ob xs e => ?_, fun b ps e => ?_⟩, I.loc, I.cell, ?_, fun x c e => ?_, fun p hp => ?_, fun b ob e => ?_, I.len⟩
  · rw [upd_ne (fun z : b = a => np (.inr (.inr (.inr (.inr ⟨ob, z ▸ e, z ▸ hx⟩)))))]
    exact I.base.free b ob e n hx
  · have q := I.base.tups b xs e
    rw [upd_ne (ne_of_none q hn)]
    exact q
  · have q := I.base.frzs b ob xs e
    rw [upd_ne (ne_of_none q hn)]
    exact q
  · obtain ⟨more, q⟩ := I.base.tbls b ps e
    exact ⟨more, by rw [upd_ne (ne_of_none q hn)]; exact q⟩
  · rw [upd_ne (fun z => np (.inl z.symm))]
    exact I.free
  · rw [upd_ne (fun z : c = a => np (.inr (.inl ⟨x, z ▸ e⟩)))]
    exact I.freeC x c e
  · obtain ⟨q1, q2, q3⟩ := I.pin p hp
    exact ⟨q1, by rw [upd_ne (fun z : p.1 = a => np (.inr (.inr (.inl ⟨p, hp, z⟩))))]; exact q2, q3⟩
  · by_cases hb : b = a
    · subst hb
      rw [upd_same] at e
      cases e
      exact new
    · rw [upd_ne hb] at e
      exact (I.hok b ob e).stay (fun _ _ _ z => z) (fun c z => by rw [upd_ne (ne_of_none z hn)]; exact z) fun c xs z => by rw [upd_ne (ne_of_none z hn)]; exact z
end
def tryCx (X : Cx) (pins : List (Addr × Obj)) (T : St → Addr → Hp → Prop) : Cx :=
  { X with pn := X.pn ++ pins, xe := fun e s' => ∃ ea C a0 B σ' H', e = .ref ea ∧ Fly X pins σ' H' B ea C a0 s' ∧ T σ' C H' }
def hdCx (X : Cx) (pins : List (Addr × Obj)) (ea : Addr) : Cx :=
  { X with A := X.A.mark (some (.ref ea)), calm := false, pn := X.pn ++ pins, xe := fun _ _ => False }
section
variable {X : Cx} {pins pins2 : List (Addr × Obj)} {σ : St} {H : Hp} {s : Shared} {T : St → Addr → Hp → Prop} {ea : Addr}
theorem Inv.toTry (I : Inv X pins σ H s) : Inv (tryCx X pins T) [] σ H s :=
  ⟨⟨I.ok.mod, I.ok.kind, I.ok.glob, I.ok.blt, I.ok.above, I.ok.inj, I.ok.has, I.ok.cab, I.ok.hd, I.ok.frames, I.ok.stk, I.ok.exf, I.ok.bs, I.ok.bsz, I.ok.noex, I.ok.exfs, I.ok.funs, I.ok.frf⟩,
   I.os, I.bare, I.base, I.loc, I.cell, I.free, I.freeC, fun p hp => I.pin p (by simpa [tryCx] using hp), I.hok, I.len⟩
theorem Inv.ofTry (I : Inv (tryCx X pins T) pins2 σ H s) : Inv X pins σ H s :=
  ⟨⟨I.ok.mod, I.ok.kind, I.ok.glob, I.ok.blt, I.ok.above, I.ok.inj, I.ok.has, I.ok.cab, I.ok.hd, I.ok.frames, I.ok.stk, I.ok.exf, I.ok.bs, I.ok.bsz, I.ok.noex, I.ok.exfs, I.ok.funs, I.ok.frf⟩,
   I.os, I.bare, I.base, I.loc, I.cell, I.free, I.freeC, fun p hp => I.pin p (List.mem_append_left _ hp), I.hok, I.len⟩
theorem Inv.toHd (I : Inv X pins σ H s) : Inv (hdCx X pins ea) [] σ H s :=
  ⟨⟨I.ok.mod, I.ok.kind, I.ok.glob, I.ok.blt, I.ok.above, I.ok.inj, I.ok.has, I.ok.cab, (fun z => nomatch z), I.ok.frames, I.ok.stk, I.ok.exf, I.ok.bs, I.ok.bsz, I.ok.noex, I.ok.exfs, I.ok.funs, I.ok.frf⟩,
   I.os, I.bare, I.base, I.loc, I.cell, I.free, I.freeC, fun p hp => I.pin p (by simpa [hdCx] using hp), I.hok, I.len⟩
theorem Inv.ofHd (ok : X.Ok) (I : Inv (hdCx X pins ea) pins2 σ H s) : Inv X pins σ H s :=
  ⟨ok, I.os, I.bare, I.base, I.loc, I.cell, I.free, I.freeC, fun p hp => I.pin p (List.mem_append_left _ hp), I.hok, I.len⟩
end
def PassesS (CX : CXT) (X : Cx) (E : St → XK) : Prop := ∀ (pins : List (Addr × Obj)) (σ : St) (H : Hp) (s : Shared) (e : Value) (s' : Shared), Inv X pins σ H s → CX X.stack H s (E σ) e s' → X.xe e s'
def ET (T : St → Addr → Hp → Prop) : St → XK := fun σ c _ H => ∃ C, c = .ref C ∧ T σ C H
theorem try_pass {X : Cx} {pins : List (Addr × Obj)} {T : St → Addr → Hp → Prop} : PassesS (CX1 X.prog X.w) (tryCx X pins T) (ET T) := by
  intro pins2 σ H s e s' I0 h
  have I := I0.ofTry
  obtain ⟨ea, C, a0, H', B, rfl, ho, hb, fl, k1, k2, k3, u, hok, C2, eC, q⟩ := h
  cases eC
  have fl : Heap.FlyingW B X.stack ea (.ref C) a0 s'.heap := fl
  have u : Un (frs X.stack) [] H H' s.heap s'.heap := u
  have k2 : ∀ b o, s.heap.get? b = some o → b ∉ frs X.stack → ∃ o', B.get? b = some o' := k2
  refine ⟨ea, C, a0, B, σ, H', rfl, ⟨I.call' ho u hok hb (ch := []) (fun b hb => by simp at hb), fl, fun b hp hf => ?_⟩, q⟩
  rcases hp with z | ⟨x, z⟩ | ⟨p, hp, z⟩ | ⟨o, z⟩ | ⟨o, z, hx⟩
  · obtain ⟨m, ⟨o, _, _, e, _⟩, _⟩ := I.loc
    rw [z] at hf ⊢
    exact k2 _ o e hf
  · obtain ⟨v, o, e, _⟩ := I.cell x b z
    exact k2 _ o e hf
  · rw [← z] at hf ⊢
    exact k2 _ _ (I.pin p hp).1 hf
  · exact k3 b o z
  · obtain ⟨o', e⟩ := I.base.there b o z hx
    exact k2 b o' e hf
def Ends.unset (D : Ends) (i : Nat) : Ends := { nx := fun σ H => D.nx (σ.set i none) H, rt := D.rt, bk := fun σ H => D.bk (σ.set i none) H, ct := fun σ H => D.ct (σ.set i none) H }
theorem name_goes {X : Cx} {pins : List (Addr × Obj)} {σ : St} {H : Hp} {s : Shared} {M : Model} {A : Around} {E : Value → Shared → Prop} {Q : Unit → Shared → Prop} {i : Nat} {n : Str} {pos : Pos} (I : Inv X pins σ H s) (hi : X.N[i]? = some n) (hN : X.N.Nodup)
    (hk : X.env.scope.names.lookup n = some .local) (h : ∀ s', Inv X pins (σ.set i none) H s' → Q () s') :
    wpAny M A (do
      bindName X.env n Value.none
      unbindBehindTheSuite X.env n pos) Q E s := by
  obtain ⟨m, hn, hl⟩ := id I.loc
  obtain ⟨oL, _, _, hoL, _⟩ := id hn
  refine wpAny_nameGoes_keeps hk hn (by rw [I.ok.kind]; rfl) fun h' v hn' hs => h _ ?_
  have ab : ∀ b o, X.s₀.heap.get? b = some o → h'.get? b = s.heap.get? b := fun b o e => hs.2 b (Nat.ne_of_lt (Nat.lt_of_lt_of_le (Heap.lt_size e) I.ok.above))
  have hiσ : i < σ.length := by rw [I.len]; exact (List.getElem?_eq_some_iff.mp hi).1
  refine ⟨I.ok, I.os, I.bare, ⟨fun b o e n hb hx => ?_, fun b o e n hb hx => ?_, I.base.free, fun b o e hx => ?_, I.base.tups, I.base.frzs, I.base.tbls⟩, ⟨_, hn', fun j y v' e1 e2 e3 => ?_⟩, fun y c e => ?_, I.free, I.freeC, fun p hp => ?_, ?_, by simpa using I.len⟩
  · exact (ab b o e).trans (I.base.keep b o e n hb hx)
  · obtain ⟨sl, e1⟩ := I.base.slot b o e n hb hx
    exact ⟨sl, (ab b o e).trans e1⟩
  · obtain ⟨o', e1⟩ := I.base.there b o e hx
    exact ⟨o', (ab b o e).trans e1⟩
  · have hj : j ≠ i := fun z => by
      subst z
      rw [List.getElem?_set_self hiσ] at e2
      cases e2
    rw [List.getElem?_set_ne (Ne.symm hj)] at e2
    obtain ⟨u', r', q⟩ := hl j y v' e1 e2 e3
    refine ⟨u', r', ?_⟩
    rcases q with ⟨k, e⟩ | ⟨k, c, e, z⟩
    · refine .inl ⟨k, ?_⟩
      have : y ≠ n := fun e => hj (nodup_ix hN e1 (e ▸ hi))
      simp [this, e]
    · exact .inr ⟨k, c, e, z.sameBut hs (I.cne y c e)⟩
  · obtain ⟨w', z⟩ := I.cell y c e
    exact ⟨w', z.sameBut hs (I.cne y c e)⟩
  · obtain ⟨e, n, ne, nf, d⟩ := I.pin p hp
    exact ⟨(hs.2 p.1 ne).trans e, n, ne, nf, d⟩
  · refine I.hok.moved fun b o u e q => (hs.2 b fun z => ?_).trans q
    rw [z, I.free] at e
    cases e
def tTry (i : Nat) (K : PySem.W.Frag) (LC : Addr) (tb : (St → Addr → Hp → Prop) → TS) (th : TS) : TS := fun D σ H =>
  tb (fun σ' C H' => PySem.W.exmOne K (.ref C) (.ref LC) = some true ∧ ∀ ea, H' ea = none → th (D.unset i) (σ'.set i (some (.ref ea))) (upd H' ea (excO ea C))) D σ H
section
variable {X : Cx} {body suite : List Stmt} {b₀ : Stmt} {n x : Str} {i : Nat} {LC : Addr} {np hpos pos : Pos} {tb : (St → Addr → Hp → Prop) → TS} {th : TS}
theorem ps_try (hb : ∀ pins T, PSs (tryCx X pins T) body (tb T)) (hh : ∀ pins ea, PSs (hdCx X pins ea) (b₀ :: suite) th) (hg : Gl X x) (hm : X.mg x = some (.ref LC)) (hN : X.N.Nodup) (hi : X.N[i]? = some n)
    (hn : X.env.scope.names.lookup n = some .local := by rfl) (hst : X.stack = X.env :: X.outer := by rfl) (hfr : X.env.frame = some X.env.locals := by rfl) (hdb : (x == ("__debug__" : Str)) = false := by decide) :
    PS X (.Try body [.ExceptHandler (some (.Name x np)) (some n) (b₀ :: suite) hpos] [] [] pos) (tTry i X.K LC tb th) := by
  intro pins s σ H D I h
  refine wpAny_Try_except ?_
  refine wpAny_mono (hb pins _ [] s σ H D I.toTry h) (fun f s1 hs => ?_) (fun e s1 he => ?_)
  · cases f with
    | next =>
      obtain ⟨σ', H', I', q⟩ := hs
      exact pss_nil pins s1 σ' H' D I'.ofTry q
    | brk =>
      obtain ⟨σ', H', I', q⟩ := hs
      exact ⟨σ', H', I'.ofTry, q⟩
    | cont =>
      obtain ⟨σ', H', I', q⟩ := hs
      exact ⟨σ', H', I'.ofTry, q⟩
    | ret u =>
      obtain ⟨v, σ', H', I', q⟩ := hs
      exact ⟨v, σ', H', I'.ofTry, q⟩
  · obtain ⟨ea, C, a0, B, σ', H', rfl, F, hC, hT⟩ := he
    have hfl := F.fl
    rw [hst] at hfl
    refine wpAny_looks_onW (by rw [← hst]; exact I.ok.frames) hfr hfl fun h1 held up1 => ?_
    have I1 : Inv X pins σ' H' { s1 with heap := h1 } := F.inv.flew (t' := s1.toks) F.fl.1 held.1 up1 F.kn
    refine wpAny_landsW held fun h2 fl2 up2 => ?_
    rw [← hst] at fl2
    have F2 : Fly X pins σ' H' B ea C a0 { s1 with heap := h2 } := ⟨I1.flew (t' := s1.toks) held.1 fl2.1 up2 F.kn, fl2, F.kn⟩
    refine wpAny_handleBy_cons ?_ (by intro z; unfold byPass at z; cases z)
    refine codeAny_handlers_test ?_
    refine ld_glob (X := hdCx X pins ea) F2.inv.toHd hg hm ?_ hdb
    obtain ⟨o, vs, eo, ho, _⟩ := F2.obj
    have L : PySem.W.Looks (model X.prog X.w) h2 (typeOf (.ref ea)) (.ref C) := by
      intro A' Q' E' s' k q
      unfold typeOf
      refine wpAny_bind (wpAny_loadPart (k _ _ eo) ?_)
      rw [← ho] at q
      exact wpAny_pure q
    refine (PySem.W.exm_one F2.inv.kIn L hC).at ?_
    show codeAny _ _ _ _ _
    refine codeAny_handlers_suite_as ?_
    refine lands_againW F2.fl fun h3 fl3 up3 => ?_
    have F3 := F2.turn (t' := s1.toks) fl3 up3
    have hp := F3.notp
    have hHn : H' ea = none := by
      cases q : H' ea with
      | none => rfl
      | some u => exact absurd (.inr (.inr (.inr (.inl ⟨u, q⟩)))) hp
    have I3 : Inv X pins σ' (upd H' ea (excO ea C)) { s1 with heap := h3 } := F3.inv.track hp ⟨F3.obj, by
      obtain ⟨o, vs, e, _⟩ := F3.obj
      exact ⟨o, e⟩, fun g1 g2 ⟨o, vs, e, r⟩ k => ⟨o, vs, k o e, r⟩⟩
    refine store_ok (X := hdCx X pins ea) I3.toHd hN hi (.inl hn) (v := .ref ea) rfl (fun s4 I4 => ?_) (.inr hn)
    refine wpAny_mono (hh pins ea [] s4 _ _ _ I4 (hT ea hHn)) (fun f s5 hs => ?_) (fun e s5 he => False.elim he)
    cases f with
    | next =>
      obtain ⟨σ5, H5, I5, q⟩ := hs
      exact name_goes (I5.ofHd I.ok) hi hN hn fun s6 I6 => ⟨_, _, I6, q⟩
    | brk =>
      obtain ⟨σ5, H5, I5, q⟩ := hs
      exact name_goes (I5.ofHd I.ok) hi hN hn fun s6 I6 => ⟨_, _, I6, q⟩
    | cont =>
      obtain ⟨σ5, H5, I5, q⟩ := hs
      exact name_goes (I5.ofHd I.ok) hi hN hn fun s6 I6 => ⟨_, _, I6, q⟩
    | ret u =>
      obtain ⟨v, σ5, H5, I5, r, q⟩ := hs
      exact name_goes (I5.ofHd I.ok) hi hN hn fun s6 I6 => ⟨v, _, _, I6, r, q⟩
end
def tCallS (sp : Sp) (dvs : List V) (E : St → XK) (t : TA) : TE := fun σ H Q => t σ H fun vs H1 => sp (vs ++ dvs) H1 Q (E σ)
section
variable {X : Cx} {CX : CXT} {k : Nat} {f : Addr} {fd : FuncData} {ps : List Str} {sp : Sp} {dvs : List V} {ds : List Value} {E : St → XK} {x : Str} {p pos : Pos} {e : Expr} {es : List Expr} {t : TA}
theorem pe_callS (F : FnOk X.prog X.w X.K X.mg X.base CX k f fd ps sp) (hr : Room k X.A) (hg : Gl X x) (hm : X.mg x = some (.ref f)) (hk : PySem.W.keepIn X.K (.ref f) = true) (hb : Binds X.K fd ps ds) (hd : Vals dvs ds) (hx : PassesS CX X E)
    (ha : PA X (e :: es) t) (hdb : (x == ("__debug__" : Str)) = false := by decide) (he : starEach (e :: es) X.env = (false, eval e X.env) :: starEach es X.env := by rfl)
    (hpl : (backTo pos (starEach es X.env)).any (·.1) = false := by rfl) : PE X (.Call (.Name x p) (e :: es) [] pos) (tCallS sp dvs E t) := by
  intro pins s σ H Q I h
  refine wpAny_Call_Name_kw (ld_glob I hg hm ?_ hdb)
  refine PySem.W.callWith_K (h₀ := X.base) I.ok.mod.kin hk (thn (ha pos pins s σ H _ I h) fun us s1 z => ?_) he hpl
  obtain ⟨vs, H1, I1, r, q⟩ := z
  refine ⟨I1.kIn, ?_⟩
  have r2 : Vals (vs ++ dvs) (us ++ ds) := r.append hd
  have hl : (us ++ ds).length = ps.length := by
    rw [← r2.length]
    exact F.len _ _ _ _ q
  refine wpAny_call (codeAny_mono (F.run X.A X.stack s1 H1 ⟨us, []⟩ (us ++ ds) (vs ++ dvs) Q (E σ) hr I1.env0 (hb s1 us I1.kIn hl) r2 q) fun r s' hq => ?_)
  match r, hq with
  | .error e, hq => exact hx pins σ H1 s1 e s' I1 hq
  | .ok (.ret u), hq => exact I1.after hq
end
end L2

namespace L2
open PySem PySem.Spec PyProof.Rows
structure CalX (P : Program) (w : World) (K : PySem.W.Frag) (mg : Str → Option Value) (base : Heap) (x : Str) (j : Nat) (ps : List Str) (sp : Sp) : Prop where
  ex : ∃ f fd, FnOk P w K mg base (CX1 P w) j f fd ps sp ∧ mg x = some (.ref f) ∧ PySem.W.keepIn K (.ref f) = true ∧ Binds K fd ps []
structure CalKX (P : Program) (w : World) (K : PySem.W.Frag) (mg : Str → Option Value) (base : Heap) (x : Str) (j : Nat) (ps ks : List Str) (sp : Sp) : Prop where
  ex : ∃ f fd, FnOk P w K mg base (CX1 P w) j f fd ps sp ∧ mg x = some (.ref f) ∧ PySem.W.keepIn K (.ref f) = true ∧ KBinds K fd ps ks g11 g11
def sor (a b : Sp) : Sp := fun vs H Q E => a vs H Q E ∨ b vs H Q E
section
variable {P : Program} {w : World} {K : PySem.W.Frag} {mg : Str → Option Value} {base : Heap} {CX : CXT} {k : Nat} {f : Addr} {fd : FuncData} {ps ks : List Str} {sp sp' : Sp}
theorem FnOk.up (F : FnOk P w K mg base CX0 k f fd ps sp) : FnOk P w K mg base CX k f fd ps sp :=
  ⟨F.len, fun A outer s H args us vs Q E hr he hb hv hs => codeAny_mono (F.run A outer s H args us vs Q E hr he hb hv hs) fun r s' hq => by
    match r, hq with
    | .ok (.ret u), hq => exact hq
    | .error e, hq => exact False.elim hq⟩
theorem FnOk.or (F : FnOk P w K mg base CX k f fd ps sp) (G : FnOk P w K mg base CX k f fd ps sp') : FnOk P w K mg base CX k f fd ps (sor sp sp') :=
  ⟨fun vs H Q E h => h.elim (F.len vs H Q E) (G.len vs H Q E), fun A outer s H args us vs Q E hr he hb hv hs => hs.elim (F.run A outer s H args us vs Q E hr he hb hv) (G.run A outer s H args us vs Q E hr he hb hv)⟩
variable {x qual : Str} {st : Stmt}
theorem Fun.calX (F : Fun K x qual st f fd) (G : FnOk P w K mg base CX0 k f fd ps sp) (G' : FnOk P w K mg base (CX1 P w) k f fd ps sp') (m : mg x = some (.ref f)) (b : Binds K fd ps []) : CalX P w K mg base x k ps (sor sp sp') := ⟨f, fd, G.up.or G', m, F.kp, b⟩
theorem Fun.calKX (F : Fun K x qual st f fd) (G : FnOk P w K mg base CX0 k f fd ps sp) (G' : FnOk P w K mg base (CX1 P w) k f fd ps sp') (m : mg x = some (.ref f)) (b : KBinds K fd ps ks g11 g11) : CalKX P w K mg base x k ps ks (sor sp sp') :=
  ⟨f, fd, G.up.or G', m, F.kp, b⟩
end
section
variable {X : Cx} {x : Str} {j : Nat} {ps ks : List Str} {sp : Sp} {p pos : Pos} {e : Expr} {es : List Expr} {t tk : TA} {kws : List Keyword} {E : XK} {ES : St → XK}
theorem pe_calX (C : CalX X.prog X.w X.K X.mg X.base x j ps sp) (hr : Room j X.A) (hg : Gl X x) (hx : Passes (CX1 X.prog X.w) X E) (ha : PA X (e :: es) t) (hdb : (x == ("__debug__" : Str)) = false := by decide)
    (he : starEach (e :: es) X.env = (false, eval e X.env) :: starEach es X.env := by rfl) (hpl : (backTo pos (starEach es X.env)).any (·.1) = false := by rfl) : PE X (.Call (.Name x p) (e :: es) [] pos) (tCall sp [] E t) := by
  obtain ⟨f, fd, F, hm, hk, hb⟩ := C.ex
  exact pe_call F hr hg hm hk hb .nil hx ha hdb he hpl
theorem pe_calS (C : CalX X.prog X.w X.K X.mg X.base x j ps sp) (hr : Room j X.A) (hg : Gl X x) (hx : PassesS (CX1 X.prog X.w) X ES) (ha : PA X (e :: es) t) (hdb : (x == ("__debug__" : Str)) = false := by decide)
    (he : starEach (e :: es) X.env = (false, eval e X.env) :: starEach es X.env := by rfl) (hpl : (backTo pos (starEach es X.env)).any (·.1) = false := by rfl) : PE X (.Call (.Name x p) (e :: es) [] pos) (tCallS sp [] ES t) := by
  obtain ⟨f, fd, F, hm, hk, hb⟩ := C.ex
  exact pe_callS F hr hg hm hk hb .nil hx ha hdb he hpl
theorem pe_calKX (C : CalKX X.prog X.w X.K X.mg X.base x j ps ks sp) (hr : Room j X.A) (hg : Gl X x) (hx : Passes (CX1 X.prog X.w) X E) (ha : PA X (e :: es) t) (hkw : PK X kws tk)
    (hall : (backToKw pos (keywordEach kws X.env)).all (·.1.isSome) = true := by rfl) (hks : (backToKw pos (keywordEach kws X.env)).filterMap (·.1) = ks := by rfl)
    (hdb : (x == ("__debug__" : Str)) = false := by decide) (he : starEach (e :: es) X.env = (false, eval e X.env) :: starEach es X.env := by rfl)
    (hpl : ((backTo pos (starEach (e :: es) X.env)).any (·.1) || (backToKw pos (keywordEach kws X.env)).any (·.1.isNone)) = false := by rfl) : PE X (.Call (.Name x p) (e :: es) kws pos) (tCallK sp g11 E t tk) := by
  obtain ⟨f, fd, F, hm, hk, hb⟩ := C.ex
  exact pe_callK F hr hg hm hk hb hx ha hkw hall hks hdb he hpl
end
inductive Kn (H : Hp) : V → String → Prop where
  | non : Kn H .non "NoneType"
  | bl (x : Bool) : Kn H (.bl x) "bool"
  | int (i : Int) : Kn H (.int i) "int"
  | str (x : Str) : Kn H (.str x) "str"
  | lst {a : Addr} {xs : List V} (e : H a = some (.lst xs)) : Kn H (.ref a) "list"
  | tup {a : Addr} {xs : List V} (e : H a = some (.tup xs)) : Kn H (.ref a) "tuple"
  | dK {a : Addr} {kvs : List (Key × V)} (e : H a = some (.dK kvs)) : Kn H (.ref a) "dict"
def kinds : List String := ["NoneType", "bool", "int", "str", "list", "tuple", "dict"]
def sub (n m : String) : Bool := n == m || (n == "bool" && m == "int")
theorem kit_tab (K : PySem.W.Frag) {n m : String} (hn : n ∈ kinds) (hm : m ∈ kinds) : PySem.W.kitOne K (.type n) (.type m) = some (sub n m) := by
  have tab : ∀ n ∈ kinds, ∀ m ∈ kinds, (Value.type n == Value.type m) = false → PySem.W.kitMeta m = true ∧ (fastBuiltinMro n).map (·.contains (.type m)) = some (sub n m) := by decide +kernel
  have tab2 : ∀ n ∈ kinds, ∀ m ∈ kinds, (Value.type n == Value.type m) = true → sub n m = true := by decide +kernel
  unfold PySem.W.kitOne
  cases h : (Value.type n == Value.type m) with
  | true => rw [if_pos rfl, tab2 n hn m hm h]
  | false =>
    obtain ⟨h1, h2⟩ := tab n hn m hm h
    rw [if_neg (by decide)]
    show (if PySem.W.kitMeta m = true then (fastBuiltinMro n).map (·.contains (.type m)) else none) = some (sub n m)
    rw [if_pos h1, h2]
section
variable {H H' : Hp} {v : V} {n : String}
theorem Kn.mem (k : Kn H v n) : n ∈ kinds := by cases k <;> decide
theorem Kn.ty (k : Kn H v n) (K : PySem.W.Frag) : TyOf K H v (.type n) := by
  cases k with
  | non => exact .non
  | bl x => exact .bl x
  | int i => exact .int i
  | str x => exact .str x
  | lst e => exact .lst e
  | tup e => exact .tup e
  | dK e => exact .dK e
theorem Kn.same (k : Kn H v n) (s : Same H H') : Kn H' v n := by
  cases k with
  | non => exact .non
  | bl x => exact .bl x
  | int i => exact .int i
  | str x => exact .str x
  | lst e => exact .lst (s _ _ e)
  | tup e => exact .tup (s _ _ e)
  | dK e => exact .dK (s _ _ e)
end
def inW (v : V) (a b : Int) : Bool := match v with
  | .int i => decide (a ≤ i) && decide (i ≤ b)
  | _ => false
def view (H : Hp) (v : V) : Option (List V) := match v with
  | .ref a => (match H a with
    | some (.lst xs) => some xs
    | _ => none)
  | _ => none
end L2

namespace L2
open PySem PySem.Spec PyProof.Rows
section
variable {X : Cx} {pos : Pos}
theorem count_eqU {x : V} : ∀ {xs : List V} {us : List Value}, Vals xs us → xs.all flatV = true → us.countP (eqU x) = xs.countP fun y => eqV y x
  | _, _, .nil, _ => rfl
  | y :: xs, u :: us, .cons r t, f => by
    rw [List.all_cons, Bool.and_eq_true] at f
    rw [List.countP_cons, List.countP_cons, eqU_of r f.1, count_eqU t f.2]
theorem at_eqU {x : V} : ∀ {xs : List V} {us : List Value}, Vals xs us → xs.all flatV = true → ∀ (i : Nat) (u : Value), us[i]? = some u → ∃ y, xs[i]? = some y ∧ eqU x u = eqV y x
  | _, _, .nil, _, i, u, h => by simp at h
  | y :: xs, u :: us, .cons r t, f, 0, u', h => by
    rw [List.all_cons, Bool.and_eq_true] at f
    simp at h
    subst h
    exact ⟨y, rfl, eqU_of r f.1⟩
  | y :: xs, u :: us, .cons r t, f, i + 1, u', h => by
    rw [List.all_cons, Bool.and_eq_true] at f
    exact at_eqU t f.2 i u' (by simpa using h)
def rCount : V → List V → Hp → VK → Prop := fun l vs H Q => ∃ (a : Addr) (xs : List V) (x : V), l = .ref a ∧ vs = [x] ∧ H a = some (.lst xs) ∧ flatV x = true ∧ xs.all flatV = true ∧ Q (.int (xs.countP fun y => eqV y x : Nat)) H
theorem mt_count : MtR X "list.count" rCount := by
  intro pins s σ H l vs v us Q I rl rv h
  obtain ⟨a, xs, x, rfl, rfl, hH, fx, fs, q⟩ := h
  cases rl
  obtain ⟨z, its, n, r, hl, e⟩ := I.lstM hH
  cases rv with
  | cons rx t =>
    cases t
    refine call_meets F.slot_list_count ⟨_, e, rfl⟩ F.entry_list_count (F.args_list_count_2 _ _) (SeqAt.list_countAt a its.toArray n none #[] _ (eqU x)) ⟨e, fun w hw => mem_eqAt rx fx r fs w (by simpa using hw), ?_⟩
    rw [show its.toArray.toList = its by simp, count_eqU r fs]
    exact ⟨.int _, H, I.tok _, ⟨_, rfl⟩, q⟩
def rIndex : V → List V → Hp → VK → Prop := fun l vs H Q => ∃ (a : Addr) (xs : List V) (x : V) (j : Nat) (y : V), l = .ref a ∧ vs = [x] ∧ H a = some (.lst xs) ∧ flatV x = true ∧ xs.all flatV = true ∧
  xs[j]? = some y ∧ eqV y x = true ∧ (∀ m u, m < j → xs[m]? = some u → eqV u x = false) ∧ Q (.int (j : Nat)) H
theorem mt_index : MtR X "list.index" rIndex := by
  intro pins s σ H l vs v us Q I rl rv h
  obtain ⟨a, xs, x, j, y, rfl, rfl, hH, fx, fs, hj, hy, hm, q⟩ := h
  cases rl
  obtain ⟨z, its, n, r, hl, e⟩ := I.lstM hH
  have hj' : j < its.length := by
    rw [← r.length]
    exact (List.getElem?_eq_some_iff.mp hj).1
  have hz : its.length ≤ sizeLine := by
    rw [← r.length]
    exact z
  cases rv with
  | cons rx t =>
    cases t
    have hs : its.toArray.size = its.length := by simp
    refine call_meets F.slot_list_index ⟨_, e, rfl⟩ F.entry_list_index (F.args_list_index_2 _ _) (SeqAt.list_indexAt a its.toArray n none #[] _ (eqU x) j (by rw [hs]; exact hj') ?_ ?_ ?_) ⟨e, fun w hw => mem_eqAt rx fx r fs w (by simpa using hw), ?_⟩
    · have : sizeLine < 2 ^ 63 - 1 := by decide
      omega
    · obtain ⟨y', e1, e2⟩ := at_eqU (x := x) r fs j its[j] (List.getElem?_eq_getElem hj')
      rw [hj] at e1
      cases e1
      rw [show its.toArray[j]'(by rw [hs]; exact hj') = its[j] by simp, e2]
      exact hy
    · intro m h1 h2
      have h1' : m < its.length := by rw [← hs]; exact h1
      obtain ⟨y', e1, e2⟩ := at_eqU (x := x) r fs m its[m] (List.getElem?_eq_getElem h1')
      rw [show its.toArray[m]'h1 = its[m] by simp, e2]
      exact hm m y' h2 e1
    · exact ⟨.int _, H, I.tok _, ⟨_, rfl⟩, q⟩
def tNewD : TE := fun _ H Q => ∀ p, H p = none → Q (.ref p) (upd H p (.dK []))
theorem pe_newD : PE X (.Dict [] [] pos) tNewD := fun pins s σ H Q I h => by
  have hb : sysModules < s.heap.objs.size := Nat.lt_trans (by decide) (show mainGlobals < s.heap.objs.size from (I.mod.glob.keeps I.bk).lt)
  refine wpAny_Dict_empty ⟨.ref s.heap.objs.size, _, I.laid (a := s.heap.objs.size) (o := .dK []) (t' := s.toks) (fun _ _ q => Heap.get?_push_of_some _ q) (Nat.le_refl _) ?_, rfl, h _ (I.hok.fresh (Nat.le_refl _))⟩
  exact ⟨Nat.zero_le _, beq_eq_false_iff_ne.mpr (Ne.symm (Nat.ne_of_lt hb)), [], .nil, Heap.DictOf.new s.heap⟩
end
end L2
namespace L2
open PySem
theorem exc_cls {K : PySem.W.Frag} {C : Addr} {bmB : List Value} {n : String} (h : PySem.W.excIn K C bmB n = true) : (PySem.W.clsIn K C).isSome = true := by
  unfold PySem.W.excIn at h
  split at h
  case h_2 => cases h
  case h_1 dd cdat slots look =>
    unfold PySem.W.clsIn
    have look : K.lookup C = some _ := look
    rw [look]
    rfl
end L2

namespace L2
open PySem PySem.Spec PyProof.Rows
structure RA (X : Cx) (es : List Expr) (t : TA) : Prop where
  h : PA X es t
structure RE (X : Cx) (e : Expr) (t : TE) : Prop where
  h : PE X e t
section
variable {X : Cx} {e : Expr} {es : List Expr} {te : TE} {t : TA} {pos : Pos}
theorem ra_nil : RA X [] tNil := ⟨pa_nil⟩
theorem ra_cons (a : RE X e te) (b : RA X es t) (hs : starEach (e :: es) X.env = (false, eval e X.env) :: starEach es X.env := by rfl) : RA X (e :: es) (tCons te t) := ⟨pa_cons a.h b.h hs⟩
theorem re_of (h : PE X e te) : RE X e te := ⟨h⟩
theorem re_int {i j} : RE X (.Constant (.int i) j pos) (tC (.int i)) := ⟨pe_int⟩
theorem re_bl {b j} : RE X (.Constant (.bool b) j pos) (tC (.bl b)) := ⟨pe_bl⟩
theorem re_non {j} : RE X (.Constant .none j pos) (tC .non) := ⟨pe_non⟩
theorem re_str {x j} : RE X (.Constant (.str x) j pos) (tC (.str x)) := ⟨pe_str⟩
theorem re_tup {x1} (h : RA X es t) : RE X (.Tuple es x1 pos) (tTup t) := ⟨pe_tup h.h⟩
theorem re_lst (h : RA X es t) : RE X (.List es pos) (tLst t) := ⟨pe_lst h.h⟩
theorem pss_setR (X : Cx) (i : Nat) (x : Str) (e : Expr) (te : TE) (p pos : Pos) (rest : List Stmt) (tr : TS) (hN : X.N.Nodup) (hi : X.N[i]? = some x) (hx : Loc X.env.scope x) (he : RE X e te) (hs : swapsWith e (some (.Name x p)) pos.line X.env = pure false)
    (hf : X.fn x = true ∨ X.env.scope.names.lookup x = some .local) (hr : PSs X rest tr) : PSs X (.Assign [.Name x p] e pos :: rest) (tSeq (tAsg te (gName i)) tr) := pss_cons (ps_set hN hi hx he.h hs hf) hr
end
end L2

set_option maxHeartbeats 4000000


namespace My
open PySem L2
def top (i : Nat) : Stmt := PySem.Challenge.pw_liarclocks_k38_points_refused.main.body.getD i (.Pass ⟨0, 0, 0, 0⟩)
abbrev s_is_whole : Stmt := top 15
abbrev s_is_within : Stmt := top 16
abbrev s_is_number : Stmt := top 17
abbrev s_is_pair : Stmt := top 18
abbrev s_is_number_pair : Stmt := top 19
abbrev s_is_fit_list : Stmt := top 20
abbrev s_check_within : Stmt := top 21
abbrev s_check_few : Stmt := top 22
abbrev s_check_worths : Stmt := top 23
abbrev s_check_some_left : Stmt := top 24
abbrev s_without_ends : Stmt := top 26
abbrev s_half_way : Stmt := top 27
abbrev s_how_far : Stmt := top 28
abbrev s_trimmed : Stmt := top 29
abbrev s_middle : Stmt := top 30
abbrev s_spread : Stmt := top 31
abbrev s_is_between : Stmt := top 32
abbrev s_check_points : Stmt := top 34
abbrev s_first_numbers : Stmt := top 35
abbrev s_second_numbers : Stmt := top 36
abbrev s_box : Stmt := top 37
abbrev s_middle_point : Stmt := top 38
abbrev s_in_box : Stmt := top 39
abbrev s_width : Stmt := top 40
abbrev s__law_town : Stmt := top 42
abbrev s__law_draw : Stmt := top 43
abbrev s__law_pick : Stmt := top 44
abbrev s__law_refusal : Stmt := top 45
abbrev s__law_number : Stmt := top 46
abbrev s__law_did : Stmt := top 47
abbrev s__law_told : Stmt := top 48
abbrev s_law : Stmt := top 49
theorem sc_is_whole : FnScope ["thing"] ["thing"] (defScope s_is_whole) := ⟨rfl, rfl, rfl, by decide +kernel, rfl, by decide +kernel, by decide +kernel⟩
theorem sc_is_within : FnScope ["thing", "least", "most"] ["thing", "least", "most"] (defScope s_is_within) := ⟨rfl, rfl, rfl, by decide +kernel, rfl, by decide +kernel, by decide +kernel⟩
theorem sc_is_number : FnScope ["thing"] ["thing"] (defScope s_is_number) := ⟨rfl, rfl, rfl, by decide +kernel, rfl, by decide +kernel, by decide +kernel⟩
theorem sc_is_pair : FnScope ["thing"] ["thing"] (defScope s_is_pair) := ⟨rfl, rfl, rfl, by decide +kernel, rfl, by decide +kernel, by decide +kernel⟩
theorem sc_is_number_pair : FnScope ["thing"] ["thing"] (defScope s_is_number_pair) := ⟨rfl, rfl, rfl, by decide +kernel, rfl, by decide +kernel, by decide +kernel⟩
theorem sc_is_fit_list : FnScope ["things"] ["things"] (defScope s_is_fit_list) := ⟨rfl, rfl, rfl, by decide +kernel, rfl, by decide +kernel, by decide +kernel⟩
theorem sc_check_within : FnScope ["thing", "least", "most"] ["thing", "least", "most"] (defScope s_check_within) := ⟨rfl, rfl, rfl, by decide +kernel, rfl, by decide +kernel, by decide +kernel⟩
theorem sc_check_few : FnScope ["few"] ["few"] (defScope s_check_few) := ⟨rfl, rfl, rfl, by decide +kernel, rfl, by decide +kernel, by decide +kernel⟩
theorem sc_check_worths : FnScope ["worths"] ["worths"] (defScope s_check_worths) := ⟨rfl, rfl, rfl, by decide +kernel, rfl, by decide +kernel, by decide +kernel⟩
theorem sc_check_some_left : FnScope ["many", "lost"] ["many", "lost"] (defScope s_check_some_left) := ⟨rfl, rfl, rfl, by decide +kernel, rfl, by decide +kernel, by decide +kernel⟩
theorem sc_without_ends : FnScope ["worths", "few"] ["worths", "few"] (defScope s_without_ends) := ⟨rfl, rfl, rfl, by decide +kernel, rfl, by decide +kernel, by decide +kernel⟩
theorem sc_half_way : FnScope ["left"] ["left"] (defScope s_half_way) := ⟨rfl, rfl, rfl, by decide +kernel, rfl, by decide +kernel, by decide +kernel⟩
theorem sc_how_far : FnScope ["worths"] ["worths"] (defScope s_how_far) := ⟨rfl, rfl, rfl, by decide +kernel, rfl, by decide +kernel, by decide +kernel⟩
theorem sc_trimmed : FnScope ["worths", "few"] ["worths", "few"] (defScope s_trimmed) := ⟨rfl, rfl, rfl, by decide +kernel, rfl, by decide +kernel, by decide +kernel⟩
theorem sc_middle : FnScope ["worths", "few"] ["worths", "few"] (defScope s_middle) := ⟨rfl, rfl, rfl, by decide +kernel, rfl, by decide +kernel, by decide +kernel⟩
theorem sc_spread : FnScope ["worths"] ["worths"] (defScope s_spread) := ⟨rfl, rfl, rfl, by decide +kernel, rfl, by decide +kernel, by decide +kernel⟩
theorem sc_is_between : FnScope ["worth", "worths"] ["worth", "worths"] (defScope s_is_between) := ⟨rfl, rfl, rfl, by decide +kernel, rfl, by decide +kernel, by decide +kernel⟩
theorem sc_check_points : FnScope ["points"] ["points"] (defScope s_check_points) := ⟨rfl, rfl, rfl, by decide +kernel, rfl, by decide +kernel, by decide +kernel⟩
theorem sc_first_numbers : FnScope ["points"] ["points"] (defScope s_first_numbers) := ⟨rfl, rfl, rfl, by decide +kernel, rfl, by decide +kernel, by decide +kernel⟩
theorem sc_second_numbers : FnScope ["points"] ["points"] (defScope s_second_numbers) := ⟨rfl, rfl, rfl, by decide +kernel, rfl, by decide +kernel, by decide +kernel⟩
theorem sc_box : FnScope ["points", "firsts", "seconds"] ["points"] (defScope s_box) := ⟨rfl, rfl, rfl, by decide +kernel, rfl, by decide +kernel, by decide +kernel⟩
theorem sc_middle_point : FnScope ["points", "few"] ["points", "few"] (defScope s_middle_point) := ⟨rfl, rfl, rfl, by decide +kernel, rfl, by decide +kernel, by decide +kernel⟩
theorem sc_in_box : FnScope ["point", "points"] ["point", "points"] (defScope s_in_box) := ⟨rfl, rfl, rfl, by decide +kernel, rfl, by decide +kernel, by decide +kernel⟩
theorem sc_width : FnScope ["points"] ["points"] (defScope s_width) := ⟨rfl, rfl, rfl, by decide +kernel, rfl, by decide +kernel, by decide +kernel⟩
theorem sc__law_town : FnScope ["_law_script"] ["_law_script"] (defScope s__law_town) := ⟨rfl, rfl, rfl, by decide +kernel, rfl, by decide +kernel, by decide +kernel⟩
theorem sc__law_draw : FnScope ["_law_town_here", "_law_many", "_law_row", "_law_at", "_law_cell", "_law_mixed"] ["_law_town_here", "_law_many"] (defScope s__law_draw) := ⟨rfl, rfl, rfl, by decide +kernel, rfl, by decide +kernel, by decide +kernel⟩
theorem sc__law_pick : FnScope ["_law_town_here", "_law_some"] ["_law_town_here", "_law_some"] (defScope s__law_pick) := ⟨rfl, rfl, rfl, by decide +kernel, rfl, by decide +kernel, by decide +kernel⟩
theorem sc__law_refusal : FnScope ["_law_caught", "_law_kinds", "_law_words"] ["_law_caught"] (defScope s__law_refusal) := ⟨rfl, rfl, rfl, by decide +kernel, rfl, by decide +kernel, by decide +kernel⟩
theorem sc__law_number : FnScope ["_law_town_here", "_law_most", "_law_found"] ["_law_town_here"] (defScope s__law_number) := ⟨rfl, rfl, rfl, by decide +kernel, rfl, by decide +kernel, by decide +kernel⟩
theorem sc__law_did : FnScope ["_law_kind", "_law_points", "_law_some"] ["_law_kind", "_law_points", "_law_some"] (defScope s__law_did) := ⟨rfl, rfl, rfl, by decide +kernel, rfl, by decide +kernel, by decide +kernel⟩
theorem sc__law_told : FnScope ["_law_kind", "_law_points", "_law_some", "_law_caught", "e"] ["_law_kind", "_law_points", "_law_some"] (defScope s__law_told) := ⟨rfl, rfl, rfl, by decide +kernel, rfl, by decide +kernel, by decide +kernel⟩
theorem sc_law : FnScope ["_law_script", "_law_town_here", "_law_points", "_law_at", "_law_odd", "_law_turn", "_law_worse", "_law_bad", "_law_thing", "_law_some"] ["_law_script"] (defScope s_law) := ⟨rfl, rfl, rfl, by decide +kernel, rfl, by decide +kernel, by decide +kernel⟩
/-! ### what is asked of lists of numbers -/
structure Good (H : Hp) (a : Addr) (ns : List Int) : Prop where
  at_ : H a = some (.lst (ns.map V.int))
  lo : 1 ≤ ns.length
  hi : ns.length ≤ 40
  bd : ∀ n ∈ ns, -1000000 ≤ n ∧ n ≤ 1000000
theorem Good.same {H H' : Hp} {a : Addr} {ns : List Int} (g : Good H a ns) (s : Same H H') : Good H' a ns := ⟨s _ _ g.at_, g.lo, g.hi, g.bd⟩
theorem kit_int_int (K : PySem.W.Frag) : PySem.W.kitOne K (.type "int") (.type "int") = some true := by
  unfold PySem.W.kitOne
  rw [if_pos (by decide +kernel)]
theorem kit_bool_bool (K : PySem.W.Frag) : PySem.W.kitOne K (.type "bool") (.type "bool") = some true := by
  unfold PySem.W.kitOne
  rw [if_pos (by decide +kernel)]
theorem kit_list_list (K : PySem.W.Frag) : PySem.W.kitOne K (.type "list") (.type "list") = some true := by
  unfold PySem.W.kitOne
  rw [if_pos (by decide +kernel)]
theorem kit_int_bool (K : PySem.W.Frag) : PySem.W.kitOne K (.type "int") (.type "bool") = some false := by
  unfold PySem.W.kitOne
  rw [if_neg (by decide +kernel)]
  have h1 : PySem.W.kitMeta "bool" = true := by decide +kernel
  have h2 : (fastBuiltinMro "int").map (·.contains (.type "bool")) = some false := by decide +kernel
  show (if PySem.W.kitMeta "bool" = true then (fastBuiltinMro "int").map (·.contains (.type "bool")) else none) = some false
  rw [if_pos h1, h2]
/-! ### promises of the program's defs -/
def sp_is_whole : Sp := fun vs H Q _ => ∃ i : Int, vs = [.int i] ∧ Q (.bl true) H
def sp_is_within : Sp := fun vs H Q _ => ∃ i a b : Int, vs = [.int i, .int a, .int b] ∧ Q (.bl (decide (a ≤ i) && decide (i ≤ b))) H
def sp_is_number : Sp := fun vs H Q _ => ∃ i : Int, vs = [.int i] ∧ Q (.bl (decide (-1000000 ≤ i) && decide (i ≤ 1000000))) H
def sp_is_fit_list : Sp := fun vs H Q _ => ∃ a xs, vs = [.ref a] ∧ H a = some (.lst xs) ∧ Q (.bl (decide ((1 : Int) ≤ xs.length) && decide ((xs.length : Int) ≤ 40))) H
def sp_check_within : Sp := fun vs H Q _ => ∃ i a b : Int, vs = [.int i, .int a, .int b] ∧ a ≤ i ∧ i ≤ b ∧ Q .non H
def sp_check_few : Sp := fun vs H Q _ => ∃ i : Int, vs = [.int i] ∧ 0 ≤ i ∧ i ≤ 5 ∧ Q .non H
def sp_check_worths : Sp := fun vs H Q _ => ∃ a ns, vs = [.ref a] ∧ Good H a ns ∧ ∀ H', Same H H' → Q .non H'
def sp_check_some_left : Sp := fun vs H Q _ => ∃ m l : Int, vs = [.int m, .int l] ∧ 2 * l < m ∧ Q .non H
def sp_without_ends : Sp := fun vs H Q _ => ∃ a ns k, vs = [.ref a, .int (k : Nat)] ∧ Good H a ns ∧ 2 * k < ns.length ∧ ∀ H' l, H l = none → Same H H' → H' l = some (.lst ((Mth.cut ns k).map V.int)) → Q (.ref l) H'
def sp_half_way : Sp := fun vs H Q _ => ∃ a ms, vs = [.ref a] ∧ H a = some (.lst (List.map V.int ms)) ∧ 0 < ms.length ∧ Q (.int ((ms.getD 0 0 + ms.getD (ms.length - 1) 0) / 2)) H
def sp_trimmed : Sp := fun vs H Q _ => ∃ a ns k, vs = [.ref a, .int (k : Nat)] ∧ Good H a ns ∧ k ≤ 5 ∧ 2 * k < ns.length ∧ ∀ H' l, H l = none → Same H H' → H' l = some (.lst ((Mth.cut ns k).map V.int)) → Q (.ref l) H'
def mid (ns : List Int) (k : Nat) : Int := ((Mth.cut ns k).getD 0 0 + (Mth.cut ns k).getD ((Mth.cut ns k).length - 1) 0) / 2
def mea (ns : List Int) (k : Nat) : Int := (Mth.cut ns k).sum / ((Mth.cut ns k).length : Int)
def med (ns : List Int) : Int := (Mth.srt ns).getD ((ns.length - 1) / 2) 0
def least (ns : List Int) : Int := (Mth.srt ns).getD 0 0
def most (ns : List Int) : Int := (Mth.srt ns).getD (ns.length - 1) 0
def sp_middle : Sp := fun vs H Q _ => ∃ a ns k, vs = [.ref a, .int (k : Nat)] ∧ Good H a ns ∧ k ≤ 5 ∧ 2 * k < ns.length ∧ ∀ H', Same H H' → Q (.int (mid ns k)) H'
def sp_mean : Sp := fun vs H Q _ => ∃ a ns k, vs = [.ref a, .int (k : Nat)] ∧ Good H a ns ∧ k ≤ 5 ∧ 2 * k < ns.length ∧ ∀ H', Same H H' → Q (.int (mea ns k)) H'
def sp_median : Sp := fun vs H Q _ => ∃ a ns, vs = [.ref a] ∧ Good H a ns ∧ ∀ H', Same H H' → Q (.int (med ns)) H'
def sp_spread : Sp := fun vs H Q _ => ∃ a ns, vs = [.ref a] ∧ Good H a ns ∧ ∀ H', Same H H' → Q (.int (most ns - least ns)) H'
def sp_how_far : Sp := fun vs H Q _ => ∃ a ns, vs = [.ref a] ∧ Good H a ns ∧ Q (.int (most ns - least ns)) H
def sp_is_between : Sp := fun vs H Q _ => ∃ i a ns, vs = [.int i, .ref a] ∧ Good H a ns ∧ ∀ H', Same H H' → Q (.bl (decide (least ns ≤ i) && decide (i ≤ most ns))) H'
section
variable {P : Program} {w : World} {K : PySem.W.Frag} {mg : Str → Option Value} {base : Heap}
theorem ok_is_whole {f : Addr} {fd : FuncData} (F : Fun K "is_whole" "is_whole" s_is_whole f fd) (B : Bl mg) : FnOk P w K mg base CX0 1 f fd ["thing"] sp_is_whole := by
  refine F.ok sc_is_whole (fun vs H Q E h => ?_) (fun cdv A outer s H vs Q E hr h => ?_)
  · obtain ⟨i, rfl, _⟩ := h
    rfl
  · obtain ⟨i, rfl, q⟩ := h
    refine ⟨_, (pss_one (ps_ret (pe_and (pe_callB call_isinst rfl B.isinstance bt_isinstance (pa_cons (pv 0) (pa_cons (pe_bltn (v := .ty "int") rfl B.int bt_int rfl) pa_nil))) (pe_one (pe_not (pe_callB call_isinst rfl B.isinstance bt_isinstance (pa_cons (pv 0) (pa_cons (pe_bltn (v := .ty "bool") rfl B.bool bt_bool rfl) pa_nil)))))))), ?_⟩
    refine ⟨_, rfl, _, _, _, _, true, rfl, .int i, rfl, .inl ⟨_, rfl⟩, kit_int_int K, true, rfl, iteT ?_⟩
    exact ⟨_, rfl, _, _, _, _, false, rfl, .int i, rfl, .inl ⟨_, rfl⟩, kit_int_bool K, false, rfl, q⟩
theorem ok_is_within {f : Addr} {fd : FuncData} (F : Fun K "is_within" "is_within" s_is_within f fd) (B : Bl mg) (Q_is_whole : Cal P w K mg base "is_whole" 1 ["thing"] sp_is_whole) : FnOk P w K mg base CX0 2 f fd ["thing", "least", "most"] sp_is_within := by
  refine F.ok sc_is_within (fun vs H Q E h => ?_) (fun cdv A outer s H vs Q E hr h => ?_)
  · obtain ⟨i, a, b, rfl, _⟩ := h
    rfl
  · obtain ⟨i, a, b, rfl, q⟩ := h
    refine ⟨_, (pss_one (ps_ret (pe_and (pe_cal Q_is_whole (hr.mono (by decide)) rfl (pa_cons (pv 0) pa_nil)) (pe_one (pe_chain op_le op_le (pv 1) (pv 0) (pv 2)))))), ?_⟩
    refine ⟨_, rfl, i, rfl, true, rfl, iteT ?_⟩
    refine ⟨_, rfl, _, rfl, _, _, rfl, rfl, _, rfl, ?_⟩
    cases h : decide (a ≤ i) with
    | true =>
      rw [h, Bool.true_and] at q
      exact iteT ⟨_, rfl, _, _, rfl, rfl, q⟩
    | false =>
      rw [h, Bool.false_and] at q
      exact iteF q
theorem ok_is_number {f : Addr} {fd : FuncData} {tF : Tok} (F : Fun K "is_number" "is_number" s_is_number f fd) (B : Bl mg) (C_FARTHEST : mg "FARTHEST" = some (.int 1000000 tF)) (Q_is_within : Cal P w K mg base "is_within" 2 ["thing", "least", "most"] sp_is_within) : FnOk P w K mg base CX0 3 f fd ["thing"] sp_is_number := by
  refine F.ok sc_is_number (fun vs H Q E h => ?_) (fun cdv A outer s H vs Q E hr h => ?_)
  · obtain ⟨i, rfl, _⟩ := h
    rfl
  · obtain ⟨i, rfl, q⟩ := h
    refine ⟨_, (pss_one (ps_ret (pe_cal Q_is_within (hr.mono (by decide)) rfl (pa_cons (pv 0) (pa_cons (pe_un un_neg (pe_glob (v := .int 1000000) rfl C_FARTHEST ⟨_, rfl⟩)) (pa_cons (pe_glob (v := .int 1000000) rfl C_FARTHEST ⟨_, rfl⟩) pa_nil)))))), ?_⟩
    exact ⟨_, rfl, _, rfl, i, -1000000, 1000000, rfl, q⟩
theorem ok_is_fit_list {f : Addr} {fd : FuncData} {tW : Tok} (F : Fun K "is_fit_list" "is_fit_list" s_is_fit_list f fd) (B : Bl mg) (C_MOST_WORTHS : mg "MOST_WORTHS" = some (.int 40 tW)) : FnOk P w K mg base CX0 1 f fd ["things"] sp_is_fit_list := by
  refine F.ok sc_is_fit_list (fun vs H Q E h => ?_) (fun cdv A outer s H vs Q E hr h => ?_)
  · obtain ⟨a, xs, rfl, _⟩ := h
    rfl
  · obtain ⟨a, xs, rfl, hH, q⟩ := h
    refine ⟨_, (pss_one (ps_ret (pe_and (pe_callB call_isinst rfl B.isinstance bt_isinstance (pa_cons (pv 0) (pa_cons (pe_bltn (v := .ty "list") rfl B.list bt_list rfl) pa_nil))) (pe_one (pe_chain op_le op_le pe_int (pe_callB call_len_seq rfl B.len bt_len (pa_cons (pv 0) pa_nil)) (pe_glob (v := .int 40) rfl C_MOST_WORTHS ⟨_, rfl⟩)))))), ?_⟩
    refine ⟨_, rfl, _, _, _, _, true, rfl, .lst hH, rfl, .inl ⟨_, rfl⟩, kit_list_list K, true, rfl, iteT ?_⟩
    refine ⟨_, rfl, a, xs, rfl, .inl (SqL.of hH), _, _, rfl, rfl, _, rfl, ?_⟩
    cases h : decide ((1 : Int) ≤ xs.length) with
    | true =>
      rw [h, Bool.true_and] at q
      exact iteT ⟨_, _, rfl, rfl, q⟩
    | false =>
      rw [h, Bool.false_and] at q
      exact iteF q
theorem ok_check_within {f : Addr} {fd : FuncData} (F : Fun K "check_within" "check_within" s_check_within f fd) (B : Bl mg) (Q_is_within : Cal P w K mg base "is_within" 2 ["thing", "least", "most"] sp_is_within) : FnOk P w K mg base CX0 3 f fd ["thing", "least", "most"] sp_check_within := by
  refine F.ok sc_check_within (fun vs H Q E h => ?_) (fun cdv A outer s H vs Q E hr h => ?_)
  · obtain ⟨i, a, b, rfl, _⟩ := h
    rfl
  · obtain ⟨i, a, b, rfl, h1, h2, q⟩ := h
    refine ⟨_, (pss_one (ps_if (pt_not (pt_val (pe_cal Q_is_within (hr.mono (by decide)) rfl (pa_cons (pv 0) (pa_cons (pv 1) (pa_cons (pv 2) pa_nil)))))) pss_never pss_nil)), ?_⟩
    refine ⟨_, rfl, _, rfl, _, rfl, i, a, b, rfl, _, rfl, ?_⟩
    rw [decide_eq_true h1, decide_eq_true h2]
    exact iteF q
theorem ok_check_few {f : Addr} {fd : FuncData} {tM : Tok} (F : Fun K "check_few" "check_few" s_check_few f fd) (B : Bl mg) (C_MOST_FEW : mg "MOST_FEW" = some (.int 5 tM)) (Q_check_within : Cal P w K mg base "check_within" 3 ["thing", "least", "most"] sp_check_within) : FnOk P w K mg base CX0 4 f fd ["few"] sp_check_few := by
  refine F.ok sc_check_few (fun vs H Q E h => ?_) (fun cdv A outer s H vs Q E hr h => ?_)
  · obtain ⟨i, rfl, _⟩ := h
    rfl
  · obtain ⟨i, rfl, h1, h2, q⟩ := h
    refine ⟨_, (pss_one (ps_expr (pe_cal Q_check_within (hr.mono (by decide)) rfl (pa_cons (pv 0) (pa_cons pe_int (pa_cons (pe_glob (v := .int 5) rfl C_MOST_FEW ⟨_, rfl⟩) pa_nil)))))), ?_⟩
    exact ⟨_, rfl, i, 0, 5, rfl, h1, h2, q⟩
theorem ok_check_worths {f : Addr} {fd : FuncData} (F : Fun K "check_worths" "check_worths" s_check_worths f fd) (B : Bl mg) (Q_is_fit_list : Cal P w K mg base "is_fit_list" 1 ["things"] sp_is_fit_list) (Q_is_number : Cal P w K mg base "is_number" 3 ["thing"] sp_is_number) : FnOk P w K mg base CX0 4 f fd ["worths"] sp_check_worths := by
  refine F.ok sc_check_worths (fun vs H Q E h => ?_) (fun cdv A outer s H vs Q E hr h => ?_)
  · obtain ⟨a, ns, rfl, _⟩ := h
    rfl
  · obtain ⟨a, ns, rfl, g, q⟩ := h
    refine ⟨_, (pss_one (ps_if (PW.pt (pw_or (pt_not (pt_val (pe_cal Q_is_fit_list (hr.mono (by decide)) rfl (pa_cons (pv 0) pa_nil)))) (pw_or1 (pt_not (pt_val (pe_callB (call_allL rfl) rfl B.all bt_all (pa_cons (pe_comp (osc := (defScope s_check_worths)) (own := ["worth"]) (fr := []) (js := []) rfl rfl (by exact ⟨rfl, by decide +kernel, by decide +kernel, by decide +kernel, by decide +kernel, by decide +kernel⟩) rfl (pi_list (pv 0)) (fun _ _ _ => (pg_name (i := 0) (show List.Nodup (["worth"] : List Str) from by decide +kernel) rfl (Or.inl rfl))) (fun _ _ _ => if_nil) (fun _ _ _ => (pe_cal Q_is_number (hr.mono (by decide)) rfl (pa_cons (pv 0) pa_nil)))) pa_nil))))))) pss_never pss_nil)), ?_⟩
    refine ⟨_, rfl, a, _, rfl, g.at_, _, rfl, ?_⟩
    have l1 := g.lo
    have l2 := g.hi
    rw [List.length_map, decide_eq_true (show (1 : Int) ≤ (ns.length : Nat) by omega), decide_eq_true (show ((ns.length : Nat) : Int) ≤ 40 by omega)]
    refine iteF ?_
    refine ⟨_, rfl, a, rfl, ⟨_, SqL.of g.at_⟩, fun acc hacc => comp_list (K := K) (a := a) (xs := ns.map V.int) (fun i ys H' => Same H H' ∧ H' acc = some (.lst ys) ∧ ys = (List.replicate i true).map V.bl)
      ⟨Same.laid hacc, upd_same, rfl⟩ (fun i ys H' _ p => p.1.seq (SqL.of g.at_)) ?_ ?_ ?_⟩
    · rintro i ys H' hi ⟨_, _, rfl⟩
      rw [List.length_map] at hi ⊢
      rw [List.length_replicate]
      exact small1000 (by omega)
    · rintro i x ys H' hx ⟨s1, h1, rfl⟩
      rw [List.getElem?_map] at hx
      obtain ⟨n, hn, rfl⟩ := Option.map_eq_some_iff.mp hx
      refine ⟨keep1, _, rfl, n, rfl, h1, ?_⟩
      obtain ⟨b1, b2⟩ := g.bd n (List.mem_of_getElem? hn)
      rw [decide_eq_true b1, decide_eq_true b2]
      refine ⟨fun b o e => by rw [upd_ne (ne_of_none e hacc)]; exact s1 b o e, upd_same, ?_⟩
      rw [List.replicate_succ', List.map_append]
      rfl
    · rintro ys H' ⟨s1, h1, rfl⟩
      refine ⟨acc, _, rfl, SqL.of h1, _, rfl, ?_⟩
      have e : (List.replicate (ns.map V.int).length true).all id = true := by simp
      rw [e]
      exact iteF (q _ s1)
theorem ok_check_some_left {f : Addr} {fd : FuncData} (F : Fun K "check_some_left" "check_some_left" s_check_some_left f fd) (B : Bl mg) : FnOk P w K mg base CX0 1 f fd ["many", "lost"] sp_check_some_left := by
  refine F.ok sc_check_some_left (fun vs H Q E h => ?_) (fun cdv A outer s H vs Q E hr h => ?_)
  · obtain ⟨m, l, rfl, _⟩ := h
    rfl
  · obtain ⟨m, l, rfl, hl, q⟩ := h
    refine ⟨_, (pss_one (ps_if (pt_cmpR op_le (pv 0) (pe_op op_mul pe_int (pv 1)) (nomark _)) pss_never pss_nil)), ?_⟩
    refine ⟨_, rfl, _, rfl, _, _, rfl, rfl, .inl ⟨by decide, by decide⟩, _, _, rfl, rfl, _, rfl, ?_⟩
    rw [decide_eq_false (by omega)]
    exact iteF q
end

/-! ### refusals: the checks, of things of any kind -/
section
variable {H : Hp} {v : V} {n : String}
theorem _root_.L2.Kn.two (k : Kn H v n) : (∃ i, v = .int i ∧ (n == "int") = true) ∨ ((n == "int") = false ∧ ∀ a b, inW v a b = false) := by
  cases k <;> first | exact .inl ⟨_, rfl, by decide⟩ | exact .inr ⟨by decide, fun _ _ => rfl⟩
theorem _root_.L2.Kn.lists (k : Kn H v n) : (∃ a xs, v = .ref a ∧ H a = some (.lst xs) ∧ n = "list") ∨ (sub n "list" = false ∧ view H v = none) := by
  cases k with
  | lst e => exact .inl ⟨_, _, rfl, e, rfl⟩
  | tup e => exact .inr ⟨by decide, by simp [view, e]⟩
  | dK e => exact .inr ⟨by decide, by simp [view, e]⟩
  | _ => exact .inr ⟨by decide, rfl⟩
end
def fitL (x : Option (List V)) : Bool := match x with
  | some xs => decide ((1 : Int) ≤ xs.length) && decide ((xs.length : Int) ≤ 40)
  | none => false
def num (v : V) : Bool := inW v (-1000000) 1000000
def okW (x : Option (List V)) : Bool := match x with
  | some xs => fitL (some xs) && xs.all num
  | none => false
/-- no list of numbers -/
structure BadW (H : Hp) (v : V) : Prop where
  kn : ∃ n, Kn H v n
  its : ∀ xs, view H v = some xs → ∀ x ∈ xs, ∃ n, Kn H x n
  bad : okW (view H v) = false
theorem view_same {H H' : Hp} {v : V} {xs : List V} (s : Same H H') (h : view H v = some xs) : view H' v = some xs := by
  unfold view at h ⊢
  split at h
  · split at h
    · rename_i a _ ys e
      cases h
      rw [s _ _ e]
    · cases h
  · cases h
def sv_is_whole : Sp := fun vs H Q _ => ∃ v n, vs = [v] ∧ Kn H v n ∧ Q (.bl (n == "int")) H
def sv_is_within : Sp := fun vs H Q _ => ∃ v n, ∃ a b : Int, vs = [v, .int a, .int b] ∧ Kn H v n ∧ Q (.bl (inW v a b)) H
def sv_is_number : Sp := fun vs H Q _ => ∃ v n, vs = [v] ∧ Kn H v n ∧ Q (.bl (num v)) H
def sv_is_fit_list : Sp := fun vs H Q _ => ∃ v n, vs = [v] ∧ Kn H v n ∧ Q (.bl (fitL (view H v))) H
structure Fits (a b : Int) : Prop where
  la : a.natAbs.log2 < 1920
  lb : b.natAbs.log2 < 1920
  l1 : (Str.empty ++ ("not a whole number from " : Str)).length ≤ sizeLine
  l2 : (Str.empty ++ ("not a whole number from " : Str) ++ (toString a : Str)).length ≤ sizeLine
  l3 : (Str.empty ++ ("not a whole number from " : Str) ++ (toString a : Str) ++ (" to " : Str)).length ≤ sizeLine
  l4 : (Str.empty ++ ("not a whole number from " : Str) ++ (toString a : Str) ++ (" to " : Str) ++ (toString b : Str)).length ≤ sizeLine
def sx_check_within (cN : Addr) : Sp := fun vs H _ E => ∃ v n, ∃ a b : Int, vs = [v, .int a, .int b] ∧ Kn H v n ∧ inW v a b = false ∧ Fits a b ∧ E (.ref cN) none H
def sx_check_few (cN : Addr) : Sp := fun vs H _ E => ∃ v n, vs = [v] ∧ Kn H v n ∧ inW v 0 5 = false ∧ E (.ref cN) none H
def sx_check_worths (cW : Addr) : Sp := fun vs H _ E => ∃ v, vs = [v] ∧ BadW H v ∧ ∀ H', Same H H' → E (.ref cW) none H'
def sx_check_some_left (cW : Addr) : Sp := fun vs H _ E => ∃ m l : Int, vs = [.int m, .int l] ∧ m ≤ 2 * l ∧ E (.ref cW) none H
section
variable {P : Program} {w : World} {K : PySem.W.Frag} {mg : Str → Option Value} {base : Heap}
theorem okv_is_whole {f : Addr} {fd : FuncData} (F : Fun K "is_whole" "is_whole" s_is_whole f fd) (B : Bl mg) : FnOk P w K mg base CX0 1 f fd ["thing"] sv_is_whole := by
  refine F.ok sc_is_whole (fun vs H Q E h => ?_) (fun cdv A outer s H vs Q E hr h => ?_)
  · obtain ⟨v, n, rfl, _⟩ := h
    rfl
  · obtain ⟨v, n, rfl, kn, q⟩ := h
    refine ⟨_, (pss_one (ps_ret (pe_and (pe_callB call_isinst rfl B.isinstance bt_isinstance (pa_cons (pv 0) (pa_cons (pe_bltn (v := .ty "int") rfl B.int bt_int rfl) pa_nil))) (pe_one (pe_not (pe_callB call_isinst rfl B.isinstance bt_isinstance (pa_cons (pv 0) (pa_cons (pe_bltn (v := .ty "bool") rfl B.bool bt_bool rfl) pa_nil)))))))), ?_⟩
    have t1 := kit_tab K kn.mem (m := "int") (by decide)
    have t2 := kit_tab K kn.mem (m := "bool") (by decide)
    cases hs : sub n "int" with
    | false =>
      rw [hs] at t1
      refine ⟨_, rfl, _, _, _, _, false, rfl, kn.ty K, rfl, .inl ⟨_, rfl⟩, t1, false, rfl, iteF ?_⟩
      have tab : ∀ n ∈ kinds, sub n "int" = false → (n == "int") = false := by decide +kernel
      rw [tab n kn.mem hs] at q
      exact q
    | true =>
      rw [hs] at t1
      refine ⟨_, rfl, _, _, _, _, true, rfl, kn.ty K, rfl, .inl ⟨_, rfl⟩, t1, true, rfl, iteT ?_⟩
      refine ⟨_, rfl, _, _, _, _, _, rfl, kn.ty K, rfl, .inl ⟨_, rfl⟩, t2, _, rfl, ?_⟩
      have tab : ∀ n ∈ kinds, sub n "int" = true → (!sub n "bool") = (n == "int") := by decide +kernel
      rw [tab n kn.mem hs]
      exact q
theorem okv_is_within {f : Addr} {fd : FuncData} (F : Fun K "is_within" "is_within" s_is_within f fd) (B : Bl mg) (V_is_whole : Cal P w K mg base "is_whole" 1 ["thing"] sv_is_whole) : FnOk P w K mg base CX0 2 f fd ["thing", "least", "most"] sv_is_within := by
  refine F.ok sc_is_within (fun vs H Q E h => ?_) (fun cdv A outer s H vs Q E hr h => ?_)
  · obtain ⟨v, n, a, b, rfl, _⟩ := h
    rfl
  · obtain ⟨v, n, a, b, rfl, kn, q⟩ := h
    refine ⟨_, (pss_one (ps_ret (pe_and (pe_cal V_is_whole (hr.mono (by decide)) rfl (pa_cons (pv 0) pa_nil)) (pe_one (pe_chain op_le op_le (pv 1) (pv 0) (pv 2)))))), ?_⟩
    refine ⟨_, rfl, v, n, rfl, kn, _, rfl, ?_⟩
    rcases kn.two with ⟨i, rfl, e⟩ | ⟨e, hw⟩
    · rw [e]
      refine iteT ?_
      refine ⟨_, rfl, _, rfl, _, _, rfl, rfl, _, rfl, ?_⟩
      have q : Q (.bl (decide (a ≤ i) && decide (i ≤ b))) H := q
      cases h : decide (a ≤ i) with
      | true =>
        rw [h, Bool.true_and] at q
        exact iteT ⟨_, rfl, _, _, rfl, rfl, q⟩
      | false =>
        rw [h, Bool.false_and] at q
        exact iteF q
    · rw [e]
      rw [hw] at q
      exact iteF q
theorem okv_is_number {f : Addr} {fd : FuncData} {tF : Tok} (F : Fun K "is_number" "is_number" s_is_number f fd) (B : Bl mg) (C_FARTHEST : mg "FARTHEST" = some (.int 1000000 tF)) (V_is_within : Cal P w K mg base "is_within" 2 ["thing", "least", "most"] sv_is_within) : FnOk P w K mg base CX0 3 f fd ["thing"] sv_is_number := by
  refine F.ok sc_is_number (fun vs H Q E h => ?_) (fun cdv A outer s H vs Q E hr h => ?_)
  · obtain ⟨v, n, rfl, _⟩ := h
    rfl
  · obtain ⟨v, n, rfl, kn, q⟩ := h
    refine ⟨_, (pss_one (ps_ret (pe_cal V_is_within (hr.mono (by decide)) rfl (pa_cons (pv 0) (pa_cons (pe_un un_neg (pe_glob (v := .int 1000000) rfl C_FARTHEST ⟨_, rfl⟩)) (pa_cons (pe_glob (v := .int 1000000) rfl C_FARTHEST ⟨_, rfl⟩) pa_nil)))))), ?_⟩
    exact ⟨_, rfl, _, rfl, v, n, -1000000, 1000000, rfl, kn, q⟩
theorem okv_is_fit_list {f : Addr} {fd : FuncData} {tW : Tok} (F : Fun K "is_fit_list" "is_fit_list" s_is_fit_list f fd) (B : Bl mg) (C_MOST_WORTHS : mg "MOST_WORTHS" = some (.int 40 tW)) : FnOk P w K mg base CX0 1 f fd ["things"] sv_is_fit_list := by
  refine F.ok sc_is_fit_list (fun vs H Q E h => ?_) (fun cdv A outer s H vs Q E hr h => ?_)
  · obtain ⟨v, n, rfl, _⟩ := h
    rfl
  · obtain ⟨v, n, rfl, kn, q⟩ := h
    refine ⟨_, (pss_one (ps_ret (pe_and (pe_callB call_isinst rfl B.isinstance bt_isinstance (pa_cons (pv 0) (pa_cons (pe_bltn (v := .ty "list") rfl B.list bt_list rfl) pa_nil))) (pe_one (pe_chain op_le op_le pe_int (pe_callB call_len_seq rfl B.len bt_len (pa_cons (pv 0) pa_nil)) (pe_glob (v := .int 40) rfl C_MOST_WORTHS ⟨_, rfl⟩)))))), ?_⟩
    have t1 := kit_tab K kn.mem (m := "list") (by decide)
    have ty := kn.ty K
    rcases kn.lists with ⟨a, xs, rfl, hH, rfl⟩ | ⟨e, hv⟩
    · refine ⟨_, rfl, _, _, _, _, true, rfl, ty, rfl, .inl ⟨_, rfl⟩, t1, true, rfl, iteT ?_⟩
      have ev : view H (.ref a) = some xs := by simp [view, hH]
      rw [ev] at q
      have q : Q (.bl (decide ((1 : Int) ≤ xs.length) && decide ((xs.length : Int) ≤ 40))) H := q
      refine ⟨_, rfl, a, xs, rfl, .inl (SqL.of hH), _, _, rfl, rfl, _, rfl, ?_⟩
      cases h : decide ((1 : Int) ≤ xs.length) with
      | true =>
        rw [h, Bool.true_and] at q
        exact iteT ⟨_, _, rfl, rfl, q⟩
      | false =>
        rw [h, Bool.false_and] at q
        exact iteF q
    · rw [e] at t1
      rw [hv] at q
      exact ⟨_, rfl, _, _, _, _, false, rfl, ty, rfl, .inl ⟨_, rfl⟩, t1, false, rfl, iteF q⟩
theorem okx_check_within {f cN : Addr} {fd : FuncData} (F : Fun K "check_within" "check_within" s_check_within f fd) (B : Bl mg) (X_BadNumber : Exc K mg "BadNumber" cN) (V_is_within : Cal P w K mg base "is_within" 2 ["thing", "least", "most"] sv_is_within) :
    FnOk P w K mg base (CX1 P w) 3 f fd ["thing", "least", "most"] (sx_check_within cN) := by
  refine F.okX sc_check_within (fun vs H Q E h => ?_) (fun cdv A outer s H vs Q E hr h => ?_)
  · obtain ⟨v, n, a, b, rfl, _⟩ := h
    rfl
  · obtain ⟨v, n, a, b, rfl, kn, hw, fi, q⟩ := h
    refine ⟨_, (pss_one (ps_if (pt_not (pt_val (pe_cal V_is_within (hr.mono (by decide)) rfl (pa_cons (pv 0) (pa_cons (pv 1) (pa_cons (pv 2) pa_nil)))))) (pss_one (ps_raise X_BadNumber rfl (pa_cons (pe_fstr (pj_cons pe_str (pj_cons (pe_fmtI (pv 1)) (pj_cons pe_str (pj_cons (pe_fmtI (pv 2)) pj_nil))))) pa_nil))) pss_nil)), ?_⟩
    refine ⟨_, rfl, _, rfl, _, rfl, v, n, a, b, rfl, kn, _, rfl, ?_⟩
    rw [hw]
    refine iteT ?_
    refine ⟨_, rfl, fi.l1, _, rfl, a, rfl, fi.la, _, rfl, fi.l2, _, rfl, fi.l3, _, rfl, b, rfl, fi.lb, _, rfl, fi.l4, fi.l4, ?_, q⟩
    show 1 ≤ sizeLine
    decide
theorem okx_check_few {f cN : Addr} {fd : FuncData} {tM : Tok} (F : Fun K "check_few" "check_few" s_check_few f fd) (B : Bl mg) (C_MOST_FEW : mg "MOST_FEW" = some (.int 5 tM)) {sq : Sp}
    (R_check_within : CalX P w K mg base "check_within" 3 ["thing", "least", "most"] (sor sq (sx_check_within cN))) : FnOk P w K mg base (CX1 P w) 4 f fd ["few"] (sx_check_few cN) := by
  refine F.okX sc_check_few (fun vs H Q E h => ?_) (fun cdv A outer s H vs Q E hr h => ?_)
  · obtain ⟨v, n, rfl, _⟩ := h
    rfl
  · obtain ⟨v, n, rfl, kn, hw, q⟩ := h
    refine ⟨_, (pss_one (ps_expr (pe_calX R_check_within (hr.mono (by decide)) rfl cx_pass (pa_cons (pv 0) (pa_cons pe_int (pa_cons (pe_glob (v := .int 5) rfl C_MOST_FEW ⟨_, rfl⟩) pa_nil)))))), ?_⟩
    exact ⟨_, rfl, .inr ⟨v, n, 0, 5, rfl, kn, hw, ⟨by decide, by decide, by decide +kernel, by decide +kernel, by decide +kernel, by decide +kernel⟩, q⟩⟩
theorem okx_check_worths {f cW : Addr} {fd : FuncData} (F : Fun K "check_worths" "check_worths" s_check_worths f fd) (B : Bl mg) (X_BadWorths : Exc K mg "BadWorths" cW) (V_is_fit_list : Cal P w K mg base "is_fit_list" 1 ["things"] sv_is_fit_list)
    (V_is_number : Cal P w K mg base "is_number" 3 ["thing"] sv_is_number) : FnOk P w K mg base (CX1 P w) 4 f fd ["worths"] (sx_check_worths cW) := by
  refine F.okX sc_check_worths (fun vs H Q E h => ?_) (fun cdv A outer s H vs Q E hr h => ?_)
  · obtain ⟨v, rfl, _⟩ := h
    rfl
  · obtain ⟨v, rfl, bw, q⟩ := h
    obtain ⟨n, kn⟩ := bw.kn
    refine ⟨_, (pss_one (ps_if (PW.pt (pw_or (pt_not (pt_val (pe_cal V_is_fit_list (hr.mono (by decide)) rfl (pa_cons (pv 0) pa_nil)))) (pw_or1 (pt_not (pt_val (pe_callB (call_allL rfl) rfl B.all bt_all (pa_cons (pe_comp (osc := (defScope s_check_worths)) (own := ["worth"]) (fr := []) (js := []) rfl rfl (by exact ⟨rfl, by decide +kernel, by decide +kernel, by decide +kernel, by decide +kernel, by decide +kernel⟩) rfl (pi_list (pv 0)) (fun _ _ _ => (pg_name (i := 0) (show List.Nodup (["worth"] : List Str) from by decide +kernel) rfl (Or.inl rfl))) (fun _ _ _ => if_nil) (fun _ _ _ => (pe_cal V_is_number (hr.mono (by decide)) rfl (pa_cons (pv 0) pa_nil)))) pa_nil))))))) (pss_one (ps_raise X_BadWorths rfl (pa_cons pe_str pa_nil))) pss_nil)), ?_⟩
    refine ⟨_, rfl, v, n, rfl, kn, _, rfl, ?_⟩
    have hb := bw.bad
    rcases kn.lists with ⟨a, xs, rfl, hH, rfl⟩ | ⟨e, hv⟩
    · have ev : view H (.ref a) = some xs := by simp [view, hH]
      rw [ev] at hb ⊢
      cases hf : fitL (some xs) with
      | false => exact iteT ⟨by decide, q H fun _ _ e => e⟩
      | true =>
        have hb : (fitL (some xs) && xs.all num) = false := hb
        rw [hf, Bool.true_and] at hb
        have hl : xs.length ≤ 40 := by
          have hf : (decide ((1 : Int) ≤ xs.length) && decide ((xs.length : Int) ≤ 40)) = true := hf
          rw [Bool.and_eq_true, decide_eq_true_eq, decide_eq_true_eq] at hf
          omega
        refine iteF ?_
        refine ⟨_, rfl, a, rfl, ⟨_, SqL.of hH⟩, fun acc hacc => comp_list (K := K) (a := a) (xs := xs) (fun i ys H' => Same H H' ∧ H' acc = some (.lst ys) ∧ ys = ((xs.take i).map num).map V.bl)
          ⟨Same.laid hacc, upd_same, by simp⟩ (fun i ys H' _ p => p.1.seq (SqL.of hH)) ?_ ?_ ?_⟩
        · rintro i ys H' hi ⟨_, _, rfl⟩
          rw [List.length_map, List.length_map, List.length_take]
          exact small1000 (by omega)
        · rintro i x ys H' hx ⟨s1, h1, rfl⟩
          obtain ⟨m, km⟩ := bw.its xs ev x (List.mem_of_getElem? hx)
          refine ⟨keep1, _, rfl, x, m, rfl, km.same s1, h1, ?_⟩
          refine ⟨fun b o e => by rw [upd_ne (ne_of_none e hacc)]; exact s1 b o e, upd_same, ?_⟩
          rw [List.take_succ, hx]
          simp
        · rintro ys H' ⟨s1, h1, rfl⟩
          refine ⟨acc, _, rfl, SqL.of h1, _, rfl, ?_⟩
          have e : ((xs.take xs.length).map num).all id = false := by
            rw [List.take_length, List.all_map]
            exact hb
          rw [e]
          exact iteT ⟨by decide, q _ s1⟩
    · rw [hv]
      exact iteT ⟨by decide, q H fun _ _ e => e⟩
theorem okx_check_some_left {f cW : Addr} {fd : FuncData} (F : Fun K "check_some_left" "check_some_left" s_check_some_left f fd) (B : Bl mg) (X_BadWorths : Exc K mg "BadWorths" cW) : FnOk P w K mg base (CX1 P w) 1 f fd ["many", "lost"] (sx_check_some_left cW) := by
  refine F.okX sc_check_some_left (fun vs H Q E h => ?_) (fun cdv A outer s H vs Q E hr h => ?_)
  · obtain ⟨m, l, rfl, _⟩ := h
    rfl
  · obtain ⟨m, l, rfl, hl, q⟩ := h
    refine ⟨_, (pss_one (ps_if (pt_cmpR op_le (pv 0) (pe_op op_mul pe_int (pv 1)) (nomark _)) (pss_one (ps_raise X_BadWorths rfl (pa_cons pe_str pa_nil))) pss_nil)), ?_⟩
    refine ⟨_, rfl, _, rfl, _, _, rfl, rfl, .inl ⟨by decide, by decide⟩, _, _, rfl, rfl, _, rfl, ?_⟩
    rw [decide_eq_true hl]
    exact iteT ⟨by decide, q⟩
end

theorem cutV_cut {ns ms : List Int} {k : Nat} (hp : ms.Perm ns) (hs : ms.Pairwise (· ≤ ·)) (hk : 2 * k < ns.length) :
    cutV (ms.map V.int) (some (k : Int)) (some ((ns.length : Int) - (k : Int))) = (Mth.cut ns k).map V.int := by
  have e := Mth.eq_srt hp hs
  have hl : ms.length = ns.length := hp.length_eq
  have e2 : (ns.length : Int) - (k : Int) = ((ns.length - k : Nat) : Int) := by omega
  unfold cutV
  rw [List.length_map, e2, HT.sIx_nat, HT.sIx_nat, hl, Nat.min_eq_left (by omega), Nat.min_eq_left (by omega), ← List.map_drop, ← List.map_take, e]
  unfold Mth.cut
  congr 2
  omega
theorem at_int {ns : List Int} {i : Nat} (h : i < ns.length) : atI (ns.map V.int) (i : Int) = some (V.int (ns.getD i 0)) := by
  refine atI_nat ?_
  rw [List.getElem?_map, List.getD_eq_getElem?_getD, List.getElem?_eq_getElem h]
  rfl
theorem at_last {ns : List Int} (h : 0 < ns.length) : atI (ns.map V.int) (-1) = some (V.int (ns.getD (ns.length - 1) 0)) := by
  have hne : ns ≠ [] := by
    intro e
    rw [e] at h
    simp at h
  have e : ns = ns.dropLast ++ [ns.getD (ns.length - 1) 0] := by
    conv => lhs; rw [← List.dropLast_concat_getLast hne]
    rw [List.getLast_eq_getElem, List.getD_eq_getElem?_getD, List.getElem?_eq_getElem (by omega)]
    rfl
  conv => lhs; rw [e, List.map_append]
  exact atI_last _ _
section
variable {P : Program} {w : World} {K : PySem.W.Frag} {mg : Str → Option Value} {base : Heap}
theorem ok_without_ends {f : Addr} {fd : FuncData} (F : Fun K "without_ends" "without_ends" s_without_ends f fd) (B : Bl mg) : FnOk P w K mg base CX0 1 f fd ["worths", "few"] sp_without_ends := by
  refine F.ok sc_without_ends (fun vs H Q E h => ?_) (fun cdv A outer s H vs Q E hr h => ?_)
  · obtain ⟨a, ns, k, rfl, _⟩ := h
    rfl
  · obtain ⟨a, ns, k, rfl, g1, hlt, q⟩ := h
    refine ⟨_, (pss_one (ps_ret (pe_slice sl_list (pe_callB call_sorted rfl B.sorted bt_sorted (pa_cons (pv 0) pa_nil)) (po_some (pv 1)) (po_some (pe_op op_sub (pe_callB call_len_seq rfl B.len bt_len (pa_cons (pv 0) pa_nil)) (pv 1)))))), ?_⟩
    have l2 := g1.hi
    refine ⟨_, rfl, a, ns, rfl, SqL.of g1.at_, by omega, fun l ms hl hp hs => ?_⟩
    refine ⟨_, rfl, _, rfl, ?_⟩
    refine ⟨_, rfl, a, _, rfl, .inl (SqL.of (Same.laid hl _ _ g1.at_)), _, rfl, _, _, rfl, rfl, _, rfl, ?_⟩
    refine ⟨l, _, rfl, SqL.of upd_same, fun p hp2 => ?_⟩
    have e := cutV_cut hp hs hlt
    rw [List.length_map, e]
    have s2 : Same H (upd H l (.lst (ms.map V.int))) := Same.laid hl
    refine q _ p ?_ (s2.trans' (Same.laid hp2)) upd_same
    exact s2.free hp2
theorem ok_half_way {f : Addr} {fd : FuncData} (F : Fun K "half_way" "half_way" s_half_way f fd) (B : Bl mg) : FnOk P w K mg base CX0 1 f fd ["left"] sp_half_way := by
  refine F.ok sc_half_way (fun vs H Q E h => ?_) (fun cdv A outer s H vs Q E hr h => ?_)
  · obtain ⟨a, ms, rfl, _⟩ := h
    rfl
  · obtain ⟨l, ms, rfl, h1, hc, q⟩ := h
    refine ⟨_, (pss_one (ps_ret (pe_op op_fdiv (pe_op op_add (pe_ix ix_list (pv 0) pe_int (fun _ _ => rfl)) (pe_ix ix_list (pv 0) (pe_un un_neg pe_int) (fun _ _ => rfl))) pe_int))), ?_⟩
    exact ⟨_, rfl, l, _, _, _, rfl, rfl, SqL.of h1, at_int (i := 0) hc, _, rfl, 1, rfl, l, _, _, _, rfl, rfl, SqL.of h1, at_last hc, _, _, rfl, rfl, _, _, rfl, rfl, ⟨by decide, by decide⟩, q⟩
theorem ok_how_far {f : Addr} {fd : FuncData} (F : Fun K "how_far" "how_far" s_how_far f fd) (B : Bl mg) : FnOk P w K mg base CX0 1 f fd ["worths"] sp_how_far := by
  refine F.ok sc_how_far (fun vs H Q E h => ?_) (fun cdv A outer s H vs Q E hr h => ?_)
  · obtain ⟨a, ns, rfl, _⟩ := h
    rfl
  · obtain ⟨a, ns, rfl, g1, q⟩ := h
    refine ⟨_, (pss_one (ps_ret (pe_op op_sub (pe_callB (call_maxL rfl) rfl B.max bt_max (pa_cons (pv 0) pa_nil)) (pe_callB (call_minL rfl) rfl B.min bt_min (pa_cons (pv 0) pa_nil))))), ?_⟩
    have l1 := g1.lo
    refine ⟨_, rfl, a, ns, rfl, SqL.of g1.at_, by omega, fun M m1 m2 => ?_⟩
    refine ⟨_, rfl, a, ns, rfl, SqL.of g1.at_, by omega, fun M' m1' m2' => ?_⟩
    refine ⟨_, _, rfl, rfl, ?_⟩
    rw [Mth.most_eq m1 m2, Mth.least_eq m1' m2']
    exact q
theorem ok_trimmed {f : Addr} {fd : FuncData} (F : Fun K "trimmed" "trimmed" s_trimmed f fd) (B : Bl mg) (Q_check_few : Cal P w K mg base "check_few" 4 ["few"] sp_check_few) (Q_check_worths : Cal P w K mg base "check_worths" 4 ["worths"] sp_check_worths)
    (Q_check_some_left : Cal P w K mg base "check_some_left" 1 ["many", "lost"] sp_check_some_left) (Q_without_ends : Cal P w K mg base "without_ends" 1 ["worths", "few"] sp_without_ends) : FnOk P w K mg base CX0 5 f fd ["worths", "few"] sp_trimmed := by
  refine F.ok sc_trimmed (fun vs H Q E h => ?_) (fun cdv A outer s H vs Q E hr h => ?_)
  · obtain ⟨a, ns, k, rfl, _⟩ := h
    rfl
  · obtain ⟨a, ns, k, rfl, g, hk, hlt, q⟩ := h
    refine ⟨_, (pss_cons (ps_expr (pe_cal Q_check_few (hr.mono (by decide)) rfl (pa_cons (pv 1) pa_nil)))
      (pss_cons (ps_expr (pe_cal Q_check_worths (hr.mono (by decide)) rfl (pa_cons (pv 0) pa_nil)))
      (pss_cons (ps_expr (pe_cal Q_check_some_left (hr.mono (by decide)) rfl (pa_cons (pe_callB call_len_seq rfl B.len bt_len (pa_cons (pv 0) pa_nil)) (pa_cons (pv 1) pa_nil))))
      (pss_one (ps_ret (pe_cal Q_without_ends (hr.mono (by decide)) rfl (pa_cons (pv 0) (pa_cons (pv 1) pa_nil)))))))), ?_⟩
    refine ⟨_, rfl, (k : Int), rfl, by omega, by omega, ?_⟩
    refine ⟨_, rfl, a, ns, rfl, g, fun H1 s1 => ?_⟩
    have g1 := g.same s1
    have l2 := g.hi
    refine ⟨_, rfl, a, _, rfl, .inl (SqL.of g1.at_), _, rfl, _, _, rfl, ?_, ?_⟩
    · rw [List.length_map]
      omega
    exact ⟨_, rfl, _, rfl, a, ns, k, rfl, g1, hlt, fun H2 l hl s2 h2 => q H2 l (s1.free hl) (s1.trans' s2) h2⟩
theorem ok_middle {f : Addr} {fd : FuncData} (F : Fun K "middle" "middle" s_middle f fd) (B : Bl mg) (Q_trimmed : CalK P w K mg base "trimmed" 5 ["worths", "few"] ["few"] sp_trimmed) (Q_half_way : Cal P w K mg base "half_way" 1 ["left"] sp_half_way) : FnOk P w K mg base CX0 6 f fd ["worths", "few"] sp_middle := by
  refine F.ok sc_middle (fun vs H Q E h => ?_) (fun cdv A outer s H vs Q E hr h => ?_)
  · obtain ⟨a, ns, k, rfl, _⟩ := h
    rfl
  · obtain ⟨a, ns, k, rfl, g, hk, hlt, q⟩ := h
    refine ⟨_, (pss_one (ps_ret (pe_cal Q_half_way (hr.mono (by decide)) rfl (pa_cons (pe_calK Q_trimmed (hr.mono (by decide)) rfl (pa_cons (pv 0) pa_nil) (pk_cons (pv 1) pk_nil)) pa_nil)))), ?_⟩
    refine ⟨_, rfl, _, rfl, a, ns, k, rfl, g, hk, hlt, fun H1 l hl s1 h1 => ?_⟩
    have hc : 0 < (Mth.cut ns k).length := by rw [Mth.cut_length]; omega
    exact ⟨l, _, rfl, h1, hc, q H1 s1⟩
theorem ok_spread {f : Addr} {fd : FuncData} (F : Fun K "spread" "spread" s_spread f fd) (B : Bl mg) (Q_check_worths : Cal P w K mg base "check_worths" 4 ["worths"] sp_check_worths) (Q_how_far : Cal P w K mg base "how_far" 1 ["worths"] sp_how_far) : FnOk P w K mg base CX0 5 f fd ["worths"] sp_spread := by
  refine F.ok sc_spread (fun vs H Q E h => ?_) (fun cdv A outer s H vs Q E hr h => ?_)
  · obtain ⟨a, ns, rfl, _⟩ := h
    rfl
  · obtain ⟨a, ns, rfl, g, q⟩ := h
    refine ⟨_, (pss_cons (ps_expr (pe_cal Q_check_worths (hr.mono (by decide)) rfl (pa_cons (pv 0) pa_nil)))
      (pss_one (ps_ret (pe_cal Q_how_far (hr.mono (by decide)) rfl (pa_cons (pv 0) pa_nil))))), ?_⟩
    refine ⟨_, rfl, a, ns, rfl, g, fun H1 s1 => ?_⟩
    exact ⟨_, rfl, a, ns, rfl, g.same s1, q H1 s1⟩
theorem ok_is_between {f : Addr} {fd : FuncData} (F : Fun K "is_between" "is_between" s_is_between f fd) (B : Bl mg) (Q_check_worths : Cal P w K mg base "check_worths" 4 ["worths"] sp_check_worths) (Q_is_whole : Cal P w K mg base "is_whole" 1 ["thing"] sp_is_whole) :
    FnOk P w K mg base CX0 5 f fd ["worth", "worths"] sp_is_between := by
  refine F.ok sc_is_between (fun vs H Q E h => ?_) (fun cdv A outer s H vs Q E hr h => ?_)
  · obtain ⟨i, a, ns, rfl, _⟩ := h
    rfl
  · obtain ⟨i, a, ns, rfl, g, q⟩ := h
    refine ⟨_, (pss_cons (ps_expr (pe_cal Q_check_worths (hr.mono (by decide)) rfl (pa_cons (pv 1) pa_nil)))
      (pss_one (ps_ret (pe_and (pe_cal Q_is_whole (hr.mono (by decide)) rfl (pa_cons (pv 0) pa_nil)) (pe_one (pe_chain op_le op_le (pe_callB (call_minL rfl) rfl B.min bt_min (pa_cons (pv 1) pa_nil)) (pv 0) (pe_callB (call_maxL rfl) rfl B.max bt_max (pa_cons (pv 1) pa_nil)))))))), ?_⟩
    refine ⟨_, rfl, a, ns, rfl, g, fun H1 s1 => ?_⟩
    have g1 := g.same s1
    have l1 := g.lo
    have q1 := q H1 s1
    refine ⟨_, rfl, i, rfl, true, rfl, iteT ?_⟩
    refine ⟨_, rfl, a, ns, rfl, SqL.of g1.at_, by omega, fun M m1 m2 => ?_⟩
    refine ⟨_, rfl, _, _, rfl, rfl, _, rfl, ?_⟩
    have eM := Mth.least_eq m1 m2
    rw [eM]
    unfold least at q1
    cases h : decide ((Mth.srt ns).getD 0 0 ≤ i) with
    | true =>
      rw [h, Bool.true_and] at q1
      refine iteT ⟨_, rfl, a, ns, rfl, SqL.of g1.at_, by omega, fun M' m1' m2' => ⟨_, _, rfl, rfl, ?_⟩⟩
      rw [Mth.most_eq m1' m2']
      exact q1
    | false =>
      rw [h, Bool.false_and] at q1
      exact iteF q1
end

/-! ### pairs -/
def viewT (H : Hp) (v : V) : Option (List V) := match v with
  | .ref a => (match H a with
    | some (.tup xs) => some xs
    | _ => none)
  | _ => none
def pairV (x : Option (List V)) : Bool := match x with
  | some xs => (xs.length : Int) == 2
  | none => false
def pairW (H : Hp) (v : V) (lo hi : Int) : Bool := match viewT H v with
  | some [x, y] => num x && inW y lo hi
  | _ => false
def KnT (H : Hp) (v : V) : Prop := ∀ xs, viewT H v = some xs → ∀ x ∈ xs, ∃ n, Kn H x n
section
variable {H H' : Hp} {v : V} {n : String}
theorem viewT_tup {a : Addr} {xs : List V} (e : H a = some (.tup xs)) : viewT H (.ref a) = some xs := by simp [viewT, e]
theorem _root_.L2.Kn.tups (k : Kn H v n) : (∃ a xs, v = .ref a ∧ H a = some (.tup xs) ∧ n = "tuple") ∨ (sub n "tuple" = false ∧ viewT H v = none) := by
  cases k with
  | tup e => exact .inl ⟨_, _, rfl, e, rfl⟩
  | lst e => exact .inr ⟨by decide, by simp [viewT, e]⟩
  | dK e => exact .inr ⟨by decide, by simp [viewT, e]⟩
  | _ => exact .inr ⟨by decide, rfl⟩
theorem _root_.L2.Kn.viewT_same (k : Kn H v n) (s : Same H H') : viewT H' v = viewT H v := by
  cases k with
  | tup e => rw [viewT_tup e, viewT_tup (s _ _ e)]
  | lst e => simp [viewT, e, s _ _ e]
  | dK e => simp [viewT, e, s _ _ e]
  | _ => rfl
theorem KnT.same (t : KnT H v) (k : Kn H v n) (s : Same H H') : KnT H' v := fun xs e x hx => by
  rw [k.viewT_same s] at e
  obtain ⟨m, km⟩ := t xs e x hx
  exact ⟨m, km.same s⟩
theorem pairW_same {lo hi : Int} (k : Kn H v n) (s : Same H H') : pairW H' v lo hi = pairW H v lo hi := by
  unfold pairW
  rw [k.viewT_same s]
theorem pairW_2 {lo hi : Int} {x y : V} (e : viewT H v = some [x, y]) : pairW H v lo hi = (num x && inW y lo hi) := by
  unfold pairW
  rw [e]
theorem pairW_no {lo hi : Int} (e : pairV (viewT H v) = false) : pairW H v lo hi = false := by
  unfold pairW
  split
  · rename_i x y e2
    rw [e2] at e
    cases e
  · rfl
theorem pairV_2 {x : Option (List V)} (e : pairV x = true) : ∃ a b, x = some [a, b] := by
  unfold pairV at e
  split at e
  · rename_i xs
    have e : (xs.length : Int) = 2 := by simpa using e
    match xs, e with
    | [a, b], _ => exact ⟨a, b, rfl⟩
    | [], e => simp at e
    | [a], e => simp at e
    | a :: b :: c :: r, e =>
      simp at e
      omega
  · cases e
end
def okP (H : Hp) (x : Option (List V)) (lo hi : Int) : Bool := match x with
  | some xs => fitL (some xs) && xs.all fun v => pairW H v lo hi
  | none => false
/-- no list of pairs -/
structure BadP (H : Hp) (v : V) (lo hi : Int) : Prop where
  kn : ∃ n, Kn H v n
  its : ∀ xs, view H v = some xs → ∀ x ∈ xs, (∃ n, Kn H x n) ∧ KnT H x
  bad : okP H (view H v) lo hi = false
theorem view_kn {H H' : Hp} {v : V} {n : String} (k : Kn H v n) (s : Same H H') : view H' v = view H v := by
  cases k with
  | tup e => simp [view, e, s _ _ e]
  | lst e => simp [view, e, s _ _ e]
  | dK e => simp [view, e, s _ _ e]
  | _ => rfl
theorem BadP.same {H H' : Hp} {v : V} {lo hi : Int} (b : BadP H v lo hi) (s : Same H H') : BadP H' v lo hi := by
  obtain ⟨n, k⟩ := b.kn
  have ev := view_kn k s
  refine ⟨⟨n, k.same s⟩, fun xs e x hx => ?_, ?_⟩
  · rw [ev] at e
    obtain ⟨⟨m, km⟩, kt⟩ := b.its xs e x hx
    exact ⟨⟨m, km.same s⟩, kt.same km s⟩
  · rw [ev]
    have hb := b.bad
    cases hv : view H v with
    | none => rfl
    | some xs =>
      rw [hv] at hb
      have e : (xs.all fun v => pairW H' v lo hi) = xs.all fun v => pairW H v lo hi := by
        rw [Bool.eq_iff_iff, List.all_eq_true, List.all_eq_true]
        refine ⟨fun h x hx => ?_, fun h x hx => ?_⟩
        · obtain ⟨⟨m, km⟩, _⟩ := b.its xs hv x hx
          rw [← pairW_same km s]
          exact h x hx
        · obtain ⟨⟨m, km⟩, _⟩ := b.its xs hv x hx
          rw [pairW_same km s]
          exact h x hx
      show (fitL (some xs) && xs.all fun v => pairW H' v lo hi) = false
      rw [e]
      exact hb
/-- a list of pairs -/
structure GoodP (H : Hp) (a : Addr) (ps : List (Int × Int)) (lo hi : Int) : Prop where
  at_ : ∃ L : List Addr, H a = some (.lst (L.map V.ref)) ∧ L.length = ps.length ∧ ∀ (i : Nat) (p : Int × Int) (b : Addr), ps[i]? = some p → L[i]? = some b → H b = some (.tup [.int p.1, .int p.2])
  le1 : 1 ≤ ps.length
  le40 : ps.length ≤ 40
  bd : ∀ p ∈ ps, (-1000000 ≤ p.1 ∧ p.1 ≤ 1000000) ∧ lo ≤ p.2 ∧ p.2 ≤ hi
theorem GoodP.same {H H' : Hp} {a : Addr} {ps : List (Int × Int)} {lo hi : Int} (g : GoodP H a ps lo hi) (s : Same H H') : GoodP H' a ps lo hi := by
  obtain ⟨L, h1, h2, h3⟩ := g.at_
  exact ⟨⟨L, s _ _ h1, h2, fun i p b e1 e2 => s _ _ (h3 i p b e1 e2)⟩, g.le1, g.le40, g.bd⟩
theorem GoodP.item {H : Hp} {a : Addr} {ps : List (Int × Int)} {lo hi : Int} {L : List Addr} (h2 : L.length = ps.length) (h3 : ∀ (i : Nat) (p : Int × Int) (b : Addr), ps[i]? = some p → L[i]? = some b → H b = some (.tup [.int p.1, .int p.2])) {i : Nat} {x : V}
    (hx : (L.map V.ref)[i]? = some x) : ∃ b p, x = .ref b ∧ ps[i]? = some p ∧ L[i]? = some b ∧ H b = some (.tup [.int p.1, .int p.2]) := by
  rw [List.getElem?_map] at hx
  obtain ⟨b, hb, rfl⟩ := Option.map_eq_some_iff.mp hx
  have hi : i < ps.length := by
    rw [← h2]
    exact (List.getElem?_eq_some_iff.mp hb).1
  exact ⟨b, ps[i], rfl, List.getElem?_eq_getElem hi, hb, h3 i _ b (List.getElem?_eq_getElem hi) hb⟩
def sv_is_pair : Sp := fun vs H Q _ => ∃ v n, vs = [v] ∧ Kn H v n ∧ Q (.bl (pairV (viewT H v))) H
def sv_is_number_pair : Sp := fun vs H Q _ => ∃ v n, vs = [v] ∧ Kn H v n ∧ KnT H v ∧ Q (.bl (pairW H v (-1000000) 1000000)) H
def sp_check_points : Sp := fun vs H Q _ => ∃ a ps, vs = [.ref a] ∧ GoodP H a ps (-1000000) 1000000 ∧ ∀ H', Same H H' → Q .non H'
def sx_check_points (cW : Addr) : Sp := fun vs H _ E => ∃ v, vs = [v] ∧ BadP H v (-1000000) 1000000 ∧ ∀ H', Same H H' → E (.ref cW) none H'
section
variable {P : Program} {w : World} {K : PySem.W.Frag} {mg : Str → Option Value} {base : Heap}
theorem okv_is_pair {f : Addr} {fd : FuncData} (F : Fun K "is_pair" "is_pair" s_is_pair f fd) (B : Bl mg) : FnOk P w K mg base CX0 1 f fd ["thing"] sv_is_pair := by
  refine F.ok sc_is_pair (fun vs H Q E h => ?_) (fun cdv A outer s H vs Q E hr h => ?_)
  · obtain ⟨v, n, rfl, _⟩ := h
    rfl
  · obtain ⟨v, n, rfl, kn, q⟩ := h
    refine ⟨_, (pss_one (ps_ret (pe_and (pe_callB call_isinst rfl B.isinstance bt_isinstance (pa_cons (pv 0) (pa_cons (pe_bltn (v := .ty "tuple") rfl B.tuple bt_tuple rfl) pa_nil))) (pe_one (pe_cmpR op_eq (pe_callB call_len_seq rfl B.len bt_len (pa_cons (pv 0) pa_nil)) pe_int (nomark _)))))), ?_⟩
    have t1 := kit_tab K kn.mem (m := "tuple") (by decide)
    have ty := kn.ty K
    rcases kn.tups with ⟨a, xs, rfl, hH, rfl⟩ | ⟨e, hv⟩
    · rw [viewT_tup hH] at q
      refine ⟨_, rfl, _, _, _, _, true, rfl, ty, rfl, .inl ⟨_, rfl⟩, t1, true, rfl, iteT ?_⟩
      refine ⟨_, rfl, a, xs, rfl, .inr (SqT.of hH), rfl, ?_⟩
      rw [dec_int]
      exact q
    · rw [e] at t1
      rw [hv] at q
      exact ⟨_, rfl, _, _, _, _, false, rfl, ty, rfl, .inl ⟨_, rfl⟩, t1, false, rfl, iteF q⟩
theorem okv_is_number_pair {f : Addr} {fd : FuncData} (F : Fun K "is_number_pair" "is_number_pair" s_is_number_pair f fd) (B : Bl mg) (V_is_pair : Cal P w K mg base "is_pair" 1 ["thing"] sv_is_pair) (V_is_number : Cal P w K mg base "is_number" 3 ["thing"] sv_is_number) :
    FnOk P w K mg base CX0 4 f fd ["thing"] sv_is_number_pair := by
  refine F.ok sc_is_number_pair (fun vs H Q E h => ?_) (fun cdv A outer s H vs Q E hr h => ?_)
  · obtain ⟨v, n, rfl, _⟩ := h
    rfl
  · obtain ⟨v, n, rfl, kn, kt, q⟩ := h
    refine ⟨_, (pss_one (ps_ret (pe_and (pe_cal V_is_pair (hr.mono (by decide)) rfl (pa_cons (pv 0) pa_nil)) (pe_and (pe_cal V_is_number (hr.mono (by decide)) rfl (pa_cons (pe_ix ix_tup (pv 0) pe_int (fun _ _ => rfl)) pa_nil)) (pe_one (pe_cal V_is_number (hr.mono (by decide)) rfl (pa_cons (pe_ix ix_tup (pv 0) pe_int (fun _ _ => rfl)) pa_nil))))))), ?_⟩
    refine ⟨_, rfl, v, n, rfl, kn, _, rfl, ?_⟩
    cases hp : pairV (viewT H v) with
    | false =>
      rw [pairW_no hp] at q
      exact iteF q
    | true =>
      obtain ⟨x, y, e⟩ := pairV_2 hp
      rw [pairW_2 e] at q
      rcases kn.tups with ⟨a, xs, rfl, hH, rfl⟩ | ⟨_, hv⟩
      · rw [viewT_tup hH] at e
        cases e
        obtain ⟨n1, k1⟩ := kt _ (viewT_tup hH) x (by simp)
        obtain ⟨n2, k2⟩ := kt _ (viewT_tup hH) y (by simp)
        refine iteT ⟨_, rfl, a, _, _, _, rfl, rfl, SqT.of hH, rfl, x, n1, rfl, k1, _, rfl, ?_⟩
        cases hx : num x with
        | false =>
          rw [hx, Bool.false_and] at q
          exact iteF q
        | true =>
          rw [hx, Bool.true_and] at q
          exact iteT ⟨_, rfl, a, _, _, _, rfl, rfl, SqT.of hH, rfl, y, n2, rfl, k2, q⟩
      · rw [hv] at e
        cases e
theorem ok_check_points {f : Addr} {fd : FuncData} (F : Fun K "check_points" "check_points" s_check_points f fd) (B : Bl mg) (V_is_fit_list : Cal P w K mg base "is_fit_list" 1 ["things"] sv_is_fit_list) (V_is_number_pair : Cal P w K mg base "is_number_pair" 4 ["thing"] sv_is_number_pair) :
    FnOk P w K mg base CX0 5 f fd ["points"] sp_check_points := by
  refine F.ok sc_check_points (fun vs H Q E h => ?_) (fun cdv A outer s H vs Q E hr h => ?_)
  · obtain ⟨a, ps, rfl, _⟩ := h
    rfl
  · obtain ⟨a, ps, rfl, g, q⟩ := h
    refine ⟨_, (pss_one (ps_if (PW.pt (pw_or (pt_not (pt_val (pe_cal V_is_fit_list (hr.mono (by decide)) rfl (pa_cons (pv 0) pa_nil)))) (pw_or1 (pt_not (pt_val (pe_callB (call_allL rfl) rfl B.all bt_all (pa_cons (pe_comp (osc := (defScope s_check_points)) (own := ["point"]) (fr := []) (js := []) rfl rfl (by exact ⟨rfl, by decide +kernel, by decide +kernel, by decide +kernel, by decide +kernel, by decide +kernel⟩) rfl (pi_list (pv 0)) (fun _ _ _ => (pg_name (i := 0) (show List.Nodup (["point"] : List Str) from by decide +kernel) rfl (Or.inl rfl))) (fun _ _ _ => if_nil) (fun _ _ _ => (pe_cal V_is_number_pair (hr.mono (by decide)) rfl (pa_cons (pv 0) pa_nil)))) pa_nil))))))) pss_never pss_nil)), ?_⟩
    obtain ⟨L, h1, h2, h3⟩ := g.at_
    have l1 := g.le1
    have l2 := g.le40
    refine ⟨_, rfl, _, _, rfl, .lst h1, _, rfl, ?_⟩
    have ev : view H (.ref a) = some (L.map V.ref) := by simp [view, h1]
    have ef : fitL (some (L.map V.ref)) = true := by
      show (decide ((1 : Int) ≤ (L.map V.ref).length) && decide (((L.map V.ref).length : Int) ≤ 40)) = true
      rw [List.length_map, decide_eq_true (show (1 : Int) ≤ (L.length : Nat) by omega), decide_eq_true (show ((L.length : Nat) : Int) ≤ 40 by omega)]
      rfl
    rw [ev, ef]
    refine iteF ?_
    refine ⟨_, rfl, a, rfl, ⟨_, SqL.of h1⟩, fun acc hacc => comp_list (K := K) (a := a) (xs := L.map V.ref) (fun i ys H' => Same H H' ∧ H' acc = some (.lst ys) ∧ ys = (List.replicate i true).map V.bl)
      ⟨Same.laid hacc, upd_same, rfl⟩ (fun i ys H' _ p => p.1.seq (SqL.of h1)) ?_ ?_ ?_⟩
    · rintro i ys H' hi ⟨_, _, rfl⟩
      rw [List.length_map] at hi ⊢
      rw [List.length_replicate]
      exact small1000 (by omega)
    · rintro i x ys H' hx ⟨s1, k1, rfl⟩
      obtain ⟨b, p, rfl, hp, _, hb⟩ := GoodP.item (a := a) (lo := 0) (hi := 0) h2 h3 hx
      have hb' := s1 _ _ hb
      refine ⟨keep1, _, rfl, _, _, rfl, .tup hb', fun xs e y hy => ?_, k1, ?_⟩
      · rw [viewT_tup hb'] at e
        cases e
        simp only [List.mem_cons, List.mem_nil_iff, or_false] at hy
        rcases hy with rfl | rfl
        · exact ⟨_, .int _⟩
        · exact ⟨_, .int _⟩
      · obtain ⟨⟨z1, z2⟩, z3, z4⟩ := g.bd p (List.mem_of_getElem? hp)
        rw [pairW_2 (viewT_tup hb')]
        have e1 : num (.int p.1) = true := by
          show (decide _ && decide _) = true
          rw [decide_eq_true z1, decide_eq_true z2]
          rfl
        have e2 : inW (.int p.2) (-1000000) 1000000 = true := by
          show (decide _ && decide _) = true
          rw [decide_eq_true z3, decide_eq_true z4]
          rfl
        rw [e1, e2]
        refine ⟨fun b o e => by rw [upd_ne (ne_of_none e hacc)]; exact s1 b o e, upd_same, ?_⟩
        rw [List.replicate_succ', List.map_append]
        rfl
    · rintro ys H' ⟨s1, k1, rfl⟩
      refine ⟨acc, _, rfl, SqL.of k1, _, rfl, ?_⟩
      have e : (List.replicate (L.map V.ref).length true).all id = true := by simp
      rw [e]
      exact iteF (q _ s1)
theorem okx_check_points {f cW : Addr} {fd : FuncData} (F : Fun K "check_points" "check_points" s_check_points f fd) (B : Bl mg) (X_BadWorths : Exc K mg "BadWorths" cW) (V_is_fit_list : Cal P w K mg base "is_fit_list" 1 ["things"] sv_is_fit_list)
    (V_is_number_pair : Cal P w K mg base "is_number_pair" 4 ["thing"] sv_is_number_pair) : FnOk P w K mg base (CX1 P w) 5 f fd ["points"] (sx_check_points cW) := by
  refine F.okX sc_check_points (fun vs H Q E h => ?_) (fun cdv A outer s H vs Q E hr h => ?_)
  · obtain ⟨v, rfl, _⟩ := h
    rfl
  · obtain ⟨v, rfl, bw, q⟩ := h
    obtain ⟨n, kn⟩ := bw.kn
    refine ⟨_, (pss_one (ps_if (PW.pt (pw_or (pt_not (pt_val (pe_cal V_is_fit_list (hr.mono (by decide)) rfl (pa_cons (pv 0) pa_nil)))) (pw_or1 (pt_not (pt_val (pe_callB (call_allL rfl) rfl B.all bt_all (pa_cons (pe_comp (osc := (defScope s_check_points)) (own := ["point"]) (fr := []) (js := []) rfl rfl (by exact ⟨rfl, by decide +kernel, by decide +kernel, by decide +kernel, by decide +kernel, by decide +kernel⟩) rfl (pi_list (pv 0)) (fun _ _ _ => (pg_name (i := 0) (show List.Nodup (["point"] : List Str) from by decide +kernel) rfl (Or.inl rfl))) (fun _ _ _ => if_nil) (fun _ _ _ => (pe_cal V_is_number_pair (hr.mono (by decide)) rfl (pa_cons (pv 0) pa_nil)))) pa_nil))))))) (pss_one (ps_raise X_BadWorths rfl (pa_cons pe_str pa_nil))) pss_nil)), ?_⟩
    refine ⟨_, rfl, v, n, rfl, kn, _, rfl, ?_⟩
    have hb := bw.bad
    rcases kn.lists with ⟨a, xs, rfl, hH, rfl⟩ | ⟨e, hv⟩
    · have ev : view H (.ref a) = some xs := by simp [view, hH]
      rw [ev] at hb ⊢
      cases hf : fitL (some xs) with
      | false => exact iteT ⟨by decide, q H fun _ _ e => e⟩
      | true =>
        have hb : (fitL (some xs) && xs.all fun v => pairW H v (-1000000) 1000000) = false := hb
        rw [hf, Bool.true_and] at hb
        have hl : xs.length ≤ 40 := by
          have hf : (decide ((1 : Int) ≤ xs.length) && decide ((xs.length : Int) ≤ 40)) = true := hf
          rw [Bool.and_eq_true, decide_eq_true_eq, decide_eq_true_eq] at hf
          omega
        refine iteF ?_
        refine ⟨_, rfl, a, rfl, ⟨_, SqL.of hH⟩, fun acc hacc => comp_list (K := K) (a := a) (xs := xs) (fun i ys H' => Same H H' ∧ H' acc = some (.lst ys) ∧ ys = ((xs.take i).map fun v => pairW H v (-1000000) 1000000).map V.bl)
          ⟨Same.laid hacc, upd_same, by simp⟩ (fun i ys H' _ p => p.1.seq (SqL.of hH)) ?_ ?_ ?_⟩
        · rintro i ys H' hi ⟨_, _, rfl⟩
          rw [List.length_map, List.length_map, List.length_take]
          exact small1000 (by omega)
        · rintro i x ys H' hx ⟨s1, h1, rfl⟩
          obtain ⟨⟨m, km⟩, kt⟩ := bw.its xs ev x (List.mem_of_getElem? hx)
          refine ⟨keep1, _, rfl, x, m, rfl, km.same s1, kt.same km s1, h1, ?_⟩
          refine ⟨fun b o e => by rw [upd_ne (ne_of_none e hacc)]; exact s1 b o e, upd_same, ?_⟩
          rw [List.take_succ, hx, pairW_same km s1]
          simp
        · rintro ys H' ⟨s1, h1, rfl⟩
          refine ⟨acc, _, rfl, SqL.of h1, _, rfl, ?_⟩
          have e : ((xs.take xs.length).map fun v => pairW H v (-1000000) 1000000).all id = false := by
            rw [List.take_length, List.all_map]
            exact hb
          rw [e]
          exact iteT ⟨by decide, q _ s1⟩
    · rw [hv]
      exact iteT ⟨by decide, q H fun _ _ e => e⟩
end

/-! ### planes -/
abbrev NN (H : Hp) (a : Addr) (ps : List (Int × Int)) : Prop := GoodP H a ps (-1000000) 1000000
theorem GoodP.fst {H : Hp} {a l : Addr} {ps : List (Int × Int)} (g : NN H a ps) {H' : Hp} (h : H' l = some (.lst ((ps.map Prod.fst).map V.int))) : Good H' l (ps.map Prod.fst) :=
  ⟨h, by rw [List.length_map]; exact g.le1, by rw [List.length_map]; exact g.le40, fun n hn => by
    obtain ⟨p, hp, rfl⟩ := List.mem_map.mp hn
    exact (g.bd p hp).1⟩
theorem GoodP.snd {H : Hp} {a l : Addr} {ps : List (Int × Int)} (g : NN H a ps) {H' : Hp} (h : H' l = some (.lst ((ps.map Prod.snd).map V.int))) : Good H' l (ps.map Prod.snd) :=
  ⟨h, by rw [List.length_map]; exact g.le1, by rw [List.length_map]; exact g.le40, fun n hn => by
    obtain ⟨p, hp, rfl⟩ := List.mem_map.mp hn
    exact (g.bd p hp).2⟩
def sp_nums (sel : Int × Int → Int) : Sp := fun vs H Q _ => ∃ a ps, vs = [.ref a] ∧ NN H a ps ∧ ∀ l H', H l = none → Same H H' → H' l = some (.lst ((ps.map sel).map V.int)) → Q (.ref l) H'
def sp_box : Sp := fun vs H Q _ => ∃ a ps, vs = [.ref a] ∧ NN H a ps ∧ ∀ b p1 p2 H', H b = none → Same H H' → H' p1 = some (.tup [.int (least (ps.map Prod.fst)), .int (most (ps.map Prod.fst))]) →
  H' p2 = some (.tup [.int (least (ps.map Prod.snd)), .int (most (ps.map Prod.snd))]) → H' b = some (.tup [.ref p1, .ref p2]) → Q (.ref b) H'
def sp_middle_point : Sp := fun vs H Q _ => ∃ a ps k, vs = [.ref a, .int (k : Nat)] ∧ NN H a ps ∧ k ≤ 5 ∧ 2 * k < ps.length ∧ ∀ b H', H b = none → Same H H' → H' b = some (.tup [.int (mid (ps.map Prod.fst) k), .int (mid (ps.map Prod.snd) k)]) → Q (.ref b) H'
def bet (ns : List Int) (i : Int) : Bool := decide (least ns ≤ i) && decide (i ≤ most ns)
def sp_in_box : Sp := fun vs H Q _ => ∃ (b : Addr) (x y : Int) (a : Addr) (ps : List (Int × Int)), vs = [.ref b, .ref a] ∧ H b = some (.tup [.int x, .int y]) ∧ NN H a ps ∧
  ∀ H', Same H H' → Q (.bl ((num (.int x) && num (.int y)) && (bet (ps.map Prod.fst) x && bet (ps.map Prod.snd) y))) H'
def spr (ns : List Int) : Int := most ns - least ns
def sp_width : Sp := fun vs H Q _ => ∃ a ps, vs = [.ref a] ∧ NN H a ps ∧ ∀ H', Same H H' → Q (.int (if spr (ps.map Prod.snd) > spr (ps.map Prod.fst) then spr (ps.map Prod.snd) else spr (ps.map Prod.fst))) H'
section
variable {P : Program} {w : World} {K : PySem.W.Frag} {mg : Str → Option Value} {base : Heap}
theorem ok_first_numbers {f : Addr} {fd : FuncData} (F : Fun K "first_numbers" "first_numbers" s_first_numbers f fd) (B : Bl mg) : FnOk P w K mg base CX0 1 f fd ["points"] (sp_nums Prod.fst) := by
  refine F.ok sc_first_numbers (fun vs H Q E h => ?_) (fun cdv A outer s H vs Q E hr h => ?_)
  · obtain ⟨a, ps, rfl, _⟩ := h
    rfl
  · obtain ⟨a, ps, rfl, g, q⟩ := h
    refine ⟨_, (pss_one (ps_ret (pe_comp (osc := (defScope s_first_numbers)) (own := ["point"]) (fr := []) (js := []) rfl rfl (by exact ⟨rfl, by decide +kernel, by decide +kernel, by decide +kernel, by decide +kernel, by decide +kernel⟩) rfl (pi_list (pv 0)) (fun _ _ _ => (pg_name (i := 0) (show List.Nodup (["point"] : List Str) from by decide +kernel) rfl (Or.inl rfl))) (fun _ _ _ => if_nil) (fun _ _ _ => (pe_ix (show IxR _ (rIxT K) from ix_tup) (pv 0) pe_int (fun _ _ => rfl)))))), ?_⟩
    obtain ⟨L, h1, h2, h3⟩ := g.at_
    have l2 := g.le40
    refine ⟨_, rfl, a, rfl, ⟨_, SqL.of h1⟩, fun acc hacc => comp_list (K := K) (a := a) (xs := L.map V.ref) (fun i ys H' => Same H H' ∧ H' acc = some (.lst ys) ∧ ys = ((ps.take i).map Prod.fst).map V.int)
      ⟨Same.laid hacc, upd_same, by simp⟩ (fun i ys H' _ p => p.1.seq (SqL.of h1)) ?_ ?_ ?_⟩
    · rintro i ys H' hi ⟨_, _, rfl⟩
      rw [List.length_map, List.length_map, List.length_take]
      exact small1000 (by omega)
    · rintro i x ys H' hx ⟨s1, k1, rfl⟩
      obtain ⟨b, p, rfl, hp, _, hb⟩ := GoodP.item (a := a) (lo := 0) (hi := 0) h2 h3 hx
      refine ⟨keep1, _, rfl, b, _, _, _, rfl, rfl, SqT.of (s1 _ _ hb), rfl, k1, ?_⟩
      refine ⟨fun b o e => by rw [upd_ne (ne_of_none e hacc)]; exact s1 b o e, upd_same, ?_⟩
      rw [List.take_succ, hp]
      simp
    · rintro ys H' ⟨s1, k1, rfl⟩
      rw [List.length_map, h2, List.take_length] at k1
      exact q acc H' hacc s1 k1
theorem ok_second_numbers {f : Addr} {fd : FuncData} (F : Fun K "second_numbers" "second_numbers" s_second_numbers f fd) (B : Bl mg) : FnOk P w K mg base CX0 1 f fd ["points"] (sp_nums Prod.snd) := by
  refine F.ok sc_second_numbers (fun vs H Q E h => ?_) (fun cdv A outer s H vs Q E hr h => ?_)
  · obtain ⟨a, ps, rfl, _⟩ := h
    rfl
  · obtain ⟨a, ps, rfl, g, q⟩ := h
    refine ⟨_, (pss_one (ps_ret (pe_comp (osc := (defScope s_second_numbers)) (own := ["point"]) (fr := []) (js := []) rfl rfl (by exact ⟨rfl, by decide +kernel, by decide +kernel, by decide +kernel, by decide +kernel, by decide +kernel⟩) rfl (pi_list (pv 0)) (fun _ _ _ => (pg_name (i := 0) (show List.Nodup (["point"] : List Str) from by decide +kernel) rfl (Or.inl rfl))) (fun _ _ _ => if_nil) (fun _ _ _ => (pe_ix (show IxR _ (rIxT K) from ix_tup) (pv 0) pe_int (fun _ _ => rfl)))))), ?_⟩
    obtain ⟨L, h1, h2, h3⟩ := g.at_
    have l2 := g.le40
    refine ⟨_, rfl, a, rfl, ⟨_, SqL.of h1⟩, fun acc hacc => comp_list (K := K) (a := a) (xs := L.map V.ref) (fun i ys H' => Same H H' ∧ H' acc = some (.lst ys) ∧ ys = ((ps.take i).map Prod.snd).map V.int)
      ⟨Same.laid hacc, upd_same, by simp⟩ (fun i ys H' _ p => p.1.seq (SqL.of h1)) ?_ ?_ ?_⟩
    · rintro i ys H' hi ⟨_, _, rfl⟩
      rw [List.length_map, List.length_map, List.length_take]
      exact small1000 (by omega)
    · rintro i x ys H' hx ⟨s1, k1, rfl⟩
      obtain ⟨b, p, rfl, hp, _, hb⟩ := GoodP.item (a := a) (lo := 0) (hi := 0) h2 h3 hx
      refine ⟨keep1, _, rfl, b, _, _, _, rfl, rfl, SqT.of (s1 _ _ hb), rfl, k1, ?_⟩
      refine ⟨fun b o e => by rw [upd_ne (ne_of_none e hacc)]; exact s1 b o e, upd_same, ?_⟩
      rw [List.take_succ, hp]
      simp
    · rintro ys H' ⟨s1, k1, rfl⟩
      rw [List.length_map, h2, List.take_length] at k1
      exact q acc H' hacc s1 k1
theorem ok_box {f : Addr} {fd : FuncData} (F : Fun K "box" "box" s_box f fd) (B : Bl mg) (Q_check_points : Cal P w K mg base "check_points" 5 ["points"] sp_check_points) (Q_first_numbers : Cal P w K mg base "first_numbers" 1 ["points"] (sp_nums Prod.fst))
    (Q_second_numbers : Cal P w K mg base "second_numbers" 1 ["points"] (sp_nums Prod.snd)) : FnOk P w K mg base CX0 6 f fd ["points"] sp_box := by
  refine F.ok sc_box (fun vs H Q E h => ?_) (fun cdv A outer s H vs Q E hr h => ?_)
  · obtain ⟨a, ps, rfl, _⟩ := h
    rfl
  · obtain ⟨a, ps, rfl, g, q⟩ := h
    refine ⟨_, (pss_cons (ps_expr (pe_cal Q_check_points (hr.mono (by decide)) rfl (pa_cons (pv 0) pa_nil)))
      (pss_cons (ps_set (i := 1) sc_box.nd rfl (Or.inl rfl) (pe_cal Q_first_numbers (hr.mono (by decide)) rfl (pa_cons (pv 0) pa_nil)))
      (pss_cons (ps_set (i := 2) sc_box.nd rfl (Or.inl rfl) (pe_cal Q_second_numbers (hr.mono (by decide)) rfl (pa_cons (pv 0) pa_nil)))
      (pss_one (ps_ret (pe_tup (pa_cons (pe_tup (pa_cons (pe_callB (call_minL rfl) rfl B.min bt_min (pa_cons (pv 1) pa_nil)) (pa_cons (pe_callB (call_maxL rfl) rfl B.max bt_max (pa_cons (pv 1) pa_nil)) pa_nil))) (pa_cons (pe_tup (pa_cons (pe_callB (call_minL rfl) rfl B.min bt_min (pa_cons (pv 2) pa_nil)) (pa_cons (pe_callB (call_maxL rfl) rfl B.max bt_max (pa_cons (pv 2) pa_nil)) pa_nil))) pa_nil)))))))), ?_⟩
    refine ⟨_, rfl, a, ps, rfl, g, fun H1 s1 => ?_⟩
    have l1 := g.le1
    refine ⟨_, rfl, a, ps, rfl, g.same s1, fun l H2 hl s2 k2 => ?_⟩
    refine ⟨_, rfl, a, ps, rfl, (g.same s1).same s2, fun l3 H3 hl3 s3 k3 => ?_⟩
    have g1 := GoodP.fst g (s3 _ _ k2)
    have g2 := GoodP.snd g k3
    refine ⟨_, rfl, l, _, rfl, SqL.of g1.at_, by rw [List.length_map]; omega, fun m1 a1 b1 => ⟨_, rfl, l, _, rfl, SqL.of g1.at_, by rw [List.length_map]; omega, fun M1 c1 d1 => ⟨(show 2 ≤ sizeLine from by decide), fun p1 h1 => ?_⟩⟩⟩
    have t1 := Same.laid (o := .tup [.int m1, .int M1]) h1
    have g2' := t1 _ _ g2.at_
    refine ⟨_, rfl, l3, _, rfl, SqL.of g2', by rw [List.length_map]; omega, fun m2 a2 b2 => ⟨_, rfl, l3, _, rfl, SqL.of g2', by rw [List.length_map]; omega, fun M2 c2 d2 => ⟨(show 2 ≤ sizeLine from by decide), fun p2 h2 => ⟨(show 2 ≤ sizeLine from by decide), fun b hb => ?_⟩⟩⟩⟩
    have t2 := Same.laid (o := .tup [.int m2, .int M2]) h2
    have t3 := Same.laid (o := .tup [.ref p1, .ref p2]) hb
    have e1 : m1 = least (ps.map Prod.fst) := Mth.least_eq a1 b1
    have e2 : M1 = most (ps.map Prod.fst) := Mth.most_eq c1 d1
    have e3 : m2 = least (ps.map Prod.snd) := Mth.least_eq a2 b2
    have e4 : M2 = most (ps.map Prod.snd) := Mth.most_eq c2 d2
    refine q b p1 p2 _ (s1.free (s2.free (s3.free (t1.free (t2.free hb))))) (s1.trans' (s2.trans' (s3.trans' (t1.trans' (t2.trans' t3))))) ?_ ?_ upd_same
    · rw [← e1, ← e2]
      exact t3 _ _ (t2 _ _ upd_same)
    · rw [← e3, ← e4]
      exact t3 _ _ upd_same
theorem ok_middle_point {f : Addr} {fd : FuncData} (F : Fun K "middle_point" "middle_point" s_middle_point f fd) (B : Bl mg) (Q_check_few : Cal P w K mg base "check_few" 4 ["few"] sp_check_few) (Q_check_points : Cal P w K mg base "check_points" 5 ["points"] sp_check_points)
    (Q_first_numbers : Cal P w K mg base "first_numbers" 1 ["points"] (sp_nums Prod.fst)) (Q_second_numbers : Cal P w K mg base "second_numbers" 1 ["points"] (sp_nums Prod.snd)) (Q_middle : CalK P w K mg base "middle" 6 ["worths", "few"] ["few"] sp_middle) :
    FnOk P w K mg base CX0 7 f fd ["points", "few"] sp_middle_point := by
  refine F.ok sc_middle_point (fun vs H Q E h => ?_) (fun cdv A outer s H vs Q E hr h => ?_)
  · obtain ⟨a, ps, k, rfl, _⟩ := h
    rfl
  · obtain ⟨a, ps, k, rfl, g, hk, hlt, q⟩ := h
    refine ⟨_, (pss_cons (ps_expr (pe_cal Q_check_few (hr.mono (by decide)) rfl (pa_cons (pv 1) pa_nil)))
      (pss_cons (ps_expr (pe_cal Q_check_points (hr.mono (by decide)) rfl (pa_cons (pv 0) pa_nil)))
      (pss_one (ps_ret (pe_tup (pa_cons (pe_calK Q_middle (hr.mono (by decide)) rfl (pa_cons (pe_cal Q_first_numbers (hr.mono (by decide)) rfl (pa_cons (pv 0) pa_nil)) pa_nil) (pk_cons (pv 1) pk_nil)) (pa_cons (pe_calK Q_middle (hr.mono (by decide)) rfl (pa_cons (pe_cal Q_second_numbers (hr.mono (by decide)) rfl (pa_cons (pv 0) pa_nil)) pa_nil) (pk_cons (pv 1) pk_nil)) pa_nil))))))), ?_⟩
    refine ⟨_, rfl, (k : Int), rfl, by omega, by omega, ?_⟩
    refine ⟨_, rfl, a, ps, rfl, g, fun H1 s1 => ?_⟩
    refine ⟨_, rfl, a, ps, rfl, g.same s1, fun l H2 hl s2 k2 => ⟨_, rfl, l, _, k, rfl, GoodP.fst g k2, hk, by rw [List.length_map]; exact hlt, fun H3 s3 => ?_⟩⟩
    refine ⟨_, rfl, a, ps, rfl, ((g.same s1).same s2).same s3, fun l4 H4 hl4 s4 k4 => ⟨_, rfl, l4, _, k, rfl, GoodP.snd g k4, hk, by rw [List.length_map]; exact hlt, fun H5 s5 => ⟨(show 2 ≤ sizeLine from by decide), fun b hb => ?_⟩⟩⟩
    exact q b _ (s1.free (s2.free (s3.free (s4.free (s5.free hb))))) (s1.trans' (s2.trans' (s3.trans' (s4.trans' (s5.trans' (Same.laid hb)))))) upd_same
theorem ok_in_box {f : Addr} {fd : FuncData} (F : Fun K "in_box" "in_box" s_in_box f fd) (B : Bl mg) (Q_check_points : Cal P w K mg base "check_points" 5 ["points"] sp_check_points) (V_is_number_pair : Cal P w K mg base "is_number_pair" 4 ["thing"] sv_is_number_pair)
    (Q_first_numbers : Cal P w K mg base "first_numbers" 1 ["points"] (sp_nums Prod.fst)) (Q_second_numbers : Cal P w K mg base "second_numbers" 1 ["points"] (sp_nums Prod.snd)) (Q_is_between : Cal P w K mg base "is_between" 5 ["worth", "worths"] sp_is_between) :
    FnOk P w K mg base CX0 6 f fd ["point", "points"] sp_in_box := by
  refine F.ok sc_in_box (fun vs H Q E h => ?_) (fun cdv A outer s H vs Q E hr h => ?_)
  · obtain ⟨b, x, y, a, ps, rfl, _⟩ := h
    rfl
  · obtain ⟨b, x, y, a, ps, rfl, hb, g, q⟩ := h
    refine ⟨_, (pss_cons (ps_expr (pe_cal Q_check_points (hr.mono (by decide)) rfl (pa_cons (pv 1) pa_nil)))
      (pss_cons (ps_if (pt_not (pt_val (pe_cal V_is_number_pair (hr.mono (by decide)) rfl (pa_cons (pv 0) pa_nil)))) (pss_one (ps_ret pe_bl)) pss_nil)
      (pss_one (ps_ret (pe_and (pe_cal Q_is_between (hr.mono (by decide)) rfl (pa_cons (pe_ix (show IxR _ (rIxT K) from ix_tup) (pv 0) pe_int (fun _ _ => rfl)) (pa_cons (pe_cal Q_first_numbers (hr.mono (by decide)) rfl (pa_cons (pv 1) pa_nil)) pa_nil))) (pe_one (pe_cal Q_is_between (hr.mono (by decide)) rfl (pa_cons (pe_ix (show IxR _ (rIxT K) from ix_tup) (pv 0) pe_int (fun _ _ => rfl)) (pa_cons (pe_cal Q_second_numbers (hr.mono (by decide)) rfl (pa_cons (pv 1) pa_nil)) pa_nil))))))))), ?_⟩
    refine ⟨_, rfl, a, ps, rfl, g, fun H1 s1 => ?_⟩
    have b1 := s1 _ _ hb
    refine ⟨_, rfl, _, _, rfl, .tup b1, fun xs e z hz => ?_, _, rfl, ?_⟩
    · rw [viewT_tup b1] at e
      cases e
      simp only [List.mem_cons, List.mem_nil_iff, or_false] at hz
      rcases hz with rfl | rfl
      · exact ⟨_, .int _⟩
      · exact ⟨_, .int _⟩
    rw [pairW_2 (viewT_tup b1)]
    have q : ∀ H', Same H H' → Q (.bl ((num (.int x) && inW (.int y) (-1000000) 1000000) && (bet (ps.map Prod.fst) x && bet (ps.map Prod.snd) y))) H' := q
    cases hn : (num (.int x) && inW (.int y) (-1000000) 1000000) with
    | false =>
      rw [hn] at q
      exact iteT (q H1 s1)
    | true =>
      rw [hn] at q
      refine iteF ?_
      refine ⟨_, rfl, b, _, _, _, rfl, rfl, SqT.of b1, rfl, _, rfl, a, ps, rfl, g.same s1, fun l H2 hl s2 k2 => ⟨x, l, _, rfl, GoodP.fst g k2, fun H3 s3 => ⟨_, rfl, ?_⟩⟩⟩
      have b3 := s3 _ _ (s2 _ _ b1)
      cases hx : bet (ps.map Prod.fst) x with
      | false =>
        rw [hx] at q
        have hx' : (decide (least (ps.map Prod.fst) ≤ x) && decide (x ≤ most (ps.map Prod.fst))) = false := hx
        rw [hx']
        exact iteF (q H3 (s1.trans' (s2.trans' s3)))
      | true =>
        rw [hx] at q
        have hx' : (decide (least (ps.map Prod.fst) ≤ x) && decide (x ≤ most (ps.map Prod.fst))) = true := hx
        rw [hx']
        refine iteT ?_
        refine ⟨_, rfl, b, _, _, _, rfl, rfl, SqT.of b3, rfl, _, rfl, a, ps, rfl, ((g.same s1).same s2).same s3, fun l4 H4 hl4 s4 k4 => ⟨y, l4, _, rfl, GoodP.snd g k4, fun H5 s5 => ?_⟩⟩
        exact q H5 (s1.trans' (s2.trans' (s3.trans' (s4.trans' s5))))
theorem ok_width {f : Addr} {fd : FuncData} (F : Fun K "width" "width" s_width f fd) (B : Bl mg) (Q_check_points : Cal P w K mg base "check_points" 5 ["points"] sp_check_points)
    (Q_first_numbers : Cal P w K mg base "first_numbers" 1 ["points"] (sp_nums Prod.fst)) (Q_second_numbers : Cal P w K mg base "second_numbers" 1 ["points"] (sp_nums Prod.snd)) (Q_spread : Cal P w K mg base "spread" 5 ["worths"] sp_spread) :
    FnOk P w K mg base CX0 6 f fd ["points"] sp_width := by
  refine F.ok sc_width (fun vs H Q E h => ?_) (fun cdv A outer s H vs Q E hr h => ?_)
  · obtain ⟨a, ps, rfl, _⟩ := h
    rfl
  · obtain ⟨a, ps, rfl, g, q⟩ := h
    refine ⟨_, (pss_cons (ps_expr (pe_cal Q_check_points (hr.mono (by decide)) rfl (pa_cons (pv 0) pa_nil)))
      (pss_one (ps_ret (pe_callB (call_max2 rfl) rfl B.max bt_max (pa_cons (pe_cal Q_spread (hr.mono (by decide)) rfl (pa_cons (pe_cal Q_first_numbers (hr.mono (by decide)) rfl (pa_cons (pv 0) pa_nil)) pa_nil)) (pa_cons (pe_cal Q_spread (hr.mono (by decide)) rfl (pa_cons (pe_cal Q_second_numbers (hr.mono (by decide)) rfl (pa_cons (pv 0) pa_nil)) pa_nil)) pa_nil)))))), ?_⟩
    refine ⟨_, rfl, a, ps, rfl, g, fun H1 s1 => ?_⟩
    refine ⟨_, rfl, a, ps, rfl, g.same s1, fun l H2 hl s2 k2 => ⟨l, _, rfl, GoodP.fst g k2, fun H3 s3 => ?_⟩⟩
    refine ⟨_, rfl, a, ps, rfl, ((g.same s1).same s2).same s3, fun l4 H4 hl4 s4 k4 => ⟨l4, _, rfl, GoodP.snd g k4, fun H5 s5 => ⟨_, _, rfl, ?_⟩⟩⟩
    exact q H5 (s1.trans' (s2.trans' (s3.trans' (s4.trans' s5))))
end

/-! ### refusals: which one -/
structure Row (K : PySem.W.Frag) (C : Addr) (cs : List Addr) (cL : Addr) (i : Nat) : Prop where
  x : ExcK K C
  k : ∀ j c, cs[j]? = some c → PySem.W.kitOne K (.ref C) (.ref c) = some (decide (j = i))
  l : PySem.W.kitOne K (.ref C) (.ref cL) = some true
  v : PySem.W.kitOne K (.ref C) (.type "ValueError") = some true
  m : PySem.W.exmOne K (.ref C) (.ref cL) = some true
def word (i : Nat) : Str := if i = 0 then "number" else "worths"
def sp_refusal (cN cW : Addr) : Sp := fun vs H Q _ => ∃ (ea : Addr) (i : Nat), i < 2 ∧ vs = [.ref ea] ∧ H ea = some (excO ea (if i = 0 then cN else cW)) ∧ ∀ H', Same H H' → Q (.str (word i)) H'
theorem bt_ValueError : bootBuiltins "ValueError" = some (.type "ValueError") := by decide +kernel
section
variable {P : Program} {w : World} {K : PySem.W.Frag} {mg : Str → Option Value} {base : Heap} {cN cW : Addr}
theorem ok__law_refusal {f c2 c3 c4 c5 c6 c7 c8 cL : Addr} {fd : FuncData} (F : Fun K "_law_refusal" "_law_refusal" s__law_refusal f fd) (B : Bl mg) (BVE : mg "ValueError" = none) (A_LiarError : mg "LiarError" = some (.ref cL)) (A_BadNumber : mg "BadNumber" = some (.ref cN)) (A_BadWorths : mg "BadWorths" = some (.ref cW)) (A_BadLies : mg "BadLies" = some (.ref c2)) (A_BadHouses : mg "BadHouses" = some (.ref c3)) (A_NoHouse : mg "NoHouse" = some (.ref c4)) (A_NoLetter : mg "NoLetter" = some (.ref c5)) (A_NotNow : mg "NotNow" = some (.ref c6)) (A_BadTable : mg "BadTable" = some (.ref c7)) (A_BadSaying : mg "BadSaying" = some (.ref c8))
    (r0 : Row K cN [cN, cW, c2, c3, c4, c5, c6, c7, c8] cL 0) (r1 : Row K cW [cN, cW, c2, c3, c4, c5, c6, c7, c8] cL 1) : FnOk P w K mg base CX0 1 f fd ["_law_caught"] (sp_refusal cN cW) := by
  refine F.ok sc__law_refusal (fun vs H Q E h => ?_) (fun cdv A outer s H vs Q E hr h => ?_)
  · obtain ⟨ea, i, _, rfl, _⟩ := h
    rfl
  · obtain ⟨ea, i, hi, rfl, hH, q⟩ := h
    refine ⟨_, (pss_cons (ps_set (i := 1) sc__law_refusal.nd rfl (Or.inl rfl) (pe_lst (pa_cons (pe_callB call_isexc rfl B.isinstance bt_isinstance (pa_cons (pv 0) (pa_cons (pe_glob (v := .ref _) rfl A_BadNumber rfl) pa_nil))) (pa_cons (pe_callB call_isexc rfl B.isinstance bt_isinstance (pa_cons (pv 0) (pa_cons (pe_glob (v := .ref _) rfl A_BadWorths rfl) pa_nil))) (pa_cons (pe_callB call_isexc rfl B.isinstance bt_isinstance (pa_cons (pv 0) (pa_cons (pe_glob (v := .ref _) rfl A_BadLies rfl) pa_nil))) pa_nil)))))
      (pss_cons (ps_set (i := 1) sc__law_refusal.nd rfl (Or.inl rfl) (pe_op op_cat (pv 1) (pe_lst (pa_cons (pe_callB call_isexc rfl B.isinstance bt_isinstance (pa_cons (pv 0) (pa_cons (pe_glob (v := .ref _) rfl A_BadHouses rfl) pa_nil))) (pa_cons (pe_callB call_isexc rfl B.isinstance bt_isinstance (pa_cons (pv 0) (pa_cons (pe_glob (v := .ref _) rfl A_NoHouse rfl) pa_nil))) (pa_cons (pe_callB call_isexc rfl B.isinstance bt_isinstance (pa_cons (pv 0) (pa_cons (pe_glob (v := .ref _) rfl A_NoLetter rfl) pa_nil))) pa_nil))))))
      (pss_cons (ps_set (i := 1) sc__law_refusal.nd rfl (Or.inl rfl) (pe_op op_cat (pv 1) (pe_lst (pa_cons (pe_callB call_isexc rfl B.isinstance bt_isinstance (pa_cons (pv 0) (pa_cons (pe_glob (v := .ref _) rfl A_NotNow rfl) pa_nil))) (pa_cons (pe_callB call_isexc rfl B.isinstance bt_isinstance (pa_cons (pv 0) (pa_cons (pe_glob (v := .ref _) rfl A_BadTable rfl) pa_nil))) (pa_cons (pe_callB call_isexc rfl B.isinstance bt_isinstance (pa_cons (pv 0) (pa_cons (pe_glob (v := .ref _) rfl A_BadSaying rfl) pa_nil))) pa_nil))))))
      (pss_cons (ps_if (PW.pt (pw_or (pt_cmpR op_ne (pe_bm PySem.F.plainAttrs_list PySem.F.slot_list_count PySem.F.type_list_count mt_count (pv 1) (pa_cons pe_bl pa_nil)) pe_int (nomark _)) (pw_or (pt_not (pt_val (pe_callB call_isexc rfl B.isinstance bt_isinstance (pa_cons (pv 0) (pa_cons (pe_glob (v := .ref _) rfl A_LiarError rfl) pa_nil))))) (pw_or1 (pt_not (pt_val (pe_callB call_isexc rfl B.isinstance bt_isinstance (pa_cons (pv 0) (pa_cons (pe_bltn (v := .ty "ValueError") rfl BVE bt_ValueError rfl) pa_nil))))))))) (pss_one (ps_ret pe_str)) pss_nil)
      (pss_cons (ps_set (i := 2) sc__law_refusal.nd rfl (Or.inl rfl) (pe_lst (pa_cons pe_str (pa_cons pe_str (pa_cons pe_str (pa_cons pe_str (pa_cons pe_str (pa_cons pe_str (pa_cons pe_str (pa_cons pe_str (pa_cons pe_str pa_nil)))))))))))
      (pss_one (ps_ret (pe_ix ix_list (pv 2) (pe_bm PySem.F.plainAttrs_list PySem.F.slot_list_index PySem.F.type_list_index mt_index (pv 1) (pa_cons pe_bl pa_nil)) (fun _ _ => rfl))))))))), ?_⟩
    obtain ⟨C, eC, r⟩ : ∃ C, (if i = 0 then cN else cW) = C ∧ Row K C [cN, cW, c2, c3, c4, c5, c6, c7, c8] cL i := by
      match i, hi with
      | 0, _ => exact ⟨_, rfl, r0⟩
      | 1, _ => exact ⟨_, rfl, r1⟩
    rw [eC] at hH
    refine ⟨_, rfl, ea, C, _, _, _, rfl, hH, r.x, rfl, .inr ⟨_, rfl⟩, r.k 0 _ rfl, _, rfl, ea, C, _, _, _, rfl, hH, r.x, rfl, .inr ⟨_, rfl⟩, r.k 1 _ rfl, _, rfl, ea, C, _, _, _, rfl, hH, r.x, rfl, .inr ⟨_, rfl⟩, r.k 2 _ rfl, (show 3 ≤ sizeLine from by decide), fun p1 h1 => ?_⟩
    have t1 := Same.laid (o := .lst [.bl (decide (0 = i)), .bl (decide (1 = i)), .bl (decide (2 = i))]) h1
    have g1 := t1 _ _ hH
    refine ⟨_, rfl, _, rfl, ea, C, _, _, _, rfl, g1, r.x, rfl, .inr ⟨_, rfl⟩, r.k 3 _ rfl, _, rfl, ea, C, _, _, _, rfl, g1, r.x, rfl, .inr ⟨_, rfl⟩, r.k 4 _ rfl, _, rfl, ea, C, _, _, _, rfl, g1, r.x, rfl, .inr ⟨_, rfl⟩, r.k 5 _ rfl, (show 3 ≤ sizeLine from by decide), fun p2 h2 => ?_⟩
    have t2 := Same.laid (o := .lst [.bl (decide (3 = i)), .bl (decide (4 = i)), .bl (decide (5 = i))]) h2
    refine ⟨p1, p2, _, _, rfl, rfl, t2 _ _ upd_same, upd_same, (show 6 ≤ sizeLine from by decide), fun p3 h3 => ?_⟩
    have t3 := Same.laid (o := .lst ([.bl (decide (0 = i)), .bl (decide (1 = i)), .bl (decide (2 = i))] ++ [.bl (decide (3 = i)), .bl (decide (4 = i)), .bl (decide (5 = i))])) h3
    have g3 := t3 _ _ (t2 _ _ g1)
    refine ⟨_, rfl, _, rfl, ea, C, _, _, _, rfl, g3, r.x, rfl, .inr ⟨_, rfl⟩, r.k 6 _ rfl, _, rfl, ea, C, _, _, _, rfl, g3, r.x, rfl, .inr ⟨_, rfl⟩, r.k 7 _ rfl, _, rfl, ea, C, _, _, _, rfl, g3, r.x, rfl, .inr ⟨_, rfl⟩, r.k 8 _ rfl, (show 3 ≤ sizeLine from by decide), fun p4 h4 => ?_⟩
    have t4 := Same.laid (o := .lst [.bl (decide (6 = i)), .bl (decide (7 = i)), .bl (decide (8 = i))]) h4
    refine ⟨p3, p4, _, _, rfl, rfl, t4 _ _ upd_same, upd_same, (show 9 ≤ sizeLine from by decide), fun p5 h5 => ?_⟩
    have t5 := Same.laid (o := .lst ([.bl (decide (0 = i)), .bl (decide (1 = i)), .bl (decide (2 = i))] ++ [.bl (decide (3 = i)), .bl (decide (4 = i)), .bl (decide (5 = i))] ++ [.bl (decide (6 = i)), .bl (decide (7 = i)), .bl (decide (8 = i))])) h5
    have g5 := t5 _ _ (t4 _ _ g3)
    have st : Same H _ := t1.trans' (t2.trans' (t3.trans' (t4.trans' t5)))
    generalize e5 : upd (upd (upd (upd (upd H p1 (.lst [.bl (decide (0 = i)), .bl (decide (1 = i)), .bl (decide (2 = i))])) p2 (.lst [.bl (decide (3 = i)), .bl (decide (4 = i)), .bl (decide (5 = i))])) p3 (.lst ([.bl (decide (0 = i)), .bl (decide (1 = i)), .bl (decide (2 = i))] ++ [.bl (decide (3 = i)), .bl (decide (4 = i)), .bl (decide (5 = i))]))) p4 (.lst [.bl (decide (6 = i)), .bl (decide (7 = i)), .bl (decide (8 = i))])) p5 (.lst ([.bl (decide (0 = i)), .bl (decide (1 = i)), .bl (decide (2 = i))] ++ [.bl (decide (3 = i)), .bl (decide (4 = i)), .bl (decide (5 = i))] ++ [.bl (decide (6 = i)), .bl (decide (7 = i)), .bl (decide (8 = i))])) = H5 at g5 st ⊢
    have k5 : H5 p5 = some (.lst ([.bl (decide (0 = i)), .bl (decide (1 = i)), .bl (decide (2 = i))] ++ [.bl (decide (3 = i)), .bl (decide (4 = i)), .bl (decide (5 = i))] ++ [.bl (decide (6 = i)), .bl (decide (7 = i)), .bl (decide (8 = i))])) := by
      rw [← e5]
      exact upd_same
    clear e5 t1 t2 t3 t4 t5 g1 g3 h5 h4 h3 h2 h1
    obtain rfl | rfl : i = 0 ∨ i = 1 := by omega
    · refine ⟨_, rfl, .inl ⟨rfl, _, SqL.of k5⟩, p5, _, _, rfl, rfl, k5, rfl, rfl, rfl, false, by rw [dec_int]; rfl, iteF ?_⟩
      refine ⟨_, rfl, ea, C, _, _, true, rfl, g5, r.x, rfl, .inr ⟨_, rfl⟩, r.l, true, rfl, iteF ?_⟩
      refine ⟨_, rfl, ea, C, _, _, true, rfl, g5, r.x, rfl, .inl ⟨_, rfl⟩, r.v, true, rfl, iteF ?_⟩
      refine ⟨(show 9 ≤ sizeLine from by decide), fun p6 h6 => ?_⟩
      have k6 := Same.laid (o := .lst [.str "number", .str "worths", .str "lies", .str "houses", .str "house", .str "letter", .str "now", .str "table", .str "saying"]) h6 _ _ k5
      refine ⟨_, rfl, _, rfl, .inl ⟨rfl, _, SqL.of k6⟩, p5, _, _, 0, _, rfl, rfl, k6, rfl, rfl, rfl, rfl, fun m u hm hu => by omega, ?_⟩
      exact ⟨p6, _, _, _, rfl, rfl, SqL.of upd_same, rfl, q _ (st.trans' (Same.laid h6))⟩
    · refine ⟨_, rfl, .inl ⟨rfl, _, SqL.of k5⟩, p5, _, _, rfl, rfl, k5, rfl, rfl, rfl, false, by rw [dec_int]; rfl, iteF ?_⟩
      refine ⟨_, rfl, ea, C, _, _, true, rfl, g5, r.x, rfl, .inr ⟨_, rfl⟩, r.l, true, rfl, iteF ?_⟩
      refine ⟨_, rfl, ea, C, _, _, true, rfl, g5, r.x, rfl, .inl ⟨_, rfl⟩, r.v, true, rfl, iteF ?_⟩
      refine ⟨(show 9 ≤ sizeLine from by decide), fun p6 h6 => ?_⟩
      have k6 := Same.laid (o := .lst [.str "number", .str "worths", .str "lies", .str "houses", .str "house", .str "letter", .str "now", .str "table", .str "saying"]) h6 _ _ k5
      refine ⟨_, rfl, _, rfl, .inl ⟨rfl, _, SqL.of k6⟩, p5, _, _, 1, _, rfl, rfl, k6, rfl, rfl, rfl, rfl, fun m u hm hu => by
        obtain rfl : m = 0 := by omega
        cases hu
        rfl, ?_⟩
      exact ⟨p6, _, _, _, rfl, rfl, SqL.of upd_same, rfl, q _ (st.trans' (Same.laid h6))⟩
end

/-! ### refusals: worths -/
def sx_trim (cN cW : Addr) : Sp := fun vs H _ E => ∃ v u, vs = [v, u] ∧ ((∃ n, Kn H u n ∧ inW u 0 5 = false ∧ E (.ref cN) none H) ∨ ∃ k : Nat, u = .int k ∧ k ≤ 5 ∧
  (BadW H v ∨ ∃ a ns, v = .ref a ∧ Good H a ns ∧ ns.length ≤ 2 * k) ∧ ∀ H', Same H H' → E (.ref cW) none H')
def sx_is_between (cW : Addr) : Sp := fun vs H _ E => ∃ (i : Int) (v : V), vs = [.int i, v] ∧ BadW H v ∧ ∀ H', Same H H' → E (.ref cW) none H'
section
variable {P : Program} {w : World} {K : PySem.W.Frag} {mg : Str → Option Value} {base : Heap} {cN cW : Addr}
theorem okx_trimmed {f : Addr} {fd : FuncData} (F : Fun K "trimmed" "trimmed" s_trimmed f fd) (B : Bl mg) (R_check_few : CalX P w K mg base "check_few" 4 ["few"] (sor sp_check_few (sx_check_few cN))) (R_check_worths : CalX P w K mg base "check_worths" 4 ["worths"] (sor sp_check_worths (sx_check_worths cW)))
    (R_check_some_left : CalX P w K mg base "check_some_left" 1 ["many", "lost"] (sor sp_check_some_left (sx_check_some_left cW))) (Q_without_ends : Cal P w K mg base "without_ends" 1 ["worths", "few"] sp_without_ends) : FnOk P w K mg base (CX1 P w) 5 f fd ["worths", "few"] (sx_trim cN cW) := by
  refine F.okX sc_trimmed (fun vs H Q E h => ?_) (fun cdv A outer s H vs Q E hr h => ?_)
  · obtain ⟨v, u, rfl, _⟩ := h
    rfl
  · obtain ⟨v, u, rfl, h⟩ := h
    refine ⟨_, (pss_cons (ps_expr (pe_calX R_check_few (hr.mono (by decide)) rfl cx_pass (pa_cons (pv 1) pa_nil)))
      (pss_cons (ps_expr (pe_calX R_check_worths (hr.mono (by decide)) rfl cx_pass (pa_cons (pv 0) pa_nil)))
      (pss_cons (ps_expr (pe_calX R_check_some_left (hr.mono (by decide)) rfl cx_pass (pa_cons (pe_callB call_len_seq rfl B.len bt_len (pa_cons (pv 0) pa_nil)) (pa_cons (pv 1) pa_nil))))
      (pss_one (ps_ret (pe_cal Q_without_ends (hr.mono (by decide)) rfl (pa_cons (pv 0) (pa_cons (pv 1) pa_nil)))))))), ?_⟩
    rcases h with ⟨n, kn, hw, q⟩ | ⟨k, rfl, hk, h, q⟩
    · exact ⟨_, rfl, .inr ⟨u, n, rfl, kn, hw, q⟩⟩
    · refine ⟨_, rfl, .inl ⟨(k : Int), rfl, by omega, by omega, ?_⟩⟩
      rcases h with bw | ⟨a, ns, rfl, g, hl⟩
      · exact ⟨_, rfl, .inr ⟨v, rfl, bw, q⟩⟩
      · refine ⟨_, rfl, .inl ⟨a, ns, rfl, g, fun H1 s1 => ?_⟩⟩
        refine ⟨_, rfl, a, _, rfl, .inl (SqL.of (g.same s1).at_), _, rfl, .inr ⟨_, _, rfl, ?_, q H1 s1⟩⟩
        rw [List.length_map]
        omega
theorem okx_middle {f : Addr} {fd : FuncData} (F : Fun K "middle" "middle" s_middle f fd) (B : Bl mg) {sq : Sp} (R_trimmed : CalKX P w K mg base "trimmed" 5 ["worths", "few"] ["few"] (sor sq (sx_trim cN cW))) (Q_half_way : Cal P w K mg base "half_way" 1 ["left"] sp_half_way) : FnOk P w K mg base (CX1 P w) 6 f fd ["worths", "few"] (sx_trim cN cW) := by
  refine F.okX sc_middle (fun vs H Q E h => ?_) (fun cdv A outer s H vs Q E hr h => ?_)
  · obtain ⟨v, u, rfl, _⟩ := h
    rfl
  · obtain ⟨v, u, rfl, h⟩ := h
    refine ⟨_, (pss_one (ps_ret (pe_cal Q_half_way (hr.mono (by decide)) rfl (pa_cons (pe_calKX R_trimmed (hr.mono (by decide)) rfl cx_pass (pa_cons (pv 0) pa_nil) (pk_cons (pv 1) pk_nil)) pa_nil)))), ?_⟩
    exact ⟨_, rfl, _, rfl, .inr ⟨v, u, rfl, h⟩⟩
theorem okx_spread {f : Addr} {fd : FuncData} (F : Fun K "spread" "spread" s_spread f fd) (B : Bl mg) {sq : Sp} (R_check_worths : CalX P w K mg base "check_worths" 4 ["worths"] (sor sq (sx_check_worths cW))) (Q_how_far : Cal P w K mg base "how_far" 1 ["worths"] sp_how_far) : FnOk P w K mg base (CX1 P w) 5 f fd ["worths"] (sx_check_worths cW) := by
  refine F.okX sc_spread (fun vs H Q E h => ?_) (fun cdv A outer s H vs Q E hr h => ?_)
  · obtain ⟨v, rfl, _⟩ := h
    rfl
  · obtain ⟨v, rfl, h⟩ := h
    refine ⟨_, (pss_cons (ps_expr (pe_calX R_check_worths (hr.mono (by decide)) rfl cx_pass (pa_cons (pv 0) pa_nil)))
      (pss_one (ps_ret (pe_cal Q_how_far (hr.mono (by decide)) rfl (pa_cons (pv 0) pa_nil))))), ?_⟩
    exact ⟨_, rfl, .inr ⟨v, rfl, h⟩⟩
theorem okx_is_between {f : Addr} {fd : FuncData} (F : Fun K "is_between" "is_between" s_is_between f fd) (B : Bl mg) {sq : Sp} (V_is_whole : Cal P w K mg base "is_whole" 1 ["thing"] sv_is_whole) (R_check_worths : CalX P w K mg base "check_worths" 4 ["worths"] (sor sq (sx_check_worths cW))) :
    FnOk P w K mg base (CX1 P w) 5 f fd ["worth", "worths"] (sx_is_between cW) := by
  refine F.okX sc_is_between (fun vs H Q E h => ?_) (fun cdv A outer s H vs Q E hr h => ?_)
  · obtain ⟨i, v, rfl, _⟩ := h
    rfl
  · obtain ⟨i, v, rfl, h⟩ := h
    refine ⟨_, (pss_cons (ps_expr (pe_calX R_check_worths (hr.mono (by decide)) rfl cx_pass (pa_cons (pv 1) pa_nil)))
      (pss_one (ps_ret (pe_and (pe_cal V_is_whole (hr.mono (by decide)) rfl (pa_cons (pv 0) pa_nil)) (pe_one (pe_chain op_le op_le (pe_callB (call_minL rfl) rfl B.min bt_min (pa_cons (pv 1) pa_nil)) (pv 0) (pe_callB (call_maxL rfl) rfl B.max bt_max (pa_cons (pv 1) pa_nil)))))))), ?_⟩
    exact ⟨_, rfl, .inr ⟨v, rfl, h⟩⟩
end

/-! ### planes: refusals -/
abbrev BP (H : Hp) (v : V) : Prop := BadP H v (-1000000) 1000000
def sx_mp (cN cW : Addr) : Sp := fun vs H _ E => ∃ v u, vs = [v, u] ∧ ((∃ n, Kn H u n ∧ inW u 0 5 = false ∧ E (.ref cN) none H) ∨ ∃ k : Nat, u = .int k ∧ k ≤ 5 ∧
  (BP H v ∨ ∃ a ps, v = .ref a ∧ NN H a ps ∧ ps.length ≤ 2 * k) ∧ ∀ H', Same H H' → E (.ref cW) none H')
def sx_in_box (cW : Addr) : Sp := fun vs H _ E => ∃ p v, vs = [p, v] ∧ BP H v ∧ ∀ H', Same H H' → E (.ref cW) none H'
inductive Ask (H : Hp) : Nat → V → V → Nat → Prop where
  | number {v u : V} {n : String} (k : Kn H u n) (h : inW u 0 5 = false) : Ask H 0 v u 0
  | bad {kind k : Nat} {v : V} (hk : k ≤ 5) (b : BP H v) : Ask H kind v (.int k) 1
  | few {k : Nat} {a : Addr} {ps : List (Int × Int)} (hk : k ≤ 5) (g : NN H a ps) (hl : ps.length ≤ 2 * k) : Ask H 0 (.ref a) (.int k) 1
def sx_did (cN cW : Addr) : Sp := fun vs H _ E => ∃ (kind : Nat) (v u : V) (i : Nat), vs = [.int kind, v, u] ∧ kind < 4 ∧ Ask H kind v u i ∧ ∀ H', Same H H' → E (.ref (if i = 0 then cN else cW)) none H'
def sp_did : Sp := fun vs H Q _ => ∃ (kind : Nat) (a : Addr) (ps : List (Int × Int)) (k : Nat), vs = [.int kind, .ref a, .int k] ∧ kind < 4 ∧ NN H a ps ∧ k ≤ 5 ∧ 2 * k < ps.length ∧ ∀ v H', Same H H' → Q v H'
def sp_told : Sp := fun vs H Q _ => ∃ (kind : Nat) (v u : V), vs = [.int kind, v, u] ∧ kind < 4 ∧ ((∃ i, i < 2 ∧ Ask H kind v u i ∧ ∀ H', Same H H' → Q (.str (word i)) H') ∨
  ∃ (a : Addr) (ps : List (Int × Int)) (k : Nat), v = .ref a ∧ u = .int k ∧ NN H a ps ∧ k ≤ 5 ∧ 2 * k < ps.length ∧ ∀ H', Same H H' → Q (.str "told") H')
section
variable {P : Program} {w : World} {K : PySem.W.Frag} {mg : Str → Option Value} {base : Heap} {cN cW : Addr}
theorem okx_middle_point {f : Addr} {fd : FuncData} (F : Fun K "middle_point" "middle_point" s_middle_point f fd) (B : Bl mg) {s1 : Sp} (R_check_few : CalX P w K mg base "check_few" 4 ["few"] (sor sp_check_few (sx_check_few cN))) (R_check_points : CalX P w K mg base "check_points" 5 ["points"] (sor sp_check_points (sx_check_points cW)))
    (Q_first_numbers : Cal P w K mg base "first_numbers" 1 ["points"] (sp_nums Prod.fst)) (Q_second_numbers : Cal P w K mg base "second_numbers" 1 ["points"] (sp_nums Prod.snd)) (R_middle : CalKX P w K mg base "middle" 6 ["worths", "few"] ["few"] (sor s1 (sx_trim cN cW))) :
    FnOk P w K mg base (CX1 P w) 7 f fd ["points", "few"] (sx_mp cN cW) := by
  refine F.okX sc_middle_point (fun vs H Q E h => ?_) (fun cdv A outer s H vs Q E hr h => ?_)
  · obtain ⟨v, u, rfl, _⟩ := h
    rfl
  · obtain ⟨v, u, rfl, h⟩ := h
    refine ⟨_, (pss_cons (ps_expr (pe_calX R_check_few (hr.mono (by decide)) rfl cx_pass (pa_cons (pv 1) pa_nil)))
      (pss_cons (ps_expr (pe_calX R_check_points (hr.mono (by decide)) rfl cx_pass (pa_cons (pv 0) pa_nil)))
      (pss_one (ps_ret (pe_tup (pa_cons (pe_calKX R_middle (hr.mono (by decide)) rfl cx_pass (pa_cons (pe_cal Q_first_numbers (hr.mono (by decide)) rfl (pa_cons (pv 0) pa_nil)) pa_nil) (pk_cons (pv 1) pk_nil)) (pa_cons (pe_calKX R_middle (hr.mono (by decide)) rfl cx_pass (pa_cons (pe_cal Q_second_numbers (hr.mono (by decide)) rfl (pa_cons (pv 0) pa_nil)) pa_nil) (pk_cons (pv 1) pk_nil)) pa_nil))))))), ?_⟩
    rcases h with ⟨n, kn, hw, q⟩ | ⟨k, rfl, hk, h, q⟩
    · exact ⟨_, rfl, .inr ⟨u, n, rfl, kn, hw, q⟩⟩
    · refine ⟨_, rfl, .inl ⟨(k : Int), rfl, by omega, by omega, ?_⟩⟩
      rcases h with bw | ⟨a, ps, rfl, g, hl⟩
      · exact ⟨_, rfl, .inr ⟨v, rfl, bw, q⟩⟩
      · refine ⟨_, rfl, .inl ⟨a, ps, rfl, g, fun H1 s1 => ?_⟩⟩
        refine ⟨_, rfl, a, ps, rfl, g.same s1, fun l H2 hl2 s2 k2 => ⟨_, rfl, .inr ⟨_, _, rfl, .inr ⟨k, rfl, hk, .inr ⟨l, _, rfl, GoodP.fst g k2, by rw [List.length_map]; exact hl⟩, fun H3 s3 => q H3 (s1.trans' (s2.trans' s3))⟩⟩⟩⟩
theorem okx_box {f : Addr} {fd : FuncData} (F : Fun K "box" "box" s_box f fd) (B : Bl mg) {s1 : Sp} (R_check_points : CalX P w K mg base "check_points" 5 ["points"] (sor s1 (sx_check_points cW))) (Q_first_numbers : Cal P w K mg base "first_numbers" 1 ["points"] (sp_nums Prod.fst))
    (Q_second_numbers : Cal P w K mg base "second_numbers" 1 ["points"] (sp_nums Prod.snd)) : FnOk P w K mg base (CX1 P w) 6 f fd ["points"] (sx_check_points cW) := by
  refine F.okX sc_box (fun vs H Q E h => ?_) (fun cdv A outer s H vs Q E hr h => ?_)
  · obtain ⟨v, rfl, _⟩ := h
    rfl
  · obtain ⟨v, rfl, h⟩ := h
    refine ⟨_, (pss_cons (ps_expr (pe_calX R_check_points (hr.mono (by decide)) rfl cx_pass (pa_cons (pv 0) pa_nil)))
      (pss_cons (ps_set (i := 1) sc_box.nd rfl (Or.inl rfl) (pe_cal Q_first_numbers (hr.mono (by decide)) rfl (pa_cons (pv 0) pa_nil)))
      (pss_cons (ps_set (i := 2) sc_box.nd rfl (Or.inl rfl) (pe_cal Q_second_numbers (hr.mono (by decide)) rfl (pa_cons (pv 0) pa_nil)))
      (pss_one (ps_ret (pe_tup (pa_cons (pe_tup (pa_cons (pe_callB (call_minL rfl) rfl B.min bt_min (pa_cons (pv 1) pa_nil)) (pa_cons (pe_callB (call_maxL rfl) rfl B.max bt_max (pa_cons (pv 1) pa_nil)) pa_nil))) (pa_cons (pe_tup (pa_cons (pe_callB (call_minL rfl) rfl B.min bt_min (pa_cons (pv 2) pa_nil)) (pa_cons (pe_callB (call_maxL rfl) rfl B.max bt_max (pa_cons (pv 2) pa_nil)) pa_nil))) pa_nil)))))))), ?_⟩
    exact ⟨_, rfl, .inr ⟨v, rfl, h⟩⟩
theorem okx_width {f : Addr} {fd : FuncData} (F : Fun K "width" "width" s_width f fd) (B : Bl mg) {s1 s2 : Sp} (R_check_points : CalX P w K mg base "check_points" 5 ["points"] (sor s1 (sx_check_points cW))) (Q_first_numbers : Cal P w K mg base "first_numbers" 1 ["points"] (sp_nums Prod.fst))
    (Q_second_numbers : Cal P w K mg base "second_numbers" 1 ["points"] (sp_nums Prod.snd)) (R_spread : CalX P w K mg base "spread" 5 ["worths"] s2) : FnOk P w K mg base (CX1 P w) 6 f fd ["points"] (sx_check_points cW) := by
  refine F.okX sc_width (fun vs H Q E h => ?_) (fun cdv A outer s H vs Q E hr h => ?_)
  · obtain ⟨v, rfl, _⟩ := h
    rfl
  · obtain ⟨v, rfl, h⟩ := h
    refine ⟨_, (pss_cons (ps_expr (pe_calX R_check_points (hr.mono (by decide)) rfl cx_pass (pa_cons (pv 0) pa_nil)))
      (pss_one (ps_ret (pe_callB (call_max2 rfl) rfl B.max bt_max (pa_cons (pe_calX R_spread (hr.mono (by decide)) rfl cx_pass (pa_cons (pe_cal Q_first_numbers (hr.mono (by decide)) rfl (pa_cons (pv 0) pa_nil)) pa_nil)) (pa_cons (pe_calX R_spread (hr.mono (by decide)) rfl cx_pass (pa_cons (pe_cal Q_second_numbers (hr.mono (by decide)) rfl (pa_cons (pv 0) pa_nil)) pa_nil)) pa_nil)))))), ?_⟩
    exact ⟨_, rfl, .inr ⟨v, rfl, h⟩⟩
theorem okx_in_box {f : Addr} {fd : FuncData} (F : Fun K "in_box" "in_box" s_in_box f fd) (B : Bl mg) {s1 s2 : Sp} (R_check_points : CalX P w K mg base "check_points" 5 ["points"] (sor s1 (sx_check_points cW))) (V_is_number_pair : Cal P w K mg base "is_number_pair" 4 ["thing"] sv_is_number_pair)
    (Q_first_numbers : Cal P w K mg base "first_numbers" 1 ["points"] (sp_nums Prod.fst)) (Q_second_numbers : Cal P w K mg base "second_numbers" 1 ["points"] (sp_nums Prod.snd)) (R_is_between : CalX P w K mg base "is_between" 5 ["worth", "worths"] s2) :
    FnOk P w K mg base (CX1 P w) 6 f fd ["point", "points"] (sx_in_box cW) := by
  refine F.okX sc_in_box (fun vs H Q E h => ?_) (fun cdv A outer s H vs Q E hr h => ?_)
  · obtain ⟨p, v, rfl, _⟩ := h
    rfl
  · obtain ⟨p, v, rfl, h⟩ := h
    refine ⟨_, (pss_cons (ps_expr (pe_calX R_check_points (hr.mono (by decide)) rfl cx_pass (pa_cons (pv 1) pa_nil)))
      (pss_cons (ps_if (pt_not (pt_val (pe_cal V_is_number_pair (hr.mono (by decide)) rfl (pa_cons (pv 0) pa_nil)))) (pss_one (ps_ret pe_bl)) pss_nil)
      (pss_one (ps_ret (pe_and (pe_calX R_is_between (hr.mono (by decide)) rfl cx_pass (pa_cons (pe_ix (show IxR _ (rIxT K) from ix_tup) (pv 0) pe_int (fun _ _ => rfl)) (pa_cons (pe_cal Q_first_numbers (hr.mono (by decide)) rfl (pa_cons (pv 1) pa_nil)) pa_nil))) (pe_one (pe_calX R_is_between (hr.mono (by decide)) rfl cx_pass (pa_cons (pe_ix (show IxR _ (rIxT K) from ix_tup) (pv 0) pe_int (fun _ _ => rfl)) (pa_cons (pe_cal Q_second_numbers (hr.mono (by decide)) rfl (pa_cons (pv 1) pa_nil)) pa_nil))))))))), ?_⟩
    exact ⟨_, rfl, .inr ⟨v, rfl, h⟩⟩
theorem okx__law_did {f : Addr} {fd : FuncData} (F : Fun K "_law_did" "_law_did" s__law_did f fd) (B : Bl mg) {s1 s2 s3 s4 : Sp} (R_middle_point : CalKX P w K mg base "middle_point" 7 ["points", "few"] ["few"] (sor s1 (sx_mp cN cW)))
    (R_box : CalX P w K mg base "box" 6 ["points"] (sor s2 (sx_check_points cW))) (R_width : CalX P w K mg base "width" 6 ["points"] (sor s3 (sx_check_points cW))) (R_in_box : CalX P w K mg base "in_box" 6 ["point", "points"] (sor s4 (sx_in_box cW))) :
    FnOk P w K mg base (CX1 P w) 8 f fd ["_law_kind", "_law_points", "_law_some"] (sx_did cN cW) := by
  refine F.okX sc__law_did (fun vs H Q E h => ?_) (fun cdv A outer s H vs Q E hr h => ?_)
  · obtain ⟨kind, v, u, i, rfl, _⟩ := h
    rfl
  · obtain ⟨kind, v, u, i, rfl, hk, ask, q⟩ := h
    have tr : kind = 0 → sx_mp cN cW [v, u] H Q E := fun h3 => by
      cases ask with
      | number k h => exact ⟨v, _, rfl, .inl ⟨_, k, h, q H fun _ _ e => e⟩⟩
      | bad hk b => exact ⟨v, _, rfl, .inr ⟨_, rfl, hk, .inl b, q⟩⟩
      | few h5 g hl => exact ⟨_, _, rfl, .inr ⟨_, rfl, h5, .inr ⟨_, _, rfl, g, hl⟩, q⟩⟩
    have ba : kind ≠ 0 → BP H v ∧ ∀ H', Same H H' → E (.ref cW) none H' := fun h3 => by
      cases ask with
      | number k h => exact absurd rfl h3
      | bad hk b => exact ⟨b, q⟩
      | few hk g hl => exact absurd rfl h3
    refine ⟨_, (pss_cons (ps_if (pt_cmpR op_eq (pv 0) pe_int (nomark _)) (pss_one (ps_ret (pe_calKX R_middle_point (hr.mono (by decide)) rfl cx_pass (pa_cons (pv 1) pa_nil) (pk_cons (pv 2) pk_nil)))) pss_nil)
      (pss_cons (ps_if (pt_cmpR op_eq (pv 0) pe_int (nomark _)) (pss_one (ps_ret (pe_calX R_box (hr.mono (by decide)) rfl cx_pass (pa_cons (pv 1) pa_nil)))) pss_nil)
      (pss_one (ps_ret (pe_ifExp (pt_cmpR op_eq (pv 0) pe_int (nomark _)) (pe_calX R_width (hr.mono (by decide)) rfl cx_pass (pa_cons (pv 1) pa_nil)) (pe_calX R_in_box (hr.mono (by decide)) rfl cx_pass (pa_cons (pe_tup (pa_cons pe_int (pa_cons pe_int pa_nil))) (pa_cons (pv 1) pa_nil)))))))), ?_⟩
    refine ⟨_, rfl, rfl, _, rfl, ?_⟩
    rw [dec_int]
    match kind, hk, tr, ba with
    | 0, _, tr, _ => exact iteT ⟨_, rfl, _, rfl, .inr (tr rfl)⟩
    | 1, _, _, ba =>
      refine iteF ⟨_, rfl, rfl, _, rfl, ?_⟩
      rw [dec_int]
      exact iteT ⟨_, rfl, .inr ⟨v, rfl, ba (by decide)⟩⟩
    | 2, _, _, ba =>
      refine iteF ⟨_, rfl, rfl, _, rfl, ?_⟩
      rw [dec_int]
      refine iteF ⟨_, rfl, rfl, _, rfl, ?_⟩
      rw [dec_int]
      exact iteT ⟨_, rfl, .inr ⟨v, rfl, ba (by decide)⟩⟩
    | 3, _, _, ba =>
      refine iteF ⟨_, rfl, rfl, _, rfl, ?_⟩
      rw [dec_int]
      refine iteF ⟨_, rfl, rfl, _, rfl, ?_⟩
      rw [dec_int]
      obtain ⟨bp, qb⟩ := ba (by decide)
      refine iteF ⟨(show 2 ≤ sizeLine from by decide), fun z hz => ⟨_, rfl, .inr ⟨_, v, rfl, bp.same (Same.laid hz), fun H' s' => qb H' ((Same.laid hz).trans' s')⟩⟩⟩
theorem ok__law_did {f : Addr} {fd : FuncData} (F : Fun K "_law_did" "_law_did" s__law_did f fd) (B : Bl mg) (Q_middle_point : CalK P w K mg base "middle_point" 7 ["points", "few"] ["few"] sp_middle_point)
    (Q_box : Cal P w K mg base "box" 6 ["points"] sp_box) (Q_width : Cal P w K mg base "width" 6 ["points"] sp_width) (Q_in_box : Cal P w K mg base "in_box" 6 ["point", "points"] sp_in_box) : FnOk P w K mg base CX0 8 f fd ["_law_kind", "_law_points", "_law_some"] sp_did := by
  refine F.ok sc__law_did (fun vs H Q E h => ?_) (fun cdv A outer s H vs Q E hr h => ?_)
  · obtain ⟨kind, a, ps, k, rfl, _⟩ := h
    rfl
  · obtain ⟨kind, a, ps, k, rfl, hk, g, k5, hl, q⟩ := h
    refine ⟨_, (pss_cons (ps_if (pt_cmpR op_eq (pv 0) pe_int (nomark _)) (pss_one (ps_ret (pe_calK Q_middle_point (hr.mono (by decide)) rfl (pa_cons (pv 1) pa_nil) (pk_cons (pv 2) pk_nil)))) pss_nil)
      (pss_cons (ps_if (pt_cmpR op_eq (pv 0) pe_int (nomark _)) (pss_one (ps_ret (pe_cal Q_box (hr.mono (by decide)) rfl (pa_cons (pv 1) pa_nil)))) pss_nil)
      (pss_one (ps_ret (pe_ifExp (pt_cmpR op_eq (pv 0) pe_int (nomark _)) (pe_cal Q_width (hr.mono (by decide)) rfl (pa_cons (pv 1) pa_nil)) (pe_cal Q_in_box (hr.mono (by decide)) rfl (pa_cons (pe_tup (pa_cons pe_int (pa_cons pe_int pa_nil))) (pa_cons (pv 1) pa_nil)))))))), ?_⟩
    refine ⟨_, rfl, rfl, _, rfl, ?_⟩
    rw [dec_int]
    match kind, hk with
    | 0, _ => exact iteT ⟨_, rfl, _, rfl, a, ps, k, rfl, g, k5, hl, fun b H' _ s1 _ => q _ H' s1⟩
    | 1, _ =>
      refine iteF ⟨_, rfl, rfl, _, rfl, ?_⟩
      rw [dec_int]
      exact iteT ⟨_, rfl, a, ps, rfl, g, fun b p1 p2 H' _ s1 _ _ _ => q _ H' s1⟩
    | 2, _ =>
      refine iteF ⟨_, rfl, rfl, _, rfl, ?_⟩
      rw [dec_int]
      refine iteF ⟨_, rfl, rfl, _, rfl, ?_⟩
      rw [dec_int]
      exact iteT ⟨_, rfl, a, ps, rfl, g, fun H' s1 => q _ H' s1⟩
    | 3, _ =>
      refine iteF ⟨_, rfl, rfl, _, rfl, ?_⟩
      rw [dec_int]
      refine iteF ⟨_, rfl, rfl, _, rfl, ?_⟩
      rw [dec_int]
      exact iteF ⟨(show 2 ≤ sizeLine from by decide), fun z hz => ⟨_, rfl, z, 0, 0, a, ps, rfl, upd_same, g.same (Same.laid hz), fun H' s' => q _ H' ((Same.laid hz).trans' s')⟩⟩
theorem ok__law_told {f cL : Addr} {fd : FuncData} (F : Fun K "_law_told" "_law_told" s__law_told f fd) (B : Bl mg) {cs : List Addr} (X_LiarError : Exc K mg "LiarError" cL) (r0 : Row K cN cs cL 0) (r1 : Row K cW cs cL 1)
    (R__law_did : CalX P w K mg base "_law_did" 8 ["_law_kind", "_law_points", "_law_some"] (sor sp_did (sx_did cN cW))) (Q__law_refusal : Cal P w K mg base "_law_refusal" 1 ["_law_caught"] (sp_refusal cN cW)) : FnOk P w K mg base CX0 9 f fd ["_law_kind", "_law_points", "_law_some"] sp_told := by
  refine F.ok sc__law_told (fun vs H Q E h => ?_) (fun cdv A outer s H vs Q E hr h => ?_)
  · obtain ⟨kind, v, u, rfl, _⟩ := h
    rfl
  · obtain ⟨kind, v, u, rfl, hk, h⟩ := h
    refine ⟨_, (pss_cons (ps_set (i := 3) sc__law_told.nd rfl (Or.inl rfl) pe_non)
      (pss_cons (ps_try (i := 4) (fun _ _ => (pss_one (ps_expr (pe_calS R__law_did (hr.mono (by decide)) rfl try_pass (pa_cons (pv 0) (pa_cons (pv 1) (pa_cons (pv 2) pa_nil))))))) (fun _ _ => (pss_one (ps_set (i := 3) sc__law_told.nd rfl (Or.inl rfl) (pv 4)))) rfl X_LiarError.at_ sc__law_told.nd rfl)
      (pss_one (ps_ret (pe_ifExp (pt_cmpR op_isN (pv 3) pe_non (nomark _)) pe_str (pe_cal Q__law_refusal (hr.mono (by decide)) rfl (pa_cons (pv 3) pa_nil))))))), ?_⟩
    rcases h with ⟨i, hi, ask, q⟩ | ⟨a, ps, k, rfl, rfl, g, k5, hl, q⟩
    · refine ⟨_, rfl, _, rfl, _, rfl, .inr ⟨kind, v, u, i, rfl, hk, ask, fun H1 s1 => ?_⟩⟩
      refine ⟨_, rfl, ?_, fun ea hea => ?_⟩
      · obtain rfl | rfl : i = 0 ∨ i = 1 := by omega
        · exact r0.m
        · exact r1.m
      · refine ⟨_, rfl, _, rfl, rfl, false, rfl, iteF ?_⟩
        exact ⟨_, rfl, ea, i, hi, rfl, upd_same, fun H' s2 => q H' (s1.trans' ((Same.laid hea).trans' s2))⟩
    · refine ⟨_, rfl, _, rfl, _, rfl, .inl ⟨kind, a, ps, k, rfl, hk, g, k5, hl, fun v H1 s1 => ?_⟩⟩
      exact ⟨_, rfl, rfl, true, rfl, iteT (q H1 s1)⟩
end

/-! ### the law's own draws -/
structure TownAt (t r : Addr) (k : Int) (row : List Int) (H : Hp) : Prop where
  tw : H t = some (.lst [.ref r, .int k])
  rw : H r = some (.lst (row.map V.int))
  ne : 0 < row.length
  sz : row.length ≤ 100
def Town (t r : Addr) (H : Hp) : Prop := ∃ k row, TownAt t r k row H
theorem TownAt.apart {t r : Addr} {k : Int} {row : List Int} {H : Hp} (T : TownAt t r k row H) : t ≠ r := by
  intro e
  have h1 := T.tw
  rw [e, T.rw] at h1
  have h2 : row.map V.int = [.ref r, .int k] := by
    have := Option.some.inj h1
    injection this
  cases row with
  | nil => cases h2
  | cons a l =>
    have h3 := List.head_eq_of_cons_eq h2
    cases h3
theorem Town.but {t r : Addr} {H H' : Hp} (T : Town t r H) (s : Same H H') : Town t r H' := by
  obtain ⟨k, row, T⟩ := T
  exact ⟨k, row, s _ _ T.tw, s _ _ T.rw, T.ne, T.sz⟩
theorem Town.off {t r b : Addr} {H : Hp} (T : Town t r H) (h : H b = none) : b ∉ [t, r] := by
  obtain ⟨k, row, T⟩ := T
  intro hb
  rcases List.mem_cons.mp hb with rfl | hb
  · rw [T.tw] at h
    cases h
  · rw [List.mem_singleton] at hb
    subst hb
    rw [T.rw] at h
    cases h
def sp_town (K : PySem.W.Frag) : Sp := fun vs H Q _ => ∃ (a : Addr) (ns : List Int), vs = [.ref a] ∧ SqL K H a (ns.map V.int) ∧ ns.length ≤ 63 ∧ ∀ t r H', H t = none → H r = none → Same H H' → Town t r H' → Q (.ref t) H'
def sp_draw : Sp := fun vs H Q _ => ∃ t r many, vs = [.ref t, .int many] ∧ Town t r H ∧ 0 < many ∧ many < 1073741824 ∧ ∀ d H', 0 ≤ d → d < many → Town t r H' → But [t, r] H H' → Q (.int d) H'
def sp_pick : Sp := fun vs H Q _ => ∃ t r p xs, vs = [.ref t, .ref p] ∧ Town t r H ∧ H p = some (.lst xs) ∧ p ∉ [t, r] ∧ 0 < xs.length ∧ xs.length < 1000 ∧ ∀ v H', v ∈ xs → Town t r H' → But [t, r] H H' → Q v H'
def sp_number : Sp := fun vs H Q _ => ∃ t r, vs = [.ref t] ∧ Town t r H ∧ ∀ n H', -1000000 ≤ n → n ≤ 1000000 → Town t r H' → But [t, r] H H' → Q (.int n) H'
def sp_whole : Sp := fun vs H Q _ => ∃ i : Int, vs = [.int i] ∧ Q (.bl true) H
def sp_is : Sp := fun vs H Q _ => ∃ a b : Bool, vs = [.bl a, .bl b] ∧ Q (.bl (a == b)) H
def sp_whole_list : Sp := fun vs H Q _ => ∃ (l : Addr) (ns : List Int), vs = [.ref l] ∧ H l = some (.lst (ns.map V.int)) ∧ ns.length ≤ 1000 ∧ ∀ H', Same H H' → Q (.bl true) H'
theorem fdiv_mod_lt (x m : Int) (h : 0 < m) : 0 ≤ x % m ∧ x % m < m := ⟨Int.emod_nonneg _ (by omega), Int.emod_lt_of_pos _ h⟩
theorem set_ints {ns : List Int} {j : Nat} {v : Int} : (ns.map V.int).set j (.int v) = (ns.set j v).map V.int := by rw [List.map_set]
section
variable {P : Program} {w : World} {K : PySem.W.Frag} {mg : Str → Option Value} {base : Heap}
theorem flat_ints (ns : List Int) : (ns.map V.int).all flatV = true := by
  rw [List.all_map]
  exact List.all_eq_true.mpr fun _ _ => rfl
theorem ok__law_town {f : Addr} {fd : FuncData} (F : Fun K "_law_town" "_law_town" s__law_town f fd) (B : Bl mg) : FnOk P w K mg base CX0 1 f fd ["_law_script"] (sp_town K) := by
  refine F.ok sc__law_town (fun vs H Q E h => ?_) (fun cdv A outer s H vs Q E hr h => ?_)
  · obtain ⟨a, ns, rfl, _⟩ := h
    rfl
  · obtain ⟨a, ns, rfl, hS, hl, q⟩ := h
    refine ⟨_, (pss_one (ps_ret (pe_lst (pa_cons (pe_ifExp (pt_cmpR (op_neL (hu0 hr)) (pv 0) (pe_lst pa_nil) (nomark _)) (pe_callTy call_list_of rfl B.list bt_list (pa_cons (pv 0) pa_nil)) (pe_lst (pa_cons pe_int pa_nil))) (pa_cons pe_int pa_nil))))), ?_⟩
    refine ⟨_, rfl, Nat.zero_le _, fun p hp => ?_⟩
    have s1 : Same H (upd H p (.lst [])) := Same.laid hp
    refine ⟨a, p, ns.map V.int, [], rfl, rfl, s1.seq hS, SqL.of upd_same, flat_ints ns, rfl, _, rfl, ?_⟩
    have fin : ∀ (r : Addr) (row : List Int), (upd H p (.lst [])) r = none → 0 < row.length → row.length ≤ 100 → ([.ref r, .int 0] : List V).length ≤ sizeLine ∧ ∀ t, (upd (upd H p (.lst [])) r (.lst (row.map V.int))) t = none → Q (.ref t) (upd (upd (upd H p (.lst [])) r (.lst (row.map V.int))) t (.lst [.ref r, .int 0])) := by
      intro r row hr1 h1 h2
      refine ⟨Nat.le_of_lt (small1000 (show 2 ≤ 1000 by decide)), fun t ht => ?_⟩
      have s2 : Same (upd H p (.lst [])) (upd (upd H p (.lst [])) r (.lst (row.map V.int))) := Same.laid hr1
      have s3 : Same (upd (upd H p (.lst [])) r (.lst (row.map V.int))) (upd (upd (upd H p (.lst [])) r (.lst (row.map V.int))) t (.lst [.ref r, .int 0])) := Same.laid ht
      exact q t r _ (s1.free (s2.free ht)) (s1.free hr1) (s1.trans' (s2.trans' s3)) ⟨0, row, upd_same, s3 _ _ upd_same, h1, h2⟩
    cases ns with
    | nil =>
      refine iteF ?_
      refine ⟨by decide, fun r hr1 => ?_⟩
      exact fin r [0] hr1 (by decide) (by decide)
    | cons n ns =>
      refine iteT ?_
      refine ⟨_, rfl, a, _, rfl, .inl (s1.seq hS), fun r hr1 => ?_⟩
      exact fin r (n :: ns) hr1 (by simp) (by omega)
theorem ok__law_draw {f : Addr} {fd : FuncData} (F : Fun K "_law_draw" "_law_draw" s__law_draw f fd) (B : Bl mg) : FnOk P w K mg base CX0 1 f fd ["_law_town_here", "_law_many"] sp_draw := by
  refine F.ok sc__law_draw (fun vs H Q E h => ?_) (fun cdv A outer s H vs Q E hr h => ?_)
  · obtain ⟨t, r, many, rfl, _⟩ := h
    rfl
  · obtain ⟨t, r, many, rfl, ⟨k, row, T⟩, m0, m1, q⟩ := h
    have ntr := T.apart
    have hne := T.ne
    have hsz := T.sz
    refine ⟨_, (pss_cons (ps_set (i := 2) sc__law_draw.nd rfl (Or.inl rfl) (pe_ix ix_list (pv 0) pe_int (fun _ _ => rfl)))
      (pss_cons (ps_asg (pe_op op_add (pe_ix ix_list (pv 0) pe_int (fun _ _ => rfl)) pe_int) (pg_sub (pv 0) pe_int set_list))
      (pss_cons (ps_set (i := 3) sc__law_draw.nd rfl (Or.inl rfl) (pe_op op_mod (pe_ix ix_list (pv 0) pe_int (fun _ _ => rfl)) (pe_callB call_len_seq rfl B.len bt_len (pa_cons (pv 2) pa_nil))))
      (pss_cons (ps_set (i := 4) sc__law_draw.nd rfl (Or.inl rfl) (pe_ix ix_list (pv 2) (pv 3) (fun _ _ => rfl)))
      (pss_cons (ps_if (pt_cmpR op_ge (pv 4) pe_int (nomark _)) (pss_cons (ps_asg (pe_op op_fdiv (pv 4) (pv 1)) (pg_sub (pv 2) (pv 3) set_list))
      (pss_one (ps_ret (pe_op op_mod (pv 4) (pv 1))))) pss_nil)
      (pss_cons (ps_set (i := 5) sc__law_draw.nd rfl (Or.inl rfl) (pe_op op_mod (pe_op op_add (pv 4) (pe_op op_mul pe_int (pe_ix ix_list (pv 0) pe_int (fun _ _ => rfl)))) pe_int))
      (pss_cons (ps_set (i := 5) sc__law_draw.nd rfl (Or.inl rfl) (pe_op op_mod (pe_op op_pow (pv 5) pe_int) pe_int))
      (pss_one (ps_ret (pe_op op_mod (pe_op op_fdiv (pe_op op_mod (pe_op op_add (pe_op op_mul (pe_op op_fdiv (pv 5) pe_int) pe_int) (pv 5)) pe_int) pe_int) (pv 1))))))))))), ?_⟩
    -- row = town[0]
    refine ⟨_, rfl, t, _, _, _, rfl, rfl, SqL.of T.tw, rfl, ?_⟩
    -- town[1] = town[1] + 1
    refine ⟨_, rfl, t, _, _, _, rfl, rfl, SqL.of T.tw, rfl, _, _, rfl, rfl, ?_⟩
    refine ⟨_, rfl, t, _, 1, 1, rfl, rfl, T.tw, rfl, ?_⟩
    generalize hH1 : upd H t (.lst ([V.ref r, V.int k].set 1 (.int (k + 1)))) = H1
    have t1 : H1 t = some (.lst [.ref r, .int (k + 1)]) := by rw [← hH1]; exact upd_same
    have r1 : H1 r = some (.lst (row.map V.int)) := by rw [← hH1, upd_ne ntr.symm]; exact T.rw
    have b1 : But [t, r] H H1 := by rw [← hH1]; exact But.upd (by simp)
    -- at = town[1] % len(row)
    refine ⟨_, rfl, t, _, _, _, rfl, rfl, SqL.of t1, rfl, _, rfl, r, _, rfl, .inl (SqL.of r1), _, _, rfl, rfl, ?_, ?_⟩
    · show (0 : Int) < ((row.map V.int).length : Nat)
      rw [List.length_map]
      omega
    obtain ⟨a0, a1⟩ := fdiv_mod_lt (k + 1) ((row.map V.int).length : Nat) (by rw [List.length_map]; omega)
    obtain ⟨j, ej⟩ := Int.eq_ofNat_of_zero_le a0
    have hj : j < row.length := by
      rw [ej, List.length_map] at a1
      omega
    -- cell = row[at]
    refine ⟨_, rfl, _, rfl, r, _, _, _, rfl, rfl, SqL.of r1, (by rw [ej]; exact at_int hj), ?_⟩
    -- if cell >= ..
    refine ⟨_, rfl, _, _, rfl, rfl, _, rfl, ?_⟩
    refine ite2 (fun _ => ?_) (fun _ => ?_)
    · refine ⟨_, rfl, _, rfl, _, _, rfl, rfl, ⟨m0, m1⟩, ?_⟩
      refine ⟨_, rfl, _, rfl, r, _, _, j, rfl, rfl, r1, ?_, ?_⟩
      · rw [ej]
        unfold ixN
        rw [if_pos (by omega), if_pos (by rw [List.length_map]; omega)]
        rfl
      refine ⟨_, rfl, _, rfl, _, _, rfl, rfl, m0, ?_⟩
      obtain ⟨c0, c1⟩ := fdiv_mod_lt (row.getD j 0) many m0
      rw [set_ints]
      refine q _ _ c0 c1 ⟨k + 1, row.set j (row.getD j 0 / many), by rw [upd_ne ntr]; exact t1, upd_same, by rw [List.length_set]; exact hne, by rw [List.length_set]; exact hsz⟩ (b1.trans (But.upd (by simp)))
    · -- mixed
      refine ⟨_, rfl, _, rfl, t, _, _, _, rfl, rfl, SqL.of t1, rfl, _, _, rfl, rfl, .inl ⟨by decide, by decide⟩, _, _, rfl, rfl, _, _, rfl, rfl, (by show (0 : Int) < 4294967291; decide), ?_⟩
      obtain ⟨x0, x1⟩ := fdiv_mod_lt (row.getD j 0 + 104729 * (k + 1)) 4294967291 (by decide)
      refine ⟨_, rfl, _, _, rfl, rfl, ⟨by decide, by decide, by omega⟩, _, _, rfl, rfl, (by show (0 : Int) < 4294967279; decide), ?_⟩
      refine ⟨_, rfl, _, _, rfl, rfl, ⟨by decide, by decide⟩, _, _, rfl, rfl, .inr ⟨by decide, by decide⟩, _, rfl, _, _, rfl, rfl, _, _, rfl, rfl, (by show (0 : Int) < 4294967231; decide), _, _, rfl, rfl, ⟨by decide, by decide⟩, _, rfl, _, _, rfl, rfl, m0, ?_⟩
      exact q _ _ (fdiv_mod_lt _ many m0).1 (fdiv_mod_lt _ many m0).2 ⟨k + 1, row, t1, r1, hne, hsz⟩ b1
theorem ok__law_pick {f : Addr} {fd : FuncData} (F : Fun K "_law_pick" "_law_pick" s__law_pick f fd) (B : Bl mg) (Q__law_draw : Cal P w K mg base "_law_draw" 1 ["_law_town_here", "_law_many"] sp_draw) : FnOk P w K mg base CX0 2 f fd ["_law_town_here", "_law_some"] sp_pick := by
  refine F.ok sc__law_pick (fun vs H Q E h => ?_) (fun cdv A outer s H vs Q E hr h => ?_)
  · obtain ⟨t, r, p, xs, rfl, _⟩ := h
    rfl
  · obtain ⟨t, r, p, xs, rfl, T, hp, hn, l0, l1, q⟩ := h
    refine ⟨_, (pss_one (ps_ret (pe_ix ix_list (pv 1) (pe_cal Q__law_draw (hr.mono (by decide)) rfl (pa_cons (pv 0) (pa_cons (pe_callB call_len_seq rfl B.len bt_len (pa_cons (pv 1) pa_nil)) pa_nil))) (fun _ _ => rfl)))), ?_⟩
    refine ⟨_, rfl, _, rfl, _, rfl, p, xs, rfl, .inl (SqL.of hp), t, r, _, rfl, T, by omega, by omega, fun d H' d0 d1 T' b => ?_⟩
    obtain ⟨j, rfl⟩ := Int.eq_ofNat_of_zero_le d0
    have hj : j < xs.length := by omega
    exact ⟨p, xs, _, xs[j], rfl, rfl, SqL.of (b _ _ hp hn), atI_nat (List.getElem?_eq_getElem hj), q _ H' (List.getElem_mem hj) T' b⟩
theorem ok__law_number {f : Addr} {fd : FuncData} (F : Fun K "_law_number" "_law_number" s__law_number f fd) (B : Bl mg) (Q__law_draw : Cal P w K mg base "_law_draw" 1 ["_law_town_here", "_law_many"] sp_draw) (Q__law_pick : Cal P w K mg base "_law_pick" 2 ["_law_town_here", "_law_some"] sp_pick) :
    FnOk P w K mg base CX0 3 f fd ["_law_town_here"] sp_number := by
  refine F.ok sc__law_number (fun vs H Q E h => ?_) (fun cdv A outer s H vs Q E hr h => ?_)
  · obtain ⟨t, r, rfl, _⟩ := h
    rfl
  · obtain ⟨t, r, rfl, T, q⟩ := h
    refine ⟨_, (pss_cons (ps_set (i := 1) sc__law_number.nd rfl (Or.inl rfl) (pe_cal Q__law_pick (hr.mono (by decide)) rfl (pa_cons (pv 0) (pa_cons (pe_lst (pa_cons pe_int (pa_cons pe_int (pa_cons pe_int (pa_cons pe_int pa_nil))))) pa_nil))))
      (pss_cons (ps_set (i := 2) sc__law_number.nd rfl (Or.inl rfl) (pe_cal Q__law_draw (hr.mono (by decide)) rfl (pa_cons (pv 0) (pa_cons (pv 1) pa_nil))))
      (pss_one (ps_ret (pe_ifExp (pt_cmpR op_eq (pe_cal Q__law_draw (hr.mono (by decide)) rfl (pa_cons (pv 0) (pa_cons pe_int pa_nil))) pe_int (nomark _)) (pv 2) (pe_op op_sub pe_int (pv 2))))))), ?_⟩
    refine ⟨_, rfl, by decide, fun p hp => ?_⟩
    have s1 : Same H (upd H p (.lst [.int 3, .int 30, .int 1000, .int 1000001])) := Same.laid hp
    refine ⟨t, r, p, _, rfl, T.but s1, upd_same, T.off hp, by decide, by decide, fun v H1 hv T1 b1 => ?_⟩
    have hm : ∃ m : Int, v = .int m ∧ 0 < m ∧ m ≤ 1000001 := by
      simp only [List.mem_cons, List.mem_nil_iff, or_false] at hv
      rcases hv with rfl | rfl | rfl | rfl
      · exact ⟨_, rfl, by decide, by decide⟩
      · exact ⟨_, rfl, by decide, by decide⟩
      · exact ⟨_, rfl, by decide, by decide⟩
      · exact ⟨_, rfl, by decide, by decide⟩
    obtain ⟨m, rfl, m0, m1⟩ := hm
    refine ⟨_, rfl, _, rfl, t, r, m, rfl, T1, m0, by omega, fun d H2 d0 d1 T2 b2 => ?_⟩
    refine ⟨_, rfl, t, r, 2, rfl, T2, by decide, by decide, fun d' H3 e0 e1 T3 b3 => ?_⟩
    have b : But [t, r] H H3 := (s1.but _).trans (b1.trans (b2.trans b3))
    refine ⟨rfl, _, rfl, ite2 (fun _ => ?_) (fun _ => ?_)⟩
    · exact ⟨_, rfl, q d H3 (by omega) (by omega) T3 b⟩
    · exact ⟨_, rfl, _, _, rfl, rfl, q (0 - d) H3 (by omega) (by omega) T3 b⟩
end

theorem Town.upd {t r b : Addr} {o : HO} {H : Hp} (T : Town t r H) (h : b ∉ [t, r]) : Town t r (L2.upd H b o) := by
  obtain ⟨k, row, T⟩ := T
  have h1 : t ≠ b := fun e => h (by rw [e]; simp)
  have h2 : r ≠ b := fun e => h (by rw [e]; simp)
  exact ⟨k, row, by rw [upd_ne h1]; exact T.tw, by rw [upd_ne h2]; exact T.rw, T.ne, T.sz⟩
theorem inV_mem {a : Int} {ns : List Int} (h : a ∈ ns) : inV (.int a) (ns.map V.int) = true := by
  unfold inV
  rw [List.any_map, List.any_eq_true]
  exact ⟨a, h, by simp [eqV]⟩
theorem cut_mem {ns : List Int} {k : Nat} {a : Int} (h : a ∈ Mth.cut ns k) : a ∈ ns := Mth.mem_srt.mp (List.mem_of_mem_drop (List.mem_of_mem_take h))
theorem half_ok {L : Nat} {S : Int} (hL : 0 < L) : 0 ≤ S - (L : Int) * (S / (L : Int)) ∧ S - (L : Int) * (S / (L : Int)) < (L : Int) := by
  have h1 := Int.mul_ediv_add_emod S (L : Int)
  have h2 := Int.emod_nonneg S (show (L : Int) ≠ 0 by omega)
  have h3 := Int.emod_lt_of_pos S (show (0 : Int) < L by omega)
  omega

/-! ### flat lists -/
theorem eqV_self : ∀ {x : V}, flatV x = true → eqV x x = true
  | .non, _ => rfl
  | .bl a, _ => by simp [eqV]
  | .int a, _ => by simp [eqV]
  | .str a, _ => by simp [eqV]
theorem eqVs_self : ∀ {xs : List V}, xs.all flatV = true → eqVs xs xs = true
  | [], _ => rfl
  | x :: xs, h => by
    rw [List.all_cons, Bool.and_eq_true] at h
    show (eqV x x && eqVs xs xs) = true
    rw [eqV_self h.1, eqVs_self h.2]
    rfl
theorem all_flat_rep {x : V} {n : Nat} (h : flatV x = true) : (List.replicate n x).all flatV = true := by
  rw [List.all_eq_true]
  intro y hy
  rw [(List.mem_replicate.mp hy).2]
  exact h
theorem flat_rep {x : V} {n : Nat} : (List.replicate n [x]).flatten = List.replicate n x := by
  induction n with
  | zero => rfl
  | succ n ih => rw [List.replicate_succ, List.flatten_cons, ih]; rfl
theorem view_lst {H : Hp} {a : Addr} {xs : List V} (e : H a = some (.lst xs)) : view H (.ref a) = some xs := by simp [view, e]
theorem cutV_mem {xs : List V} {lo hi : Option Int} {x : V} (h : x ∈ cutV xs lo hi) : x ∈ xs := by
  unfold cutV at h
  exact List.mem_of_mem_drop (List.mem_of_mem_take h)
theorem cutV_len {xs : List V} {lo hi : Option Int} : (cutV xs lo hi).length ≤ xs.length := by
  unfold cutV
  rw [List.length_take, List.length_drop]
  omega

/-! ### the law -/
theorem Town.tup_off {t r b : Addr} {xs : List V} {H : Hp} (T : Town t r H) (h : H b = some (.tup xs)) : b ∉ [t, r] := by
  obtain ⟨k, row, T⟩ := T
  intro hb
  rcases List.mem_cons.mp hb with rfl | hb
  · rw [T.tw] at h
    cases h
  · rw [List.mem_singleton] at hb
    subst hb
    rw [T.rw] at h
    cases h
structure S38 (t r wa : Addr) (L : List Addr) (ps : List (Int × Int)) (H : Hp) : Prop where
  tw : Town t r H
  w : H wa = some (.lst (L.map V.ref))
  len : L.length = ps.length
  tup : ∀ (i : Nat) (p : Int × Int) (b : Addr), ps[i]? = some p → L[i]? = some b → H b = some (.tup [.int p.1, .int p.2])
theorem S38.same {t r wa : Addr} {L : List Addr} {ps : List (Int × Int)} {H H' : Hp} (S : S38 t r wa L ps H) (s : Same H H') : S38 t r wa L ps H' := ⟨S.tw.but s, s _ _ S.w, S.len, fun i p b e1 e2 => s _ _ (S.tup i p b e1 e2)⟩
theorem S38.but {t r wa : Addr} {L : List Addr} {ps : List (Int × Int)} {H H' : Hp} (S : S38 t r wa L ps H) (nwa : wa ∉ [t, r]) (T : Town t r H') (s : But [t, r] H H') : S38 t r wa L ps H' :=
  ⟨T, s _ _ S.w nwa, S.len, fun i p b e1 e2 => s _ _ (S.tup i p b e1 e2) (S.tw.tup_off (S.tup i p b e1 e2))⟩
theorem S38.nn {t r wa : Addr} {L : List Addr} {ps : List (Int × Int)} {H : Hp} (S : S38 t r wa L ps H) (h1 : 1 ≤ ps.length) (h2 : ps.length ≤ 40) (hb : ∀ p ∈ ps, (-1000000 ≤ p.1 ∧ p.1 ≤ 1000000) ∧ -1000000 ≤ p.2 ∧ p.2 ≤ 1000000) : NN H wa ps :=
  ⟨⟨L, S.w, S.len, S.tup⟩, h1, h2, hb⟩
theorem S38.known {t r wa : Addr} {L : List Addr} {ps : List (Int × Int)} {H : Hp} (S : S38 t r wa L ps H) {x : V} (h : x ∈ L.map V.ref) : (∃ n, Kn H x n) ∧ KnT H x := by
  obtain ⟨i, hi⟩ := List.mem_iff_getElem?.mp h
  obtain ⟨b, p, rfl, _, _, hb⟩ := GoodP.item (a := wa) (lo := 0) (hi := 0) S.len S.tup hi
  refine ⟨⟨_, .tup hb⟩, fun xs e y hy => ?_⟩
  rw [viewT_tup hb] at e
  cases e
  simp only [List.mem_cons, List.mem_nil_iff, or_false] at hy
  rcases hy with rfl | rfl
  · exact ⟨_, .int _⟩
  · exact ⟨_, .int _⟩
def sp_law (K : PySem.W.Frag) : Sp := fun vs H Q _ => ∃ (a : Addr) (ns : List Int), vs = [.ref a] ∧ SqL K H a (ns.map V.int) ∧ ns.length ≤ 63 ∧ ∀ H', Q (.bl true) H'
theorem badp_plain {H : Hp} {v : V} {n : String} (k : Kn H v n) (h : view H v = none) : BP H v :=
  ⟨⟨n, k⟩, (fun xs e => by rw [h] at e; cases e), by rw [h]; rfl⟩
theorem badp_list {H : Hp} {a : Addr} {xs : List V} (e : H a = some (.lst xs)) (ki : ∀ x ∈ xs, (∃ n, Kn H x n) ∧ KnT H x) (h : okP H (some xs) (-1000000) 1000000 = false) : BP H (.ref a) :=
  ⟨⟨_, .lst e⟩, (fun ys e' => by rw [view_lst e] at e'; cases e'; exact ki), by rw [view_lst e]; exact h⟩
theorem knt_flat {H : Hp} {v : V} (h : viewT H v = none) : KnT H v := fun xs e => by
  rw [h] at e
  cases e
section
variable {P : Program} {w : World} {K : PySem.W.Frag} {mg : Str → Option Value} {base : Heap}
theorem ok_law {f : Addr} {fd : FuncData} (F : Fun K "law" "law" s_law f fd) (B : Bl mg)
    (Q__law_town : Cal P w K mg base "_law_town" 1 ["_law_script"] (sp_town K)) (Q__law_draw : Cal P w K mg base "_law_draw" 1 ["_law_town_here", "_law_many"] sp_draw) (Q__law_pick : Cal P w K mg base "_law_pick" 2 ["_law_town_here", "_law_some"] sp_pick) (Q__law_number : Cal P w K mg base "_law_number" 3 ["_law_town_here"] sp_number)
    (Q__law_told : Cal P w K mg base "_law_told" 9 ["_law_kind", "_law_points", "_law_some"] sp_told) : FnOk P w K mg base CX0 10 f fd ["_law_script"] (sp_law K) := by
  refine F.ok sc_law (fun vs H Q E h => ?_) (fun cdv A outer s H vs Q E hr h => ?_)
  · obtain ⟨a, ns, rfl, _⟩ := h
    rfl
  · obtain ⟨a, ns0, rfl, hS, hl63, q⟩ := h
    refine ⟨_, (pss_cons (ps_set (i := 1) sc_law.nd rfl (Or.inr rfl) (pe_cal Q__law_town (hr.mono (by decide)) rfl (pa_cons (pv 0) pa_nil)))
      (pss_cons (ps_comp (osc := (defScope s_law)) (own := ["_law_k"]) (fr := ["_law_town_here"]) (js := [1]) rfl rfl (by exact ⟨rfl, by decide +kernel, by decide +kernel, by decide +kernel, by decide +kernel, by decide +kernel⟩) rfl (i := 2) sc_law.nd rfl rfl (pi_range1 rfl B.range (pa_cons (pe_op op_add pe_int (pe_cal Q__law_draw (hr.mono (by decide)) rfl (pa_cons (pv 1) (pa_cons pe_int pa_nil)))) pa_nil)) (fun _ _ _ => (pg_name (i := 0) (show List.Nodup (["_law_k", "_law_town_here"] : List Str) from by decide +kernel) rfl (Or.inl rfl))) (fun _ _ _ => if_nil) (fun _ _ _ => (pe_tup (pa_cons (pe_cal Q__law_number (hr.mono (by decide)) rfl (pa_cons (pv 1) pa_nil)) (pa_cons (pe_cal Q__law_number (hr.mono (by decide)) rfl (pa_cons (pv 1) pa_nil)) pa_nil)))) rfl)
      (pss_cons (ps_set (i := 3) sc_law.nd rfl (Or.inl rfl) (pe_cal Q__law_draw (hr.mono (by decide)) rfl (pa_cons (pv 1) (pa_cons (pe_op op_add (pe_callB call_len_seq rfl B.len bt_len (pa_cons (pv 2) pa_nil)) pe_int) pa_nil))))
      (@pss_setR _ 4 _ _ _ _ _ _ _ sc_law.nd (by rfl) (by exact (Or.inl rfl)) (re_lst (ra_cons (re_tup (ra_cons re_int ra_nil)) (ra_cons (re_lst (ra_cons re_int (ra_cons re_int ra_nil))) (ra_cons (re_tup (ra_cons re_int (ra_cons re_int (ra_cons re_int ra_nil)))) (ra_cons (re_tup (ra_cons re_int (ra_cons re_int ra_nil))) (ra_cons (re_tup (ra_cons re_int (ra_cons (re_of (pe_op op_sub pe_int pe_int)) ra_nil))) (ra_cons (re_tup (ra_cons re_int (ra_cons re_bl ra_nil))) (ra_cons (re_tup (ra_cons re_non (ra_cons re_int ra_nil))) (ra_cons re_non (ra_cons re_int (ra_cons re_str ra_nil))))))))))) (by rfl) (by first | exact .inl rfl | exact .inr rfl | assumption)
      (pss_cons (ps_for PassesOwn.never rfl (pi_range1 rfl B.range (pa_cons pe_int pa_nil)) (pg_name (i := 5) sc_law.nd rfl (Or.inl rfl)) (pss_cons (ps_set (i := 6) sc_law.nd rfl (Or.inl rfl) (pe_op op_cat (pe_op op_cat (pe_slice sl_list (pv 2) po_none (po_some (pv 3))) (pe_lst (pa_cons (pe_cal Q__law_pick (hr.mono (by decide)) rfl (pa_cons (pv 1) (pa_cons (pv 4) pa_nil))) pa_nil))) (pe_slice sl_list (pv 2) (po_some (pv 3)) po_none)))
      (pss_cons (ps_set (i := 7) sc_law.nd rfl (Or.inl rfl) (pe_cal Q__law_pick (hr.mono (by decide)) rfl (pa_cons (pv 1) (pa_cons (pe_lst (pa_cons pe_int (pa_cons (pe_op op_sub pe_int pe_int) (pa_cons pe_bl (pa_cons pe_non (pa_cons pe_str pa_nil)))))) pa_nil))))
      (pss_one (ps_for PassesOwn.never rfl (pi_list (pe_lst (pa_cons (pv 6) (pa_cons (pe_lst pa_nil) (pa_cons (pe_op op_rep (pe_lst (pa_cons (pe_tup (pa_cons pe_int (pa_cons pe_int pa_nil))) pa_nil)) pe_int) (pa_cons (pe_callTy call_tuple_of rfl B.tuple bt_tuple (pa_cons (pv 2) pa_nil)) (pa_cons pe_non (pa_cons pe_int (pa_cons pe_newD pa_nil))))))))) (pg_name (i := 8) sc_law.nd rfl (Or.inr rfl)) (pss_one (ps_if (PW.pt (pw_or (pt_cmpR op_ne (pe_cal Q__law_told (hr.mono (by decide)) rfl (pa_cons pe_int (pa_cons (pv 8) (pa_cons (pv 7) pa_nil)))) pe_str (nomark _)) (pw_or1 (pt_cmpR (op_neL (hu0 hr)) (pe_comp (osc := (defScope s_law)) (own := ["_law_kind"]) (fr := ["_law_thing"]) (js := [8]) rfl rfl (by exact ⟨rfl, by decide +kernel, by decide +kernel, by decide +kernel, by decide +kernel, by decide +kernel⟩) rfl (pi_range1 rfl B.range (pa_cons pe_int pa_nil)) (fun _ _ _ => (pg_name (i := 0) (show List.Nodup (["_law_kind", "_law_thing"] : List Str) from by decide +kernel) rfl (Or.inl rfl))) (fun _ _ _ => if_nil) (fun _ _ _ => (pe_cal Q__law_told (hr.mono (by decide)) rfl (pa_cons (pv 0) (pa_cons (pv 1) (pa_cons pe_int pa_nil)))))) (pe_op op_rep (pe_lst (pa_cons pe_str pa_nil)) pe_int) (nomark _))))) (pss_one (ps_ret pe_bl)) pss_nil)))))))
      (pss_cons (ps_set (i := 9) sc_law.nd rfl (Or.inl rfl) (pe_op op_fdiv (pe_op op_add (pe_callB call_len_seq rfl B.len bt_len (pa_cons (pv 2) pa_nil)) pe_int) pe_int))
      (pss_cons (ps_if (PW.pt (pw_or (PW.pt (pw_and (pt_cmpR op_lt (pv 9) pe_int (nomark _)) (pw_and1 (pt_cmpR op_ne (pe_cal Q__law_told (hr.mono (by decide)) rfl (pa_cons pe_int (pa_cons (pv 2) (pa_cons (pv 9) pa_nil)))) pe_str (nomark _))))) (pw_or1 (pt_cmpR op_ne (pe_cal Q__law_told (hr.mono (by decide)) rfl (pa_cons pe_int (pa_cons (pv 2) (pa_cons (pe_op op_fdiv (pe_op op_sub (pe_callB call_len_seq rfl B.len bt_len (pa_cons (pv 2) pa_nil)) pe_int) pe_int) pa_nil)))) pe_str (nomark _))))) (pss_one (ps_ret pe_bl)) pss_nil)
      (pss_one (ps_ret (pe_cmpR (op_eqL (hu0 hr)) (pe_comp (osc := (defScope s_law)) (own := ["_law_kind"]) (fr := []) (js := []) rfl rfl (by exact ⟨rfl, by decide +kernel, by decide +kernel, by decide +kernel, by decide +kernel, by decide +kernel⟩) rfl (pi_range1 rfl B.range (pa_cons pe_int pa_nil)) (fun _ _ _ => (pg_name (i := 0) (show List.Nodup (["_law_kind"] : List Str) from by decide +kernel) rfl (Or.inl rfl))) (fun _ _ _ => if_nil) (fun _ _ _ => (pe_cal Q__law_told (hr.mono (by decide)) rfl (pa_cons (pv 0) (pa_cons (pe_op op_rep (pe_lst (pa_cons (pe_tup (pa_cons (pe_op op_sub pe_int pe_int) (pa_cons pe_int pa_nil))) pa_nil)) pe_int) (pa_cons pe_int pa_nil)))))) (pe_op op_rep (pe_lst (pa_cons pe_str pa_nil)) pe_int) (nomark _))))))))))), ?_⟩
    refine ⟨_, rfl, a, ns0, rfl, hS, hl63, fun t r H1 ft fr s1 T1 => ?_⟩
    -- points
    refine ⟨_, rfl, t, r, 8, rfl, T1, by decide, by decide, fun d H3 d0 d1 T3 b3 => ⟨_, _, rfl, rfl, _, rfl, by omega, by omega, fun wa hwa => ?_⟩⟩
    have nwa := T3.off hwa
    refine comp_range (lo := 0) (acc := wa) (fun i ys H' => ∃ (L : List Addr) (ps : List (Int × Int)), ys = L.map V.ref ∧ S38 t r wa L ps H' ∧ ps.length = i ∧ ∀ p ∈ ps, (-1000000 ≤ p.1 ∧ p.1 ≤ 1000000) ∧ -1000000 ≤ p.2 ∧ p.2 ≤ 1000000)
      ⟨[], [], rfl, ⟨T3.upd nwa, upd_same, rfl, fun i p b e1 e2 => by simp at e1⟩, rfl, by simp⟩ ?_ ?_ ?_
    · rintro i ys H' hi ⟨L, ps, rfl, S, hl, _⟩
      rw [List.length_map, S.len]
      exact small1000 (by omega)
    · rintro i ys H' hi ⟨L, ps, rfl, S, hl, hb⟩
      refine ⟨keep1, _, rfl, t, r, rfl, S.tw, fun n1 H2 n10 n11 T2 b2 => ?_⟩
      have S2 := S.but nwa T2 b2
      refine ⟨_, rfl, t, r, rfl, T2, fun n2 H4 n20 n21 T4 b4 => ?_⟩
      have S4 := S2.but nwa T4 b4
      refine ⟨(show 2 ≤ sizeLine from by decide), fun p hp => ?_⟩
      have tp := Same.laid (o := .tup [.int n1, .int n2]) hp
      have S5 := S4.same tp
      refine ⟨S5.w, L ++ [p], ps ++ [(n1, n2)], by simp, ⟨S5.tw.upd nwa, by rw [upd_same]; simp, by simp [S.len], fun j pq b e1 e2 => ?_⟩, by simp [hl], fun x hx => ?_⟩
      · have key : (upd H4 p (.tup [.int n1, .int n2])) b = some (.tup [.int pq.1, .int pq.2]) := by
          by_cases hj : j < ps.length
          · rw [List.getElem?_append_left hj] at e1
            rw [List.getElem?_append_left (by rw [S.len]; exact hj)] at e2
            exact S5.tup j pq b e1 e2
          · rw [List.getElem?_append_right (by omega)] at e1
            rw [List.getElem?_append_right (by rw [S.len]; omega), S.len] at e2
            rcases hz : j - ps.length with _ | z
            · rw [hz] at e1 e2
              simp at e1 e2
              subst e1
              subst e2
              exact upd_same
            · rw [hz] at e1
              simp at e1
        rw [upd_ne (fun z => by rw [z, S5.w] at key; cases key)]
        exact key
      · rcases List.mem_append.mp hx with hx | hx
        · exact hb x hx
        · rw [List.mem_singleton] at hx
          subst hx
          exact ⟨⟨n10, n11⟩, n20, n21⟩
    rintro ys H4 ⟨L, ps, rfl, S4, hl, hb⟩
    have hlen : 1 ≤ ps.length ∧ ps.length ≤ 8 := by omega
    clear hl
    -- at
    refine ⟨_, rfl, _, rfl, wa, _, rfl, .inl (SqL.of S4.w), _, _, rfl, rfl, t, r, _, rfl, S4.tw, by omega, by rw [List.length_map, S4.len]; omega, fun at_ H5 a0 a1 T5 b5 => ?_⟩
    have S5 := S4.but nwa T5 b5
    -- odd
    refine ⟨(show 1 ≤ sizeLine from by decide), fun o1 h1 => ⟨(show 2 ≤ sizeLine from by decide), fun o2 h2 => ⟨(show 3 ≤ sizeLine from by decide), fun o3 h3 => ⟨(show 2 ≤ sizeLine from by decide), fun o4 h4 => ⟨_, _, rfl, rfl, (show 2 ≤ sizeLine from by decide), fun o5 h5 => ⟨(show 2 ≤ sizeLine from by decide), fun o6 h6 => ⟨(show 2 ≤ sizeLine from by decide), fun o7 h7 => ⟨(show 10 ≤ sizeLine from by decide), fun oL hL => ?_⟩⟩⟩⟩⟩⟩⟩⟩
    obtain ⟨G1, e1⟩ : ∃ G, upd H5 o1 (.tup [.int 5]) = G := ⟨_, rfl⟩
    have x1 : Same H5 G1 := e1 ▸ Same.laid h1
    have y1 : G1 o1 = some (.tup [.int 5]) := by rw [← e1]; exact upd_same
    rw [e1] at h2 h3 h4 h5 h6 h7 hL ⊢
    obtain ⟨G2, e2⟩ : ∃ G, upd G1 o2 (.lst [.int 5, .int 1]) = G := ⟨_, rfl⟩
    have x2 : Same G1 G2 := e2 ▸ Same.laid h2
    have y2 : G2 o2 = some (.lst [.int 5, .int 1]) := by rw [← e2]; exact upd_same
    rw [e2] at h3 h4 h5 h6 h7 hL ⊢
    obtain ⟨G3, e3⟩ : ∃ G, upd G2 o3 (.tup [.int 5, .int 1, .int 1]) = G := ⟨_, rfl⟩
    have x3 : Same G2 G3 := e3 ▸ Same.laid h3
    have y3 : G3 o3 = some (.tup [.int 5, .int 1, .int 1]) := by rw [← e3]; exact upd_same
    rw [e3] at h4 h5 h6 h7 hL ⊢
    obtain ⟨G4, e4⟩ : ∃ G, upd G3 o4 (.tup [.int 1000001, .int 0]) = G := ⟨_, rfl⟩
    have x4 : Same G3 G4 := e4 ▸ Same.laid h4
    have y4 : G4 o4 = some (.tup [.int 1000001, .int 0]) := by rw [← e4]; exact upd_same
    rw [e4] at h5 h6 h7 hL ⊢
    obtain ⟨G5, e5⟩ : ∃ G, upd G4 o5 (.tup [.int 0, .int (0 - 1000001)]) = G := ⟨_, rfl⟩
    have x5 : Same G4 G5 := e5 ▸ Same.laid h5
    have y5 : G5 o5 = some (.tup [.int 0, .int (0 - 1000001)]) := by rw [← e5]; exact upd_same
    rw [e5] at h6 h7 hL ⊢
    obtain ⟨G6, e6⟩ : ∃ G, upd G5 o6 (.tup [.int 0, .bl true]) = G := ⟨_, rfl⟩
    have x6 : Same G5 G6 := e6 ▸ Same.laid h6
    have y6 : G6 o6 = some (.tup [.int 0, .bl true]) := by rw [← e6]; exact upd_same
    rw [e6] at h7 hL ⊢
    obtain ⟨G7, e7⟩ : ∃ G, upd G6 o7 (.tup [.non, .int 0]) = G := ⟨_, rfl⟩
    have x7 : Same G6 G7 := e7 ▸ Same.laid h7
    have y7 : G7 o7 = some (.tup [.non, .int 0]) := by rw [← e7]; exact upd_same
    rw [e7] at hL ⊢
    obtain ⟨G8, e8⟩ : ∃ G, upd G7 oL (.lst [.ref o1, .ref o2, .ref o3, .ref o4, .ref o5, .ref o6, .ref o7, .non, .int 5, .str "ab"]) = G := ⟨_, rfl⟩
    have x8 : Same G7 G8 := e8 ▸ Same.laid hL
    have y8 : G8 oL = some (.lst [.ref o1, .ref o2, .ref o3, .ref o4, .ref o5, .ref o6, .ref o7, .non, .int 5, .str "ab"]) := by rw [← e8]; exact upd_same
    rw [e8]
    have z7 := x8
    have z6 := x7.trans' z7
    have z5 := x6.trans' z6
    have z4 := x5.trans' z5
    have z3 := x4.trans' z4
    have z2 := x3.trans' z3
    have z1 := x2.trans' z2
    have z0 := x1.trans' z1
    have S8 := S5.same z0
    have noL : oL ∉ [t, r] := (((((((S5.same x1).same x2).same x3).same x4).same x5).same x6).same x7).tw.off hL
    have no2 : o2 ∉ [t, r] := (S5.same x1).tw.off h2
    have k1 := z1 _ _ y1
    have k2 := z2 _ _ y2
    have k3 := z3 _ _ y3
    have k4 := z4 _ _ y4
    have k5 := z5 _ _ y5
    have k6 := z6 _ _ y6
    have k7 := z7 _ _ y7
    have oddP : ∀ x ∈ ([.ref o1, .ref o2, .ref o3, .ref o4, .ref o5, .ref o6, .ref o7, .non, .int 5, .str "ab"] : List V), ∀ H', But [t, r] G8 H' → (∃ n, Kn H' x n) ∧ KnT H' x ∧ pairW H' x (-1000000) 1000000 = false := fun x hx H' b => by
      have tup : ∀ {o : Addr} {xs : List V}, G8 o = some (.tup xs) → (∀ y ∈ xs, ∃ n, Kn H' y n) → (∃ n, Kn H' (.ref o) n) ∧ KnT H' (.ref o) ∧ viewT H' (.ref o) = some xs := fun {o xs} e hk => by
        have e' := b _ _ e (S8.tw.tup_off e)
        refine ⟨⟨_, .tup e'⟩, fun ys ey y hy => ?_, viewT_tup e'⟩
        rw [viewT_tup e'] at ey
        cases ey
        exact hk y hy
      simp only [List.mem_cons, List.mem_nil_iff, or_false] at hx
      rcases hx with rfl | rfl | rfl | rfl | rfl | rfl | rfl | rfl | rfl | rfl
      · obtain ⟨a1, a2, a3⟩ := tup k1 (by simpa using ⟨_, .int 5⟩)
        exact ⟨a1, a2, by unfold pairW; rw [a3]⟩
      · have e' := b _ _ k2 no2
        have ev : viewT H' (.ref o2) = none := by simp [viewT, e']
        exact ⟨⟨_, .lst e'⟩, knt_flat ev, by unfold pairW; rw [ev]⟩
      · obtain ⟨a1, a2, a3⟩ := tup k3 (by simpa using ⟨⟨_, .int 5⟩, ⟨_, .int 1⟩⟩)
        exact ⟨a1, a2, by unfold pairW; rw [a3]⟩
      · obtain ⟨a1, a2, a3⟩ := tup k4 (by simpa using ⟨⟨_, .int 1000001⟩, ⟨_, .int 0⟩⟩)
        exact ⟨a1, a2, by rw [pairW_2 a3]; decide⟩
      · obtain ⟨a1, a2, a3⟩ := tup k5 (by simpa using ⟨⟨_, .int 0⟩, ⟨_, .int _⟩⟩)
        exact ⟨a1, a2, by rw [pairW_2 a3]; decide⟩
      · obtain ⟨a1, a2, a3⟩ := tup k6 (by simpa using ⟨⟨_, .int 0⟩, ⟨_, .bl true⟩⟩)
        exact ⟨a1, a2, by rw [pairW_2 a3]; decide⟩
      · obtain ⟨a1, a2, a3⟩ := tup k7 (by simpa using ⟨⟨_, .non⟩, ⟨_, .int 0⟩⟩)
        exact ⟨a1, a2, by rw [pairW_2 a3]; decide⟩
      · exact ⟨⟨_, .non⟩, knt_flat rfl, rfl⟩
      · exact ⟨⟨_, .int 5⟩, knt_flat rfl, rfl⟩
      · exact ⟨⟨_, .str _⟩, knt_flat rfl, rfl⟩
    clear k1 k2 k3 k4 k5 k6 k7 z0 z1 z2 z3 z4 z5 z6 z7 x1 x2 x3 x4 x5 x6 x7 x8 y1 y2 y3 y4 y5 y6 y7 e1 e2 e3 e4 e5 e6 e7 e8 h1 h2 h3 h4 h5 h6 h7 hL no2 b5 T5 S5
    refine ⟨_, rfl, by decide, by decide, for_range (lo := 0) (fun i σ' H' => ∃ v5 v6 v7 v8 : Option V, σ' = [some (.ref a), some (.ref t), some (.ref wa), some (.int at_), some (.ref oL), v5, v6, v7, v8, none] ∧ S38 t r wa L ps H' ∧ But [t, r] G8 H') ⟨none, none, none, none, rfl, S8, fun _ _ e _ => e⟩ ?_ ?_⟩
    · rintro i σ' H' hi ⟨v5, v6, v7, v8, rfl, S, bG⟩
      -- worse
      generalize hc1 : cutV (L.map V.ref) none (some at_) = x1
      generalize hc2 : cutV (L.map V.ref) (some at_) none = x2
      have m1 : ∀ x ∈ x1, x ∈ L.map V.ref := fun x hx => cutV_mem (hc1 ▸ hx)
      have m2 : ∀ x ∈ x2, x ∈ L.map V.ref := fun x hx => cutV_mem (hc2 ▸ hx)
      have l1 : x1.length ≤ 8 := by
        have := cutV_len (xs := L.map V.ref) (lo := none) (hi := some at_)
        rw [hc1, List.length_map, S.len] at this
        omega
      have l2 : x2.length ≤ 8 := by
        have := cutV_len (xs := L.map V.ref) (lo := some at_) (hi := none)
        rw [hc2, List.length_map, S.len] at this
        omega
      refine ⟨_, rfl, _, rfl, _, rfl, wa, _, rfl, SqL.of S.w, fun a1 h1 => ?_⟩
      rw [hc1]
      have t1 := Same.laid (o := .lst x1) h1
      have na1 := S.tw.off h1
      have S1 := S.same t1
      refine ⟨_, rfl, _, rfl, t, r, oL, _, rfl, S1.tw, t1 _ _ (bG _ _ y8 noL), noL, (by show 0 < 10; decide), (by show 10 < 1000; decide), fun odd Ha hodd Ta ba => ?_⟩
      have Sa := S1.but nwa Ta ba
      have ka1 := ba _ _ (upd_same (H := H') (a := a1) (o := .lst x1)) na1
      have bA : But [t, r] G8 Ha := bG.trans ((t1.but _).trans ba)
      refine ⟨(show 1 ≤ sizeLine from by decide), fun a2 h2 => ?_⟩
      have t2 := Same.laid (o := .lst [odd]) h2
      refine ⟨a1, a2, _, _, rfl, rfl, t2 _ _ ka1, upd_same, Nat.le_of_lt (small1000 (by simp; omega)), fun a3 h3 => ?_⟩
      have t3 := Same.laid (o := .lst (x1 ++ [odd])) h3
      have S3 := (Sa.same t2).same t3
      refine ⟨_, rfl, _, rfl, _, rfl, wa, _, rfl, SqL.of S3.w, fun a4 h4 => ?_⟩
      rw [hc2]
      have t4 := Same.laid (o := .lst x2) h4
      refine ⟨a3, a4, _, _, rfl, rfl, t4 _ _ upd_same, upd_same, Nat.le_of_lt (small1000 (by simp; omega)), fun a5 h5 => ?_⟩
      have t5 := Same.laid (o := .lst (x1 ++ [odd] ++ x2)) h5
      have S5' := (S3.same t4).same t5
      have k5 : (upd (upd (upd (upd Ha a2 (.lst [odd])) a3 (.lst (x1 ++ [odd]))) a4 (.lst x2)) a5 (.lst (x1 ++ [odd] ++ x2))) a5 = some (HO.lst (x1 ++ [odd] ++ x2)) := upd_same
      have n5 := (S3.same t4).tw.off h5
      have bB : But [t, r] G8 _ := bA.trans (((t2.trans' t3).trans' (t4.trans' t5)).but _)
      generalize upd (upd (upd (upd Ha a2 (.lst [odd])) a3 (.lst (x1 ++ [odd]))) a4 (.lst x2)) a5 (.lst (x1 ++ [odd] ++ x2)) = Hb at S5' k5 bB ⊢
      clear t1 t2 t3 t4 t5 S3 S1 Sa ka1 na1 ba bA h1 h2 h3 h4 h5
      -- bad
      refine ⟨_, rfl, _, _, rfl, rfl, (show 5 ≤ sizeLine from by decide), fun p2 hp2 => ?_⟩
      have u2 := Same.laid (o := .lst [.int 6, .int (0 - 1), .bl true, .non, .str "1"]) hp2
      refine ⟨t, r, p2, _, rfl, (S5'.same u2).tw, upd_same, S5'.tw.off hp2, (by show 0 < 5; decide), (by show 5 < 1000; decide), fun u Hd hu Td bd => ?_⟩
      have Sd := (S5'.same u2).but nwa Td bd
      have kd5 := bd _ _ (u2 _ _ k5) n5
      have bD : But [t, r] G8 Hd := bB.trans ((u2.but _).trans bd)
      obtain ⟨n, kn, hw⟩ : ∃ n, (∀ H', Kn H' u n) ∧ inW u 0 5 = false := by
        simp only [List.mem_cons, List.mem_nil_iff, or_false] at hu
        rcases hu with rfl | rfl | rfl | rfl | rfl
        · exact ⟨_, fun _ => .int _, by decide⟩
        · exact ⟨_, fun _ => .int _, by decide⟩
        · exact ⟨_, fun _ => .bl _, rfl⟩
        · exact ⟨_, fun _ => .non, rfl⟩
        · exact ⟨_, fun _ => .str _, rfl⟩
      clear u2 bd hp2 k5 S5' bB
      -- the things
      refine ⟨_, rfl, Nat.zero_le _, fun a6 h6 => ?_⟩
      have t6 := Same.laid (o := .lst []) h6
      refine ⟨(show 2 ≤ sizeLine from by decide), fun b1 hb1 => ?_⟩
      have tb1 := Same.laid (o := .tup [.int 0, .int 1]) hb1
      refine ⟨(show 1 ≤ sizeLine from by decide), fun a7 h7 => ?_⟩
      have t7 := Same.laid (o := .lst [.ref b1]) h7
      refine ⟨a7, 41, _, rfl, rfl, upd_same, by decide, by decide, (by show 1 * 41 ≤ sizeLine; decide), fun a8 h8 => ?_⟩
      have t8 := Same.laid (o := .lst (List.replicate (41 : Int).toNat [V.ref b1]).flatten) h8
      have S8' := (((Sd.same t6).same tb1).same t7).same t8
      refine ⟨_, rfl, wa, _, rfl, .inl ⟨SqL.of S8'.w, fun a9 h9 => ?_⟩⟩
      have t9 := Same.laid (o := .tup (L.map V.ref)) h9
      intro a10 h10
      have t10 := Same.laid (o := .dK []) h10
      refine ⟨(show 7 ≤ sizeLine from by decide), fun a11 h11 => ?_⟩
      have t11 := Same.laid (o := .lst [.ref a5, .ref a6, .ref a8, .ref a9, .non, .int 5, .ref a10]) h11
      have n6 := Sd.tw.off h6
      have nb1 := (Sd.same t6).tw.off hb1
      have n8 := (((Sd.same t6).same tb1).same t7).tw.off h8
      have n9 := S8'.tw.off h9
      have n10 := (S8'.same t9).tw.off h10
      have n11 := ((S8'.same t9).same t10).tw.off h11
      have Sc := ((S8'.same t9).same t10).same t11
      have y10 := t11
      have y9 := t10.trans' y10
      have y8' := t9.trans' y9
      have y7 := t8.trans' y8'
      have yb := t7.trans' y7
      have y6 := tb1.trans' yb
      have c5 := y6 _ _ (t6 _ _ kd5)
      have c6 := y6 _ _ (upd_same (H := Hd) (a := a6) (o := .lst []))
      have cb := yb _ _ (upd_same (H := upd Hd a6 (.lst [])) (a := b1) (o := .tup [.int 0, .int 1]))
      have c8 := y8' _ _ (upd_same (H := upd (upd (upd Hd a6 (.lst [])) b1 (.tup [.int 0, .int 1])) a7 (.lst [.ref b1])) (a := a8) (o := .lst (List.replicate (41 : Int).toNat [V.ref b1]).flatten))
      have c9 := y9 _ _ (upd_same (H := upd (upd (upd (upd Hd a6 (.lst [])) b1 (.tup [.int 0, .int 1])) a7 (.lst [.ref b1])) a8 (.lst (List.replicate (41 : Int).toNat [V.ref b1]).flatten)) (a := a9) (o := .tup (L.map V.ref)))
      have c10 := y10 _ _ (upd_same (H := upd (upd (upd (upd (upd Hd a6 (.lst [])) b1 (.tup [.int 0, .int 1])) a7 (.lst [.ref b1])) a8 (.lst (List.replicate (41 : Int).toNat [V.ref b1]).flatten)) a9 (.tup (L.map V.ref))) (a := a10) (o := .dK []))
      have c11 := upd_same (H := upd (upd (upd (upd (upd (upd Hd a6 (.lst [])) b1 (.tup [.int 0, .int 1])) a7 (.lst [.ref b1])) a8 (.lst (List.replicate (41 : Int).toNat [V.ref b1]).flatten)) a9 (.tup (L.map V.ref))) a10 (.dK [])) (a := a11) (o := .lst [.ref a5, .ref a6, .ref a8, .ref a9, .non, .int 5, .ref a10])
      have bC : But [t, r] G8 _ := bD.trans ((t6.trans' y6).but _)
      generalize upd (upd (upd (upd (upd (upd (upd Hd a6 (.lst [])) b1 (.tup [.int 0, .int 1])) a7 (.lst [.ref b1])) a8 (.lst (List.replicate (41 : Int).toNat [V.ref b1]).flatten)) a9 (.tup (L.map V.ref))) a10 (.dK [])) a11 (.lst [.ref a5, .ref a6, .ref a8, .ref a9, .non, .int 5, .ref a10]) = Hc at Sc c5 c6 cb c8 c9 c10 c11 bC ⊢
      clear t6 tb1 t7 t8 t9 t10 t11 S8' Sd h6 hb1 h7 h8 h9 h10 h11 kd5 y10 y9 y8' y7 yb y6 bD Td
      have firm : ∀ x ∈ ([.ref a5, .ref a6, .ref a8, .ref a9, .non, .int 5, .ref a10] : List V), ∀ H2, But [t, r] Hc H2 → S38 t r wa L ps H2 → BP H2 x := fun x hx H2 b S2 => by
        simp only [List.mem_cons, List.mem_nil_iff, or_false] at hx
        rcases hx with rfl | rfl | rfl | rfl | rfl | rfl | rfl
        · obtain ⟨w1, w2, w3⟩ := oddP odd hodd H2 (bC.trans b)
          refine badp_list (b _ _ c5 n5) (fun y hy => ?_) ?_
          · rcases List.mem_append.mp hy with hy | hy
            · rcases List.mem_append.mp hy with hy | hy
              · exact S2.known (m1 y hy)
              · rw [List.mem_singleton] at hy
                subst hy
                exact ⟨w1, w2⟩
            · exact S2.known (m2 y hy)
          · have e : ((x1 ++ [odd] ++ x2).all fun v => pairW H2 v (-1000000) 1000000) = false := by
              rw [Bool.eq_false_iff]
              intro h
              have := List.all_eq_true.mp h odd (by simp)
              rw [w3] at this
              cases this
            show (fitL _ && _) = false
            rw [e, Bool.and_false]
        · exact badp_list (b _ _ c6 n6) (fun y hy => by cases hy) rfl
        · have eb := b _ _ cb nb1
          refine badp_list (b _ _ c8 n8) (fun y hy => ?_) ?_
          · rw [flat_rep] at hy
            rw [(List.mem_replicate.mp hy).2]
            refine ⟨⟨_, .tup eb⟩, fun ys ey y hy => ?_⟩
            rw [viewT_tup eb] at ey
            cases ey
            simp only [List.mem_cons, List.mem_nil_iff, or_false] at hy
            rcases hy with rfl | rfl
            · exact ⟨_, .int _⟩
            · exact ⟨_, .int _⟩
          · have e : fitL (some (List.replicate (41 : Int).toNat [V.ref b1]).flatten) = false := by
              rw [flat_rep]
              unfold fitL
              dsimp only
              rw [List.length_replicate]
              decide
            simp only [okP, e, Bool.false_and]
        · exact badp_plain (.tup (b _ _ c9 n9)) (by simp [view, b _ _ c9 n9])
        · exact badp_plain .non rfl
        · exact badp_plain (.int 5) rfl
        · exact badp_plain (.dK (b _ _ c10 n10)) (by simp [view, b _ _ c10 n10])
      refine ⟨a11, rfl, ⟨_, SqL.of c11⟩, for_list (K := K) (a := a11) (xs := [.ref a5, .ref a6, .ref a8, .ref a9, .non, .int 5, .ref a10])
        (fun _ σ' H2 => ∃ v8 : Option V, σ' = [some (.ref a), some (.ref t), some (.ref wa), some (.int at_), some (.ref oL), some (.int (0 + (i : Int))), some (.ref a5), some u, v8, none] ∧ S38 t r wa L ps H2 ∧ But [t, r] Hc H2)
        ⟨_, rfl, Sc, fun _ _ e _ => e⟩ (fun i σ' H2 _ p => by
          obtain ⟨_, _, _, b⟩ := p
          exact SqL.of (b _ _ c11 n11)) ?_ ?_⟩
      · rintro j x σ' H2 hx ⟨v8, rfl, S2, b2⟩
        have hx := List.mem_of_getElem? hx
        refine ⟨_, rfl, _, rfl, 0, x, u, rfl, by decide, .inl ⟨0, by decide, .number (kn _) hw, fun H3 s3 => ⟨rfl, _, rfl, iteNS rfl ?_⟩⟩⟩
        have S3 := S2.same s3
        have b3 := b2.trans (s3.but _)
        refine ⟨_, rfl, by decide, by decide, fun acc hacc => comp_range (lo := 0) (acc := acc) (fun i ys H4 => Same H3 H4 ∧ H4 acc = some (.lst ys) ∧ ys = List.replicate i (.str (word 1)))
          ⟨Same.laid hacc, upd_same, rfl⟩ ?_ ?_ ?_⟩
        · rintro i ys H4 hi ⟨_, _, rfl⟩
          have hi : i < 4 := hi
          rw [List.length_replicate]
          exact small1000 (by omega)
        · rintro i ys H4 hi ⟨s4, h4, rfl⟩
          have hi : i < 4 := hi
          exact ⟨keep1, _, rfl, _, rfl, i, x, .int 0, by rw [Int.zero_add]; rfl, by omega, .inl ⟨1, by decide, .bad (k := 0) (by decide) (firm x hx H4 (b3.trans (s4.but _)) (S3.same s4)), fun H5 s5 => ⟨s5 _ _ h4, fun b o e => by rw [upd_ne (ne_of_none e hacc)]; exact s5 _ _ (s4 b o e), upd_same, by rw [List.replicate_succ']⟩⟩⟩
        rintro ys H4 ⟨s4, h4, rfl⟩
        refine ⟨(show 1 ≤ sizeLine from by decide), fun p1 hp1 => ⟨p1, 4, _, rfl, rfl, upd_same, by decide, by decide, (by show 1 * 4 ≤ sizeLine; decide), fun p2 hp2 => ?_⟩⟩
        have w1 := Same.laid (o := .lst [.str "worths"]) hp1
        have w2 := Same.laid (o := .lst (List.replicate (4 : Int).toNat [V.str "worths"]).flatten) hp2
        refine ⟨acc, p2, _, _, rfl, rfl, SqL.of (w2 _ _ (w1 _ _ h4)), SqL.of upd_same, all_flat_rep rfl, by rw [flat_rep]; exact all_flat_rep rfl, _, rfl, ?_⟩
        rw [flat_rep] at w2 ⊢
        rw [show eqVs (List.replicate (Int.toNat 4) (V.str (word 1))) (List.replicate (Int.toNat 4) (V.str "worths")) = true from eqVs_self (all_flat_rep rfl)]
        refine iteF ?_
        exact ⟨_, rfl, ((S3.same s4).same w1).same w2, b3.trans ((s4.but _).trans ((w1.but _).trans (w2.but _)))⟩
      · rintro σ' H2 ⟨v8, rfl, S2, b2⟩
        exact ⟨_, _, _, _, rfl, S2, bC.trans b2⟩
    · rintro σ' H6 ⟨v5, v6, v7, v8, rfl, S6, _⟩
      have g6 : NN H6 wa ps := S6.nn (by omega) (by omega) hb
      refine ⟨_, rfl, wa, _, rfl, .inl (SqL.of S6.w), _, _, rfl, rfl, _, _, rfl, rfl, ⟨by decide, by decide⟩, ?_⟩
      have es : ((L.map V.ref).length + 1 : Int) / 2 = (((ps.length + 1) / 2 : Nat) : Int) := by
        rw [List.length_map, S6.len]
        omega
      have es2 : ((L.map V.ref).length - 1 : Int) / 2 = (((ps.length - 1) / 2 : Nat) : Int) := by
        rw [List.length_map, S6.len]
        omega
      dsimp only
      rw [es]
      have h1 : (ps.length + 1) / 2 ≤ 5 := by omega
      refine ⟨_, rfl, _, _, rfl, rfl, _, rfl, ?_⟩
      rw [decide_eq_true (show (((ps.length + 1) / 2 : Nat) : Int) < 6 by omega)]
      refine iteT ?_
      refine ⟨_, rfl, _, rfl, 0, .ref wa, .int (((ps.length + 1) / 2 : Nat) : Int), rfl, by decide, .inl ⟨1, by decide, .few h1 g6 (by omega), fun H7 s7 => ⟨rfl, _, rfl, iteNS rfl ?_⟩⟩⟩
      have S7 := S6.same s7
      refine ⟨_, rfl, _, rfl, wa, _, rfl, .inl (SqL.of S7.w), _, _, rfl, rfl, _, _, rfl, rfl, ⟨by decide, by decide⟩, ?_⟩
      refine ⟨0, .ref wa, .int (((ps.length - 1) / 2 : Nat) : Int), by show [V.int 0, V.ref wa, V.int (((L.map V.ref).length - 1 : Int) / 2)] = _; rw [es2]; rfl, by decide, .inr ⟨wa, ps, (ps.length - 1) / 2, rfl, rfl, g6.same s7, by omega, by omega, fun H8 s8 => ⟨rfl, _, rfl, iteNS rfl ?_⟩⟩⟩
      refine ⟨_, rfl, by decide, by decide, fun acc2 hacc2 => comp_range (lo := 0) (acc := acc2) (fun i ys H3 => Same H8 H3 ∧ H3 acc2 = some (.lst ys) ∧ ys = List.replicate i (.str "told"))
          ⟨Same.laid hacc2, upd_same, rfl⟩ ?_ ?_ ?_⟩
      · rintro i ys H3 hi ⟨_, _, rfl⟩
        have hi : i < 4 := hi
        rw [List.length_replicate]
        exact small1000 (by omega)
      · rintro i ys H3 hi ⟨s3, h3, rfl⟩
        have hi : i < 4 := hi
        refine ⟨keep1, _, rfl, _, _, rfl, rfl, (show 2 ≤ sizeLine from by decide), fun q0 hq0 => ⟨(show 1 ≤ sizeLine from by decide), fun q1 hq1 => ⟨q1, 40, _, rfl, rfl, upd_same, by decide, by decide, (by show 1 * 40 ≤ sizeLine; decide), fun q2 hq2 => ?_⟩⟩⟩
        have y0 := Same.laid (o := .tup [.int (0 - 1000000), .int 1000000]) hq0
        have y1 := Same.laid (o := .lst [.ref q0]) hq1
        have y2 := Same.laid (o := .lst (List.replicate (40 : Int).toNat [V.ref q0]).flatten) hq2
        refine ⟨i, .ref q2, .int 5, by rw [Int.zero_add]; rfl, by omega, .inr ⟨q2, List.replicate 40 (0 - 1000000, 1000000), 5, rfl, rfl, ⟨⟨List.replicate 40 q0, ?_, by simp, fun j p b e1 e2 => ?_⟩, by decide, by decide, fun p hp => ?_⟩, by decide, by decide, fun H4 s4 => ?_⟩⟩
        · rw [upd_same, flat_rep, List.map_replicate]
          rfl
        · have ep := (List.mem_replicate.mp (List.mem_of_getElem? e1)).2
          have eb := (List.mem_replicate.mp (List.mem_of_getElem? e2)).2
          subst ep
          subst eb
          exact y2 _ _ (y1 _ _ upd_same)
        · rw [(List.mem_replicate.mp hp).2]
          decide
        · exact ⟨s4 _ _ (y2 _ _ (y1 _ _ (y0 _ _ h3))), fun b o e => by rw [upd_ne (ne_of_none e hacc2)]; exact s4 _ _ (y2 _ _ (y1 _ _ (y0 _ _ (s3 b o e)))), upd_same, by rw [List.replicate_succ']⟩
      rintro ys H9 ⟨s9, h9, rfl⟩
      refine ⟨(show 1 ≤ sizeLine from by decide), fun p3 hp3 => ⟨p3, 4, _, rfl, rfl, upd_same, by decide, by decide, (by show 1 * 4 ≤ sizeLine; decide), fun p4 hp4 => ?_⟩⟩
      have w3 := Same.laid (o := .lst [.str "told"]) hp3
      have w4 := Same.laid (o := .lst (List.replicate (4 : Int).toNat [V.str "told"]).flatten) hp4
      refine ⟨acc2, p4, _, _, rfl, rfl, SqL.of (w4 _ _ (w3 _ _ h9)), SqL.of upd_same, all_flat_rep rfl, by rw [flat_rep]; exact all_flat_rep rfl, ?_⟩
      rw [flat_rep]
      rw [show eqVs (List.replicate (Int.toNat 4) (V.str "told")) (List.replicate (Int.toNat 4) (V.str "told")) = true from eqVs_self (all_flat_rep rfl)]
      exact q _
end

theorem all_mk {l : PySem.W.OpenLaw} {w : World} {K : PySem.W.Frag} {h : Heap} {mg : Str → Option Value} {fa : Addr} (X : K.In h) (G : h.Ns mainGlobals mg) (hfa : mg "law" = some (.ref fa))
    {f_is_whole : Addr} {od_is_whole an_is_whole : Option Addr} {sl_is_whole : Array (Option Value)} {oc_is_whole kV_is_whole dc_is_whole pm_is_whole cd_is_whole ct_is_whole : Value}
    {f_is_within : Addr} {od_is_within an_is_within : Option Addr} {sl_is_within : Array (Option Value)} {oc_is_within kV_is_within dc_is_within pm_is_within cd_is_within ct_is_within : Value}
    {f_is_number : Addr} {od_is_number an_is_number : Option Addr} {sl_is_number : Array (Option Value)} {oc_is_number kV_is_number dc_is_number pm_is_number cd_is_number ct_is_number : Value}
    {f_is_pair : Addr} {od_is_pair an_is_pair : Option Addr} {sl_is_pair : Array (Option Value)} {oc_is_pair kV_is_pair dc_is_pair pm_is_pair cd_is_pair ct_is_pair : Value}
    {f_is_number_pair : Addr} {od_is_number_pair an_is_number_pair : Option Addr} {sl_is_number_pair : Array (Option Value)} {oc_is_number_pair kV_is_number_pair dc_is_number_pair pm_is_number_pair cd_is_number_pair ct_is_number_pair : Value}
    {f_is_fit_list : Addr} {od_is_fit_list an_is_fit_list : Option Addr} {sl_is_fit_list : Array (Option Value)} {oc_is_fit_list kV_is_fit_list dc_is_fit_list pm_is_fit_list cd_is_fit_list ct_is_fit_list : Value}
    {f_check_within : Addr} {od_check_within an_check_within : Option Addr} {sl_check_within : Array (Option Value)} {oc_check_within kV_check_within dc_check_within pm_check_within cd_check_within ct_check_within : Value}
    {f_check_few : Addr} {od_check_few an_check_few : Option Addr} {sl_check_few : Array (Option Value)} {oc_check_few kV_check_few dc_check_few pm_check_few cd_check_few ct_check_few : Value}
    {f_check_worths : Addr} {od_check_worths an_check_worths : Option Addr} {sl_check_worths : Array (Option Value)} {oc_check_worths kV_check_worths dc_check_worths pm_check_worths cd_check_worths ct_check_worths : Value}
    {f_check_some_left : Addr} {od_check_some_left an_check_some_left : Option Addr} {sl_check_some_left : Array (Option Value)} {oc_check_some_left kV_check_some_left dc_check_some_left pm_check_some_left cd_check_some_left ct_check_some_left : Value}
    {f_without_ends : Addr} {od_without_ends an_without_ends : Option Addr} {sl_without_ends : Array (Option Value)} {oc_without_ends kV_without_ends dc_without_ends pm_without_ends cd_without_ends ct_without_ends : Value}
    {f_half_way : Addr} {od_half_way an_half_way : Option Addr} {sl_half_way : Array (Option Value)} {oc_half_way kV_half_way dc_half_way pm_half_way cd_half_way ct_half_way : Value}
    {f_how_far : Addr} {od_how_far an_how_far : Option Addr} {sl_how_far : Array (Option Value)} {oc_how_far kV_how_far dc_how_far pm_how_far cd_how_far ct_how_far : Value}
    {f_trimmed : Addr} {od_trimmed an_trimmed : Option Addr} {sl_trimmed : Array (Option Value)} {oc_trimmed kV_trimmed dc_trimmed pm_trimmed cd_trimmed ct_trimmed : Value}
    {f_middle : Addr} {od_middle an_middle : Option Addr} {sl_middle : Array (Option Value)} {oc_middle kV_middle dc_middle pm_middle cd_middle ct_middle : Value}
    {f_spread : Addr} {od_spread an_spread : Option Addr} {sl_spread : Array (Option Value)} {oc_spread kV_spread dc_spread pm_spread cd_spread ct_spread : Value}
    {f_is_between : Addr} {od_is_between an_is_between : Option Addr} {sl_is_between : Array (Option Value)} {oc_is_between kV_is_between dc_is_between pm_is_between cd_is_between ct_is_between : Value}
    {f_check_points : Addr} {od_check_points an_check_points : Option Addr} {sl_check_points : Array (Option Value)} {oc_check_points kV_check_points dc_check_points pm_check_points cd_check_points ct_check_points : Value}
    {f_first_numbers : Addr} {od_first_numbers an_first_numbers : Option Addr} {sl_first_numbers : Array (Option Value)} {oc_first_numbers kV_first_numbers dc_first_numbers pm_first_numbers cd_first_numbers ct_first_numbers : Value}
    {f_second_numbers : Addr} {od_second_numbers an_second_numbers : Option Addr} {sl_second_numbers : Array (Option Value)} {oc_second_numbers kV_second_numbers dc_second_numbers pm_second_numbers cd_second_numbers ct_second_numbers : Value}
    {f_box : Addr} {od_box an_box : Option Addr} {sl_box : Array (Option Value)} {oc_box kV_box dc_box pm_box cd_box ct_box : Value}
    {f_middle_point : Addr} {od_middle_point an_middle_point : Option Addr} {sl_middle_point : Array (Option Value)} {oc_middle_point kV_middle_point dc_middle_point pm_middle_point cd_middle_point ct_middle_point : Value}
    {f_in_box : Addr} {od_in_box an_in_box : Option Addr} {sl_in_box : Array (Option Value)} {oc_in_box kV_in_box dc_in_box pm_in_box cd_in_box ct_in_box : Value}
    {f_width : Addr} {od_width an_width : Option Addr} {sl_width : Array (Option Value)} {oc_width kV_width dc_width pm_width cd_width ct_width : Value}
    {f__law_town : Addr} {od__law_town an__law_town : Option Addr} {sl__law_town : Array (Option Value)} {oc__law_town kV__law_town dc__law_town pm__law_town cd__law_town ct__law_town : Value}
    {f__law_draw : Addr} {od__law_draw an__law_draw : Option Addr} {sl__law_draw : Array (Option Value)} {oc__law_draw kV__law_draw dc__law_draw pm__law_draw cd__law_draw ct__law_draw : Value}
    {f__law_pick : Addr} {od__law_pick an__law_pick : Option Addr} {sl__law_pick : Array (Option Value)} {oc__law_pick kV__law_pick dc__law_pick pm__law_pick cd__law_pick ct__law_pick : Value}
    {f__law_refusal : Addr} {od__law_refusal an__law_refusal : Option Addr} {sl__law_refusal : Array (Option Value)} {oc__law_refusal kV__law_refusal dc__law_refusal pm__law_refusal cd__law_refusal ct__law_refusal : Value}
    {f__law_number : Addr} {od__law_number an__law_number : Option Addr} {sl__law_number : Array (Option Value)} {oc__law_number kV__law_number dc__law_number pm__law_number cd__law_number ct__law_number : Value}
    {f__law_did : Addr} {od__law_did an__law_did : Option Addr} {sl__law_did : Array (Option Value)} {oc__law_did kV__law_did dc__law_did pm__law_did cd__law_did ct__law_did : Value}
    {f__law_told : Addr} {od__law_told an__law_told : Option Addr} {sl__law_told : Array (Option Value)} {oc__law_told kV__law_told dc__law_told pm__law_told cd__law_told ct__law_told : Value}
    {f_law : Addr} {od_law an_law : Option Addr} {sl_law : Array (Option Value)} {oc_law kV_law dc_law pm_law cd_law ct_law : Value}
    {t_FARTHEST : Tok}
    {t_MOST_FEW : Tok}
    {t_MOST_WORTHS : Tok}
    {c_LiarError : Addr}
    {c_BadNumber : Addr}
    {c_BadWorths : Addr}
    {c_BadLies : Addr}
    {c_BadHouses : Addr}
    {c_NoHouse : Addr}
    {c_NoLetter : Addr}
    {c_NotNow : Addr}
    {c_BadTable : Addr}
    {c_BadSaying : Addr}
    (a_is_whole : PySem.W.nsIn K mainGlobals "is_whole" = some (some (.ref f_is_whole))) (l_is_whole : K.lookup f_is_whole = some ⟨oc_is_whole, od_is_whole, .func (PySem.W.fnOf "is_whole" "is_whole" (defArgs s_is_whole) (defBody s_is_whole) (defScope s_is_whole) .none kV_is_whole dc_is_whole pm_is_whole an_is_whole cd_is_whole ct_is_whole), sl_is_whole⟩) (c_is_whole : PySem.W.codeIn K cd_is_whole "is_whole" = true) (k_is_whole : PySem.W.keepIn K (.ref f_is_whole) = true)
    (a_is_within : PySem.W.nsIn K mainGlobals "is_within" = some (some (.ref f_is_within))) (l_is_within : K.lookup f_is_within = some ⟨oc_is_within, od_is_within, .func (PySem.W.fnOf "is_within" "is_within" (defArgs s_is_within) (defBody s_is_within) (defScope s_is_within) .none kV_is_within dc_is_within pm_is_within an_is_within cd_is_within ct_is_within), sl_is_within⟩) (c_is_within : PySem.W.codeIn K cd_is_within "is_within" = true) (k_is_within : PySem.W.keepIn K (.ref f_is_within) = true)
    (a_is_number : PySem.W.nsIn K mainGlobals "is_number" = some (some (.ref f_is_number))) (l_is_number : K.lookup f_is_number = some ⟨oc_is_number, od_is_number, .func (PySem.W.fnOf "is_number" "is_number" (defArgs s_is_number) (defBody s_is_number) (defScope s_is_number) .none kV_is_number dc_is_number pm_is_number an_is_number cd_is_number ct_is_number), sl_is_number⟩) (c_is_number : PySem.W.codeIn K cd_is_number "is_number" = true) (k_is_number : PySem.W.keepIn K (.ref f_is_number) = true)
    (a_is_pair : PySem.W.nsIn K mainGlobals "is_pair" = some (some (.ref f_is_pair))) (l_is_pair : K.lookup f_is_pair = some ⟨oc_is_pair, od_is_pair, .func (PySem.W.fnOf "is_pair" "is_pair" (defArgs s_is_pair) (defBody s_is_pair) (defScope s_is_pair) .none kV_is_pair dc_is_pair pm_is_pair an_is_pair cd_is_pair ct_is_pair), sl_is_pair⟩) (c_is_pair : PySem.W.codeIn K cd_is_pair "is_pair" = true) (k_is_pair : PySem.W.keepIn K (.ref f_is_pair) = true)
    (a_is_number_pair : PySem.W.nsIn K mainGlobals "is_number_pair" = some (some (.ref f_is_number_pair))) (l_is_number_pair : K.lookup f_is_number_pair = some ⟨oc_is_number_pair, od_is_number_pair, .func (PySem.W.fnOf "is_number_pair" "is_number_pair" (defArgs s_is_number_pair) (defBody s_is_number_pair) (defScope s_is_number_pair) .none kV_is_number_pair dc_is_number_pair pm_is_number_pair an_is_number_pair cd_is_number_pair ct_is_number_pair), sl_is_number_pair⟩) (c_is_number_pair : PySem.W.codeIn K cd_is_number_pair "is_number_pair" = true) (k_is_number_pair : PySem.W.keepIn K (.ref f_is_number_pair) = true)
    (a_is_fit_list : PySem.W.nsIn K mainGlobals "is_fit_list" = some (some (.ref f_is_fit_list))) (l_is_fit_list : K.lookup f_is_fit_list = some ⟨oc_is_fit_list, od_is_fit_list, .func (PySem.W.fnOf "is_fit_list" "is_fit_list" (defArgs s_is_fit_list) (defBody s_is_fit_list) (defScope s_is_fit_list) .none kV_is_fit_list dc_is_fit_list pm_is_fit_list an_is_fit_list cd_is_fit_list ct_is_fit_list), sl_is_fit_list⟩) (c_is_fit_list : PySem.W.codeIn K cd_is_fit_list "is_fit_list" = true) (k_is_fit_list : PySem.W.keepIn K (.ref f_is_fit_list) = true)
    (a_check_within : PySem.W.nsIn K mainGlobals "check_within" = some (some (.ref f_check_within))) (l_check_within : K.lookup f_check_within = some ⟨oc_check_within, od_check_within, .func (PySem.W.fnOf "check_within" "check_within" (defArgs s_check_within) (defBody s_check_within) (defScope s_check_within) .none kV_check_within dc_check_within pm_check_within an_check_within cd_check_within ct_check_within), sl_check_within⟩) (c_check_within : PySem.W.codeIn K cd_check_within "check_within" = true) (k_check_within : PySem.W.keepIn K (.ref f_check_within) = true)
    (a_check_few : PySem.W.nsIn K mainGlobals "check_few" = some (some (.ref f_check_few))) (l_check_few : K.lookup f_check_few = some ⟨oc_check_few, od_check_few, .func (PySem.W.fnOf "check_few" "check_few" (defArgs s_check_few) (defBody s_check_few) (defScope s_check_few) .none kV_check_few dc_check_few pm_check_few an_check_few cd_check_few ct_check_few), sl_check_few⟩) (c_check_few : PySem.W.codeIn K cd_check_few "check_few" = true) (k_check_few : PySem.W.keepIn K (.ref f_check_few) = true)
    (a_check_worths : PySem.W.nsIn K mainGlobals "check_worths" = some (some (.ref f_check_worths))) (l_check_worths : K.lookup f_check_worths = some ⟨oc_check_worths, od_check_worths, .func (PySem.W.fnOf "check_worths" "check_worths" (defArgs s_check_worths) (defBody s_check_worths) (defScope s_check_worths) .none kV_check_worths dc_check_worths pm_check_worths an_check_worths cd_check_worths ct_check_worths), sl_check_worths⟩) (c_check_worths : PySem.W.codeIn K cd_check_worths "check_worths" = true) (k_check_worths : PySem.W.keepIn K (.ref f_check_worths) = true)
    (a_check_some_left : PySem.W.nsIn K mainGlobals "check_some_left" = some (some (.ref f_check_some_left))) (l_check_some_left : K.lookup f_check_some_left = some ⟨oc_check_some_left, od_check_some_left, .func (PySem.W.fnOf "check_some_left" "check_some_left" (defArgs s_check_some_left) (defBody s_check_some_left) (defScope s_check_some_left) .none kV_check_some_left dc_check_some_left pm_check_some_left an_check_some_left cd_check_some_left ct_check_some_left), sl_check_some_left⟩) (c_check_some_left : PySem.W.codeIn K cd_check_some_left "check_some_left" = true) (k_check_some_left : PySem.W.keepIn K (.ref f_check_some_left) = true)
    (a_without_ends : PySem.W.nsIn K mainGlobals "without_ends" = some (some (.ref f_without_ends))) (l_without_ends : K.lookup f_without_ends = some ⟨oc_without_ends, od_without_ends, .func (PySem.W.fnOf "without_ends" "without_ends" (defArgs s_without_ends) (defBody s_without_ends) (defScope s_without_ends) .none kV_without_ends dc_without_ends pm_without_ends an_without_ends cd_without_ends ct_without_ends), sl_without_ends⟩) (c_without_ends : PySem.W.codeIn K cd_without_ends "without_ends" = true) (k_without_ends : PySem.W.keepIn K (.ref f_without_ends) = true)
    (a_half_way : PySem.W.nsIn K mainGlobals "half_way" = some (some (.ref f_half_way))) (l_half_way : K.lookup f_half_way = some ⟨oc_half_way, od_half_way, .func (PySem.W.fnOf "half_way" "half_way" (defArgs s_half_way) (defBody s_half_way) (defScope s_half_way) .none kV_half_way dc_half_way pm_half_way an_half_way cd_half_way ct_half_way), sl_half_way⟩) (c_half_way : PySem.W.codeIn K cd_half_way "half_way" = true) (k_half_way : PySem.W.keepIn K (.ref f_half_way) = true)
    (a_how_far : PySem.W.nsIn K mainGlobals "how_far" = some (some (.ref f_how_far))) (l_how_far : K.lookup f_how_far = some ⟨oc_how_far, od_how_far, .func (PySem.W.fnOf "how_far" "how_far" (defArgs s_how_far) (defBody s_how_far) (defScope s_how_far) .none kV_how_far dc_how_far pm_how_far an_how_far cd_how_far ct_how_far), sl_how_far⟩) (c_how_far : PySem.W.codeIn K cd_how_far "how_far" = true) (k_how_far : PySem.W.keepIn K (.ref f_how_far) = true)
    (a_trimmed : PySem.W.nsIn K mainGlobals "trimmed" = some (some (.ref f_trimmed))) (l_trimmed : K.lookup f_trimmed = some ⟨oc_trimmed, od_trimmed, .func (PySem.W.fnOf "trimmed" "trimmed" (defArgs s_trimmed) (defBody s_trimmed) (defScope s_trimmed) .none kV_trimmed dc_trimmed pm_trimmed an_trimmed cd_trimmed ct_trimmed), sl_trimmed⟩) (c_trimmed : PySem.W.codeIn K cd_trimmed "trimmed" = true) (k_trimmed : PySem.W.keepIn K (.ref f_trimmed) = true)
    (a_middle : PySem.W.nsIn K mainGlobals "middle" = some (some (.ref f_middle))) (l_middle : K.lookup f_middle = some ⟨oc_middle, od_middle, .func (PySem.W.fnOf "middle" "middle" (defArgs s_middle) (defBody s_middle) (defScope s_middle) .none kV_middle dc_middle pm_middle an_middle cd_middle ct_middle), sl_middle⟩) (c_middle : PySem.W.codeIn K cd_middle "middle" = true) (k_middle : PySem.W.keepIn K (.ref f_middle) = true)
    (a_spread : PySem.W.nsIn K mainGlobals "spread" = some (some (.ref f_spread))) (l_spread : K.lookup f_spread = some ⟨oc_spread, od_spread, .func (PySem.W.fnOf "spread" "spread" (defArgs s_spread) (defBody s_spread) (defScope s_spread) .none kV_spread dc_spread pm_spread an_spread cd_spread ct_spread), sl_spread⟩) (c_spread : PySem.W.codeIn K cd_spread "spread" = true) (k_spread : PySem.W.keepIn K (.ref f_spread) = true)
    (a_is_between : PySem.W.nsIn K mainGlobals "is_between" = some (some (.ref f_is_between))) (l_is_between : K.lookup f_is_between = some ⟨oc_is_between, od_is_between, .func (PySem.W.fnOf "is_between" "is_between" (defArgs s_is_between) (defBody s_is_between) (defScope s_is_between) .none kV_is_between dc_is_between pm_is_between an_is_between cd_is_between ct_is_between), sl_is_between⟩) (c_is_between : PySem.W.codeIn K cd_is_between "is_between" = true) (k_is_between : PySem.W.keepIn K (.ref f_is_between) = true)
    (a_check_points : PySem.W.nsIn K mainGlobals "check_points" = some (some (.ref f_check_points))) (l_check_points : K.lookup f_check_points = some ⟨oc_check_points, od_check_points, .func (PySem.W.fnOf "check_points" "check_points" (defArgs s_check_points) (defBody s_check_points) (defScope s_check_points) .none kV_check_points dc_check_points pm_check_points an_check_points cd_check_points ct_check_points), sl_check_points⟩) (c_check_points : PySem.W.codeIn K cd_check_points "check_points" = true) (k_check_points : PySem.W.keepIn K (.ref f_check_points) = true)
    (a_first_numbers : PySem.W.nsIn K mainGlobals "first_numbers" = some (some (.ref f_first_numbers))) (l_first_numbers : K.lookup f_first_numbers = some ⟨oc_first_numbers, od_first_numbers, .func (PySem.W.fnOf "first_numbers" "first_numbers" (defArgs s_first_numbers) (defBody s_first_numbers) (defScope s_first_numbers) .none kV_first_numbers dc_first_numbers pm_first_numbers an_first_numbers cd_first_numbers ct_first_numbers), sl_first_numbers⟩) (c_first_numbers : PySem.W.codeIn K cd_first_numbers "first_numbers" = true) (k_first_numbers : PySem.W.keepIn K (.ref f_first_numbers) = true)
    (a_second_numbers : PySem.W.nsIn K mainGlobals "second_numbers" = some (some (.ref f_second_numbers))) (l_second_numbers : K.lookup f_second_numbers = some ⟨oc_second_numbers, od_second_numbers, .func (PySem.W.fnOf "second_numbers" "second_numbers" (defArgs s_second_numbers) (defBody s_second_numbers) (defScope s_second_numbers) .none kV_second_numbers dc_second_numbers pm_second_numbers an_second_numbers cd_second_numbers ct_second_numbers), sl_second_numbers⟩) (c_second_numbers : PySem.W.codeIn K cd_second_numbers "second_numbers" = true) (k_second_numbers : PySem.W.keepIn K (.ref f_second_numbers) = true)
    (a_box : PySem.W.nsIn K mainGlobals "box" = some (some (.ref f_box))) (l_box : K.lookup f_box = some ⟨oc_box, od_box, .func (PySem.W.fnOf "box" "box" (defArgs s_box) (defBody s_box) (defScope s_box) .none kV_box dc_box pm_box an_box cd_box ct_box), sl_box⟩) (c_box : PySem.W.codeIn K cd_box "box" = true) (k_box : PySem.W.keepIn K (.ref f_box) = true)
    (a_middle_point : PySem.W.nsIn K mainGlobals "middle_point" = some (some (.ref f_middle_point))) (l_middle_point : K.lookup f_middle_point = some ⟨oc_middle_point, od_middle_point, .func (PySem.W.fnOf "middle_point" "middle_point" (defArgs s_middle_point) (defBody s_middle_point) (defScope s_middle_point) .none kV_middle_point dc_middle_point pm_middle_point an_middle_point cd_middle_point ct_middle_point), sl_middle_point⟩) (c_middle_point : PySem.W.codeIn K cd_middle_point "middle_point" = true) (k_middle_point : PySem.W.keepIn K (.ref f_middle_point) = true)
    (a_in_box : PySem.W.nsIn K mainGlobals "in_box" = some (some (.ref f_in_box))) (l_in_box : K.lookup f_in_box = some ⟨oc_in_box, od_in_box, .func (PySem.W.fnOf "in_box" "in_box" (defArgs s_in_box) (defBody s_in_box) (defScope s_in_box) .none kV_in_box dc_in_box pm_in_box an_in_box cd_in_box ct_in_box), sl_in_box⟩) (c_in_box : PySem.W.codeIn K cd_in_box "in_box" = true) (k_in_box : PySem.W.keepIn K (.ref f_in_box) = true)
    (a_width : PySem.W.nsIn K mainGlobals "width" = some (some (.ref f_width))) (l_width : K.lookup f_width = some ⟨oc_width, od_width, .func (PySem.W.fnOf "width" "width" (defArgs s_width) (defBody s_width) (defScope s_width) .none kV_width dc_width pm_width an_width cd_width ct_width), sl_width⟩) (c_width : PySem.W.codeIn K cd_width "width" = true) (k_width : PySem.W.keepIn K (.ref f_width) = true)
    (a__law_town : PySem.W.nsIn K mainGlobals "_law_town" = some (some (.ref f__law_town))) (l__law_town : K.lookup f__law_town = some ⟨oc__law_town, od__law_town, .func (PySem.W.fnOf "_law_town" "_law_town" (defArgs s__law_town) (defBody s__law_town) (defScope s__law_town) .none kV__law_town dc__law_town pm__law_town an__law_town cd__law_town ct__law_town), sl__law_town⟩) (c__law_town : PySem.W.codeIn K cd__law_town "_law_town" = true) (k__law_town : PySem.W.keepIn K (.ref f__law_town) = true)
    (a__law_draw : PySem.W.nsIn K mainGlobals "_law_draw" = some (some (.ref f__law_draw))) (l__law_draw : K.lookup f__law_draw = some ⟨oc__law_draw, od__law_draw, .func (PySem.W.fnOf "_law_draw" "_law_draw" (defArgs s__law_draw) (defBody s__law_draw) (defScope s__law_draw) .none kV__law_draw dc__law_draw pm__law_draw an__law_draw cd__law_draw ct__law_draw), sl__law_draw⟩) (c__law_draw : PySem.W.codeIn K cd__law_draw "_law_draw" = true) (k__law_draw : PySem.W.keepIn K (.ref f__law_draw) = true)
    (a__law_pick : PySem.W.nsIn K mainGlobals "_law_pick" = some (some (.ref f__law_pick))) (l__law_pick : K.lookup f__law_pick = some ⟨oc__law_pick, od__law_pick, .func (PySem.W.fnOf "_law_pick" "_law_pick" (defArgs s__law_pick) (defBody s__law_pick) (defScope s__law_pick) .none kV__law_pick dc__law_pick pm__law_pick an__law_pick cd__law_pick ct__law_pick), sl__law_pick⟩) (c__law_pick : PySem.W.codeIn K cd__law_pick "_law_pick" = true) (k__law_pick : PySem.W.keepIn K (.ref f__law_pick) = true)
    (a__law_refusal : PySem.W.nsIn K mainGlobals "_law_refusal" = some (some (.ref f__law_refusal))) (l__law_refusal : K.lookup f__law_refusal = some ⟨oc__law_refusal, od__law_refusal, .func (PySem.W.fnOf "_law_refusal" "_law_refusal" (defArgs s__law_refusal) (defBody s__law_refusal) (defScope s__law_refusal) .none kV__law_refusal dc__law_refusal pm__law_refusal an__law_refusal cd__law_refusal ct__law_refusal), sl__law_refusal⟩) (c__law_refusal : PySem.W.codeIn K cd__law_refusal "_law_refusal" = true) (k__law_refusal : PySem.W.keepIn K (.ref f__law_refusal) = true)
    (a__law_number : PySem.W.nsIn K mainGlobals "_law_number" = some (some (.ref f__law_number))) (l__law_number : K.lookup f__law_number = some ⟨oc__law_number, od__law_number, .func (PySem.W.fnOf "_law_number" "_law_number" (defArgs s__law_number) (defBody s__law_number) (defScope s__law_number) .none kV__law_number dc__law_number pm__law_number an__law_number cd__law_number ct__law_number), sl__law_number⟩) (c__law_number : PySem.W.codeIn K cd__law_number "_law_number" = true) (k__law_number : PySem.W.keepIn K (.ref f__law_number) = true)
    (a__law_did : PySem.W.nsIn K mainGlobals "_law_did" = some (some (.ref f__law_did))) (l__law_did : K.lookup f__law_did = some ⟨oc__law_did, od__law_did, .func (PySem.W.fnOf "_law_did" "_law_did" (defArgs s__law_did) (defBody s__law_did) (defScope s__law_did) .none kV__law_did dc__law_did pm__law_did an__law_did cd__law_did ct__law_did), sl__law_did⟩) (c__law_did : PySem.W.codeIn K cd__law_did "_law_did" = true) (k__law_did : PySem.W.keepIn K (.ref f__law_did) = true)
    (a__law_told : PySem.W.nsIn K mainGlobals "_law_told" = some (some (.ref f__law_told))) (l__law_told : K.lookup f__law_told = some ⟨oc__law_told, od__law_told, .func (PySem.W.fnOf "_law_told" "_law_told" (defArgs s__law_told) (defBody s__law_told) (defScope s__law_told) .none kV__law_told dc__law_told pm__law_told an__law_told cd__law_told ct__law_told), sl__law_told⟩) (c__law_told : PySem.W.codeIn K cd__law_told "_law_told" = true) (k__law_told : PySem.W.keepIn K (.ref f__law_told) = true)
    (a_law : PySem.W.nsIn K mainGlobals "law" = some (some (.ref f_law))) (l_law : K.lookup f_law = some ⟨oc_law, od_law, .func (PySem.W.fnOf "law" "law" (defArgs s_law) (defBody s_law) (defScope s_law) .none kV_law dc_law pm_law an_law cd_law ct_law), sl_law⟩) (c_law : PySem.W.codeIn K cd_law "law" = true) (k_law : PySem.W.keepIn K (.ref f_law) = true)
    (n_FARTHEST : PySem.W.nsIn K mainGlobals "FARTHEST" = some (some (.int 1000000 t_FARTHEST)))
    (n_MOST_FEW : PySem.W.nsIn K mainGlobals "MOST_FEW" = some (some (.int 5 t_MOST_FEW)))
    (n_MOST_WORTHS : PySem.W.nsIn K mainGlobals "MOST_WORTHS" = some (some (.int 40 t_MOST_WORTHS)))
    (a_LiarError : PySem.W.nsIn K mainGlobals "LiarError" = some (some (.ref c_LiarError)))
    (a_BadNumber : PySem.W.nsIn K mainGlobals "BadNumber" = some (some (.ref c_BadNumber)))
    (a_BadWorths : PySem.W.nsIn K mainGlobals "BadWorths" = some (some (.ref c_BadWorths)))
    (a_BadLies : PySem.W.nsIn K mainGlobals "BadLies" = some (some (.ref c_BadLies)))
    (a_BadHouses : PySem.W.nsIn K mainGlobals "BadHouses" = some (some (.ref c_BadHouses)))
    (a_NoHouse : PySem.W.nsIn K mainGlobals "NoHouse" = some (some (.ref c_NoHouse)))
    (a_NoLetter : PySem.W.nsIn K mainGlobals "NoLetter" = some (some (.ref c_NoLetter)))
    (a_NotNow : PySem.W.nsIn K mainGlobals "NotNow" = some (some (.ref c_NotNow)))
    (a_BadTable : PySem.W.nsIn K mainGlobals "BadTable" = some (some (.ref c_BadTable)))
    (a_BadSaying : PySem.W.nsIn K mainGlobals "BadSaying" = some (some (.ref c_BadSaying)))
    (e_BadNumber : PySem.W.excIn K c_BadNumber bmVE "ValueError.__new__" = true)
    (e_BadWorths : PySem.W.excIn K c_BadWorths bmVE "ValueError.__new__" = true)
    (e_LiarError : PySem.W.excIn K c_LiarError bmVE "ValueError.__new__" = true)
    (x_BadNumber_ga : PySem.W.findIn K (.ref c_BadNumber) "__getattribute__" = some (some (.builtin "BaseException.__getattribute__")))
    (x_BadNumber_cl : PySem.W.findIn K (.ref c_BadNumber) "__class__" = some (some (.builtin "object.__class__")))
    (x_BadNumber_ob : PySem.W.mroIn K c_BadNumber (.type "object") = some true)
    (x_BadNumber_be : PySem.W.mroIn K c_BadNumber (.type "BaseException") = some true)
    (x_BadNumber_gh : PySem.W.findIn K (.ref c_BadNumber) "__getattr__" = some none)
    (x_BadNumber_k0 : PySem.W.kitOne K (.ref c_BadNumber) (.ref c_BadNumber) = some true)
    (x_BadNumber_k1 : PySem.W.kitOne K (.ref c_BadNumber) (.ref c_BadWorths) = some false)
    (x_BadNumber_k2 : PySem.W.kitOne K (.ref c_BadNumber) (.ref c_BadLies) = some false)
    (x_BadNumber_k3 : PySem.W.kitOne K (.ref c_BadNumber) (.ref c_BadHouses) = some false)
    (x_BadNumber_k4 : PySem.W.kitOne K (.ref c_BadNumber) (.ref c_NoHouse) = some false)
    (x_BadNumber_k5 : PySem.W.kitOne K (.ref c_BadNumber) (.ref c_NoLetter) = some false)
    (x_BadNumber_k6 : PySem.W.kitOne K (.ref c_BadNumber) (.ref c_NotNow) = some false)
    (x_BadNumber_k7 : PySem.W.kitOne K (.ref c_BadNumber) (.ref c_BadTable) = some false)
    (x_BadNumber_k8 : PySem.W.kitOne K (.ref c_BadNumber) (.ref c_BadSaying) = some false)
    (x_BadNumber_l : PySem.W.kitOne K (.ref c_BadNumber) (.ref c_LiarError) = some true)
    (x_BadNumber_v : PySem.W.kitOne K (.ref c_BadNumber) (.type "ValueError") = some true)
    (x_BadNumber_m : PySem.W.exmOne K (.ref c_BadNumber) (.ref c_LiarError) = some true)
    (x_BadWorths_ga : PySem.W.findIn K (.ref c_BadWorths) "__getattribute__" = some (some (.builtin "BaseException.__getattribute__")))
    (x_BadWorths_cl : PySem.W.findIn K (.ref c_BadWorths) "__class__" = some (some (.builtin "object.__class__")))
    (x_BadWorths_ob : PySem.W.mroIn K c_BadWorths (.type "object") = some true)
    (x_BadWorths_be : PySem.W.mroIn K c_BadWorths (.type "BaseException") = some true)
    (x_BadWorths_gh : PySem.W.findIn K (.ref c_BadWorths) "__getattr__" = some none)
    (x_BadWorths_k0 : PySem.W.kitOne K (.ref c_BadWorths) (.ref c_BadNumber) = some false)
    (x_BadWorths_k1 : PySem.W.kitOne K (.ref c_BadWorths) (.ref c_BadWorths) = some true)
    (x_BadWorths_k2 : PySem.W.kitOne K (.ref c_BadWorths) (.ref c_BadLies) = some false)
    (x_BadWorths_k3 : PySem.W.kitOne K (.ref c_BadWorths) (.ref c_BadHouses) = some false)
    (x_BadWorths_k4 : PySem.W.kitOne K (.ref c_BadWorths) (.ref c_NoHouse) = some false)
    (x_BadWorths_k5 : PySem.W.kitOne K (.ref c_BadWorths) (.ref c_NoLetter) = some false)
    (x_BadWorths_k6 : PySem.W.kitOne K (.ref c_BadWorths) (.ref c_NotNow) = some false)
    (x_BadWorths_k7 : PySem.W.kitOne K (.ref c_BadWorths) (.ref c_BadTable) = some false)
    (x_BadWorths_k8 : PySem.W.kitOne K (.ref c_BadWorths) (.ref c_BadSaying) = some false)
    (x_BadWorths_l : PySem.W.kitOne K (.ref c_BadWorths) (.ref c_LiarError) = some true)
    (x_BadWorths_v : PySem.W.kitOne K (.ref c_BadWorths) (.type "ValueError") = some true)
    (x_BadWorths_m : PySem.W.exmOne K (.ref c_BadWorths) (.ref c_LiarError) = some true)
    (z_ValueError : PySem.W.nsIn K mainGlobals "ValueError" = some none)
    (z_len : PySem.W.nsIn K mainGlobals "len" = some none)
    (z_sorted : PySem.W.nsIn K mainGlobals "sorted" = some none)
    (z_min : PySem.W.nsIn K mainGlobals "min" = some none)
    (z_max : PySem.W.nsIn K mainGlobals "max" = some none)
    (z_sum : PySem.W.nsIn K mainGlobals "sum" = some none)
    (z_all : PySem.W.nsIn K mainGlobals "all" = some none)
    (z_isinstance : PySem.W.nsIn K mainGlobals "isinstance" = some none)
    (z_int : PySem.W.nsIn K mainGlobals "int" = some none)
    (z_bool : PySem.W.nsIn K mainGlobals "bool" = some none)
    (z_list : PySem.W.nsIn K mainGlobals "list" = some none)
    (z_tuple : PySem.W.nsIn K mainGlobals "tuple" = some none)
    (z_range : PySem.W.nsIn K mainGlobals "range" = some none) :
    ∃ fd : FuncData, (∀ (s : Shared) (v : Value), BindsTo s fd ⟨[v], []⟩ [("_law_script", v)]) ∧ ∀ base : Heap, K.In base → base.Ns mainGlobals mg → FnOk l.prog w K mg base CX0 10 fa fd ["_law_script"] (sp_law K) := by
  have e := hfa.symm.trans (PySem.W.mg_of X G a_law)
  cases e
  have B : Bl mg := ⟨fun x hx => by
    simp only [List.mem_cons, List.mem_nil_iff, or_false] at hx
    rcases hx with rfl | rfl | rfl | rfl | rfl | rfl | rfl | rfl | rfl | rfl | rfl | rfl
    · exact PySem.W.mg_none_of X G z_len
    · exact PySem.W.mg_none_of X G z_sorted
    · exact PySem.W.mg_none_of X G z_min
    · exact PySem.W.mg_none_of X G z_max
    · exact PySem.W.mg_none_of X G z_sum
    · exact PySem.W.mg_none_of X G z_all
    · exact PySem.W.mg_none_of X G z_isinstance
    · exact PySem.W.mg_none_of X G z_int
    · exact PySem.W.mg_none_of X G z_bool
    · exact PySem.W.mg_none_of X G z_list
    · exact PySem.W.mg_none_of X G z_tuple
    · exact PySem.W.mg_none_of X G z_range⟩
  have C_FARTHEST := PySem.W.mg_of X G n_FARTHEST
  have C_MOST_FEW := PySem.W.mg_of X G n_MOST_FEW
  have C_MOST_WORTHS := PySem.W.mg_of X G n_MOST_WORTHS
  have A_LiarError := PySem.W.mg_of X G a_LiarError
  have A_BadNumber := PySem.W.mg_of X G a_BadNumber
  have A_BadWorths := PySem.W.mg_of X G a_BadWorths
  have A_BadLies := PySem.W.mg_of X G a_BadLies
  have A_BadHouses := PySem.W.mg_of X G a_BadHouses
  have A_NoHouse := PySem.W.mg_of X G a_NoHouse
  have A_NoLetter := PySem.W.mg_of X G a_NoLetter
  have A_NotNow := PySem.W.mg_of X G a_NotNow
  have A_BadTable := PySem.W.mg_of X G a_BadTable
  have A_BadSaying := PySem.W.mg_of X G a_BadSaying
  have X_BadNumber : Exc K mg "BadNumber" c_BadNumber := ⟨A_BadNumber, e_BadNumber⟩
  have X_BadWorths : Exc K mg "BadWorths" c_BadWorths := ⟨A_BadWorths, e_BadWorths⟩
  have X_LiarError : Exc K mg "LiarError" c_LiarError := ⟨A_LiarError, e_LiarError⟩
  have N_ValueError := PySem.W.mg_none_of X G z_ValueError
  have r0 : Row K c_BadNumber [c_BadNumber, c_BadWorths, c_BadLies, c_BadHouses, c_NoHouse, c_NoLetter, c_NotNow, c_BadTable, c_BadSaying] c_LiarError 0 := by
    refine ⟨⟨x_BadNumber_ga, x_BadNumber_cl, x_BadNumber_ob, x_BadNumber_be, exc_cls e_BadNumber, x_BadNumber_gh⟩, fun j c h => ?_, x_BadNumber_l, x_BadNumber_v, x_BadNumber_m⟩
    match j, h with
    | 0, h =>
      cases h
      exact x_BadNumber_k0
    | 1, h =>
      cases h
      exact x_BadNumber_k1
    | 2, h =>
      cases h
      exact x_BadNumber_k2
    | 3, h =>
      cases h
      exact x_BadNumber_k3
    | 4, h =>
      cases h
      exact x_BadNumber_k4
    | 5, h =>
      cases h
      exact x_BadNumber_k5
    | 6, h =>
      cases h
      exact x_BadNumber_k6
    | 7, h =>
      cases h
      exact x_BadNumber_k7
    | 8, h =>
      cases h
      exact x_BadNumber_k8
    | n + 9, h => simp at h
  have r1 : Row K c_BadWorths [c_BadNumber, c_BadWorths, c_BadLies, c_BadHouses, c_NoHouse, c_NoLetter, c_NotNow, c_BadTable, c_BadSaying] c_LiarError 1 := by
    refine ⟨⟨x_BadWorths_ga, x_BadWorths_cl, x_BadWorths_ob, x_BadWorths_be, exc_cls e_BadWorths, x_BadWorths_gh⟩, fun j c h => ?_, x_BadWorths_l, x_BadWorths_v, x_BadWorths_m⟩
    match j, h with
    | 0, h =>
      cases h
      exact x_BadWorths_k0
    | 1, h =>
      cases h
      exact x_BadWorths_k1
    | 2, h =>
      cases h
      exact x_BadWorths_k2
    | 3, h =>
      cases h
      exact x_BadWorths_k3
    | 4, h =>
      cases h
      exact x_BadWorths_k4
    | 5, h =>
      cases h
      exact x_BadWorths_k5
    | 6, h =>
      cases h
      exact x_BadWorths_k6
    | 7, h =>
      cases h
      exact x_BadWorths_k7
    | 8, h =>
      cases h
      exact x_BadWorths_k8
    | n + 9, h => simp at h
  have F_is_whole := fun_mk (st := s_is_whole) l_is_whole c_is_whole k_is_whole
  have F_is_within := fun_mk (st := s_is_within) l_is_within c_is_within k_is_within
  have F_is_number := fun_mk (st := s_is_number) l_is_number c_is_number k_is_number
  have F_is_pair := fun_mk (st := s_is_pair) l_is_pair c_is_pair k_is_pair
  have F_is_number_pair := fun_mk (st := s_is_number_pair) l_is_number_pair c_is_number_pair k_is_number_pair
  have F_is_fit_list := fun_mk (st := s_is_fit_list) l_is_fit_list c_is_fit_list k_is_fit_list
  have F_check_within := fun_mk (st := s_check_within) l_check_within c_check_within k_check_within
  have F_check_few := fun_mk (st := s_check_few) l_check_few c_check_few k_check_few
  have F_check_worths := fun_mk (st := s_check_worths) l_check_worths c_check_worths k_check_worths
  have F_check_some_left := fun_mk (st := s_check_some_left) l_check_some_left c_check_some_left k_check_some_left
  have F_without_ends := fun_mk (st := s_without_ends) l_without_ends c_without_ends k_without_ends
  have F_half_way := fun_mk (st := s_half_way) l_half_way c_half_way k_half_way
  have F_how_far := fun_mk (st := s_how_far) l_how_far c_how_far k_how_far
  have F_trimmed := fun_mk (st := s_trimmed) l_trimmed c_trimmed k_trimmed
  have F_middle := fun_mk (st := s_middle) l_middle c_middle k_middle
  have F_spread := fun_mk (st := s_spread) l_spread c_spread k_spread
  have F_is_between := fun_mk (st := s_is_between) l_is_between c_is_between k_is_between
  have F_check_points := fun_mk (st := s_check_points) l_check_points c_check_points k_check_points
  have F_first_numbers := fun_mk (st := s_first_numbers) l_first_numbers c_first_numbers k_first_numbers
  have F_second_numbers := fun_mk (st := s_second_numbers) l_second_numbers c_second_numbers k_second_numbers
  have F_box := fun_mk (st := s_box) l_box c_box k_box
  have F_middle_point := fun_mk (st := s_middle_point) l_middle_point c_middle_point k_middle_point
  have F_in_box := fun_mk (st := s_in_box) l_in_box c_in_box k_in_box
  have F_width := fun_mk (st := s_width) l_width c_width k_width
  have F__law_town := fun_mk (st := s__law_town) l__law_town c__law_town k__law_town
  have F__law_draw := fun_mk (st := s__law_draw) l__law_draw c__law_draw k__law_draw
  have F__law_pick := fun_mk (st := s__law_pick) l__law_pick c__law_pick k__law_pick
  have F__law_refusal := fun_mk (st := s__law_refusal) l__law_refusal c__law_refusal k__law_refusal
  have F__law_number := fun_mk (st := s__law_number) l__law_number c__law_number k__law_number
  have F__law_did := fun_mk (st := s__law_did) l__law_did c__law_did k__law_did
  have F__law_told := fun_mk (st := s__law_told) l__law_told c__law_told k__law_told
  have F_law := fun_mk (st := s_law) l_law c_law k_law
  refine ⟨PySem.W.fnOf "law" "law" (defArgs s_law) (defBody s_law) (defScope s_law) .none kV_law dc_law pm_law an_law cd_law ct_law, fun s v => .of_eq rfl, fun base _ _ => ?_⟩
  have Q_is_whole := F_is_whole.cal (ok_is_whole (P := l.prog) (w := w) (base := base) F_is_whole B ) (PySem.W.mg_of X G a_is_whole) (F_is_whole.binds (ps := ["thing"]) fun _ _ _ _ _ _ us hl => match us, hl with | [_], _ => rfl)
  have V_is_whole := F_is_whole.cal (okv_is_whole (P := l.prog) (w := w) (base := base) F_is_whole B ) (PySem.W.mg_of X G a_is_whole) (F_is_whole.binds (ps := ["thing"]) fun _ _ _ _ _ _ us hl => match us, hl with | [_], _ => rfl)
  have Q_is_within := F_is_within.cal (ok_is_within (P := l.prog) (w := w) (base := base) F_is_within B Q_is_whole) (PySem.W.mg_of X G a_is_within) (F_is_within.binds (ps := ["thing", "least", "most"]) fun _ _ _ _ _ _ us hl => match us, hl with | [_, _, _], _ => rfl)
  have V_is_within := F_is_within.cal (okv_is_within (P := l.prog) (w := w) (base := base) F_is_within B V_is_whole) (PySem.W.mg_of X G a_is_within) (F_is_within.binds (ps := ["thing", "least", "most"]) fun _ _ _ _ _ _ us hl => match us, hl with | [_, _, _], _ => rfl)
  have Q_is_number := F_is_number.cal (ok_is_number (P := l.prog) (w := w) (base := base) F_is_number B C_FARTHEST Q_is_within) (PySem.W.mg_of X G a_is_number) (F_is_number.binds (ps := ["thing"]) fun _ _ _ _ _ _ us hl => match us, hl with | [_], _ => rfl)
  have V_is_number := F_is_number.cal (okv_is_number (P := l.prog) (w := w) (base := base) F_is_number B C_FARTHEST V_is_within) (PySem.W.mg_of X G a_is_number) (F_is_number.binds (ps := ["thing"]) fun _ _ _ _ _ _ us hl => match us, hl with | [_], _ => rfl)
  have V_is_pair := F_is_pair.cal (okv_is_pair (P := l.prog) (w := w) (base := base) F_is_pair B ) (PySem.W.mg_of X G a_is_pair) (F_is_pair.binds (ps := ["thing"]) fun _ _ _ _ _ _ us hl => match us, hl with | [_], _ => rfl)
  have V_is_number_pair := F_is_number_pair.cal (okv_is_number_pair (P := l.prog) (w := w) (base := base) F_is_number_pair B V_is_pair V_is_number) (PySem.W.mg_of X G a_is_number_pair) (F_is_number_pair.binds (ps := ["thing"]) fun _ _ _ _ _ _ us hl => match us, hl with | [_], _ => rfl)
  have Q_is_fit_list := F_is_fit_list.cal (ok_is_fit_list (P := l.prog) (w := w) (base := base) F_is_fit_list B C_MOST_WORTHS) (PySem.W.mg_of X G a_is_fit_list) (F_is_fit_list.binds (ps := ["things"]) fun _ _ _ _ _ _ us hl => match us, hl with | [_], _ => rfl)
  have V_is_fit_list := F_is_fit_list.cal (okv_is_fit_list (P := l.prog) (w := w) (base := base) F_is_fit_list B C_MOST_WORTHS) (PySem.W.mg_of X G a_is_fit_list) (F_is_fit_list.binds (ps := ["things"]) fun _ _ _ _ _ _ us hl => match us, hl with | [_], _ => rfl)
  have Q_check_within := F_check_within.cal (ok_check_within (P := l.prog) (w := w) (base := base) F_check_within B Q_is_within) (PySem.W.mg_of X G a_check_within) (F_check_within.binds (ps := ["thing", "least", "most"]) fun _ _ _ _ _ _ us hl => match us, hl with | [_, _, _], _ => rfl)
  have R_check_within := F_check_within.calX (ok_check_within (P := l.prog) (w := w) (base := base) F_check_within B Q_is_within) (okx_check_within (P := l.prog) (w := w) (base := base) F_check_within B X_BadNumber V_is_within) (PySem.W.mg_of X G a_check_within) (F_check_within.binds (ps := ["thing", "least", "most"]) fun _ _ _ _ _ _ us hl => match us, hl with | [_, _, _], _ => rfl)
  have Q_check_few := F_check_few.cal (ok_check_few (P := l.prog) (w := w) (base := base) F_check_few B C_MOST_FEW Q_check_within) (PySem.W.mg_of X G a_check_few) (F_check_few.binds (ps := ["few"]) fun _ _ _ _ _ _ us hl => match us, hl with | [_], _ => rfl)
  have R_check_few := F_check_few.calX (ok_check_few (P := l.prog) (w := w) (base := base) F_check_few B C_MOST_FEW Q_check_within) (okx_check_few (P := l.prog) (w := w) (base := base) F_check_few B C_MOST_FEW R_check_within) (PySem.W.mg_of X G a_check_few) (F_check_few.binds (ps := ["few"]) fun _ _ _ _ _ _ us hl => match us, hl with | [_], _ => rfl)
  have Q_check_worths := F_check_worths.cal (ok_check_worths (P := l.prog) (w := w) (base := base) F_check_worths B Q_is_fit_list Q_is_number) (PySem.W.mg_of X G a_check_worths) (F_check_worths.binds (ps := ["worths"]) fun _ _ _ _ _ _ us hl => match us, hl with | [_], _ => rfl)
  have R_check_worths := F_check_worths.calX (ok_check_worths (P := l.prog) (w := w) (base := base) F_check_worths B Q_is_fit_list Q_is_number) (okx_check_worths (P := l.prog) (w := w) (base := base) F_check_worths B X_BadWorths V_is_fit_list V_is_number) (PySem.W.mg_of X G a_check_worths) (F_check_worths.binds (ps := ["worths"]) fun _ _ _ _ _ _ us hl => match us, hl with | [_], _ => rfl)
  have Q_check_some_left := F_check_some_left.cal (ok_check_some_left (P := l.prog) (w := w) (base := base) F_check_some_left B ) (PySem.W.mg_of X G a_check_some_left) (F_check_some_left.binds (ps := ["many", "lost"]) fun _ _ _ _ _ _ us hl => match us, hl with | [_, _], _ => rfl)
  have R_check_some_left := F_check_some_left.calX (ok_check_some_left (P := l.prog) (w := w) (base := base) F_check_some_left B ) (okx_check_some_left (P := l.prog) (w := w) (base := base) F_check_some_left B X_BadWorths) (PySem.W.mg_of X G a_check_some_left) (F_check_some_left.binds (ps := ["many", "lost"]) fun _ _ _ _ _ _ us hl => match us, hl with | [_, _], _ => rfl)
  have Q_without_ends := F_without_ends.cal (ok_without_ends (P := l.prog) (w := w) (base := base) F_without_ends B ) (PySem.W.mg_of X G a_without_ends) (F_without_ends.binds (ps := ["worths", "few"]) fun _ _ _ _ _ _ us hl => match us, hl with | [_, _], _ => rfl)
  have Q_half_way := F_half_way.cal (ok_half_way (P := l.prog) (w := w) (base := base) F_half_way B ) (PySem.W.mg_of X G a_half_way) (F_half_way.binds (ps := ["left"]) fun _ _ _ _ _ _ us hl => match us, hl with | [_], _ => rfl)
  have Q_how_far := F_how_far.cal (ok_how_far (P := l.prog) (w := w) (base := base) F_how_far B ) (PySem.W.mg_of X G a_how_far) (F_how_far.binds (ps := ["worths"]) fun _ _ _ _ _ _ us hl => match us, hl with | [_], _ => rfl)
  have Q_trimmed := F_trimmed.calK (ok_trimmed (P := l.prog) (w := w) (base := base) F_trimmed B Q_check_few Q_check_worths Q_check_some_left Q_without_ends) (PySem.W.mg_of X G a_trimmed) (F_trimmed.kbinds (p := "worths") (k := "few") fun _ _ _ _ _ _ _ _ => rfl)
  have R_trimmed := F_trimmed.calKX (ok_trimmed (P := l.prog) (w := w) (base := base) F_trimmed B Q_check_few Q_check_worths Q_check_some_left Q_without_ends) (okx_trimmed (P := l.prog) (w := w) (base := base) F_trimmed B R_check_few R_check_worths R_check_some_left Q_without_ends) (PySem.W.mg_of X G a_trimmed) (F_trimmed.kbinds (p := "worths") (k := "few") fun _ _ _ _ _ _ _ _ => rfl)
  have Q_middle := F_middle.calK (ok_middle (P := l.prog) (w := w) (base := base) F_middle B Q_trimmed Q_half_way) (PySem.W.mg_of X G a_middle) (F_middle.kbinds (p := "worths") (k := "few") fun _ _ _ _ _ _ _ _ => rfl)
  have R_middle := F_middle.calKX (ok_middle (P := l.prog) (w := w) (base := base) F_middle B Q_trimmed Q_half_way) (okx_middle (P := l.prog) (w := w) (base := base) F_middle B R_trimmed Q_half_way) (PySem.W.mg_of X G a_middle) (F_middle.kbinds (p := "worths") (k := "few") fun _ _ _ _ _ _ _ _ => rfl)
  have Q_spread := F_spread.cal (ok_spread (P := l.prog) (w := w) (base := base) F_spread B Q_check_worths Q_how_far) (PySem.W.mg_of X G a_spread) (F_spread.binds (ps := ["worths"]) fun _ _ _ _ _ _ us hl => match us, hl with | [_], _ => rfl)
  have R_spread := F_spread.calX (ok_spread (P := l.prog) (w := w) (base := base) F_spread B Q_check_worths Q_how_far) (okx_spread (P := l.prog) (w := w) (base := base) F_spread B R_check_worths Q_how_far) (PySem.W.mg_of X G a_spread) (F_spread.binds (ps := ["worths"]) fun _ _ _ _ _ _ us hl => match us, hl with | [_], _ => rfl)
  have Q_is_between := F_is_between.cal (ok_is_between (P := l.prog) (w := w) (base := base) F_is_between B Q_check_worths Q_is_whole) (PySem.W.mg_of X G a_is_between) (F_is_between.binds (ps := ["worth", "worths"]) fun _ _ _ _ _ _ us hl => match us, hl with | [_, _], _ => rfl)
  have R_is_between := F_is_between.calX (ok_is_between (P := l.prog) (w := w) (base := base) F_is_between B Q_check_worths Q_is_whole) (okx_is_between (P := l.prog) (w := w) (base := base) F_is_between B V_is_whole R_check_worths) (PySem.W.mg_of X G a_is_between) (F_is_between.binds (ps := ["worth", "worths"]) fun _ _ _ _ _ _ us hl => match us, hl with | [_, _], _ => rfl)
  have Q_check_points := F_check_points.cal (ok_check_points (P := l.prog) (w := w) (base := base) F_check_points B V_is_fit_list V_is_number_pair) (PySem.W.mg_of X G a_check_points) (F_check_points.binds (ps := ["points"]) fun _ _ _ _ _ _ us hl => match us, hl with | [_], _ => rfl)
  have R_check_points := F_check_points.calX (ok_check_points (P := l.prog) (w := w) (base := base) F_check_points B V_is_fit_list V_is_number_pair) (okx_check_points (P := l.prog) (w := w) (base := base) F_check_points B X_BadWorths V_is_fit_list V_is_number_pair) (PySem.W.mg_of X G a_check_points) (F_check_points.binds (ps := ["points"]) fun _ _ _ _ _ _ us hl => match us, hl with | [_], _ => rfl)
  have Q_first_numbers := F_first_numbers.cal (ok_first_numbers (P := l.prog) (w := w) (base := base) F_first_numbers B ) (PySem.W.mg_of X G a_first_numbers) (F_first_numbers.binds (ps := ["points"]) fun _ _ _ _ _ _ us hl => match us, hl with | [_], _ => rfl)
  have Q_second_numbers := F_second_numbers.cal (ok_second_numbers (P := l.prog) (w := w) (base := base) F_second_numbers B ) (PySem.W.mg_of X G a_second_numbers) (F_second_numbers.binds (ps := ["points"]) fun _ _ _ _ _ _ us hl => match us, hl with | [_], _ => rfl)
  have Q_box := F_box.cal (ok_box (P := l.prog) (w := w) (base := base) F_box B Q_check_points Q_first_numbers Q_second_numbers) (PySem.W.mg_of X G a_box) (F_box.binds (ps := ["points"]) fun _ _ _ _ _ _ us hl => match us, hl with | [_], _ => rfl)
  have R_box := F_box.calX (ok_box (P := l.prog) (w := w) (base := base) F_box B Q_check_points Q_first_numbers Q_second_numbers) (okx_box (P := l.prog) (w := w) (base := base) F_box B R_check_points Q_first_numbers Q_second_numbers) (PySem.W.mg_of X G a_box) (F_box.binds (ps := ["points"]) fun _ _ _ _ _ _ us hl => match us, hl with | [_], _ => rfl)
  have Q_middle_point := F_middle_point.calK (ok_middle_point (P := l.prog) (w := w) (base := base) F_middle_point B Q_check_few Q_check_points Q_first_numbers Q_second_numbers Q_middle) (PySem.W.mg_of X G a_middle_point) (F_middle_point.kbinds (p := "points") (k := "few") fun _ _ _ _ _ _ _ _ => rfl)
  have R_middle_point := F_middle_point.calKX (ok_middle_point (P := l.prog) (w := w) (base := base) F_middle_point B Q_check_few Q_check_points Q_first_numbers Q_second_numbers Q_middle) (okx_middle_point (P := l.prog) (w := w) (base := base) F_middle_point B R_check_few R_check_points Q_first_numbers Q_second_numbers R_middle) (PySem.W.mg_of X G a_middle_point) (F_middle_point.kbinds (p := "points") (k := "few") fun _ _ _ _ _ _ _ _ => rfl)
  have Q_in_box := F_in_box.cal (ok_in_box (P := l.prog) (w := w) (base := base) F_in_box B Q_check_points V_is_number_pair Q_first_numbers Q_second_numbers Q_is_between) (PySem.W.mg_of X G a_in_box) (F_in_box.binds (ps := ["point", "points"]) fun _ _ _ _ _ _ us hl => match us, hl with | [_, _], _ => rfl)
  have R_in_box := F_in_box.calX (ok_in_box (P := l.prog) (w := w) (base := base) F_in_box B Q_check_points V_is_number_pair Q_first_numbers Q_second_numbers Q_is_between) (okx_in_box (P := l.prog) (w := w) (base := base) F_in_box B R_check_points V_is_number_pair Q_first_numbers Q_second_numbers R_is_between) (PySem.W.mg_of X G a_in_box) (F_in_box.binds (ps := ["point", "points"]) fun _ _ _ _ _ _ us hl => match us, hl with | [_, _], _ => rfl)
  have Q_width := F_width.cal (ok_width (P := l.prog) (w := w) (base := base) F_width B Q_check_points Q_first_numbers Q_second_numbers Q_spread) (PySem.W.mg_of X G a_width) (F_width.binds (ps := ["points"]) fun _ _ _ _ _ _ us hl => match us, hl with | [_], _ => rfl)
  have R_width := F_width.calX (ok_width (P := l.prog) (w := w) (base := base) F_width B Q_check_points Q_first_numbers Q_second_numbers Q_spread) (okx_width (P := l.prog) (w := w) (base := base) F_width B R_check_points Q_first_numbers Q_second_numbers R_spread) (PySem.W.mg_of X G a_width) (F_width.binds (ps := ["points"]) fun _ _ _ _ _ _ us hl => match us, hl with | [_], _ => rfl)
  have Q__law_town := F__law_town.cal (ok__law_town (P := l.prog) (w := w) (base := base) F__law_town B ) (PySem.W.mg_of X G a__law_town) (F__law_town.binds (ps := ["_law_script"]) fun _ _ _ _ _ _ us hl => match us, hl with | [_], _ => rfl)
  have Q__law_draw := F__law_draw.cal (ok__law_draw (P := l.prog) (w := w) (base := base) F__law_draw B ) (PySem.W.mg_of X G a__law_draw) (F__law_draw.binds (ps := ["_law_town_here", "_law_many"]) fun _ _ _ _ _ _ us hl => match us, hl with | [_, _], _ => rfl)
  have Q__law_pick := F__law_pick.cal (ok__law_pick (P := l.prog) (w := w) (base := base) F__law_pick B Q__law_draw) (PySem.W.mg_of X G a__law_pick) (F__law_pick.binds (ps := ["_law_town_here", "_law_some"]) fun _ _ _ _ _ _ us hl => match us, hl with | [_, _], _ => rfl)
  have Q__law_refusal := F__law_refusal.cal (ok__law_refusal (P := l.prog) (w := w) (base := base) F__law_refusal B N_ValueError A_LiarError A_BadNumber A_BadWorths A_BadLies A_BadHouses A_NoHouse A_NoLetter A_NotNow A_BadTable A_BadSaying r0 r1) (PySem.W.mg_of X G a__law_refusal) (F__law_refusal.binds (ps := ["_law_caught"]) fun _ _ _ _ _ _ us hl => match us, hl with | [_], _ => rfl)
  have Q__law_number := F__law_number.cal (ok__law_number (P := l.prog) (w := w) (base := base) F__law_number B Q__law_draw Q__law_pick) (PySem.W.mg_of X G a__law_number) (F__law_number.binds (ps := ["_law_town_here"]) fun _ _ _ _ _ _ us hl => match us, hl with | [_], _ => rfl)
  have Q__law_did := F__law_did.cal (ok__law_did (P := l.prog) (w := w) (base := base) F__law_did B Q_middle_point Q_box Q_width Q_in_box) (PySem.W.mg_of X G a__law_did) (F__law_did.binds (ps := ["_law_kind", "_law_points", "_law_some"]) fun _ _ _ _ _ _ us hl => match us, hl with | [_, _, _], _ => rfl)
  have R__law_did := F__law_did.calX (ok__law_did (P := l.prog) (w := w) (base := base) F__law_did B Q_middle_point Q_box Q_width Q_in_box) (okx__law_did (P := l.prog) (w := w) (base := base) F__law_did B R_middle_point R_box R_width R_in_box) (PySem.W.mg_of X G a__law_did) (F__law_did.binds (ps := ["_law_kind", "_law_points", "_law_some"]) fun _ _ _ _ _ _ us hl => match us, hl with | [_, _, _], _ => rfl)
  have Q__law_told := F__law_told.cal (ok__law_told (P := l.prog) (w := w) (base := base) F__law_told B X_LiarError r0 r1 R__law_did Q__law_refusal) (PySem.W.mg_of X G a__law_told) (F__law_told.binds (ps := ["_law_kind", "_law_points", "_law_some"]) fun _ _ _ _ _ _ us hl => match us, hl with | [_, _, _], _ => rfl)
  exact ok_law F_law B Q__law_town Q__law_draw Q__law_pick Q__law_number Q__law_told
theorem walk {l : PySem.W.OpenLaw} {q : Program} {loose : List Str} {XP : (Str → Option Value) → Heap → Prop} {YP : World → Heap → Prop} {d : DefRec} {K : Params → PySem.W.Frag} (hn : l.most = some 63) (hdf : d.params.defaults = [])
    (hY : ∀ (w : World) (h : Heap), YP w h → (K w.params).In h)
    (F : ∀ (w : World) (mg : Str → Option Value) (fa : Addr) (h : Heap), (K w.params).In h → h.Ns mainGlobals mg → mg d.name = some (.ref fa) →
      ∃ fd : FuncData, (∀ (s : Shared) (u : Value), BindsTo s fd ⟨[u], []⟩ [("_law_script", u)]) ∧ ∀ base : Heap, (K w.params).In base → base.Ns mainGlobals mg → FnOk l.prog w (K w.params) mg base CX0 10 fa fd ["_law_script"] (sp_law (K w.params))) :
    PySem.W.WalkO q loose XP YP l.row.toRowW d [] (fun f vs => PySem.call f vs) :=
  L2.walk_of (n := 63) (k := 10) (x := "_law_script") (CX := fun _ => CX0) (sp := fun w => sp_law (K w.params)) hn (by decide) hdf ⟨rfl, by decide, by decide⟩ hY F (fun _ _ a ns hl _ hS => ⟨a, ns, rfl, hS, hl, fun _ => rfl⟩) fun _ _ _ _ _ z => z
end My
open PySem PySem.W PyProof.Rows
set_option maxRecDepth 100000 in
set_option maxHeartbeats 0 in
theorem PySem.Challenge.cw_liarclocks_k38_points_refused_holds : PySem.Challenge.rw_liarclocks_k38_points_refused.Holds := by
  w_on; o_law; k_head; (case hw => w_witness2)
  k_fill
  refine My.walk (l := PySem.Challenge.rw_liarclocks_k38_points_refused) rfl rfl (fun w h Y => PySem.W.kIn_of Y) ?F
  case F =>
    intro w mg fa h KX G hmg
    refine' My.all_mk KX G hmg ?a_is_whole ?l_is_whole ?c_is_whole ?k_is_whole ?a_is_within ?l_is_within ?c_is_within ?k_is_within ?a_is_number ?l_is_number ?c_is_number ?k_is_number ?a_is_pair ?l_is_pair ?c_is_pair ?k_is_pair ?a_is_number_pair ?l_is_number_pair ?c_is_number_pair ?k_is_number_pair ?a_is_fit_list ?l_is_fit_list ?c_is_fit_list ?k_is_fit_list ?a_check_within ?l_check_within ?c_check_within ?k_check_within ?a_check_few ?l_check_few ?c_check_few ?k_check_few ?a_check_worths ?l_check_worths ?c_check_worths ?k_check_worths ?a_check_some_left ?l_check_some_left ?c_check_some_left ?k_check_some_left ?a_without_ends ?l_without_ends ?c_without_ends ?k_without_ends ?a_half_way ?l_half_way ?c_half_way ?k_half_way ?a_how_far ?l_how_far ?c_how_far ?k_how_far ?a_trimmed ?l_trimmed ?c_trimmed ?k_trimmed ?a_middle ?l_middle ?c_middle ?k_middle ?a_spread ?l_spread ?c_spread ?k_spread ?a_is_between ?l_is_between ?c_is_between ?k_is_between ?a_check_points ?l_check_points ?c_check_points ?k_check_points ?a_first_numbers ?l_first_numbers ?c_first_numbers ?k_first_numbers ?a_second_numbers ?l_second_numbers ?c_second_numbers ?k_second_numbers ?a_box ?l_box ?c_box ?k_box ?a_middle_point ?l_middle_point ?c_middle_point ?k_middle_point ?a_in_box ?l_in_box ?c_in_box ?k_in_box ?a_width ?l_width ?c_width ?k_width ?a__law_town ?l__law_town ?c__law_town ?k__law_town ?a__law_draw ?l__law_draw ?c__law_draw ?k__law_draw ?a__law_pick ?l__law_pick ?c__law_pick ?k__law_pick ?a__law_refusal ?l__law_refusal ?c__law_refusal ?k__law_refusal ?a__law_number ?l__law_number ?c__law_number ?k__law_number ?a__law_did ?l__law_did ?c__law_did ?k__law_did ?a__law_told ?l__law_told ?c__law_told ?k__law_told ?a_law ?l_law ?c_law ?k_law ?n_FARTHEST ?n_MOST_FEW ?n_MOST_WORTHS ?a_LiarError ?a_BadNumber ?a_BadWorths ?a_BadLies ?a_BadHouses ?a_NoHouse ?a_NoLetter ?a_NotNow ?a_BadTable ?a_BadSaying ?e_BadNumber ?e_BadWorths ?e_LiarError ?x_BadNumber_ga ?x_BadNumber_cl ?x_BadNumber_ob ?x_BadNumber_be ?x_BadNumber_gh ?x_BadNumber_k0 ?x_BadNumber_k1 ?x_BadNumber_k2 ?x_BadNumber_k3 ?x_BadNumber_k4 ?x_BadNumber_k5 ?x_BadNumber_k6 ?x_BadNumber_k7 ?x_BadNumber_k8 ?x_BadNumber_l ?x_BadNumber_v ?x_BadNumber_m ?x_BadWorths_ga ?x_BadWorths_cl ?x_BadWorths_ob ?x_BadWorths_be ?x_BadWorths_gh ?x_BadWorths_k0 ?x_BadWorths_k1 ?x_BadWorths_k2 ?x_BadWorths_k3 ?x_BadWorths_k4 ?x_BadWorths_k5 ?x_BadWorths_k6 ?x_BadWorths_k7 ?x_BadWorths_k8 ?x_BadWorths_l ?x_BadWorths_v ?x_BadWorths_m ?z_ValueError ?z_len ?z_sorted ?z_min ?z_max ?z_sum ?z_all ?z_isinstance ?z_int ?z_bool ?z_list ?z_tuple ?z_range
    (case a_is_whole => k_is)
    (case l_is_whole => k_is)
    (case c_is_whole => k_is)
    (case k_is_whole => k_is)
    (case a_is_within => k_is)
    (case l_is_within => k_is)
    (case c_is_within => k_is)
    (case k_is_within => k_is)
    (case a_is_number => k_is)
    (case l_is_number => k_is)
    (case c_is_number => k_is)
    (case k_is_number => k_is)
    (case a_is_pair => k_is)
    (case l_is_pair => k_is)
    (case c_is_pair => k_is)
    (case k_is_pair => k_is)
    (case a_is_number_pair => k_is)
    (case l_is_number_pair => k_is)
    (case c_is_number_pair => k_is)
    (case k_is_number_pair => k_is)
    (case a_is_fit_list => k_is)
    (case l_is_fit_list => k_is)
    (case c_is_fit_list => k_is)
    (case k_is_fit_list => k_is)
    (case a_check_within => k_is)
    (case l_check_within => k_is)
    (case c_check_within => k_is)
    (case k_check_within => k_is)
    (case a_check_few => k_is)
    (case l_check_few => k_is)
    (case c_check_few => k_is)
    (case k_check_few => k_is)
    (case a_check_worths => k_is)
    (case l_check_worths => k_is)
    (case c_check_worths => k_is)
    (case k_check_worths => k_is)
    (case a_check_some_left => k_is)
    (case l_check_some_left => k_is)
    (case c_check_some_left => k_is)
    (case k_check_some_left => k_is)
    (case a_without_ends => k_is)
    (case l_without_ends => k_is)
    (case c_without_ends => k_is)
    (case k_without_ends => k_is)
    (case a_half_way => k_is)
    (case l_half_way => k_is)
    (case c_half_way => k_is)
    (case k_half_way => k_is)
    (case a_how_far => k_is)
    (case l_how_far => k_is)
    (case c_how_far => k_is)
    (case k_how_far => k_is)
    (case a_trimmed => k_is)
    (case l_trimmed => k_is)
    (case c_trimmed => k_is)
    (case k_trimmed => k_is)
    (case a_middle => k_is)
    (case l_middle => k_is)
    (case c_middle => k_is)
    (case k_middle => k_is)
    (case a_spread => k_is)
    (case l_spread => k_is)
    (case c_spread => k_is)
    (case k_spread => k_is)
    (case a_is_between => k_is)
    (case l_is_between => k_is)
    (case c_is_between => k_is)
    (case k_is_between => k_is)
    (case a_check_points => k_is)
    (case l_check_points => k_is)
    (case c_check_points => k_is)
    (case k_check_points => k_is)
    (case a_first_numbers => k_is)
    (case l_first_numbers => k_is)
    (case c_first_numbers => k_is)
    (case k_first_numbers => k_is)
    (case a_second_numbers => k_is)
    (case l_second_numbers => k_is)
    (case c_second_numbers => k_is)
    (case k_second_numbers => k_is)
    (case a_box => k_is)
    (case l_box => k_is)
    (case c_box => k_is)
    (case k_box => k_is)
    (case a_middle_point => k_is)
    (case l_middle_point => k_is)
    (case c_middle_point => k_is)
    (case k_middle_point => k_is)
    (case a_in_box => k_is)
    (case l_in_box => k_is)
    (case c_in_box => k_is)
    (case k_in_box => k_is)
    (case a_width => k_is)
    (case l_width => k_is)
    (case c_width => k_is)
    (case k_width => k_is)
    (case a__law_town => k_is)
    (case l__law_town => k_is)
    (case c__law_town => k_is)
    (case k__law_town => k_is)
    (case a__law_draw => k_is)
    (case l__law_draw => k_is)
    (case c__law_draw => k_is)
    (case k__law_draw => k_is)
    (case a__law_pick => k_is)
    (case l__law_pick => k_is)
    (case c__law_pick => k_is)
    (case k__law_pick => k_is)
    (case a__law_refusal => k_is)
    (case l__law_refusal => k_is)
    (case c__law_refusal => k_is)
    (case k__law_refusal => k_is)
    (case a__law_number => k_is)
    (case l__law_number => k_is)
    (case c__law_number => k_is)
    (case k__law_number => k_is)
    (case a__law_did => k_is)
    (case l__law_did => k_is)
    (case c__law_did => k_is)
    (case k__law_did => k_is)
    (case a__law_told => k_is)
    (case l__law_told => k_is)
    (case c__law_told => k_is)
    (case k__law_told => k_is)
    (case a_law => k_is)
    (case l_law => k_is)
    (case c_law => k_is)
    (case k_law => k_is)
    (case n_FARTHEST => k_is)
    (case n_MOST_FEW => k_is)
    (case n_MOST_WORTHS => k_is)
    (case a_LiarError => k_is)
    (case a_BadNumber => k_is)
    (case a_BadWorths => k_is)
    (case a_BadLies => k_is)
    (case a_BadHouses => k_is)
    (case a_NoHouse => k_is)
    (case a_NoLetter => k_is)
    (case a_NotNow => k_is)
    (case a_BadTable => k_is)
    (case a_BadSaying => k_is)
    (case e_BadNumber => k_exc)
    (case e_BadWorths => k_exc)
    (case e_LiarError => k_exc)
    (case x_BadNumber_ga => k_is)
    (case x_BadNumber_cl => k_is)
    (case x_BadNumber_ob => k_is)
    (case x_BadNumber_be => k_is)
    (case x_BadNumber_gh => k_is)
    (case x_BadNumber_k0 => kit_is)
    (case x_BadNumber_k1 => kit_is)
    (case x_BadNumber_k2 => kit_is)
    (case x_BadNumber_k3 => kit_is)
    (case x_BadNumber_k4 => kit_is)
    (case x_BadNumber_k5 => kit_is)
    (case x_BadNumber_k6 => kit_is)
    (case x_BadNumber_k7 => kit_is)
    (case x_BadNumber_k8 => kit_is)
    (case x_BadNumber_l => kit_is)
    (case x_BadNumber_v => kit_is)
    (case x_BadNumber_m => kts_exm)
    (case x_BadWorths_ga => k_is)
    (case x_BadWorths_cl => k_is)
    (case x_BadWorths_ob => k_is)
    (case x_BadWorths_be => k_is)
    (case x_BadWorths_gh => k_is)
    (case x_BadWorths_k0 => kit_is)
    (case x_BadWorths_k1 => kit_is)
    (case x_BadWorths_k2 => kit_is)
    (case x_BadWorths_k3 => kit_is)
    (case x_BadWorths_k4 => kit_is)
    (case x_BadWorths_k5 => kit_is)
    (case x_BadWorths_k6 => kit_is)
    (case x_BadWorths_k7 => kit_is)
    (case x_BadWorths_k8 => kit_is)
    (case x_BadWorths_l => kit_is)
    (case x_BadWorths_v => kit_is)
    (case x_BadWorths_m => kts_exm)
    (case z_ValueError => k_is)
    (case z_len => k_is)
    (case z_sorted => k_is)
    (case z_min => k_is)
    (case z_max => k_is)
    (case z_sum => k_is)
    (case z_all => k_is)
    (case z_isinstance => k_is)
    (case z_int => k_is)
    (case z_bool => k_is)
    (case z_list => k_is)
    (case z_tuple => k_is)
    (case z_range => k_is)
end
