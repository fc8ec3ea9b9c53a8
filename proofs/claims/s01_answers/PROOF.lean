import PyProof.Rows.All
import Wide.All
import OpenK.AllK
import Wide.FinOn
import Open.SpecLaws
import KE.OsHead
import KE.OsGo
import HandS.ForSpec
import HandS.Comp
import HandS.Dict
import HandS.Iter
import HandS.Zip
import HandS.Walk
import HandS.SortInts
import HandS.SetFor
import HandS.Wide
import HandS.More
import HandS.Strs
import HandS.Conv
import PyFlatLaws
import PySem.Challenge.RW_throughwindows_s01_answers
set_option Elab.async false
set_option maxRecDepth 100000
set_option maxHeartbeats 2000000
namespace Tw
open PySem PySem.Spec PyProof.Rows L2

/-- the i-th statement of the program's top -/
def top (i : Nat) : Stmt := PySem.Challenge.pw_throughwindows_s01_answers.main.body.getD i (.Pass ⟨0, 0, 0, 0⟩)

/-! ### defs as their callers see them -/
def Okd (P : Program) (w : World) (K : PySem.W.Frag) (mg : Str → Option Value) (base : Heap) (x : Str) (ps : List Str) (k : Nat) (sp : Sp) : Prop :=
  ∃ (f : Addr) (fd : FuncData), mg x = some (.ref f) ∧ PySem.W.keepIn K (.ref f) = true ∧ Binds K fd ps [] ∧ FnOk P w K mg base CX0 k f fd ps sp
def OkM (P : Program) (w : World) (K : PySem.W.Frag) (mg : Str → Option Value) (base : Heap) (f : Addr) (ps : List Str) (k : Nat) (sp : Sp) : Prop :=
  ∃ fd : FuncData, Binds K fd ps [] ∧ FnOk P w K mg base CX0 k f fd ps sp
def Dn (K : PySem.W.Frag) (mg : Str → Option Value) (x : Str) (st : Stmt) (ps : List Str) : Prop :=
  ∃ (f : Addr) (fd : FuncData), Fun K x x st f fd ∧ mg x = some (.ref f) ∧ Binds K fd ps []
def Dm (K : PySem.W.Frag) (x qual : Str) (st : Stmt) (ps : List Str) (f : Addr) : Prop :=
  ∃ fd : FuncData, Fun K x qual st f fd ∧ Binds K fd ps []

/-! ### a written dict whose keys are ints -/
def KIx (K : PySem.W.Frag) (d : Addr) (get : Int → Option V) : Prop :=
  ∃ (es : Array DictEntry) (n : Nat), K.lookup d = some ⟨.type "dict", none, .dict es n, #[]⟩ ∧ (d == sysModules) = false ∧
    (∀ e ∈ es, ∃ i t, e.key = .int i t ∧ e.hash = hashInt i) ∧ ∀ i, RelO (get i) (findBy Value.isInt es i)
section
variable {X : Cx}
theorem kix_map {K : PySem.W.Frag} {h : Heap} {prog : Program} {w : World} {d : Addr} {es : Array DictEntry} {n : Nat} (KX : K.In h) (hl : K.lookup d = some ⟨.type "dict", none, .dict es n, #[]⟩)
    (hk : ∀ e ∈ es, ∃ i t, e.key = .int i t ∧ e.hash = hashInt i) : h.MapOf (PySem.intKind prog w) d (fun k => findBy Value.isInt es k) :=
  ⟨_, es, n, KX _ _ hl, ⟨rfl, rfl, rfl⟩, rfl, fun e he => by
    obtain ⟨i, t, e1, e2⟩ := hk e he
    exact ⟨i, by rw [e1]; exact PySem.intKind_is prog w i t, e2⟩, fun _ => rfl⟩
def rIxI (K : PySem.W.Frag) : R2 := fun x y H Q => ∃ (p : Addr) (i : Int) (v : V) (get : Int → Option V), x = .ref p ∧ y = .int i ∧ KIx K p get ∧ get i = some v ∧ Q v H
theorem ix_kint : IxR X (rIxI X.K) := by
  intro value slice pins s σ H x y v u Q I r1 r2 h hs
  obtain ⟨p, i, r, get, rfl, rfl, ⟨es, n, hl, low, hk, hf⟩, hg, q⟩ := h
  obtain rfl : v = Value.ref p := r1
  obtain ⟨t, rfl⟩ := r2
  have hm := kix_map (prog := X.prog) (w := X.w) I.kIn hl hk
  obtain ⟨u0, e, ru⟩ := RelO.some_of (v := r) (o := findBy Value.isInt es i) (by rw [← hg]; exact hf i)
  exact tail_any hm.typeIs slot_dict_getitem.lookup (wpAny_getItem_of (PySem.intKind_is X.prog X.w i t) hm e ⟨r, H, I.tok _, ru, q⟩) hs
def rInI (K : PySem.W.Frag) (neg : Bool) : R2 := fun x y H Q => ∃ (p : Addr) (i : Int) (get : Int → Option V), x = .int i ∧ y = .ref p ∧ KIx K p get ∧ Q (.bl (xor neg (get i).isSome)) H
theorem op_in_kint : OpR X (compareOp .In) (rInI X.K false) := by
  intro pins s σ H x y v u Q I r1 r2 h
  obtain ⟨p, i, get, rfl, rfl, ⟨es, n, hl, low, hk, hf⟩, q⟩ := h
  obtain ⟨t, rfl⟩ := r1
  obtain rfl : u = Value.ref p := r2
  have hm := kix_map (prog := X.prog) (w := X.w) I.kIn hl hk
  refine wpAny_in_of (PySem.intKind_is X.prog X.w i t) low hm ?_
  have e := (hf i).isSome_eq
  rw [← e]
  rw [Bool.false_xor] at q
  exact ⟨.bl (get i).isSome, H, I.tok _, rfl, q⟩
theorem op_notin_kint : OpR X (compareOp .NotIn) (rInI X.K true) := by
  intro pins s σ H x y v u Q I r1 r2 h
  obtain ⟨p, i, get, rfl, rfl, ⟨es, n, hl, low, hk, hf⟩, q⟩ := h
  obtain ⟨t, rfl⟩ := r1
  obtain rfl : u = Value.ref p := r2
  have hm := kix_map (prog := X.prog) (w := X.w) I.kIn hl hk
  refine wpAny_notIn_of (PySem.intKind_is X.prog X.w i t) low hm ?_
  have e := (hf i).isSome_eq
  rw [← e]
  rw [Bool.true_xor] at q
  exact ⟨.bl (!(get i).isSome), H, I.tok _, rfl, q⟩
end

def rLenK (K : PySem.W.Frag) : List V → Hp → VK → Prop := fun xs H Q => ∃ p ys, xs = [.ref p] ∧ (SqL K H p ys ∨ SqT K H p ys) ∧ Q (.int ys.length) H

/-! ### heaps -/
theorem same_upd {H H1 : Hp} {D : Addr} {o : HO} (s : Same H H1) (n : H D = none) : Same H (upd H1 D o) := fun b u e => by
  rw [upd_ne (ne_of_none e n)]
  exact s b u e
theorem same_new {H : Hp} {D : Addr} {o : HO} (n : H D = none) : Same H (upd H D o) := same_upd (Same.refl H) n
/-- all but what stands at d is as it was -/
def SameBut (d : Addr) (H H' : Hp) : Prop := ∀ b o, H b = some o → b ≠ d → H' b = some o
theorem Same.but {d : Addr} {H H' : Hp} (s : Same H H') : SameBut d H H' := fun b o e _ => s b o e
theorem SameBut.trans {d : Addr} {H H1 H2 : Hp} (a : SameBut d H H1) (b : SameBut d H1 H2) : SameBut d H H2 := fun c o e n => b c o (a c o e n) n
theorem SameBut.upd {d : Addr} {H H1 : Hp} {o : HO} (a : SameBut d H H1) : SameBut d H (upd H1 d o) := fun c u e n => by
  rw [upd_ne n]
  exact a c u e n
theorem int_at {ns : List Int} {i : Nat} {x : V} (h : (ns.map V.int)[i]? = some x) : ∃ z, ns[i]? = some z ∧ x = .int z := by
  rw [List.getElem?_map] at h
  cases e : ns[i]? with
  | none => rw [e] at h; cases h
  | some z => rw [e] at h; exact ⟨z, rfl, (Option.some.inj h).symm⟩
theorem at_map {α : Type} {f : α → V} {ns : List α} {i : Nat} {x : V} (h : (ns.map f)[i]? = some x) : ∃ z, ns[i]? = some z ∧ x = f z := by
  rw [List.getElem?_map] at h
  cases e : ns[i]? with
  | none => rw [e] at h; cases h
  | some z => rw [e] at h; exact ⟨z, rfl, (Option.some.inj h).symm⟩

/-! ### tests -/
theorem ifD {c A B : Prop} [Decidable c] (h1 : c → A) (h2 : ¬ c → B) : if decide c = true then A else B := by
  by_cases h : c
  · rw [if_pos (decide_eq_true h)]; exact h1 h
  · rw [if_neg (by rw [decide_eq_true_iff]; exact h)]; exact h2 h
theorem ifN {c A B : Prop} [Decidable c] (h1 : ¬ c → A) (h2 : c → B) : if (!decide c) = true then A else B := by
  by_cases h : c
  · rw [if_neg (by simp [h])]; exact h2 h
  · rw [if_pos (by simp [h])]; exact h1 h
theorem ifEq {i j : Int} {A B : Prop} (h1 : i = j → A) (h2 : i ≠ j → B) : if decide (V.int i = V.int j) = true then A else B :=
  ifD (fun c => h1 (V.int.inj c)) (fun c => h2 fun e => c (congrArg V.int e))
theorem ifNe {i j : Int} {A B : Prop} (h1 : i ≠ j → A) (h2 : i = j → B) : if (!decide (V.int i = V.int j)) = true then A else B :=
  ifN (fun c => h1 fun e => c (congrArg V.int e)) (fun c => h2 (V.int.inj c))
theorem ifB {b : Bool} {A B : Prop} (h1 : b = true → A) (h2 : b = false → B) : if b = true then A else B := by
  cases b with
  | true => exact iteT (h1 rfl)
  | false => exact iteF (h2 rfl)
/-- a number, or None -/
def oV : Option Nat → V
  | none => .non
  | some n => .int (n : Int)

/-! ### a comprehension whose turns leave what stood as it was -/
theorem range_more {α : Type} (f : Nat → Option α) (i : Nat) : (List.range (i + 1)).filterMap f = (List.range i).filterMap f ++ (match f i with | some y => [y] | none => []) := by
  rw [List.range_succ, List.filterMap_append]
  cases e : f i with
  | none => simp [e]
  | some y => simp [e]
theorem lc_w {J : It} {n : Nat} {G : Hp → Prop} {Y : Nat → Hp → V → Hp → Prop} (w : Walk J n G Y) {g : TG} {tt : TT} {te : TE} {vs : List Nat} {σ : L2.St} {H1 : Hp} {D : Addr} {Qd : Hp → Prop} (f : Nat → Option V)
    (hD : H1 D = none) (hz : n ≤ sizeLine) (hG : ∀ H, Same H1 H → G H)
    (hs : ∀ i x H H', i < n → Same H1 H → Y i H x H' → ∀ R : Option V → Hp → Prop, (∀ H2, Same H H2 → R (f i) H2) →
      g x (wipe σ vs) H' fun σ2 H2 => wipe σ2 vs = wipe σ vs ∧ tt σ2 H2 fun b H3 => if b = true then te σ2 H3 fun y H4 => R (some y) H4 else R none H3)
    (hd : ∀ H, Same H1 H → H D = some (.lst ((List.range n).filterMap f)) → Qd H) :
    ∃ W : Nat → Nat → Hp → Prop, (∃ m, W 0 m (upd H1 D (.lst []))) ∧ ∀ i m H, W i m H → (J.stop i H ∧ Qd H) ∨ (J.go i H ∧ ∃ Nx : Hp → Prop, (∀ H', Nx H' → ∃ m', m' < m ∧ W (i + 1) m' H') ∧ ∀ x H', J.yld i H x H' → g x (wipe σ vs) H' fun σ2 H2 => wipe σ2 vs = wipe σ vs ∧ tt σ2 H2 fun b H3 => if b = true then te σ2 H3 fun y H4 => ∃ acc, H4 D = some (.lst acc) ∧ acc.length < sizeLine ∧ Nx (upd H4 D (.lst (acc ++ [y]))) else Nx H3) := by
  refine lc_it w (fun i H => i ≤ n ∧ Same H1 H ∧ H D = some (.lst ((List.range i).filterMap f))) ⟨Nat.zero_le _, same_new hD, upd_same⟩ (fun i H _ ⟨_, s, _⟩ => hG H s) ?_ (fun H ⟨_, s, e⟩ => hd H s e)
  rintro i x H H' hi ⟨_, s, e⟩ y
  have hl : ((List.range i).filterMap f).length < sizeLine := Nat.lt_of_le_of_lt (List.length_filterMap_le _ _) (by rw [List.length_range]; omega)
  refine hs i x H H' hi s y (fun o H4 => match o with
    | some y => ∃ acc, H4 D = some (.lst acc) ∧ acc.length < sizeLine ∧ (i + 1 ≤ n ∧ Same H1 (upd H4 D (.lst (acc ++ [y]))) ∧ (upd H4 D (.lst (acc ++ [y]))) D = some (.lst ((List.range (i + 1)).filterMap f)))
    | none => i + 1 ≤ n ∧ Same H1 H4 ∧ H4 D = some (.lst ((List.range (i + 1)).filterMap f))) (fun H4 s4 => ?_)
  rw [range_more]
  cases f i with
  | some y => exact ⟨_, s4 _ _ e, hl, hi, same_upd (s.trans s4) hD, upd_same⟩
  | none =>
    refine ⟨hi, s.trans s4, ?_⟩
    simp only [List.append_nil]
    exact s4 _ _ e
end Tw

set_option Elab.async false
set_option linter.all false
namespace Tw
open PySem PySem.Spec PyProof.Rows L2
/-- where things stand -/
structure Adr where
  Picture : Addr
  f_Picture_init : Addr
  Desk : Addr
  f_Desk_init : Addr
  Call : Addr
  f_Call_init : Addr
  REACHES : Addr
  SHAPES : Addr
structure Txt (K : PySem.W.Frag) (mg : Str → Option Value) (Z : Adr) : Prop where
  n_max : mg "max" = none
  n_min : mg "min" = none
  n_range : mg "range" = none
  n_sum : mg "sum" = none
  n_len : mg "len" = none
  n_sorted : mg "sorted" = none
  n_zip : mg "zip" = none
  n_list : mg "list" = none
  n_set : mg "set" = none
  cl_Picture : Cls K Z.Picture
  mk_Picture : Mk K Z.Picture Z.f_Picture_init
  c_Picture : mg "Picture" = some (.ref Z.Picture)
  na_Picture_w : NoAttr K Z.Picture "w"
  na_Picture_h : NoAttr K Z.Picture "h"
  na_Picture_colours : NoAttr K Z.Picture "colours"
  cl_Desk : Cls K Z.Desk
  mk_Desk : Mk K Z.Desk Z.f_Desk_init
  c_Desk : mg "Desk" = some (.ref Z.Desk)
  na_Desk_picture : NoAttr K Z.Desk "picture"
  na_Desk_piece : NoAttr K Z.Desk "piece"
  cl_Call : Cls K Z.Call
  mk_Call : Mk K Z.Call Z.f_Call_init
  c_Call : mg "Call" = some (.ref Z.Call)
  na_Call_number : NoAttr K Z.Call "number"
  na_Call_numbers : NoAttr K Z.Call "numbers"
  na_Call_rows : NoAttr K Z.Call "rows"
  na_Call_behind : NoAttr K Z.Call "behind"
  g_REACHES : mg "REACHES" = some (.ref Z.REACHES)
  k_REACHES : ∃ get, KIx K Z.REACHES get ∧ (∀ kv ∈ ([(1, 0), (9, 1), (25, 2)] : List (Int × Int)), get kv.1 = some (.int kv.2)) ∧ ∀ i : Int, i ∉ (([(1, 0), (9, 1), (25, 2)] : List (Int × Int))).map Prod.fst → get i = none
  g_SHAPES : mg "SHAPES" = some (.ref Z.SHAPES)
  k_SHAPES : ∃ get, KIx K Z.SHAPES get ∧ ∀ kv ∈ ([(1, [2, 1]), (2, [2, 1]), (3, [2, 0]), (4, [4, 0]), (5, [4, 2]), (6, [0, 0]), (7, [0, 0]), (8, [1, 0]), (9, [0, 0]), (10, [1, 0]), (11, [1, 0]), (12, [0, 0]), (13, [4, 0])] : List (Int × List Int)), ∃ b, get kv.1 = some (.ref b) ∧ ∀ H, L2.SqT K H b (kv.2.map L2.V.int)

end Tw

set_option Elab.async false
set_option linter.all false
set_option maxRecDepth 100000
set_option maxHeartbeats 2000000
namespace Tw
open PySem PySem.Spec PyProof.Rows L2
/-! ### pictures, plainly -/
def nV (n : Nat) : V := .int (n : Int)
theorem nV_map (c : List Nat) : c.map nV = (c.map fun n : Nat => (n : Int)).map V.int := by
  rw [List.map_map]
  rfl
structure PicOk (p : Sq45.Picture) : Prop where
  w1 : 1 ≤ p.w
  w2 : p.w ≤ 16
  h1 : 1 ≤ p.h
  h2 : p.h ≤ 16
  sz : p.pixels.size = p.w * p.h
  le : ∀ c ∈ p.pixels.toList, c ≤ 255
theorem PicOk.size {p : Sq45.Picture} (o : PicOk p) : p.pixels.size ≤ 256 := by
  rw [o.sz]
  exact Nat.le_trans (Nat.mul_le_mul o.w2 o.h2) (by decide)
theorem ix_lt {w h a b : Nat} (ha : a < w) (hb : b < h) : b * w + a < w * h := by
  have h1 : b * w + w ≤ h * w := by
    have := Nat.mul_le_mul_right w (show b + 1 ≤ h from hb)
    rw [Nat.succ_mul] at this
    exact this
  rw [Nat.mul_comm w h]
  omega
theorem PicOk.at {p : Sq45.Picture} (o : PicOk p) {a b : Nat} (ha : a < p.w) (hb : b < p.h) : p.pixels.toList[b * p.w + a]? = some (p.at_ a b) := by
  have h : b * p.w + a < p.pixels.size := by rw [o.sz]; exact ix_lt ha hb
  unfold Sq45.Picture.at_
  rw [Array.getElem?_toList, Array.getElem?_eq_getElem h]
  rfl
theorem PicOk.at_le {p : Sq45.Picture} (o : PicOk p) {a b : Nat} (ha : a < p.w) (hb : b < p.h) : p.at_ a b ≤ 255 :=
  o.le _ (List.mem_of_getElem? (o.at ha hb))
theorem place_lt {sort s k : Nat} {i : Int} (hs : 1 ≤ s) (h : Sq45.place sort s i = some k) : k < s := by
  unfold Sq45.place at h
  by_cases c : 0 ≤ i ∧ i < s
  · rw [if_pos c] at h
    cases h
    omega
  · rw [if_neg c] at h
    match sort with
    | 0 => cases h
    | 1 =>
      have e : (if i < 0 then 0 else s - 1) = k := Option.some.inj h
      split at e <;> omega
    | 2 =>
      have e : (if s = 1 then some 0 else some (if i % (2 * (s : Int) - 2) < s then (i % (2 * (s : Int) - 2)).toNat else (2 * (s : Int) - 2 - i % (2 * (s : Int) - 2)).toNat)) = some k := h
      by_cases c1 : s = 1
      · rw [if_pos c1] at e
        cases e
        omega
      · rw [if_neg c1] at e
        have e := Option.some.inj e
        have h1 := Int.emod_nonneg i (b := 2 * (s : Int) - 2) (by omega)
        have h2 := Int.emod_lt_of_pos i (b := 2 * (s : Int) - 2) (by omega)
        split at e <;> omega
    | n + 3 =>
      have e : (i % (s : Int)).toNat = k := Option.some.inj h
      have h1 := Int.emod_nonneg i (b := (s : Int)) (by omega)
      have h2 := Int.emod_lt_of_pos i (b := (s : Int)) (by omega)
      omega
/-- a window's place: its colour, or none -/
def cell (p : Sq45.Picture) (sort r x y j i : Nat) : Option Nat := match Sq45.place sort p.w ((x : Int) + i - r), Sq45.place sort p.h ((y : Int) + j - r) with
  | some a, some b => some (p.at_ a b)
  | _, _ => none
def winRow (p : Sq45.Picture) (sort r x y j : Nat) : List (Option Nat) := (List.range (2 * r + 1)).map fun i => cell p sort r x y j i
def win (p : Sq45.Picture) (sort r x y : Nat) : List (Option Nat) := (List.range (2 * r + 1)).flatMap fun j => winRow p sort r x y j
theorem filterMap_flat {α β : Type} (g : α → Option β) : ∀ (l : List Nat) (f : Nat → List α), (l.flatMap f).filterMap g = l.flatMap fun j => (f j).filterMap g
  | [], _ => rfl
  | a :: l, f => by rw [List.flatMap_cons, List.filterMap_append, filterMap_flat g l f, List.flatMap_cons]
theorem win_window (p : Sq45.Picture) (sort r x y : Nat) : (win p sort r x y).filterMap id = p.window sort r x y := by
  unfold win Sq45.Picture.window
  rw [filterMap_flat]
  congr 1
  funext j
  unfold winRow
  rw [List.filterMap_map]
  rfl
theorem win_len (p : Sq45.Picture) (sort r x y : Nat) : (win p sort r x y).length = (2 * r + 1) * (2 * r + 1) := by
  unfold win
  have h : ∀ (l : List Nat), (l.flatMap fun j => winRow p sort r x y j).length = l.length * (2 * r + 1) := by
    intro l
    induction l with
    | nil => simp
    | cons a l ih =>
      have e : (winRow p sort r x y a).length = 2 * r + 1 := by simp [winRow]
      rw [List.flatMap_cons, List.length_append, ih, List.length_cons, e, Nat.add_mul, Nat.one_mul, Nat.add_comm]
  rw [h, List.length_range]
theorem cell_le {p : Sq45.Picture} (o : PicOk p) {sort r x y j i c : Nat} (h : cell p sort r x y j i = some c) : c ≤ 255 := by
  unfold cell at h
  split at h
  · rename_i a b ha hb
    cases h
    exact o.at_le (place_lt o.w1 ha) (place_lt o.h1 hb)
  · cases h
theorem win_le {p : Sq45.Picture} (o : PicOk p) {sort r x y c : Nat} (h : some c ∈ win p sort r x y) : c ≤ 255 := by
  unfold win at h
  obtain ⟨j, _, h⟩ := List.mem_flatMap.mp h
  obtain ⟨i, _, h⟩ := List.mem_map.mp h
  exact cell_le o h
/-- the pixel itself stands in its window -/
theorem win_own {p : Sq45.Picture} {sort r x y : Nat} (hx : x < p.w) (hy : y < p.h) : some (p.at_ x y) ∈ win p sort r x y := by
  unfold win
  refine List.mem_flatMap.mpr ⟨r, List.mem_range.mpr (by omega), List.mem_map.mpr ⟨r, List.mem_range.mpr (by omega), ?_⟩⟩
  unfold cell Sq45.place
  have e1 : ((x : Int) + r - r) = x := by omega
  have e2 : ((y : Int) + r - r) = y := by omega
  rw [e1, e2, if_pos ⟨by omega, by omega⟩, if_pos ⟨by omega, by omega⟩]
  simp
/-! ### how a picture lies in the heap -/
def picF (p : Sq45.Picture) (ca : Addr) : List (Str × V) := [("w", .int (p.w : Int)), ("h", .int (p.h : Int)), ("colours", .ref ca)]
def PicAt (Z : Adr) (H : Hp) (a : Addr) (p : Sq45.Picture) : Prop := ∃ dx ca, H a = some (.ins Z.Picture dx (picF p ca)) ∧ H ca = some (.lst (p.pixels.toList.map nV))
theorem Same.pic {Z : Adr} {H H' : Hp} {a : Addr} {p : Sq45.Picture} (s : Same H H') (h : PicAt Z H a p) : PicAt Z H' a p := by
  obtain ⟨dx, ca, h1, h2⟩ := h
  exact ⟨dx, ca, s _ _ h1, s _ _ h2⟩
theorem lk_here {v : V} {r : List (Str × V)} {k : Str} : List.lookup k ((k, v) :: r) = some v := by
  have e : (k == k) = true := beq_self_eq_true _
  simp only [List.lookup, e]
theorem lk_past {v : V} {r : List (Str × V)} {k g : Str} (h : (k == g) = false) : List.lookup k ((g, v) :: r) = List.lookup k r := by
  simp only [List.lookup, h]
theorem put_here {v x : V} {r : List (Str × V)} {f : Str} : putF f v ((f, x) :: r) = (f, v) :: r := if_pos rfl
theorem put_past {v x : V} {r : List (Str × V)} {f g : Str} (h : ¬ g = f) : putF f v ((g, x) :: r) = (g, x) :: putF f v r := if_neg h
theorem picF_w (p : Sq45.Picture) (ca : Addr) : (picF p ca).lookup ("w" : Str) = some (.int (p.w : Int)) := lk_here
theorem picF_h (p : Sq45.Picture) (ca : Addr) : (picF p ca).lookup ("h" : Str) = some (.int (p.h : Int)) := (lk_past (by decide +kernel)).trans lk_here
theorem picF_c (p : Sq45.Picture) (ca : Addr) : (picF p ca).lookup ("colours" : Str) = some (.ref ca) := (lk_past (by decide +kernel)).trans ((lk_past (by decide +kernel)).trans lk_here)
end Tw

set_option Elab.async false
set_option linter.all false
set_option maxRecDepth 100000
set_option maxHeartbeats 2000000
namespace Tw
open PySem PySem.Spec PyProof.Rows L2
/-! ### plain facts of lists and numbers -/
theorem range_bind {α β : Type} (g : α → Option β) : ∀ xs : List α, (List.range xs.length).filterMap (fun i => (xs[i]?).bind g) = xs.filterMap g
  | [] => rfl
  | a :: l => by
    rw [List.length_cons, List.range_succ_eq_map, List.filterMap_cons, List.filterMap_map]
    have e : (List.range l.length).filterMap ((fun i => ((a :: l)[i]?).bind g) ∘ Nat.succ) = l.filterMap g := range_bind g l
    rw [e, List.filterMap_cons]
    rfl
theorem range_at {α β : Type} (g : α → β) (xs : List α) : (List.range xs.length).filterMap (fun i => (xs[i]?).map g) = xs.map g := by
  have h := range_bind (fun a => some (g a)) xs
  rw [List.filterMap_eq_map'] at h
  rw [← h]
  congr 1
  funext i
  cases xs[i]? <;> rfl
theorem sum_cast : ∀ l : List Nat, (l.map fun n : Nat => (n : Int)).sum = ((l.sum : Nat) : Int)
  | [] => rfl
  | a :: l => by rw [List.map_cons, List.sum_cons, List.sum_cons, sum_cast l]; omega
theorem sum_le {b : Nat} : ∀ {l : List Nat}, (∀ x ∈ l, x ≤ b) → l.sum ≤ l.length * b
  | [], _ => by simp
  | a :: l, h => by
    have h1 := h a (List.mem_cons_self ..)
    have h2 := sum_le (l := l) fun x hx => h x (List.mem_cons_of_mem _ hx)
    rw [List.sum_cons, List.length_cons, Nat.add_mul]
    omega
/-! ### sorted -/
theorem ins_perm (v : Nat) : ∀ l : List Nat, (Sq45.insert v l).Perm (v :: l)
  | [] => List.Perm.refl _
  | x :: l => by
    unfold Sq45.insert
    by_cases h : v ≤ x
    · rw [if_pos h]
    · rw [if_neg h]
      exact ((ins_perm v l).cons x).trans (List.Perm.swap ..)
theorem ins_rises (v : Nat) : ∀ l : List Nat, l.Pairwise (· ≤ ·) → (Sq45.insert v l).Pairwise (· ≤ ·)
  | [], _ => List.pairwise_singleton _ _
  | x :: l, h => by
    have h0 := List.pairwise_cons.mp h
    unfold Sq45.insert
    by_cases hx : v ≤ x
    · rw [if_pos hx]
      refine List.pairwise_cons.mpr ⟨fun z hz => ?_, h⟩
      rcases List.mem_cons.mp hz with e | hz
      · omega
      · have := h0.1 z hz
        omega
    · rw [if_neg hx]
      refine List.pairwise_cons.mpr ⟨fun z hz => ?_, ins_rises v l h0.2⟩
      rcases List.mem_cons.mp ((ins_perm v l).mem_iff.mp hz) with e | hz
      · omega
      · exact h0.1 z hz
theorem fold_perm : ∀ (l m : List Nat), (l.foldl (fun m v => Sq45.insert v m) m).Perm (l ++ m)
  | [], m => List.Perm.refl _
  | a :: l, m => by
    rw [List.foldl_cons]
    refine (fold_perm l _).trans ?_
    refine ((ins_perm a m).append_left l).trans ?_
    exact List.perm_middle
theorem fold_rises : ∀ (l m : List Nat), m.Pairwise (· ≤ ·) → (l.foldl (fun m v => Sq45.insert v m) m).Pairwise (· ≤ ·)
  | [], m, h => h
  | a :: l, m, h => by
    rw [List.foldl_cons]
    exact fold_rises l _ (ins_rises a m h)
theorem sorted_perm (l : List Nat) : (Sq45.sorted l).Perm l := by
  have h := fold_perm l []
  rw [List.append_nil] at h
  exact h
theorem sorted_rises (l : List Nat) : (Sq45.sorted l).Pairwise (· ≤ ·) := fold_rises l [] .nil
theorem sorted_len (l : List Nat) : (Sq45.sorted l).length = l.length := (sorted_perm l).length_eq
theorem is_sorted {l : List Nat} {a : List Int} (p : a.Perm (l.map fun n : Nat => (n : Int))) (o : a.Pairwise (· ≤ ·)) : a = (Sq45.sorted l).map fun n : Nat => (n : Int) := by
  refine List.Perm.eq_of_pairwise (le := fun x y => x ≤ y) (fun x y _ _ h1 h2 => Int.le_antisymm h1 h2) o ?_ (p.trans ((sorted_perm l).map _).symm)
  refine List.pairwise_map.mpr ((sorted_rises l).imp ?_)
  intro x y h
  omega
end Tw

set_option Elab.async false
set_option linter.all false
set_option maxRecDepth 100000
set_option maxHeartbeats 2000000
namespace Tw
open PySem PySem.Spec PyProof.Rows L2
/-! ### counts, made even, parted: over the list of colours -/
def upto (c : List Nat) (v : Nat) : Nat := (c.filter fun x => decide (x ≤ v)).length
def below (c : List Nat) (v : Nat) : Nat := (c.filter fun x => decide (x < v)).length
theorem upto_below (c : List Nat) (v : Nat) : upto c v = below c (v + 1) := by
  unfold upto below
  congr 2
  funext x
  exact decide_eq_decide.mpr (by omega)
theorem below_zero (c : List Nat) : below c 0 = 0 := by
  unfold below
  rw [List.filter_eq_nil_iff.mpr (by simp)]
  rfl
theorem below_more : ∀ (c : List Nat) (v : Nat), below c (v + 1) = below c v + c.count v
  | [], _ => rfl
  | a :: c, v => by
    have ih := below_more c v
    unfold below at ih ⊢
    rw [List.filter_cons, List.filter_cons, List.count_cons]
    by_cases h1 : a < v
    · rw [if_pos (by simp; omega), if_pos (by simpa using h1), if_neg (by simp; omega)]
      simp only [List.length_cons]
      omega
    · by_cases h2 : a = v
      · subst h2
        rw [if_pos (by simp), if_neg (by simp), if_pos (by simp)]
        simp only [List.length_cons]
        omega
      · rw [if_neg (by simp; omega), if_neg (by simpa using h1), if_neg (by simp; omega)]
        omega
theorem count_cast (k : Nat) : ∀ c : List Nat, (c.map fun n : Nat => (n : Int)).count (k : Int) = c.count k
  | [] => rfl
  | a :: c => by
    rw [List.map_cons, List.count_cons, List.count_cons, count_cast k c]
    congr 1
    by_cases h : a = k
    · subst h; simp
    · rw [if_neg (by simp; omega), if_neg (by simpa using h)]
theorem upto_le (c : List Nat) (v : Nat) : upto c v ≤ c.length := List.length_filter_le _ _
theorem upto_mono (c : List Nat) {u v : Nat} (h : u ≤ v) : upto c u ≤ upto c v := by
  unfold upto
  induction c with
  | nil => simp
  | cons a c ih =>
    rw [List.filter_cons, List.filter_cons]
    by_cases h1 : a ≤ u
    · rw [if_pos (by simpa using h1), if_pos (by simp; omega)]
      simp only [List.length_cons]
      omega
    · rw [if_neg (by simpa using h1)]
      by_cases h2 : a ≤ v
      · rw [if_pos (by simpa using h2)]
        simp only [List.length_cons]
        omega
      · rw [if_neg (by simpa using h2)]
        exact ih
theorem count_min {c : List Nat} {m : Nat} (h : ∀ x ∈ c, m ≤ x) : c.count m = upto c m := by
  rw [upto_below, below_more]
  have e : below c m = 0 := by
    unfold below
    rw [List.filter_eq_nil_iff.mpr]
    · rfl
    · intro x hx
      have := h x hx
      simp
      omega
  omega
theorem upto_pos {c : List Nat} {m : Nat} (h : m ∈ c) : 1 ≤ upto c m := by
  unfold upto
  have : m ∈ c.filter fun x => decide (x ≤ m) := List.mem_filter.mpr ⟨h, by simp⟩
  exact List.length_pos_of_mem this
/-- the colours made even; a: how many have the least -/
def evenC (c : List Nat) (a v : Nat) : Nat := if c.length = a then v else (Sq45.rounded (255 * ((upto c v : Int) - a)) (c.length - a)).toNat
def evenL (c : List Nat) : List Nat := c.map (evenC c (upto c ((c.min?).getD 0)))
theorem min_get {c : List Nat} {m : Nat} (hm : m ∈ c) (h : ∀ x ∈ c, m ≤ x) : (c.min?).getD 0 = m := by
  have e : c.min? = some m := List.min?_eq_some_iff.mpr ⟨hm, h⟩
  rw [e]
  rfl
def partedL (c : List Nat) (v : Nat) : Nat × Nat :=
  let a := c.filter fun x => decide (x ≤ v)
  let b := c.filter fun x => decide (v < x)
  if a = [] ∨ b = [] then (0, 1) else
    let d := (a.sum * b.length - b.sum * a.length) + (b.sum * a.length - a.sum * b.length)
    (d * d, a.length * b.length)
def partStep (c : List Nat) (m : Nat × (Nat × Nat)) (v : Nat) : Nat × (Nat × Nat) := if m.2.1 * (partedL c v).2 < (partedL c v).1 * m.2.2 then (v, partedL c v) else m
def partFold (c : List Nat) (n : Nat) : Nat × (Nat × Nat) := (List.range n).foldl (partStep c) (0, partedL c 0)
theorem partFold_one (c : List Nat) : partFold c 1 = (0, partedL c 0) := by
  show partStep c (0, partedL c 0) 0 = _
  unfold partStep
  rw [if_neg (by simp)]
theorem partFold_more (c : List Nat) (n : Nat) : partFold c (n + 1) = partStep c (partFold c n) n := by
  unfold partFold
  rw [List.range_succ, List.foldl_append]
  rfl
theorem filter_sum_le {c : List Nat} (hl : c.length ≤ 256) (h : ∀ x ∈ c, x ≤ 255) (q : Nat → Bool) : (c.filter q).sum ≤ 65280 ∧ (c.filter q).length ≤ 256 := by
  have h1 : (c.filter q).length ≤ 256 := Nat.le_trans (List.length_filter_le _ _) hl
  refine ⟨?_, h1⟩
  have h2 := sum_le (b := 255) (l := c.filter q) fun x hx => h x (List.mem_filter.mp hx).1
  omega
theorem dist_le {a b m : Nat} (ha : a ≤ m) (hb : b ≤ m) : (a - b) + (b - a) ≤ m := by omega
theorem partedL_lt {c : List Nat} (hl : c.length ≤ 256) (h : ∀ x ∈ c, x ≤ 255) (v : Nat) : (partedL c v).1 < 2 ^ 60 := by
  unfold partedL
  dsimp only
  split
  · decide
  · obtain ⟨h1, h2⟩ := filter_sum_le hl h fun x => decide (x ≤ v)
    obtain ⟨h3, h4⟩ := filter_sum_le hl h fun x => decide (v < x)
    have h5 := Nat.mul_le_mul h1 h4
    have h6 := Nat.mul_le_mul h3 h2
    have h7 := dist_le h5 h6
    exact Nat.lt_of_le_of_lt (Nat.mul_le_mul h7 h7) (by decide)
theorem partFold_lt {c : List Nat} (hl : c.length ≤ 256) (h : ∀ x ∈ c, x ≤ 255) : ∀ n, ∃ v, (partFold c n).2 = partedL c v
  | 0 => ⟨0, rfl⟩
  | n + 1 => by
    rw [partFold_more]
    unfold partStep
    split
    · exact ⟨n, rfl⟩
    · exact partFold_lt hl h n
theorem sq_dist (a b : Nat) : ((a : Int) - b) * ((a : Int) - b) = (((((a - b) + (b - a)) * ((a - b) + (b - a)) : Nat)) : Int) := by
  rw [Int.natCast_mul]
  rcases Nat.le_total a b with h | h
  · have e1 : (((a - b) + (b - a) : Nat) : Int) = (b : Int) - a := by omega
    rw [e1]
    have e2 : (a : Int) - b = -((b : Int) - a) := by omega
    rw [e2, Int.neg_mul_neg]
  · have e1 : (((a - b) + (b - a) : Nat) : Int) = (a : Int) - b := by omega
    rw [e1]
end Tw

set_option Elab.async false
set_option linter.all false
set_option maxRecDepth 100000
set_option maxHeartbeats 2000000
namespace Tw
open PySem PySem.Spec PyProof.Rows L2
section
variable {P : Program} {w : World} {K : PySem.W.Frag} {mg : Str → Option Value} {base : Heap} {Z : Adr}
def mMir (p : Int) (s : Nat) : Int := if s = 1 then 0 else if p % (2 * (s : Int) - 2) < s then p % (2 * (s : Int) - 2) else 2 * (s : Int) - 2 - p % (2 * (s : Int) - 2)
def sp_mirrored (_ : PySem.W.Frag) (_ : Adr) : Sp := fun vs H Q _ => ∃ (p : Int) (s : Nat), vs = [.int p, .int (s : Int)] ∧ 1 ≤ s ∧ s ≤ 16 ∧ Q (.int (mMir p s)) H
abbrev s_mirrored : Stmt := top 4
abbrev n_mirrored : List Str := ["place", "side", "circle", "along"]
abbrev p_mirrored : List Str := ["place", "side"]
theorem sc_mirrored : FnScope n_mirrored p_mirrored (defScope s_mirrored) := ⟨rfl, rfl, rfl, by decide +kernel, rfl, by decide +kernel, by decide +kernel⟩
theorem ok_mirrored (T : Txt K mg Z) (D : Dn K mg "mirrored" s_mirrored p_mirrored) : Okd P w K mg base "mirrored" p_mirrored 1 (sp_mirrored K Z) := by
  obtain ⟨f, fd, D1, D2, D3⟩ := D
  refine ⟨f, fd, D2, D1.kp, D3, D1.ok sc_mirrored (fun vs H Q E h => ?_) (fun cdv A outer s H vs Q E hr h => ?_)⟩
  · first | (obtain ⟨_, rfl, _⟩ := h; rfl) | (obtain ⟨_, _, rfl, _⟩ := h; rfl) | (obtain ⟨_, _, _, rfl, _⟩ := h; rfl) | (obtain ⟨_, _, _, _, rfl, _⟩ := h; rfl) | (obtain ⟨_, _, _, _, _, rfl, _⟩ := h; rfl) | (obtain ⟨_, _, _, _, _, _, rfl, _⟩ := h; rfl) | (obtain ⟨_, _, _, _, _, _, _, rfl, _⟩ := h; rfl) | (obtain ⟨_, _, _, _, _, _, _, _, rfl, _⟩ := h; rfl) | (obtain ⟨_, _, _, _, _, _, _, _, _, rfl, _⟩ := h; rfl) | (obtain ⟨_, _, _, _, _, _, _, _, _, _, rfl, _⟩ := h; rfl) | (obtain ⟨_, _, _, _, _, _, _, _, _, _, _, rfl, _⟩ := h; rfl) | (obtain ⟨_, _, _, _, _, _, _, _, _, _, _, _, rfl, _⟩ := h; rfl) | (obtain ⟨_, _, _, _, _, _, _, _, _, _, _, _, _, rfl, _⟩ := h; rfl) | (obtain ⟨rfl, _⟩ := h; rfl)
  · refine ⟨_, (pss_cons (ps_if (pt_cmpR op_eq (pv 1) pe_int (nomark _)) (pss_one (ps_ret pe_int)) pss_nil)
        (pss_cons (ps_set (i := 2) sc_mirrored.nd rfl (Or.inl rfl) (pe_op op_sub (pe_op op_mul pe_int (pv 1)) pe_int))
        (pss_cons (ps_set (i := 3) sc_mirrored.nd rfl (Or.inl rfl) (pe_op op_mod (pv 0) (pv 2)))
        (pss_cons (ps_if (pt_cmpR op_lt (pv 3) (pv 1) (nomark _)) (pss_one (ps_ret (pv 3))) pss_nil)
        (pss_one (ps_ret (pe_op op_sub (pv 2) (pv 3)))))))), ?_⟩
    obtain ⟨p, s, rfl, h1, h2, k⟩ := h
    refine ⟨_, rfl, rfl, _, rfl, ifEq (fun c => ?_) (fun c => ?_)⟩
    · have e : mMir p s = 0 := if_pos (by omega)
      rw [e] at k
      exact k
    have n1 : ¬ s = 1 := by omega
    refine ⟨_, rfl, _, _, rfl, rfl, .inl ⟨by decide, by decide⟩, _, _, rfl, rfl, _, rfl, _, rfl, _, _, rfl, rfl, (by show (0 : Int) < 2 * s - 2; omega), _, rfl, _, rfl, _, _, rfl, rfl, _, rfl, ifD (fun c2 => ?_) (fun c2 => ?_)⟩
    · have e : mMir p s = p % (2 * (s : Int) - 2) := by unfold mMir; rw [if_neg n1, if_pos c2]
      rw [e] at k
      exact ⟨_, rfl, k⟩
    · have e : mMir p s = 2 * (s : Int) - 2 - p % (2 * (s : Int) - 2) := by unfold mMir; rw [if_neg n1, if_neg c2]
      rw [e] at k
      exact ⟨_, rfl, _, rfl, _, _, rfl, rfl, k⟩
theorem place_in {sort s : Nat} {p : Int} (h1 : 0 ≤ p) (h2 : p < s) : oV (Sq45.place sort s p) = .int p := by
  unfold Sq45.place
  rw [if_pos ⟨h1, h2⟩]
  show V.int ((p.toNat : Nat) : Int) = V.int p
  rw [Int.toNat_of_nonneg h1]
theorem place_0 {s : Nat} {p : Int} (h : ¬ (0 ≤ p ∧ p < s)) : oV (Sq45.place 0 s p) = .non := by
  unfold Sq45.place
  rw [if_neg h]
  rfl
theorem place_1 {s : Nat} {p : Int} (hs : 1 ≤ s) (h : ¬ (0 ≤ p ∧ p < s)) : oV (Sq45.place 1 s p) = .int (if (if ((s : Int) - 1) < p then ((s : Int) - 1) else p) > 0 then (if ((s : Int) - 1) < p then ((s : Int) - 1) else p) else 0) := by
  unfold Sq45.place
  rw [if_neg h]
  show V.int (((if p < 0 then 0 else s - 1 : Nat)) : Int) = _
  congr 1
  split <;> split <;> split <;> omega
theorem place_2 {s : Nat} {p : Int} (hs : 1 ≤ s) (h : ¬ (0 ≤ p ∧ p < s)) : oV (Sq45.place 2 s p) = .int (mMir p s) := by
  unfold Sq45.place mMir
  rw [if_neg h]
  show oV (if s = 1 then some 0 else some (if p % (2 * (s : Int) - 2) < s then (p % (2 * (s : Int) - 2)).toNat else (2 * (s : Int) - 2 - p % (2 * (s : Int) - 2)).toNat)) = _
  by_cases c : s = 1
  · rw [if_pos c, if_pos c]
    rfl
  · rw [if_neg c, if_neg c]
    have h1 := Int.emod_nonneg p (b := 2 * (s : Int) - 2) (by omega)
    have h2 := Int.emod_lt_of_pos p (b := 2 * (s : Int) - 2) (by omega)
    show V.int (((if p % (2 * (s : Int) - 2) < s then (p % (2 * (s : Int) - 2)).toNat else (2 * (s : Int) - 2 - p % (2 * (s : Int) - 2)).toNat : Nat)) : Int) = _
    congr 1
    split <;> omega
theorem place_3 {s : Nat} {p : Int} (hs : 1 ≤ s) (h : ¬ (0 ≤ p ∧ p < s)) : oV (Sq45.place 3 s p) = .int (p % (s : Int)) := by
  unfold Sq45.place
  rw [if_neg h]
  have h1 := Int.emod_nonneg p (b := (s : Int)) (by omega)
  show V.int (((p % (s : Int)).toNat : Nat) : Int) = _
  congr 1
  omega
def sp_taken_place (_ : PySem.W.Frag) (_ : Adr) : Sp := fun vs H Q _ => ∃ (sort : Nat) (p : Int) (s : Nat), vs = [.int (sort : Int), .int p, .int (s : Int)] ∧ sort ≤ 3 ∧ 1 ≤ s ∧ s ≤ 16 ∧ Q (oV (Sq45.place sort s p)) H
abbrev s_taken_place : Stmt := top 5
abbrev n_taken_place : List Str := ["sort", "place", "side"]
abbrev p_taken_place : List Str := ["sort", "place", "side"]
theorem sc_taken_place : FnScope n_taken_place p_taken_place (defScope s_taken_place) := ⟨rfl, rfl, rfl, by decide +kernel, rfl, by decide +kernel, by decide +kernel⟩
theorem ok_taken_place (T : Txt K mg Z) (c_mirrored : Okd P w K mg base "mirrored" p_mirrored 1 (sp_mirrored K Z)) (D : Dn K mg "taken_place" s_taken_place p_taken_place) : Okd P w K mg base "taken_place" p_taken_place 2 (sp_taken_place K Z) := by
  obtain ⟨f, fd, D1, D2, D3⟩ := D
  obtain ⟨a_mirrored, d_mirrored, m_mirrored, kp_mirrored, b_mirrored, F_mirrored⟩ := c_mirrored
  refine ⟨f, fd, D2, D1.kp, D3, D1.ok sc_taken_place (fun vs H Q E h => ?_) (fun cdv A outer s H vs Q E hr h => ?_)⟩
  · first | (obtain ⟨_, rfl, _⟩ := h; rfl) | (obtain ⟨_, _, rfl, _⟩ := h; rfl) | (obtain ⟨_, _, _, rfl, _⟩ := h; rfl) | (obtain ⟨_, _, _, _, rfl, _⟩ := h; rfl) | (obtain ⟨_, _, _, _, _, rfl, _⟩ := h; rfl) | (obtain ⟨_, _, _, _, _, _, rfl, _⟩ := h; rfl) | (obtain ⟨_, _, _, _, _, _, _, rfl, _⟩ := h; rfl) | (obtain ⟨_, _, _, _, _, _, _, _, rfl, _⟩ := h; rfl) | (obtain ⟨_, _, _, _, _, _, _, _, _, rfl, _⟩ := h; rfl) | (obtain ⟨_, _, _, _, _, _, _, _, _, _, rfl, _⟩ := h; rfl) | (obtain ⟨_, _, _, _, _, _, _, _, _, _, _, rfl, _⟩ := h; rfl) | (obtain ⟨_, _, _, _, _, _, _, _, _, _, _, _, rfl, _⟩ := h; rfl) | (obtain ⟨_, _, _, _, _, _, _, _, _, _, _, _, _, rfl, _⟩ := h; rfl) | (obtain ⟨rfl, _⟩ := h; rfl)
  · refine ⟨_, (pss_cons (ps_if (PW.pt (pw_and (pt_cmpR op_le pe_int (pv 1) (nomark _)) (pw_and1 (pt_cmpR op_lt (pv 1) (pv 2) (nomark _))))) (pss_one (ps_ret (pv 1))) pss_nil)
        (pss_cons (ps_if (pt_cmpR op_eq (pv 0) pe_int (nomark _)) (pss_one (ps_ret pe_non)) pss_nil)
        (pss_cons (ps_if (pt_cmpR op_eq (pv 0) pe_int (nomark _)) (pss_one (ps_ret (pe_callB (call_max2 rfl) (by rfl) T.n_max (by decide +kernel) (pa_cons pe_int (pa_cons (pe_callB (call_min2 rfl) (by rfl) T.n_min (by decide +kernel) (pa_cons (pv 1) (pa_cons (pe_op op_sub (pv 2) pe_int) pa_nil))) pa_nil))))) pss_nil)
        (pss_cons (ps_if (pt_cmpR op_eq (pv 0) pe_int (nomark _)) (pss_one (ps_ret (pe_call F_mirrored (hr.mono (by decide)) (by rfl) m_mirrored kp_mirrored b_mirrored .nil pass0 (pa_cons (pv 1) (pa_cons (pv 2) pa_nil))))) pss_nil)
        (pss_one (ps_ret (pe_op op_mod (pv 1) (pv 2)))))))), ?_⟩
    obtain ⟨sort, p, s, rfl, h0, h1, h2, k⟩ := h
    refine ⟨_, rfl, _, _, rfl, rfl, _, rfl, ifD (fun c1 => ⟨_, rfl, _, rfl, _, _, rfl, rfl, _, rfl, ifD (fun c2 => ?_) (fun c2 => ?_)⟩) (fun c1 => iteF ?_)⟩
    · rw [place_in c1 c2] at k
      exact ⟨_, rfl, k⟩
    all_goals
      have out : ¬ (0 ≤ p ∧ p < (s : Int)) := by omega
      refine ⟨_, rfl, rfl, _, rfl, ifEq (fun c => ?_) (fun c => ?_)⟩
      · obtain rfl : sort = 0 := by omega
        rw [place_0 out] at k
        exact k
      refine ⟨_, rfl, rfl, _, rfl, ifEq (fun c => ?_) (fun c => ?_)⟩
      · obtain rfl : sort = 1 := by omega
        rw [place_1 h1 out] at k
        exact ⟨_, rfl, _, rfl, _, _, rfl, rfl, _, _, rfl, _, _, rfl, k⟩
      refine ⟨_, rfl, rfl, _, rfl, ifEq (fun c => ?_) (fun c => ?_)⟩
      · obtain rfl : sort = 2 := by omega
        rw [place_2 h1 out] at k
        exact ⟨_, rfl, _, rfl, p, s, rfl, h1, h2, k⟩
      · obtain rfl : sort = 3 := by omega
        rw [place_3 h1 out] at k
        exact ⟨_, rfl, _, rfl, _, _, rfl, rfl, (by show (0 : Int) < s; omega), k⟩
def places (sort r m s : Nat) : List V := (List.range (2 * r + 1)).map fun (i : Nat) => oV (Sq45.place sort s ((m : Int) + i - r))
def sp_taken_places (_ : PySem.W.Frag) (_ : Adr) : Sp := fun vs H Q _ => ∃ (sort r m s : Nat), vs = [.int (sort : Int), .int (r : Int), .int (m : Int), .int (s : Int)] ∧ sort ≤ 3 ∧ r ≤ 4 ∧ m < s ∧ 1 ≤ s ∧ s ≤ 16 ∧
  ∀ H' p, Same H H' → H p = none → H' p = some (.lst (places sort r m s)) → Q (.ref p) H'
abbrev s_taken_places : Stmt := top 6
abbrev n_taken_places : List Str := ["sort", "r", "middle", "side", "place"]
abbrev p_taken_places : List Str := ["sort", "r", "middle", "side"]
theorem sc_taken_places : FnScope n_taken_places p_taken_places (defScope s_taken_places) := ⟨rfl, rfl, rfl, by decide +kernel, rfl, by decide +kernel, by decide +kernel⟩
theorem ok_taken_places (T : Txt K mg Z) (c_taken_place : Okd P w K mg base "taken_place" p_taken_place 2 (sp_taken_place K Z)) (D : Dn K mg "taken_places" s_taken_places p_taken_places) : Okd P w K mg base "taken_places" p_taken_places 3 (sp_taken_places K Z) := by
  obtain ⟨f, fd, D1, D2, D3⟩ := D
  obtain ⟨a_taken_place, d_taken_place, m_taken_place, kp_taken_place, b_taken_place, F_taken_place⟩ := c_taken_place
  refine ⟨f, fd, D2, D1.kp, D3, D1.ok sc_taken_places (fun vs H Q E h => ?_) (fun cdv A outer s H vs Q E hr h => ?_)⟩
  · first | (obtain ⟨_, rfl, _⟩ := h; rfl) | (obtain ⟨_, _, rfl, _⟩ := h; rfl) | (obtain ⟨_, _, _, rfl, _⟩ := h; rfl) | (obtain ⟨_, _, _, _, rfl, _⟩ := h; rfl) | (obtain ⟨_, _, _, _, _, rfl, _⟩ := h; rfl) | (obtain ⟨_, _, _, _, _, _, rfl, _⟩ := h; rfl) | (obtain ⟨_, _, _, _, _, _, _, rfl, _⟩ := h; rfl) | (obtain ⟨_, _, _, _, _, _, _, _, rfl, _⟩ := h; rfl) | (obtain ⟨_, _, _, _, _, _, _, _, _, rfl, _⟩ := h; rfl) | (obtain ⟨_, _, _, _, _, _, _, _, _, _, rfl, _⟩ := h; rfl) | (obtain ⟨_, _, _, _, _, _, _, _, _, _, _, rfl, _⟩ := h; rfl) | (obtain ⟨_, _, _, _, _, _, _, _, _, _, _, _, rfl, _⟩ := h; rfl) | (obtain ⟨_, _, _, _, _, _, _, _, _, _, _, _, _, rfl, _⟩ := h; rfl) | (obtain ⟨rfl, _⟩ := h; rfl)
  · refine ⟨_, (pss_one (ps_ret (pe_lc (own := [("place", 4)]) (g := gName 4) (tt := tYes) rfl sc_taken_places.nd (pi_range2 (by rfl) T.n_range (pa_cons (pe_op op_sub (pv 2) (pv 1)) (pa_cons (pe_op op_add (pe_op op_add (pv 2) (pv 1)) pe_int) pa_nil))) (blkOk_by (N := n_taken_places) (sc := defScope s_taken_places) (by decide +kernel)) (fun _ _ _ _ _ => (pg_name (i := 4) sc_taken_places.nd rfl (Or.inl rfl))) (fun _ _ _ _ _ => pts_nil) (fun _ _ _ _ _ => (pe_call F_taken_place (hr.mono (by decide)) (by rfl) m_taken_place kp_taken_place b_taken_place .nil pass0 (pa_cons (pv 0) (pa_cons (pv 4) (pa_cons (pv 3) pa_nil)))))))), ?_⟩
    obtain ⟨sort, r, m, s, rfl, h0, h1, h2, h3, h4, k⟩ := h
    refine ⟨_, rfl, _, rfl, _, _, rfl, rfl, _, rfl, _, rfl, _, _, rfl, rfl, _, _, rfl, rfl, _, _, rfl, ⟨by omega, by omega, by omega, by omega⟩, fun D hD => ?_⟩
    refine lc_w walk_range (fun i => some (oV (Sq45.place sort s (((m : Int) - r) + i)))) hD (Nat.le_trans (show _ ≤ 16 by omega) (by decide)) (fun _ _ => trivial) ?_ ?_
    · rintro i x H1 H2 hi s1 ⟨rfl, rfl⟩ R hR
      exact ⟨rfl, _, rfl, _, rfl, _, rfl, sort, _, s, rfl, h0, h3, h4, hR _ (Same.refl _)⟩
    · intro H1 s1 e1
      refine k H1 D s1 hD ?_
      rw [e1]
      have en : ((m : Int) + r + 1 - ((m : Int) - r)).toNat = 2 * r + 1 := by omega
      rw [en, List.filterMap_eq_map']
      unfold places
      congr 2
      apply List.map_congr_left
      intro i _
      congr 2
      omega
end
end Tw

set_option Elab.async false
set_option linter.all false
set_option maxRecDepth 100000
set_option maxHeartbeats 2000000
namespace Tw
open PySem PySem.Spec PyProof.Rows L2
section
variable {P : Program} {w : World} {K : PySem.W.Frag} {mg : Str → Option Value} {base : Heap} {Z : Adr}
def sp_window_around (_ : PySem.W.Frag) (Z : Adr) : Sp := fun vs H Q _ => ∃ (a : Addr) (p : Sq45.Picture) (sort r x y : Nat), vs = [.ref a, .int (sort : Int), .int (r : Int), .int (x : Int), .int (y : Int)] ∧
  PicAt Z H a p ∧ PicOk p ∧ sort ≤ 3 ∧ r ≤ 4 ∧ x < p.w ∧ y < p.h ∧ ∀ H' q, Same H H' → H q = none → H' q = some (.lst ((win p sort r x y).map oV)) → Q (.ref q) H'
theorem places_at {sort r m s i : Nat} {v : V} (h : (places sort r m s)[i]? = some v) : v = oV (Sq45.place sort s ((m : Int) + i - r)) := by
  obtain ⟨z, h1, h2⟩ := at_map h
  have := List.getElem?_eq_some_iff.mp h1
  obtain ⟨h3, h4⟩ := this
  rw [List.getElem_range] at h4
  subst h4
  exact h2
theorem places_len {sort r m s : Nat} : (places sort r m s).length = 2 * r + 1 := by simp [places]
theorem range_map_more {β : Type} (f : Nat → β) (i : Nat) : (List.range (i + 1)).map f = (List.range i).map f ++ [f i] := by
  rw [List.range_succ, List.map_append]
  rfl
theorem range_flat_more {β : Type} (f : Nat → List β) (i : Nat) : (List.range (i + 1)).flatMap f = (List.range i).flatMap f ++ f i := by
  rw [List.range_succ, List.flatMap_append]
  simp
theorem map_flat {α β : Type} (g : α → β) (l : List Nat) (f : Nat → List α) : (l.flatMap f).map g = l.flatMap fun j => (f j).map g := by
  rw [List.map_flatMap]
theorem winRow_len (p : Sq45.Picture) (sort r x y j : Nat) : (winRow p sort r x y j).length = 2 * r + 1 := by simp [winRow]
theorem flat_len (p : Sq45.Picture) (sort r x y : Nat) : ∀ n, ((List.range n).flatMap fun j => (winRow p sort r x y j).map oV).length = n * (2 * r + 1)
  | 0 => by simp
  | n + 1 => by rw [range_flat_more, List.length_append, flat_len p sort r x y n, List.length_map, winRow_len, Nat.add_mul, Nat.one_mul]
abbrev s_window_around : Stmt := top 7
abbrev n_window_around : List Str := ["picture", "sort", "r", "x", "y", "columns", "window", "row", "column"]
abbrev p_window_around : List Str := ["picture", "sort", "r", "x", "y"]
theorem sc_window_around : FnScope n_window_around p_window_around (defScope s_window_around) := ⟨rfl, rfl, rfl, by decide +kernel, rfl, by decide +kernel, by decide +kernel⟩
theorem ok_window_around (T : Txt K mg Z) (c_taken_places : Okd P w K mg base "taken_places" p_taken_places 3 (sp_taken_places K Z)) (D : Dn K mg "window_around" s_window_around p_window_around) : Okd P w K mg base "window_around" p_window_around 4 (sp_window_around K Z) := by
  obtain ⟨f, fd, D1, D2, D3⟩ := D
  obtain ⟨a_taken_places, d_taken_places, m_taken_places, kp_taken_places, b_taken_places, F_taken_places⟩ := c_taken_places
  refine ⟨f, fd, D2, D1.kp, D3, D1.ok sc_window_around (fun vs H Q E h => ?_) (fun cdv A outer s H vs Q E hr h => ?_)⟩
  · first | (obtain ⟨_, rfl, _⟩ := h; rfl) | (obtain ⟨_, _, rfl, _⟩ := h; rfl) | (obtain ⟨_, _, _, rfl, _⟩ := h; rfl) | (obtain ⟨_, _, _, _, rfl, _⟩ := h; rfl) | (obtain ⟨_, _, _, _, _, rfl, _⟩ := h; rfl) | (obtain ⟨_, _, _, _, _, _, rfl, _⟩ := h; rfl) | (obtain ⟨_, _, _, _, _, _, _, rfl, _⟩ := h; rfl) | (obtain ⟨_, _, _, _, _, _, _, _, rfl, _⟩ := h; rfl) | (obtain ⟨_, _, _, _, _, _, _, _, _, rfl, _⟩ := h; rfl) | (obtain ⟨_, _, _, _, _, _, _, _, _, _, rfl, _⟩ := h; rfl) | (obtain ⟨_, _, _, _, _, _, _, _, _, _, _, rfl, _⟩ := h; rfl) | (obtain ⟨_, _, _, _, _, _, _, _, _, _, _, _, rfl, _⟩ := h; rfl) | (obtain ⟨_, _, _, _, _, _, _, _, _, _, _, _, _, rfl, _⟩ := h; rfl) | (obtain ⟨rfl, _⟩ := h; rfl)
  · refine ⟨_, (pss_cons (ps_set (i := 5) sc_window_around.nd rfl (Or.inl rfl) (pe_call F_taken_places (hr.mono (by decide)) (by rfl) m_taken_places kp_taken_places b_taken_places .nil pass0 (pa_cons (pv 1) (pa_cons (pv 2) (pa_cons (pv 3) (pa_cons (pe_fld (pv 0) rfl) pa_nil))))))
        (pss_cons (ps_set (i := 6) sc_window_around.nd rfl (Or.inl rfl) (pe_lst pa_nil))
        (pss_cons (ps_for PassesOwn.never rfl (pi_list (pe_call F_taken_places (hr.mono (by decide)) (by rfl) m_taken_places kp_taken_places b_taken_places .nil pass0 (pa_cons (pv 1) (pa_cons (pv 2) (pa_cons (pv 4) (pa_cons (pe_fld (pv 0) rfl) pa_nil)))))) (pg_name (i := 7) sc_window_around.nd rfl (Or.inl rfl)) (pss_one (ps_for PassesOwn.never rfl (pi_list (pv 5)) (pg_name (i := 8) sc_window_around.nd rfl (Or.inl rfl)) (pss_one (ps_if (PW.pt (pw_or (pt_cmpR op_isN (pv 7) pe_non (nomark _)) (pw_or1 (pt_cmpR op_isN (pv 8) pe_non (nomark _))))) (pss_one (ps_expr (pe_bm PySem.F.plainAttrs_list PySem.F.slot_list_append PySem.F.type_list_append mt_append (pv 6) (pa_cons pe_non pa_nil)))) (pss_one (ps_expr (pe_bm PySem.F.plainAttrs_list PySem.F.slot_list_append PySem.F.type_list_append mt_append (pv 6) (pa_cons (pe_ix ix_list (pe_fld (pv 0) rfl) (pe_op op_add (pe_op op_mul (pv 7) (pe_fld (pv 0) rfl)) (pv 8)) (fun _ _ => rfl)) pa_nil)))))))))
        (pss_one (ps_ret (pv 6)))))), ?_⟩
    obtain ⟨a, p, sort, r, x, y, rfl, ⟨dx, ca, hA, hC⟩, ok, h0, h1, h2, h3, k⟩ := h
    refine ⟨_, rfl, _, rfl, _, rfl, _, rfl, a, _, dx, _, _, rfl, hA, T.cl_Picture, T.na_Picture_w, picF_w p ca, sort, r, x, p.w, rfl, h0, h1, h2, ok.w1, ok.w2, fun H1 c s1 n1 e1 => ?_⟩
    refine ⟨by decide, fun wd n2 => ?_⟩
    refine ⟨_, rfl, _, rfl, _, rfl, _, rfl, a, _, dx, _, _, rfl, same_upd s1 (s1.free n2) _ _ hA, T.cl_Picture, T.na_Picture_h, picF_h p ca, sort, r, y, p.h, rfl, h0, h1, h3, ok.h1, ok.h2, fun H3 rr s3 n3 e3 => ?_⟩
    have ewd : H3 wd = some (.lst []) := s3 _ _ upd_same
    have hwd : H wd = none := s1.free n2
    have ncw : c ≠ wd := ne_of_none e1 n2
    have nrw : rr ≠ wd := fun e => by rw [e] at n3; rw [upd_same] at n3; cases n3
    have s13 : Same H H3 := (same_upd s1 hwd).trans s3
    have ec3 : H3 c = some (.lst (places sort r x p.w)) := s3 _ _ (by rw [upd_ne ncw]; exact e1)
    refine ⟨rr, rfl, ⟨_, SqL.of e3⟩, for_it walk_list (fun j σ H' => ∃ vr vc, σ = [some (.ref a), some (.int (sort : Int)), some (.int (r : Int)), some (.int (x : Int)), some (.int (y : Int)), some (.ref c), some (.ref wd), vr, vc] ∧
      Same H H' ∧ H' c = some (.lst (places sort r x p.w)) ∧ H' rr = some (.lst (places sort r y p.h)) ∧ H' wd = some (.lst ((List.range j).flatMap fun j => (winRow p sort r x y j).map oV)))
      ⟨none, none, rfl, s13, ec3, e3, ewd⟩ (fun j σ H' _ ⟨_, _, _, _, _, e, _⟩ => SqL.of e) ?_ ?_⟩
    · rintro j vrow σ H4 H4' hj ⟨vr, vc, rfl, s4, ec, er, ew⟩ ⟨rfl, hrow⟩
      rw [places_len] at hj
      have erow := places_at hrow
      subst erow
      refine ⟨_, rfl, c, rfl, ⟨_, SqL.of ec⟩, for_it walk_list (fun i σ H' => ∃ vc, σ = [some (.ref a), some (.int (sort : Int)), some (.int (r : Int)), some (.int (x : Int)), some (.int (y : Int)), some (.ref c), some (.ref wd), some (oV (Sq45.place sort p.h ((y : Int) + j - r))), vc] ∧
        Same H H' ∧ H' c = some (.lst (places sort r x p.w)) ∧ H' rr = some (.lst (places sort r y p.h)) ∧ H' wd = some (.lst (((List.range j).flatMap fun j => (winRow p sort r x y j).map oV) ++ (List.range i).map fun i => oV (cell p sort r x y j i))))
        ⟨vc, rfl, s4, ec, er, by rw [ew]; simp⟩ (fun i σ H' _ ⟨_, _, _, e, _⟩ => SqL.of e) ?_ ?_⟩
      · rintro i vcol σ H6 H5 hi ⟨vc, rfl, s5, ec5, er5, ew5⟩ ⟨rfl, hcol⟩
        rw [places_len] at hi
        have ecol := places_at hcol
        subst ecol
        obtain ⟨dx5, ca5, hA5, hC5⟩ := Same.pic s5 ⟨dx, ca, hA, hC⟩
        have hlen : (((List.range j).flatMap fun j => (winRow p sort r x y j).map oV) ++ (List.range i).map fun i => oV (cell p sort r x y j i)).length < sizeLine := by
          rw [List.length_append, flat_len, List.length_map, List.length_range]
          refine Nat.lt_of_le_of_lt (Nat.add_le_add (Nat.mul_le_mul (show j ≤ 9 by omega) (show 2 * r + 1 ≤ 9 by omega)) (show i ≤ 9 by omega)) (by decide)
        have fin : ∀ (z : V), z = oV (cell p sort r x y j i) → (fun σ H' => ∃ vc, σ = [some (.ref a), some (.int (sort : Int)), some (.int (r : Int)), some (.int (x : Int)), some (.int (y : Int)), some (.ref c), some (.ref wd), some (oV (Sq45.place sort p.h ((y : Int) + j - r))), vc] ∧
            Same H H' ∧ H' c = some (.lst (places sort r x p.w)) ∧ H' rr = some (.lst (places sort r y p.h)) ∧ H' wd = some (.lst (((List.range j).flatMap fun j => (winRow p sort r x y j).map oV) ++ (List.range (i + 1)).map fun i => oV (cell p sort r x y j i))))
            [some (.ref a), some (.int (sort : Int)), some (.int (r : Int)), some (.int (x : Int)), some (.int (y : Int)), some (.ref c), some (.ref wd), some (oV (Sq45.place sort p.h ((y : Int) + j - r))), some (oV (Sq45.place sort p.w ((x : Int) + i - r)))]
            (upd H5 wd (.lst ((((List.range j).flatMap fun j => (winRow p sort r x y j).map oV) ++ (List.range i).map fun i => oV (cell p sort r x y j i)) ++ [z]))) := by
          intro z hz
          subst hz
          refine ⟨_, rfl, same_upd s5 hwd, by rw [upd_ne ncw]; exact ec5, by rw [upd_ne nrw]; exact er5, ?_⟩
          rw [upd_same, range_map_more, List.append_assoc]
        cases erow : Sq45.place sort p.h ((y : Int) + j - r) with
        | none =>
          rw [erow] at fin
          exact ⟨_, rfl, rfl, _, rfl, ⟨_, rfl, .inl ⟨rfl, _, SqL.of ew5⟩, wd, _, _, rfl, rfl, ew5, hlen, fin _ (by unfold cell; rw [erow]; cases Sq45.place sort p.w ((x : Int) + i - r) <;> rfl)⟩⟩
        | some b =>
          rw [erow] at fin
          refine ⟨_, rfl, rfl, _, rfl, ⟨_, rfl, rfl, _, rfl, ?_⟩⟩
          cases ecol : Sq45.place sort p.w ((x : Int) + i - r) with
          | none =>
            rw [ecol] at fin
            exact ⟨_, rfl, .inl ⟨rfl, _, SqL.of ew5⟩, wd, _, _, rfl, rfl, ew5, hlen, fin _ (by simp [cell, erow, ecol, oV, nV])⟩
          | some aa =>
            rw [ecol] at fin
            have ha := place_lt ok.w1 ecol
            have hb := place_lt ok.h1 erow
            have hh := ok.h2
            refine ⟨_, rfl, .inl ⟨rfl, _, SqL.of ew5⟩, _, rfl, a, _, dx5, _, _, rfl, hA5, T.cl_Picture, T.na_Picture_colours, picF_c p ca5, _, rfl, _, rfl, a, _, dx5, _, _, rfl, hA5, T.cl_Picture, T.na_Picture_w, picF_w p ca5, _, _, rfl, rfl, .inl ⟨by omega, by omega⟩, _, rfl, _, _, rfl, rfl, ca5, _, _, nV (p.at_ aa b), rfl, rfl, SqL.of hC5, ?_, wd, _, _, rfl, rfl, ew5, hlen, fin _ (by simp [cell, erow, ecol, oV, nV])⟩
            refine at_of (j := b * p.w + aa) (by push_cast; rfl) ?_
            rw [List.getElem?_map, ok.at ha hb]
            rfl
      · rintro σ H5 ⟨vc, rfl, s5, ec5, er5, ew5⟩
        refine ⟨_, _, rfl, s5, ec5, er5, ?_⟩
        rw [ew5, range_flat_more, places_len]
        congr 3
        unfold winRow
        rw [List.map_map]
        rfl
    · rintro σ H4 ⟨vr, vc, rfl, s4, ec, er, ew⟩
      refine ⟨_, rfl, k H4 wd s4 hwd ?_⟩
      rw [ew, places_len]
      unfold win
      rw [map_flat]
end
end Tw

set_option Elab.async false
set_option linter.all false
set_option maxRecDepth 100000
set_option maxHeartbeats 2000000
namespace Tw
open PySem PySem.Spec PyProof.Rows L2
section
variable {P : Program} {w : World} {K : PySem.W.Frag} {mg : Str → Option Value} {base : Heap} {Z : Adr}
theorem rect_len (w : Nat) : ∀ y, ((List.range y).flatMap fun y => (List.range w).map fun x => (x, y)).length = y * w
  | 0 => by simp
  | n + 1 => by rw [range_flat_more, List.length_append, rect_len w n, List.length_map, List.length_range, Nat.add_mul, Nat.one_mul]
/-- the windows of some pixels, each a list of its own -/
structure WinsAt (H : Hp) (p : Sq45.Picture) (sort r : Nat) (as : List Addr) (cs : List (Nat × Nat)) : Prop where
  len : as.length = cs.length
  at_ : ∀ (i : Nat) (a : Addr) (c : Nat × Nat), as[i]? = some a → cs[i]? = some c → H a = some (.lst ((win p sort r c.1 c.2).map oV))
theorem WinsAt.same {H H' : Hp} {p : Sq45.Picture} {sort r : Nat} {as : List Addr} {cs : List (Nat × Nat)} (h : WinsAt H p sort r as cs) (s : ∀ a o, a ∈ as → H a = some o → H' a = some o) : WinsAt H' p sort r as cs :=
  ⟨h.len, fun i a c h1 h2 => s a _ (List.mem_of_getElem? h1) (h.at_ i a c h1 h2)⟩
theorem WinsAt.nil {H : Hp} {p : Sq45.Picture} {sort r : Nat} : WinsAt H p sort r [] [] := ⟨rfl, fun i a c h _ => by simp at h⟩
theorem WinsAt.more {H : Hp} {p : Sq45.Picture} {sort r : Nat} {as : List Addr} {cs : List (Nat × Nat)} {a : Addr} {c : Nat × Nat} (h : WinsAt H p sort r as cs) (e : H a = some (.lst ((win p sort r c.1 c.2).map oV))) : WinsAt H p sort r (as ++ [a]) (cs ++ [c]) := by
  refine ⟨by simp [h.len], fun i b d h1 h2 => ?_⟩
  by_cases hi : i < as.length
  · rw [List.getElem?_append_left hi] at h1
    rw [List.getElem?_append_left (by rw [← h.len]; exact hi)] at h2
    exact h.at_ i b d h1 h2
  · rw [List.getElem?_append_right (by omega)] at h1
    rw [List.getElem?_append_right (by rw [← h.len]; omega), ← h.len] at h2
    have hz : i - as.length = 0 := by
      cases hk : i - as.length with
      | zero => rfl
      | succ n => rw [hk] at h1; simp at h1
    rw [hz] at h1 h2
    cases h1
    cases h2
    exact e
def sp_all_windows (_ : PySem.W.Frag) (Z : Adr) : Sp := fun vs H Q _ => ∃ (a : Addr) (p : Sq45.Picture) (sort r : Nat), vs = [.ref a, .int (sort : Int), .int (r : Int)] ∧
  PicAt Z H a p ∧ PicOk p ∧ sort ≤ 3 ∧ r ≤ 4 ∧ ∀ H' q as, Same H H' → H q = none → H' q = some (.lst (as.map V.ref)) → WinsAt H' p sort r as p.cells → Q (.ref q) H'
theorem rng_item {i : Nat} {x : V} (h : x = (fun i : Nat => V.int (0 + (i : Int))) i) : x = .int (i : Int) := by
  rw [h]
  exact congrArg V.int (Int.zero_add _)
abbrev s_all_windows : Stmt := top 8
abbrev n_all_windows : List Str := ["picture", "sort", "r", "windows", "y", "x"]
abbrev p_all_windows : List Str := ["picture", "sort", "r"]
theorem sc_all_windows : FnScope n_all_windows p_all_windows (defScope s_all_windows) := ⟨rfl, rfl, rfl, by decide +kernel, rfl, by decide +kernel, by decide +kernel⟩
theorem ok_all_windows (T : Txt K mg Z) (c_window_around : Okd P w K mg base "window_around" p_window_around 4 (sp_window_around K Z)) (D : Dn K mg "all_windows" s_all_windows p_all_windows) : Okd P w K mg base "all_windows" p_all_windows 5 (sp_all_windows K Z) := by
  obtain ⟨f, fd, D1, D2, D3⟩ := D
  obtain ⟨a_window_around, d_window_around, m_window_around, kp_window_around, b_window_around, F_window_around⟩ := c_window_around
  refine ⟨f, fd, D2, D1.kp, D3, D1.ok sc_all_windows (fun vs H Q E h => ?_) (fun cdv A outer s H vs Q E hr h => ?_)⟩
  · first | (obtain ⟨_, rfl, _⟩ := h; rfl) | (obtain ⟨_, _, rfl, _⟩ := h; rfl) | (obtain ⟨_, _, _, rfl, _⟩ := h; rfl) | (obtain ⟨_, _, _, _, rfl, _⟩ := h; rfl) | (obtain ⟨_, _, _, _, _, rfl, _⟩ := h; rfl) | (obtain ⟨_, _, _, _, _, _, rfl, _⟩ := h; rfl) | (obtain ⟨_, _, _, _, _, _, _, rfl, _⟩ := h; rfl) | (obtain ⟨_, _, _, _, _, _, _, _, rfl, _⟩ := h; rfl) | (obtain ⟨_, _, _, _, _, _, _, _, _, rfl, _⟩ := h; rfl) | (obtain ⟨_, _, _, _, _, _, _, _, _, _, rfl, _⟩ := h; rfl) | (obtain ⟨_, _, _, _, _, _, _, _, _, _, _, rfl, _⟩ := h; rfl) | (obtain ⟨_, _, _, _, _, _, _, _, _, _, _, _, rfl, _⟩ := h; rfl) | (obtain ⟨_, _, _, _, _, _, _, _, _, _, _, _, _, rfl, _⟩ := h; rfl) | (obtain ⟨rfl, _⟩ := h; rfl)
  · refine ⟨_, (pss_cons (ps_set (i := 3) sc_all_windows.nd rfl (Or.inl rfl) (pe_lst pa_nil))
        (pss_cons (ps_for PassesOwn.never rfl (pi_range1 (by rfl) T.n_range (pa_cons (pe_fld (pv 0) rfl) pa_nil)) (pg_name (i := 4) sc_all_windows.nd rfl (Or.inl rfl)) (pss_one (ps_for PassesOwn.never rfl (pi_range1 (by rfl) T.n_range (pa_cons (pe_fld (pv 0) rfl) pa_nil)) (pg_name (i := 5) sc_all_windows.nd rfl (Or.inl rfl)) (pss_one (ps_expr (pe_bm PySem.F.plainAttrs_list PySem.F.slot_list_append PySem.F.type_list_append mt_append (pv 3) (pa_cons (pe_call F_window_around (hr.mono (by decide)) (by rfl) m_window_around kp_window_around b_window_around .nil pass0 (pa_cons (pv 0) (pa_cons (pv 1) (pa_cons (pv 2) (pa_cons (pv 5) (pa_cons (pv 4) pa_nil)))))) pa_nil)))))))
        (pss_one (ps_ret (pv 3))))), ?_⟩
    obtain ⟨a, p, sort, r, rfl, ⟨dx, ca, hA, hC⟩, ok, h0, h1, k⟩ := h
    refine ⟨by decide, fun wd nw => ?_⟩
    have s0 : Same H (upd H wd (.lst [])) := same_new nw
    refine ⟨_, rfl, a, _, dx, _, _, rfl, s0 _ _ hA, T.cl_Picture, T.na_Picture_h, picF_h p ca, _, rfl, by have := ok.h2; omega, by have := ok.h2; omega, ?_⟩
    refine for_it (walk_range (lo := 0) (n := p.h)) (fun y σ H' => ∃ vy vx, σ = [some (.ref a), some (.int (sort : Int)), some (.int (r : Int)), some (.ref wd), vy, vx] ∧ Same H H' ∧ ∃ as : List Addr, H' wd = some (.lst (as.map V.ref)) ∧ (∀ b ∈ as, b ≠ wd) ∧
      WinsAt H' p sort r as ((List.range y).flatMap fun y => (List.range p.w).map fun x => (x, y))) ⟨none, none, rfl, s0, [], upd_same, by simp, WinsAt.nil⟩ (fun _ _ _ _ _ => trivial) ?_ ?_
    · rintro y vy0 σ H1 H1' hy ⟨vy, vx, rfl, s1, as, ew, hne, hw⟩ ⟨rfl, hv⟩
      obtain rfl := rng_item hv
      obtain ⟨dx1, ca1, hA1, hC1⟩ := Same.pic s1 ⟨dx, ca, hA, hC⟩
      refine ⟨_, rfl, a, _, dx1, _, _, rfl, hA1, T.cl_Picture, T.na_Picture_w, picF_w p ca1, _, rfl, by have := ok.w2; omega, by have := ok.w2; omega, ?_⟩
      refine for_it (walk_range (lo := 0) (n := p.w)) (fun x σ H' => ∃ vx, σ = [some (.ref a), some (.int (sort : Int)), some (.int (r : Int)), some (.ref wd), some (.int (y : Int)), vx] ∧ Same H H' ∧ ∃ as : List Addr, H' wd = some (.lst (as.map V.ref)) ∧ (∀ b ∈ as, b ≠ wd) ∧
        WinsAt H' p sort r as (((List.range y).flatMap fun y => (List.range p.w).map fun x => (x, y)) ++ (List.range x).map fun x => (x, y))) ⟨vx, rfl, s1, as, ew, hne, by simpa using hw⟩ (fun _ _ _ _ _ => trivial) ?_ ?_
      · rintro x vx0 σ H2' H2 hx ⟨vx, rfl, s2, as, ew, hne, hw⟩ ⟨rfl, hv⟩
        obtain rfl := rng_item hv
        refine ⟨_, rfl, .inl ⟨rfl, _, SqL.of ew⟩, _, rfl, _, rfl, _, rfl, _, rfl, _, rfl, a, p, sort, r, x, y, rfl, Same.pic s2 ⟨dx, ca, hA, hC⟩, ok, h0, h1, hx, hy, fun H3 q s3 nq eq => ?_⟩
        have hl : as.length < 256 := by
          rw [hw.len, List.length_append, List.length_map, List.length_range]
          have e := rect_len p.w y
          rw [e]
          have h5 := ix_lt hx hy
          have h6 := Nat.mul_le_mul ok.w2 ok.h2
          omega
        have nqw : q ≠ wd := (ne_of_none ew nq).symm
        refine ⟨wd, _, _, rfl, rfl, s3 _ _ ew, by rw [List.length_map]; exact Nat.lt_trans hl (by decide), ?_⟩
        refine ⟨_, rfl, same_upd (s2.trans s3) nw, as ++ [q], ?_, ?_, ?_⟩
        · rw [upd_same, List.map_append]
          rfl
        · intro b hb
          rcases List.mem_append.mp hb with h | h
          · exact hne b h
          · rw [List.mem_singleton.mp h]
            exact nqw
        · rw [range_map_more, ← List.append_assoc]
          refine WinsAt.more (hw.same fun b o hb e => ?_) ?_
          · rw [upd_ne (hne b hb)]
            exact s3 _ _ e
          · rw [upd_ne nqw]
            exact eq
      · rintro σ H2 ⟨vx, rfl, s2, as, ew, hne, hw⟩
        refine ⟨_, _, rfl, s2, as, ew, hne, ?_⟩
        rw [range_flat_more]
        exact hw
    · rintro σ H2 ⟨vy, vx, rfl, s2, as, ew, hne, hw⟩
      exact ⟨_, rfl, k H2 wd as s2 nw ew hw⟩
end
end Tw

set_option Elab.async false
set_option linter.all false
set_option maxRecDepth 100000
set_option maxHeartbeats 2000000
namespace Tw
open PySem PySem.Spec PyProof.Rows L2
section
variable {P : Program} {w : World} {K : PySem.W.Frag} {mg : Str → Option Value} {base : Heap} {Z : Adr}
def sp_colours_there (_ : PySem.W.Frag) (_ : Adr) : Sp := fun vs H Q _ => ∃ (a : Addr) (xs : List (Option Nat)), vs = [.ref a] ∧ H a = some (.lst (xs.map oV)) ∧ xs.length ≤ 1000 ∧
  ∀ H' q, Same H H' → H q = none → H' q = some (.lst ((xs.filterMap id).map nV)) → Q (.ref q) H'
abbrev s_colours_there : Stmt := top 9
abbrev n_colours_there : List Str := ["window", "colour"]
abbrev p_colours_there : List Str := ["window"]
theorem sc_colours_there : FnScope n_colours_there p_colours_there (defScope s_colours_there) := ⟨rfl, rfl, rfl, by decide +kernel, rfl, by decide +kernel, by decide +kernel⟩
theorem ok_colours_there (T : Txt K mg Z) (D : Dn K mg "colours_there" s_colours_there p_colours_there) : Okd P w K mg base "colours_there" p_colours_there 1 (sp_colours_there K Z) := by
  obtain ⟨f, fd, D1, D2, D3⟩ := D
  refine ⟨f, fd, D2, D1.kp, D3, D1.ok sc_colours_there (fun vs H Q E h => ?_) (fun cdv A outer s H vs Q E hr h => ?_)⟩
  · first | (obtain ⟨_, rfl, _⟩ := h; rfl) | (obtain ⟨_, _, rfl, _⟩ := h; rfl) | (obtain ⟨_, _, _, rfl, _⟩ := h; rfl) | (obtain ⟨_, _, _, _, rfl, _⟩ := h; rfl) | (obtain ⟨_, _, _, _, _, rfl, _⟩ := h; rfl) | (obtain ⟨_, _, _, _, _, _, rfl, _⟩ := h; rfl) | (obtain ⟨_, _, _, _, _, _, _, rfl, _⟩ := h; rfl) | (obtain ⟨_, _, _, _, _, _, _, _, rfl, _⟩ := h; rfl) | (obtain ⟨_, _, _, _, _, _, _, _, _, rfl, _⟩ := h; rfl) | (obtain ⟨_, _, _, _, _, _, _, _, _, _, rfl, _⟩ := h; rfl) | (obtain ⟨_, _, _, _, _, _, _, _, _, _, _, rfl, _⟩ := h; rfl) | (obtain ⟨_, _, _, _, _, _, _, _, _, _, _, _, rfl, _⟩ := h; rfl) | (obtain ⟨_, _, _, _, _, _, _, _, _, _, _, _, _, rfl, _⟩ := h; rfl) | (obtain ⟨rfl, _⟩ := h; rfl)
  · refine ⟨_, (pss_one (ps_ret (pe_lc (own := [("colour", 1)]) (g := gName 1) rfl sc_colours_there.nd (pi_list (pv 0)) (blkOk_by (N := n_colours_there) (sc := defScope s_colours_there) (by decide +kernel)) (fun _ _ _ _ _ => (pg_name (i := 1) sc_colours_there.nd rfl (Or.inl rfl))) (fun _ _ _ _ _ => (pts_one (pt_cmpR op_notN (pv 1) pe_non (nomark _)))) (fun _ _ _ _ _ => (pv 1))))), ?_⟩
    obtain ⟨a, xs, rfl, hA, hl, k⟩ := h
    refine ⟨_, rfl, a, rfl, ⟨_, SqL.of hA⟩, fun D hD => ?_⟩
    refine lc_w (walk_list (xs := xs.map oV)) (fun i => (xs[i]?).bind fun o => o.map nV) hD (by rw [List.length_map]; exact Nat.le_trans hl (by decide)) (fun H1 s1 => SqL.of (s1 _ _ hA)) ?_ ?_
    · rintro i x H2 H1 hi s1 ⟨rfl, hx⟩ R hR
      obtain ⟨z, hz, rfl⟩ := at_map hx
      rw [hz] at hR
      cases z with
      | none => exact ⟨rfl, _, rfl, rfl, _, rfl, hR _ (Same.refl _)⟩
      | some c => exact ⟨rfl, _, rfl, rfl, _, rfl, _, rfl, hR _ (Same.refl _)⟩
    · intro H1 s1 e1
      refine k H1 D s1 hD ?_
      rw [e1, List.length_map, range_bind, List.map_filterMap]
      rfl
def sp_rounded (_ : PySem.W.Frag) (_ : Adr) : Sp := fun vs H Q _ => ∃ (n : Int) (d : Nat), vs = [.int n, .int (d : Int)] ∧ 1 ≤ d ∧ d ≤ 100000 ∧ Q (.int (Sq45.rounded n d)) H
abbrev s_rounded : Stmt := top 1
abbrev n_rounded : List Str := ["number", "divisor"]
abbrev p_rounded : List Str := ["number", "divisor"]
theorem sc_rounded : FnScope n_rounded p_rounded (defScope s_rounded) := ⟨rfl, rfl, rfl, by decide +kernel, rfl, by decide +kernel, by decide +kernel⟩
theorem ok_rounded (T : Txt K mg Z) (D : Dn K mg "rounded" s_rounded p_rounded) : Okd P w K mg base "rounded" p_rounded 1 (sp_rounded K Z) := by
  obtain ⟨f, fd, D1, D2, D3⟩ := D
  refine ⟨f, fd, D2, D1.kp, D3, D1.ok sc_rounded (fun vs H Q E h => ?_) (fun cdv A outer s H vs Q E hr h => ?_)⟩
  · first | (obtain ⟨_, rfl, _⟩ := h; rfl) | (obtain ⟨_, _, rfl, _⟩ := h; rfl) | (obtain ⟨_, _, _, rfl, _⟩ := h; rfl) | (obtain ⟨_, _, _, _, rfl, _⟩ := h; rfl) | (obtain ⟨_, _, _, _, _, rfl, _⟩ := h; rfl) | (obtain ⟨_, _, _, _, _, _, rfl, _⟩ := h; rfl) | (obtain ⟨_, _, _, _, _, _, _, rfl, _⟩ := h; rfl) | (obtain ⟨_, _, _, _, _, _, _, _, rfl, _⟩ := h; rfl) | (obtain ⟨_, _, _, _, _, _, _, _, _, rfl, _⟩ := h; rfl) | (obtain ⟨_, _, _, _, _, _, _, _, _, _, rfl, _⟩ := h; rfl) | (obtain ⟨_, _, _, _, _, _, _, _, _, _, _, rfl, _⟩ := h; rfl) | (obtain ⟨_, _, _, _, _, _, _, _, _, _, _, _, rfl, _⟩ := h; rfl) | (obtain ⟨_, _, _, _, _, _, _, _, _, _, _, _, _, rfl, _⟩ := h; rfl) | (obtain ⟨rfl, _⟩ := h; rfl)
  · refine ⟨_, (pss_one (ps_ret (pe_op op_fdiv (pe_op op_add (pe_op op_mul pe_int (pv 0)) (pv 1)) (pe_op op_mul pe_int (pv 1))))), ?_⟩
    obtain ⟨n, d, rfl, h1, h2, k⟩ := h
    refine ⟨_, rfl, _, _, rfl, rfl, .inl ⟨by decide, by decide⟩, _, rfl, _, _, rfl, rfl, _, rfl, _, _, rfl, rfl, .inl ⟨by decide, by decide⟩, _, _, rfl, rfl, ⟨by omega, by omega⟩, ?_⟩
    have e : Sq45.rounded n d = (2 * n + (d : Int)) / (2 * (d : Int)) := by
      unfold Sq45.rounded
      rw [Int.natCast_mul]
      rfl
    rw [e] at k
    exact k
theorem mean_val {l : List Nat} (h : l ≠ []) : V.int (Sq45.rounded ((l.sum : Nat) : Int) l.length) = nV (Sq45.mean l) := by
  unfold Sq45.mean nV
  have h1 : 1 ≤ l.length := by
    cases l with
    | nil => exact absurd rfl h
    | cons a l => simp
  rw [Nat.max_eq_right h1]
  have h2 : 0 ≤ Sq45.rounded ((l.sum : Nat) : Int) l.length := by
    unfold Sq45.rounded
    exact Int.ediv_nonneg (by omega) (by omega)
  exact congrArg V.int (Int.toNat_of_nonneg h2).symm
def sp_mean_colour (_ : PySem.W.Frag) (_ : Adr) : Sp := fun vs H Q _ => ∃ (a : Addr) (xs : List (Option Nat)), vs = [.ref a] ∧ H a = some (.lst (xs.map oV)) ∧ xs.length ≤ 1000 ∧ xs.filterMap id ≠ [] ∧
  ∀ H', Same H H' → Q (nV (Sq45.mean (xs.filterMap id))) H'
abbrev s_mean_colour : Stmt := top 11
abbrev n_mean_colour : List Str := ["window", "there"]
abbrev p_mean_colour : List Str := ["window"]
theorem sc_mean_colour : FnScope n_mean_colour p_mean_colour (defScope s_mean_colour) := ⟨rfl, rfl, rfl, by decide +kernel, rfl, by decide +kernel, by decide +kernel⟩
theorem ok_mean_colour (T : Txt K mg Z) (c_colours_there : Okd P w K mg base "colours_there" p_colours_there 1 (sp_colours_there K Z)) (c_rounded : Okd P w K mg base "rounded" p_rounded 1 (sp_rounded K Z)) (D : Dn K mg "mean_colour" s_mean_colour p_mean_colour) : Okd P w K mg base "mean_colour" p_mean_colour 2 (sp_mean_colour K Z) := by
  obtain ⟨f, fd, D1, D2, D3⟩ := D
  obtain ⟨a_colours_there, d_colours_there, m_colours_there, kp_colours_there, b_colours_there, F_colours_there⟩ := c_colours_there
  obtain ⟨a_rounded, d_rounded, m_rounded, kp_rounded, b_rounded, F_rounded⟩ := c_rounded
  refine ⟨f, fd, D2, D1.kp, D3, D1.ok sc_mean_colour (fun vs H Q E h => ?_) (fun cdv A outer s H vs Q E hr h => ?_)⟩
  · first | (obtain ⟨_, rfl, _⟩ := h; rfl) | (obtain ⟨_, _, rfl, _⟩ := h; rfl) | (obtain ⟨_, _, _, rfl, _⟩ := h; rfl) | (obtain ⟨_, _, _, _, rfl, _⟩ := h; rfl) | (obtain ⟨_, _, _, _, _, rfl, _⟩ := h; rfl) | (obtain ⟨_, _, _, _, _, _, rfl, _⟩ := h; rfl) | (obtain ⟨_, _, _, _, _, _, _, rfl, _⟩ := h; rfl) | (obtain ⟨_, _, _, _, _, _, _, _, rfl, _⟩ := h; rfl) | (obtain ⟨_, _, _, _, _, _, _, _, _, rfl, _⟩ := h; rfl) | (obtain ⟨_, _, _, _, _, _, _, _, _, _, rfl, _⟩ := h; rfl) | (obtain ⟨_, _, _, _, _, _, _, _, _, _, _, rfl, _⟩ := h; rfl) | (obtain ⟨_, _, _, _, _, _, _, _, _, _, _, _, rfl, _⟩ := h; rfl) | (obtain ⟨_, _, _, _, _, _, _, _, _, _, _, _, _, rfl, _⟩ := h; rfl) | (obtain ⟨rfl, _⟩ := h; rfl)
  · refine ⟨_, (pss_cons (ps_set (i := 1) sc_mean_colour.nd rfl (Or.inl rfl) (pe_call F_colours_there (hr.mono (by decide)) (by rfl) m_colours_there kp_colours_there b_colours_there .nil pass0 (pa_cons (pv 0) pa_nil)))
        (pss_one (ps_ret (pe_call F_rounded (hr.mono (by decide)) (by rfl) m_rounded kp_rounded b_rounded .nil pass0 (pa_cons (pe_callB (cr_sum rfl) (by rfl) T.n_sum (by decide +kernel) (pa_cons (pv 1) pa_nil)) (pa_cons (pe_callB call_len_seq (by rfl) T.n_len (by decide +kernel) (pa_cons (pv 1) pa_nil)) pa_nil)))))), ?_⟩
    obtain ⟨a, xs, rfl, hA, hl, hne, k⟩ := h
    refine ⟨_, rfl, a, xs, rfl, hA, hl, fun H1 q s1 nq eq => ?_⟩
    have e2 : H1 q = some (.lst (((xs.filterMap id).map fun n : Nat => (n : Int)).map V.int)) := by rw [eq, nV_map]
    have hlen : (xs.filterMap id).length ≤ 1000 := Nat.le_trans (List.length_filterMap_le _ _) hl
    refine ⟨_, rfl, q, _, rfl, SqL.of e2, _, rfl, q, _, rfl, .inl (SqL.of eq), ((xs.filterMap id).map fun n : Nat => (n : Int)).sum, (xs.filterMap id).length, ?_, ?_, by omega, ?_⟩
    · rw [List.length_map]
      rfl
    · cases h : xs.filterMap id with
      | nil => exact absurd h hne
      | cons a l => simp
    · rw [sum_cast, mean_val hne]
      exact k H1 s1
theorem rank_ix {p q n : Nat} (hn : 1 ≤ n) (h : p ≤ q) (hq : 1 ≤ q) : p * (n - 1) / q < n := by
  have h1 : p * (n - 1) / q ≤ q * (n - 1) / q := Nat.div_le_div_right (Nat.mul_le_mul_right _ h)
  rw [Nat.mul_div_cancel_left _ hq] at h1
  omega
def sp_rank_colour (_ : PySem.W.Frag) (_ : Adr) : Sp := fun vs H Q _ => ∃ (a : Addr) (xs : List (Option Nat)) (p q : Nat), vs = [.ref a, .int (p : Int), .int (q : Int)] ∧ H a = some (.lst (xs.map oV)) ∧ xs.length ≤ 1000 ∧ xs.filterMap id ≠ [] ∧
  1 ≤ q ∧ p ≤ q ∧ q < 2 ^ 64 ∧ ∀ H', Same H H' → Q (nV (Sq45.ranked p q (xs.filterMap id))) H'
abbrev s_rank_colour : Stmt := top 12
abbrev n_rank_colour : List Str := ["window", "p", "q", "there"]
abbrev p_rank_colour : List Str := ["window", "p", "q"]
theorem sc_rank_colour : FnScope n_rank_colour p_rank_colour (defScope s_rank_colour) := ⟨rfl, rfl, rfl, by decide +kernel, rfl, by decide +kernel, by decide +kernel⟩
theorem ok_rank_colour (T : Txt K mg Z) (c_colours_there : Okd P w K mg base "colours_there" p_colours_there 1 (sp_colours_there K Z)) (D : Dn K mg "rank_colour" s_rank_colour p_rank_colour) : Okd P w K mg base "rank_colour" p_rank_colour 2 (sp_rank_colour K Z) := by
  obtain ⟨f, fd, D1, D2, D3⟩ := D
  obtain ⟨a_colours_there, d_colours_there, m_colours_there, kp_colours_there, b_colours_there, F_colours_there⟩ := c_colours_there
  refine ⟨f, fd, D2, D1.kp, D3, D1.ok sc_rank_colour (fun vs H Q E h => ?_) (fun cdv A outer s H vs Q E hr h => ?_)⟩
  · first | (obtain ⟨_, rfl, _⟩ := h; rfl) | (obtain ⟨_, _, rfl, _⟩ := h; rfl) | (obtain ⟨_, _, _, rfl, _⟩ := h; rfl) | (obtain ⟨_, _, _, _, rfl, _⟩ := h; rfl) | (obtain ⟨_, _, _, _, _, rfl, _⟩ := h; rfl) | (obtain ⟨_, _, _, _, _, _, rfl, _⟩ := h; rfl) | (obtain ⟨_, _, _, _, _, _, _, rfl, _⟩ := h; rfl) | (obtain ⟨_, _, _, _, _, _, _, _, rfl, _⟩ := h; rfl) | (obtain ⟨_, _, _, _, _, _, _, _, _, rfl, _⟩ := h; rfl) | (obtain ⟨_, _, _, _, _, _, _, _, _, _, rfl, _⟩ := h; rfl) | (obtain ⟨_, _, _, _, _, _, _, _, _, _, _, rfl, _⟩ := h; rfl) | (obtain ⟨_, _, _, _, _, _, _, _, _, _, _, _, rfl, _⟩ := h; rfl) | (obtain ⟨_, _, _, _, _, _, _, _, _, _, _, _, _, rfl, _⟩ := h; rfl) | (obtain ⟨rfl, _⟩ := h; rfl)
  · refine ⟨_, (pss_cons (ps_set (i := 3) sc_rank_colour.nd rfl (Or.inl rfl) (pe_callB cr_sortedI (by rfl) T.n_sorted (by decide +kernel) (pa_cons (pe_call F_colours_there (hr.mono (by decide)) (by rfl) m_colours_there kp_colours_there b_colours_there .nil pass0 (pa_cons (pv 0) pa_nil)) pa_nil)))
        (pss_one (ps_ret (pe_ix ix_list (pv 3) (pe_op op_fdivW (pe_op op_mul (pv 1) (pe_op op_sub (pe_callB call_len_seq (by rfl) T.n_len (by decide +kernel) (pa_cons (pv 3) pa_nil)) pe_int)) (pv 2)) (fun _ _ => rfl))))), ?_⟩
    obtain ⟨a, xs, p, q, rfl, hA, hl, hne, hq1, hpq, hq2, k⟩ := h
    refine ⟨_, rfl, a, xs, rfl, hA, hl, fun H1 t s1 nt et => ?_⟩
    have e2 : H1 t = some (.lst (((xs.filterMap id).map fun n : Nat => (n : Int)).map V.int)) := by rw [et, nV_map]
    refine ⟨t, _, rfl, SqL.of e2, fun ns u perm rise nu => ?_⟩
    have es := is_sorted perm rise
    have hlen : ns.length = (xs.filterMap id).length := by rw [es, List.length_map, sorted_len]
    have hn1 : 1 ≤ (xs.filterMap id).length := by
      cases h : xs.filterMap id with
      | nil => exact absurd h hne
      | cons a l => simp
    have hlt := rank_ix hn1 hpq hq1
    refine ⟨_, rfl, _, rfl, _, rfl, u, _, rfl, .inl (SqL.of upd_same), _, _, rfl, rfl, _, _, rfl, rfl, .inl ⟨by omega, by omega⟩, _, rfl, _, _, rfl, rfl, wide_div (b := 64) (by omega) (by show (q : Int).natAbs < 2 ^ 64; omega) (by decide) (by decide), u, _, _, nV (Sq45.ranked p q (xs.filterMap id)), rfl, rfl, SqL.of upd_same, ?_, k _ (s1.trans (same_new nu))⟩
    refine at_of (j := p * ((xs.filterMap id).length - 1) / q) ?_ ?_
    · rw [List.length_map, hlen, Int.natCast_ediv, Int.natCast_mul, Int.natCast_sub hn1]
      rfl
    · have h3 : p * ((xs.filterMap id).length - 1) / q < (Sq45.sorted (xs.filterMap id)).length := by rw [sorted_len]; exact hlt
      rw [es, List.map_map, List.getElem?_map]
      unfold Sq45.ranked
      rw [List.getElem?_eq_getElem h3]
      rfl
end
end Tw

set_option Elab.async false
set_option linter.all false
set_option maxRecDepth 100000
set_option maxHeartbeats 2000000
namespace Tw
open PySem PySem.Spec PyProof.Rows L2
section
variable {P : Program} {w : World} {K : PySem.W.Frag} {mg : Str → Option Value} {base : Heap} {Z : Adr}
/-- what the weights give over the places that are there -/
def wsum (ws : List Int) (xs : List (Option Nat)) : Int := ((ws.zip xs).filterMap fun z => z.2.map fun c => z.1 * (c : Int)).sum
theorem clamp_val (v : Int) : V.int (if (if (255 : Int) < v then 255 else v) > 0 then (if (255 : Int) < v then 255 else v) else 0) = nV (Sq45.clamp v) := by
  unfold Sq45.clamp nV Sq45.TOP
  congr 1
  split <;> split <;> omega
def sp_weighed_colour (_ : PySem.W.Frag) (_ : Adr) : Sp := fun vs H Q _ => ∃ (a b : Addr) (xs : List (Option Nat)) (ws : List Int) (d : Nat) (m : Int), vs = [.ref a, .ref b, .int (d : Int), .int m] ∧ H a = some (.lst (xs.map oV)) ∧ H b = some (.lst (ws.map V.int)) ∧
  ws.length = xs.length ∧ xs.length ≤ 1000 ∧ (∀ z ∈ ws, -1000 ≤ z ∧ z ≤ 1000) ∧ 1 ≤ d ∧ d ≤ 1000 ∧ ∀ H', Same H H' → Q (nV (Sq45.clamp (Sq45.rounded (wsum ws xs) d + m))) H'
abbrev s_weighed_colour : Stmt := top 13
abbrev n_weighed_colour : List Str := ["window", "weights", "divisor", "more", "parts", "weight", "colour"]
abbrev p_weighed_colour : List Str := ["window", "weights", "divisor", "more"]
theorem sc_weighed_colour : FnScope n_weighed_colour p_weighed_colour (defScope s_weighed_colour) := ⟨rfl, rfl, rfl, by decide +kernel, rfl, by decide +kernel, by decide +kernel⟩
theorem ok_weighed_colour (T : Txt K mg Z) (c_rounded : Okd P w K mg base "rounded" p_rounded 1 (sp_rounded K Z)) (D : Dn K mg "weighed_colour" s_weighed_colour p_weighed_colour) : Okd P w K mg base "weighed_colour" p_weighed_colour 2 (sp_weighed_colour K Z) := by
  obtain ⟨f, fd, D1, D2, D3⟩ := D
  obtain ⟨a_rounded, d_rounded, m_rounded, kp_rounded, b_rounded, F_rounded⟩ := c_rounded
  refine ⟨f, fd, D2, D1.kp, D3, D1.ok sc_weighed_colour (fun vs H Q E h => ?_) (fun cdv A outer s H vs Q E hr h => ?_)⟩
  · first | (obtain ⟨_, rfl, _⟩ := h; rfl) | (obtain ⟨_, _, rfl, _⟩ := h; rfl) | (obtain ⟨_, _, _, rfl, _⟩ := h; rfl) | (obtain ⟨_, _, _, _, rfl, _⟩ := h; rfl) | (obtain ⟨_, _, _, _, _, rfl, _⟩ := h; rfl) | (obtain ⟨_, _, _, _, _, _, rfl, _⟩ := h; rfl) | (obtain ⟨_, _, _, _, _, _, _, rfl, _⟩ := h; rfl) | (obtain ⟨_, _, _, _, _, _, _, _, rfl, _⟩ := h; rfl) | (obtain ⟨_, _, _, _, _, _, _, _, _, rfl, _⟩ := h; rfl) | (obtain ⟨_, _, _, _, _, _, _, _, _, _, rfl, _⟩ := h; rfl) | (obtain ⟨_, _, _, _, _, _, _, _, _, _, _, rfl, _⟩ := h; rfl) | (obtain ⟨_, _, _, _, _, _, _, _, _, _, _, _, rfl, _⟩ := h; rfl) | (obtain ⟨_, _, _, _, _, _, _, _, _, _, _, _, _, rfl, _⟩ := h; rfl) | (obtain ⟨rfl, _⟩ := h; rfl)
  · refine ⟨_, (pss_cons (ps_setLc (i := 4) (own := [("weight", 5), ("colour", 6)]) (g := gTup K 2 (gCons (gName 5) (gCons (gName 6) gNil))) rfl sc_weighed_colour.nd rfl rfl (sw_true rfl rfl rfl (by decide +kernel)) (pi_zip (by rfl) T.n_zip (pa_cons (pv 1) (pa_cons (pv 0) pa_nil))) (blkOk_by (N := n_weighed_colour) (sc := defScope s_weighed_colour) (by decide +kernel)) (fun _ _ _ _ _ => by exact (pg_tup rfl (pgs_cons (pg_name (i := 5) sc_weighed_colour.nd rfl (Or.inl rfl)) (pgs_cons (pg_name (i := 6) sc_weighed_colour.nd rfl (Or.inl rfl)) pgs_nil)))) (fun _ _ _ _ _ => (pts_one (pt_cmpR op_notN (pv 6) pe_non (nomark _)))) (fun _ _ _ _ _ => (pe_op op_mul (pv 5) (pv 6))))
        (pss_one (ps_ret (pe_callB (call_max2 rfl) (by rfl) T.n_max (by decide +kernel) (pa_cons pe_int (pa_cons (pe_callB (call_min2 rfl) (by rfl) T.n_min (by decide +kernel) (pa_cons (pe_op op_add (pe_call F_rounded (hr.mono (by decide)) (by rfl) m_rounded kp_rounded b_rounded .nil pass0 (pa_cons (pe_callB (cr_sum rfl) (by rfl) T.n_sum (by decide +kernel) (pa_cons (pv 4) pa_nil)) (pa_cons (pv 2) pa_nil))) (pv 3)) (pa_cons pe_int pa_nil))) pa_nil)))))), ?_⟩
    obtain ⟨a, b, xs, ws, d, m, rfl, hA, hB, hlen, hl, hw, hd1, hd2, k⟩ := h
    refine ⟨_, rfl, _, rfl, b, a, _, _, rfl, SqL.of hB, SqL.of hA, fun D hD => ?_⟩
    refine lc_w (walk_zip (xs := ws.map V.int) (ys := xs.map oV) rfl) (fun i => ((ws.zip xs)[i]?).bind fun z => z.2.map fun c => V.int (z.1 * (c : Int))) hD (by rw [List.length_map, List.length_map]; exact Nat.le_trans (show _ ≤ 1000 by omega) (by decide)) (fun H1 s1 => ⟨SqL.of (s1 _ _ hB), SqL.of (s1 _ _ hA)⟩) ?_ ?_
    · rintro i v H1 H2 hi s1 ⟨t, x, y, rfl, nt, rfl, hx, hy⟩ R hR
      obtain ⟨z, hz, rfl⟩ := at_map hx
      obtain ⟨o, ho, rfl⟩ := at_map hy
      have hzip : (ws.zip xs)[i]? = some (z, o) := by rw [List.getElem?_zip_eq_some]; exact ⟨hz, ho⟩
      rw [hzip] at hR
      have hb := hw z (List.mem_of_getElem? hz)
      cases o with
      | none => exact ⟨t, _, rfl, SqT.of upd_same, rfl, _, _, rfl, _, _, rfl, rfl, rfl, _, rfl, rfl, _, rfl, hR _ (same_new nt)⟩
      | some c => exact ⟨t, _, rfl, SqT.of upd_same, rfl, _, _, rfl, _, _, rfl, rfl, rfl, _, rfl, rfl, _, rfl, _, rfl, _, rfl, _, _, rfl, rfl, .inl ⟨by omega, by omega⟩, hR _ (same_new nt)⟩
    · intro H1 s1 e1
      have hn : min (ws.map V.int).length (xs.map oV).length = (ws.zip xs).length := by rw [List.length_map, List.length_map, List.length_zip]
      have e2 : H1 D = some (.lst (((ws.zip xs).filterMap fun z => z.2.map fun c => z.1 * (c : Int)).map V.int)) := by
        rw [e1, hn, range_bind, List.map_filterMap]
        congr 3
        funext z
        cases z.2 <;> rfl
      refine ⟨_, rfl, D, _, rfl, SqL.of e2, _, rfl, _, d, rfl, hd1, by omega, _, rfl, _, _, rfl, rfl, _, _, rfl, _, _, rfl, ?_⟩
      have e3 := clamp_val (Sq45.rounded (wsum ws xs) d + m)
      unfold wsum at e3
      rw [e3]
      exact k H1 s1
def sp_is_more (_ : PySem.W.Frag) (_ : Adr) : Sp := fun vs H Q _ => ∃ (a b : Addr) (x y : Nat × Nat), vs = [.ref a, .ref b] ∧ H a = some (.tup [nV x.1, nV x.2]) ∧ H b = some (.tup [nV y.1, nV y.2]) ∧ x.1 < 2 ^ 60 ∧ y.1 < 2 ^ 60 ∧
  Q (.bl (decide (y.1 * x.2 < x.1 * y.2))) H
abbrev s_is_more : Stmt := top 2
abbrev n_is_more : List Str := ["one", "other"]
abbrev p_is_more : List Str := ["one", "other"]
theorem sc_is_more : FnScope n_is_more p_is_more (defScope s_is_more) := ⟨rfl, rfl, rfl, by decide +kernel, rfl, by decide +kernel, by decide +kernel⟩
theorem ok_is_more (T : Txt K mg Z) (D : Dn K mg "is_more" s_is_more p_is_more) : Okd P w K mg base "is_more" p_is_more 1 (sp_is_more K Z) := by
  obtain ⟨f, fd, D1, D2, D3⟩ := D
  refine ⟨f, fd, D2, D1.kp, D3, D1.ok sc_is_more (fun vs H Q E h => ?_) (fun cdv A outer s H vs Q E hr h => ?_)⟩
  · first | (obtain ⟨_, rfl, _⟩ := h; rfl) | (obtain ⟨_, _, rfl, _⟩ := h; rfl) | (obtain ⟨_, _, _, rfl, _⟩ := h; rfl) | (obtain ⟨_, _, _, _, rfl, _⟩ := h; rfl) | (obtain ⟨_, _, _, _, _, rfl, _⟩ := h; rfl) | (obtain ⟨_, _, _, _, _, _, rfl, _⟩ := h; rfl) | (obtain ⟨_, _, _, _, _, _, _, rfl, _⟩ := h; rfl) | (obtain ⟨_, _, _, _, _, _, _, _, rfl, _⟩ := h; rfl) | (obtain ⟨_, _, _, _, _, _, _, _, _, rfl, _⟩ := h; rfl) | (obtain ⟨_, _, _, _, _, _, _, _, _, _, rfl, _⟩ := h; rfl) | (obtain ⟨_, _, _, _, _, _, _, _, _, _, _, rfl, _⟩ := h; rfl) | (obtain ⟨_, _, _, _, _, _, _, _, _, _, _, _, rfl, _⟩ := h; rfl) | (obtain ⟨_, _, _, _, _, _, _, _, _, _, _, _, _, rfl, _⟩ := h; rfl) | (obtain ⟨rfl, _⟩ := h; rfl)
  · refine ⟨_, (pss_one (ps_ret (pe_cmpR op_gt (pe_op op_mul (pe_ix ix_tup (pv 0) pe_int (fun _ _ => rfl)) (pe_ix ix_tup (pv 1) pe_int (fun _ _ => rfl))) (pe_op op_mul (pe_ix ix_tup (pv 1) pe_int (fun _ _ => rfl)) (pe_ix ix_tup (pv 0) pe_int (fun _ _ => rfl))) (nomark _)))), ?_⟩
    obtain ⟨a, b, x, y, rfl, hA, hB, h1, h2, k⟩ := h
    refine ⟨_, rfl, a, _, _, nV x.1, rfl, rfl, SqT.of hA, atI_nat (j := 0) rfl, _, rfl, b, _, _, nV y.2, rfl, rfl, SqT.of hB, atI_nat (j := 1) rfl, _, _, rfl, rfl, .inl ⟨by omega, by omega⟩, _, rfl, b, _, _, nV y.1, rfl, rfl, SqT.of hB, atI_nat (j := 0) rfl, _, rfl, a, _, _, nV x.2, rfl, rfl, SqT.of hA, atI_nat (j := 1) rfl, _, _, rfl, rfl, .inl ⟨by omega, by omega⟩, _, _, rfl, rfl, ?_⟩
    have e : decide ((y.1 : Int) * (x.2 : Int) < (x.1 : Int) * (y.2 : Int)) = decide (y.1 * x.2 < x.1 * y.2) := by
      apply decide_eq_decide.mpr
      rw [← Int.natCast_mul, ← Int.natCast_mul]
      omega
    show Q (.bl (decide ((y.1 : Int) * (x.2 : Int) < (x.1 : Int) * (y.2 : Int)))) H
    rw [e]
    exact k
end
end Tw

set_option Elab.async false
set_option linter.all false
set_option maxRecDepth 100000
set_option maxHeartbeats 2000000
namespace Tw
open PySem PySem.Spec PyProof.Rows L2
section
variable {P : Program} {w : World} {K : PySem.W.Frag} {mg : Str → Option Value} {base : Heap} {Z : Adr}
def sp_counts_up_to (_ : PySem.W.Frag) (_ : Adr) : Sp := fun vs H Q _ => ∃ (a : Addr) (c : List Nat), vs = [.ref a] ∧ H a = some (.lst (c.map nV)) ∧
  ∀ H' q, Same H H' → H q = none → H' q = some (.lst ((List.range 256).map fun v => nV (upto c v))) → Q (.ref q) H'
abbrev s_counts_up_to : Stmt := top 14
abbrev n_counts_up_to : List Str := ["colours", "counts", "so_far", "colour"]
abbrev p_counts_up_to : List Str := ["colours"]
theorem sc_counts_up_to : FnScope n_counts_up_to p_counts_up_to (defScope s_counts_up_to) := ⟨rfl, rfl, rfl, by decide +kernel, rfl, by decide +kernel, by decide +kernel⟩
theorem ok_counts_up_to (T : Txt K mg Z) (D : Dn K mg "counts_up_to" s_counts_up_to p_counts_up_to) : Okd P w K mg base "counts_up_to" p_counts_up_to 1 (sp_counts_up_to K Z) := by
  obtain ⟨f, fd, D1, D2, D3⟩ := D
  refine ⟨f, fd, D2, D1.kp, D3, D1.ok sc_counts_up_to (fun vs H Q E h => ?_) (fun cdv A outer s H vs Q E hr h => ?_)⟩
  · first | (obtain ⟨_, rfl, _⟩ := h; rfl) | (obtain ⟨_, _, rfl, _⟩ := h; rfl) | (obtain ⟨_, _, _, rfl, _⟩ := h; rfl) | (obtain ⟨_, _, _, _, rfl, _⟩ := h; rfl) | (obtain ⟨_, _, _, _, _, rfl, _⟩ := h; rfl) | (obtain ⟨_, _, _, _, _, _, rfl, _⟩ := h; rfl) | (obtain ⟨_, _, _, _, _, _, _, rfl, _⟩ := h; rfl) | (obtain ⟨_, _, _, _, _, _, _, _, rfl, _⟩ := h; rfl) | (obtain ⟨_, _, _, _, _, _, _, _, _, rfl, _⟩ := h; rfl) | (obtain ⟨_, _, _, _, _, _, _, _, _, _, rfl, _⟩ := h; rfl) | (obtain ⟨_, _, _, _, _, _, _, _, _, _, _, rfl, _⟩ := h; rfl) | (obtain ⟨_, _, _, _, _, _, _, _, _, _, _, _, rfl, _⟩ := h; rfl) | (obtain ⟨_, _, _, _, _, _, _, _, _, _, _, _, _, rfl, _⟩ := h; rfl) | (obtain ⟨rfl, _⟩ := h; rfl)
  · refine ⟨_, (pss_cons (ps_set (i := 1) sc_counts_up_to.nd rfl (Or.inl rfl) (pe_lst pa_nil))
        (pss_cons (ps_set (i := 2) sc_counts_up_to.nd rfl (Or.inl rfl) pe_int)
        (pss_cons (ps_for PassesOwn.never rfl (pi_range1 (by rfl) T.n_range (pa_cons pe_int pa_nil)) (pg_name (i := 3) sc_counts_up_to.nd rfl (Or.inl rfl)) (pss_cons (ps_aug (i := 2) sc_counts_up_to.nd rfl (Or.inl rfl) (pe_bm PySem.F.plainAttrs_list PySem.F.slot_list_count PySem.F.type_list_count mt_lcount (pv 0) (pa_cons (pv 3) pa_nil)) ip_add)
        (pss_one (ps_expr (pe_bm PySem.F.plainAttrs_list PySem.F.slot_list_append PySem.F.type_list_append mt_append (pv 1) (pa_cons (pv 2) pa_nil))))))
        (pss_one (ps_ret (pv 1)))))), ?_⟩
    obtain ⟨a, c, rfl, hA, k⟩ := h
    have hA2 : H a = some (.lst ((c.map fun n : Nat => (n : Int)).map V.int)) := by rw [hA, nV_map]
    refine ⟨by decide, fun l nl => ?_⟩
    refine ⟨_, rfl, by decide, by decide, ?_⟩
    refine for_it (walk_range (lo := 0) (n := 256)) (fun i σ H' => ∃ v, σ = [some (.ref a), some (.ref l), some (nV (below c i)), v] ∧ Same H H' ∧ H' l = some (.lst ((List.range i).map fun v => nV (upto c v))))
      ⟨none, by rw [below_zero]; rfl, same_new nl, upd_same⟩ (fun _ _ _ _ _ => trivial) ?_ ?_
    · rintro i v0 σ H1' H1 hi ⟨v, rfl, s1, e1⟩ ⟨rfl, hv⟩
      obtain rfl := rng_item hv
      refine ⟨_, rfl, _, rfl, .inl ⟨rfl, _, SqL.of (s1 _ _ hA)⟩, _, rfl, a, _, _, rfl, rfl, SqL.of (s1 _ _ hA2), _, _, rfl, rfl, ?_⟩
      refine ⟨_, rfl, .inl ⟨rfl, _, SqL.of e1⟩, _, rfl, l, _, _, rfl, rfl, e1, by rw [List.length_map, List.length_range]; exact Nat.lt_trans hi (by decide), ?_⟩
      rw [count_cast]
      have e2 : V.int ((below c i : Int) + ((c.count i : Nat) : Int)) = nV (below c (i + 1)) := by
        rw [below_more]
        exact congrArg V.int (Int.natCast_add _ _).symm
      refine ⟨some (.int (i : Int)), ?_, same_upd s1 nl, ?_⟩
      · rw [← e2]
        rfl
      · rw [range_map_more, upto_below c i, ← e2]
        exact upd_same
    · rintro σ H1 ⟨v, rfl, s1, e1⟩
      exact ⟨_, rfl, k H1 l s1 nl e1⟩
def sp_made_even (_ : PySem.W.Frag) (_ : Adr) : Sp := fun vs H Q _ => ∃ (a : Addr) (c : List Nat), vs = [.ref a] ∧ H a = some (.lst (c.map nV)) ∧ c ≠ [] ∧ c.length ≤ 256 ∧ (∀ x ∈ c, x ≤ 255) ∧
  ∀ H' q, Same H H' → H q = none → H' q = some (.lst ((evenL c).map nV)) → Q (.ref q) H'
abbrev s_made_even : Stmt := top 15
abbrev n_made_even : List Str := ["colours", "pixels", "least", "up_to", "colour"]
abbrev p_made_even : List Str := ["colours"]
theorem sc_made_even : FnScope n_made_even p_made_even (defScope s_made_even) := ⟨rfl, rfl, rfl, by decide +kernel, rfl, by decide +kernel, by decide +kernel⟩
theorem ok_made_even (T : Txt K mg Z) (c_counts_up_to : Okd P w K mg base "counts_up_to" p_counts_up_to 1 (sp_counts_up_to K Z)) (c_rounded : Okd P w K mg base "rounded" p_rounded 1 (sp_rounded K Z)) (D : Dn K mg "made_even" s_made_even p_made_even) : Okd P w K mg base "made_even" p_made_even 2 (sp_made_even K Z) := by
  obtain ⟨f, fd, D1, D2, D3⟩ := D
  obtain ⟨a_counts_up_to, d_counts_up_to, m_counts_up_to, kp_counts_up_to, b_counts_up_to, F_counts_up_to⟩ := c_counts_up_to
  obtain ⟨a_rounded, d_rounded, m_rounded, kp_rounded, b_rounded, F_rounded⟩ := c_rounded
  refine ⟨f, fd, D2, D1.kp, D3, D1.ok sc_made_even (fun vs H Q E h => ?_) (fun cdv A outer s H vs Q E hr h => ?_)⟩
  · first | (obtain ⟨_, rfl, _⟩ := h; rfl) | (obtain ⟨_, _, rfl, _⟩ := h; rfl) | (obtain ⟨_, _, _, rfl, _⟩ := h; rfl) | (obtain ⟨_, _, _, _, rfl, _⟩ := h; rfl) | (obtain ⟨_, _, _, _, _, rfl, _⟩ := h; rfl) | (obtain ⟨_, _, _, _, _, _, rfl, _⟩ := h; rfl) | (obtain ⟨_, _, _, _, _, _, _, rfl, _⟩ := h; rfl) | (obtain ⟨_, _, _, _, _, _, _, _, rfl, _⟩ := h; rfl) | (obtain ⟨_, _, _, _, _, _, _, _, _, rfl, _⟩ := h; rfl) | (obtain ⟨_, _, _, _, _, _, _, _, _, _, rfl, _⟩ := h; rfl) | (obtain ⟨_, _, _, _, _, _, _, _, _, _, _, rfl, _⟩ := h; rfl) | (obtain ⟨_, _, _, _, _, _, _, _, _, _, _, _, rfl, _⟩ := h; rfl) | (obtain ⟨_, _, _, _, _, _, _, _, _, _, _, _, _, rfl, _⟩ := h; rfl) | (obtain ⟨rfl, _⟩ := h; rfl)
  · refine ⟨_, (pss_cons (ps_set (i := 1) sc_made_even.nd rfl (Or.inr rfl) (pe_callB call_len_seq (by rfl) T.n_len (by decide +kernel) (pa_cons (pv 0) pa_nil)))
        (pss_cons (ps_set (i := 2) sc_made_even.nd rfl (Or.inr rfl) (pe_bm PySem.F.plainAttrs_list PySem.F.slot_list_count PySem.F.type_list_count mt_lcount (pv 0) (pa_cons (pe_callB (cr_min rfl) (by rfl) T.n_min (by decide +kernel) (pa_cons (pv 0) pa_nil)) pa_nil)))
        (pss_cons (ps_if (pt_cmpR op_eq (pv 1) (pv 2) (nomark _)) (pss_one (ps_ret (pe_callTy call_list_of (by rfl) T.n_list (by decide +kernel) (pa_cons (pv 0) pa_nil)))) pss_nil)
        (pss_cons (ps_set (i := 3) sc_made_even.nd rfl (Or.inr rfl) (pe_call F_counts_up_to (hr.mono (by decide)) (by rfl) m_counts_up_to kp_counts_up_to b_counts_up_to .nil pass0 (pa_cons (pv 0) pa_nil)))
        (pss_one (ps_ret (pe_lc (own := [("colour", 4)]) (g := gName 4) (tt := tYes) rfl sc_made_even.nd (pi_list (pv 0)) (blkOk_by (N := n_made_even) (sc := defScope s_made_even) (by decide +kernel)) (fun _ _ _ _ _ => (pg_name (i := 4) sc_made_even.nd rfl (Or.inl rfl))) (fun _ _ _ _ _ => pts_nil) (fun _ _ _ _ _ => (pe_call F_rounded (hr.mono (by decide)) (by rfl) m_rounded kp_rounded b_rounded .nil pass0 (pa_cons (pe_op op_mul pe_int (pe_op op_sub (pe_ix (show IxR _ (rIxL K) from ix_list) (pv 3) (pv 4) (fun _ _ => rfl)) (pv 2))) (pa_cons (pe_op op_sub (pv 1) (pv 2)) pa_nil))))))))))), ?_⟩
    obtain ⟨a, c, rfl, hA, hne, hl, hle, k⟩ := h
    have hA2 : H a = some (.lst ((c.map fun n : Nat => (n : Int)).map V.int)) := by rw [hA, nV_map]
    refine ⟨_, rfl, a, _, rfl, .inl (SqL.of hA), ?_⟩
    refine ⟨_, rfl, .inl ⟨rfl, _, SqL.of hA⟩, _, rfl, a, _, rfl, SqL.of hA2, ?_, fun m hm hmin => ⟨a, _, _, rfl, rfl, SqL.of hA2, ?_⟩⟩
    · rw [List.length_map]
      exact List.length_pos_iff.mpr hne
    obtain ⟨lo, hlo, rfl⟩ := List.mem_map.mp hm
    have hmin2 : ∀ x ∈ c, lo ≤ x := fun x hx => by
      have := hmin (x : Int) (List.mem_map.mpr ⟨x, hx, rfl⟩)
      omega
    rw [count_cast, count_min hmin2]
    have eE : evenL c = c.map (evenC c (upto c lo)) := by
      unfold evenL
      rw [min_get hlo hmin2]
    have hup := upto_le c lo
    refine ⟨_, rfl, _, rfl, rfl, _, rfl, ifEq (fun e => ?_) (fun e => ?_)⟩
    · rw [List.length_map] at e
      refine ⟨_, rfl, a, _, rfl, .inl (SqL.of hA), fun q nq => ?_⟩
      refine k _ q (same_new nq) nq ?_
      rw [upd_same, eE]
      have e2 : evenC c (upto c lo) = id := by
        funext v
        unfold evenC
        rw [if_pos (by omega)]
        rfl
      rw [e2, List.map_id]
    rw [List.length_map] at e
    refine ⟨_, rfl, a, c, rfl, hA, fun H1 u s1 nu eu => ?_⟩
    refine ⟨_, rfl, a, rfl, ⟨_, SqL.of (s1 _ _ hA)⟩, fun D hD => ?_⟩
    refine lc_w (walk_list (xs := c.map nV)) (fun i => (c[i]?).map fun v => nV (evenC c (upto c lo) v)) hD (by rw [List.length_map]; exact Nat.le_trans hl (by decide)) (fun H2 s2 => SqL.of (s2 _ _ (s1 _ _ hA))) ?_ ?_
    · rintro i x H2' H2 hi s2 ⟨rfl, hx⟩ R hR
      obtain ⟨v, hv, rfl⟩ := at_map hx
      rw [hv] at hR
      have hvc : v ∈ c := List.mem_of_getElem? hv
      have h255 := hle v hvc
      have hmono := upto_mono c (hmin2 v hvc)
      have hup2 := upto_le c v
      have eix : ((List.range 256).map fun v => nV (upto c v))[v]? = some (nV (upto c v)) := by
        rw [List.getElem?_map, List.getElem?_range (by omega)]
        rfl
      refine ⟨rfl, _, rfl, _, rfl, u, _, _, _, rfl, rfl, SqL.of (s2 _ _ eu), atI_nat eix, _, rfl, _, _, rfl, rfl, _, _, rfl, rfl, .inl ⟨by decide, by decide⟩, _, rfl, _, rfl, _, _, rfl, rfl, 255 * ((upto c v : Int) - (upto c lo : Nat)), c.length - upto c lo, ?_, by omega, by omega, ?_⟩
      · rw [List.length_map, Int.natCast_sub hup]
        rfl
      · have e3 : nV (evenC c (upto c lo) v) = .int (Sq45.rounded (255 * ((upto c v : Int) - (upto c lo : Nat))) (c.length - upto c lo)) := by
          unfold evenC nV
          rw [if_neg (by omega)]
          refine congrArg V.int (Int.toNat_of_nonneg ?_)
          unfold Sq45.rounded
          exact Int.ediv_nonneg (by omega) (by omega)
        have := hR H2 (Same.refl _)
        rw [Option.map_some, e3] at this
        exact this
    · intro H2 s2 e2
      refine k H2 D (s1.trans s2) (s1.free hD) ?_
      rw [e2, List.length_map, range_at, eE, List.map_map]
      rfl
end
end Tw

set_option Elab.async false
set_option linter.all false
set_option maxRecDepth 100000
set_option maxHeartbeats 2000000
namespace Tw
open PySem PySem.Spec PyProof.Rows L2
section
variable {P : Program} {w : World} {K : PySem.W.Frag} {mg : Str → Option Value} {base : Heap} {Z : Adr}
def sp_how_far_apart (_ : PySem.W.Frag) (_ : Adr) : Sp := fun vs H Q _ => ∃ (a : Addr) (c : List Nat) (v : Nat), vs = [.ref a, .int (v : Int)] ∧ H a = some (.lst (c.map nV)) ∧ c.length ≤ 256 ∧ (∀ x ∈ c, x ≤ 255) ∧
  ∀ H' q, Same H H' → H q = none → H' q = some (.tup [nV (partedL c v).1, nV (partedL c v).2]) → Q (.ref q) H'
theorem filt_range (c : List Nat) (q : Nat → Bool) : (List.range (c.map nV).length).filterMap (fun i => (c[i]?).bind fun v => if q v = true then some (nV v) else none) = ((c.filter q).map fun n : Nat => (n : Int)).map V.int := by
  rw [List.length_map, range_bind, ← nV_map]
  induction c with
  | nil => rfl
  | cons a c ih =>
    rw [List.filterMap_cons, List.filter_cons]
    by_cases h : q a = true
    · rw [if_pos h, if_pos h, List.map_cons, ih]
    · rw [if_neg h, if_neg h, ih]
abbrev s_how_far_apart : Stmt := top 32
abbrev n_how_far_apart : List Str := ["colours", "v", "dark", "light", "difference", "colour"]
abbrev p_how_far_apart : List Str := ["colours", "v"]
theorem sc_how_far_apart : FnScope n_how_far_apart p_how_far_apart (defScope s_how_far_apart) := ⟨rfl, rfl, rfl, by decide +kernel, rfl, by decide +kernel, by decide +kernel⟩
theorem ok_how_far_apart (T : Txt K mg Z) (D : Dn K mg "how_far_apart" s_how_far_apart p_how_far_apart) : Okd P w K mg base "how_far_apart" p_how_far_apart 1 (sp_how_far_apart K Z) := by
  obtain ⟨f, fd, D1, D2, D3⟩ := D
  refine ⟨f, fd, D2, D1.kp, D3, D1.ok sc_how_far_apart (fun vs H Q E h => ?_) (fun cdv A outer s H vs Q E hr h => ?_)⟩
  · first | (obtain ⟨_, rfl, _⟩ := h; rfl) | (obtain ⟨_, _, rfl, _⟩ := h; rfl) | (obtain ⟨_, _, _, rfl, _⟩ := h; rfl) | (obtain ⟨_, _, _, _, rfl, _⟩ := h; rfl) | (obtain ⟨_, _, _, _, _, rfl, _⟩ := h; rfl) | (obtain ⟨_, _, _, _, _, _, rfl, _⟩ := h; rfl) | (obtain ⟨_, _, _, _, _, _, _, rfl, _⟩ := h; rfl) | (obtain ⟨_, _, _, _, _, _, _, _, rfl, _⟩ := h; rfl) | (obtain ⟨_, _, _, _, _, _, _, _, _, rfl, _⟩ := h; rfl) | (obtain ⟨_, _, _, _, _, _, _, _, _, _, rfl, _⟩ := h; rfl) | (obtain ⟨_, _, _, _, _, _, _, _, _, _, _, rfl, _⟩ := h; rfl) | (obtain ⟨_, _, _, _, _, _, _, _, _, _, _, _, rfl, _⟩ := h; rfl) | (obtain ⟨_, _, _, _, _, _, _, _, _, _, _, _, _, rfl, _⟩ := h; rfl) | (obtain ⟨rfl, _⟩ := h; rfl)
  · refine ⟨_, (pss_cons (ps_setLc (i := 2) (own := [("colour", 5)]) (g := gName 5) rfl sc_how_far_apart.nd rfl rfl (sw_true rfl rfl rfl (by decide +kernel)) (pi_list (pv 0)) (blkOk_by (N := n_how_far_apart) (sc := defScope s_how_far_apart) (by decide +kernel)) (fun _ _ _ _ _ => (pg_name (i := 5) sc_how_far_apart.nd rfl (Or.inl rfl))) (fun _ _ _ _ _ => (pts_one (pt_cmpR op_le (pv 5) (pv 1) (nomark _)))) (fun _ _ _ _ _ => (pv 5)))
        (pss_cons (ps_setLc (i := 3) (own := [("colour", 5)]) (g := gName 5) rfl sc_how_far_apart.nd rfl rfl (sw_true rfl rfl rfl (by decide +kernel)) (pi_list (pv 0)) (blkOk_by (N := n_how_far_apart) (sc := defScope s_how_far_apart) (by decide +kernel)) (fun _ _ _ _ _ => (pg_name (i := 5) sc_how_far_apart.nd rfl (Or.inl rfl))) (fun _ _ _ _ _ => (pts_one (pt_cmpR op_gt (pv 5) (pv 1) (nomark _)))) (fun _ _ _ _ _ => (pv 5)))
        (pss_cons (ps_if (PW.pt (pw_or (pt_cmpR op_eq (pe_callB call_len_seq (by rfl) T.n_len (by decide +kernel) (pa_cons (pv 2) pa_nil)) pe_int (nomark _)) (pw_or1 (pt_cmpR op_eq (pe_callB call_len_seq (by rfl) T.n_len (by decide +kernel) (pa_cons (pv 3) pa_nil)) pe_int (nomark _))))) (pss_one (ps_ret (pe_tup (pa_cons pe_int (pa_cons pe_int pa_nil))))) pss_nil)
        (pss_cons (ps_set (i := 4) sc_how_far_apart.nd rfl (Or.inl rfl) (pe_op op_sub (pe_op op_mul (pe_callB (cr_sum rfl) (by rfl) T.n_sum (by decide +kernel) (pa_cons (pv 2) pa_nil)) (pe_callB call_len_seq (by rfl) T.n_len (by decide +kernel) (pa_cons (pv 3) pa_nil))) (pe_op op_mul (pe_callB (cr_sum rfl) (by rfl) T.n_sum (by decide +kernel) (pa_cons (pv 3) pa_nil)) (pe_callB call_len_seq (by rfl) T.n_len (by decide +kernel) (pa_cons (pv 2) pa_nil)))))
        (pss_one (ps_ret (pe_tup (pa_cons (pe_op op_mul (pv 4) (pv 4)) (pa_cons (pe_op op_mul (pe_callB call_len_seq (by rfl) T.n_len (by decide +kernel) (pa_cons (pv 2) pa_nil)) (pe_callB call_len_seq (by rfl) T.n_len (by decide +kernel) (pa_cons (pv 3) pa_nil))) pa_nil))))))))), ?_⟩
    obtain ⟨a, c, v, rfl, hA, hl, hle, k⟩ := h
    have hsz : (c.map nV).length ≤ sizeLine := by rw [List.length_map]; exact Nat.le_trans hl (by decide)
    refine ⟨_, rfl, a, rfl, ⟨_, SqL.of hA⟩, fun D hD => ?_⟩
    refine lc_w (walk_list (xs := c.map nV)) (fun i => (c[i]?).bind fun x => if decide (x ≤ v) = true then some (nV x) else none) hD hsz (fun H1 s1 => SqL.of (s1 _ _ hA)) ?_ ?_
    · rintro i x H1' H1 hi s1 ⟨rfl, hx⟩ R hR
      obtain ⟨z, hz, rfl⟩ := at_map hx
      rw [hz] at hR
      have hR := hR H1 (Same.refl _)
      refine ⟨rfl, _, rfl, _, rfl, _, _, rfl, rfl, _, rfl, ifD (fun e => ?_) (fun e => ?_)⟩
      · rw [Option.bind_some, if_pos (by simp; omega)] at hR
        exact ⟨_, rfl, hR⟩
      · rw [Option.bind_some, if_neg (by simp; omega)] at hR
        exact hR
    intro H1 s1 e1
    rw [filt_range c fun x => decide (x ≤ v)] at e1
    refine ⟨_, rfl, a, rfl, ⟨_, SqL.of (s1 _ _ hA)⟩, fun L hL => ?_⟩
    refine lc_w (walk_list (xs := c.map nV)) (fun i => (c[i]?).bind fun x => if decide (v < x) = true then some (nV x) else none) hL hsz (fun H2 s2 => SqL.of (s2 _ _ (s1 _ _ hA))) ?_ ?_
    · rintro i x H2' H2 hi s2 ⟨rfl, hx⟩ R hR
      obtain ⟨z, hz, rfl⟩ := at_map hx
      rw [hz] at hR
      have hR := hR H2 (Same.refl _)
      refine ⟨rfl, _, rfl, _, rfl, _, _, rfl, rfl, _, rfl, ifD (fun e => ?_) (fun e => ?_)⟩
      · rw [Option.bind_some, if_pos (by simp; omega)] at hR
        exact ⟨_, rfl, hR⟩
      · rw [Option.bind_some, if_neg (by simp; omega)] at hR
        exact hR
    intro H2 s2 e2
    rw [filt_range c fun x => decide (v < x)] at e2
    have e1' := s2 _ _ e1
    have hs := s1.trans s2
    obtain ⟨b1, b2⟩ := filter_sum_le hl hle fun x => decide (x ≤ v)
    obtain ⟨b3, b4⟩ := filter_sum_le hl hle fun x => decide (v < x)
    have empty : ((c.filter fun x => decide (x ≤ v)) = [] ∨ (c.filter fun x => decide (v < x)) = []) → tRet (tTup (tCons (tC (V.int 0)) (tCons (tC (V.int 1)) tNil))) { nx := fun _ H' => Q .non H', rt := Q } [] H2 := by
      intro he
      refine ⟨by decide, fun q nq => k _ q (hs.trans (same_new nq)) (hs.free nq) ?_⟩
      rw [upd_same]
      have e : partedL c v = (0, 1) := by
        unfold partedL
        dsimp only
        rw [if_pos he]
      rw [e]
      rfl
    refine ⟨_, rfl, D, _, rfl, .inl (SqL.of e1'), rfl, _, rfl, ifEq (fun c1 => ?_) (fun c1 => ?_)⟩
    · rw [List.length_map, List.length_map] at c1
      exact empty (.inl (List.length_eq_zero_iff.mp (by omega)))
    refine ⟨_, rfl, L, _, rfl, .inl (SqL.of e2), rfl, _, rfl, ifEq (fun c2 => ?_) (fun c2 => ?_)⟩
    · rw [List.length_map, List.length_map] at c2
      exact empty (.inr (List.length_eq_zero_iff.mp (by omega)))
    rw [List.length_map, List.length_map] at c1 c2
    generalize hdk : (c.filter fun x => decide (x ≤ v)) = dk at *
    generalize hlt : (c.filter fun x => decide (v < x)) = lt at *
    have m1 := Nat.mul_le_mul b1 b4
    have m2 := Nat.mul_le_mul b3 b2
    refine ⟨_, rfl, D, _, rfl, SqL.of e1', _, rfl, L, _, rfl, .inl (SqL.of e2), _, _, rfl, rfl, .inl ⟨?_, ?_⟩, _, rfl, L, _, rfl, SqL.of e2, _, rfl, D, _, rfl, .inl (SqL.of e1'), _, _, rfl, rfl, .inl ⟨?_, ?_⟩, _, _, rfl, rfl, ?_⟩
    all_goals rw [sum_cast]
    · omega
    · omega
    · omega
    · omega
    rw [sum_cast, List.length_map, List.length_map, List.length_map, List.length_map, ← Int.natCast_mul, ← Int.natCast_mul]
    refine ⟨_, rfl, _, rfl, _, _, rfl, rfl, .inl ⟨by omega, by omega⟩, _, rfl, D, _, rfl, .inl (SqL.of e1'), _, rfl, L, _, rfl, .inl (SqL.of e2), _, _, rfl, rfl, .inl ⟨?_, ?_⟩, by show 2 ≤ sizeLine; decide, fun q nq => k _ q (hs.trans (same_new nq)) (hs.free nq) ?_⟩
    · rw [List.length_map, List.length_map]; omega
    · rw [List.length_map, List.length_map]; omega
    rw [upd_same]
    have e : partedL c v = (((dk.sum * lt.length - lt.sum * dk.length) + (lt.sum * dk.length - dk.sum * lt.length)) * ((dk.sum * lt.length - lt.sum * dk.length) + (lt.sum * dk.length - dk.sum * lt.length)), dk.length * lt.length) := by
      unfold partedL
      dsimp only
      rw [hdk, hlt, if_neg]
      rintro (h | h)
      · rw [h] at c1; exact c1 rfl
      · rw [h] at c2; exact c2 rfl
    rw [e]
    dsimp only
    rw [sq_dist, List.length_map, List.length_map, List.length_map, List.length_map, ← Int.natCast_mul]
    rfl
def sp_best_parting (_ : PySem.W.Frag) (_ : Adr) : Sp := fun vs H Q _ => ∃ (a : Addr) (c : List Nat), vs = [.ref a] ∧ H a = some (.lst (c.map nV)) ∧ c.length ≤ 256 ∧ (∀ x ∈ c, x ≤ 255) ∧
  ∀ H', Same H H' → Q (nV (partFold c 256).1) H'
abbrev s_best_parting : Stmt := top 33
abbrev n_best_parting : List Str := ["colours", "best", "furthest", "v", "apart"]
abbrev p_best_parting : List Str := ["colours"]
theorem sc_best_parting : FnScope n_best_parting p_best_parting (defScope s_best_parting) := ⟨rfl, rfl, rfl, by decide +kernel, rfl, by decide +kernel, by decide +kernel⟩
theorem ok_best_parting (T : Txt K mg Z) (c_how_far_apart : Okd P w K mg base "how_far_apart" p_how_far_apart 1 (sp_how_far_apart K Z)) (c_is_more : Okd P w K mg base "is_more" p_is_more 1 (sp_is_more K Z)) (D : Dn K mg "best_parting" s_best_parting p_best_parting) : Okd P w K mg base "best_parting" p_best_parting 2 (sp_best_parting K Z) := by
  obtain ⟨f, fd, D1, D2, D3⟩ := D
  obtain ⟨a_how_far_apart, d_how_far_apart, m_how_far_apart, kp_how_far_apart, b_how_far_apart, F_how_far_apart⟩ := c_how_far_apart
  obtain ⟨a_is_more, d_is_more, m_is_more, kp_is_more, b_is_more, F_is_more⟩ := c_is_more
  refine ⟨f, fd, D2, D1.kp, D3, D1.ok sc_best_parting (fun vs H Q E h => ?_) (fun cdv A outer s H vs Q E hr h => ?_)⟩
  · first | (obtain ⟨_, rfl, _⟩ := h; rfl) | (obtain ⟨_, _, rfl, _⟩ := h; rfl) | (obtain ⟨_, _, _, rfl, _⟩ := h; rfl) | (obtain ⟨_, _, _, _, rfl, _⟩ := h; rfl) | (obtain ⟨_, _, _, _, _, rfl, _⟩ := h; rfl) | (obtain ⟨_, _, _, _, _, _, rfl, _⟩ := h; rfl) | (obtain ⟨_, _, _, _, _, _, _, rfl, _⟩ := h; rfl) | (obtain ⟨_, _, _, _, _, _, _, _, rfl, _⟩ := h; rfl) | (obtain ⟨_, _, _, _, _, _, _, _, _, rfl, _⟩ := h; rfl) | (obtain ⟨_, _, _, _, _, _, _, _, _, _, rfl, _⟩ := h; rfl) | (obtain ⟨_, _, _, _, _, _, _, _, _, _, _, rfl, _⟩ := h; rfl) | (obtain ⟨_, _, _, _, _, _, _, _, _, _, _, _, rfl, _⟩ := h; rfl) | (obtain ⟨_, _, _, _, _, _, _, _, _, _, _, _, _, rfl, _⟩ := h; rfl) | (obtain ⟨rfl, _⟩ := h; rfl)
  · refine ⟨_, (pss_cons (ps_set (i := 1) sc_best_parting.nd rfl (Or.inl rfl) pe_int)
        (pss_cons (ps_set (i := 2) sc_best_parting.nd rfl (Or.inl rfl) (pe_call F_how_far_apart (hr.mono (by decide)) (by rfl) m_how_far_apart kp_how_far_apart b_how_far_apart .nil pass0 (pa_cons (pv 0) (pa_cons pe_int pa_nil))))
        (pss_cons (ps_for PassesOwn.never rfl (pi_range2 (by rfl) T.n_range (pa_cons pe_int (pa_cons pe_int pa_nil))) (pg_name (i := 3) sc_best_parting.nd rfl (Or.inl rfl)) (pss_cons (ps_set (i := 4) sc_best_parting.nd rfl (Or.inl rfl) (pe_call F_how_far_apart (hr.mono (by decide)) (by rfl) m_how_far_apart kp_how_far_apart b_how_far_apart .nil pass0 (pa_cons (pv 0) (pa_cons (pv 3) pa_nil))))
        (pss_one (ps_if (pt_val (pe_call F_is_more (hr.mono (by decide)) (by rfl) m_is_more kp_is_more b_is_more .nil pass0 (pa_cons (pv 4) (pa_cons (pv 2) pa_nil)))) (pss_cons (ps_set (i := 1) sc_best_parting.nd rfl (Or.inl rfl) (pv 3))
        (pss_one (ps_set (i := 2) sc_best_parting.nd rfl (Or.inl rfl) (pv 4)))) pss_nil))))
        (pss_one (ps_ret (pv 1)))))), ?_⟩
    obtain ⟨a, c, rfl, hA, hl, hle, k⟩ := h
    refine ⟨_, rfl, a, c, 0, rfl, hA, hl, hle, fun H1 t s1 nt et => ?_⟩
    refine ⟨_, _, rfl, ⟨by decide, by decide, by decide, by decide⟩, ?_⟩
    refine for_it (walk_range (lo := 1) (n := 255)) (fun i σ H' => ∃ t v1 v2, σ = [some (.ref a), some (nV (partFold c (i + 1)).1), some (.ref t), v1, v2] ∧ Same H H' ∧ H' t = some (.tup [nV (partFold c (i + 1)).2.1, nV (partFold c (i + 1)).2.2]))
      ⟨t, none, none, by rw [partFold_one]; rfl, s1, by rw [partFold_one]; exact et⟩ (fun _ _ _ _ _ => trivial) ?_ ?_
    · rintro i v0 σ H2' H2 hi ⟨t, v1, v2, rfl, s2, et⟩ ⟨rfl, hv⟩
      have ev : v0 = .int ((i + 1 : Nat) : Int) := by
        rw [hv]
        refine congrArg V.int ?_
        omega
      subst ev
      refine ⟨_, rfl, _, rfl, a, c, i + 1, rfl, s2 _ _ hA, hl, hle, fun H3 u s3 nu eu => ?_⟩
      obtain ⟨w, hw⟩ := partFold_lt hl hle (i + 1)
      refine ⟨_, rfl, _, rfl, u, t, partedL c (i + 1), (partFold c (i + 1)).2, rfl, eu, s3 _ _ et, partedL_lt hl hle _, by rw [hw]; exact partedL_lt hl hle _, _, rfl, ifD (fun e => ?_) (fun e => ?_)⟩
      · have ef : partFold c (i + 1 + 1) = (i + 1, partedL c (i + 1)) := by
          rw [partFold_more]
          exact if_pos e
        refine ⟨_, rfl, _, rfl, u, some (.int ((i + 1 : Nat) : Int)), some (.ref u), ?_, s2.trans s3, ?_⟩
        · rw [ef]
          rfl
        · rw [ef]
          exact eu
      · have ef : partFold c (i + 1 + 1) = partFold c (i + 1) := by
          rw [partFold_more]
          exact if_neg e
        refine ⟨t, some (.int ((i + 1 : Nat) : Int)), some (.ref u), ?_, s2.trans s3, ?_⟩
        · rw [ef]
          rfl
        · rw [ef]
          exact s3 _ _ et
    · rintro σ H2 ⟨t, v1, v2, rfl, s2, et⟩
      exact ⟨_, rfl, k H2 s2⟩
end
end Tw

set_option Elab.async false
set_option linter.all false
set_option maxRecDepth 100000
set_option maxHeartbeats 2000000
namespace Tw
open PySem PySem.Spec PyProof.Rows L2
/-! ### the desk -/
def deskF (pa qa : Addr) : List (Str × V) := [("picture", .ref pa), ("piece", .ref qa)]
theorem deskF_p (pa qa : Addr) : (deskF pa qa).lookup ("picture" : Str) = some (.ref pa) := lk_here
theorem deskF_q (pa qa : Addr) : (deskF pa qa).lookup ("piece" : Str) = some (.ref qa) := (lk_past (by decide +kernel)).trans lk_here
theorem deskF_putp (pa qa x : Addr) : putF "picture" (.ref x) (deskF pa qa) = deskF x qa := put_here
theorem deskF_putq (pa qa x : Addr) : putF "piece" (.ref x) (deskF pa qa) = deskF pa x := (put_past (by decide +kernel)).trans (congrArg _ put_here)
/-- a picture in the heap whose list isn't the one at t -/
def PicX (Z : Adr) (t : Addr) (H : Hp) (a : Addr) (p : Sq45.Picture) : Prop := ∃ dx ca, H a = some (.ins Z.Picture dx (picF p ca)) ∧ H ca = some (.lst (p.pixels.toList.map nV)) ∧ ca ≠ t
theorem PicX.pic {Z : Adr} {t : Addr} {H : Hp} {a : Addr} {p : Sq45.Picture} (h : PicX Z t H a p) : PicAt Z H a p := by
  obtain ⟨dx, ca, h1, h2, _⟩ := h
  exact ⟨dx, ca, h1, h2⟩
theorem PicAt.x {Z : Adr} {t : Addr} {H : Hp} {a : Addr} {p : Sq45.Picture} (h : PicAt Z H a p) (n : H t = none) : PicX Z t H a p := by
  obtain ⟨dx, ca, h1, h2⟩ := h
  exact ⟨dx, ca, h1, h2, ne_of_none h2 n⟩
theorem Same.picX {Z : Adr} {t : Addr} {H H' : Hp} {a : Addr} {p : Sq45.Picture} (s : Same H H') (h : PicX Z t H a p) : PicX Z t H' a p := by
  obtain ⟨dx, ca, h1, h2, h3⟩ := h
  exact ⟨dx, ca, s _ _ h1, s _ _ h2, h3⟩
def DeskAt (Z : Adr) (t : Addr) (H : Hp) (d : Addr) (P Q : Sq45.Picture) : Prop := ∃ dx pa qa, H d = some (.ins Z.Desk dx (deskF pa qa)) ∧ PicX Z t H pa P ∧ PicX Z t H qa Q
/-- the house at d; t: a list of the caller's own, apart from it -/
structure HouseAt (Z : Adr) (t : Addr) (H : Hp) (d : Addr) (g : Sq45.House) : Prop where
  at_ : DeskAt Z t H d g.p g.q
  p : PicOk g.p
  q : PicOk g.q
  nd : t ≠ d
  tr : ∃ o, H t = some o
theorem HouseAt.ne {Z : Adr} {t : Addr} {H : Hp} {d : Addr} {g : Sq45.House} (h : HouseAt Z t H d g) {b : Addr} (n : H b = none) : b ≠ t := by
  obtain ⟨o, e⟩ := h.tr
  exact (ne_of_none e n).symm
theorem Same.desk {Z : Adr} {t : Addr} {H H' : Hp} {d : Addr} {P Q : Sq45.Picture} (s : Same H H') (h : DeskAt Z t H d P Q) : DeskAt Z t H' d P Q := by
  obtain ⟨dx, pa, qa, h1, h2, h3⟩ := h
  exact ⟨dx, pa, qa, s _ _ h1, Same.picX s h2, Same.picX s h3⟩
theorem Same.house {Z : Adr} {t : Addr} {H H' : Hp} {d : Addr} {g : Sq45.House} (s : Same H H') (h : HouseAt Z t H d g) : HouseAt Z t H' d g := ⟨Same.desk s h.at_, h.p, h.q, h.nd, let ⟨o, e⟩ := h.tr; ⟨o, s _ _ e⟩⟩
theorem SameBut.tr {t d : Addr} {H H' : Hp} (s : SameBut d H H') (nd : t ≠ d) (h : ∃ o, H t = some o) : ∃ o, H' t = some o := let ⟨o, e⟩ := h; ⟨o, s _ _ e nd⟩
theorem ins_ne {Z : Adr} {H : Hp} {a d dx ex pa qa ca : Addr} {p : Sq45.Picture} {C : Addr} (h1 : H a = some (.ins Z.Picture dx (picF p ca))) (h2 : H d = some (.ins C ex (deskF pa qa))) : a ≠ d := by
  intro e
  subst e
  rw [h1] at h2
  injection h2 with h2
  injection h2 with _ _ h2
  injection h2 with h2 _
  injection h2 with h2 _
  exact absurd h2 (by decide +kernel)
theorem lst_ne {H : Hp} {a d dx C : Addr} {xs : List V} {fs : List (Str × V)} (h1 : H a = some (.lst xs)) (h2 : H d = some (.ins C dx fs)) : a ≠ d := by
  intro e
  subst e
  rw [h1] at h2
  cases h2
/-- a picture stands when the desk changes -/
theorem SameBut.pic {Z : Adr} {t : Addr} {H H' : Hp} {a d ex pa qa C : Addr} {p : Sq45.Picture} (s : SameBut d H H') (hd : H d = some (.ins C ex (deskF pa qa))) (h : PicX Z t H a p) : PicX Z t H' a p := by
  obtain ⟨dx, ca, h1, h2, h3⟩ := h
  exact ⟨dx, ca, s _ _ h1 (ins_ne h1 hd), s _ _ h2 (lst_ne h2 hd), h3⟩
theorem sameBut_made {d : Addr} {H H1 : Hp} (s : SameBut d H H1) {H2 : Hp} (s2 : Same H1 H2) : SameBut d H H2 := fun b o e n => s2 _ _ (s b o e n)
/-- what a call's handler promises: the house and the answer behind it -/
def HSp (Z : Adr) (t d : Addr) (H : Hp) (r : Sq45.House × Sq45.Out) (Q : VK) : Prop :=
  ∀ H' q, SameBut d H H' → H q = none → H' q = some (.lst ((r.2.value :: r.2.out).map V.int)) → HouseAt Z t H' d r.1 → Q (.ref q) H'
theorem none_ok : PicOk Sq45.none_ := ⟨by decide, by decide, by decide, by decide, by decide, by decide⟩
/-- the answer is one number and nothing has changed -/
theorem HSp.refused {Z : Adr} {t d : Addr} {H : Hp} {g : Sq45.House} {e : Int} {Q : VK} (k : HSp Z t d H (g, Sq45.says e) Q) (h : HouseAt Z t H d g) {H1 : Hp} (s : Same H H1) {q : Addr} (nq : H1 q = none) : Q (.ref q) (upd H1 q (.lst [.int e])) :=
  k _ q (Same.but (s.trans (same_new nq))) (s.free nq) upd_same (Same.house (s.trans (same_new nq)) h)
end Tw

set_option Elab.async false
set_option linter.all false
set_option maxRecDepth 100000
set_option maxHeartbeats 2000000
namespace Tw
open PySem PySem.Spec PyProof.Rows L2
/-! ### the specification's pictures by their lists -/
theorem rect_map {β : Type} (w : Nat) (f : Nat → β) : ∀ h : Nat, ((List.range h).flatMap fun y => (List.range w).map fun x => f (y * w + x)) = (List.range (h * w)).map f
  | 0 => by simp
  | h + 1 => by
    rw [List.range_succ, List.flatMap_append, rect_map w f h, Nat.add_mul, Nat.one_mul, List.range_add, List.map_append, List.map_map]
    congr 1
    simp [List.flatMap_cons, Function.comp_def]
theorem cells_map {β : Type} (p : Sq45.Picture) (f : Nat → Nat → β) : (p.cells.map fun c => f c.1 c.2) = (List.range p.h).flatMap fun y => (List.range p.w).map fun x => f x y := by
  unfold Sq45.Picture.cells
  rw [List.map_flatMap]
  congr 1
  funext y
  rw [List.map_map]
  rfl
theorem list_range (l : List Nat) : (List.range l.length).map (fun i => (l[i]?).getD 0) = l := by
  apply List.ext_getElem
  · simp
  · intro i h1 h2
    rw [List.getElem_map, List.getElem_range, List.getElem?_eq_getElem h2]
    rfl
theorem PicOk.all {p : Sq45.Picture} (o : PicOk p) : p.all = p.pixels.toList := by
  unfold Sq45.Picture.all
  rw [cells_map p fun x y => p.at_ x y]
  unfold Sq45.Picture.at_
  rw [rect_map p.w (fun i => (p.pixels[i]?).getD 0) p.h]
  have h := list_range p.pixels.toList
  rw [Array.length_toList, o.sz, Nat.mul_comm] at h
  rw [← h]
  apply List.map_congr_left
  intro i _
  rw [Array.getElem?_toList]
theorem cells_len (p : Sq45.Picture) : p.cells.length = p.w * p.h := by
  have h : ∀ n, ((List.range n).flatMap fun y => (List.range p.w).map fun x => (x, y)).length = n * p.w := by
    intro n
    induction n with
    | zero => simp
    | succ n ih => rw [List.range_succ, List.flatMap_append, List.length_append, ih, Nat.add_mul]; simp
  unfold Sq45.Picture.cells
  rw [h, Nat.mul_comm]
theorem cells_mem {p : Sq45.Picture} {c : Nat × Nat} (h : c ∈ p.cells) : c.1 < p.w ∧ c.2 < p.h := by
  unfold Sq45.Picture.cells at h
  obtain ⟨y, hy, h⟩ := List.mem_flatMap.mp h
  obtain ⟨x, hx, rfl⟩ := List.mem_map.mp h
  exact ⟨List.mem_range.mp hx, List.mem_range.mp hy⟩
theorem PicOk.with_ {p : Sq45.Picture} (o : PicOk p) {f : Nat → Nat → Nat} (hf : ∀ x y, x < p.w → y < p.h → f x y ≤ 255) : PicOk (p.with_ f) := by
  refine ⟨o.w1, o.w2, o.h1, o.h2, ?_, ?_⟩
  · show (p.cells.map fun c => f c.1 c.2).toArray.size = p.w * p.h
    rw [List.size_toArray, List.length_map, cells_len]
  · intro c hc
    have hc : c ∈ (p.cells.map fun c => f c.1 c.2).toArray.toList := hc
    rw [List.toList_toArray] at hc
    obtain ⟨z, hz, rfl⟩ := List.mem_map.mp hc
    obtain ⟨h1, h2⟩ := cells_mem hz
    exact hf _ _ h1 h2
theorem zip_map2 {α β γ : Type} (f : α → β) (g : α → γ) : ∀ l : List α, (l.map f).zip (l.map g) = l.map fun a => (f a, g a)
  | [] => rfl
  | a :: l => by rw [List.map_cons, List.map_cons, List.zip_cons_cons, zip_map2 f g l, List.map_cons]
theorem diffs_changed {p q : Sq45.Picture} (op : PicOk p) (oq : PicOk q) (hw : q.w = p.w) (hh : q.h = p.h) : ((p.pixels.toList.zip q.pixels.toList).filter fun z => z.1 != z.2).length = Sq45.changed p q := by
  rw [← op.all, ← oq.all]
  have e : q.cells = p.cells := by unfold Sq45.Picture.cells; rw [hw, hh]
  unfold Sq45.Picture.all Sq45.changed
  rw [e, zip_map2, List.filter_map, List.length_map]
  rfl
theorem PicOk.all_map {p : Sq45.Picture} (o : PicOk p) {β : Type} (F : Nat → β) : (p.cells.map fun c => F (p.at_ c.1 c.2)) = p.pixels.toList.map F := by
  rw [← o.all]
  unfold Sq45.Picture.all
  rw [List.map_map]
  rfl
/-- a row is a part of the list -/
theorem PicOk.row {p : Sq45.Picture} (o : PicOk p) {y : Nat} (hy : y < p.h) : ((List.range p.w).map fun x => p.at_ x y) = (p.pixels.toList.drop (y * p.w)).take p.w := by
  have hl : p.pixels.toList.length = p.w * p.h := by rw [Array.length_toList, o.sz]
  apply List.ext_getElem
  · rw [List.length_map, List.length_range, List.length_take, List.length_drop, hl]
    have : y * p.w + p.w ≤ p.w * p.h := by
      have := Nat.mul_le_mul_right p.w (show y + 1 ≤ p.h from hy)
      rw [Nat.add_mul, Nat.one_mul, Nat.mul_comm p.h] at this
      exact this
    omega
  · intro i h1 h2
    rw [List.length_map, List.length_range] at h1
    rw [List.getElem_map, List.getElem_range, List.getElem_take, List.getElem_drop]
    have e := o.at h1 hy
    rw [List.getElem?_eq_getElem (by rw [hl]; exact ix_lt h1 hy)] at e
    exact (Option.some.inj e).symm
theorem filter_count (v : Nat) : ∀ l : List Nat, (l.filter fun x => x == v).length = l.count v := fun l => by rw [List.count_eq_length_filter]
/-! ### a step, call by call -/
section
variable (g : Sq45.House)
theorem step_begin (w h : Nat) (l : List Nat) : g.step (.begin_ w h l) = (match Sq45.picture w h l with
    | .error e => (g, Sq45.says e)
    | .ok p => (⟨p, Sq45.none_⟩, Sq45.says 0)) := rfl
theorem step_piece (w h : Nat) (l : List Nat) : g.step (.piece w h l) = (match Sq45.picture w h l with
    | .error e => (g, Sq45.says e)
    | .ok q => ({ g with q := q }, Sq45.says 0)) := rfl
theorem step_mean (s r : Nat) : g.step (.mean s r) = if 3 < s ∨ 4 < r then (g, Sq45.says (-1)) else g.to (g.p.with_ fun x y => Sq45.mean (g.p.window s r x y)) := rfl
theorem step_rank (s r p q : Nat) : g.step (.rank s r p q) = if 3 < s ∨ 4 < r ∨ q = 0 ∨ q < p then (g, Sq45.says (-1)) else g.to (g.p.with_ fun x y => Sq45.ranked p q (g.p.window s r x y)) := rfl
theorem step_weigh (s d a b : Nat) (l m : List Nat) : g.step (.weigh s d a b l m) = (match Sq45.reach l.length with
    | none => (g, Sq45.says (-3))
    | some r => if l.length ≠ m.length then (g, Sq45.says (-3)) else if 3 < s ∨ d = 0 ∨ 1000 < d ∨ 1000 < a ∨ 1000 < b ∨ ((l ++ m).any fun z => decide (1000 < z)) = true then (g, Sq45.says (-1)) else
      g.to (g.p.with_ fun x y => g.p.weighed s r (Sq45.weights l m) d ((a : Int) - b) x y)) := rfl
theorem step_even : g.step .even = g.to g.p.even := rfl
theorem step_parting : g.step .parting = (g, ⟨g.p.parting, Sq45.ints [(g.p.parted g.p.parting).1, (g.p.parted g.p.parting).2]⟩) := rfl
theorem step_part (v : Nat) : g.step (.part v) = if Sq45.TOP < v then (g, Sq45.says (-1)) else g.to (g.p.with_ fun x y => if g.p.at_ x y ≤ v then 0 else Sq45.TOP) := rfl
theorem step_find : g.step .find = (match g.p.best g.q with
    | none => (g, Sq45.says (-3))
    | some x => (g, ⟨x.2, Sq45.ints [x.1.1, x.1.2]⟩)) := rfl
theorem step_spread : g.step .spread = (g, ⟨((List.range 256).filterMap fun v => if (g.p.all.filter fun x => x == v).length = 0 then none else some (v, (g.p.all.filter fun x => x == v).length)).length,
    Sq45.ints (((List.range 256).filterMap fun v => if (g.p.all.filter fun x => x == v).length = 0 then none else some (v, (g.p.all.filter fun x => x == v).length)).flatMap fun x => [x.1, x.2])⟩) := rfl
/-- one shift more: the best so far -/
def bestS (m : Option ((Int × Int) × (Nat × Nat))) (x : (Int × Int) × (Nat × Nat)) : Option ((Int × Int) × (Nat × Nat)) := match m with
  | none => some x
  | some y => if x.2.1 * y.2.2 < y.2.1 * x.2.2 then some x else some y
theorem step_shift (r : Nat) : g.step (.shift r) = if 8 < r then (g, Sq45.says (-1)) else
    (match ((Sq45.shifts r).filterMap fun s => if (g.p.shifted g.q s.1 s.2).2 = 0 then none else some (s, g.p.shifted g.q s.1 s.2)).foldl bestS none with
    | none => (g, Sq45.says (-3))
    | some x => (g, ⟨0, [x.1.1, x.1.2, (x.2.1 : Int), (x.2.2 : Int)]⟩)) := rfl
/-- one place more -/
def bestP (m : Option ((Nat × Nat) × Nat)) (x : (Nat × Nat) × Nat) : Option ((Nat × Nat) × Nat) := match m with
  | none => some x
  | some y => if x.2 < y.2 then some x else some y
theorem best_is (p q : Sq45.Picture) : p.best q = ((p.places q).map fun c => (c, p.misfit q c.1 c.2)).foldl bestP none := rfl
theorem step_row (y : Nat) : g.step (.row y) = if g.p.h ≤ y then (g, Sq45.says (-1)) else (g, ⟨g.p.w, Sq45.ints ((List.range g.p.w).map fun x => g.p.at_ x y)⟩) := rfl
theorem step_cut (x y w h : Nat) : g.step (.cut x y w h) = if w = 0 ∨ h = 0 ∨ g.p.w < x + w ∨ g.p.h < y + h then (g, Sq45.says (-1)) else
    ({ g with q := ⟨w, h, (((List.range h).flatMap fun j => (List.range w).map fun i => g.p.at_ (x + i) (y + j))).toArray⟩ }, Sq45.says (w * h : Nat)) := rfl
end
end Tw

set_option Elab.async false
set_option linter.all false
set_option maxRecDepth 100000
set_option maxHeartbeats 4000000
namespace Tw
open PySem PySem.Spec PyProof.Rows L2
/-! ### set(xs) of a list of ints, and sorted of such a set: any number of them -/
/-- a new set as the model lays it -/
abbrev set0 (w : World) : Obj := { cls := .type "set", dict := none, data := .set #[] 0 (.fresh 0 0 (!w.params.followText "set-order")) }
section
variable {w : World} {P : Program} {s : Shared} {A : Around} {E : Value → Shared → Prop}
theorem int_item {items : Array Value} {ns : List Int} (hi : IntsAre items.toList ns) (hz : items.size = ns.length) (i : Nat) (v : Value) (hv : items[i]? = some v) : ∃ k t, ns[i]? = some k ∧ v = .int k t := by
  have h1 : i < items.size := (Array.getElem?_eq_some_iff.mp hv).1
  have h2 : i < ns.length := by omega
  obtain ⟨t, e⟩ := IntsAre.int_at hi i v ((Array.getElem?_toList).trans hv)
  rw [List.getD_eq_getElem?_getD, List.getElem?_eq_getElem h2] at e
  exact ⟨_, t, List.getElem?_eq_getElem h2, e⟩
/-- what is left when a new set was filled from a list -/
def Filled (w : World) (s : Shared) (ns : List Int) (s2 : Shared) : Prop := ∃ h' tk c, s2 = { s with heap := h', toks := tk } ∧ SetR w h' s.heap.objs.size (fun j => decide (j ∈ ns)) c ∧ c ≤ ns.length ∧ ∀ b o, s.heap.get? b = some o → h'.get? b = some o
/-- the loop over the list's iterator fills the set -/
theorem fill_loop {l : Addr} {items : Array Value} {ns : List Int} {R : Result → Shared → Prop} (hh : A.in1.handled = none) (hl : s.heap.IsList l items) (hi : IntsAre items.toList ns) (hb : ns.length + 1 < scanBound) (k : ∀ s2, Filled w s ns s2 → R (.ok (.ret .none)) s2) :
    codeAny (model P w) A (.builtin "set.update.loop" ⟨[.ref s.heap.objs.size, .ref (s.heap.push (set0 w)).objs.size], []⟩) R
      { s with heap := (s.heap.push (set0 w)).push { cls := .type "list_iterator", data := .fields #[.ref l, .int 0 0] } } := by
  have hz : items.size = ns.length := by rw [← Array.length_toList]; exact IntsAre.length hi
  have hlt : l < s.heap.objs.size := by
    obtain ⟨o, ho, _⟩ := hl
    exact Heap.lt_size ho
  have e1 : (s.heap.push (set0 w)).objs.size = s.heap.objs.size + 1 := Heap.size_push ..
  have n1 : l ≠ (s.heap.push (set0 w)).objs.size := by rw [e1]; exact Nat.ne_of_lt (Nat.lt_succ_of_lt hlt)
  have n2 : s.heap.objs.size ∉ [(s.heap.push (set0 w)).objs.size, l] := by
    intro z
    rcases List.mem_cons.mp z with z | z
    · exact absurd z (by rw [e1]; exact Nat.ne_of_lt (Nat.lt_succ_self _))
    · exact absurd (List.mem_singleton.mp z) (Nat.ne_of_gt hlt)
  refine set_update_ints ((Walks.list hh _ l n1 items).toS) s.heap.objs.size n2 ns hz hb (int_item hi hz) (items.size - 0) 0 _ rfl (Nat.zero_le _) ⟨⟨_, Heap.get?_push_size _ rfl, rfl, rfl⟩, ((hl.push _).push _)⟩
    ⟨0, Nat.le_refl _, setR_new_at (Heap.get?_push_of_some _ (Heap.get?_push_size _ rfl))⟩ ?_
  rintro ⟨h', g, d, tk, os⟩ c hm hc hS
  have eg : g = s.gens := hm.gens
  have ed : d = s.drawn := hm.drawn
  have eo : os = s.os := hm.os
  subst eg ed eo
  refine k _ ⟨h', tk, c, rfl, hS, by omega, fun b o e => ?_⟩
  have hlb := Heap.lt_size e
  refine hm.heap b o ?_ (Heap.get?_push_of_some _ (Heap.get?_push_of_some _ e))
  intro z
  rcases List.mem_cons.mp z with z | z
  · exact Nat.ne_of_lt hlb z
  · exact absurd (List.mem_singleton.mp z) (by rw [e1]; exact Nat.ne_of_lt (Nat.lt_succ_of_lt hlb))
theorem set_of_ints {l : Addr} {items : Array Value} {ns : List Int} {Q : Value → Shared → Prop} (hh : A.handled = none) (hl : s.heap.IsList l items) (hi : IntsAre items.toList ns) (hb : ns.length + 1 < scanBound) (k : ∀ s2, Filled w s ns s2 → Q (.ref s.heap.objs.size) s2) : wpAny (model P w) A (call (.type "set") [.ref l]) Q E s := by
  obtain ⟨c0, r0, mro⟩ := F.called_set.mro
  have f1 := F.called_set.made
  have f2 := F.called_set.sub
  have f3 := F.called_set.notType
  have f4 := F.called_set.canCreate
  have f5 := F.typeCall_set_1 (.ref l)
  refine wpAny_call (codeAny_of_tree ?_); show wpAny _ _ (callAny (.type "set") _) _ _ _
  refine wpAny_pure ⟨Code.quiet_builtin _ (by decide +kernel), codeAny_builtin F.entry_type_call ?_⟩; rw [Around.under_plain (weight_type_call_type "set" [.ref l] []) rfl]; repeat (any_goals first | assumption | wp_step)
  refine codeAny_mono (code_set_led1 (.ref l) (E := E) (Q₁ := fun x t => x = .ref s.heap.objs.size ∧ t = { s with heap := s.heap.push (set0 w) }) ⟨rfl, rfl⟩) fun r t hr => ?_
  match r, hr with
  | .error e, hr => exact hr
  | .ok (.ret x), ⟨ex, et⟩ =>
    subst ex et
    have g0 : (s.heap.push (set0 w)).get? s.heap.objs.size = some (set0 w) := Heap.get?_push_size _ rfl
    have ty : Shared.TypeIs { s with heap := s.heap.push (set0 w) } (.ref s.heap.objs.size) "set" := ⟨_, g0, rfl⟩
    have f6 := F.called_set.init.lookup
    have f7 := F.called_set.init.bind (.ref s.heap.objs.size)
    repeat (any_goals first | assumption | wp_step)
    refine codeAny_mono (codeAny_call_builtin (R := wants (fun r s2 => r = .none ∧ Filled w s ns s2) E) F.called_set.init.plain F.entry_set_init (check_set_init_1 ty ?_)) fun r2 s2 hr2 => ?_
    · obtain ⟨⟨cl, od, da, sl⟩, ho, hc, n0, hd⟩ := id hl
      simp only at hc hd
      subst hc hd
      have g1 := Heap.get?_push_of_some (set0 w) ho
      have hl1 : (s.heap.push (set0 w)).IsList l items := ⟨_, g1, rfl, n0, rfl⟩
      have b1 := F.sub_list_set
      have b2 := F.sub_list_frozenset
      have b3 : (Value.type "list" == Value.type "dict") = false := by decide
      unfold Builtin.«set.__init__» Builtin.Frozenset.updateFrom noKeywords
      generalize hI : pyIter = it
      wp_walk
      subst hI
      refine wpAny_pyIter_list hl1 (wpAny_bind (wpAny_runValue (fill_loop (by simp [hh]) hl hi hb fun s3 h3 => ?_)))
      show wpAny _ _ _ _ _ _
      refine wpAny_pure ?_; show wpAny _ _ (ret Value.none) _ _ _
      exact wpAny_pure ⟨rfl, h3⟩
    · match r2, hr2 with
      | .error e, hr2 => exact hr2
      | .ok (.ret x), ⟨ex, h3⟩ =>
        subst ex
        repeat (any_goals first | assumption | wp_step)
        exact k _ h3
      | .ok (.next), hr2 => exact hr2.elim
  | .ok (.next), hr => exact hr.elim
end
end Tw

set_option Elab.async false
set_option linter.all false
set_option maxRecDepth 100000
set_option maxHeartbeats 4000000
namespace Tw
open PySem PySem.Spec PyProof.Rows L2
section
variable {w : World} {P : Program} {s : Shared} {A : Around} {E : Value → Shared → Prop}
theorem sorted_setI {a : Addr} {S : Int → Bool} {n : Nat} {Q : Value → Shared → Prop} (R : SetR w s.heap a S n) (hh : A.handled = none) (hn : n ≤ 1000)
    (k : ∀ s2 p (out : List Value) (c : Nat) (ns : List Int), (∀ b o, s.heap.get? b = some o → s2.heap.get? b = some o) → s2.gens = s.gens → s2.os = s.os → s.heap.objs.size ≤ p →
      s2.heap.get? p = some (seqObj "list" out.toArray c) → IntsAre out ns → ns.Pairwise (· < ·) → (∀ j, j ∈ ns ↔ S j = true) → ns.length = n → Q (.ref p) s2) : wpAny (model P w) A (call (.builtin "sorted") [.ref a]) Q E s := by
  obtain ⟨o, es, ep, t, ho, hex, hd, g, nd, hm, hb, hf, ez, hr, hl⟩ := R
  refine Calls.call_function_entry kind_sorted plain_sorted entry_sorted (args_sorted1 _) ?_; unfold Builtin.«sorted»
  refine wpAny_bind (m := checkCount "sorted" 1 1 _) (wpAny_pure (wpAny_bind (collect_set (A := A.in1) hh ⟨o, ho, hex.1, hd⟩ hf hb hr hl fun s1 vs k1 hz g1 o1 pm => ?_)))
  have hvl : vs.length = n := by rw [pm.length_eq, List.length_map, Array.length_toList, ez]
  have hv : ∀ v ∈ vs, ∃ i t, v = Value.int i t := by
    intro v hv
    obtain ⟨e, he, rfl⟩ := List.mem_map.mp (pm.mem_iff.mp hv)
    obtain ⟨i, t, e1, _⟩ := g e he
    exact ⟨i, t, e1⟩
  have hI := SrtO.ints_iv hv
  have pk : (vs.map SrtO.iv).Perm (es.toList.map keyOf) := by
    have z := pm.map SrtO.iv
    rw [List.map_map] at z
    refine z.trans (List.Perm.of_eq (List.map_congr_left fun e he => ?_))
    obtain ⟨i, t, e1, _⟩ := g e he
    show SrtO.iv e.2 = keyOf e
    unfold keyOf
    rw [e1]
    rfl
  refine wpAny_bind (wpAny_newList ?_ (by rw [sizeLine_eq, hvl]; omega))
  have hnew : (s1.heap.push (seqObj "list" vs.toArray 0)).get? s1.heap.objs.size = some (seqObj "list" vs.toArray 0) := Heap.get?_push_size _ rfl
  refine wpAny_bind (wpAny_holding (wpAny_call_entry slot_list_sort ⟨_, hnew, rfl⟩ entry_list_sort
    (SrtO.list_sort_ord SrtO.swo_int hnew (by rw [hvl, sizeLine_eq]; omega) (fun h2 => SrtO.ints_sortable hI h2) fun out h1 h2 => ⟨_, rfl, ?_⟩) (args_list_sort _)))
  obtain ⟨k4, k2, k3⟩ := SrtO.ints_out hI h1 h2
  obtain ⟨c, hc⟩ := sortedHeap_at (vs := vs) (out := out.toArray) hnew
  have pn := k2.trans pk
  refine wpAny_pure ⟨_, rfl, k _ s1.heap.objs.size out c (out.map SrtO.iv) (fun b u e => ?_) g1 o1 hz hc k4 (lt_of_le_nodup _ k3 (pn.nodup_iff.mpr nd)) (fun j => by rw [pn.mem_iff, ← hm j]) (by rw [pn.length_eq, List.length_map, Array.length_toList, ez])⟩
  have q := k1 b u e
  have hlt := Heap.lt_size q
  refine (sortedHeap_old (Nat.ne_of_lt hlt) ?_).trans (Heap.get?_push_of_some _ q)
  exact Nat.lt_of_lt_of_eq (Nat.lt_succ_of_lt hlt) (Heap.size_push ..).symm
end
section
variable {X : Cx}
/-- set(xs), xs a list of ints -/
def rSetI (K : PySem.W.Frag) (w : World) : List V → Hp → VK → Prop := fun vs H Q => ∃ (p : Addr) (ns : List Int), vs = [.ref p] ∧ SqL K H p (ns.map V.int) ∧ ns.length ≤ 1000 ∧
  ∀ (a : Addr) (n : Nat), H a = none → n ≤ ns.length → Q (.ref a) (upd H a (SetO w a (fun j => decide (j ∈ ns)) n))
theorem cr_setI (hc : X.calm = true) : CallR X (.type "set") (rSetI X.K X.w) := by
  intro pn s σ H vs us Q I r h
  obtain ⟨p, ns, rfl, hs, hz, q⟩ := h
  rw [Vals.ref1 r]
  obtain ⟨its, rv, pl, _⟩ := I.list hs
  refine set_of_ints (ns := ns) (I.ok.hd hc) pl.isList (by simpa using rv.ints) (by unfold scanBound; omega) fun s2 ⟨h', tk, c, e, R, hcl, hk⟩ => ?_
  subst e
  exact ⟨.ref _, _, I.laid (t' := tk) hk (Nat.le_refl _) (setO_new R), rfl, q _ c (I.hok.fresh (Nat.le_refl _)) hcl⟩
/-- sorted of a set of ints -/
def rSortSI (w : World) : List V → Hp → VK → Prop := fun vs H Q => ∃ (a : Addr) (S : Int → Bool) (n : Nat), vs = [.ref a] ∧ H a = some (SetO w a S n) ∧ n ≤ 1000 ∧
  ∀ (ns : List Int) (p : Addr), ns.Pairwise (· < ·) → (∀ j : Int, j ∈ ns ↔ S j = true) → ns.length = n → H p = none → Q (.ref p) (upd H p (.lst (ns.map V.int)))
theorem cr_sortSI (hc : X.calm = true) : CallR X (.builtin "sorted") (rSortSI X.w) := by
  intro pn s σ H vs us Q I r h
  obtain ⟨a, S, n, rfl, ha, hn, q⟩ := h
  rw [Vals.ref1 r]
  refine sorted_setI (setO_get I ha) (I.ok.hd hc) hn fun s2 p out c ns kp eg eo hp hg hi h1 h2 h3 => ?_
  have nf : H p = none := I.hok.fresh hp
  have hlen : (ns.map V.int).length ≤ sizeLine := by rw [List.length_map, h3, sizeLine_eq]; omega
  have es : s2 = { s with heap := s2.heap, gens := s2.gens, drawn := s2.drawn, toks := s2.toks } := by
    obtain ⟨x1, x2, x3, x4, x5⟩ := s2
    obtain ⟨y1, y2, y3, y4, y5⟩ := s
    cases eo
    rfl
  have J : Inv X pn σ (upd H p (.lst (ns.map V.int))) { s with heap := s2.heap, gens := s2.gens, drawn := s2.drawn, toks := s2.toks } :=
    I.call (ch := []) (Un.laid kp hp nf) (I.hok.laid kp hp ⟨hlen, out, c, vals_of_ints hi, hg⟩) (by rw [eg]; exact I.bare) (fun _ z => nomatch z)
  rw [es]
  exact ⟨.ref p, _, J, rfl, q ns p h1 h2 h3 nf⟩
end
end Tw

set_option Elab.async false
set_option linter.all false
set_option maxRecDepth 100000
set_option maxHeartbeats 2000000
namespace Tw
open PySem PySem.Spec PyProof.Rows L2
/-! ### the piece laid on the picture -/
/-- the places of a side that the piece lies on -/
def cols (s ps : Nat) (sh : Int) : List Nat := (List.range s).filter fun x => decide (0 ≤ (x : Int) - sh ∧ (x : Int) - sh < ps)
theorem filter_range (lo hi : Nat) : ∀ w, (List.range w).filter (fun x => decide (lo ≤ x ∧ x < hi)) = (List.range (min w hi - lo)).map (fun i => lo + i)
  | 0 => by simp
  | w + 1 => by
    rw [List.range_succ, List.filter_append, filter_range lo hi w]
    by_cases h : lo ≤ w ∧ w < hi
    · have e : min (w + 1) hi - lo = (min w hi - lo) + 1 := by omega
      have e2 : w = lo + (min w hi - lo) := by omega
      rw [e, List.range_succ, List.map_append]
      congr 1
      rw [List.filter_cons, if_pos (decide_eq_true h)]
      exact congrArg (fun z => [z]) e2
    · have e : min (w + 1) hi - lo = min w hi - lo := by omega
      rw [e, List.filter_cons, if_neg (by simpa using h)]
      exact List.append_nil _
theorem cols_is (s ps : Nat) (sh : Int) : cols s ps sh = (List.range (min s (sh + ps).toNat - sh.toNat)).map (fun i => sh.toNat + i) := by
  rw [← filter_range]
  unfold cols
  congr 1
  funext x
  exact decide_eq_decide.mpr (by omega)
theorem flat_filter {β : Type} (b : Nat → Bool) (G : Nat → List β) : ∀ l : List Nat, (l.flatMap fun y => if b y = true then G y else []) = (l.filter b).flatMap G
  | [] => rfl
  | a :: l => by
    rw [List.flatMap_cons, flat_filter b G l, List.filter_cons]
    by_cases h : b a = true
    · rw [if_pos h, if_pos h, List.flatMap_cons]
    · rw [if_neg h, if_neg h, List.nil_append]
theorem fm_filter {β : Type} (b : Nat → Bool) (g : Nat → β) : ∀ l : List Nat, l.filterMap (fun x => if b x = true then some (g x) else none) = (l.filter b).map g
  | [] => rfl
  | a :: l => by
    rw [List.filterMap_cons, fm_filter b g l, List.filter_cons]
    by_cases h : b a = true
    · rw [if_pos h, if_pos h, List.map_cons]
    · rw [if_neg h, if_neg h]
theorem sum_flat (f : Nat → List Nat) : ∀ l : List Nat, (l.flatMap f).sum = (l.map fun y => (f y).sum).sum
  | [] => rfl
  | a :: l => by rw [List.flatMap_cons, List.sum_append, sum_flat f l, List.map_cons, List.sum_cons]
theorem len_flat {β : Type} (f : Nat → List β) {n : Nat} (h : ∀ y, (f y).length = n) : ∀ l : List Nat, (l.flatMap f).length = l.length * n
  | [] => by simp
  | a :: l => by rw [List.flatMap_cons, List.length_append, len_flat f h l, h, List.length_cons, Nat.add_mul, Nat.one_mul, Nat.add_comm]
/-- the squares where both are -/
def sqs (p q : Sq45.Picture) (dx dy : Int) : List Nat := (cols p.h q.h dy).flatMap fun y => (cols p.w q.w dx).map fun x => Sq45.square (p.at_ x y) (q.at_ ((x : Int) - dx).toNat ((y : Int) - dy).toNat)
theorem sqs_is (p q : Sq45.Picture) (dx dy : Int) : (p.cells.filterMap fun c => if 0 ≤ (c.1 : Int) - dx ∧ (c.1 : Int) - dx < q.w ∧ 0 ≤ (c.2 : Int) - dy ∧ (c.2 : Int) - dy < q.h then some (Sq45.square (p.at_ c.1 c.2) (q.at_ ((c.1 : Int) - dx).toNat ((c.2 : Int) - dy).toNat)) else none) = sqs p q dx dy := by
  unfold Sq45.Picture.cells sqs cols
  rw [filterMap_flat, ← flat_filter]
  congr 1
  funext y
  rw [List.filterMap_map, ← fm_filter]
  by_cases hy : 0 ≤ (y : Int) - dy ∧ (y : Int) - dy < q.h
  · rw [if_pos (decide_eq_true hy)]
    congr 1
    funext x
    by_cases hx : 0 ≤ (x : Int) - dx ∧ (x : Int) - dx < q.w
    · rw [if_pos (decide_eq_true hx)]
      exact if_pos ⟨hx.1, hx.2, hy.1, hy.2⟩
    · rw [if_neg (by simpa using hx)]
      exact if_neg fun z => hx ⟨z.1, z.2.1⟩
  · rw [if_neg (by simpa using hy)]
    refine List.filterMap_eq_nil_iff.mpr fun x _ => ?_
    exact if_neg fun z => hy z.2.2
theorem shifted_is (p q : Sq45.Picture) (dx dy : Int) : p.shifted q dx dy = ((sqs p q dx dy).sum, (cols p.h q.h dy).length * (cols p.w q.w dx).length) := by
  have h := sqs_is p q dx dy
  have e : p.shifted q dx dy = ((sqs p q dx dy).sum, (sqs p q dx dy).length) := by
    rw [← h]
    rfl
  rw [e]
  congr 1
  unfold sqs
  exact len_flat _ (fun y => by rw [List.length_map]) _
def rowSq (p q : Sq45.Picture) (dx dy : Int) (y : Nat) : Nat := ((cols p.w q.w dx).map fun x => Sq45.square (p.at_ x y) (q.at_ ((x : Int) - dx).toNat ((y : Int) - dy).toNat)).sum
theorem sqs_sum (p q : Sq45.Picture) (dx dy : Int) : (sqs p q dx dy).sum = ((cols p.h q.h dy).map (rowSq p q dx dy)).sum := sum_flat _ _
theorem misfit_is {p q : Sq45.Picture} {x y : Nat} (hx : x + q.w ≤ p.w) (hy : y + q.h ≤ p.h) : p.misfit q x y = (p.shifted q x y).1 := by
  rw [shifted_is]
  show (q.cells.map fun c => Sq45.square (p.at_ (x + c.1) (y + c.2)) (q.at_ c.1 c.2)).sum = (sqs p q x y).sum
  rw [cells_map q fun a b => Sq45.square (p.at_ (x + a) (y + b)) (q.at_ a b)]
  unfold sqs
  rw [cols_is, cols_is]
  have e1 : min p.h ((y : Int) + q.h).toNat - (y : Int).toNat = q.h := by omega
  have e2 : min p.w ((x : Int) + q.w).toNat - (x : Int).toNat = q.w := by omega
  rw [e1, e2, List.flatMap_map]
  congr 2
  funext b
  rw [List.map_map]
  congr 1
  funext a
  show _ = Sq45.square (p.at_ ((x : Int).toNat + a) ((y : Int).toNat + b)) (q.at_ ((((x : Int).toNat + a : Nat) : Int) - x).toNat ((((y : Int).toNat + b : Nat) : Int) - y).toNat)
  have e3 : ((((x : Int).toNat + a : Nat) : Int) - x).toNat = a := by omega
  have e4 : ((((y : Int).toNat + b : Nat) : Int) - y).toNat = b := by omega
  rw [e3, e4]
  rfl
theorem sq_int (a b : Nat) : ((a : Int) - b) ^ 2 = ((Sq45.square a b : Nat) : Int) := by
  have sq : ∀ z : Int, z ^ 2 = z * z := fun z => by rw [Int.pow_succ, Int.pow_succ, Int.pow_zero, Int.one_mul]
  unfold Sq45.square
  rw [Int.natCast_pow]
  rcases Nat.le_total a b with h | h
  · have e : (((a - b) + (b - a) : Nat) : Int) = -((a : Int) - b) := by omega
    rw [e, sq, sq, Int.neg_mul_neg]
  · have e : (((a - b) + (b - a) : Nat) : Int) = (a : Int) - b := by omega
    rw [e]
theorem PicOk.any {p : Sq45.Picture} (o : PicOk p) (a b : Nat) : p.at_ a b ≤ 255 := by
  unfold Sq45.Picture.at_
  cases e : p.pixels[b * p.w + a]? with
  | none => exact Nat.zero_le _
  | some v => exact o.le v (by rw [Array.mem_toList_iff]; exact Array.mem_of_getElem? e)
theorem square_le {a b : Nat} (ha : a ≤ 255) (hb : b ≤ 255) : Sq45.square a b ≤ 65025 := by
  unfold Sq45.square
  exact Nat.pow_le_pow_left (dist_le ha hb) 2
theorem cols_len (s ps : Nat) (sh : Int) : (cols s ps sh).length ≤ s := by
  unfold cols
  exact Nat.le_trans (List.length_filter_le _ _) (Nat.le_of_eq List.length_range)
theorem cols_mem {s ps : Nat} {sh : Int} {x : Nat} (h : x ∈ cols s ps sh) : x < s ∧ 0 ≤ (x : Int) - sh ∧ (x : Int) - sh < ps := by
  unfold cols at h
  obtain ⟨h1, h2⟩ := List.mem_filter.mp h
  exact ⟨List.mem_range.mp h1, of_decide_eq_true h2⟩
theorem sqs_lt {p q : Sq45.Picture} (op : PicOk p) (oq : PicOk q) (dx dy : Int) : (p.shifted q dx dy).1 < 2 ^ 60 := by
  rw [shifted_is]
  have h1 : ∀ z ∈ sqs p q dx dy, z ≤ 65025 := by
    intro z hz
    unfold sqs at hz
    obtain ⟨y, _, hz⟩ := List.mem_flatMap.mp hz
    obtain ⟨x, _, rfl⟩ := List.mem_map.mp hz
    exact square_le (op.any _ _) (oq.any _ _)
  have h2 := sum_le h1
  have h3 : (sqs p q dx dy).length ≤ 256 := by
    unfold sqs
    rw [len_flat _ (n := (cols p.w q.w dx).length) (fun y => by rw [List.length_map])]
    exact Nat.le_trans (Nat.mul_le_mul (Nat.le_trans (cols_len _ _ _) op.h2) (Nat.le_trans (cols_len _ _ _) op.w2)) (by decide)
  exact Nat.lt_of_le_of_lt (Nat.le_trans h2 (Nat.mul_le_mul_right _ h3)) (by decide)
theorem cols_rg {s ps : Nat} {sh : Int} : rgV (if sh > 0 then sh else 0) (if sh + ps < s then sh + ps else s) = (cols s ps sh).map nV := by
  unfold rgV
  rw [cols_is, List.map_map]
  have en : ((if sh + ps < s then sh + ps else (s : Int)) - (if sh > 0 then sh else 0)).toNat = min s (sh + ps).toNat - sh.toNat := by
    split <;> split <;> omega
  rw [en]
  apply List.map_congr_left
  intro i _
  show V.int ((if sh > 0 then sh else 0) + (i : Nat)) = V.int (((sh.toNat + i : Nat)) : Int)
  congr 1
  split <;> omega
/-! ### the best place -/
def bp (p q : Sq45.Picture) (l : List (Nat × Nat)) : Option ((Nat × Nat) × Nat) := (l.map fun c => (c, p.misfit q c.1 c.2)).foldl bestP (some ((0, 0), p.misfit q 0 0))
theorem bp_more (p q : Sq45.Picture) (l : List (Nat × Nat)) (c : Nat × Nat) : bp p q (l ++ [c]) = bestP (bp p q l) (c, p.misfit q c.1 c.2) := by
  unfold bp
  rw [List.map_append, List.foldl_append]
  rfl
theorem places_cons {p q : Sq45.Picture} (hw : q.w ≤ p.w) (hh : q.h ≤ p.h) : ∃ t, p.places q = (0, 0) :: t := by
  unfold Sq45.Picture.places
  rw [show p.h + 1 - q.h = (p.h - q.h) + 1 by omega, show p.w + 1 - q.w = (p.w - q.w) + 1 by omega, List.range_succ_eq_map, List.range_succ_eq_map, List.flatMap_cons, List.map_cons, List.cons_append]
  exact ⟨_, rfl⟩
theorem best_bp {p q : Sq45.Picture} (hw : q.w ≤ p.w) (hh : q.h ≤ p.h) : p.best q = bp p q (p.places q) := by
  rw [best_is]
  unfold bp
  obtain ⟨t, e⟩ := places_cons hw hh
  rw [e, List.map_cons, List.foldl_cons, List.foldl_cons]
  have e2 : bestP (some ((0, 0), p.misfit q 0 0)) ((0, 0), p.misfit q 0 0) = some ((0, 0), p.misfit q 0 0) := if_neg (Nat.lt_irrefl _)
  rw [e2]
  rfl
theorem best_none {p q : Sq45.Picture} (h : p.w < q.w ∨ p.h < q.h) : p.best q = none := by
  have e : p.places q = [] := by
    unfold Sq45.Picture.places
    rcases h with h | h
    · rw [show p.w + 1 - q.w = 0 by omega]
      exact List.flatMap_eq_nil_iff.mpr fun y _ => rfl
    · rw [show p.h + 1 - q.h = 0 by omega]
      rfl
  rw [best_is, e]
  rfl
/-! ### the best shift -/
def bs (p q : Sq45.Picture) (l : List (Int × Int)) : Option ((Int × Int) × (Nat × Nat)) := (l.filterMap fun s => if (p.shifted q s.1 s.2).2 = 0 then none else some (s, p.shifted q s.1 s.2)).foldl bestS none
theorem bs_more (p q : Sq45.Picture) (l : List (Int × Int)) (s : Int × Int) : bs p q (l ++ [s]) = if (p.shifted q s.1 s.2).2 = 0 then bs p q l else bestS (bs p q l) (s, p.shifted q s.1 s.2) := by
  unfold bs
  rw [List.filterMap_append, List.foldl_append]
  by_cases h : (p.shifted q s.1 s.2).2 = 0
  · rw [if_pos h, List.filterMap_cons, if_pos h]
    rfl
  · rw [if_neg h, List.filterMap_cons, if_neg h]
    rfl
theorem bestS_some (m : Option ((Int × Int) × (Nat × Nat))) (x : (Int × Int) × (Nat × Nat)) : ∃ y, bestS m x = some y := by
  cases m with
  | none => exact ⟨_, rfl⟩
  | some y =>
    unfold bestS
    dsimp only
    split
    · exact ⟨_, rfl⟩
    · exact ⟨_, rfl⟩
theorem foldS_some : ∀ (l : List ((Int × Int) × (Nat × Nat))) (y : (Int × Int) × (Nat × Nat)), ∃ m, l.foldl bestS (some y) = some m
  | [], y => ⟨y, rfl⟩
  | x :: l, y => by
    obtain ⟨z, e⟩ := bestS_some (some y) x
    rw [List.foldl_cons, e]
    exact foldS_some l z
theorem bs_some {p q : Sq45.Picture} {l : List (Int × Int)} {s : Int × Int} (hs : s ∈ l) (h : (p.shifted q s.1 s.2).2 ≠ 0) : ∃ m, bs p q l = some m := by
  unfold bs
  have hm : (s, p.shifted q s.1 s.2) ∈ l.filterMap fun s => if (p.shifted q s.1 s.2).2 = 0 then none else some (s, p.shifted q s.1 s.2) := List.mem_filterMap.mpr ⟨s, hs, if_neg h⟩
  cases e : (l.filterMap fun s => if (p.shifted q s.1 s.2).2 = 0 then none else some (s, p.shifted q s.1 s.2)) with
  | nil => rw [e] at hm; cases hm
  | cons x t =>
    rw [List.foldl_cons]
    exact foldS_some t x
theorem shifts_own (r : Nat) : ((0, 0) : Int × Int) ∈ Sq45.shifts r := by
  unfold Sq45.shifts
  refine List.mem_flatMap.mpr ⟨r, List.mem_range.mpr (by omega), List.mem_map.mpr ⟨r, List.mem_range.mpr (by omega), ?_⟩⟩
  rw [Int.sub_self]
theorem shift_own {p q : Sq45.Picture} (op : PicOk p) (oq : PicOk q) : (p.shifted q 0 0).2 ≠ 0 := by
  rw [shifted_is]
  show (cols p.h q.h 0).length * (cols p.w q.w 0).length ≠ 0
  have h1 : 1 ≤ (cols p.h q.h 0).length := by
    rw [cols_is, List.length_map, List.length_range]
    have := op.h1
    have := oq.h1
    omega
  have h2 : 1 ≤ (cols p.w q.w 0).length := by
    rw [cols_is, List.length_map, List.length_range]
    have := op.w1
    have := oq.w1
    omega
  have := Nat.mul_le_mul h1 h2
  omega
theorem bs_lt {p q : Sq45.Picture} (op : PicOk p) (oq : PicOk q) {l : List (Int × Int)} : ∀ {m}, bs p q l = some m → ∃ s : Int × Int, m.2 = p.shifted q s.1 s.2 := by
  unfold bs
  have go : ∀ (l : List ((Int × Int) × (Nat × Nat))) (o : Option ((Int × Int) × (Nat × Nat))), (∀ x ∈ l, ∃ s : Int × Int, x.2 = p.shifted q s.1 s.2) → (∀ x, o = some x → ∃ s : Int × Int, x.2 = p.shifted q s.1 s.2) →
      ∀ m, l.foldl bestS o = some m → ∃ s : Int × Int, m.2 = p.shifted q s.1 s.2 := by
    intro l
    induction l with
    | nil => intro o _ ho m e; exact ho m e
    | cons x l ih =>
      intro o hl ho m e
      rw [List.foldl_cons] at e
      refine ih _ (fun z hz => hl z (List.mem_cons_of_mem _ hz)) (fun z hz => ?_) m e
      have hx := hl x (List.mem_cons_self ..)
      cases o with
      | none => cases hz; exact hx
      | some y =>
        have hz : (if x.2.1 * y.2.2 < y.2.1 * x.2.2 then some x else some y) = some z := hz
        split at hz
        · cases hz; exact hx
        · cases hz; exact ho _ rfl
  intro m e
  refine go _ none (fun x hx => ?_) (fun x hx => nomatch hx) m e
  obtain ⟨s, _, hs⟩ := List.mem_filterMap.mp hx
  split at hs
  · cases hs
  · cases hs; exact ⟨s, rfl⟩
/-! ### the spread -/
def spreadL (c : List Nat) : List (Nat × Nat) := ((List.range 256).filter fun v => decide (c.count v ≠ 0)).map fun v => (v, c.count v)
theorem spread_is (c : List Nat) : ((List.range 256).filterMap fun v => if (c.filter fun x => x == v).length = 0 then none else some (v, (c.filter fun x => x == v).length)) = spreadL c := by
  unfold spreadL
  rw [← fm_filter]
  congr 1
  funext v
  rw [filter_count]
  by_cases h : c.count v = 0
  · rw [if_pos h, if_neg (by simpa using h)]
  · rw [if_neg h, if_pos (by simpa using h)]
theorem spread_sorted {c : List Nat} {ns : List Int} (hp : ns.Pairwise (· < ·)) (hm : ∀ j, j ∈ ns ↔ j ∈ c.map fun n : Nat => (n : Int)) (hle : ∀ x ∈ c, x ≤ 255) :
    ns = ((List.range 256).filter fun v => decide (c.count v ≠ 0)).map fun n : Nat => (n : Int) := by
  have hq : (((List.range 256).filter fun v => decide (c.count v ≠ 0)).map fun n : Nat => (n : Int)).Pairwise (· < ·) :=
    List.pairwise_map.mpr ((List.Pairwise.filter _ List.pairwise_lt_range).imp fun h => by omega)
  have nd : ∀ l : List Int, l.Pairwise (· < ·) → l.Nodup := fun l h => h.imp fun h => by omega
  refine List.Perm.eq_of_pairwise (le := fun x y => x ≤ y) (fun x y _ _ h1 h2 => Int.le_antisymm h1 h2) (hp.imp fun h => by omega) (hq.imp fun h => by omega) ?_
  refine (List.perm_ext_iff_of_nodup (nd _ hp) (nd _ hq)).mpr fun j => ?_
  rw [hm]
  constructor
  · intro h
    obtain ⟨x, hx, rfl⟩ := List.mem_map.mp h
    refine List.mem_map.mpr ⟨x, List.mem_filter.mpr ⟨List.mem_range.mpr (by have := hle x hx; omega), decide_eq_true ?_⟩, rfl⟩
    have := List.count_pos_iff.mpr hx
    omega
  · intro h
    obtain ⟨x, hx, rfl⟩ := List.mem_map.mp h
    have h2 := of_decide_eq_true (List.mem_filter.mp hx).2
    exact List.mem_map.mpr ⟨x, List.count_pos_iff.mp (by omega), rfl⟩
/-! ### parts of lists -/
theorem cut_nat {xs : List V} {a b : Nat} {lo hi : Int} (h1 : a ≤ xs.length) (h2 : b ≤ xs.length) (e1 : lo = (a : Int)) (e2 : hi = (b : Int)) : cutV xs (some lo) (some hi) = (xs.drop a).take (b - a) := by
  subst e1 e2
  unfold cutV
  rw [HT.sIx_nat, HT.sIx_nat, Nat.min_eq_left h1, Nat.min_eq_left h2]
end Tw

set_option Elab.async false
set_option linter.all false
set_option maxRecDepth 100000
set_option maxHeartbeats 2000000
namespace Tw
open PySem PySem.Spec PyProof.Rows L2
/-! ### reading the calls -/
theorem drop_len_eq {ns x t : List Int} {i : Nat} (hi : i ≤ ns.length) (h : ns.drop i = x ++ t) : ns.length = i + x.length + t.length := by
  have := congrArg List.length h
  rw [List.length_drop, List.length_append] at this
  omega
theorem drop_more {ns x t : List Int} {i : Nat} (h : ns.drop i = x ++ t) : ns.drop (i + x.length) = t := by
  rw [← List.drop_drop, h, List.drop_left]
theorem drop_head {ns t : List Int} {i : Nat} {p : Int} (h : ns.drop i = p :: t) : ns[i]? = some p := by
  have e : (ns.drop i)[0]? = some p := by rw [h]; rfl
  rw [List.getElem?_drop] at e
  exact e
theorem cut_is {ns x t : List Int} {i : Nat} {lo hi : Int} (hi0 : i ≤ ns.length) (h : ns.drop i = x ++ t) (e1 : lo = (i : Int)) (e2 : hi = ((i + x.length : Nat) : Int)) : cutV (ns.map V.int) (some lo) (some hi) = x.map V.int := by
  have hl := drop_len_eq hi0 h
  subst e1 e2
  unfold cutV
  rw [HT.sIx_nat, HT.sIx_nat, List.length_map, Nat.min_eq_left hi0, Nat.min_eq_left (by omega), ← List.map_drop, h, ← List.map_take]
  congr 1
  rw [show i + x.length - i = x.length by omega, List.take_left]
/-- the rows of a call, each a list of its own -/
structure RowsAt (H : Hp) (as : List Addr) (xs : List (List Int)) : Prop where
  len : as.length = xs.length
  at_ : ∀ (i : Nat) (a : Addr) (x : List Int), as[i]? = some a → xs[i]? = some x → H a = some (.lst (x.map V.int))
theorem RowsAt.same {H H' : Hp} {as : List Addr} {xs : List (List Int)} (h : RowsAt H as xs) (s : ∀ a o, a ∈ as → H a = some o → H' a = some o) : RowsAt H' as xs :=
  ⟨h.len, fun i a c h1 h2 => s a _ (List.mem_of_getElem? h1) (h.at_ i a c h1 h2)⟩
theorem RowsAt.nil {H : Hp} : RowsAt H [] [] := ⟨rfl, fun i a c h _ => by simp at h⟩
theorem RowsAt.more {H : Hp} {as : List Addr} {xs : List (List Int)} {a : Addr} {x : List Int} (h : RowsAt H as xs) (e : H a = some (.lst (x.map V.int))) : RowsAt H (as ++ [a]) (xs ++ [x]) := by
  refine ⟨by simp [h.len], fun i b d h1 h2 => ?_⟩
  by_cases hi : i < as.length
  · rw [List.getElem?_append_left hi] at h1
    rw [List.getElem?_append_left (by rw [← h.len]; exact hi)] at h2
    exact h.at_ i b d h1 h2
  · rw [List.getElem?_append_right (by omega)] at h1
    rw [List.getElem?_append_right (by rw [← h.len]; omega), ← h.len] at h2
    have hz : i - as.length = 0 := by
      cases hk : i - as.length with
      | zero => rfl
      | succ n => rw [hk] at h1; simp at h1
    rw [hz] at h1 h2
    cases h1
    cases h2
    exact e
def callF (p : Int) (na ra : Addr) (b : Nat) : List (Str × V) := [("number", .int p), ("numbers", .ref na), ("rows", .ref ra), ("behind", .int (b : Int))]
theorem callF_1 (p : Int) (na ra : Addr) (b : Nat) : (callF p na ra b).lookup ("number" : Str) = some (.int p) := lk_here
theorem callF_2 (p : Int) (na ra : Addr) (b : Nat) : (callF p na ra b).lookup ("numbers" : Str) = some (.ref na) := (lk_past (by decide +kernel)).trans lk_here
theorem callF_3 (p : Int) (na ra : Addr) (b : Nat) : (callF p na ra b).lookup ("rows" : Str) = some (.ref ra) := (lk_past (by decide +kernel)).trans ((lk_past (by decide +kernel)).trans lk_here)
theorem callF_4 (p : Int) (na ra : Addr) (b : Nat) : (callF p na ra b).lookup ("behind" : Str) = some (.int (b : Int)) := (lk_past (by decide +kernel)).trans ((lk_past (by decide +kernel)).trans ((lk_past (by decide +kernel)).trans lk_here))
def CallAt (Z : Adr) (t : Addr) (H : Hp) (o : Addr) (p : Int) (a : List Int) (xs : List (List Int)) (b : Nat) : Prop :=
  ∃ dx na ra as, H o = some (.ins Z.Call dx (callF p na ra b)) ∧ H na = some (.lst (a.map V.int)) ∧ H ra = some (.lst (as.map V.ref)) ∧ RowsAt H as xs ∧ ∀ b ∈ as, b ≠ t
theorem putRows_cons (x : List Int) (xs : List (List Int)) (t : List Int) : PyFlat.putRows (x :: xs) ++ t = (x.length : Int) :: (x ++ (PyFlat.putRows xs ++ t)) := by
  show (PyFlat.putRow x ++ PyFlat.putRows xs) ++ t = _
  rw [List.append_assoc]
  rfl
theorem shape_cases {p : Int} {n k : Nat} (h : PySq45.shape p = some (n, k)) : (p = 1 ∧ n = 2 ∧ k = 1) ∨ (p = 2 ∧ n = 2 ∧ k = 1) ∨ (p = 3 ∧ n = 2 ∧ k = 0) ∨ (p = 4 ∧ n = 4 ∧ k = 0) ∨ (p = 5 ∧ n = 4 ∧ k = 2) ∨ (p = 6 ∧ n = 0 ∧ k = 0) ∨ (p = 7 ∧ n = 0 ∧ k = 0) ∨ (p = 8 ∧ n = 1 ∧ k = 0) ∨ (p = 9 ∧ n = 0 ∧ k = 0) ∨ (p = 10 ∧ n = 1 ∧ k = 0) ∨ (p = 11 ∧ n = 1 ∧ k = 0) ∨ (p = 12 ∧ n = 0 ∧ k = 0) ∨ (p = 13 ∧ n = 4 ∧ k = 0) := by
  unfold PySq45.shape at h
  by_cases c1 : p = 1
  · rw [if_pos c1] at h; cases h; exact .inl ⟨c1, rfl, rfl⟩
  rw [if_neg c1] at h
  by_cases c2 : p = 2
  · rw [if_pos c2] at h; cases h; exact .inr (.inl ⟨c2, rfl, rfl⟩)
  rw [if_neg c2] at h
  by_cases c3 : p = 3
  · rw [if_pos c3] at h; cases h; exact .inr (.inr (.inl ⟨c3, rfl, rfl⟩))
  rw [if_neg c3] at h
  by_cases c4 : p = 4
  · rw [if_pos c4] at h; cases h; exact .inr (.inr (.inr (.inl ⟨c4, rfl, rfl⟩)))
  rw [if_neg c4] at h
  by_cases c5 : p = 5
  · rw [if_pos c5] at h; cases h; exact .inr (.inr (.inr (.inr (.inl ⟨c5, rfl, rfl⟩))))
  rw [if_neg c5] at h
  by_cases c6 : p = 6
  · rw [if_pos c6] at h; cases h; exact .inr (.inr (.inr (.inr (.inr (.inl ⟨c6, rfl, rfl⟩)))))
  rw [if_neg c6] at h
  by_cases c7 : p = 7
  · rw [if_pos c7] at h; cases h; exact .inr (.inr (.inr (.inr (.inr (.inr (.inl ⟨c7, rfl, rfl⟩))))))
  rw [if_neg c7] at h
  by_cases c8 : p = 8
  · rw [if_pos c8] at h; cases h; exact .inr (.inr (.inr (.inr (.inr (.inr (.inr (.inl ⟨c8, rfl, rfl⟩)))))))
  rw [if_neg c8] at h
  by_cases c9 : p = 9
  · rw [if_pos c9] at h; cases h; exact .inr (.inr (.inr (.inr (.inr (.inr (.inr (.inr (.inl ⟨c9, rfl, rfl⟩))))))))
  rw [if_neg c9] at h
  by_cases c10 : p = 10
  · rw [if_pos c10] at h; cases h; exact .inr (.inr (.inr (.inr (.inr (.inr (.inr (.inr (.inr (.inl ⟨c10, rfl, rfl⟩)))))))))
  rw [if_neg c10] at h
  by_cases c11 : p = 11
  · rw [if_pos c11] at h; cases h; exact .inr (.inr (.inr (.inr (.inr (.inr (.inr (.inr (.inr (.inr (.inl ⟨c11, rfl, rfl⟩))))))))))
  rw [if_neg c11] at h
  by_cases c12 : p = 12
  · rw [if_pos c12] at h; cases h; exact .inr (.inr (.inr (.inr (.inr (.inr (.inr (.inr (.inr (.inr (.inr (.inl ⟨c12, rfl, rfl⟩)))))))))))
  rw [if_neg c12] at h
  by_cases c13 : p = 13
  · rw [if_pos c13] at h; cases h; exact .inr (.inr (.inr (.inr (.inr (.inr (.inr (.inr (.inr (.inr (.inr (.inr (⟨c13, rfl, rfl⟩))))))))))))
  rw [if_neg c13] at h
  cases h
end Tw

set_option Elab.async false
set_option linter.all false
set_option maxRecDepth 100000
set_option maxHeartbeats 400000
namespace Tw
open PySem PySem.Spec PyProof.Rows L2
theorem whole_id (c : List (List Int)) : PySq45.whole c = c := by
  unfold PySq45.whole
  split <;> rfl
/-- a call's answer and the house behind it, as the specification plays it -/
def out (r : Sq45.House × Sq45.Out) : Sq45.House × List Int := (r.1, r.2.value :: r.2.out)
section
variable (g : Sq45.House)
theorem ns_1 (a b : Int) (r : List Int) : Sq45Neutral.step g [[1, a, b], r] = out (g.step (.begin_ a.toNat b.toNat (r.map Int.toNat))) := rfl
theorem ns_2 (a b : Int) (r : List Int) : Sq45Neutral.step g [[2, a, b], r] = out (g.step (.piece a.toNat b.toNat (r.map Int.toNat))) := rfl
theorem ns_3 (a b : Int) : Sq45Neutral.step g [[3, a, b]] = out (g.step (.mean a.toNat b.toNat)) := rfl
theorem ns_4 (a b c d : Int) : Sq45Neutral.step g [[4, a, b, c, d]] = out (g.step (.rank a.toNat b.toNat c.toNat d.toNat)) := rfl
theorem ns_5 (a b c d : Int) (r s : List Int) : Sq45Neutral.step g [[5, a, b, c, d], r, s] = out (g.step (.weigh a.toNat b.toNat c.toNat d.toNat (r.map Int.toNat) (s.map Int.toNat))) := rfl
theorem ns_6 : Sq45Neutral.step g [[6]] = out (g.step .even) := rfl
theorem ns_7 : Sq45Neutral.step g [[7]] = out (g.step .parting) := rfl
theorem ns_8 (a : Int) : Sq45Neutral.step g [[8, a]] = out (g.step (.part a.toNat)) := rfl
theorem ns_9 : Sq45Neutral.step g [[9]] = out (g.step .find) := rfl
theorem ns_10 (a : Int) : Sq45Neutral.step g [[10, a]] = out (g.step (.shift a.toNat)) := rfl
theorem ns_11 (a : Int) : Sq45Neutral.step g [[11, a]] = out (g.step (.row a.toNat)) := rfl
theorem ns_12 : Sq45Neutral.step g [[12]] = out (g.step .spread) := rfl
theorem ns_13 (a b c d : Int) : Sq45Neutral.step g [[13, a, b, c, d]] = out (g.step (.cut a.toNat b.toNat c.toNat d.toNat)) := rfl
end
/-- what a call of the list promises -/
def HSpL (Z : Adr) (t d : Addr) (H : Hp) (r : Sq45.House × List Int) (Q : VK) : Prop :=
  ∀ H' q, SameBut d H H' → H q = none → H' q = some (.lst (r.2.map V.int)) → HouseAt Z t H' d r.1 → Q (.ref q) H'
theorem hsp_of {Z : Adr} {t d : Addr} {H : Hp} {r : Sq45.House × Sq45.Out} {Q : VK} (k : HSpL Z t d H (out r) Q) : HSp Z t d H r Q := fun H' q h1 h2 h3 h4 => k H' q h1 h2 h3 h4
theorem to_nat {z : Int} (h : 0 ≤ z) : V.int z = V.int ((z.toNat : Nat) : Int) := congrArg V.int (Int.toNat_of_nonneg h).symm
theorem row_nat {x : List Int} (h : ∀ z ∈ x, 0 ≤ z) : x.map V.int = (x.map Int.toNat).map nV := by
  rw [List.map_map]
  exact List.map_congr_left fun z hz => to_nat (h z hz)
theorem ex_nat {z : Int} (h : 0 ≤ z) : ∃ n : Nat, z = (n : Int) := ⟨z.toNat, (Int.toNat_of_nonneg h).symm⟩
theorem len0 {α : Type} {l : List α} (h : l.length = 0) : l = [] := List.length_eq_zero_iff.mp h
theorem len1 {α : Type} {l : List α} (h : l.length = 1) : ∃ a, l = [a] := List.length_eq_one_iff.mp h
theorem len2 {α : Type} {l : List α} (h : l.length = 2) : ∃ a b, l = [a, b] := by
  match l, h with
  | [a, b], _ => exact ⟨a, b, rfl⟩
theorem len4 {α : Type} {l : List α} (h : l.length = 4) : ∃ a b c d, l = [a, b, c, d] := by
  match l, h with
  | [a, b, c, d], _ => exact ⟨a, b, c, d, rfl⟩
theorem rows1 {H : Hp} {as : List Addr} {x : List Int} (h : RowsAt H as [x]) : ∃ a, as = [a] ∧ H a = some (.lst (x.map V.int)) := by
  obtain ⟨a, rfl⟩ := len1 h.len
  exact ⟨a, rfl, h.at_ 0 a x rfl rfl⟩
theorem rows2 {H : Hp} {as : List Addr} {x y : List Int} (h : RowsAt H as [x, y]) : ∃ a b, as = [a, b] ∧ H a = some (.lst (x.map V.int)) ∧ H b = some (.lst (y.map V.int)) := by
  obtain ⟨a, b, rfl⟩ := len2 h.len
  exact ⟨a, b, rfl, h.at_ 0 a x rfl rfl, h.at_ 1 b y rfl rfl⟩
end Tw

set_option Elab.async false
set_option linter.all false
set_option maxRecDepth 100000
set_option maxHeartbeats 400000
namespace Tw
open PySem PySem.Spec PyProof.Rows L2
/-! ### the list of calls -/
/-- the row's promise -/
def spRow (K : PySem.W.Frag) : Sp := fun vs H Q _ => ∃ (a : Addr) (ns : List Int), vs = [.ref a] ∧ SqL K H a (ns.map V.int) ∧ ns.length ≤ 16000 ∧ (∀ z ∈ ns, 0 ≤ z ∧ z < 2 ^ 64) ∧ PySq45.answers_asked ns = true ∧
  ∀ (H' : Hp) (q : Addr), H' q = some (.lst ((PySq45.answers ns).map V.int)) → Q (.ref q) H'
theorem seq_but {K : PySem.W.Frag} {H H' : Hp} {a d dx C : Addr} {xs : List V} {fs : List (Str × V)} (s : SameBut d H H') (hd : H d = some (.ins C dx fs)) (h : SqL K H a xs) : SqL K H' a xs := by
  rcases h with (h | ⟨o, h⟩) | h
  · exact .inl (.inl (s _ _ h (lst_ne h hd)))
  · refine .inl (.inr ⟨o, s _ _ h fun e => ?_⟩)
    subst e
    rw [h] at hd
    cases hd
  · exact .inr h
theorem seq_upd {K : PySem.W.Frag} {H H' : Hp} {a t : Addr} {xs : List V} {o : HO} (h0 : SqL K H a xs) (n : H t = none) (h : SqL K H' a xs) : SqL K (upd H' t o) a xs := by
  have go : a ≠ t → SqL K (upd H' t o) a xs := by
    intro ne
    unfold SqL Rd at h ⊢
    rw [upd_ne ne]
    exact h
  rcases h0 with (h0 | ⟨u, h0⟩) | h0
  · exact go (ne_of_none h0 n)
  · exact go (ne_of_none h0 n)
  · exact .inr h0
theorem call_ne {H : Hp} {o d dx ex pa qa na ra C D : Addr} {p : Int} {b : Nat} (h1 : H o = some (.ins C dx (callF p na ra b))) (h2 : H d = some (.ins D ex (deskF pa qa))) : o ≠ d := by
  intro e
  subst e
  rw [h1] at h2
  injection h2 with h2
  injection h2 with _ _ h2
  injection h2 with h2 _
  injection h2 with h2 _
  exact absurd h2 (by decide +kernel)
theorem PicX.put {Z : Adr} {t : Addr} {H : Hp} {a : Addr} {p : Sq45.Picture} {l l' : List V} (h : PicX Z t H a p) (e : H t = some (.lst l')) : PicX Z t (upd H t (.lst l)) a p := by
  obtain ⟨dx, ca, h1, h2, h3⟩ := h
  exact ⟨dx, ca, by rw [upd_ne (lst_ne e h1).symm]; exact h1, by rw [upd_ne h3]; exact h2, h3⟩
theorem HouseAt.put {Z : Adr} {t : Addr} {H : Hp} {d : Addr} {g : Sq45.House} {l l' : List V} (h : HouseAt Z t H d g) (e : H t = some (.lst l')) : HouseAt Z t (upd H t (.lst l)) d g := by
  obtain ⟨⟨dx, pa, qa, h1, h2, h3⟩, hp, hq, nd, tr⟩ := h
  exact ⟨⟨dx, pa, qa, by rw [upd_ne nd.symm]; exact h1, PicX.put h2 e, PicX.put h3 e⟩, hp, hq, nd, _, upd_same⟩
/-- a call as the list lets it be -/
structure Good (c : List (List Int)) : Prop where
  ex : ∃ p a xs, c = (p :: a) :: xs ∧ PySq45.shape p = some (a.length, xs.length) ∧ (∀ z ∈ a, 0 ≤ z ∧ z < 2 ^ 64) ∧ ∀ x ∈ xs, x.length ≤ 1024 ∧ ∀ z ∈ x, 0 ≤ z
theorem putRows_mem {z : Int} {y : List Int} (hz : z ∈ y) : ∀ {t : List (List Int)}, y ∈ t → z ∈ PyFlat.putRows t
  | u :: t, hy => by
    show z ∈ PyFlat.putRow u ++ PyFlat.putRows t
    rcases List.mem_cons.mp hy with e | hy
    · subst e
      exact List.mem_append_left _ (List.mem_cons_of_mem _ hz)
    · exact List.mem_append_right _ (putRows_mem hz hy)
theorem put_mem {z : Int} {c : List (List Int)} {y : List Int} (hy : y ∈ c) (hz : z ∈ y) : ∀ {cs : List (List (List Int))}, c ∈ cs → z ∈ PyFlat.put cs
  | d :: cs, h => by
    show z ∈ PyFlat.put1 d ++ PyFlat.put cs
    rcases List.mem_cons.mp h with e | h
    · subst e
      refine List.mem_append_left _ ?_
      cases c with
      | nil => cases hy
      | cons u t =>
        show z ∈ u ++ PyFlat.putRows t
        rcases List.mem_cons.mp hy with e | hy
        · subst e
          exact List.mem_append_left _ hz
        · exact List.mem_append_right _ (putRows_mem hz hy)
    · exact List.mem_append_right _ (put_mem hy hz h)
theorem long_len {q : Int → Bool} {r : List Int} (h : Sq45Neutral.long q r = true) : r.length ≤ 1024 := by
  unfold Sq45Neutral.long at h
  rw [Bool.and_eq_true] at h
  exact of_decide_eq_true h.1
theorem asked_rows {p : Int} {a : List Int} {xs : List (List Int)} (hs : PySq45.shape p = some (a.length, xs.length)) (h : Sq45Neutral.asked1 ((p :: a) :: xs) = true) : ∀ x ∈ xs, x.length ≤ 1024 := by
  rcases shape_cases hs with ⟨rfl, e1, e2⟩ | ⟨rfl, e1, e2⟩ | ⟨_, _, e2⟩ | ⟨_, _, e2⟩ | ⟨rfl, e1, e2⟩ | ⟨_, _, e2⟩ | ⟨_, _, e2⟩ | ⟨_, _, e2⟩ | ⟨_, _, e2⟩ | ⟨_, _, e2⟩ | ⟨_, _, e2⟩ | ⟨_, _, e2⟩ | ⟨_, _, e2⟩
  · obtain ⟨x0, x1, rfl⟩ := len2 e1
    obtain ⟨r, rfl⟩ := len1 e2
    have h : (Sq45Neutral.natural x0 64 && (Sq45Neutral.natural x1 64 && Sq45Neutral.long (fun z => Sq45Neutral.natural z 64) r)) = true := h
    rw [Bool.and_eq_true, Bool.and_eq_true] at h
    intro x hx
    rw [List.mem_singleton.mp hx]
    exact long_len h.2.2
  · obtain ⟨x0, x1, rfl⟩ := len2 e1
    obtain ⟨r, rfl⟩ := len1 e2
    have h : (Sq45Neutral.natural x0 64 && (Sq45Neutral.natural x1 64 && Sq45Neutral.long (fun z => Sq45Neutral.natural z 64) r)) = true := h
    rw [Bool.and_eq_true, Bool.and_eq_true] at h
    intro x hx
    rw [List.mem_singleton.mp hx]
    exact long_len h.2.2
  · rw [len0 e2]; intro x hx; cases hx
  · rw [len0 e2]; intro x hx; cases hx
  · obtain ⟨x0, x1, x2, x3, rfl⟩ := len4 e1
    obtain ⟨r, s, rfl⟩ := len2 e2
    have h : (Sq45Neutral.natural x0 64 && (Sq45Neutral.natural x1 64 && (Sq45Neutral.natural x2 64 && (Sq45Neutral.natural x3 64 && (Sq45Neutral.long (fun z => Sq45Neutral.natural z 64) r && Sq45Neutral.long (fun z => Sq45Neutral.natural z 64) s))))) = true := h
    simp only [Bool.and_eq_true] at h
    intro x hx
    rcases List.mem_cons.mp hx with e | hx
    · rw [e]; exact long_len h.2.2.2.2.1
    · rw [List.mem_singleton.mp hx]; exact long_len h.2.2.2.2.2
  all_goals (rw [len0 e2]; intro x hx; cases hx)
/-- what «asked» says of a list -/
theorem asked_is {ns : List Int} (hb : ∀ z ∈ ns, 0 ≤ z ∧ z < 2 ^ 64) (h : PySq45.answers_asked ns = true) : ∃ cs, ns = PyFlat.put cs ∧ (∀ c ∈ cs, Good c) ∧ PySq45.answers ns = PyFlat.told (PyFlat.played Sq45Neutral.step Sq45Neutral.start cs) ∧ (PySq45.answers ns).length ≤ 10000000 := by
  unfold PySq45.answers_asked at h
  cases hc : PyFlat.calls PySq45.shape ns.length ns with
  | none => rw [hc] at h; cases h
  | some raw =>
    rw [hc] at h
    simp only [Bool.and_eq_true] at h
    obtain ⟨⟨⟨_, _⟩, hask⟩, hshort⟩ := h
    obtain ⟨e1, ok⟩ := PyFlat.put_calls _ _ _ hc
    have hm : raw.map PySq45.whole = raw := by
      rw [show PySq45.whole = id from funext whole_id, List.map_id]
    rw [hm] at hask
    unfold Sq45Neutral.asked at hask
    simp only [Bool.and_eq_true] at hask
    have hall := List.all_eq_true.mp hask.2.2.1
    refine ⟨raw, e1, fun c hcm => ⟨?_⟩, ?_, of_decide_eq_true hshort⟩
    · obtain ⟨p, a, xs, e, hs⟩ := ok c hcm
      have hz : ∀ y ∈ c, ∀ z ∈ y, 0 ≤ z ∧ z < 2 ^ 64 := fun y hy z hz => hb z (by rw [e1]; exact put_mem hy hz hcm)
      refine ⟨p, a, xs, e, hs, fun z hz2 => hz (p :: a) (by rw [e]; exact List.mem_cons_self ..) z (List.mem_cons_of_mem _ hz2), fun x hx => ⟨asked_rows hs (by rw [← e]; exact hall c hcm) x hx, fun z hz2 => (hz x (by rw [e]; exact List.mem_cons_of_mem _ hx) z hz2).1⟩⟩
    · unfold PySq45.answers PySq45.calls
      rw [hc]
      show PyFlat.told (PyFlat.played Sq45Neutral.step Sq45Neutral.start (raw.map PySq45.whole)) = _
      rw [hm]
end Tw

set_option Elab.async false
set_option linter.all false
set_option maxRecDepth 100000
set_option maxHeartbeats 2000000
namespace Tw
open PySem PySem.Spec PyProof.Rows L2
section
variable {P : Program} {w : World} {K : PySem.W.Frag} {mg : Str → Option Value} {base : Heap} {Z : Adr}
def sp_Picture_init (_ : PySem.W.Frag) (Z : Adr) : Sp := fun vs H Q _ => ∃ (x dx : Addr) (vw vh vc : V), vs = [.ref x, vw, vh, vc] ∧ H x = some (.ins Z.Picture dx []) ∧
  ∀ H', H' x = some (.ins Z.Picture dx [("w", vw), ("h", vh), ("colours", vc)]) → SameBut x H H' → Q .non H'
abbrev s_Picture_init : Stmt := inClass (top 19) 0
abbrev n_Picture_init : List Str := ["self", "w", "h", "colours"]
abbrev p_Picture_init : List Str := ["self", "w", "h", "colours"]
theorem sc_Picture_init : FnScope n_Picture_init p_Picture_init (defScope s_Picture_init) := ⟨rfl, rfl, rfl, by decide +kernel, rfl, by decide +kernel, by decide +kernel⟩
theorem ok_Picture_init (T : Txt K mg Z) (D : Dm K "__init__" "Picture.__init__" s_Picture_init p_Picture_init Z.f_Picture_init) : OkM P w K mg base Z.f_Picture_init p_Picture_init 1 (sp_Picture_init K Z) := by
  obtain ⟨fd, D1, D3⟩ := D
  refine ⟨fd, D3, D1.ok sc_Picture_init (fun vs H Q E h => ?_) (fun cdv A outer s H vs Q E hr h => ?_)⟩
  · first | (obtain ⟨_, rfl, _⟩ := h; rfl) | (obtain ⟨_, _, rfl, _⟩ := h; rfl) | (obtain ⟨_, _, _, rfl, _⟩ := h; rfl) | (obtain ⟨_, _, _, _, rfl, _⟩ := h; rfl) | (obtain ⟨_, _, _, _, _, rfl, _⟩ := h; rfl) | (obtain ⟨_, _, _, _, _, _, rfl, _⟩ := h; rfl) | (obtain ⟨_, _, _, _, _, _, _, rfl, _⟩ := h; rfl) | (obtain ⟨_, _, _, _, _, _, _, _, rfl, _⟩ := h; rfl) | (obtain ⟨_, _, _, _, _, _, _, _, _, rfl, _⟩ := h; rfl) | (obtain ⟨_, _, _, _, _, _, _, _, _, _, rfl, _⟩ := h; rfl) | (obtain ⟨_, _, _, _, _, _, _, _, _, _, _, rfl, _⟩ := h; rfl) | (obtain ⟨_, _, _, _, _, _, _, _, _, _, _, _, rfl, _⟩ := h; rfl) | (obtain ⟨_, _, _, _, _, _, _, _, _, _, _, _, _, rfl, _⟩ := h; rfl) | (obtain ⟨rfl, _⟩ := h; rfl)
  · refine ⟨_, (pss_cons (ps_fld (pv 0) (pv 1) rfl)
        (pss_cons (ps_fld (pv 0) (pv 2) rfl)
        (pss_one (ps_fld (pv 0) (pv 3) rfl)))), ?_⟩
    obtain ⟨x, dx, vw, vh, vc, rfl, hx, k⟩ := h
    refine ⟨_, rfl, _, rfl, x, _, dx, _, rfl, hx, T.cl_Picture, T.na_Picture_w, (by show 0 < 1000; decide), ?_⟩
    refine ⟨_, rfl, _, rfl, x, _, dx, _, rfl, upd_same, T.cl_Picture, T.na_Picture_h, (by show 1 < 1000; decide), ?_⟩
    have e1 : putF ("h" : Str) vh (putF ("w" : Str) vw []) = [(("w" : Str), vw), (("h" : Str), vh)] := (put_past (by decide +kernel)).trans rfl
    refine ⟨_, rfl, _, rfl, x, _, dx, _, rfl, upd_same, T.cl_Picture, T.na_Picture_colours, (by rw [e1]; show 2 < 1000; decide), ?_⟩
    refine k _ ?_ (SameBut.upd (SameBut.upd (SameBut.upd fun _ _ e _ => e)))
    rw [upd_same, e1]
    have e2 : putF ("colours" : Str) vc [(("w" : Str), vw), (("h" : Str), vh)] = [(("w" : Str), vw), (("h" : Str), vh), (("colours" : Str), vc)] := (put_past (by decide +kernel)).trans (congrArg _ ((put_past (by decide +kernel)).trans rfl))
    rw [e2]
theorem made_same {H H1 : Hp} {x dx C : Addr} (nx : H x = none) (nd : H dx = none) (k : SameBut x (upd (upd H dx (.own x)) x (.ins C dx [])) H1) : Same H H1 := Same.made nx nd fun b o e n => k b o e n
def sp_dark_pixel (_ : PySem.W.Frag) (Z : Adr) : Sp := fun vs H Q _ => vs = [] ∧ ∀ H' q, Same H H' → H q = none → PicAt Z H' q Sq45.none_ → (∀ t, (∃ o, H t = some o) → PicX Z t H' q Sq45.none_) → Q (.ref q) H'
abbrev s_dark_pixel : Stmt := top 21
abbrev n_dark_pixel : List Str := []
abbrev p_dark_pixel : List Str := []
theorem sc_dark_pixel : FnScope n_dark_pixel p_dark_pixel (defScope s_dark_pixel) := ⟨rfl, rfl, rfl, by decide +kernel, rfl, by decide +kernel, by decide +kernel⟩
theorem ok_dark_pixel (T : Txt K mg Z) (c_Picture_init : OkM P w K mg base Z.f_Picture_init p_Picture_init 1 (sp_Picture_init K Z)) (D : Dn K mg "dark_pixel" s_dark_pixel p_dark_pixel) : Okd P w K mg base "dark_pixel" p_dark_pixel 3 (sp_dark_pixel K Z) := by
  obtain ⟨f, fd, D1, D2, D3⟩ := D
  obtain ⟨d_Picture_init, b_Picture_init, F_Picture_init⟩ := c_Picture_init
  refine ⟨f, fd, D2, D1.kp, D3, D1.ok sc_dark_pixel (fun vs H Q E h => ?_) (fun cdv A outer s H vs Q E hr h => ?_)⟩
  · first | (obtain ⟨_, rfl, _⟩ := h; rfl) | (obtain ⟨_, _, rfl, _⟩ := h; rfl) | (obtain ⟨_, _, _, rfl, _⟩ := h; rfl) | (obtain ⟨_, _, _, _, rfl, _⟩ := h; rfl) | (obtain ⟨_, _, _, _, _, rfl, _⟩ := h; rfl) | (obtain ⟨_, _, _, _, _, _, rfl, _⟩ := h; rfl) | (obtain ⟨_, _, _, _, _, _, _, rfl, _⟩ := h; rfl) | (obtain ⟨_, _, _, _, _, _, _, _, rfl, _⟩ := h; rfl) | (obtain ⟨_, _, _, _, _, _, _, _, _, rfl, _⟩ := h; rfl) | (obtain ⟨_, _, _, _, _, _, _, _, _, _, rfl, _⟩ := h; rfl) | (obtain ⟨_, _, _, _, _, _, _, _, _, _, _, rfl, _⟩ := h; rfl) | (obtain ⟨_, _, _, _, _, _, _, _, _, _, _, _, rfl, _⟩ := h; rfl) | (obtain ⟨_, _, _, _, _, _, _, _, _, _, _, _, _, rfl, _⟩ := h; rfl) | (obtain ⟨rfl, _⟩ := h; rfl)
  · refine ⟨_, (pss_one (ps_ret (pe_make T.mk_Picture F_Picture_init (hr.mono (by decide)) (by rfl) T.c_Picture b_Picture_init .nil pass0 (pa_cons pe_int (pa_cons pe_int (pa_cons (pe_lst (pa_cons pe_int pa_nil)) pa_nil)))))), ?_⟩
    obtain ⟨rfl, k⟩ := h
    refine ⟨by show 1 ≤ sizeLine; decide, fun l nl => ?_⟩
    intro x dx nx nd ne
    refine ⟨x, dx, _, _, _, rfl, upd_same, fun H1 e1 s1 => ⟨rfl, ?_⟩⟩
    have s2 := made_same nx nd s1
    refine k H1 x ((same_new nl).trans s2) ((same_new nl).free nx) ⟨dx, l, e1, s2 _ _ upd_same⟩ fun t ⟨o, e⟩ => ⟨dx, l, e1, s2 _ _ upd_same, (ne_of_none e nl).symm⟩
end
end Tw

set_option Elab.async false
set_option linter.all false
set_option maxRecDepth 100000
set_option maxHeartbeats 2000000
namespace Tw
open PySem PySem.Spec PyProof.Rows L2
section
variable {P : Program} {w : World} {K : PySem.W.Frag} {mg : Str → Option Value} {base : Heap} {Z : Adr}
def sp_Desk_init (_ : PySem.W.Frag) (Z : Adr) : Sp := fun vs H Q _ => ∃ (x dx : Addr), vs = [.ref x] ∧ H x = some (.ins Z.Desk dx []) ∧
  ∀ H', (∃ dx pa qa, H' x = some (.ins Z.Desk dx (deskF pa qa)) ∧ PicAt Z H' pa Sq45.none_ ∧ PicAt Z H' qa Sq45.none_) → SameBut x H H' → Q .non H'
abbrev s_Desk_init : Stmt := inClass (top 20) 0
abbrev n_Desk_init : List Str := ["self"]
abbrev p_Desk_init : List Str := ["self"]
theorem sc_Desk_init : FnScope n_Desk_init p_Desk_init (defScope s_Desk_init) := ⟨rfl, rfl, rfl, by decide +kernel, rfl, by decide +kernel, by decide +kernel⟩
theorem ok_Desk_init (T : Txt K mg Z) (c_dark_pixel : Okd P w K mg base "dark_pixel" p_dark_pixel 3 (sp_dark_pixel K Z)) (D : Dm K "__init__" "Desk.__init__" s_Desk_init p_Desk_init Z.f_Desk_init) : OkM P w K mg base Z.f_Desk_init p_Desk_init 4 (sp_Desk_init K Z) := by
  obtain ⟨fd, D1, D3⟩ := D
  obtain ⟨a_dark_pixel, d_dark_pixel, m_dark_pixel, kp_dark_pixel, b_dark_pixel, F_dark_pixel⟩ := c_dark_pixel
  refine ⟨fd, D3, D1.ok sc_Desk_init (fun vs H Q E h => ?_) (fun cdv A outer s H vs Q E hr h => ?_)⟩
  · first | (obtain ⟨_, rfl, _⟩ := h; rfl) | (obtain ⟨_, _, rfl, _⟩ := h; rfl) | (obtain ⟨_, _, _, rfl, _⟩ := h; rfl) | (obtain ⟨_, _, _, _, rfl, _⟩ := h; rfl) | (obtain ⟨_, _, _, _, _, rfl, _⟩ := h; rfl) | (obtain ⟨_, _, _, _, _, _, rfl, _⟩ := h; rfl) | (obtain ⟨_, _, _, _, _, _, _, rfl, _⟩ := h; rfl) | (obtain ⟨_, _, _, _, _, _, _, _, rfl, _⟩ := h; rfl) | (obtain ⟨_, _, _, _, _, _, _, _, _, rfl, _⟩ := h; rfl) | (obtain ⟨_, _, _, _, _, _, _, _, _, _, rfl, _⟩ := h; rfl) | (obtain ⟨_, _, _, _, _, _, _, _, _, _, _, rfl, _⟩ := h; rfl) | (obtain ⟨_, _, _, _, _, _, _, _, _, _, _, _, rfl, _⟩ := h; rfl) | (obtain ⟨_, _, _, _, _, _, _, _, _, _, _, _, _, rfl, _⟩ := h; rfl) | (obtain ⟨rfl, _⟩ := h; rfl)
  · refine ⟨_, (pss_cons (ps_fld (pv 0) (pe_call0 F_dark_pixel (hr.mono (by decide)) (by rfl) m_dark_pixel kp_dark_pixel b_dark_pixel .nil pass0) rfl)
        (pss_one (ps_fld (pv 0) (pe_call0 F_dark_pixel (hr.mono (by decide)) (by rfl) m_dark_pixel kp_dark_pixel b_dark_pixel .nil pass0) rfl))), ?_⟩
    obtain ⟨x, dx, rfl, hx, k⟩ := h
    refine ⟨rfl, fun H1 pa s1 na p1 _ => ?_⟩
    refine ⟨_, rfl, x, _, dx, _, rfl, s1 _ _ hx, T.cl_Desk, T.na_Desk_picture, (by show 0 < 1000; decide), ?_⟩
    have nxa : pa ≠ x := (ne_of_none hx na).symm
    refine ⟨rfl, fun H2 qa s2 nb p2 _ => ?_⟩
    have e2 : H2 x = some (.ins Z.Desk dx [(("picture" : Str), .ref pa)]) := s2 _ _ upd_same
    refine ⟨_, rfl, x, _, dx, _, rfl, e2, T.cl_Desk, T.na_Desk_piece, (by show 1 < 1000; decide), ?_⟩
    have e3 : putF ("piece" : Str) (.ref qa) [(("picture" : Str), .ref pa)] = deskF pa qa := (put_past (by decide +kernel)).trans rfl
    rw [e3]
    have np : ∀ {H : Hp} {a : Addr} {p : Sq45.Picture} {fs : List (Str × V)}, PicAt Z H a p → a ≠ x → H x = some (.ins Z.Desk dx fs) → ∀ o, PicAt Z (upd H x o) a p := by
      intro H a p fs ⟨d1, ca, h1, h2⟩ hne hx o
      exact ⟨d1, ca, by rw [upd_ne hne]; exact h1, by rw [upd_ne (lst_ne h2 hx)]; exact h2⟩
    have nxb : qa ≠ x := (ne_of_none upd_same nb).symm
    refine k _ ⟨dx, pa, qa, upd_same, np (Same.pic s2 (np p1 nxa (s1 _ _ hx) _)) nxa e2 _, np p2 nxb e2 _⟩ ?_
    exact SameBut.upd (sameBut_made (SameBut.upd (Same.but s1)) s2)
def diffs (a b : List Nat) : Nat := ((a.zip b).filter fun z => z.1 != z.2).length
def sp_repaint (_ : PySem.W.Frag) (Z : Adr) : Sp := fun vs H Q _ => ∃ (t d l : Addr) (p q : Sq45.Picture) (c : List Nat), vs = [.ref d, .ref l] ∧ DeskAt Z t H d p q ∧ l ≠ t ∧ H l = some (.lst (c.map nV)) ∧ p.pixels.size ≤ 256 ∧
  ∀ H', SameBut d H H' → DeskAt Z t H' d ⟨p.w, p.h, c.toArray⟩ q → Q (nV (diffs p.pixels.toList c)) H'
theorem diff_range (a b : List Nat) : ((List.range (a.zip b).length).filterMap (fun i => ((a.zip b)[i]?).bind fun z => if (z.1 != z.2) = true then some (nV z.1) else none)).length = diffs a b := by
  rw [range_bind]
  unfold diffs
  induction a.zip b with
  | nil => rfl
  | cons z l ih =>
    rw [List.filterMap_cons, List.filter_cons]
    by_cases h : (z.1 != z.2) = true
    · rw [if_pos h, if_pos h]
      simp only [List.length_cons, ih]
    · rw [if_neg h, if_neg h]
      exact ih
abbrev s_repaint : Stmt := top 22
abbrev n_repaint : List Str := ["desk", "colours", "before", "old", "new"]
abbrev p_repaint : List Str := ["desk", "colours"]
theorem sc_repaint : FnScope n_repaint p_repaint (defScope s_repaint) := ⟨rfl, rfl, rfl, by decide +kernel, rfl, by decide +kernel, by decide +kernel⟩
theorem ok_repaint (T : Txt K mg Z) (c_Picture_init : OkM P w K mg base Z.f_Picture_init p_Picture_init 1 (sp_Picture_init K Z)) (D : Dn K mg "repaint" s_repaint p_repaint) : Okd P w K mg base "repaint" p_repaint 3 (sp_repaint K Z) := by
  obtain ⟨f, fd, D1, D2, D3⟩ := D
  obtain ⟨d_Picture_init, b_Picture_init, F_Picture_init⟩ := c_Picture_init
  refine ⟨f, fd, D2, D1.kp, D3, D1.ok sc_repaint (fun vs H Q E h => ?_) (fun cdv A outer s H vs Q E hr h => ?_)⟩
  · first | (obtain ⟨_, rfl, _⟩ := h; rfl) | (obtain ⟨_, _, rfl, _⟩ := h; rfl) | (obtain ⟨_, _, _, rfl, _⟩ := h; rfl) | (obtain ⟨_, _, _, _, rfl, _⟩ := h; rfl) | (obtain ⟨_, _, _, _, _, rfl, _⟩ := h; rfl) | (obtain ⟨_, _, _, _, _, _, rfl, _⟩ := h; rfl) | (obtain ⟨_, _, _, _, _, _, _, rfl, _⟩ := h; rfl) | (obtain ⟨_, _, _, _, _, _, _, _, rfl, _⟩ := h; rfl) | (obtain ⟨_, _, _, _, _, _, _, _, _, rfl, _⟩ := h; rfl) | (obtain ⟨_, _, _, _, _, _, _, _, _, _, rfl, _⟩ := h; rfl) | (obtain ⟨_, _, _, _, _, _, _, _, _, _, _, rfl, _⟩ := h; rfl) | (obtain ⟨_, _, _, _, _, _, _, _, _, _, _, _, rfl, _⟩ := h; rfl) | (obtain ⟨_, _, _, _, _, _, _, _, _, _, _, _, _, rfl, _⟩ := h; rfl) | (obtain ⟨rfl, _⟩ := h; rfl)
  · refine ⟨_, (pss_cons (ps_set (i := 2) sc_repaint.nd rfl (Or.inl rfl) (pe_fld (pv 0) rfl))
        (pss_cons (ps_fld (pv 0) (pe_make T.mk_Picture F_Picture_init (hr.mono (by decide)) (by rfl) T.c_Picture b_Picture_init .nil pass0 (pa_cons (pe_fld (pv 2) rfl) (pa_cons (pe_fld (pv 2) rfl) (pa_cons (pv 1) pa_nil)))) rfl)
        (pss_one (ps_ret (pe_callB call_len_seq (by rfl) T.n_len (by decide +kernel) (pa_cons (pe_lc (own := [("old", 3), ("new", 4)]) (g := gTup K 2 (gCons (gName 3) (gCons (gName 4) gNil))) rfl sc_repaint.nd (pi_zip (by rfl) T.n_zip (pa_cons (pe_fld (pv 2) rfl) (pa_cons (pv 1) pa_nil))) (blkOk_by (N := n_repaint) (sc := defScope s_repaint) (by decide +kernel)) (fun _ _ _ _ _ => by exact (pg_tup rfl (pgs_cons (pg_name (i := 3) sc_repaint.nd rfl (Or.inl rfl)) (pgs_cons (pg_name (i := 4) sc_repaint.nd rfl (Or.inl rfl)) pgs_nil)))) (fun _ _ _ _ _ => (pts_one (pt_cmpR op_ne (pv 3) (pv 4) (nomark _)))) (fun _ _ _ _ _ => (pv 3))) pa_nil)))))), ?_⟩
    obtain ⟨t, d, l, p, q, c, rfl, ⟨dx, pa, qa, hd, hp, hq⟩, hlt, hL, hsz, k⟩ := h
    obtain ⟨dp, ca, hP, hC, _⟩ := id hp
    refine ⟨_, rfl, d, _, dx, _, _, rfl, hd, T.cl_Desk, T.na_Desk_picture, deskF_p pa qa, ?_⟩
    refine ⟨_, rfl, pa, _, dp, _, _, rfl, hP, T.cl_Picture, T.na_Picture_w, picF_w p ca, _, rfl, pa, _, dp, _, _, rfl, hP, T.cl_Picture, T.na_Picture_h, picF_h p ca, _, rfl, ?_⟩
    intro x ex nx nex nne
    refine ⟨x, ex, _, _, _, rfl, upd_same, fun H1 e1 s1 => ⟨rfl, ?_⟩⟩
    have s2 := made_same nx nex s1
    refine ⟨_, rfl, d, _, dx, _, rfl, s2 _ _ hd, T.cl_Desk, T.na_Desk_picture, (by show 2 < 1000; decide), ?_⟩
    rw [deskF_putp]
    have sb : SameBut d H (upd H1 d (.ins Z.Desk dx (deskF x qa))) := SameBut.upd (Same.but s2)
    have nxd : x ≠ d := (ne_of_none hd nx).symm
    have hC3 : upd H1 d (.ins Z.Desk dx (deskF x qa)) ca = some (.lst (p.pixels.toList.map nV)) := sb _ _ hC (lst_ne hC hd)
    have hL3 : upd H1 d (.ins Z.Desk dx (deskF x qa)) l = some (.lst (c.map nV)) := sb _ _ hL (lst_ne hL hd)
    have hP3 : upd H1 d (.ins Z.Desk dx (deskF x qa)) pa = some (.ins Z.Picture dp (picF p ca)) := sb _ _ hP (ins_ne hP hd)
    have hx3 : upd H1 d (.ins Z.Desk dx (deskF x qa)) x = some (.ins Z.Picture ex (picF ⟨p.w, p.h, c.toArray⟩ l)) := by
      rw [upd_ne nxd]
      exact e1
    refine ⟨_, rfl, pa, _, dp, _, _, rfl, hP3, T.cl_Picture, T.na_Picture_colours, picF_c p ca, _, rfl, ca, l, _, _, rfl, SqL.of hC3, SqL.of hL3, fun D hD => ?_⟩
    refine lc_w (walk_zip (xs := p.pixels.toList.map nV) (ys := c.map nV) rfl) (fun i => ((p.pixels.toList.zip c)[i]?).bind fun z => if (z.1 != z.2) = true then some (nV z.1) else none) hD (by rw [List.length_map, List.length_map, Array.length_toList]; exact Nat.le_trans (show _ ≤ 256 by omega) (by decide)) (fun H4 s4 => ⟨SqL.of (s4 _ _ hC3), SqL.of (s4 _ _ hL3)⟩) ?_ ?_
    · rintro i v H4 H5 hi s4 ⟨t, y, z, rfl, nt, rfl, hy, hz⟩ R hR
      obtain ⟨a, ha, rfl⟩ := at_map hy
      obtain ⟨b, hb, rfl⟩ := at_map hz
      have hzip : (p.pixels.toList.zip c)[i]? = some (a, b) := by rw [List.getElem?_zip_eq_some]; exact ⟨ha, hb⟩
      rw [hzip, Option.bind_some] at hR
      have hR := hR (upd H4 t (.tup [nV a, nV b])) (same_new nt)
      refine ⟨t, _, rfl, SqT.of upd_same, rfl, _, _, rfl, _, _, rfl, rfl, rfl, _, rfl, _, rfl, rfl, _, rfl, ifNe (fun e => ?_) (fun e => ?_)⟩
      · rw [if_pos (by simp; omega)] at hR
        exact ⟨_, rfl, hR⟩
      · rw [if_neg (by simp; omega)] at hR
        exact hR
    · intro H4 s4 e4
      refine ⟨D, _, rfl, .inl (SqL.of e4), ?_⟩
      rw [show min (p.pixels.toList.map nV).length (c.map nV).length = (p.pixels.toList.zip c).length by rw [List.length_map, List.length_map, List.length_zip], diff_range]
      refine k H4 (sameBut_made sb s4) ⟨dx, x, qa, s4 _ _ upd_same, Same.picX s4 ⟨ex, l, hx3, hL3, hlt⟩, Same.picX s4 (SameBut.pic sb hd hq)⟩
end
end Tw

set_option Elab.async false
set_option linter.all false
set_option maxRecDepth 100000
set_option maxHeartbeats 2000000
namespace Tw
open PySem PySem.Spec PyProof.Rows L2
section
variable {P : Program} {w : World} {K : PySem.W.Frag} {mg : Str → Option Value} {base : Heap} {Z : Adr}
def sp_is_side (_ : PySem.W.Frag) (_ : Adr) : Sp := fun vs H Q _ => ∃ (s : Nat), vs = [.int (s : Int)] ∧ Q (.bl (decide (1 ≤ s ∧ s ≤ 16))) H
abbrev s_is_side : Stmt := top 36
abbrev n_is_side : List Str := ["side"]
abbrev p_is_side : List Str := ["side"]
theorem sc_is_side : FnScope n_is_side p_is_side (defScope s_is_side) := ⟨rfl, rfl, rfl, by decide +kernel, rfl, by decide +kernel, by decide +kernel⟩
theorem ok_is_side (T : Txt K mg Z) (D : Dn K mg "is_side" s_is_side p_is_side) : Okd P w K mg base "is_side" p_is_side 1 (sp_is_side K Z) := by
  obtain ⟨f, fd, D1, D2, D3⟩ := D
  refine ⟨f, fd, D2, D1.kp, D3, D1.ok sc_is_side (fun vs H Q E h => ?_) (fun cdv A outer s H vs Q E hr h => ?_)⟩
  · first | (obtain ⟨_, rfl, _⟩ := h; rfl) | (obtain ⟨_, _, rfl, _⟩ := h; rfl) | (obtain ⟨_, _, _, rfl, _⟩ := h; rfl) | (obtain ⟨_, _, _, _, rfl, _⟩ := h; rfl) | (obtain ⟨_, _, _, _, _, rfl, _⟩ := h; rfl) | (obtain ⟨_, _, _, _, _, _, rfl, _⟩ := h; rfl) | (obtain ⟨_, _, _, _, _, _, _, rfl, _⟩ := h; rfl) | (obtain ⟨_, _, _, _, _, _, _, _, rfl, _⟩ := h; rfl) | (obtain ⟨_, _, _, _, _, _, _, _, _, rfl, _⟩ := h; rfl) | (obtain ⟨_, _, _, _, _, _, _, _, _, _, rfl, _⟩ := h; rfl) | (obtain ⟨_, _, _, _, _, _, _, _, _, _, _, rfl, _⟩ := h; rfl) | (obtain ⟨_, _, _, _, _, _, _, _, _, _, _, _, rfl, _⟩ := h; rfl) | (obtain ⟨_, _, _, _, _, _, _, _, _, _, _, _, _, rfl, _⟩ := h; rfl) | (obtain ⟨rfl, _⟩ := h; rfl)
  · refine ⟨_, (pss_one (ps_ret (pe_and (pe_cmpR op_le pe_int (pv 0) (nomark _)) (pe_one (pe_cmpR op_le (pv 0) pe_int (nomark _)))))), ?_⟩
    obtain ⟨s, rfl, k⟩ := h
    refine ⟨_, rfl, _, _, rfl, rfl, _, rfl, ifD (fun c => ?_) (fun c => ?_)⟩
    · refine ⟨_, rfl, _, _, rfl, rfl, ?_⟩
      have e : decide ((s : Int) ≤ 16) = decide (1 ≤ s ∧ s ≤ 16) := decide_eq_decide.mpr (by omega)
      rw [← e] at k
      exact k
    · have e : decide (1 ≤ s ∧ s ≤ 16) = false := decide_eq_false (by omega)
      rw [e] at k
      exact k
def sp_is_window (_ : PySem.W.Frag) (_ : Adr) : Sp := fun vs H Q _ => ∃ (s r : Nat), vs = [.int (s : Int), .int (r : Int)] ∧ Q (.bl (decide (s ≤ 3 ∧ r ≤ 4))) H
abbrev s_is_window : Stmt := top 40
abbrev n_is_window : List Str := ["sort", "r"]
abbrev p_is_window : List Str := ["sort", "r"]
theorem sc_is_window : FnScope n_is_window p_is_window (defScope s_is_window) := ⟨rfl, rfl, rfl, by decide +kernel, rfl, by decide +kernel, by decide +kernel⟩
theorem ok_is_window (T : Txt K mg Z) (D : Dn K mg "is_window" s_is_window p_is_window) : Okd P w K mg base "is_window" p_is_window 1 (sp_is_window K Z) := by
  obtain ⟨f, fd, D1, D2, D3⟩ := D
  refine ⟨f, fd, D2, D1.kp, D3, D1.ok sc_is_window (fun vs H Q E h => ?_) (fun cdv A outer s H vs Q E hr h => ?_)⟩
  · first | (obtain ⟨_, rfl, _⟩ := h; rfl) | (obtain ⟨_, _, rfl, _⟩ := h; rfl) | (obtain ⟨_, _, _, rfl, _⟩ := h; rfl) | (obtain ⟨_, _, _, _, rfl, _⟩ := h; rfl) | (obtain ⟨_, _, _, _, _, rfl, _⟩ := h; rfl) | (obtain ⟨_, _, _, _, _, _, rfl, _⟩ := h; rfl) | (obtain ⟨_, _, _, _, _, _, _, rfl, _⟩ := h; rfl) | (obtain ⟨_, _, _, _, _, _, _, _, rfl, _⟩ := h; rfl) | (obtain ⟨_, _, _, _, _, _, _, _, _, rfl, _⟩ := h; rfl) | (obtain ⟨_, _, _, _, _, _, _, _, _, _, rfl, _⟩ := h; rfl) | (obtain ⟨_, _, _, _, _, _, _, _, _, _, _, rfl, _⟩ := h; rfl) | (obtain ⟨_, _, _, _, _, _, _, _, _, _, _, _, rfl, _⟩ := h; rfl) | (obtain ⟨_, _, _, _, _, _, _, _, _, _, _, _, _, rfl, _⟩ := h; rfl) | (obtain ⟨rfl, _⟩ := h; rfl)
  · refine ⟨_, (pss_one (ps_ret (pe_and (pe_cmpR op_le (pv 0) pe_int (nomark _)) (pe_one (pe_cmpR op_le (pv 1) pe_int (nomark _)))))), ?_⟩
    obtain ⟨s, r, rfl, k⟩ := h
    refine ⟨_, rfl, _, _, rfl, rfl, _, rfl, ifD (fun c => ?_) (fun c => ?_)⟩
    · refine ⟨_, rfl, _, _, rfl, rfl, ?_⟩
      have e : decide ((r : Int) ≤ 4) = decide (s ≤ 3 ∧ r ≤ 4) := decide_eq_decide.mpr (by omega)
      rw [← e] at k
      exact k
    · have e : decide (s ≤ 3 ∧ r ≤ 4) = false := decide_eq_false (by omega)
      rw [e] at k
      exact k
def picRef (w h : Nat) (c : List Nat) : Int := match Sq45.picture w h c with
  | .error e => e
  | .ok _ => 0
def sp_picture_refusal (_ : PySem.W.Frag) (_ : Adr) : Sp := fun vs H Q _ => ∃ (w h : Nat) (a : Addr) (c : List Nat), vs = [.int (w : Int), .int (h : Int), .ref a] ∧ H a = some (.lst (c.map nV)) ∧ Q (.int (picRef w h c)) H
theorem picRef_1 {w h : Nat} {c : List Nat} (e : ¬ (1 ≤ w ∧ w ≤ 16 ∧ 1 ≤ h ∧ h ≤ 16)) : picRef w h c = -1 := by
  unfold picRef Sq45.picture Sq45.SIDE
  rw [if_pos (by omega)]
theorem picRef_3 {w h : Nat} {c : List Nat} (e : 1 ≤ w ∧ w ≤ 16 ∧ 1 ≤ h ∧ h ≤ 16) (e2 : c.length ≠ w * h ∨ ∃ x ∈ c, 255 < x) : picRef w h c = -3 := by
  unfold picRef Sq45.picture Sq45.SIDE Sq45.TOP
  rw [if_neg (by omega), if_pos]
  rcases e2 with e2 | ⟨x, h1, h2⟩
  · exact .inl e2
  · exact .inr (List.any_eq_true.mpr ⟨x, h1, decide_eq_true h2⟩)
theorem picRef_0 {w h : Nat} {c : List Nat} (e : 1 ≤ w ∧ w ≤ 16 ∧ 1 ≤ h ∧ h ≤ 16) (e2 : c.length = w * h) (e3 : ∀ x ∈ c, x ≤ 255) : Sq45.picture w h c = .ok ⟨w, h, c.toArray⟩ := by
  unfold Sq45.picture Sq45.SIDE Sq45.TOP
  rw [if_neg (by omega), if_neg]
  rintro (h1 | h1)
  · exact h1 e2
  · obtain ⟨x, h2, h3⟩ := List.any_eq_true.mp h1
    have := e3 x h2
    have := of_decide_eq_true h3
    omega
abbrev s_picture_refusal : Stmt := top 37
abbrev n_picture_refusal : List Str := ["w", "h", "colours"]
abbrev p_picture_refusal : List Str := ["w", "h", "colours"]
theorem sc_picture_refusal : FnScope n_picture_refusal p_picture_refusal (defScope s_picture_refusal) := ⟨rfl, rfl, rfl, by decide +kernel, rfl, by decide +kernel, by decide +kernel⟩
theorem ok_picture_refusal (T : Txt K mg Z) (c_is_side : Okd P w K mg base "is_side" p_is_side 1 (sp_is_side K Z)) (D : Dn K mg "picture_refusal" s_picture_refusal p_picture_refusal) : Okd P w K mg base "picture_refusal" p_picture_refusal 2 (sp_picture_refusal K Z) := by
  obtain ⟨f, fd, D1, D2, D3⟩ := D
  obtain ⟨a_is_side, d_is_side, m_is_side, kp_is_side, b_is_side, F_is_side⟩ := c_is_side
  refine ⟨f, fd, D2, D1.kp, D3, D1.ok sc_picture_refusal (fun vs H Q E h => ?_) (fun cdv A outer s H vs Q E hr h => ?_)⟩
  · first | (obtain ⟨_, rfl, _⟩ := h; rfl) | (obtain ⟨_, _, rfl, _⟩ := h; rfl) | (obtain ⟨_, _, _, rfl, _⟩ := h; rfl) | (obtain ⟨_, _, _, _, rfl, _⟩ := h; rfl) | (obtain ⟨_, _, _, _, _, rfl, _⟩ := h; rfl) | (obtain ⟨_, _, _, _, _, _, rfl, _⟩ := h; rfl) | (obtain ⟨_, _, _, _, _, _, _, rfl, _⟩ := h; rfl) | (obtain ⟨_, _, _, _, _, _, _, _, rfl, _⟩ := h; rfl) | (obtain ⟨_, _, _, _, _, _, _, _, _, rfl, _⟩ := h; rfl) | (obtain ⟨_, _, _, _, _, _, _, _, _, _, rfl, _⟩ := h; rfl) | (obtain ⟨_, _, _, _, _, _, _, _, _, _, _, rfl, _⟩ := h; rfl) | (obtain ⟨_, _, _, _, _, _, _, _, _, _, _, _, rfl, _⟩ := h; rfl) | (obtain ⟨_, _, _, _, _, _, _, _, _, _, _, _, _, rfl, _⟩ := h; rfl) | (obtain ⟨rfl, _⟩ := h; rfl)
  · refine ⟨_, (pss_cons (ps_if (PW.pt (pw_or (pt_not (pt_val (pe_call F_is_side (hr.mono (by decide)) (by rfl) m_is_side kp_is_side b_is_side .nil pass0 (pa_cons (pv 0) pa_nil)))) (pw_or1 (pt_not (pt_val (pe_call F_is_side (hr.mono (by decide)) (by rfl) m_is_side kp_is_side b_is_side .nil pass0 (pa_cons (pv 1) pa_nil))))))) (pss_one (ps_ret (pe_un un_neg pe_int))) pss_nil)
        (pss_cons (ps_if (PW.pt (pw_or (pt_cmpR op_ne (pe_callB call_len_seq (by rfl) T.n_len (by decide +kernel) (pa_cons (pv 2) pa_nil)) (pe_op op_mul (pv 0) (pv 1)) (nomark _)) (pw_or1 (pt_cmpR op_gt (pe_callB (cr_max rfl) (by rfl) T.n_max (by decide +kernel) (pa_cons (pv 2) pa_nil)) pe_int (nomark _))))) (pss_one (ps_ret (pe_un un_neg pe_int))) pss_nil)
        (pss_one (ps_ret pe_int)))), ?_⟩
    obtain ⟨w, h, a, c, rfl, hA, k⟩ := h
    have hA2 : H a = some (.lst ((c.map fun n : Nat => (n : Int)).map V.int)) := by rw [hA, nV_map]
    have r1 : ¬ (1 ≤ w ∧ w ≤ 16 ∧ 1 ≤ h ∧ h ≤ 16) → tRet (tUn (rU fun i => .int (-i)) (tC (.int 1))) { nx := fun _ H' => Q .non H', rt := Q } [] H := by
      intro e
      rw [picRef_1 e] at k
      exact ⟨_, rfl, k⟩
    refine ⟨_, rfl, w, rfl, _, rfl, ifN (fun c1 => ?_) (fun c1 => ⟨_, rfl, h, rfl, _, rfl, ifN (fun c2 => ?_) (fun c2 => ?_)⟩)⟩
    · exact r1 (by omega)
    · exact r1 (by omega)
    have hs : 1 ≤ w ∧ w ≤ 16 ∧ 1 ≤ h ∧ h ≤ 16 := by omega
    have r3 : (c.length ≠ w * h ∨ ∃ x ∈ c, 255 < x) → tRet (tUn (rU fun i => .int (-i)) (tC (.int 3))) { nx := fun _ H' => Q .non H', rt := Q } [] H := by
      intro e
      rw [picRef_3 hs e] at k
      exact ⟨_, rfl, k⟩
    refine ⟨_, rfl, a, _, rfl, .inl (SqL.of hA), _, rfl, _, rfl, _, _, rfl, rfl, .inl ⟨by omega, by omega⟩, rfl, _, rfl, ifNe (fun c3 => ?_) (fun c3 => ?_)⟩
    · refine r3 (.inl fun e => c3 ?_)
      rw [List.length_map, e]
      exact Int.natCast_mul w h
    rw [List.length_map, ← Int.natCast_mul] at c3
    have c4 : c.length = w * h := by omega
    have hpos : 1 ≤ w * h := Nat.mul_le_mul hs.1 hs.2.2.1
    refine ⟨_, rfl, a, _, rfl, SqL.of hA2, by rw [List.length_map]; omega, fun m hm hmax => ?_⟩
    obtain ⟨x, hx, rfl⟩ := List.mem_map.mp hm
    refine ⟨_, _, rfl, rfl, _, rfl, ifD (fun c5 => ?_) (fun c5 => ?_)⟩
    · exact r3 (.inr ⟨x, hx, by omega⟩)
    · have e : picRef w h c = 0 := by
        unfold picRef
        rw [picRef_0 hs c4 fun y hy => ?_]
        have := hmax (y : Int) (List.mem_map.mpr ⟨y, hy, rfl⟩)
        omega
      rw [e] at k
      exact k
end
end Tw

set_option Elab.async false
set_option linter.all false
set_option maxRecDepth 100000
set_option maxHeartbeats 2000000
namespace Tw
open PySem PySem.Spec PyProof.Rows L2
section
variable {P : Program} {w : World} {K : PySem.W.Frag} {mg : Str → Option Value} {base : Heap} {Z : Adr}
theorem pic_cases (w h : Nat) (c : List Nat) : (∃ e : Int, e < 0 ∧ Sq45.picture w h c = .error e ∧ picRef w h c = e) ∨ (Sq45.picture w h c = .ok ⟨w, h, c.toArray⟩ ∧ picRef w h c = 0 ∧ PicOk ⟨w, h, c.toArray⟩) := by
  unfold picRef Sq45.picture Sq45.SIDE Sq45.TOP
  by_cases h1 : w = 0 ∨ 16 < w ∨ h = 0 ∨ 16 < h
  · rw [if_pos h1]
    exact .inl ⟨-1, by decide, rfl, rfl⟩
  · rw [if_neg h1]
    by_cases h2 : c.length ≠ w * h ∨ (c.any fun x => decide (255 < x)) = true
    · rw [if_pos h2]
      exact .inl ⟨-3, by decide, rfl, rfl⟩
    · rw [if_neg h2]
      refine .inr ⟨rfl, rfl, by show 1 ≤ w; omega, by show w ≤ 16; omega, by show 1 ≤ h; omega, by show h ≤ 16; omega, ?_, ?_⟩
      · show c.toArray.size = w * h
        rw [List.size_toArray]
        exact Decidable.byContradiction fun e => h2 (.inl e)
      · intro x hx
        have hx : x ∈ c := by simpa using hx
        refine Decidable.byContradiction fun e => h2 (.inr (List.any_eq_true.mpr ⟨x, hx, decide_eq_true (by omega)⟩))
def sp_answer_begin (_ : PySem.W.Frag) (Z : Adr) : Sp := fun vs H Q _ => ∃ (t d : Addr) (w h : Nat) (a : Addr) (c : List Nat) (g : Sq45.House), vs = [.ref d, .int (w : Int), .int (h : Int), .ref a] ∧ HouseAt Z t H d g ∧ a ≠ t ∧ H a = some (.lst (c.map nV)) ∧
  HSp Z t d H (g.step (.begin_ w h c)) Q
abbrev s_answer_begin : Stmt := top 38
abbrev n_answer_begin : List Str := ["desk", "w", "h", "colours", "refusal"]
abbrev p_answer_begin : List Str := ["desk", "w", "h", "colours"]
theorem sc_answer_begin : FnScope n_answer_begin p_answer_begin (defScope s_answer_begin) := ⟨rfl, rfl, rfl, by decide +kernel, rfl, by decide +kernel, by decide +kernel⟩
theorem ok_answer_begin (T : Txt K mg Z) (c_picture_refusal : Okd P w K mg base "picture_refusal" p_picture_refusal 2 (sp_picture_refusal K Z)) (c_dark_pixel : Okd P w K mg base "dark_pixel" p_dark_pixel 3 (sp_dark_pixel K Z)) (c_Picture_init : OkM P w K mg base Z.f_Picture_init p_Picture_init 1 (sp_Picture_init K Z)) (D : Dn K mg "answer_begin" s_answer_begin p_answer_begin) : Okd P w K mg base "answer_begin" p_answer_begin 4 (sp_answer_begin K Z) := by
  obtain ⟨f, fd, D1, D2, D3⟩ := D
  obtain ⟨a_picture_refusal, d_picture_refusal, m_picture_refusal, kp_picture_refusal, b_picture_refusal, F_picture_refusal⟩ := c_picture_refusal
  obtain ⟨a_dark_pixel, d_dark_pixel, m_dark_pixel, kp_dark_pixel, b_dark_pixel, F_dark_pixel⟩ := c_dark_pixel
  obtain ⟨d_Picture_init, b_Picture_init, F_Picture_init⟩ := c_Picture_init
  refine ⟨f, fd, D2, D1.kp, D3, D1.ok sc_answer_begin (fun vs H Q E h => ?_) (fun cdv A outer s H vs Q E hr h => ?_)⟩
  · first | (obtain ⟨_, rfl, _⟩ := h; rfl) | (obtain ⟨_, _, rfl, _⟩ := h; rfl) | (obtain ⟨_, _, _, rfl, _⟩ := h; rfl) | (obtain ⟨_, _, _, _, rfl, _⟩ := h; rfl) | (obtain ⟨_, _, _, _, _, rfl, _⟩ := h; rfl) | (obtain ⟨_, _, _, _, _, _, rfl, _⟩ := h; rfl) | (obtain ⟨_, _, _, _, _, _, _, rfl, _⟩ := h; rfl) | (obtain ⟨_, _, _, _, _, _, _, _, rfl, _⟩ := h; rfl) | (obtain ⟨_, _, _, _, _, _, _, _, _, rfl, _⟩ := h; rfl) | (obtain ⟨_, _, _, _, _, _, _, _, _, _, rfl, _⟩ := h; rfl) | (obtain ⟨_, _, _, _, _, _, _, _, _, _, _, rfl, _⟩ := h; rfl) | (obtain ⟨_, _, _, _, _, _, _, _, _, _, _, _, rfl, _⟩ := h; rfl) | (obtain ⟨_, _, _, _, _, _, _, _, _, _, _, _, _, rfl, _⟩ := h; rfl) | (obtain ⟨rfl, _⟩ := h; rfl)
  · refine ⟨_, (pss_cons (ps_set (i := 4) sc_answer_begin.nd rfl (Or.inl rfl) (pe_call F_picture_refusal (hr.mono (by decide)) (by rfl) m_picture_refusal kp_picture_refusal b_picture_refusal .nil pass0 (pa_cons (pv 1) (pa_cons (pv 2) (pa_cons (pv 3) pa_nil)))))
        (pss_cons (ps_if (pt_cmpR op_lt (pv 4) pe_int (nomark _)) (pss_one (ps_ret (pe_lst (pa_cons (pv 4) pa_nil)))) pss_nil)
        (pss_cons (ps_fld (pv 0) (pe_make T.mk_Picture F_Picture_init (hr.mono (by decide)) (by rfl) T.c_Picture b_Picture_init .nil pass0 (pa_cons (pv 1) (pa_cons (pv 2) (pa_cons (pv 3) pa_nil)))) rfl)
        (pss_cons (ps_fld (pv 0) (pe_call0 F_dark_pixel (hr.mono (by decide)) (by rfl) m_dark_pixel kp_dark_pixel b_dark_pixel .nil pass0) rfl)
        (pss_one (ps_ret (pe_lst (pa_cons pe_int pa_nil)))))))), ?_⟩
    obtain ⟨t, d, w, h, a, c, g, rfl, hg, hat, hA, k⟩ := h
    refine ⟨_, rfl, _, rfl, _, rfl, w, h, a, c, rfl, hA, ?_⟩
    rw [step_begin] at k
    rcases pic_cases w h c with ⟨e, he, e1, e2⟩ | ⟨e1, e2, ok⟩
    · rw [e1] at k
      rw [e2]
      refine ⟨_, rfl, _, _, rfl, rfl, _, rfl, ifD (fun _ => ?_) (fun c1 => absurd he c1)⟩
      exact ⟨_, rfl, by show 1 ≤ sizeLine; decide, fun q nq => HSp.refused k hg (Same.refl _) nq⟩
    · rw [e1] at k
      rw [e2]
      refine ⟨_, rfl, _, _, rfl, rfl, _, rfl, ifD (fun c1 => absurd c1 (by decide)) (fun _ => ?_)⟩
      refine ⟨_, rfl, _, rfl, _, rfl, ?_⟩
      intro x ex nx nex nne
      refine ⟨x, ex, _, _, _, rfl, upd_same, fun H1 x1 s1 => ⟨rfl, ?_⟩⟩
      have s2 := made_same nx nex s1
      obtain ⟨dx, pa, qa, hd, hp, hq⟩ := hg.at_
      refine ⟨_, rfl, d, _, dx, _, rfl, s2 _ _ hd, T.cl_Desk, T.na_Desk_picture, (by show 2 < 1000; decide), ?_⟩
      rw [deskF_putp]
      have sb : SameBut d H (upd H1 d (.ins Z.Desk dx (deskF x qa))) := SameBut.upd (Same.but s2)
      have nxd : x ≠ d := (ne_of_none hd nx).symm
      have px : PicX Z t (upd H1 d (.ins Z.Desk dx (deskF x qa))) x ⟨w, h, c.toArray⟩ := ⟨ex, a, by rw [upd_ne nxd]; exact x1, by rw [List.toList_toArray]; exact sb _ _ hA (lst_ne hA hd), hat⟩
      refine ⟨rfl, fun H3 y s3 ny _ py => ?_⟩
      have nyd : y ≠ d := (ne_of_none upd_same ny).symm
      refine ⟨_, rfl, d, _, dx, _, rfl, s3 _ _ upd_same, T.cl_Desk, T.na_Desk_piece, (by show 2 < 1000; decide), ?_⟩
      rw [deskF_putq]
      have sb4 : SameBut d (upd H1 d (.ins Z.Desk dx (deskF x qa))) (upd H3 d (.ins Z.Desk dx (deskF x y))) := SameBut.upd (Same.but s3)
      have sb3 : SameBut d H3 (upd H3 d (.ins Z.Desk dx (deskF x y))) := SameBut.upd (Same.but (Same.refl _))
      refine ⟨by show 1 ≤ sizeLine; decide, fun q nq => ?_⟩
      have nqd : q ≠ d := fun e => by rw [e, upd_same] at nq; cases nq
      have nqH : H q = none := by
        cases e : H q with
        | none => rfl
        | some o => rw [(sb.trans sb4) _ _ e nqd] at nq; cases nq
      refine k _ q (sameBut_made (sb.trans sb4) (same_new nq)) nqH upd_same ⟨⟨dx, x, y, (same_new nq) _ _ upd_same, Same.picX (same_new nq) (SameBut.pic sb4 upd_same px), Same.picX (same_new nq) (SameBut.pic sb3 (s3 _ _ upd_same) (py t (SameBut.tr sb hg.nd hg.tr)))⟩, ok, none_ok, hg.nd, SameBut.tr (sameBut_made (sb.trans sb4) (same_new nq)) hg.nd hg.tr⟩
def sp_answer_piece (_ : PySem.W.Frag) (Z : Adr) : Sp := fun vs H Q _ => ∃ (t d : Addr) (w h : Nat) (a : Addr) (c : List Nat) (g : Sq45.House), vs = [.ref d, .int (w : Int), .int (h : Int), .ref a] ∧ HouseAt Z t H d g ∧ a ≠ t ∧ H a = some (.lst (c.map nV)) ∧
  HSp Z t d H (g.step (.piece w h c)) Q
abbrev s_answer_piece : Stmt := top 39
abbrev n_answer_piece : List Str := ["desk", "w", "h", "colours", "refusal"]
abbrev p_answer_piece : List Str := ["desk", "w", "h", "colours"]
theorem sc_answer_piece : FnScope n_answer_piece p_answer_piece (defScope s_answer_piece) := ⟨rfl, rfl, rfl, by decide +kernel, rfl, by decide +kernel, by decide +kernel⟩
theorem ok_answer_piece (T : Txt K mg Z) (c_picture_refusal : Okd P w K mg base "picture_refusal" p_picture_refusal 2 (sp_picture_refusal K Z)) (c_Picture_init : OkM P w K mg base Z.f_Picture_init p_Picture_init 1 (sp_Picture_init K Z)) (D : Dn K mg "answer_piece" s_answer_piece p_answer_piece) : Okd P w K mg base "answer_piece" p_answer_piece 3 (sp_answer_piece K Z) := by
  obtain ⟨f, fd, D1, D2, D3⟩ := D
  obtain ⟨a_picture_refusal, d_picture_refusal, m_picture_refusal, kp_picture_refusal, b_picture_refusal, F_picture_refusal⟩ := c_picture_refusal
  obtain ⟨d_Picture_init, b_Picture_init, F_Picture_init⟩ := c_Picture_init
  refine ⟨f, fd, D2, D1.kp, D3, D1.ok sc_answer_piece (fun vs H Q E h => ?_) (fun cdv A outer s H vs Q E hr h => ?_)⟩
  · first | (obtain ⟨_, rfl, _⟩ := h; rfl) | (obtain ⟨_, _, rfl, _⟩ := h; rfl) | (obtain ⟨_, _, _, rfl, _⟩ := h; rfl) | (obtain ⟨_, _, _, _, rfl, _⟩ := h; rfl) | (obtain ⟨_, _, _, _, _, rfl, _⟩ := h; rfl) | (obtain ⟨_, _, _, _, _, _, rfl, _⟩ := h; rfl) | (obtain ⟨_, _, _, _, _, _, _, rfl, _⟩ := h; rfl) | (obtain ⟨_, _, _, _, _, _, _, _, rfl, _⟩ := h; rfl) | (obtain ⟨_, _, _, _, _, _, _, _, _, rfl, _⟩ := h; rfl) | (obtain ⟨_, _, _, _, _, _, _, _, _, _, rfl, _⟩ := h; rfl) | (obtain ⟨_, _, _, _, _, _, _, _, _, _, _, rfl, _⟩ := h; rfl) | (obtain ⟨_, _, _, _, _, _, _, _, _, _, _, _, rfl, _⟩ := h; rfl) | (obtain ⟨_, _, _, _, _, _, _, _, _, _, _, _, _, rfl, _⟩ := h; rfl) | (obtain ⟨rfl, _⟩ := h; rfl)
  · refine ⟨_, (pss_cons (ps_set (i := 4) sc_answer_piece.nd rfl (Or.inl rfl) (pe_call F_picture_refusal (hr.mono (by decide)) (by rfl) m_picture_refusal kp_picture_refusal b_picture_refusal .nil pass0 (pa_cons (pv 1) (pa_cons (pv 2) (pa_cons (pv 3) pa_nil)))))
        (pss_cons (ps_if (pt_cmpR op_lt (pv 4) pe_int (nomark _)) (pss_one (ps_ret (pe_lst (pa_cons (pv 4) pa_nil)))) pss_nil)
        (pss_cons (ps_fld (pv 0) (pe_make T.mk_Picture F_Picture_init (hr.mono (by decide)) (by rfl) T.c_Picture b_Picture_init .nil pass0 (pa_cons (pv 1) (pa_cons (pv 2) (pa_cons (pv 3) pa_nil)))) rfl)
        (pss_one (ps_ret (pe_lst (pa_cons pe_int pa_nil))))))), ?_⟩
    obtain ⟨t, d, w, h, a, c, g, rfl, hg, hat, hA, k⟩ := h
    refine ⟨_, rfl, _, rfl, _, rfl, w, h, a, c, rfl, hA, ?_⟩
    rw [step_piece] at k
    rcases pic_cases w h c with ⟨e, he, e1, e2⟩ | ⟨e1, e2, ok⟩
    · rw [e1] at k
      rw [e2]
      refine ⟨_, rfl, _, _, rfl, rfl, _, rfl, ifD (fun _ => ?_) (fun c1 => absurd he c1)⟩
      exact ⟨_, rfl, by show 1 ≤ sizeLine; decide, fun q nq => HSp.refused k hg (Same.refl _) nq⟩
    · rw [e1] at k
      rw [e2]
      refine ⟨_, rfl, _, _, rfl, rfl, _, rfl, ifD (fun c1 => absurd c1 (by decide)) (fun _ => ?_)⟩
      refine ⟨_, rfl, _, rfl, _, rfl, ?_⟩
      intro x ex nx nex nne
      refine ⟨x, ex, _, _, _, rfl, upd_same, fun H1 x1 s1 => ⟨rfl, ?_⟩⟩
      have s2 := made_same nx nex s1
      obtain ⟨dx, pa, qa, hd, hp, hq⟩ := hg.at_
      refine ⟨_, rfl, d, _, dx, _, rfl, s2 _ _ hd, T.cl_Desk, T.na_Desk_piece, (by show 2 < 1000; decide), ?_⟩
      rw [deskF_putq]
      have sb : SameBut d H (upd H1 d (.ins Z.Desk dx (deskF pa x))) := SameBut.upd (Same.but s2)
      have nxd : x ≠ d := (ne_of_none hd nx).symm
      have px : PicX Z t (upd H1 d (.ins Z.Desk dx (deskF pa x))) x ⟨w, h, c.toArray⟩ := ⟨ex, a, by rw [upd_ne nxd]; exact x1, by rw [List.toList_toArray]; exact sb _ _ hA (lst_ne hA hd), hat⟩
      refine ⟨by show 1 ≤ sizeLine; decide, fun q nq => ?_⟩
      have nqd : q ≠ d := fun e => by rw [e, upd_same] at nq; cases nq
      have nqH : H q = none := by
        cases e : H q with
        | none => rfl
        | some o => rw [sb _ _ e nqd] at nq; cases nq
      refine k _ q (sameBut_made sb (same_new nq)) nqH upd_same ⟨⟨dx, pa, x, (same_new nq) _ _ upd_same, Same.picX (same_new nq) (SameBut.pic sb hd hp), Same.picX (same_new nq) px⟩, hg.p, ok, hg.nd, SameBut.tr (sameBut_made sb (same_new nq)) hg.nd hg.tr⟩
end
end Tw

set_option Elab.async false
set_option linter.all false
set_option maxRecDepth 100000
set_option maxHeartbeats 2000000
namespace Tw
open PySem PySem.Spec PyProof.Rows L2
section
variable {P : Program} {w : World} {K : PySem.W.Frag} {mg : Str → Option Value} {base : Heap} {Z : Adr}
theorem win_ne {p : Sq45.Picture} {sort r x y : Nat} (hx : x < p.w) (hy : y < p.h) : (win p sort r x y).filterMap id ≠ [] := by
  intro e
  have h : p.at_ x y ∈ (win p sort r x y).filterMap id := List.mem_filterMap.mpr ⟨_, win_own hx hy, rfl⟩
  rw [e] at h
  cases h
theorem win_len2 {p : Sq45.Picture} {sort r x y : Nat} (h : r ≤ 4) : (win p sort r x y).length ≤ 1000 := by
  rw [win_len]
  exact Nat.le_trans (Nat.mul_le_mul (show 2 * r + 1 ≤ 9 by omega) (show 2 * r + 1 ≤ 9 by omega)) (by decide)
/-- the picture is repainted: the end of a call that changes it -/
theorem to_done {Z : Adr} {t d : Addr} {H : Hp} {g : Sq45.House} {f : Nat → Nat → Nat} {Q : VK} (k : HSp Z t d H (g.to (g.p.with_ f)) Q) (hg : HouseAt Z t H d g) (hf : ∀ x y, x < g.p.w → y < g.p.h → f x y ≤ 255) {H1 : Hp} (s : SameBut d H H1)
    (hD : DeskAt Z t H1 d ⟨g.p.w, g.p.h, (g.p.cells.map fun c => f c.1 c.2).toArray⟩ g.q) {q : Addr} (nq : H1 q = none) : Q (.ref q) (upd H1 q (.lst [nV (diffs g.p.pixels.toList (g.p.cells.map fun c => f c.1 c.2))])) := by
  have ok := hg.p.with_ hf
  have nqH : H q = none := by
    cases e : H q with
    | none => rfl
    | some o =>
      obtain ⟨dx, pa, qa, h1, _⟩ := hD
      rw [s _ _ e (fun e2 => by rw [e2, h1] at nq; cases nq)] at nq
      cases nq
  refine k _ q (sameBut_made s (same_new nq)) nqH ?_ ⟨Same.desk (same_new nq) hD, ok, hg.q, hg.nd, SameBut.tr (sameBut_made s (same_new nq)) hg.nd hg.tr⟩
  rw [upd_same]
  have e := diffs_changed hg.p ok rfl rfl
  have e2 : (g.p.with_ f).pixels.toList = g.p.cells.map fun c => f c.1 c.2 := List.toList_toArray
  rw [e2] at e
  show some (HO.lst [nV (diffs g.p.pixels.toList (g.p.cells.map fun c => f c.1 c.2))]) = some (HO.lst [V.int ((Sq45.changed g.p (g.p.with_ f) : Nat) : Int)])
  rw [← e]
  rfl
theorem round_le {n d b : Nat} (hd : 1 ≤ d) (h : n ≤ b * d) : Sq45.rounded (n : Int) d ≤ b := by
  unfold Sq45.rounded
  have h1 : (2 * (n : Int) + d) < ((b : Int) + 1) * ((2 * d : Nat) : Int) := by
    have h2 : (n : Int) ≤ (b : Int) * d := by rw [← Int.natCast_mul]; omega
    rw [Int.natCast_mul, Int.add_mul, Int.one_mul]
    have h3 : (b : Int) * ((2 : Nat) * (d : Int)) = 2 * ((b : Int) * d) := by
      rw [← Int.mul_assoc, Int.mul_comm (b : Int) ((2 : Nat) : Int), Int.mul_assoc]
      rfl
    rw [h3]
    omega
  have := Int.ediv_lt_of_lt_mul (show (0 : Int) < ((2 * d : Nat) : Int) by omega) h1
  omega
theorem mean_le {l : List Nat} (h : ∀ x ∈ l, x ≤ 255) (hne : l ≠ []) : Sq45.mean l ≤ 255 := by
  unfold Sq45.mean
  have h1 : 1 ≤ l.length := List.length_pos_iff.mpr hne
  rw [Nat.max_eq_right h1]
  have h2 := sum_le h
  rw [Nat.mul_comm] at h2
  have := round_le h1 h2
  omega
theorem window_le {p : Sq45.Picture} (o : PicOk p) {sort r x y c : Nat} (h : c ∈ p.window sort r x y) : c ≤ 255 := by
  rw [← win_window] at h
  obtain ⟨z, h1, h2⟩ := List.mem_filterMap.mp h
  have e : z = some c := h2
  subst e
  exact win_le o h1
def sp_answer_mean (_ : PySem.W.Frag) (Z : Adr) : Sp := fun vs H Q _ => ∃ (t d : Addr) (s r : Nat) (g : Sq45.House), vs = [.ref d, .int (s : Int), .int (r : Int)] ∧ HouseAt Z t H d g ∧ HSp Z t d H (g.step (.mean s r)) Q
abbrev s_answer_mean : Stmt := top 41
abbrev n_answer_mean : List Str := ["desk", "sort", "r", "windows", "window"]
abbrev p_answer_mean : List Str := ["desk", "sort", "r"]
theorem sc_answer_mean : FnScope n_answer_mean p_answer_mean (defScope s_answer_mean) := ⟨rfl, rfl, rfl, by decide +kernel, rfl, by decide +kernel, by decide +kernel⟩
theorem ok_answer_mean (T : Txt K mg Z) (c_is_window : Okd P w K mg base "is_window" p_is_window 1 (sp_is_window K Z)) (c_all_windows : Okd P w K mg base "all_windows" p_all_windows 5 (sp_all_windows K Z)) (c_repaint : Okd P w K mg base "repaint" p_repaint 3 (sp_repaint K Z)) (c_mean_colour : Okd P w K mg base "mean_colour" p_mean_colour 2 (sp_mean_colour K Z)) (D : Dn K mg "answer_mean" s_answer_mean p_answer_mean) : Okd P w K mg base "answer_mean" p_answer_mean 6 (sp_answer_mean K Z) := by
  obtain ⟨f, fd, D1, D2, D3⟩ := D
  obtain ⟨a_is_window, d_is_window, m_is_window, kp_is_window, b_is_window, F_is_window⟩ := c_is_window
  obtain ⟨a_all_windows, d_all_windows, m_all_windows, kp_all_windows, b_all_windows, F_all_windows⟩ := c_all_windows
  obtain ⟨a_repaint, d_repaint, m_repaint, kp_repaint, b_repaint, F_repaint⟩ := c_repaint
  obtain ⟨a_mean_colour, d_mean_colour, m_mean_colour, kp_mean_colour, b_mean_colour, F_mean_colour⟩ := c_mean_colour
  refine ⟨f, fd, D2, D1.kp, D3, D1.ok sc_answer_mean (fun vs H Q E h => ?_) (fun cdv A outer s H vs Q E hr h => ?_)⟩
  · first | (obtain ⟨_, rfl, _⟩ := h; rfl) | (obtain ⟨_, _, rfl, _⟩ := h; rfl) | (obtain ⟨_, _, _, rfl, _⟩ := h; rfl) | (obtain ⟨_, _, _, _, rfl, _⟩ := h; rfl) | (obtain ⟨_, _, _, _, _, rfl, _⟩ := h; rfl) | (obtain ⟨_, _, _, _, _, _, rfl, _⟩ := h; rfl) | (obtain ⟨_, _, _, _, _, _, _, rfl, _⟩ := h; rfl) | (obtain ⟨_, _, _, _, _, _, _, _, rfl, _⟩ := h; rfl) | (obtain ⟨_, _, _, _, _, _, _, _, _, rfl, _⟩ := h; rfl) | (obtain ⟨_, _, _, _, _, _, _, _, _, _, rfl, _⟩ := h; rfl) | (obtain ⟨_, _, _, _, _, _, _, _, _, _, _, rfl, _⟩ := h; rfl) | (obtain ⟨_, _, _, _, _, _, _, _, _, _, _, _, rfl, _⟩ := h; rfl) | (obtain ⟨_, _, _, _, _, _, _, _, _, _, _, _, _, rfl, _⟩ := h; rfl) | (obtain ⟨rfl, _⟩ := h; rfl)
  · refine ⟨_, (pss_cons (ps_if (pt_not (pt_val (pe_call F_is_window (hr.mono (by decide)) (by rfl) m_is_window kp_is_window b_is_window .nil pass0 (pa_cons (pv 1) (pa_cons (pv 2) pa_nil))))) (pss_one (ps_ret (pe_lst (pa_cons (pe_un un_neg pe_int) pa_nil)))) pss_nil)
        (pss_cons (ps_set (i := 3) sc_answer_mean.nd rfl (Or.inl rfl) (pe_call F_all_windows (hr.mono (by decide)) (by rfl) m_all_windows kp_all_windows b_all_windows .nil pass0 (pa_cons (pe_fld (pv 0) rfl) (pa_cons (pv 1) (pa_cons (pv 2) pa_nil)))))
        (pss_one (ps_ret (pe_lst (pa_cons (pe_call F_repaint (hr.mono (by decide)) (by rfl) m_repaint kp_repaint b_repaint .nil pass0 (pa_cons (pv 0) (pa_cons (pe_lc (own := [("window", 4)]) (g := gName 4) (tt := tYes) rfl sc_answer_mean.nd (pi_list (pv 3)) (blkOk_by (N := n_answer_mean) (sc := defScope s_answer_mean) (by decide +kernel)) (fun _ _ _ _ _ => (pg_name (i := 4) sc_answer_mean.nd rfl (Or.inl rfl))) (fun _ _ _ _ _ => pts_nil) (fun _ _ _ _ _ => (pe_call F_mean_colour (hr.mono (by decide)) (by rfl) m_mean_colour kp_mean_colour b_mean_colour .nil pass0 (pa_cons (pv 4) pa_nil)))) pa_nil))) pa_nil)))))), ?_⟩
    obtain ⟨t, d, s, r, g, rfl, hg, k⟩ := h
    rw [step_mean] at k
    refine ⟨_, rfl, _, rfl, s, r, rfl, _, rfl, ifN (fun c => ?_) (fun c => ?_)⟩
    · rw [if_pos (by omega)] at k
      exact ⟨_, rfl, by show 1 ≤ sizeLine; decide, fun q nq => HSp.refused k hg (Same.refl _) nq⟩
    rw [if_neg (by omega)] at k
    obtain ⟨dx, pa, qa, hd, hp, hq⟩ := id hg.at_
    refine ⟨_, rfl, d, _, dx, _, _, rfl, hd, T.cl_Desk, T.na_Desk_picture, deskF_p pa qa, _, rfl, _, rfl, pa, g.p, s, r, rfl, hp.pic, hg.p, c.1, c.2, fun H1 wl as s1 nwl ewl hw => ?_⟩
    refine ⟨_, rfl, _, rfl, wl, rfl, ⟨_, SqL.of ewl⟩, fun D hD => ?_⟩
    have hln : (as.map V.ref).length = g.p.cells.length := by rw [List.length_map, hw.len]
    have hsz : g.p.cells.length ≤ 256 := by rw [cells_len, ← hg.p.sz]; exact hg.p.size
    refine lc_w (walk_list (xs := as.map V.ref)) (fun i => (g.p.cells[i]?).map fun c => nV (Sq45.mean (g.p.window s r c.1 c.2))) hD (by rw [hln]; exact Nat.le_trans hsz (by decide)) (fun H2 s2 => SqL.of (s2 _ _ ewl)) ?_ ?_
    · rintro i x H2' H2 hi s2 ⟨rfl, hx⟩ R hR
      obtain ⟨b, hb, rfl⟩ := at_map hx
      rw [hln] at hi
      have hc : g.p.cells[i]? = some g.p.cells[i] := List.getElem?_eq_getElem hi
      obtain ⟨c1, c2⟩ := cells_mem (List.getElem_mem hi)
      rw [hc] at hR
      have hwin := hw.at_ i b _ hb hc
      refine ⟨rfl, _, rfl, b, _, rfl, s2 _ _ hwin, win_len2 c.2, win_ne c1 c2, fun H3 s3 => ?_⟩
      have := hR H3 s3
      rw [Option.map_some] at this
      rw [win_window]
      exact this
    · intro H2 s2 e2
      rw [hln, range_at] at e2
      refine ⟨t, d, D, g.p, g.q, g.p.cells.map fun c => Sq45.mean (g.p.window s r c.1 c.2), rfl, Same.desk (s1.trans s2) hg.at_, hg.ne (s1.free hD), by rw [e2, List.map_map]; rfl, hg.p.size, fun H3 sb hD3 => ?_⟩
      refine ⟨by show 1 ≤ sizeLine; decide, fun q nq => ?_⟩
      refine to_done (f := fun x y => Sq45.mean (g.p.window s r x y)) k hg (fun x y hx hy => mean_le (fun z hz => window_le hg.p hz) ?_) ((Same.but (s1.trans s2)).trans sb) hD3 nq
      rw [← win_window]
      exact win_ne hx hy
end
end Tw

set_option Elab.async false
set_option linter.all false
set_option maxRecDepth 100000
set_option maxHeartbeats 2000000
namespace Tw
open PySem PySem.Spec PyProof.Rows L2
section
variable {P : Program} {w : World} {K : PySem.W.Frag} {mg : Str → Option Value} {base : Heap} {Z : Adr}
theorem ranked_le {p q : Nat} {l : List Nat} (h : ∀ x ∈ l, x ≤ 255) : Sq45.ranked p q l ≤ 255 := by
  unfold Sq45.ranked
  cases e : (Sq45.sorted l)[p * (l.length - 1) / q]? with
  | none => exact Nat.zero_le _
  | some v => exact h v ((sorted_perm l).mem_iff.mp (List.mem_of_getElem? e))
def sp_answer_rank (_ : PySem.W.Frag) (Z : Adr) : Sp := fun vs H Q _ => ∃ (t d : Addr) (s r p q : Nat) (g : Sq45.House), vs = [.ref d, .int (s : Int), .int (r : Int), .int (p : Int), .int (q : Int)] ∧ HouseAt Z t H d g ∧ q < 2 ^ 64 ∧ HSp Z t d H (g.step (.rank s r p q)) Q
abbrev s_answer_rank : Stmt := top 42
abbrev n_answer_rank : List Str := ["desk", "sort", "r", "p", "q", "windows", "window"]
abbrev p_answer_rank : List Str := ["desk", "sort", "r", "p", "q"]
theorem sc_answer_rank : FnScope n_answer_rank p_answer_rank (defScope s_answer_rank) := ⟨rfl, rfl, rfl, by decide +kernel, rfl, by decide +kernel, by decide +kernel⟩
theorem ok_answer_rank (T : Txt K mg Z) (c_is_window : Okd P w K mg base "is_window" p_is_window 1 (sp_is_window K Z)) (c_all_windows : Okd P w K mg base "all_windows" p_all_windows 5 (sp_all_windows K Z)) (c_repaint : Okd P w K mg base "repaint" p_repaint 3 (sp_repaint K Z)) (c_rank_colour : Okd P w K mg base "rank_colour" p_rank_colour 2 (sp_rank_colour K Z)) (D : Dn K mg "answer_rank" s_answer_rank p_answer_rank) : Okd P w K mg base "answer_rank" p_answer_rank 6 (sp_answer_rank K Z) := by
  obtain ⟨f, fd, D1, D2, D3⟩ := D
  obtain ⟨a_is_window, d_is_window, m_is_window, kp_is_window, b_is_window, F_is_window⟩ := c_is_window
  obtain ⟨a_all_windows, d_all_windows, m_all_windows, kp_all_windows, b_all_windows, F_all_windows⟩ := c_all_windows
  obtain ⟨a_repaint, d_repaint, m_repaint, kp_repaint, b_repaint, F_repaint⟩ := c_repaint
  obtain ⟨a_rank_colour, d_rank_colour, m_rank_colour, kp_rank_colour, b_rank_colour, F_rank_colour⟩ := c_rank_colour
  refine ⟨f, fd, D2, D1.kp, D3, D1.ok sc_answer_rank (fun vs H Q E h => ?_) (fun cdv A outer s H vs Q E hr h => ?_)⟩
  · first | (obtain ⟨_, rfl, _⟩ := h; rfl) | (obtain ⟨_, _, rfl, _⟩ := h; rfl) | (obtain ⟨_, _, _, rfl, _⟩ := h; rfl) | (obtain ⟨_, _, _, _, rfl, _⟩ := h; rfl) | (obtain ⟨_, _, _, _, _, rfl, _⟩ := h; rfl) | (obtain ⟨_, _, _, _, _, _, rfl, _⟩ := h; rfl) | (obtain ⟨_, _, _, _, _, _, _, rfl, _⟩ := h; rfl) | (obtain ⟨_, _, _, _, _, _, _, _, rfl, _⟩ := h; rfl) | (obtain ⟨_, _, _, _, _, _, _, _, _, rfl, _⟩ := h; rfl) | (obtain ⟨_, _, _, _, _, _, _, _, _, _, rfl, _⟩ := h; rfl) | (obtain ⟨_, _, _, _, _, _, _, _, _, _, _, rfl, _⟩ := h; rfl) | (obtain ⟨_, _, _, _, _, _, _, _, _, _, _, _, rfl, _⟩ := h; rfl) | (obtain ⟨_, _, _, _, _, _, _, _, _, _, _, _, _, rfl, _⟩ := h; rfl) | (obtain ⟨rfl, _⟩ := h; rfl)
  · refine ⟨_, (pss_cons (ps_if (PW.pt (pw_or (pt_not (pt_val (pe_call F_is_window (hr.mono (by decide)) (by rfl) m_is_window kp_is_window b_is_window .nil pass0 (pa_cons (pv 1) (pa_cons (pv 2) pa_nil))))) (pw_or (pt_cmpR op_eq (pv 4) pe_int (nomark _)) (pw_or1 (pt_cmpR op_gt (pv 3) (pv 4) (nomark _)))))) (pss_one (ps_ret (pe_lst (pa_cons (pe_un un_neg pe_int) pa_nil)))) pss_nil)
        (pss_cons (ps_set (i := 5) sc_answer_rank.nd rfl (Or.inl rfl) (pe_call F_all_windows (hr.mono (by decide)) (by rfl) m_all_windows kp_all_windows b_all_windows .nil pass0 (pa_cons (pe_fld (pv 0) rfl) (pa_cons (pv 1) (pa_cons (pv 2) pa_nil)))))
        (pss_one (ps_ret (pe_lst (pa_cons (pe_call F_repaint (hr.mono (by decide)) (by rfl) m_repaint kp_repaint b_repaint .nil pass0 (pa_cons (pv 0) (pa_cons (pe_lc (own := [("window", 6)]) (g := gName 6) (tt := tYes) rfl sc_answer_rank.nd (pi_list (pv 5)) (blkOk_by (N := n_answer_rank) (sc := defScope s_answer_rank) (by decide +kernel)) (fun _ _ _ _ _ => (pg_name (i := 6) sc_answer_rank.nd rfl (Or.inl rfl))) (fun _ _ _ _ _ => pts_nil) (fun _ _ _ _ _ => (pe_call F_rank_colour (hr.mono (by decide)) (by rfl) m_rank_colour kp_rank_colour b_rank_colour .nil pass0 (pa_cons (pv 6) (pa_cons (pv 3) (pa_cons (pv 4) pa_nil)))))) pa_nil))) pa_nil)))))), ?_⟩
    obtain ⟨t, d, s, r, p, q, g, rfl, hg, hq64, k⟩ := h
    rw [step_rank] at k
    have ref : (3 < s ∨ 4 < r ∨ q = 0 ∨ q < p) → tRet (tLst (tCons (tUn (rU fun i => .int (-i)) (tC (.int 1))) tNil)) { nx := fun _ H' => Q .non H', rt := Q } [] H := by
      intro e
      rw [if_pos e] at k
      exact ⟨_, rfl, by show 1 ≤ sizeLine; decide, fun q nq => HSp.refused k hg (Same.refl _) nq⟩
    refine ⟨_, rfl, _, rfl, s, r, rfl, _, rfl, ifN (fun c => ref (by omega)) (fun c => ⟨_, rfl, rfl, _, rfl, ifEq (fun c2 => ref (by omega)) (fun c2 => ⟨_, rfl, _, rfl, _, _, rfl, rfl, _, rfl, ifD (fun c3 => ref (by omega)) (fun c3 => ?_)⟩)⟩)⟩
    rw [if_neg (by omega)] at k
    obtain ⟨dx, pa, qa, hd, hp, hq⟩ := id hg.at_
    refine ⟨_, rfl, d, _, dx, _, _, rfl, hd, T.cl_Desk, T.na_Desk_picture, deskF_p pa qa, _, rfl, _, rfl, pa, g.p, s, r, rfl, hp.pic, hg.p, c.1, c.2, fun H1 wl as s1 nwl ewl hw => ?_⟩
    refine ⟨_, rfl, _, rfl, wl, rfl, ⟨_, SqL.of ewl⟩, fun D hD => ?_⟩
    have hln : (as.map V.ref).length = g.p.cells.length := by rw [List.length_map, hw.len]
    have hsz : g.p.cells.length ≤ 256 := by rw [cells_len, ← hg.p.sz]; exact hg.p.size
    refine lc_w (walk_list (xs := as.map V.ref)) (fun i => (g.p.cells[i]?).map fun c => nV (Sq45.ranked p q (g.p.window s r c.1 c.2))) hD (by rw [hln]; exact Nat.le_trans hsz (by decide)) (fun H2 s2 => SqL.of (s2 _ _ ewl)) ?_ ?_
    · rintro i x H2' H2 hi s2 ⟨rfl, hx⟩ R hR
      obtain ⟨b, hb, rfl⟩ := at_map hx
      rw [hln] at hi
      have hc : g.p.cells[i]? = some g.p.cells[i] := List.getElem?_eq_getElem hi
      obtain ⟨c1, c4⟩ := cells_mem (List.getElem_mem hi)
      rw [hc] at hR
      have hwin := hw.at_ i b _ hb hc
      refine ⟨rfl, _, rfl, _, rfl, _, rfl, b, _, p, q, rfl, s2 _ _ hwin, win_len2 c.2, win_ne c1 c4, by omega, by omega, hq64, fun H3 s3 => ?_⟩
      have := hR H3 s3
      rw [Option.map_some] at this
      rw [win_window]
      exact this
    · intro H2 s2 e2
      rw [hln, range_at] at e2
      refine ⟨t, d, D, g.p, g.q, g.p.cells.map fun c => Sq45.ranked p q (g.p.window s r c.1 c.2), rfl, Same.desk (s1.trans s2) hg.at_, hg.ne (s1.free hD), by rw [e2, List.map_map]; rfl, hg.p.size, fun H3 sb hD3 => ?_⟩
      refine ⟨by show 1 ≤ sizeLine; decide, fun q nq => ?_⟩
      exact to_done (f := fun x y => Sq45.ranked p _ (g.p.window s r x y)) k hg (fun x y hx hy => ranked_le fun z hz => window_le hg.p hz) ((Same.but (s1.trans s2)).trans sb) hD3 nq
theorem with_congr {p : Sq45.Picture} {f g : Nat → Nat → Nat} (h : ∀ x y, x < p.w → y < p.h → f x y = g x y) : p.with_ f = p.with_ g := by
  unfold Sq45.Picture.with_
  have e : (p.cells.map fun c => f c.1 c.2) = p.cells.map fun c => g c.1 c.2 := List.map_congr_left fun c hc => by
    obtain ⟨h1, h2⟩ := cells_mem hc
    exact h _ _ h1 h2
  rw [e]
theorem even_eq {p : Sq45.Picture} (o : PicOk p) : p.even = p.with_ fun x y => evenC p.pixels.toList (upto p.pixels.toList ((p.pixels.toList.min?).getD 0)) (p.at_ x y) := by
  have hu : ∀ v, p.upTo v = upto p.pixels.toList v := fun v => by unfold Sq45.Picture.upTo upto; rw [o.all]
  unfold Sq45.Picture.even
  dsimp only
  refine with_congr fun x y hx hy => ?_
  have h255 := o.at_le hx hy
  rw [o.all, List.getElem?_toArray, List.getElem?_map, List.getElem?_range (by omega)]
  show (if p.pixels.toList.length = p.upTo ((p.pixels.toList.min?).getD 0) then p.at_ x y else (Sq45.rounded (255 * ((p.upTo (p.at_ x y) : Int) - (p.upTo ((p.pixels.toList.min?).getD 0) : Nat))) (p.pixels.toList.length - p.upTo ((p.pixels.toList.min?).getD 0))).toNat) = _
  rw [hu, hu]
  rfl
theorem evenC_le {c : List Nat} {v : Nat} (hv : v ≤ 255) : evenC c (upto c ((c.min?).getD 0)) v ≤ 255 := by
  unfold evenC
  split
  · exact hv
  · have h1 := upto_le c v
    have h2 := upto_le c ((c.min?).getD 0)
    have h3 : (255 * ((upto c v : Int) - (upto c ((c.min?).getD 0) : Nat))) ≤ ((255 * (c.length - upto c ((c.min?).getD 0)) : Nat) : Int) := by omega
    have h4 : Sq45.rounded (255 * ((upto c v : Int) - (upto c ((c.min?).getD 0) : Nat))) (c.length - upto c ((c.min?).getD 0)) ≤ Sq45.rounded ((255 * (c.length - upto c ((c.min?).getD 0)) : Nat) : Int) (c.length - upto c ((c.min?).getD 0)) := by
      unfold Sq45.rounded
      exact Int.ediv_le_ediv (by omega) (by omega)
    have h5 := round_le (n := 255 * (c.length - upto c ((c.min?).getD 0))) (d := c.length - upto c ((c.min?).getD 0)) (b := 255) (by omega) (Nat.le_refl _)
    omega
theorem even_list {p : Sq45.Picture} (o : PicOk p) : evenL p.pixels.toList = p.cells.map fun c => evenC p.pixels.toList (upto p.pixels.toList ((p.pixels.toList.min?).getD 0)) (p.at_ c.1 c.2) := by
  unfold evenL
  generalize evenC p.pixels.toList (upto p.pixels.toList ((p.pixels.toList.min?).getD 0)) = F
  rw [← o.all]
  unfold Sq45.Picture.all
  rw [List.map_map]
  rfl
theorem PicOk.ne {p : Sq45.Picture} (o : PicOk p) : p.pixels.toList ≠ [] := by
  intro e
  have h := o.sz
  have h1 := Nat.mul_le_mul o.w1 o.h1
  have h2 : p.pixels.toList.length = p.pixels.size := Array.length_toList
  rw [e] at h2
  simp at h2
  omega
def sp_answer_even (_ : PySem.W.Frag) (Z : Adr) : Sp := fun vs H Q _ => ∃ (t d : Addr) (g : Sq45.House), vs = [.ref d] ∧ HouseAt Z t H d g ∧ HSp Z t d H (g.step .even) Q
abbrev s_answer_even : Stmt := top 45
abbrev n_answer_even : List Str := ["desk"]
abbrev p_answer_even : List Str := ["desk"]
theorem sc_answer_even : FnScope n_answer_even p_answer_even (defScope s_answer_even) := ⟨rfl, rfl, rfl, by decide +kernel, rfl, by decide +kernel, by decide +kernel⟩
theorem ok_answer_even (T : Txt K mg Z) (c_repaint : Okd P w K mg base "repaint" p_repaint 3 (sp_repaint K Z)) (c_made_even : Okd P w K mg base "made_even" p_made_even 2 (sp_made_even K Z)) (D : Dn K mg "answer_even" s_answer_even p_answer_even) : Okd P w K mg base "answer_even" p_answer_even 4 (sp_answer_even K Z) := by
  obtain ⟨f, fd, D1, D2, D3⟩ := D
  obtain ⟨a_repaint, d_repaint, m_repaint, kp_repaint, b_repaint, F_repaint⟩ := c_repaint
  obtain ⟨a_made_even, d_made_even, m_made_even, kp_made_even, b_made_even, F_made_even⟩ := c_made_even
  refine ⟨f, fd, D2, D1.kp, D3, D1.ok sc_answer_even (fun vs H Q E h => ?_) (fun cdv A outer s H vs Q E hr h => ?_)⟩
  · first | (obtain ⟨_, rfl, _⟩ := h; rfl) | (obtain ⟨_, _, rfl, _⟩ := h; rfl) | (obtain ⟨_, _, _, rfl, _⟩ := h; rfl) | (obtain ⟨_, _, _, _, rfl, _⟩ := h; rfl) | (obtain ⟨_, _, _, _, _, rfl, _⟩ := h; rfl) | (obtain ⟨_, _, _, _, _, _, rfl, _⟩ := h; rfl) | (obtain ⟨_, _, _, _, _, _, _, rfl, _⟩ := h; rfl) | (obtain ⟨_, _, _, _, _, _, _, _, rfl, _⟩ := h; rfl) | (obtain ⟨_, _, _, _, _, _, _, _, _, rfl, _⟩ := h; rfl) | (obtain ⟨_, _, _, _, _, _, _, _, _, _, rfl, _⟩ := h; rfl) | (obtain ⟨_, _, _, _, _, _, _, _, _, _, _, rfl, _⟩ := h; rfl) | (obtain ⟨_, _, _, _, _, _, _, _, _, _, _, _, rfl, _⟩ := h; rfl) | (obtain ⟨_, _, _, _, _, _, _, _, _, _, _, _, _, rfl, _⟩ := h; rfl) | (obtain ⟨rfl, _⟩ := h; rfl)
  · refine ⟨_, (pss_one (ps_ret (pe_lst (pa_cons (pe_call F_repaint (hr.mono (by decide)) (by rfl) m_repaint kp_repaint b_repaint .nil pass0 (pa_cons (pv 0) (pa_cons (pe_call F_made_even (hr.mono (by decide)) (by rfl) m_made_even kp_made_even b_made_even .nil pass0 (pa_cons (pe_fld (pe_fld (pv 0) rfl) rfl) pa_nil)) pa_nil))) pa_nil)))), ?_⟩
    obtain ⟨t, d, g, rfl, hg, k⟩ := h
    rw [step_even, even_eq hg.p] at k
    obtain ⟨dx, pa, qa, hd, ⟨dp, ca, hP, hC, _⟩, hq⟩ := id hg.at_
    refine ⟨_, rfl, _, rfl, d, _, dx, _, _, rfl, hd, T.cl_Desk, T.na_Desk_picture, deskF_p pa qa, pa, _, dp, _, _, rfl, hP, T.cl_Picture, T.na_Picture_colours, picF_c g.p ca, ca, g.p.pixels.toList, rfl, hC, hg.p.ne, by rw [Array.length_toList]; exact hg.p.size, hg.p.le, fun H1 l s1 nl el => ?_⟩
    rw [even_list hg.p] at el
    refine ⟨t, d, l, g.p, g.q, _, rfl, Same.desk s1 hg.at_, hg.ne nl, el, hg.p.size, fun H3 sb hD3 => ?_⟩
    refine ⟨by show 1 ≤ sizeLine; decide, fun q nq => ?_⟩
    exact to_done (f := fun x y => evenC g.p.pixels.toList (upto g.p.pixels.toList ((g.p.pixels.toList.min?).getD 0)) (g.p.at_ x y)) k hg (fun x y hx hy => evenC_le (hg.p.at_le hx hy)) ((Same.but s1).trans sb) hD3 nq
theorem parted_eq {p : Sq45.Picture} (o : PicOk p) (v : Nat) : p.parted v = partedL p.pixels.toList v := by
  unfold Sq45.Picture.parted partedL
  rw [o.all]
theorem parting_eq {p : Sq45.Picture} (o : PicOk p) : p.parting = (partFold p.pixels.toList 256).1 := by
  unfold Sq45.Picture.parting partFold
  dsimp only
  rw [List.foldl_map, parted_eq o]
  congr 2
  funext m v
  rw [parted_eq o]
  rfl
def sp_answer_parting (_ : PySem.W.Frag) (Z : Adr) : Sp := fun vs H Q _ => ∃ (t d : Addr) (g : Sq45.House), vs = [.ref d] ∧ HouseAt Z t H d g ∧ HSp Z t d H (g.step .parting) Q
abbrev s_answer_parting : Stmt := top 46
abbrev n_answer_parting : List Str := ["desk", "colours", "best", "apart"]
abbrev p_answer_parting : List Str := ["desk"]
theorem sc_answer_parting : FnScope n_answer_parting p_answer_parting (defScope s_answer_parting) := ⟨rfl, rfl, rfl, by decide +kernel, rfl, by decide +kernel, by decide +kernel⟩
theorem ok_answer_parting (T : Txt K mg Z) (c_best_parting : Okd P w K mg base "best_parting" p_best_parting 2 (sp_best_parting K Z)) (c_how_far_apart : Okd P w K mg base "how_far_apart" p_how_far_apart 1 (sp_how_far_apart K Z)) (D : Dn K mg "answer_parting" s_answer_parting p_answer_parting) : Okd P w K mg base "answer_parting" p_answer_parting 3 (sp_answer_parting K Z) := by
  obtain ⟨f, fd, D1, D2, D3⟩ := D
  obtain ⟨a_best_parting, d_best_parting, m_best_parting, kp_best_parting, b_best_parting, F_best_parting⟩ := c_best_parting
  obtain ⟨a_how_far_apart, d_how_far_apart, m_how_far_apart, kp_how_far_apart, b_how_far_apart, F_how_far_apart⟩ := c_how_far_apart
  refine ⟨f, fd, D2, D1.kp, D3, D1.ok sc_answer_parting (fun vs H Q E h => ?_) (fun cdv A outer s H vs Q E hr h => ?_)⟩
  · first | (obtain ⟨_, rfl, _⟩ := h; rfl) | (obtain ⟨_, _, rfl, _⟩ := h; rfl) | (obtain ⟨_, _, _, rfl, _⟩ := h; rfl) | (obtain ⟨_, _, _, _, rfl, _⟩ := h; rfl) | (obtain ⟨_, _, _, _, _, rfl, _⟩ := h; rfl) | (obtain ⟨_, _, _, _, _, _, rfl, _⟩ := h; rfl) | (obtain ⟨_, _, _, _, _, _, _, rfl, _⟩ := h; rfl) | (obtain ⟨_, _, _, _, _, _, _, _, rfl, _⟩ := h; rfl) | (obtain ⟨_, _, _, _, _, _, _, _, _, rfl, _⟩ := h; rfl) | (obtain ⟨_, _, _, _, _, _, _, _, _, _, rfl, _⟩ := h; rfl) | (obtain ⟨_, _, _, _, _, _, _, _, _, _, _, rfl, _⟩ := h; rfl) | (obtain ⟨_, _, _, _, _, _, _, _, _, _, _, _, rfl, _⟩ := h; rfl) | (obtain ⟨_, _, _, _, _, _, _, _, _, _, _, _, _, rfl, _⟩ := h; rfl) | (obtain ⟨rfl, _⟩ := h; rfl)
  · refine ⟨_, (pss_cons (ps_set (i := 1) sc_answer_parting.nd rfl (Or.inl rfl) (pe_fld (pe_fld (pv 0) rfl) rfl))
        (pss_cons (ps_set (i := 2) sc_answer_parting.nd rfl (Or.inl rfl) (pe_call F_best_parting (hr.mono (by decide)) (by rfl) m_best_parting kp_best_parting b_best_parting .nil pass0 (pa_cons (pv 1) pa_nil)))
        (pss_cons (ps_set (i := 3) sc_answer_parting.nd rfl (Or.inl rfl) (pe_call F_how_far_apart (hr.mono (by decide)) (by rfl) m_how_far_apart kp_how_far_apart b_how_far_apart .nil pass0 (pa_cons (pv 1) (pa_cons (pv 2) pa_nil))))
        (pss_one (ps_ret (pe_lst (pa_cons (pv 2) (pa_cons (pe_ix ix_tup (pv 3) pe_int (fun _ _ => rfl)) (pa_cons (pe_ix ix_tup (pv 3) pe_int (fun _ _ => rfl)) pa_nil))))))))), ?_⟩
    obtain ⟨ta, d, g, rfl, hg, k⟩ := h
    rw [step_parting, parted_eq hg.p, parting_eq hg.p] at k
    obtain ⟨dx, pa, qa, hd, ⟨dp, ca, hP, hC, _⟩, hq⟩ := id hg.at_
    have hl : g.p.pixels.toList.length ≤ 256 := by rw [Array.length_toList]; exact hg.p.size
    refine ⟨_, rfl, d, _, dx, _, _, rfl, hd, T.cl_Desk, T.na_Desk_picture, deskF_p pa qa, pa, _, dp, _, _, rfl, hP, T.cl_Picture, T.na_Picture_colours, picF_c g.p ca, ?_⟩
    refine ⟨_, rfl, ca, _, rfl, hC, hl, hg.p.le, fun H1 s1 => ?_⟩
    refine ⟨_, rfl, _, rfl, ca, _, _, rfl, s1 _ _ hC, hl, hg.p.le, fun H2 t s2 nt et => ?_⟩
    refine ⟨_, rfl, _, rfl, t, _, _, _, rfl, rfl, SqT.of et, atI_nat (j := 0) rfl, _, rfl, t, _, _, _, rfl, rfl, SqT.of et, atI_nat (j := 1) rfl, by show 3 ≤ sizeLine; decide, fun q nq => ?_⟩
    have s3 := (s1.trans s2).trans (same_new (o := .lst [nV (partFold g.p.pixels.toList 256).1, nV (partedL g.p.pixels.toList (partFold g.p.pixels.toList 256).1).1, nV (partedL g.p.pixels.toList (partFold g.p.pixels.toList 256).1).2]) nq)
    exact k _ q (Same.but s3) ((s1.trans s2).free nq) upd_same (Same.house s3 hg)
end
end Tw

set_option Elab.async false
set_option linter.all false
set_option maxRecDepth 100000
set_option maxHeartbeats 2000000
namespace Tw
open PySem PySem.Spec PyProof.Rows L2
section
variable {P : Program} {w : World} {K : PySem.W.Frag} {mg : Str → Option Value} {base : Heap} {Z : Adr}
def wRef (s d : Nat) (o l m : List Nat) : Int := match Sq45.reach l.length with
  | none => -3
  | some _ => if l.length ≠ m.length then -3 else if 3 < s ∨ d = 0 ∨ 1000 < d ∨ ((o ++ l ++ m).any fun z => decide (1000 < z)) = true then -1 else 0
def sp_weigh_refusal (_ : PySem.W.Frag) (_ : Adr) : Sp := fun vs H Q _ => ∃ (s d : Nat) (ao al am : Addr) (o l m : List Nat), vs = [.int (s : Int), .int (d : Int), .ref ao, .ref al, .ref am] ∧ H ao = some (.lst (o.map nV)) ∧ H al = some (.lst (l.map nV)) ∧ H am = some (.lst (m.map nV)) ∧
  o ≠ [] ∧ o.length ≤ 1024 ∧ l.length ≤ 1024 ∧ m.length ≤ 1024 ∧ ∀ H', Same H H' → Q (.int (wRef s d o l m)) H'
theorem reaches_get {K : PySem.W.Frag} {mg : Str → Option Value} {Z : Adr} (T : Txt K mg Z) : ∃ get : Int → Option V, KIx K Z.REACHES get ∧ ∀ n : Nat, get (n : Int) = (Sq45.reach n).map nV := by
  obtain ⟨get, hK, hin, h0⟩ := T.k_REACHES
  have h1 := hin (1, 0) (by simp)
  have h9 := hin (9, 1) (by simp)
  have h25 := hin (25, 2) (by simp)
  refine ⟨get, hK, fun n => ?_⟩
  unfold Sq45.reach
  by_cases c1 : n = 1
  · subst c1; exact h1
  by_cases c2 : n = 9
  · subst c2; exact h9
  by_cases c3 : n = 25
  · subst c3; exact h25
  rw [if_neg c1, if_neg c2, if_neg c3]
  exact h0 n (by simp; omega)
abbrev s_weigh_refusal : Stmt := top 43
abbrev n_weigh_refusal : List Str := ["sort", "divisor", "others", "plus", "minus"]
abbrev p_weigh_refusal : List Str := ["sort", "divisor", "others", "plus", "minus"]
theorem sc_weigh_refusal : FnScope n_weigh_refusal p_weigh_refusal (defScope s_weigh_refusal) := ⟨rfl, rfl, rfl, by decide +kernel, rfl, by decide +kernel, by decide +kernel⟩
theorem ok_weigh_refusal (T : Txt K mg Z) (D : Dn K mg "weigh_refusal" s_weigh_refusal p_weigh_refusal) : Okd P w K mg base "weigh_refusal" p_weigh_refusal 1 (sp_weigh_refusal K Z) := by
  obtain ⟨f, fd, D1, D2, D3⟩ := D
  refine ⟨f, fd, D2, D1.kp, D3, D1.ok sc_weigh_refusal (fun vs H Q E h => ?_) (fun cdv A outer s H vs Q E hr h => ?_)⟩
  · first | (obtain ⟨_, rfl, _⟩ := h; rfl) | (obtain ⟨_, _, rfl, _⟩ := h; rfl) | (obtain ⟨_, _, _, rfl, _⟩ := h; rfl) | (obtain ⟨_, _, _, _, rfl, _⟩ := h; rfl) | (obtain ⟨_, _, _, _, _, rfl, _⟩ := h; rfl) | (obtain ⟨_, _, _, _, _, _, rfl, _⟩ := h; rfl) | (obtain ⟨_, _, _, _, _, _, _, rfl, _⟩ := h; rfl) | (obtain ⟨_, _, _, _, _, _, _, _, rfl, _⟩ := h; rfl) | (obtain ⟨_, _, _, _, _, _, _, _, _, rfl, _⟩ := h; rfl) | (obtain ⟨_, _, _, _, _, _, _, _, _, _, rfl, _⟩ := h; rfl) | (obtain ⟨_, _, _, _, _, _, _, _, _, _, _, rfl, _⟩ := h; rfl) | (obtain ⟨_, _, _, _, _, _, _, _, _, _, _, _, rfl, _⟩ := h; rfl) | (obtain ⟨_, _, _, _, _, _, _, _, _, _, _, _, _, rfl, _⟩ := h; rfl) | (obtain ⟨rfl, _⟩ := h; rfl)
  · refine ⟨_, (pss_cons (ps_if (PW.pt (pw_or (pt_cmpR op_notin_kint (pe_callB call_len_seq (by rfl) T.n_len (by decide +kernel) (pa_cons (pv 3) pa_nil)) (pe_glob (v := .ref Z.REACHES) (by rfl) T.g_REACHES rfl) (by rfl)) (pw_or1 (pt_cmpR op_ne (pe_callB call_len_seq (by rfl) T.n_len (by decide +kernel) (pa_cons (pv 4) pa_nil)) (pe_callB call_len_seq (by rfl) T.n_len (by decide +kernel) (pa_cons (pv 3) pa_nil)) (nomark _))))) (pss_one (ps_ret (pe_un un_neg pe_int))) pss_nil)
        (pss_cons (ps_if (PW.pt (pw_or (pt_cmpR op_gt (pv 0) pe_int (nomark _)) (pw_or (pt_cmpR op_lt (pv 1) pe_int (nomark _)) (pw_or1 (pt_cmpR op_gt (pv 1) pe_int (nomark _)))))) (pss_one (ps_ret (pe_un un_neg pe_int))) pss_nil)
        (pss_cons (ps_if (pt_cmpR op_gt (pe_callB (cr_max rfl) (by rfl) T.n_max (by decide +kernel) (pa_cons (pe_op op_cat (pe_op op_cat (pv 2) (pv 3)) (pv 4)) pa_nil)) pe_int (nomark _)) (pss_one (ps_ret (pe_un un_neg pe_int))) pss_nil)
        (pss_one (ps_ret pe_int))))), ?_⟩
    obtain ⟨s, d, ao, al, am, o, l, m, rfl, hO, hL, hM, hne, z1, z2, z3, k⟩ := h
    have r3 : wRef s d o l m = -3 → tRet (tUn (rU fun i => .int (-i)) (tC (.int 3))) { nx := fun _ H' => Q .non H', rt := Q } [] H := by
      intro e
      rw [e] at k
      exact ⟨_, rfl, k H (Same.refl _)⟩
    have r1 : wRef s d o l m = -1 → ∀ H1, Same H H1 → tRet (tUn (rU fun i => .int (-i)) (tC (.int 1))) { nx := fun _ H' => Q .non H', rt := Q } [] H1 := by
      intro e H1 s1
      rw [e] at k
      exact ⟨_, rfl, k H1 s1⟩
    obtain ⟨get, hK, hget⟩ := reaches_get T
    refine ⟨_, rfl, al, _, rfl, .inl (SqL.of hL), _, _, get, rfl, rfl, hK, _, rfl, ?_⟩
    rw [List.length_map, hget]
    cases hr : Sq45.reach l.length with
    | none => exact r3 (by unfold wRef; rw [hr])
    | some r =>
      refine ⟨_, rfl, am, _, rfl, .inl (SqL.of hM), _, rfl, al, _, rfl, .inl (SqL.of hL), rfl, _, rfl, ifNe (fun c => ?_) (fun c => ?_)⟩
      · rw [List.length_map, List.length_map] at c
        exact r3 (by unfold wRef; rw [hr]; exact if_pos (by omega))
      rw [List.length_map, List.length_map] at c
      have w1 : (3 < s ∨ d = 0 ∨ 1000 < d ∨ ((o ++ l ++ m).any fun z => decide (1000 < z)) = true) → wRef s d o l m = -1 := by
        intro e
        unfold wRef
        rw [hr]
        show (if l.length ≠ m.length then (-3 : Int) else _) = _
        rw [if_neg (by omega), if_pos e]
      refine ⟨_, rfl, _, _, rfl, rfl, _, rfl, ifD (fun c1 => r1 (w1 (by omega)) H (Same.refl _)) (fun c1 => ⟨_, rfl, _, _, rfl, rfl, _, rfl, ifD (fun c2 => r1 (w1 (by omega)) H (Same.refl _)) (fun c2 => ⟨_, rfl, _, _, rfl, rfl, _, rfl, ifD (fun c3 => r1 (w1 (by omega)) H (Same.refl _)) (fun c3 => ?_)⟩)⟩)⟩
      refine ⟨_, rfl, _, rfl, ao, al, _, _, rfl, rfl, hO, hL, by rw [List.length_map, List.length_map]; exact Nat.le_trans (show _ ≤ 4096 by omega) (by decide), fun b nb => ?_⟩
      have s1 : Same H (upd H b (.lst (o.map nV ++ l.map nV))) := same_new nb
      refine ⟨_, rfl, b, am, _, _, rfl, rfl, upd_same, s1 _ _ hM, by rw [List.length_append, List.length_map, List.length_map, List.length_map]; exact Nat.le_trans (show _ ≤ 4096 by omega) (by decide), fun e ne => ?_⟩
      have e2 : (o.map nV ++ l.map nV ++ m.map nV) = ((o ++ l ++ m).map fun n : Nat => (n : Int)).map V.int := by rw [← nV_map, List.map_append, List.map_append]
      rw [e2]
      have s2 := s1.trans (same_new (o := .lst (((o ++ l ++ m).map fun n : Nat => (n : Int)).map V.int)) ne)
      refine ⟨e, _, rfl, SqL.of upd_same, ?_, fun x hx hmax => ?_⟩
      · rw [List.length_map]
        have := List.length_pos_iff.mpr hne
        rw [List.length_append, List.length_append]
        omega
      obtain ⟨y, hy, rfl⟩ := List.mem_map.mp hx
      refine ⟨_, _, rfl, rfl, _, rfl, ifD (fun c4 => r1 (w1 (.inr (.inr (.inr (List.any_eq_true.mpr ⟨y, hy, decide_eq_true (by omega)⟩))))) _ s2) (fun c4 => ?_)⟩
      have e3 : wRef s d o l m = 0 := by
        unfold wRef
        rw [hr]
        show (if l.length ≠ m.length then (-3 : Int) else _) = _
        rw [if_neg (by omega), if_neg]
        rintro (h1 | h1 | h1 | h1)
        · omega
        · omega
        · omega
        · obtain ⟨z, hz, hz2⟩ := List.any_eq_true.mp h1
          have := hmax (z : Int) (List.mem_map.mpr ⟨z, hz, rfl⟩)
          have := of_decide_eq_true hz2
          omega
      rw [e3] at k
      exact k _ s2
end
end Tw

set_option Elab.async false
set_option linter.all false
set_option maxRecDepth 100000
set_option maxHeartbeats 2000000
namespace Tw
open PySem PySem.Spec PyProof.Rows L2
section
variable {P : Program} {w : World} {K : PySem.W.Frag} {mg : Str → Option Value} {base : Heap} {Z : Adr}
theorem zip_flat {α β : Type} (f : Nat → List α) (g : Nat → List β) (h : ∀ j, (f j).length = (g j).length) : ∀ l : List Nat, (l.flatMap f).zip (l.flatMap g) = l.flatMap fun j => (f j).zip (g j)
  | [] => rfl
  | a :: l => by rw [List.flatMap_cons, List.flatMap_cons, List.zip_append (h a), zip_flat f g h l, List.flatMap_cons]
theorem list_rangeI (l : List Int) : (List.range l.length).map (fun i => (l[i]?).getD 0) = l := by
  apply List.ext_getElem
  · simp
  · intro i h1 h2
    rw [List.getElem_map, List.getElem_range, List.getElem?_eq_getElem h2]
    rfl
theorem weighed_eq (p : Sq45.Picture) (sort r : Nat) (ws : List Int) (d : Nat) (add : Int) (x y : Nat) (h : ws.length = (2 * r + 1) * (2 * r + 1)) :
    p.weighed sort r ws d add x y = Sq45.clamp (Sq45.rounded (wsum ws (win p sort r x y)) d + add) := by
  have e : wsum ws (win p sort r x y) = ((List.range (2 * r + 1)).flatMap fun (j : Nat) => (List.range (2 * r + 1)).filterMap fun (i : Nat) => match Sq45.place sort p.w ((x : Int) + i - r), Sq45.place sort p.h ((y : Int) + j - r) with
      | some a, some b => some (((ws[j * (2 * r + 1) + i]?).getD 0) * (p.at_ a b : Int))
      | _, _ => none).sum := by
    have ew := list_rangeI ws
    rw [h, ← rect_map] at ew
    unfold wsum
    have ez : (ws.zip (win p sort r x y)) = (List.range (2 * r + 1)).flatMap fun j => (List.range (2 * r + 1)).map fun i => ((ws[j * (2 * r + 1) + i]?).getD 0, cell p sort r x y j i) := by
      conv => lhs; rw [← ew]
      unfold win winRow
      rw [zip_flat _ _ (by intro j; simp)]
      congr 1
      funext j
      rw [zip_map2]
    rw [ez, filterMap_flat]
    congr 2
    funext j
    rw [List.filterMap_map]
    congr 1
    funext i
    unfold cell
    simp only [Function.comp_def]
    cases Sq45.place sort p.w ((x : Int) + i - r) <;> cases Sq45.place sort p.h ((y : Int) + j - r) <;> rfl
  rw [e]
  rfl
theorem reach_some {n r : Nat} (h : Sq45.reach n = some r) : r ≤ 2 ∧ n = (2 * r + 1) * (2 * r + 1) := by
  unfold Sq45.reach at h
  split at h
  · cases h; omega
  · split at h
    · cases h; omega
    · split at h
      · cases h; omega
      · cases h
def sp_answer_weigh (_ : PySem.W.Frag) (Z : Adr) : Sp := fun vs H Q _ => ∃ (ta dk : Addr) (s d a b : Nat) (al am : Addr) (l m : List Nat) (g : Sq45.House), vs = [.ref dk, .int (s : Int), .int (d : Int), .int (a : Int), .int (b : Int), .ref al, .ref am] ∧ HouseAt Z ta H dk g ∧
  H al = some (.lst (l.map nV)) ∧ H am = some (.lst (m.map nV)) ∧ l.length ≤ 1024 ∧ m.length ≤ 1024 ∧ HSp Z ta dk H (g.step (.weigh s d a b l m)) Q
theorem wRef_cases (g : Sq45.House) (s d a b : Nat) (l m : List Nat) : (∃ e : Int, e < 0 ∧ wRef s d [a, b] l m = e ∧ g.step (.weigh s d a b l m) = (g, Sq45.says e)) ∨
    (∃ r, Sq45.reach l.length = some r ∧ wRef s d [a, b] l m = 0 ∧ l.length = m.length ∧ s ≤ 3 ∧ 1 ≤ d ∧ d ≤ 1000 ∧ (∀ z ∈ l, z ≤ 1000) ∧ (∀ z ∈ m, z ≤ 1000) ∧ g.step (.weigh s d a b l m) = g.to (g.p.with_ fun x y => g.p.weighed s r (Sq45.weights l m) d ((a : Int) - b) x y)) := by
  rw [step_weigh]
  unfold wRef
  cases hr : Sq45.reach l.length with
  | none => exact .inl ⟨-3, by decide, rfl, rfl⟩
  | some r =>
    show (∃ e : Int, e < 0 ∧ (if l.length ≠ m.length then (-3 : Int) else if 3 < s ∨ d = 0 ∨ 1000 < d ∨ (([a, b] ++ l ++ m).any fun z => decide (1000 < z)) = true then -1 else 0) = e ∧ (if l.length ≠ m.length then (g, Sq45.says (-3)) else if 3 < s ∨ d = 0 ∨ 1000 < d ∨ 1000 < a ∨ 1000 < b ∨ ((l ++ m).any fun z => decide (1000 < z)) = true then (g, Sq45.says (-1)) else
      g.to (g.p.with_ fun x y => g.p.weighed s r (Sq45.weights l m) d ((a : Int) - b) x y)) = (g, Sq45.says e)) ∨ _
    by_cases c1 : l.length ≠ m.length
    · rw [if_pos c1, if_pos c1]
      exact .inl ⟨-3, by decide, rfl, rfl⟩
    · rw [if_neg c1, if_neg c1]
      have ea : (([a, b] ++ l ++ m).any fun z => decide (1000 < z)) = (decide (1000 < a) || (decide (1000 < b) || ((l ++ m).any fun z => decide (1000 < z)))) := by
        rw [List.append_assoc]
        rfl
      by_cases c2 : 3 < s ∨ d = 0 ∨ 1000 < d ∨ (([a, b] ++ l ++ m).any fun z => decide (1000 < z)) = true
      · have c3 : 3 < s ∨ d = 0 ∨ 1000 < d ∨ 1000 < a ∨ 1000 < b ∨ ((l ++ m).any fun z => decide (1000 < z)) = true := by
          rw [ea] at c2
          simpa [Bool.or_eq_true] using c2
        rw [if_pos c2, if_pos c3]
        exact .inl ⟨-1, by decide, rfl, rfl⟩
      · have c3 : ¬ (3 < s ∨ d = 0 ∨ 1000 < d ∨ 1000 < a ∨ 1000 < b ∨ ((l ++ m).any fun z => decide (1000 < z)) = true) := by
          intro h
          apply c2
          rw [ea]
          simpa [Bool.or_eq_true] using h
        rw [if_neg c2]
        have hall : ∀ z ∈ l ++ m, z ≤ 1000 := fun z hz => by
          refine Decidable.byContradiction fun e => c3 (.inr (.inr (.inr (.inr (.inr (List.any_eq_true.mpr ⟨z, hz, decide_eq_true (by omega)⟩))))))
        refine .inr ⟨r, rfl, ?_, by omega, by omega, by omega, by omega, fun z hz => hall z (List.mem_append_left _ hz), fun z hz => hall z (List.mem_append_right _ hz), ?_⟩
        · rfl
        · show (if l.length ≠ m.length then (g, Sq45.says (-3)) else if 3 < s ∨ d = 0 ∨ 1000 < d ∨ 1000 < a ∨ 1000 < b ∨ ((l ++ m).any fun z => decide (1000 < z)) = true then (g, Sq45.says (-1)) else
            g.to (g.p.with_ fun x y => g.p.weighed s r (Sq45.weights l m) d ((a : Int) - b) x y)) = _
          rw [if_neg c1, if_neg c3]
theorem clamp_le (z : Int) : Sq45.clamp z ≤ 255 := Nat.min_le_left _ _
abbrev s_answer_weigh : Stmt := top 44
abbrev n_answer_weigh : List Str := ["desk", "sort", "divisor", "added", "taken", "plus", "minus", "refusal", "weights", "windows", "colours", "more", "less", "window"]
abbrev p_answer_weigh : List Str := ["desk", "sort", "divisor", "added", "taken", "plus", "minus"]
theorem sc_answer_weigh : FnScope n_answer_weigh p_answer_weigh (defScope s_answer_weigh) := ⟨rfl, rfl, rfl, by decide +kernel, rfl, by decide +kernel, by decide +kernel⟩
theorem ok_answer_weigh (T : Txt K mg Z) (c_weigh_refusal : Okd P w K mg base "weigh_refusal" p_weigh_refusal 1 (sp_weigh_refusal K Z)) (c_all_windows : Okd P w K mg base "all_windows" p_all_windows 5 (sp_all_windows K Z)) (c_weighed_colour : Okd P w K mg base "weighed_colour" p_weighed_colour 2 (sp_weighed_colour K Z)) (c_repaint : Okd P w K mg base "repaint" p_repaint 3 (sp_repaint K Z)) (D : Dn K mg "answer_weigh" s_answer_weigh p_answer_weigh) : Okd P w K mg base "answer_weigh" p_answer_weigh 6 (sp_answer_weigh K Z) := by
  obtain ⟨f, fd, D1, D2, D3⟩ := D
  obtain ⟨a_weigh_refusal, d_weigh_refusal, m_weigh_refusal, kp_weigh_refusal, b_weigh_refusal, F_weigh_refusal⟩ := c_weigh_refusal
  obtain ⟨a_all_windows, d_all_windows, m_all_windows, kp_all_windows, b_all_windows, F_all_windows⟩ := c_all_windows
  obtain ⟨a_weighed_colour, d_weighed_colour, m_weighed_colour, kp_weighed_colour, b_weighed_colour, F_weighed_colour⟩ := c_weighed_colour
  obtain ⟨a_repaint, d_repaint, m_repaint, kp_repaint, b_repaint, F_repaint⟩ := c_repaint
  refine ⟨f, fd, D2, D1.kp, D3, D1.ok sc_answer_weigh (fun vs H Q E h => ?_) (fun cdv A outer s H vs Q E hr h => ?_)⟩
  · first | (obtain ⟨_, rfl, _⟩ := h; rfl) | (obtain ⟨_, _, rfl, _⟩ := h; rfl) | (obtain ⟨_, _, _, rfl, _⟩ := h; rfl) | (obtain ⟨_, _, _, _, rfl, _⟩ := h; rfl) | (obtain ⟨_, _, _, _, _, rfl, _⟩ := h; rfl) | (obtain ⟨_, _, _, _, _, _, rfl, _⟩ := h; rfl) | (obtain ⟨_, _, _, _, _, _, _, rfl, _⟩ := h; rfl) | (obtain ⟨_, _, _, _, _, _, _, _, rfl, _⟩ := h; rfl) | (obtain ⟨_, _, _, _, _, _, _, _, _, rfl, _⟩ := h; rfl) | (obtain ⟨_, _, _, _, _, _, _, _, _, _, rfl, _⟩ := h; rfl) | (obtain ⟨_, _, _, _, _, _, _, _, _, _, _, rfl, _⟩ := h; rfl) | (obtain ⟨_, _, _, _, _, _, _, _, _, _, _, _, rfl, _⟩ := h; rfl) | (obtain ⟨_, _, _, _, _, _, _, _, _, _, _, _, _, rfl, _⟩ := h; rfl) | (obtain ⟨rfl, _⟩ := h; rfl)
  · refine ⟨_, (pss_cons (ps_set (i := 7) sc_answer_weigh.nd rfl (Or.inl rfl) (pe_call F_weigh_refusal (hr.mono (by decide)) (by rfl) m_weigh_refusal kp_weigh_refusal b_weigh_refusal .nil pass0 (pa_cons (pv 1) (pa_cons (pv 2) (pa_cons (pe_lst (pa_cons (pv 3) (pa_cons (pv 4) pa_nil))) (pa_cons (pv 5) (pa_cons (pv 6) pa_nil)))))))
        (pss_cons (ps_if (pt_cmpR op_lt (pv 7) pe_int (nomark _)) (pss_one (ps_ret (pe_lst (pa_cons (pv 7) pa_nil)))) pss_nil)
        (pss_cons (ps_set (i := 8) sc_answer_weigh.nd rfl (Or.inr rfl) (pe_lc (own := [("more", 11), ("less", 12)]) (g := gTup K 2 (gCons (gName 11) (gCons (gName 12) gNil))) (tt := tYes) rfl sc_answer_weigh.nd (pi_zip (by rfl) T.n_zip (pa_cons (pv 5) (pa_cons (pv 6) pa_nil))) (blkOk_by (N := n_answer_weigh) (sc := defScope s_answer_weigh) (by decide +kernel)) (fun _ _ _ _ _ => by exact (pg_tup rfl (pgs_cons (pg_name (i := 11) sc_answer_weigh.nd rfl (Or.inl rfl)) (pgs_cons (pg_name (i := 12) sc_answer_weigh.nd rfl (Or.inl rfl)) pgs_nil)))) (fun _ _ _ _ _ => pts_nil) (fun _ _ _ _ _ => (pe_op op_sub (pv 11) (pv 12)))))
        (pss_cons (ps_set (i := 9) sc_answer_weigh.nd rfl (Or.inl rfl) (pe_call F_all_windows (hr.mono (by decide)) (by rfl) m_all_windows kp_all_windows b_all_windows .nil pass0 (pa_cons (pe_fld (pv 0) rfl) (pa_cons (pv 1) (pa_cons (pe_ix ix_kint (pe_glob (v := .ref Z.REACHES) (by rfl) T.g_REACHES rfl) (pe_callB call_len_seq (by rfl) T.n_len (by decide +kernel) (pa_cons (pv 5) pa_nil)) (fun _ _ => rfl)) pa_nil)))))
        (pss_cons (ps_setLc (i := 10) (own := [("window", 13)]) (g := gName 13) (tt := tYes) rfl sc_answer_weigh.nd rfl rfl (sw_true rfl rfl rfl (by decide +kernel)) (pi_list (pv 9)) (blkOk_by (N := n_answer_weigh) (sc := defScope s_answer_weigh) (by decide +kernel)) (fun _ _ _ _ _ => (pg_name (i := 13) sc_answer_weigh.nd rfl (Or.inl rfl))) (fun _ _ _ _ _ => pts_nil) (fun _ _ _ _ _ => (pe_call F_weighed_colour (hr.mono (by decide)) (by rfl) m_weighed_colour kp_weighed_colour b_weighed_colour .nil pass0 (pa_cons (pv 13) (pa_cons (pv 8) (pa_cons (pv 2) (pa_cons (pe_op op_sub (pv 3) (pv 4)) pa_nil)))))))
        (pss_one (ps_ret (pe_lst (pa_cons (pe_call F_repaint (hr.mono (by decide)) (by rfl) m_repaint kp_repaint b_repaint .nil pass0 (pa_cons (pv 0) (pa_cons (pv 10) pa_nil))) pa_nil))))))))), ?_⟩
    obtain ⟨ta, dk, s, d, a, b, al, am, l, m, g, rfl, hg, hL, hM, z1, z2, k⟩ := h
    refine ⟨_, rfl, _, rfl, _, rfl, _, rfl, by show 2 ≤ sizeLine; decide, fun oa no => ?_⟩
    have s1 : Same H (upd H oa (.lst [.int (a : Int), .int (b : Int)])) := same_new no
    refine ⟨_, rfl, _, rfl, s, d, oa, al, am, [a, b], l, m, rfl, upd_same, s1 _ _ hL, s1 _ _ hM, by simp, by simp, z1, z2, fun H2 s2 => ?_⟩
    have s12 := s1.trans s2
    rcases wRef_cases g s d a b l m with ⟨e, he, e1, e2⟩ | ⟨r, hr, e1, hlm, hs3, hd1, hd2, hl, hm, e2⟩
    · rw [e2] at k
      rw [e1]
      refine ⟨_, rfl, _, _, rfl, rfl, _, rfl, ifD (fun _ => ?_) (fun c1 => absurd he c1)⟩
      exact ⟨_, rfl, by show 1 ≤ sizeLine; decide, fun q nq => HSp.refused k hg s12 nq⟩
    rw [e2] at k
    rw [e1]
    refine ⟨_, rfl, _, _, rfl, rfl, _, rfl, ifD (fun c1 => absurd c1 (by decide)) (fun _ => ?_)⟩
    obtain ⟨hr2, hln⟩ := reach_some hr
    have hL2 := s12 _ _ hL
    have hM2 := s12 _ _ hM
    refine ⟨_, rfl, _, rfl, al, am, _, _, rfl, SqL.of hL2, SqL.of hM2, fun D hD => ?_⟩
    refine lc_w (walk_zip (xs := l.map nV) (ys := m.map nV) rfl) (fun i => ((l.zip m)[i]?).map fun z => V.int ((z.1 : Int) - z.2)) hD (by rw [List.length_map, List.length_map]; exact Nat.le_trans (show _ ≤ 1024 by omega) (by decide)) (fun H3 s3 => ⟨SqL.of (s3 _ _ hL2), SqL.of (s3 _ _ hM2)⟩) ?_ ?_
    · rintro i v H3 H4 hi s3 ⟨t, y, z, rfl, nt, rfl, hy, hz⟩ R hR
      obtain ⟨u, hu, rfl⟩ := at_map hy
      obtain ⟨v, hv, rfl⟩ := at_map hz
      have hzip : (l.zip m)[i]? = some (u, v) := by rw [List.getElem?_zip_eq_some]; exact ⟨hu, hv⟩
      rw [hzip] at hR
      exact ⟨t, _, rfl, SqT.of upd_same, rfl, _, _, rfl, _, _, rfl, rfl, rfl, _, rfl, _, rfl, _, _, rfl, rfl, hR _ (same_new nt)⟩
    intro H3 s3 e3
    have e4 : H3 D = some (.lst ((Sq45.weights l m).map V.int)) := by
      rw [e3, show min (l.map nV).length (m.map nV).length = (l.zip m).length by rw [List.length_map, List.length_map, List.length_zip], range_at]
      unfold Sq45.weights
      rw [List.map_map]
      rfl
    have hwl : (Sq45.weights l m).length = (2 * r + 1) * (2 * r + 1) := by
      unfold Sq45.weights
      rw [List.length_map, List.length_zip]
      omega
    have hwb : ∀ z ∈ Sq45.weights l m, -1000 ≤ z ∧ z ≤ 1000 := by
      intro z hz
      unfold Sq45.weights at hz
      obtain ⟨w, hw, rfl⟩ := List.mem_map.mp hz
      have h1 := hl w.1 (List.of_mem_zip hw).1
      have h2 := hm w.2 (List.of_mem_zip hw).2
      omega
    have s13 := s12.trans s3
    obtain ⟨dx, pa, qa, hd, hp, hq⟩ := id (Same.house s13 hg).at_
    obtain ⟨get, hK, hget⟩ := reaches_get T
    refine ⟨_, rfl, dk, _, dx, _, _, rfl, hd, T.cl_Desk, T.na_Desk_picture, deskF_p pa qa, _, rfl, _, rfl, al, _, rfl, .inl (SqL.of (s13 _ _ hL)), Z.REACHES, _, nV r, get, rfl, rfl, hK, by rw [List.length_map, hget, hr]; rfl, pa, g.p, s, r, rfl, hp.pic, hg.p, hs3, by omega, fun H4 wl as s4 nwl ewl hw => ?_⟩
    refine ⟨_, rfl, wl, rfl, ⟨_, SqL.of ewl⟩, fun E hE => ?_⟩
    have hln2 : (as.map V.ref).length = g.p.cells.length := by rw [List.length_map, hw.len]
    have hsz : g.p.cells.length ≤ 256 := by rw [cells_len, ← hg.p.sz]; exact hg.p.size
    refine lc_w (walk_list (xs := as.map V.ref)) (fun i => (g.p.cells[i]?).map fun c => nV (g.p.weighed s r (Sq45.weights l m) d ((a : Int) - b) c.1 c.2)) hE (by rw [hln2]; exact Nat.le_trans hsz (by decide)) (fun H5 s5 => SqL.of (s5 _ _ ewl)) ?_ ?_
    · rintro i x H5' H5 hi s5 ⟨rfl, hx⟩ R hR
      obtain ⟨w, hb, rfl⟩ := at_map hx
      rw [hln2] at hi
      have hc : g.p.cells[i]? = some g.p.cells[i] := List.getElem?_eq_getElem hi
      rw [hc] at hR
      have hwin := hw.at_ i w _ hb hc
      refine ⟨rfl, _, rfl, _, rfl, _, rfl, _, rfl, _, rfl, _, _, rfl, rfl, w, D, _, Sq45.weights l m, d, _, rfl, s5 _ _ hwin, s5 _ _ (s4 _ _ e4), by rw [hwl, win_len], win_len2 (by omega), hwb, hd1, hd2, fun H6 s6 => ?_⟩
      have := hR H6 s6
      rw [Option.map_some, weighed_eq _ _ _ _ _ _ _ _ hwl] at this
      exact this
    · intro H5 s5 e5
      rw [hln2, range_at] at e5
      have s15 := (s13.trans s4).trans s5
      refine ⟨_, rfl, _, rfl, ta, dk, E, g.p, g.q, g.p.cells.map fun c => g.p.weighed s r (Sq45.weights l m) d ((a : Int) - b) c.1 c.2, rfl, Same.desk s15 hg.at_, hg.ne ((s13.trans s4).free hE), by rw [e5, List.map_map]; rfl, hg.p.size, fun H6 sb hD6 => ?_⟩
      refine ⟨by show 1 ≤ sizeLine; decide, fun q nq => ?_⟩
      refine to_done (f := fun x y => g.p.weighed s r (Sq45.weights l m) d ((a : Int) - b) x y) k hg (fun x y hx hy => ?_) ((Same.but s15).trans sb) hD6 nq
      rw [weighed_eq _ _ _ _ _ _ _ _ hwl]
      exact clamp_le _
end
end Tw

set_option Elab.async false
set_option linter.all false
set_option maxRecDepth 100000
set_option maxHeartbeats 2000000
namespace Tw
open PySem PySem.Spec PyProof.Rows L2
section
variable {P : Program} {w : World} {K : PySem.W.Frag} {mg : Str → Option Value} {base : Heap} {Z : Adr}
def rowV (p : Sq45.Picture) (y : Nat) : List V := (List.range p.w).map fun x => nV (p.at_ x y)
def sp_row_of (_ : PySem.W.Frag) (Z : Adr) : Sp := fun vs H Q _ => ∃ (a : Addr) (p : Sq45.Picture) (y : Nat), vs = [.ref a, .int (y : Int)] ∧ PicAt Z H a p ∧ PicOk p ∧ y < p.h ∧
  ∀ H' q, Same H H' → H q = none → H' q = some (.lst (rowV p y)) → Q (.ref q) H'
theorem row_end {w h y : Nat} (hy : y < h) : (y + 1) * w ≤ w * h := by
  rw [Nat.mul_comm w h]
  exact Nat.mul_le_mul_right _ hy
theorem rowV_len (p : Sq45.Picture) (y : Nat) : (rowV p y).length = p.w := by simp [rowV]
theorem rowV_at {p : Sq45.Picture} {x y : Nat} (hx : x < p.w) : (rowV p y)[x]? = some (nV (p.at_ x y)) := by
  unfold rowV
  rw [List.getElem?_map, List.getElem?_range hx]
  rfl
abbrev s_row_of : Stmt := top 23
abbrev n_row_of : List Str := ["picture", "y"]
abbrev p_row_of : List Str := ["picture", "y"]
theorem sc_row_of : FnScope n_row_of p_row_of (defScope s_row_of) := ⟨rfl, rfl, rfl, by decide +kernel, rfl, by decide +kernel, by decide +kernel⟩
theorem ok_row_of (T : Txt K mg Z) (D : Dn K mg "row_of" s_row_of p_row_of) : Okd P w K mg base "row_of" p_row_of 1 (sp_row_of K Z) := by
  obtain ⟨f, fd, D1, D2, D3⟩ := D
  refine ⟨f, fd, D2, D1.kp, D3, D1.ok sc_row_of (fun vs H Q E h => ?_) (fun cdv A outer s H vs Q E hr h => ?_)⟩
  · first | (obtain ⟨_, rfl, _⟩ := h; rfl) | (obtain ⟨_, _, rfl, _⟩ := h; rfl) | (obtain ⟨_, _, _, rfl, _⟩ := h; rfl) | (obtain ⟨_, _, _, _, rfl, _⟩ := h; rfl) | (obtain ⟨_, _, _, _, _, rfl, _⟩ := h; rfl) | (obtain ⟨_, _, _, _, _, _, rfl, _⟩ := h; rfl) | (obtain ⟨_, _, _, _, _, _, _, rfl, _⟩ := h; rfl) | (obtain ⟨_, _, _, _, _, _, _, _, rfl, _⟩ := h; rfl) | (obtain ⟨_, _, _, _, _, _, _, _, _, rfl, _⟩ := h; rfl) | (obtain ⟨_, _, _, _, _, _, _, _, _, _, rfl, _⟩ := h; rfl) | (obtain ⟨_, _, _, _, _, _, _, _, _, _, _, rfl, _⟩ := h; rfl) | (obtain ⟨_, _, _, _, _, _, _, _, _, _, _, _, rfl, _⟩ := h; rfl) | (obtain ⟨_, _, _, _, _, _, _, _, _, _, _, _, _, rfl, _⟩ := h; rfl) | (obtain ⟨rfl, _⟩ := h; rfl)
  · refine ⟨_, (pss_one (ps_ret (pe_slice sl_list (pe_fld (pv 0) rfl) (po_some (pe_op op_mul (pv 1) (pe_fld (pv 0) rfl))) (po_some (pe_op op_mul (pe_op op_add (pv 1) pe_int) (pe_fld (pv 0) rfl)))))), ?_⟩
    obtain ⟨a, p, y, rfl, ⟨dx, ca, hA, hC⟩, ok, hy, k⟩ := h
    have hw := ok.w2
    have hh := ok.h2
    refine ⟨_, rfl, a, _, dx, _, _, rfl, hA, T.cl_Picture, T.na_Picture_colours, picF_c p ca, _, rfl, _, rfl, a, _, dx, _, _, rfl, hA, T.cl_Picture, T.na_Picture_w, picF_w p ca, _, _, rfl, rfl, .inl ⟨by omega, by omega⟩, _, rfl, _, rfl, _, _, rfl, rfl, _, rfl, a, _, dx, _, _, rfl, hA, T.cl_Picture, T.na_Picture_w, picF_w p ca, _, _, rfl, rfl, .inl ⟨by omega, by omega⟩, _, rfl, ca, _, rfl, SqL.of hC, fun q nq => ?_⟩
    refine k _ q (same_new nq) nq ?_
    have hl : (p.pixels.toList.map nV).length = p.w * p.h := by rw [List.length_map, Array.length_toList, ok.sz]
    have h1 := row_end (w := p.w) hy
    have h2 : y * p.w ≤ (y + 1) * p.w := Nat.mul_le_mul_right _ (Nat.le_succ _)
    have h3 : (y + 1) * p.w - y * p.w = p.w := by rw [Nat.add_mul, Nat.one_mul]; omega
    rw [upd_same, cut_nat (a := y * p.w) (b := (y + 1) * p.w) (by omega) (by omega) (Int.natCast_mul _ _).symm (by rw [Int.natCast_mul]; rfl), h3, ← List.map_drop, ← List.map_take, ← ok.row hy, List.map_map]
    rfl
def sp_shared_places (_ : PySem.W.Frag) (_ : Adr) : Sp := fun vs H Q _ => ∃ (s ps : Nat) (sh : Int), vs = [.int (s : Int), .int (ps : Int), .int sh] ∧ s ≤ 16 ∧ ps ≤ 16 ∧ -16 ≤ sh ∧ sh ≤ 16 ∧
  ∀ H' q, Same H H' → H q = none → H' q = some (.lst ((cols s ps sh).map nV)) → Q (.ref q) H'
abbrev s_shared_places : Stmt := top 26
abbrev n_shared_places : List Str := ["side", "piece_side", "shift"]
abbrev p_shared_places : List Str := ["side", "piece_side", "shift"]
theorem sc_shared_places : FnScope n_shared_places p_shared_places (defScope s_shared_places) := ⟨rfl, rfl, rfl, by decide +kernel, rfl, by decide +kernel, by decide +kernel⟩
theorem ok_shared_places (T : Txt K mg Z) (D : Dn K mg "shared_places" s_shared_places p_shared_places) : Okd P w K mg base "shared_places" p_shared_places 1 (sp_shared_places K Z) := by
  obtain ⟨f, fd, D1, D2, D3⟩ := D
  refine ⟨f, fd, D2, D1.kp, D3, D1.ok sc_shared_places (fun vs H Q E h => ?_) (fun cdv A outer s H vs Q E hr h => ?_)⟩
  · first | (obtain ⟨_, rfl, _⟩ := h; rfl) | (obtain ⟨_, _, rfl, _⟩ := h; rfl) | (obtain ⟨_, _, _, rfl, _⟩ := h; rfl) | (obtain ⟨_, _, _, _, rfl, _⟩ := h; rfl) | (obtain ⟨_, _, _, _, _, rfl, _⟩ := h; rfl) | (obtain ⟨_, _, _, _, _, _, rfl, _⟩ := h; rfl) | (obtain ⟨_, _, _, _, _, _, _, rfl, _⟩ := h; rfl) | (obtain ⟨_, _, _, _, _, _, _, _, rfl, _⟩ := h; rfl) | (obtain ⟨_, _, _, _, _, _, _, _, _, rfl, _⟩ := h; rfl) | (obtain ⟨_, _, _, _, _, _, _, _, _, _, rfl, _⟩ := h; rfl) | (obtain ⟨_, _, _, _, _, _, _, _, _, _, _, rfl, _⟩ := h; rfl) | (obtain ⟨_, _, _, _, _, _, _, _, _, _, _, _, rfl, _⟩ := h; rfl) | (obtain ⟨_, _, _, _, _, _, _, _, _, _, _, _, _, rfl, _⟩ := h; rfl) | (obtain ⟨rfl, _⟩ := h; rfl)
  · refine ⟨_, (pss_one (ps_ret (pe_listRg rfl (by rfl) T.n_list (prg_2 (by rfl) T.n_range (pe_callB (call_max2 rfl) (by rfl) T.n_max (by decide +kernel) (pa_cons pe_int (pa_cons (pv 2) pa_nil))) (pe_callB (call_min2 rfl) (by rfl) T.n_min (by decide +kernel) (pa_cons (pv 0) (pa_cons (pe_op op_add (pv 2) (pv 1)) pa_nil))))))), ?_⟩
    obtain ⟨s, ps, sh, rfl, h1, h2, h3, h4, k⟩ := h
    refine ⟨_, rfl, _, _, rfl, _, rfl, _, rfl, _, rfl, _, _, rfl, rfl, _, _, rfl, _, _, rfl, rfl, ⟨by split <;> omega, by split <;> omega, by split <;> omega, by split <;> omega, by split <;> split <;> omega⟩, fun q nq => ?_⟩
    refine k _ q (same_new nq) nq ?_
    rw [upd_same, cols_rg]
end
end Tw

set_option Elab.async false
set_option linter.all false
set_option maxRecDepth 100000
set_option maxHeartbeats 2000000
namespace Tw
open PySem PySem.Spec PyProof.Rows L2
section
variable {P : Program} {w : World} {K : PySem.W.Frag} {mg : Str → Option Value} {base : Heap} {Z : Adr}
/-- the part of the picture -/
def cutP (p : Sq45.Picture) (x y w h : Nat) : Sq45.Picture := ⟨w, h, (((List.range h).flatMap fun j => (List.range w).map fun i => p.at_ (x + i) (y + j))).toArray⟩
def cutL (p : Sq45.Picture) (x y w j : Nat) : List V := (List.range j).flatMap fun j => (List.range w).map fun i => nV (p.at_ (x + i) (y + j))
theorem cutL_more (p : Sq45.Picture) (x y w j : Nat) : cutL p x y w (j + 1) = cutL p x y w j ++ (List.range w).map fun i => nV (p.at_ (x + i) (y + j)) := by
  unfold cutL
  rw [List.range_succ, List.flatMap_append]
  simp
theorem cutL_len (p : Sq45.Picture) (x y w j : Nat) : (cutL p x y w j).length = j * w := by
  unfold cutL
  rw [len_flat _ (n := w) (fun y => by rw [List.length_map, List.length_range]), List.length_range]
theorem cutP_list (p : Sq45.Picture) (x y w h : Nat) : cutL p x y w h = (cutP p x y w h).pixels.toList.map nV := by
  unfold cutL cutP
  rw [List.toList_toArray, List.map_flatMap]
  congr 1
  funext j
  rw [List.map_map]
  rfl
theorem row_part {p : Sq45.Picture} {x y w : Nat} (h : x + w ≤ p.w) : ((rowV p y).drop x).take (x + w - x) = (List.range w).map fun i => nV (p.at_ (x + i) y) := by
  apply List.ext_getElem
  · rw [List.length_take, List.length_drop, rowV_len, List.length_map, List.length_range]
    omega
  · intro i h1 h2
    rw [List.length_map, List.length_range] at h2
    rw [List.getElem_take, List.getElem_drop, List.getElem_map, List.getElem_range]
    have e := rowV_at (p := p) (x := x + i) (y := y) (by omega)
    rw [List.getElem?_eq_getElem (by rw [rowV_len]; omega)] at e
    exact Option.some.inj e
def sp_cut_out (_ : PySem.W.Frag) (Z : Adr) : Sp := fun vs H Q _ => ∃ (a : Addr) (p : Sq45.Picture) (x y w h : Nat), vs = [.ref a, .int (x : Int), .int (y : Int), .int (w : Int), .int (h : Int)] ∧ PicAt Z H a p ∧ PicOk p ∧ x + w ≤ p.w ∧ y + h ≤ p.h ∧
  ∀ H' q, Same H H' → H q = none → (∀ t, (∃ o, H t = some o) → PicX Z t H' q (cutP p x y w h)) → Q (.ref q) H'
abbrev s_cut_out : Stmt := top 24
abbrev n_cut_out : List Str := ["picture", "x", "y", "w", "h", "colours", "place"]
abbrev p_cut_out : List Str := ["picture", "x", "y", "w", "h"]
theorem sc_cut_out : FnScope n_cut_out p_cut_out (defScope s_cut_out) := ⟨rfl, rfl, rfl, by decide +kernel, rfl, by decide +kernel, by decide +kernel⟩
theorem ok_cut_out (T : Txt K mg Z) (c_row_of : Okd P w K mg base "row_of" p_row_of 1 (sp_row_of K Z)) (c_Picture_init : OkM P w K mg base Z.f_Picture_init p_Picture_init 1 (sp_Picture_init K Z)) (D : Dn K mg "cut_out" s_cut_out p_cut_out) : Okd P w K mg base "cut_out" p_cut_out 3 (sp_cut_out K Z) := by
  obtain ⟨f, fd, D1, D2, D3⟩ := D
  obtain ⟨a_row_of, d_row_of, m_row_of, kp_row_of, b_row_of, F_row_of⟩ := c_row_of
  obtain ⟨d_Picture_init, b_Picture_init, F_Picture_init⟩ := c_Picture_init
  refine ⟨f, fd, D2, D1.kp, D3, D1.ok sc_cut_out (fun vs H Q E h => ?_) (fun cdv A outer s H vs Q E hr h => ?_)⟩
  · first | (obtain ⟨_, rfl, _⟩ := h; rfl) | (obtain ⟨_, _, rfl, _⟩ := h; rfl) | (obtain ⟨_, _, _, rfl, _⟩ := h; rfl) | (obtain ⟨_, _, _, _, rfl, _⟩ := h; rfl) | (obtain ⟨_, _, _, _, _, rfl, _⟩ := h; rfl) | (obtain ⟨_, _, _, _, _, _, rfl, _⟩ := h; rfl) | (obtain ⟨_, _, _, _, _, _, _, rfl, _⟩ := h; rfl) | (obtain ⟨_, _, _, _, _, _, _, _, rfl, _⟩ := h; rfl) | (obtain ⟨_, _, _, _, _, _, _, _, _, rfl, _⟩ := h; rfl) | (obtain ⟨_, _, _, _, _, _, _, _, _, _, rfl, _⟩ := h; rfl) | (obtain ⟨_, _, _, _, _, _, _, _, _, _, _, rfl, _⟩ := h; rfl) | (obtain ⟨_, _, _, _, _, _, _, _, _, _, _, _, rfl, _⟩ := h; rfl) | (obtain ⟨_, _, _, _, _, _, _, _, _, _, _, _, _, rfl, _⟩ := h; rfl) | (obtain ⟨rfl, _⟩ := h; rfl)
  · refine ⟨_, (pss_cons (ps_set (i := 5) sc_cut_out.nd rfl (Or.inl rfl) (pe_lst pa_nil))
        (pss_cons (ps_for PassesOwn.never rfl (pi_range2 (by rfl) T.n_range (pa_cons (pv 2) (pa_cons (pe_op op_add (pv 2) (pv 4)) pa_nil))) (pg_name (i := 6) sc_cut_out.nd rfl (Or.inl rfl)) (pss_one (ps_expr (pe_bm PySem.F.plainAttrs_list PySem.F.slot_list_extend PySem.F.type_list_extend mt_extend (pv 5) (pa_cons (pe_slice sl_list (pe_call F_row_of (hr.mono (by decide)) (by rfl) m_row_of kp_row_of b_row_of .nil pass0 (pa_cons (pv 0) (pa_cons (pv 6) pa_nil))) (po_some (pv 1)) (po_some (pe_op op_add (pv 1) (pv 3)))) pa_nil)))))
        (pss_one (ps_ret (pe_make T.mk_Picture F_Picture_init (hr.mono (by decide)) (by rfl) T.c_Picture b_Picture_init .nil pass0 (pa_cons (pv 3) (pa_cons (pv 4) (pa_cons (pv 5) pa_nil)))))))), ?_⟩
    obtain ⟨a, p, x, y, w, h, rfl, hP, ok, hx, hy, k⟩ := h
    have hw := ok.w2
    have hh := ok.h2
    refine ⟨by decide, fun l nl => ?_⟩
    refine ⟨_, rfl, _, rfl, _, rfl, _, _, rfl, rfl, _, _, rfl, ⟨by omega, by omega, by omega, by omega⟩, ?_⟩
    rw [show ((y : Int) + h - y).toNat = h by omega]
    refine for_it (walk_range (lo := (y : Int)) (n := h)) (fun j σ H' => ∃ v, σ = [some (.ref a), some (.int (x : Int)), some (.int (y : Int)), some (.int (w : Int)), some (.int (h : Int)), some (.ref l), v] ∧ Same H H' ∧ H' l = some (.lst (cutL p x y w j)))
      ⟨none, rfl, same_new nl, upd_same⟩ (fun _ _ _ _ _ => trivial) ?_ ?_
    · rintro j v0 σ H1' H1 hj ⟨v, rfl, s1, e1⟩ ⟨rfl, hv⟩
      have ev : v0 = .int ((y + j : Nat) : Int) := by rw [hv]; exact congrArg V.int (Int.natCast_add _ _).symm
      subst ev
      refine ⟨_, rfl, .inl ⟨rfl, _, SqL.of e1⟩, _, rfl, _, rfl, a, p, y + j, rfl, Same.pic s1 hP, ok, by omega, fun H2 r s2 nr er => ?_⟩
      refine ⟨_, rfl, _, rfl, _, rfl, _, rfl, _, _, rfl, rfl, _, rfl, r, _, rfl, SqL.of er, fun b nb => ?_⟩
      rw [cut_nat (a := x) (b := x + w) (by rw [rowV_len]; omega) (by rw [rowV_len]; omega) rfl (Int.natCast_add _ _).symm, row_part hx]
      have e2 := s2 _ _ e1
      have nbl : b ≠ l := (ne_of_none e2 nb).symm
      have hlen : (cutL p x y w j).length + w ≤ 4096 := by
        rw [cutL_len]
        have := Nat.mul_le_mul (show j ≤ 16 by omega) (show w ≤ 16 by omega)
        omega
      refine ⟨l, b, _, _, rfl, rfl, by rw [upd_ne nbl.symm]; exact e2, upd_same, by rw [List.length_map, List.length_range]; exact Nat.le_trans hlen (by decide), ?_⟩
      refine ⟨_, rfl, same_upd ((s1.trans s2).trans (same_new nb)) nl, ?_⟩
      rw [upd_same, cutL_more]
    · rintro σ H1 ⟨v, rfl, s1, e1⟩
      refine ⟨_, rfl, _, rfl, _, rfl, ?_⟩
      intro o ex no nex nne
      refine ⟨o, ex, _, _, _, rfl, upd_same, fun H2 e2 s2 => ⟨rfl, ?_⟩⟩
      have s3 := made_same no nex s2
      refine k H2 o (s1.trans s3) (s1.free no) fun t ⟨u, eu⟩ => ⟨ex, l, e2, ?_, (ne_of_none eu nl).symm⟩
      rw [← cutP_list]
      exact s3 _ _ e1
end
end Tw

set_option Elab.async false
set_option linter.all false
set_option maxRecDepth 100000
set_option maxHeartbeats 2000000
namespace Tw
open PySem PySem.Spec PyProof.Rows L2
section
variable {P : Program} {w : World} {K : PySem.W.Frag} {mg : Str → Option Value} {base : Heap} {Z : Adr}
def sp_fit_at (_ : PySem.W.Frag) (Z : Adr) : Sp := fun vs H Q _ => ∃ (a b : Addr) (p q : Sq45.Picture) (dx dy : Int), vs = [.ref a, .ref b, .int dx, .int dy] ∧ PicAt Z H a p ∧ PicAt Z H b q ∧ PicOk p ∧ PicOk q ∧ -16 ≤ dx ∧ dx ≤ 16 ∧ -16 ≤ dy ∧ dy ≤ 16 ∧
  ∀ H' t, Same H H' → H t = none → H' t = some (.tup [nV (p.shifted q dx dy).1, nV (p.shifted q dx dy).2]) → Q (.ref t) H'
theorem take_sum (f : Nat → Nat) {l : List Nat} {i y : Nat} (h : l[i]? = some y) : ((l.take (i + 1)).map f).sum = ((l.take i).map f).sum + f y := by
  rw [List.take_add_one, h, List.map_append, List.sum_append]
  simp
abbrev s_fit_at : Stmt := top 27
abbrev n_fit_at : List Str := ["picture", "piece", "dx", "dy", "columns", "rows", "squares", "y", "under", "over", "x"]
abbrev p_fit_at : List Str := ["picture", "piece", "dx", "dy"]
theorem sc_fit_at : FnScope n_fit_at p_fit_at (defScope s_fit_at) := ⟨rfl, rfl, rfl, by decide +kernel, rfl, by decide +kernel, by decide +kernel⟩
theorem ok_fit_at (T : Txt K mg Z) (c_shared_places : Okd P w K mg base "shared_places" p_shared_places 1 (sp_shared_places K Z)) (c_row_of : Okd P w K mg base "row_of" p_row_of 1 (sp_row_of K Z)) (D : Dn K mg "fit_at" s_fit_at p_fit_at) : Okd P w K mg base "fit_at" p_fit_at 2 (sp_fit_at K Z) := by
  obtain ⟨f, fd, D1, D2, D3⟩ := D
  obtain ⟨a_shared_places, d_shared_places, m_shared_places, kp_shared_places, b_shared_places, F_shared_places⟩ := c_shared_places
  obtain ⟨a_row_of, d_row_of, m_row_of, kp_row_of, b_row_of, F_row_of⟩ := c_row_of
  refine ⟨f, fd, D2, D1.kp, D3, D1.ok sc_fit_at (fun vs H Q E h => ?_) (fun cdv A outer s H vs Q E hr h => ?_)⟩
  · first | (obtain ⟨_, rfl, _⟩ := h; rfl) | (obtain ⟨_, _, rfl, _⟩ := h; rfl) | (obtain ⟨_, _, _, rfl, _⟩ := h; rfl) | (obtain ⟨_, _, _, _, rfl, _⟩ := h; rfl) | (obtain ⟨_, _, _, _, _, rfl, _⟩ := h; rfl) | (obtain ⟨_, _, _, _, _, _, rfl, _⟩ := h; rfl) | (obtain ⟨_, _, _, _, _, _, _, rfl, _⟩ := h; rfl) | (obtain ⟨_, _, _, _, _, _, _, _, rfl, _⟩ := h; rfl) | (obtain ⟨_, _, _, _, _, _, _, _, _, rfl, _⟩ := h; rfl) | (obtain ⟨_, _, _, _, _, _, _, _, _, _, rfl, _⟩ := h; rfl) | (obtain ⟨_, _, _, _, _, _, _, _, _, _, _, rfl, _⟩ := h; rfl) | (obtain ⟨_, _, _, _, _, _, _, _, _, _, _, _, rfl, _⟩ := h; rfl) | (obtain ⟨_, _, _, _, _, _, _, _, _, _, _, _, _, rfl, _⟩ := h; rfl) | (obtain ⟨rfl, _⟩ := h; rfl)
  · refine ⟨_, (pss_cons (ps_set (i := 4) sc_fit_at.nd rfl (Or.inl rfl) (pe_call F_shared_places (hr.mono (by decide)) (by rfl) m_shared_places kp_shared_places b_shared_places .nil pass0 (pa_cons (pe_fld (pv 0) rfl) (pa_cons (pe_fld (pv 1) rfl) (pa_cons (pv 2) pa_nil)))))
        (pss_cons (ps_set (i := 5) sc_fit_at.nd rfl (Or.inl rfl) (pe_call F_shared_places (hr.mono (by decide)) (by rfl) m_shared_places kp_shared_places b_shared_places .nil pass0 (pa_cons (pe_fld (pv 0) rfl) (pa_cons (pe_fld (pv 1) rfl) (pa_cons (pv 3) pa_nil)))))
        (pss_cons (ps_set (i := 6) sc_fit_at.nd rfl (Or.inl rfl) pe_int)
        (pss_cons (ps_for PassesOwn.never rfl (pi_list (pv 5)) (pg_name (i := 7) sc_fit_at.nd rfl (Or.inl rfl)) (pss_cons (ps_set (i := 8) sc_fit_at.nd rfl (Or.inr rfl) (pe_call F_row_of (hr.mono (by decide)) (by rfl) m_row_of kp_row_of b_row_of .nil pass0 (pa_cons (pv 0) (pa_cons (pv 7) pa_nil))))
        (pss_cons (ps_set (i := 9) sc_fit_at.nd rfl (Or.inr rfl) (pe_call F_row_of (hr.mono (by decide)) (by rfl) m_row_of kp_row_of b_row_of .nil pass0 (pa_cons (pv 1) (pa_cons (pe_op op_sub (pv 7) (pv 3)) pa_nil))))
        (pss_one (ps_aug (i := 6) sc_fit_at.nd rfl (Or.inl rfl) (pe_callB (cr_sum rfl) (by rfl) T.n_sum (by decide +kernel) (pa_cons (pe_lc (own := [("x", 10)]) (g := gName 10) (tt := tYes) rfl sc_fit_at.nd (pi_list (pv 4)) (blkOk_by (N := n_fit_at) (sc := defScope s_fit_at) (by decide +kernel)) (fun _ _ _ _ _ => (pg_name (i := 10) sc_fit_at.nd rfl (Or.inl rfl))) (fun _ _ _ _ _ => pts_nil) (fun _ _ _ _ _ => (pe_op op_pow (pe_op op_sub (pe_ix (show IxR _ (rIxL K) from ix_list) (pv 8) (pv 10) (fun _ _ => rfl)) (pe_ix (show IxR _ (rIxL K) from ix_list) (pv 9) (pe_op op_sub (pv 10) (pv 2)) (fun _ _ => rfl))) pe_int))) pa_nil)) ip_add)))))
        (pss_one (ps_ret (pe_tup (pa_cons (pv 6) (pa_cons (pe_op op_mul (pe_callB call_len_seq (by rfl) T.n_len (by decide +kernel) (pa_cons (pv 5) pa_nil)) (pe_callB call_len_seq (by rfl) T.n_len (by decide +kernel) (pa_cons (pv 4) pa_nil))) pa_nil))))))))), ?_⟩
    obtain ⟨a, b, p, q, dx, dy, rfl, ⟨d1, ca, hA, hC⟩, ⟨d2, cb, hB, hE⟩, op, oq, x1, x2, y1, y2, k⟩ := h
    have pw := op.w2
    have ph := op.h2
    have qw := oq.w2
    have qh := oq.h2
    refine ⟨_, rfl, a, _, d1, _, _, rfl, hA, T.cl_Picture, T.na_Picture_w, picF_w p ca, _, rfl, b, _, d2, _, _, rfl, hB, T.cl_Picture, T.na_Picture_w, picF_w q cb, _, rfl, p.w, q.w, dx, rfl, pw, qw, x1, x2, fun H1 cl s1 nc ec => ?_⟩
    refine ⟨_, rfl, a, _, d1, _, _, rfl, s1 _ _ hA, T.cl_Picture, T.na_Picture_h, picF_h p ca, _, rfl, b, _, d2, _, _, rfl, s1 _ _ hB, T.cl_Picture, T.na_Picture_h, picF_h q cb, _, rfl, p.h, q.h, dy, rfl, ph, qh, y1, y2, fun H2 rl s2 nr er => ?_⟩
    have s12 := s1.trans s2
    refine ⟨_, rfl, rl, rfl, ⟨_, SqL.of er⟩, ?_⟩
    refine for_it walk_list (fun i σ H' => ∃ vy vu vo, σ = [some (.ref a), some (.ref b), some (.int dx), some (.int dy), some (.ref cl), some (.ref rl), some (nV (((cols p.h q.h dy).take i).map (rowSq p q dx dy)).sum), vy, vu, vo, none] ∧
      Same H H' ∧ H' cl = some (.lst ((cols p.w q.w dx).map nV)) ∧ H' rl = some (.lst ((cols p.h q.h dy).map nV)))
      ⟨none, none, none, rfl, s12, s2 _ _ ec, er⟩ (fun i σ H' _ ⟨_, _, _, _, _, _, e⟩ => SqL.of e) ?_ ?_
    · rintro i v0 σ H3' H3 hi ⟨vy, vu, vo, rfl, s3, ec3, er3⟩ ⟨rfl, hv⟩
      obtain ⟨y, hy, rfl⟩ := at_map hv
      obtain ⟨m1, m2, m3⟩ := cols_mem (List.mem_of_getElem? hy)
      refine ⟨_, rfl, _, rfl, a, p, y, rfl, Same.pic s3 ⟨d1, ca, hA, hC⟩, op, m1, fun H4 u s4 nu eu => ?_⟩
      refine ⟨_, rfl, _, rfl, _, rfl, _, _, rfl, rfl, b, q, ((y : Int) - dy).toNat, by rw [Int.toNat_of_nonneg m2]; rfl, Same.pic (s3.trans s4) ⟨d2, cb, hB, hE⟩, oq, by omega, fun H5 o s5 no eo => ?_⟩
      have s45 := s4.trans s5
      refine ⟨_, rfl, _, rfl, cl, rfl, ⟨_, SqL.of (s45 _ _ ec3)⟩, fun D hD => ?_⟩
      refine lc_w (walk_list (xs := (cols p.w q.w dx).map nV)) (fun i => ((cols p.w q.w dx)[i]?).map fun x => nV (Sq45.square (p.at_ x y) (q.at_ ((x : Int) - dx).toNat ((y : Int) - dy).toNat))) hD
        (by rw [List.length_map]; exact Nat.le_trans (Nat.le_trans (cols_len _ _ _) pw) (by decide)) (fun H6 s6 => SqL.of (s6 _ _ (s45 _ _ ec3))) ?_ ?_
      · rintro j v1 H6' H6 hj s6 ⟨rfl, hv1⟩ R hR
        obtain ⟨x, hx, rfl⟩ := at_map hv1
        obtain ⟨n1, n2, n3⟩ := cols_mem (List.mem_of_getElem? hx)
        rw [hx] at hR
        have hR := hR H6 (Same.refl _)
        rw [Option.map_some] at hR
        have e1 := op.any x y
        have e2 := oq.any ((x : Int) - dx).toNat ((y : Int) - dy).toNat
        refine ⟨rfl, _, rfl, _, rfl, u, _, _, _, rfl, rfl, SqL.of (s6 _ _ (s5 _ _ eu)), atI_nat (rowV_at n1), _, rfl, _, rfl, _, rfl, _, _, rfl, rfl, o, _, _, _, rfl, rfl, SqL.of (s6 _ _ eo), at_of (j := ((x : Int) - dx).toNat) (Int.toNat_of_nonneg n2).symm (rowV_at (by omega)), _, _, rfl, rfl, _, _, rfl, rfl, ⟨by decide, by decide, by omega⟩, ?_⟩
        have e3 := sq_int (p.at_ x y) (q.at_ ((x : Int) - dx).toNat ((y : Int) - dy).toNat)
        unfold nV at hR
        rw [← e3] at hR
        exact hR
      · intro H6 s6 e6
        have e7 : H6 D = some (.lst ((((cols p.w q.w dx).map fun x => Sq45.square (p.at_ x y) (q.at_ ((x : Int) - dx).toNat ((y : Int) - dy).toNat)).map fun n : Nat => (n : Int)).map V.int)) := by
          rw [e6, List.length_map, range_at, ← nV_map, List.map_map]
          rfl
        refine ⟨D, _, rfl, SqL.of e7, _, _, rfl, rfl, ?_⟩
        rw [sum_cast]
        have s36 := s45.trans s6
        refine ⟨some (nV y), some (.ref u), some (.ref o), ?_, s3.trans s36, s36 _ _ ec3, s36 _ _ er3⟩
        rw [take_sum _ hy]
        unfold nV
        rw [Int.natCast_add]
        rfl
    · rintro σ H3 ⟨vy, vu, vo, rfl, s3, ec3, er3⟩
      have l1 := Nat.le_trans (cols_len p.h q.h dy) ph
      have l2 := Nat.le_trans (cols_len p.w q.w dx) pw
      refine ⟨_, rfl, _, rfl, rl, _, rfl, .inl (SqL.of er3), _, rfl, cl, _, rfl, .inl (SqL.of ec3), _, _, rfl, rfl, .inl ⟨by rw [List.length_map]; omega, by rw [List.length_map]; omega⟩, by show 2 ≤ sizeLine; decide, fun t nt => ?_⟩
      refine k _ t (s3.trans (same_new nt)) (s3.free nt) ?_
      rw [upd_same, shifted_is, sqs_sum, List.length_map, List.length_map, List.take_length]
      unfold nV
      rw [Int.natCast_mul]
end
end Tw

set_option Elab.async false
set_option linter.all false
set_option maxRecDepth 100000
set_option maxHeartbeats 2000000
namespace Tw
open PySem PySem.Spec PyProof.Rows L2
section
variable {P : Program} {w : World} {K : PySem.W.Frag} {mg : Str → Option Value} {base : Heap} {Z : Adr}
def sp_is_too_large (_ : PySem.W.Frag) (Z : Adr) : Sp := fun vs H Q _ => ∃ (a b : Addr) (p q : Sq45.Picture), vs = [.ref a, .ref b] ∧ PicAt Z H a p ∧ PicAt Z H b q ∧ Q (.bl (decide (p.w < q.w ∨ p.h < q.h))) H
abbrev s_is_too_large : Stmt := top 28
abbrev n_is_too_large : List Str := ["picture", "piece"]
abbrev p_is_too_large : List Str := ["picture", "piece"]
theorem sc_is_too_large : FnScope n_is_too_large p_is_too_large (defScope s_is_too_large) := ⟨rfl, rfl, rfl, by decide +kernel, rfl, by decide +kernel, by decide +kernel⟩
theorem ok_is_too_large (T : Txt K mg Z) (D : Dn K mg "is_too_large" s_is_too_large p_is_too_large) : Okd P w K mg base "is_too_large" p_is_too_large 1 (sp_is_too_large K Z) := by
  obtain ⟨f, fd, D1, D2, D3⟩ := D
  refine ⟨f, fd, D2, D1.kp, D3, D1.ok sc_is_too_large (fun vs H Q E h => ?_) (fun cdv A outer s H vs Q E hr h => ?_)⟩
  · first | (obtain ⟨_, rfl, _⟩ := h; rfl) | (obtain ⟨_, _, rfl, _⟩ := h; rfl) | (obtain ⟨_, _, _, rfl, _⟩ := h; rfl) | (obtain ⟨_, _, _, _, rfl, _⟩ := h; rfl) | (obtain ⟨_, _, _, _, _, rfl, _⟩ := h; rfl) | (obtain ⟨_, _, _, _, _, _, rfl, _⟩ := h; rfl) | (obtain ⟨_, _, _, _, _, _, _, rfl, _⟩ := h; rfl) | (obtain ⟨_, _, _, _, _, _, _, _, rfl, _⟩ := h; rfl) | (obtain ⟨_, _, _, _, _, _, _, _, _, rfl, _⟩ := h; rfl) | (obtain ⟨_, _, _, _, _, _, _, _, _, _, rfl, _⟩ := h; rfl) | (obtain ⟨_, _, _, _, _, _, _, _, _, _, _, rfl, _⟩ := h; rfl) | (obtain ⟨_, _, _, _, _, _, _, _, _, _, _, _, rfl, _⟩ := h; rfl) | (obtain ⟨_, _, _, _, _, _, _, _, _, _, _, _, _, rfl, _⟩ := h; rfl) | (obtain ⟨rfl, _⟩ := h; rfl)
  · refine ⟨_, (pss_one (ps_ret (pe_or (pe_cmpR op_gt (pe_fld (pv 1) rfl) (pe_fld (pv 0) rfl) (nomark _)) (pe_one (pe_cmpR op_gt (pe_fld (pv 1) rfl) (pe_fld (pv 0) rfl) (nomark _)))))), ?_⟩
    obtain ⟨a, b, p, q, rfl, ⟨d1, ca, hA, hC⟩, ⟨d2, cb, hB, hE⟩, k⟩ := h
    refine ⟨_, rfl, b, _, d2, _, _, rfl, hB, T.cl_Picture, T.na_Picture_w, picF_w q cb, _, rfl, a, _, d1, _, _, rfl, hA, T.cl_Picture, T.na_Picture_w, picF_w p ca, _, _, rfl, rfl, _, rfl, ifD (fun c => ?_) (fun c => ?_)⟩
    · rw [decide_eq_true (show p.w < q.w ∨ p.h < q.h by omega)] at k
      exact k
    · refine ⟨_, rfl, b, _, d2, _, _, rfl, hB, T.cl_Picture, T.na_Picture_h, picF_h q cb, _, rfl, a, _, d1, _, _, rfl, hA, T.cl_Picture, T.na_Picture_h, picF_h p ca, _, _, rfl, rfl, ?_⟩
      have e : decide ((p.h : Int) < (q.h : Int)) = decide (p.w < q.w ∨ p.h < q.h) := decide_eq_decide.mpr (by omega)
      rw [← e] at k
      exact k
def sp_is_within (_ : PySem.W.Frag) (Z : Adr) : Sp := fun vs H Q _ => ∃ (a : Addr) (p : Sq45.Picture) (x y w h : Nat), vs = [.ref a, .int (x : Int), .int (y : Int), .int (w : Int), .int (h : Int)] ∧ PicAt Z H a p ∧
  Q (.bl (decide (0 < w ∧ 0 < h ∧ x + w ≤ p.w ∧ y + h ≤ p.h))) H
abbrev s_is_within : Stmt := top 52
abbrev n_is_within : List Str := ["picture", "x", "y", "w", "h"]
abbrev p_is_within : List Str := ["picture", "x", "y", "w", "h"]
theorem sc_is_within : FnScope n_is_within p_is_within (defScope s_is_within) := ⟨rfl, rfl, rfl, by decide +kernel, rfl, by decide +kernel, by decide +kernel⟩
theorem ok_is_within (T : Txt K mg Z) (D : Dn K mg "is_within" s_is_within p_is_within) : Okd P w K mg base "is_within" p_is_within 1 (sp_is_within K Z) := by
  obtain ⟨f, fd, D1, D2, D3⟩ := D
  refine ⟨f, fd, D2, D1.kp, D3, D1.ok sc_is_within (fun vs H Q E h => ?_) (fun cdv A outer s H vs Q E hr h => ?_)⟩
  · first | (obtain ⟨_, rfl, _⟩ := h; rfl) | (obtain ⟨_, _, rfl, _⟩ := h; rfl) | (obtain ⟨_, _, _, rfl, _⟩ := h; rfl) | (obtain ⟨_, _, _, _, rfl, _⟩ := h; rfl) | (obtain ⟨_, _, _, _, _, rfl, _⟩ := h; rfl) | (obtain ⟨_, _, _, _, _, _, rfl, _⟩ := h; rfl) | (obtain ⟨_, _, _, _, _, _, _, rfl, _⟩ := h; rfl) | (obtain ⟨_, _, _, _, _, _, _, _, rfl, _⟩ := h; rfl) | (obtain ⟨_, _, _, _, _, _, _, _, _, rfl, _⟩ := h; rfl) | (obtain ⟨_, _, _, _, _, _, _, _, _, _, rfl, _⟩ := h; rfl) | (obtain ⟨_, _, _, _, _, _, _, _, _, _, _, rfl, _⟩ := h; rfl) | (obtain ⟨_, _, _, _, _, _, _, _, _, _, _, _, rfl, _⟩ := h; rfl) | (obtain ⟨_, _, _, _, _, _, _, _, _, _, _, _, _, rfl, _⟩ := h; rfl) | (obtain ⟨rfl, _⟩ := h; rfl)
  · refine ⟨_, (pss_one (ps_ret (pe_and (pe_cmpR op_gt (pv 3) pe_int (nomark _)) (pe_and (pe_cmpR op_gt (pv 4) pe_int (nomark _)) (pe_and (pe_cmpR op_le (pe_op op_add (pv 1) (pv 3)) (pe_fld (pv 0) rfl) (nomark _)) (pe_one (pe_cmpR op_le (pe_op op_add (pv 2) (pv 4)) (pe_fld (pv 0) rfl) (nomark _)))))))), ?_⟩
    obtain ⟨a, p, x, y, w, h, rfl, ⟨dx, ca, hA, hC⟩, k⟩ := h
    have no : ¬ (0 < w ∧ 0 < h ∧ x + w ≤ p.w ∧ y + h ≤ p.h) → Q (.bl false) H := by
      intro e
      rw [decide_eq_false e] at k
      exact k
    refine ⟨_, rfl, _, _, rfl, rfl, _, rfl, ifD (fun c1 => ?_) (fun c1 => no (by omega))⟩
    refine ⟨_, rfl, _, _, rfl, rfl, _, rfl, ifD (fun c2 => ?_) (fun c2 => no (by omega))⟩
    refine ⟨_, rfl, _, rfl, _, _, rfl, rfl, _, rfl, a, _, dx, _, _, rfl, hA, T.cl_Picture, T.na_Picture_w, picF_w p ca, _, _, rfl, rfl, _, rfl, ifD (fun c3 => ?_) (fun c3 => no (by omega))⟩
    refine ⟨_, rfl, _, rfl, _, _, rfl, rfl, _, rfl, a, _, dx, _, _, rfl, hA, T.cl_Picture, T.na_Picture_h, picF_h p ca, _, _, rfl, rfl, ?_⟩
    have e : decide (((y : Int) + h) ≤ (p.h : Int)) = decide (0 < w ∧ 0 < h ∧ x + w ≤ p.w ∧ y + h ≤ p.h) := decide_eq_decide.mpr (by omega)
    rw [← e] at k
    exact k
def sp_parted_at (_ : PySem.W.Frag) (_ : Adr) : Sp := fun vs H Q _ => ∃ (a : Addr) (c : List Nat) (v : Nat), vs = [.ref a, .int (v : Int)] ∧ H a = some (.lst (c.map nV)) ∧ c.length ≤ 256 ∧
  ∀ H' q, Same H H' → H q = none → H' q = some (.lst ((c.map fun x => if x ≤ v then 0 else 255).map nV)) → Q (.ref q) H'
abbrev s_parted_at : Stmt := top 16
abbrev n_parted_at : List Str := ["colours", "v", "colour"]
abbrev p_parted_at : List Str := ["colours", "v"]
theorem sc_parted_at : FnScope n_parted_at p_parted_at (defScope s_parted_at) := ⟨rfl, rfl, rfl, by decide +kernel, rfl, by decide +kernel, by decide +kernel⟩
theorem ok_parted_at (T : Txt K mg Z) (D : Dn K mg "parted_at" s_parted_at p_parted_at) : Okd P w K mg base "parted_at" p_parted_at 1 (sp_parted_at K Z) := by
  obtain ⟨f, fd, D1, D2, D3⟩ := D
  refine ⟨f, fd, D2, D1.kp, D3, D1.ok sc_parted_at (fun vs H Q E h => ?_) (fun cdv A outer s H vs Q E hr h => ?_)⟩
  · first | (obtain ⟨_, rfl, _⟩ := h; rfl) | (obtain ⟨_, _, rfl, _⟩ := h; rfl) | (obtain ⟨_, _, _, rfl, _⟩ := h; rfl) | (obtain ⟨_, _, _, _, rfl, _⟩ := h; rfl) | (obtain ⟨_, _, _, _, _, rfl, _⟩ := h; rfl) | (obtain ⟨_, _, _, _, _, _, rfl, _⟩ := h; rfl) | (obtain ⟨_, _, _, _, _, _, _, rfl, _⟩ := h; rfl) | (obtain ⟨_, _, _, _, _, _, _, _, rfl, _⟩ := h; rfl) | (obtain ⟨_, _, _, _, _, _, _, _, _, rfl, _⟩ := h; rfl) | (obtain ⟨_, _, _, _, _, _, _, _, _, _, rfl, _⟩ := h; rfl) | (obtain ⟨_, _, _, _, _, _, _, _, _, _, _, rfl, _⟩ := h; rfl) | (obtain ⟨_, _, _, _, _, _, _, _, _, _, _, _, rfl, _⟩ := h; rfl) | (obtain ⟨_, _, _, _, _, _, _, _, _, _, _, _, _, rfl, _⟩ := h; rfl) | (obtain ⟨rfl, _⟩ := h; rfl)
  · refine ⟨_, (pss_one (ps_ret (pe_lc (own := [("colour", 2)]) (g := gName 2) (tt := tYes) rfl sc_parted_at.nd (pi_list (pv 0)) (blkOk_by (N := n_parted_at) (sc := defScope s_parted_at) (by decide +kernel)) (fun _ _ _ _ _ => (pg_name (i := 2) sc_parted_at.nd rfl (Or.inl rfl))) (fun _ _ _ _ _ => pts_nil) (fun _ _ _ _ _ => (pe_ifExp (pt_cmpR op_le (pv 2) (pv 1) (nomark _)) pe_int pe_int))))), ?_⟩
    obtain ⟨a, c, v, rfl, hA, hl, k⟩ := h
    refine ⟨_, rfl, a, rfl, ⟨_, SqL.of hA⟩, fun D hD => ?_⟩
    refine lc_w (walk_list (xs := c.map nV)) (fun i => (c[i]?).map fun x => nV (if x ≤ v then 0 else 255)) hD (by rw [List.length_map]; exact Nat.le_trans hl (by decide)) (fun H1 s1 => SqL.of (s1 _ _ hA)) ?_ ?_
    · rintro i x H1' H1 hi s1 ⟨rfl, hx⟩ R hR
      obtain ⟨z, hz, rfl⟩ := at_map hx
      rw [hz] at hR
      have hR := hR H1 (Same.refl _)
      rw [Option.map_some] at hR
      refine ⟨rfl, _, rfl, _, rfl, _, _, rfl, rfl, _, rfl, ifD (fun e => ?_) (fun e => ?_)⟩
      · rw [if_pos (by omega)] at hR
        exact hR
      · rw [if_neg (by omega)] at hR
        exact hR
    · intro H1 s1 e1
      refine k H1 D s1 hD ?_
      rw [e1, List.length_map, range_at, List.map_map]
      rfl
end
end Tw

set_option Elab.async false
set_option linter.all false
set_option maxRecDepth 100000
set_option maxHeartbeats 2000000
namespace Tw
open PySem PySem.Spec PyProof.Rows L2
section
variable {P : Program} {w : World} {K : PySem.W.Frag} {mg : Str → Option Value} {base : Heap} {Z : Adr}
def plc (W y : Nat) : List (Nat × Nat) := (List.range y).flatMap fun y => (List.range W).map fun x => (x, y)
theorem plc_more (W y : Nat) : plc W (y + 1) = plc W y ++ (List.range W).map fun x => (x, y) := by
  unfold plc
  rw [List.range_succ, List.flatMap_append]
  simp
theorem plc_in (W y x : Nat) : plc W y ++ (List.range (x + 1)).map (fun x => (x, y)) = (plc W y ++ (List.range x).map fun x => (x, y)) ++ [(x, y)] := by
  rw [List.range_succ, List.map_append, ← List.append_assoc]
  rfl
def bestV (m : (Nat × Nat) × Nat) : List V := [nV m.2, nV m.1.1, nV m.1.2]
def sp_best_place (_ : PySem.W.Frag) (Z : Adr) : Sp := fun vs H Q _ => ∃ (a b : Addr) (p q : Sq45.Picture), vs = [.ref a, .ref b] ∧ PicAt Z H a p ∧ PicAt Z H b q ∧ PicOk p ∧ PicOk q ∧ q.w ≤ p.w ∧ q.h ≤ p.h ∧
  ∀ H' l m, Same H H' → H l = none → p.best q = some m → H' l = some (.lst (bestV m)) → Q (.ref l) H'
abbrev s_best_place : Stmt := top 29
abbrev n_best_place : List Str := ["picture", "piece", "best", "y", "x", "squares"]
abbrev p_best_place : List Str := ["picture", "piece"]
theorem sc_best_place : FnScope n_best_place p_best_place (defScope s_best_place) := ⟨rfl, rfl, rfl, by decide +kernel, rfl, by decide +kernel, by decide +kernel⟩
theorem ok_best_place (T : Txt K mg Z) (c_fit_at : Okd P w K mg base "fit_at" p_fit_at 2 (sp_fit_at K Z)) (D : Dn K mg "best_place" s_best_place p_best_place) : Okd P w K mg base "best_place" p_best_place 3 (sp_best_place K Z) := by
  obtain ⟨f, fd, D1, D2, D3⟩ := D
  obtain ⟨a_fit_at, d_fit_at, m_fit_at, kp_fit_at, b_fit_at, F_fit_at⟩ := c_fit_at
  refine ⟨f, fd, D2, D1.kp, D3, D1.ok sc_best_place (fun vs H Q E h => ?_) (fun cdv A outer s H vs Q E hr h => ?_)⟩
  · first | (obtain ⟨_, rfl, _⟩ := h; rfl) | (obtain ⟨_, _, rfl, _⟩ := h; rfl) | (obtain ⟨_, _, _, rfl, _⟩ := h; rfl) | (obtain ⟨_, _, _, _, rfl, _⟩ := h; rfl) | (obtain ⟨_, _, _, _, _, rfl, _⟩ := h; rfl) | (obtain ⟨_, _, _, _, _, _, rfl, _⟩ := h; rfl) | (obtain ⟨_, _, _, _, _, _, _, rfl, _⟩ := h; rfl) | (obtain ⟨_, _, _, _, _, _, _, _, rfl, _⟩ := h; rfl) | (obtain ⟨_, _, _, _, _, _, _, _, _, rfl, _⟩ := h; rfl) | (obtain ⟨_, _, _, _, _, _, _, _, _, _, rfl, _⟩ := h; rfl) | (obtain ⟨_, _, _, _, _, _, _, _, _, _, _, rfl, _⟩ := h; rfl) | (obtain ⟨_, _, _, _, _, _, _, _, _, _, _, _, rfl, _⟩ := h; rfl) | (obtain ⟨_, _, _, _, _, _, _, _, _, _, _, _, _, rfl, _⟩ := h; rfl) | (obtain ⟨rfl, _⟩ := h; rfl)
  · refine ⟨_, (pss_cons (ps_set (i := 2) sc_best_place.nd rfl (Or.inl rfl) (pe_lst (pa_cons (pe_ix ix_tup (pe_call F_fit_at (hr.mono (by decide)) (by rfl) m_fit_at kp_fit_at b_fit_at .nil pass0 (pa_cons (pv 0) (pa_cons (pv 1) (pa_cons pe_int (pa_cons pe_int pa_nil))))) pe_int (fun _ _ => rfl)) (pa_cons pe_int (pa_cons pe_int pa_nil)))))
        (pss_cons (ps_for PassesOwn.never rfl (pi_range1 (by rfl) T.n_range (pa_cons (pe_op op_add (pe_op op_sub (pe_fld (pv 0) rfl) (pe_fld (pv 1) rfl)) pe_int) pa_nil)) (pg_name (i := 3) sc_best_place.nd rfl (Or.inl rfl)) (pss_one (ps_for PassesOwn.never rfl (pi_range1 (by rfl) T.n_range (pa_cons (pe_op op_add (pe_op op_sub (pe_fld (pv 0) rfl) (pe_fld (pv 1) rfl)) pe_int) pa_nil)) (pg_name (i := 4) sc_best_place.nd rfl (Or.inl rfl)) (pss_cons (ps_set (i := 5) sc_best_place.nd rfl (Or.inl rfl) (pe_ix ix_tup (pe_call F_fit_at (hr.mono (by decide)) (by rfl) m_fit_at kp_fit_at b_fit_at .nil pass0 (pa_cons (pv 0) (pa_cons (pv 1) (pa_cons (pv 4) (pa_cons (pv 3) pa_nil))))) pe_int (fun _ _ => rfl)))
        (pss_one (ps_if (pt_cmpR op_lt (pv 5) (pe_ix ix_list (pv 2) pe_int (fun _ _ => rfl)) (nomark _)) (pss_one (ps_set (i := 2) sc_best_place.nd rfl (Or.inl rfl) (pe_lst (pa_cons (pv 5) (pa_cons (pv 4) (pa_cons (pv 3) pa_nil)))))) pss_nil))))))
        (pss_one (ps_ret (pv 2))))), ?_⟩
    obtain ⟨a, b, p, q, rfl, ⟨d1, ca, hA, hC⟩, ⟨d2, cb, hB, hE⟩, op, oq, hw, hh, k⟩ := h
    have pw := op.w2
    have ph := op.h2
    refine ⟨_, rfl, _, rfl, a, b, p, q, 0, 0, rfl, ⟨d1, ca, hA, hC⟩, ⟨d2, cb, hB, hE⟩, op, oq, by decide, by decide, by decide, by decide, fun H1 t s1 nt et => ?_⟩
    refine ⟨t, _, _, _, rfl, rfl, SqT.of et, atI_nat (j := 0) rfl, by show 3 ≤ sizeLine; decide, fun l nl => ?_⟩
    have s2 := s1.trans (same_new (o := .lst [nV (p.shifted q 0 0).1, .int 0, .int 0]) nl)
    have m0 : p.misfit q 0 0 = (p.shifted q 0 0).1 := misfit_is (x := 0) (y := 0) (by omega) (by omega)
    refine ⟨_, rfl, a, _, d1, _, _, rfl, s2 _ _ hA, T.cl_Picture, T.na_Picture_h, picF_h p ca, _, rfl, b, _, d2, _, _, rfl, s2 _ _ hB, T.cl_Picture, T.na_Picture_h, picF_h q cb, _, _, rfl, rfl, _, _, rfl, rfl, _, rfl, by omega, by omega, ?_⟩
    rw [show ((p.h : Int) - q.h + 1).toNat = p.h + 1 - q.h by omega]
    refine for_it (walk_range (lo := 0) (n := p.h + 1 - q.h)) (fun y σ H' => ∃ l vy vx vs m, σ = [some (.ref a), some (.ref b), some (.ref l), vy, vx, vs] ∧ Same H H' ∧ H l = none ∧ bp p q (plc (p.w + 1 - q.w) y) = some m ∧ H' l = some (.lst (bestV m)))
      ⟨l, none, none, none, ((0, 0), p.misfit q 0 0), rfl, s2, s1.free nl, rfl, ?_⟩ (fun _ _ _ _ _ => trivial) ?_ ?_
    · rw [upd_same, m0]
      rfl
    · rintro y v0 σ H2' H2 hy ⟨l, vy, vx, vs, m, rfl, s3, nl3, em, el⟩ ⟨rfl, hv⟩
      obtain rfl := rng_item hv
      refine ⟨_, rfl, a, _, d1, _, _, rfl, s3 _ _ hA, T.cl_Picture, T.na_Picture_w, picF_w p ca, _, rfl, b, _, d2, _, _, rfl, s3 _ _ hB, T.cl_Picture, T.na_Picture_w, picF_w q cb, _, _, rfl, rfl, _, _, rfl, rfl, _, rfl, by omega, by omega, ?_⟩
      rw [show ((p.w : Int) - q.w + 1).toNat = p.w + 1 - q.w by omega]
      refine for_it (walk_range (lo := 0) (n := p.w + 1 - q.w)) (fun x σ H' => ∃ l vx vs m, σ = [some (.ref a), some (.ref b), some (.ref l), some (.int (y : Int)), vx, vs] ∧ Same H H' ∧ H l = none ∧ bp p q (plc (p.w + 1 - q.w) y ++ (List.range x).map fun x => (x, y)) = some m ∧ H' l = some (.lst (bestV m)))
        ⟨l, vx, vs, m, rfl, s3, nl3, by rw [← em]; simp, el⟩ (fun _ _ _ _ _ => trivial) ?_ ?_
      · rintro x v1 σ H3' H3 hx ⟨l, vx, vs, m, rfl, s4, nl4, em, el⟩ ⟨rfl, hv⟩
        obtain rfl := rng_item hv
        refine ⟨_, rfl, _, rfl, _, rfl, _, rfl, a, b, p, q, x, y, rfl, Same.pic s4 ⟨d1, ca, hA, hC⟩, Same.pic s4 ⟨d2, cb, hB, hE⟩, op, oq, by omega, by omega, by omega, by omega, fun H4 t s5 nt et => ?_⟩
        have mf : p.misfit q x y = (p.shifted q x y).1 := misfit_is (by omega) (by omega)
        rw [← mf] at et
        have s45 := s4.trans s5
        have el5 := s5 _ _ el
        have step : bp p q (plc (p.w + 1 - q.w) y ++ (List.range (x + 1)).map fun x => (x, y)) = if p.misfit q x y < m.2 then some ((x, y), p.misfit q x y) else some m := by
          rw [plc_in, bp_more, em]
          rfl
        refine ⟨t, _, _, _, rfl, rfl, SqT.of et, atI_nat (j := 0) rfl, ?_⟩
        refine ⟨_, rfl, _, rfl, l, _, _, _, rfl, rfl, SqL.of el5, atI_nat (j := 0) rfl, _, _, rfl, rfl, _, rfl, ifD (fun c => ?_) (fun c => ?_)⟩
        · refine ⟨_, rfl, _, rfl, _, rfl, by show 3 ≤ sizeLine; decide, fun l2 nl2 => ?_⟩
          refine ⟨l2, _, _, ((x, y), p.misfit q x y), rfl, s45.trans (same_new nl2), s45.free nl2, ?_, upd_same⟩
          rw [step]
          exact if_pos (by omega)
        · refine ⟨l, _, _, m, rfl, s45, nl4, ?_, el5⟩
          rw [step]
          exact if_neg (by omega)
      · rintro σ H3 ⟨l, vx, vs, m, rfl, s4, nl4, em, el⟩
        refine ⟨l, _, _, _, m, rfl, s4, nl4, ?_, el⟩
        rw [plc_more]
        exact em
    · rintro σ H2 ⟨l, vy, vx, vs, m, rfl, s3, nl3, em, el⟩
      refine ⟨_, rfl, k H2 l m s3 nl3 ?_ el⟩
      rw [best_bp hw hh]
      exact em
end
end Tw

set_option Elab.async false
set_option linter.all false
set_option maxRecDepth 100000
set_option maxHeartbeats 2000000
namespace Tw
open PySem PySem.Spec PyProof.Rows L2
section
variable {P : Program} {w : World} {K : PySem.W.Frag} {mg : Str → Option Value} {base : Heap} {Z : Adr}
def shs (r n : Nat) : List (Int × Int) := (List.range n).flatMap fun (j : Nat) => (List.range (2 * r + 1)).map fun (i : Nat) => ((i : Int) - r, (j : Int) - r)
theorem shs_more (r n : Nat) : shs r (n + 1) = shs r n ++ (List.range (2 * r + 1)).map fun (i : Nat) => ((i : Int) - r, (n : Int) - r) := by
  unfold shs
  rw [List.range_succ (n := n), List.flatMap_append]
  simp
theorem shs_in (r n i : Nat) : shs r n ++ (List.range (i + 1)).map (fun (i : Nat) => ((i : Int) - r, (n : Int) - r)) = (shs r n ++ (List.range i).map fun (i : Nat) => ((i : Int) - r, (n : Int) - r)) ++ [((i : Int) - r, (n : Int) - r)] := by
  rw [List.range_succ, List.map_append, ← List.append_assoc]
  rfl
/-- the best so far, and how it fits -/
def BsAt (H : Hp) (bt : Addr) (vl : V) : Option ((Int × Int) × (Nat × Nat)) → Prop
  | none => vl = .non
  | some m => H bt = some (.tup [.int m.1.1, .int m.1.2]) ∧ ∃ t, vl = .ref t ∧ H t = some (.tup [nV m.2.1, nV m.2.2])
theorem BsAt.same {H H' : Hp} {bt : Addr} {vl : V} {o : Option ((Int × Int) × (Nat × Nat))} (s : Same H H') (h : BsAt H bt vl o) : BsAt H' bt vl o := by
  cases o with
  | none => exact h
  | some m =>
    obtain ⟨h1, t, h2, h3⟩ := h
    exact ⟨s _ _ h1, t, h2, s _ _ h3⟩
def sp_best_shift (_ : PySem.W.Frag) (Z : Adr) : Sp := fun vs H Q _ => ∃ (a b : Addr) (p q : Sq45.Picture) (r : Nat), vs = [.ref a, .ref b, .int (r : Int)] ∧ PicAt Z H a p ∧ PicAt Z H b q ∧ PicOk p ∧ PicOk q ∧ r ≤ 8 ∧
  ∀ H' l m, Same H H' → H l = none → bs p q (Sq45.shifts r) = some m → H' l = some (.lst [.int m.1.1, .int m.1.2, nV m.2.1, nV m.2.2]) → Q (.ref l) H'
abbrev s_best_shift : Stmt := top 30
abbrev n_best_shift : List Str := ["picture", "piece", "r", "best", "least", "dy", "dx", "fit"]
abbrev p_best_shift : List Str := ["picture", "piece", "r"]
theorem sc_best_shift : FnScope n_best_shift p_best_shift (defScope s_best_shift) := ⟨rfl, rfl, rfl, by decide +kernel, rfl, by decide +kernel, by decide +kernel⟩
theorem ok_best_shift (T : Txt K mg Z) (c_fit_at : Okd P w K mg base "fit_at" p_fit_at 2 (sp_fit_at K Z)) (c_is_more : Okd P w K mg base "is_more" p_is_more 1 (sp_is_more K Z)) (D : Dn K mg "best_shift" s_best_shift p_best_shift) : Okd P w K mg base "best_shift" p_best_shift 3 (sp_best_shift K Z) := by
  obtain ⟨f, fd, D1, D2, D3⟩ := D
  obtain ⟨a_fit_at, d_fit_at, m_fit_at, kp_fit_at, b_fit_at, F_fit_at⟩ := c_fit_at
  obtain ⟨a_is_more, d_is_more, m_is_more, kp_is_more, b_is_more, F_is_more⟩ := c_is_more
  refine ⟨f, fd, D2, D1.kp, D3, D1.ok sc_best_shift (fun vs H Q E h => ?_) (fun cdv A outer s H vs Q E hr h => ?_)⟩
  · first | (obtain ⟨_, rfl, _⟩ := h; rfl) | (obtain ⟨_, _, rfl, _⟩ := h; rfl) | (obtain ⟨_, _, _, rfl, _⟩ := h; rfl) | (obtain ⟨_, _, _, _, rfl, _⟩ := h; rfl) | (obtain ⟨_, _, _, _, _, rfl, _⟩ := h; rfl) | (obtain ⟨_, _, _, _, _, _, rfl, _⟩ := h; rfl) | (obtain ⟨_, _, _, _, _, _, _, rfl, _⟩ := h; rfl) | (obtain ⟨_, _, _, _, _, _, _, _, rfl, _⟩ := h; rfl) | (obtain ⟨_, _, _, _, _, _, _, _, _, rfl, _⟩ := h; rfl) | (obtain ⟨_, _, _, _, _, _, _, _, _, _, rfl, _⟩ := h; rfl) | (obtain ⟨_, _, _, _, _, _, _, _, _, _, _, rfl, _⟩ := h; rfl) | (obtain ⟨_, _, _, _, _, _, _, _, _, _, _, _, rfl, _⟩ := h; rfl) | (obtain ⟨_, _, _, _, _, _, _, _, _, _, _, _, _, rfl, _⟩ := h; rfl) | (obtain ⟨rfl, _⟩ := h; rfl)
  · refine ⟨_, (pss_cons (ps_set (i := 3) sc_best_shift.nd rfl (Or.inl rfl) (pe_tup (pa_cons pe_int (pa_cons pe_int pa_nil))))
        (pss_cons (ps_set (i := 4) sc_best_shift.nd rfl (Or.inl rfl) pe_non)
        (pss_cons (ps_for PassesOwn.never rfl (pi_range2 (by rfl) T.n_range (pa_cons (pe_un un_neg (pv 2)) (pa_cons (pe_op op_add (pv 2) pe_int) pa_nil))) (pg_name (i := 5) sc_best_shift.nd rfl (Or.inl rfl)) (pss_one (ps_for PassesOwn.never rfl (pi_range2 (by rfl) T.n_range (pa_cons (pe_un un_neg (pv 2)) (pa_cons (pe_op op_add (pv 2) pe_int) pa_nil))) (pg_name (i := 6) sc_best_shift.nd rfl (Or.inl rfl)) (pss_cons (ps_set (i := 7) sc_best_shift.nd rfl (Or.inl rfl) (pe_call F_fit_at (hr.mono (by decide)) (by rfl) m_fit_at kp_fit_at b_fit_at .nil pass0 (pa_cons (pv 0) (pa_cons (pv 1) (pa_cons (pv 6) (pa_cons (pv 5) pa_nil))))))
        (pss_one (ps_if (PW.pt (pw_and (pt_cmpR op_gt (pe_ix ix_tup (pv 7) pe_int (fun _ _ => rfl)) pe_int (nomark _)) (pw_and1 (PW.pt (pw_or (pt_cmpR op_isN (pv 4) pe_non (nomark _)) (pw_or1 (pt_val (pe_call F_is_more (hr.mono (by decide)) (by rfl) m_is_more kp_is_more b_is_more .nil pass0 (pa_cons (pv 4) (pa_cons (pv 7) pa_nil)))))))))) (pss_cons (ps_set (i := 3) sc_best_shift.nd rfl (Or.inl rfl) (pe_tup (pa_cons (pv 6) (pa_cons (pv 5) pa_nil))))
        (pss_one (ps_set (i := 4) sc_best_shift.nd rfl (Or.inl rfl) (pv 7)))) pss_nil))))))
        (pss_one (ps_ret (pe_lst (pa_cons (pe_ix ix_tup (pv 3) pe_int (fun _ _ => rfl)) (pa_cons (pe_ix ix_tup (pv 3) pe_int (fun _ _ => rfl)) (pa_cons (pe_ix ix_tup (pv 4) pe_int (fun _ _ => rfl)) (pa_cons (pe_ix ix_tup (pv 4) pe_int (fun _ _ => rfl)) pa_nil)))))))))), ?_⟩
    obtain ⟨a, b, p, q, r, rfl, hP, hQ, op, oq, hr8, k⟩ := h
    refine ⟨by show 2 ≤ sizeLine; decide, fun bt nb => ?_⟩
    refine ⟨_, rfl, _, rfl, _, rfl, _, _, rfl, rfl, _, _, rfl, ⟨by omega, by omega, by omega, by omega⟩, ?_⟩
    rw [show ((r : Int) + 1 - -(r : Int)).toNat = 2 * r + 1 by omega]
    refine for_it (walk_range (lo := -(r : Int)) (n := 2 * r + 1)) (fun j σ H' => ∃ bt vl vy vx vf, σ = [some (.ref a), some (.ref b), some (.int (r : Int)), some (.ref bt), some vl, vy, vx, vf] ∧ Same H H' ∧ BsAt H' bt vl (bs p q (shs r j)))
      ⟨bt, .non, none, none, none, rfl, same_new nb, rfl⟩ (fun _ _ _ _ _ => trivial) ?_ ?_
    · rintro j v0 σ H1' H1 hj ⟨bt, vl, vy, vx, vf, rfl, s1, e1⟩ ⟨rfl, hv⟩
      have ev : v0 = .int ((j : Int) - r) := by
        rw [hv]
        refine congrArg V.int ?_
        omega
      subst ev
      refine ⟨_, rfl, _, rfl, _, rfl, _, _, rfl, rfl, _, _, rfl, ⟨by omega, by omega, by omega, by omega⟩, ?_⟩
      rw [show ((r : Int) + 1 - -(r : Int)).toNat = 2 * r + 1 by omega]
      refine for_it (walk_range (lo := -(r : Int)) (n := 2 * r + 1)) (fun i σ H' => ∃ bt vl vx vf, σ = [some (.ref a), some (.ref b), some (.int (r : Int)), some (.ref bt), some vl, some (.int ((j : Int) - r)), vx, vf] ∧ Same H H' ∧ BsAt H' bt vl (bs p q (shs r j ++ (List.range i).map fun (i : Nat) => ((i : Int) - r, (j : Int) - r))))
        ⟨bt, vl, vx, vf, rfl, s1, by simpa using e1⟩ (fun _ _ _ _ _ => trivial) ?_ ?_
      · rintro i v1 σ H2' H2 hi ⟨bt, vl, vx, vf, rfl, s2, e2⟩ ⟨rfl, hv⟩
        have ev : v1 = .int ((i : Int) - r) := by
          rw [hv]
          refine congrArg V.int ?_
          omega
        subst ev
        refine ⟨_, rfl, _, rfl, _, rfl, _, rfl, a, b, p, q, (i : Int) - r, (j : Int) - r, rfl, Same.pic s2 hP, Same.pic s2 hQ, op, oq, by omega, by omega, by omega, by omega, fun H3 t s3 nt et => ?_⟩
        have s23 := s2.trans s3
        have step := bs_more p q (shs r j ++ (List.range i).map fun (i : Nat) => ((i : Int) - r, (j : Int) - r)) ((i : Int) - r, (j : Int) - r)
        rw [← shs_in] at step
        refine ⟨_, rfl, t, _, _, _, rfl, rfl, SqT.of et, atI_nat (j := 1) rfl, _, _, rfl, rfl, _, rfl, ifD (fun c => ?_) (fun c => iteF ?_)⟩
        · have c0 : ¬ (p.shifted q ((i : Int) - r) ((j : Int) - r)).2 = 0 := by omega
          rw [if_neg c0] at step
          have take : bestS (bs p q (shs r j ++ (List.range i).map fun (i : Nat) => ((i : Int) - r, (j : Int) - r))) (((i : Int) - r, (j : Int) - r), p.shifted q ((i : Int) - r) ((j : Int) - r)) = some (((i : Int) - r, (j : Int) - r), p.shifted q ((i : Int) - r) ((j : Int) - r)) →
              ∀ b2, H3 b2 = none → BsAt (upd H3 b2 (.tup [.int ((i : Int) - r), .int ((j : Int) - r)])) b2 (.ref t) (bs p q (shs r j ++ (List.range (i + 1)).map fun (i : Nat) => ((i : Int) - r, (j : Int) - r))) := by
            intro e b2 nb2
            rw [step, e]
            exact ⟨upd_same, t, rfl, same_new nb2 _ _ et⟩
          cases eb : bs p q (shs r j ++ (List.range i).map fun (i : Nat) => ((i : Int) - r, (j : Int) - r)) with
          | none =>
            rw [eb] at e2 take
            obtain rfl : vl = .non := e2
            refine ⟨_, rfl, rfl, _, rfl, ⟨_, rfl, _, rfl, by show 2 ≤ sizeLine; decide, fun b2 nb2 => ?_⟩⟩
            exact ⟨_, rfl, b2, .ref t, _, _, rfl, s23.trans (same_new nb2), take rfl b2 nb2⟩
          | some m =>
            rw [eb] at e2 take step
            obtain ⟨h1, t0, rfl, h3⟩ := e2
            obtain ⟨z, ez⟩ := bs_lt op oq eb
            refine ⟨_, rfl, rfl, _, rfl, ⟨_, rfl, _, rfl, t0, t, m.2, p.shifted q ((i : Int) - r) ((j : Int) - r), rfl, s3 _ _ h3, et, by rw [ez]; exact sqs_lt op oq _ _, sqs_lt op oq _ _, _, rfl, ifD (fun c2 => ?_) (fun c2 => ?_)⟩⟩
            · refine ⟨_, rfl, _, rfl, by show 2 ≤ sizeLine; decide, fun b2 nb2 => ?_⟩
              exact ⟨_, rfl, b2, .ref t, _, _, rfl, s23.trans (same_new nb2), take (if_pos c2) b2 nb2⟩
            · refine ⟨bt, .ref t0, _, _, rfl, s23, ?_⟩
              have e5 : bestS (some m) (((i : Int) - r, (j : Int) - r), p.shifted q ((i : Int) - r) ((j : Int) - r)) = some m := if_neg c2
              rw [step, e5]
              exact ⟨s3 _ _ h1, t0, rfl, s3 _ _ h3⟩
        · have c0 : (p.shifted q ((i : Int) - r) ((j : Int) - r)).2 = 0 := by omega
          rw [if_pos c0] at step
          refine ⟨bt, vl, _, _, rfl, s23, ?_⟩
          rw [step]
          exact BsAt.same s3 e2
      · rintro σ H2 ⟨bt, vl, vx, vf, rfl, s2, e2⟩
        refine ⟨bt, vl, _, _, _, rfl, s2, ?_⟩
        rw [shs_more]
        exact e2
    · rintro σ H1 ⟨bt, vl, vy, vx, vf, rfl, s1, e1⟩
      have e1 : BsAt H1 bt vl (bs p q (Sq45.shifts r)) := e1
      obtain ⟨m, em⟩ := bs_some (shifts_own r) (shift_own op oq)
      rw [em] at e1
      obtain ⟨h1, t, rfl, h3⟩ := e1
      refine ⟨_, rfl, bt, _, _, _, rfl, rfl, SqT.of h1, atI_nat (j := 0) rfl, _, rfl, bt, _, _, _, rfl, rfl, SqT.of h1, atI_nat (j := 1) rfl, _, rfl, t, _, _, _, rfl, rfl, SqT.of h3, atI_nat (j := 0) rfl, _, rfl, t, _, _, _, rfl, rfl, SqT.of h3, atI_nat (j := 1) rfl, by show 4 ≤ sizeLine; decide, fun l nl => ?_⟩
      exact k _ l m (s1.trans (same_new nl)) (s1.free nl) em upd_same
end
end Tw

set_option Elab.async false
set_option linter.all false
set_option maxRecDepth 100000
set_option maxHeartbeats 2000000
namespace Tw
open PySem PySem.Spec PyProof.Rows L2
section
variable {P : Program} {w : World} {K : PySem.W.Frag} {mg : Str → Option Value} {base : Heap} {Z : Adr}
/-- pairs of numbers, each a tuple of its own -/
structure TupsAt (H : Hp) (as : List Addr) (xs : List (Nat × Nat)) : Prop where
  len : as.length = xs.length
  at_ : ∀ (i : Nat) (a : Addr) (z : Nat × Nat), as[i]? = some a → xs[i]? = some z → H a = some (.tup [nV z.1, nV z.2])
theorem TupsAt.same {H H' : Hp} {as : List Addr} {xs : List (Nat × Nat)} (h : TupsAt H as xs) (s : ∀ a o, a ∈ as → H a = some o → H' a = some o) : TupsAt H' as xs :=
  ⟨h.len, fun i a c h1 h2 => s a _ (List.mem_of_getElem? h1) (h.at_ i a c h1 h2)⟩
theorem TupsAt.nil {H : Hp} : TupsAt H [] [] := ⟨rfl, fun i a c h _ => by simp at h⟩
theorem TupsAt.more {H : Hp} {as : List Addr} {xs : List (Nat × Nat)} {a : Addr} {z : Nat × Nat} (h : TupsAt H as xs) (e : H a = some (.tup [nV z.1, nV z.2])) : TupsAt H (as ++ [a]) (xs ++ [z]) := by
  refine ⟨by simp [h.len], fun i b d h1 h2 => ?_⟩
  by_cases hi : i < as.length
  · rw [List.getElem?_append_left hi] at h1
    rw [List.getElem?_append_left (by rw [← h.len]; exact hi)] at h2
    exact h.at_ i b d h1 h2
  · rw [List.getElem?_append_right (by omega)] at h1
    rw [List.getElem?_append_right (by rw [← h.len]; omega), ← h.len] at h2
    have hz : i - as.length = 0 := by
      cases hk : i - as.length with
      | zero => rfl
      | succ n => rw [hk] at h1; simp at h1
    rw [hz] at h1 h2
    cases h1
    cases h2
    exact e
def sp_spread_of (_ : PySem.W.Frag) (_ : Adr) : Sp := fun vs H Q _ => ∃ (a : Addr) (c : List Nat), vs = [.ref a] ∧ H a = some (.lst (c.map nV)) ∧ c.length ≤ 256 ∧ (∀ x ∈ c, x ≤ 255) ∧
  ∀ H' q as, Same H H' → H q = none → H' q = some (.lst (as.map V.ref)) → TupsAt H' as (spreadL c) → Q (.ref q) H'
theorem spreadL_len (c : List Nat) : (spreadL c).length ≤ 256 := by
  unfold spreadL
  rw [List.length_map]
  exact Nat.le_trans (List.length_filter_le _ _) (by rw [List.length_range]; decide)
abbrev s_spread_of : Stmt := top 17
abbrev n_spread_of : List Str := ["colours", "colour"]
abbrev p_spread_of : List Str := ["colours"]
theorem sc_spread_of : FnScope n_spread_of p_spread_of (defScope s_spread_of) := ⟨rfl, rfl, rfl, by decide +kernel, rfl, by decide +kernel, by decide +kernel⟩
theorem ok_spread_of (T : Txt K mg Z) (D : Dn K mg "spread_of" s_spread_of p_spread_of) : Okd P w K mg base "spread_of" p_spread_of 1 (sp_spread_of K Z) := by
  obtain ⟨f, fd, D1, D2, D3⟩ := D
  refine ⟨f, fd, D2, D1.kp, D3, D1.ok sc_spread_of (fun vs H Q E h => ?_) (fun cdv A outer s H vs Q E hr h => ?_)⟩
  · first | (obtain ⟨_, rfl, _⟩ := h; rfl) | (obtain ⟨_, _, rfl, _⟩ := h; rfl) | (obtain ⟨_, _, _, rfl, _⟩ := h; rfl) | (obtain ⟨_, _, _, _, rfl, _⟩ := h; rfl) | (obtain ⟨_, _, _, _, _, rfl, _⟩ := h; rfl) | (obtain ⟨_, _, _, _, _, _, rfl, _⟩ := h; rfl) | (obtain ⟨_, _, _, _, _, _, _, rfl, _⟩ := h; rfl) | (obtain ⟨_, _, _, _, _, _, _, _, rfl, _⟩ := h; rfl) | (obtain ⟨_, _, _, _, _, _, _, _, _, rfl, _⟩ := h; rfl) | (obtain ⟨_, _, _, _, _, _, _, _, _, _, rfl, _⟩ := h; rfl) | (obtain ⟨_, _, _, _, _, _, _, _, _, _, _, rfl, _⟩ := h; rfl) | (obtain ⟨_, _, _, _, _, _, _, _, _, _, _, _, rfl, _⟩ := h; rfl) | (obtain ⟨_, _, _, _, _, _, _, _, _, _, _, _, _, rfl, _⟩ := h; rfl) | (obtain ⟨rfl, _⟩ := h; rfl)
  · refine ⟨_, (pss_one (ps_ret (pe_lc (own := [("colour", 1)]) (g := gName 1) (tt := tYes) rfl sc_spread_of.nd (pi_list (pe_callB (cr_sortSI rfl) (by rfl) T.n_sorted (by decide +kernel) (pa_cons (pe_callTy (cr_setI rfl) (by rfl) T.n_set (by decide +kernel) (pa_cons (pv 0) pa_nil)) pa_nil))) (blkOk_by (N := n_spread_of) (sc := defScope s_spread_of) (by decide +kernel)) (fun _ _ _ _ _ => (pg_name (i := 1) sc_spread_of.nd rfl (Or.inl rfl))) (fun _ _ _ _ _ => pts_nil) (fun _ _ _ _ _ => (pe_tup (pa_cons (pv 1) (pa_cons (show PE _ _ (tBM K _ (rCntI K) _ _) from pe_bm PySem.F.plainAttrs_list PySem.F.slot_list_count PySem.F.type_list_count mt_lcount (pv 0) (pa_cons (pv 1) pa_nil)) pa_nil))))))), ?_⟩
    obtain ⟨a, c, rfl, hA, hl, hle, k⟩ := h
    have hA2 : H a = some (.lst ((c.map fun n : Nat => (n : Int)).map V.int)) := by rw [hA, nV_map]
    refine ⟨_, rfl, a, _, rfl, SqL.of hA2, by rw [List.length_map]; omega, fun sa n nsa hn => ?_⟩
    rw [List.length_map] at hn
    have s1 := same_new (o := SetO w sa (fun j => decide (j ∈ c.map fun n : Nat => (n : Int))) n) nsa
    refine ⟨sa, _, n, rfl, upd_same, by omega, fun ns l hp hm hlen nl => ?_⟩
    have ens := spread_sorted hp (fun j => (hm j).trans decide_eq_true_iff) hle
    have exs : ns.map V.int = (spreadL c).map fun z => nV z.1 := by
      rw [ens, ← nV_map]
      unfold spreadL
      rw [List.map_map]
      rfl
    rw [exs]
    have s2 := s1.trans (same_new (o := .lst ((spreadL c).map fun z => nV z.1)) nl)
    refine ⟨l, rfl, ⟨_, SqL.of upd_same⟩, fun D hD => ?_⟩
    have hD0 : H D = none := s2.free hD
    have nDl : l ≠ D := ne_of_none upd_same hD
    have hsz := spreadL_len c
    refine lc_it (walk_list (xs := (spreadL c).map fun z => nV z.1)) (fun i H' => Same H H' ∧ H' l = some (.lst ((spreadL c).map fun z => nV z.1)) ∧ ∃ as : List Addr, H' D = some (.lst (as.map V.ref)) ∧ (∀ b ∈ as, b ≠ D) ∧ TupsAt H' as ((spreadL c).take i))
      ⟨same_upd s2 hD0, by rw [upd_ne nDl]; exact upd_same, [], upd_same, by simp, TupsAt.nil⟩ (fun i H' _ ⟨_, e, _⟩ => SqL.of e) ?_ ?_
    · rintro i v H3' H3 hi ⟨s3, el, as, eD, hne, ht⟩ ⟨rfl, hv⟩
      obtain ⟨z, hz, rfl⟩ := at_map hv
      have hzc : z.2 = c.count z.1 := by
        have hmz := List.mem_of_getElem? hz
        unfold spreadL at hmz
        obtain ⟨y, _, rfl⟩ := List.mem_map.mp hmz
        rfl
      have hal : as.length ≤ 256 := by
        rw [ht.len]
        rw [List.length_take]
        omega
      refine ⟨rfl, _, rfl, _, rfl, .inl ⟨rfl, _, SqL.of (s3 _ _ hA)⟩, _, rfl, a, _, _, rfl, rfl, SqL.of (s3 _ _ hA2), by show 2 ≤ sizeLine; decide, fun t nt => ?_⟩
      rw [count_cast, ← hzc]
      have nDt : t ≠ D := (ne_of_none eD nt).symm
      have st : Same H3 (upd H3 t (.tup [nV z.1, nV z.2])) := same_new nt
      refine ⟨_, st _ _ eD, by rw [List.length_map]; exact Nat.lt_of_le_of_lt hal (by decide), same_upd (s3.trans st) hD0, by rw [upd_ne nDl]; exact st _ _ el, as ++ [t], ?_, ?_, ?_⟩
      · rw [upd_same, List.map_append]
        rfl
      · intro b hb
        rcases List.mem_append.mp hb with h | h
        · exact hne b h
        · rw [List.mem_singleton.mp h]
          exact nDt
      · rw [List.take_add_one, hz]
        refine TupsAt.more (ht.same fun b o hb e => ?_) ?_
        · rw [upd_ne (hne b hb)]
          exact st _ _ e
        · rw [upd_ne nDt]
          exact upd_same
    · rintro H3 ⟨s3, el, as, eD, hne, ht⟩
      rw [List.length_map, List.take_length] at ht
      exact k H3 D as s3 hD0 eD ht
end
end Tw

set_option Elab.async false
set_option linter.all false
set_option maxRecDepth 100000
set_option maxHeartbeats 2000000
namespace Tw
open PySem PySem.Spec PyProof.Rows L2
section
variable {P : Program} {w : World} {K : PySem.W.Frag} {mg : Str → Option Value} {base : Heap} {Z : Adr}
def sp_answer_part (_ : PySem.W.Frag) (Z : Adr) : Sp := fun vs H Q _ => ∃ (t d : Addr) (v : Nat) (g : Sq45.House), vs = [.ref d, .int (v : Int)] ∧ HouseAt Z t H d g ∧ HSp Z t d H (g.step (.part v)) Q
abbrev s_answer_part : Stmt := top 47
abbrev n_answer_part : List Str := ["desk", "v"]
abbrev p_answer_part : List Str := ["desk", "v"]
theorem sc_answer_part : FnScope n_answer_part p_answer_part (defScope s_answer_part) := ⟨rfl, rfl, rfl, by decide +kernel, rfl, by decide +kernel, by decide +kernel⟩
theorem ok_answer_part (T : Txt K mg Z) (c_repaint : Okd P w K mg base "repaint" p_repaint 3 (sp_repaint K Z)) (c_parted_at : Okd P w K mg base "parted_at" p_parted_at 1 (sp_parted_at K Z)) (D : Dn K mg "answer_part" s_answer_part p_answer_part) : Okd P w K mg base "answer_part" p_answer_part 4 (sp_answer_part K Z) := by
  obtain ⟨f, fd, D1, D2, D3⟩ := D
  obtain ⟨a_repaint, d_repaint, m_repaint, kp_repaint, b_repaint, F_repaint⟩ := c_repaint
  obtain ⟨a_parted_at, d_parted_at, m_parted_at, kp_parted_at, b_parted_at, F_parted_at⟩ := c_parted_at
  refine ⟨f, fd, D2, D1.kp, D3, D1.ok sc_answer_part (fun vs H Q E h => ?_) (fun cdv A outer s H vs Q E hr h => ?_)⟩
  · first | (obtain ⟨_, rfl, _⟩ := h; rfl) | (obtain ⟨_, _, rfl, _⟩ := h; rfl) | (obtain ⟨_, _, _, rfl, _⟩ := h; rfl) | (obtain ⟨_, _, _, _, rfl, _⟩ := h; rfl) | (obtain ⟨_, _, _, _, _, rfl, _⟩ := h; rfl) | (obtain ⟨_, _, _, _, _, _, rfl, _⟩ := h; rfl) | (obtain ⟨_, _, _, _, _, _, _, rfl, _⟩ := h; rfl) | (obtain ⟨_, _, _, _, _, _, _, _, rfl, _⟩ := h; rfl) | (obtain ⟨_, _, _, _, _, _, _, _, _, rfl, _⟩ := h; rfl) | (obtain ⟨_, _, _, _, _, _, _, _, _, _, rfl, _⟩ := h; rfl) | (obtain ⟨_, _, _, _, _, _, _, _, _, _, _, rfl, _⟩ := h; rfl) | (obtain ⟨_, _, _, _, _, _, _, _, _, _, _, _, rfl, _⟩ := h; rfl) | (obtain ⟨_, _, _, _, _, _, _, _, _, _, _, _, _, rfl, _⟩ := h; rfl) | (obtain ⟨rfl, _⟩ := h; rfl)
  · refine ⟨_, (pss_cons (ps_if (pt_cmpR op_gt (pv 1) pe_int (nomark _)) (pss_one (ps_ret (pe_lst (pa_cons (pe_un un_neg pe_int) pa_nil)))) pss_nil)
        (pss_one (ps_ret (pe_lst (pa_cons (pe_call F_repaint (hr.mono (by decide)) (by rfl) m_repaint kp_repaint b_repaint .nil pass0 (pa_cons (pv 0) (pa_cons (pe_call F_parted_at (hr.mono (by decide)) (by rfl) m_parted_at kp_parted_at b_parted_at .nil pass0 (pa_cons (pe_fld (pe_fld (pv 0) rfl) rfl) (pa_cons (pv 1) pa_nil))) pa_nil))) pa_nil))))), ?_⟩
    obtain ⟨t, d, v, g, rfl, hg, k⟩ := h
    rw [step_part] at k
    unfold Sq45.TOP at k
    refine ⟨_, rfl, _, _, rfl, rfl, _, rfl, ifD (fun c => ?_) (fun c => ?_)⟩
    · rw [if_pos (by omega)] at k
      exact ⟨_, rfl, by show 1 ≤ sizeLine; decide, fun q nq => HSp.refused k hg (Same.refl _) nq⟩
    rw [if_neg (by omega)] at k
    obtain ⟨dx, pa, qa, hd, ⟨dp, ca, hP, hC, _⟩, hq⟩ := id hg.at_
    refine ⟨_, rfl, _, rfl, d, _, dx, _, _, rfl, hd, T.cl_Desk, T.na_Desk_picture, deskF_p pa qa, pa, _, dp, _, _, rfl, hP, T.cl_Picture, T.na_Picture_colours, picF_c g.p ca, _, rfl, ca, g.p.pixels.toList, v, rfl, hC, by rw [Array.length_toList]; exact hg.p.size, fun H1 l s1 nl el => ?_⟩
    rw [← hg.p.all_map fun x => if x ≤ v then 0 else 255] at el
    refine ⟨t, d, l, g.p, g.q, _, rfl, Same.desk s1 hg.at_, hg.ne nl, el, hg.p.size, fun H3 sb hD3 => ?_⟩
    refine ⟨by show 1 ≤ sizeLine; decide, fun q nq => ?_⟩
    refine to_done (f := fun x y => if g.p.at_ x y ≤ v then 0 else 255) k hg (fun x y hx hy => ?_) ((Same.but s1).trans sb) hD3 nq
    show (if g.p.at_ x y ≤ v then 0 else 255) ≤ 255
    split <;> omega
def sp_answer_find (_ : PySem.W.Frag) (Z : Adr) : Sp := fun vs H Q _ => ∃ (t d : Addr) (g : Sq45.House), vs = [.ref d] ∧ HouseAt Z t H d g ∧ HSp Z t d H (g.step .find) Q
abbrev s_answer_find : Stmt := top 48
abbrev n_answer_find : List Str := ["desk"]
abbrev p_answer_find : List Str := ["desk"]
theorem sc_answer_find : FnScope n_answer_find p_answer_find (defScope s_answer_find) := ⟨rfl, rfl, rfl, by decide +kernel, rfl, by decide +kernel, by decide +kernel⟩
theorem ok_answer_find (T : Txt K mg Z) (c_is_too_large : Okd P w K mg base "is_too_large" p_is_too_large 1 (sp_is_too_large K Z)) (c_best_place : Okd P w K mg base "best_place" p_best_place 3 (sp_best_place K Z)) (D : Dn K mg "answer_find" s_answer_find p_answer_find) : Okd P w K mg base "answer_find" p_answer_find 4 (sp_answer_find K Z) := by
  obtain ⟨f, fd, D1, D2, D3⟩ := D
  obtain ⟨a_is_too_large, d_is_too_large, m_is_too_large, kp_is_too_large, b_is_too_large, F_is_too_large⟩ := c_is_too_large
  obtain ⟨a_best_place, d_best_place, m_best_place, kp_best_place, b_best_place, F_best_place⟩ := c_best_place
  refine ⟨f, fd, D2, D1.kp, D3, D1.ok sc_answer_find (fun vs H Q E h => ?_) (fun cdv A outer s H vs Q E hr h => ?_)⟩
  · first | (obtain ⟨_, rfl, _⟩ := h; rfl) | (obtain ⟨_, _, rfl, _⟩ := h; rfl) | (obtain ⟨_, _, _, rfl, _⟩ := h; rfl) | (obtain ⟨_, _, _, _, rfl, _⟩ := h; rfl) | (obtain ⟨_, _, _, _, _, rfl, _⟩ := h; rfl) | (obtain ⟨_, _, _, _, _, _, rfl, _⟩ := h; rfl) | (obtain ⟨_, _, _, _, _, _, _, rfl, _⟩ := h; rfl) | (obtain ⟨_, _, _, _, _, _, _, _, rfl, _⟩ := h; rfl) | (obtain ⟨_, _, _, _, _, _, _, _, _, rfl, _⟩ := h; rfl) | (obtain ⟨_, _, _, _, _, _, _, _, _, _, rfl, _⟩ := h; rfl) | (obtain ⟨_, _, _, _, _, _, _, _, _, _, _, rfl, _⟩ := h; rfl) | (obtain ⟨_, _, _, _, _, _, _, _, _, _, _, _, rfl, _⟩ := h; rfl) | (obtain ⟨_, _, _, _, _, _, _, _, _, _, _, _, _, rfl, _⟩ := h; rfl) | (obtain ⟨rfl, _⟩ := h; rfl)
  · refine ⟨_, (pss_cons (ps_if (pt_val (pe_call F_is_too_large (hr.mono (by decide)) (by rfl) m_is_too_large kp_is_too_large b_is_too_large .nil pass0 (pa_cons (pe_fld (pv 0) rfl) (pa_cons (pe_fld (pv 0) rfl) pa_nil)))) (pss_one (ps_ret (pe_lst (pa_cons (pe_un un_neg pe_int) pa_nil)))) pss_nil)
        (pss_one (ps_ret (pe_call F_best_place (hr.mono (by decide)) (by rfl) m_best_place kp_best_place b_best_place .nil pass0 (pa_cons (pe_fld (pv 0) rfl) (pa_cons (pe_fld (pv 0) rfl) pa_nil)))))), ?_⟩
    obtain ⟨t, d, g, rfl, hg, k⟩ := h
    rw [step_find] at k
    obtain ⟨dx, pa, qa, hd, hp, hq⟩ := id hg.at_
    refine ⟨_, rfl, d, _, dx, _, _, rfl, hd, T.cl_Desk, T.na_Desk_picture, deskF_p pa qa, _, rfl, d, _, dx, _, _, rfl, hd, T.cl_Desk, T.na_Desk_piece, deskF_q pa qa, pa, qa, g.p, g.q, rfl, hp.pic, hq.pic, _, rfl, ifD (fun c => ?_) (fun c => ?_)⟩
    · rw [best_none c] at k
      exact ⟨_, rfl, by show 1 ≤ sizeLine; decide, fun q nq => HSp.refused k hg (Same.refl _) nq⟩
    refine ⟨_, rfl, d, _, dx, _, _, rfl, hd, T.cl_Desk, T.na_Desk_picture, deskF_p pa qa, _, rfl, d, _, dx, _, _, rfl, hd, T.cl_Desk, T.na_Desk_piece, deskF_q pa qa, pa, qa, g.p, g.q, rfl, hp.pic, hq.pic, hg.p, hg.q, by omega, by omega, fun H1 l m s1 nl em el => ?_⟩
    rw [em] at k
    exact k H1 l (Same.but s1) nl el (Same.house s1 hg)
def sp_answer_shift (_ : PySem.W.Frag) (Z : Adr) : Sp := fun vs H Q _ => ∃ (t d : Addr) (r : Nat) (g : Sq45.House), vs = [.ref d, .int (r : Int)] ∧ HouseAt Z t H d g ∧ HSp Z t d H (g.step (.shift r)) Q
theorem step_shift2 (g : Sq45.House) (r : Nat) : g.step (.shift r) = if 8 < r then (g, Sq45.says (-1)) else (match bs g.p g.q (Sq45.shifts r) with
    | none => (g, Sq45.says (-3))
    | some x => (g, ⟨0, [x.1.1, x.1.2, (x.2.1 : Int), (x.2.2 : Int)]⟩)) := rfl
abbrev s_answer_shift : Stmt := top 49
abbrev n_answer_shift : List Str := ["desk", "r"]
abbrev p_answer_shift : List Str := ["desk", "r"]
theorem sc_answer_shift : FnScope n_answer_shift p_answer_shift (defScope s_answer_shift) := ⟨rfl, rfl, rfl, by decide +kernel, rfl, by decide +kernel, by decide +kernel⟩
theorem ok_answer_shift (T : Txt K mg Z) (c_best_shift : Okd P w K mg base "best_shift" p_best_shift 3 (sp_best_shift K Z)) (D : Dn K mg "answer_shift" s_answer_shift p_answer_shift) : Okd P w K mg base "answer_shift" p_answer_shift 4 (sp_answer_shift K Z) := by
  obtain ⟨f, fd, D1, D2, D3⟩ := D
  obtain ⟨a_best_shift, d_best_shift, m_best_shift, kp_best_shift, b_best_shift, F_best_shift⟩ := c_best_shift
  refine ⟨f, fd, D2, D1.kp, D3, D1.ok sc_answer_shift (fun vs H Q E h => ?_) (fun cdv A outer s H vs Q E hr h => ?_)⟩
  · first | (obtain ⟨_, rfl, _⟩ := h; rfl) | (obtain ⟨_, _, rfl, _⟩ := h; rfl) | (obtain ⟨_, _, _, rfl, _⟩ := h; rfl) | (obtain ⟨_, _, _, _, rfl, _⟩ := h; rfl) | (obtain ⟨_, _, _, _, _, rfl, _⟩ := h; rfl) | (obtain ⟨_, _, _, _, _, _, rfl, _⟩ := h; rfl) | (obtain ⟨_, _, _, _, _, _, _, rfl, _⟩ := h; rfl) | (obtain ⟨_, _, _, _, _, _, _, _, rfl, _⟩ := h; rfl) | (obtain ⟨_, _, _, _, _, _, _, _, _, rfl, _⟩ := h; rfl) | (obtain ⟨_, _, _, _, _, _, _, _, _, _, rfl, _⟩ := h; rfl) | (obtain ⟨_, _, _, _, _, _, _, _, _, _, _, rfl, _⟩ := h; rfl) | (obtain ⟨_, _, _, _, _, _, _, _, _, _, _, _, rfl, _⟩ := h; rfl) | (obtain ⟨_, _, _, _, _, _, _, _, _, _, _, _, _, rfl, _⟩ := h; rfl) | (obtain ⟨rfl, _⟩ := h; rfl)
  · refine ⟨_, (pss_cons (ps_if (pt_cmpR op_gt (pv 1) pe_int (nomark _)) (pss_one (ps_ret (pe_lst (pa_cons (pe_un un_neg pe_int) pa_nil)))) pss_nil)
        (pss_one (ps_ret (pe_op op_cat (pe_lst (pa_cons pe_int pa_nil)) (pe_call F_best_shift (hr.mono (by decide)) (by rfl) m_best_shift kp_best_shift b_best_shift .nil pass0 (pa_cons (pe_fld (pv 0) rfl) (pa_cons (pe_fld (pv 0) rfl) (pa_cons (pv 1) pa_nil)))))))), ?_⟩
    obtain ⟨t, d, r, g, rfl, hg, k⟩ := h
    rw [step_shift2] at k
    obtain ⟨dx, pa, qa, hd, hp, hq⟩ := id hg.at_
    refine ⟨_, rfl, _, _, rfl, rfl, _, rfl, ifD (fun c => ?_) (fun c => ?_)⟩
    · rw [if_pos (by omega)] at k
      exact ⟨_, rfl, by show 1 ≤ sizeLine; decide, fun q nq => HSp.refused k hg (Same.refl _) nq⟩
    rw [if_neg (by omega)] at k
    refine ⟨by show 1 ≤ sizeLine; decide, fun z nz => ?_⟩
    have s1 : Same H (upd H z (.lst [.int 0])) := same_new nz
    refine ⟨_, rfl, d, _, dx, _, _, rfl, s1 _ _ hd, T.cl_Desk, T.na_Desk_picture, deskF_p pa qa, _, rfl, d, _, dx, _, _, rfl, s1 _ _ hd, T.cl_Desk, T.na_Desk_piece, deskF_q pa qa, _, rfl, pa, qa, g.p, g.q, r, rfl, Same.pic s1 hp.pic, Same.pic s1 hq.pic, hg.p, hg.q, by omega, fun H1 l m s2 nl em el => ?_⟩
    rw [em] at k
    have s12 := s1.trans s2
    refine ⟨z, l, _, _, rfl, rfl, s2 _ _ upd_same, el, by show 5 ≤ sizeLine; decide, fun q nq => ?_⟩
    have s3 := s12.trans (same_new (o := .lst ([.int 0] ++ [.int m.1.1, .int m.1.2, nV m.2.1, nV m.2.2])) nq)
    exact k _ q (Same.but s3) (s12.free nq) upd_same (Same.house s3 hg)
def sp_answer_row (_ : PySem.W.Frag) (Z : Adr) : Sp := fun vs H Q _ => ∃ (t d : Addr) (y : Nat) (g : Sq45.House), vs = [.ref d, .int (y : Int)] ∧ HouseAt Z t H d g ∧ HSp Z t d H (g.step (.row y)) Q
abbrev s_answer_row : Stmt := top 50
abbrev n_answer_row : List Str := ["desk", "y"]
abbrev p_answer_row : List Str := ["desk", "y"]
theorem sc_answer_row : FnScope n_answer_row p_answer_row (defScope s_answer_row) := ⟨rfl, rfl, rfl, by decide +kernel, rfl, by decide +kernel, by decide +kernel⟩
theorem ok_answer_row (T : Txt K mg Z) (c_row_of : Okd P w K mg base "row_of" p_row_of 1 (sp_row_of K Z)) (D : Dn K mg "answer_row" s_answer_row p_answer_row) : Okd P w K mg base "answer_row" p_answer_row 2 (sp_answer_row K Z) := by
  obtain ⟨f, fd, D1, D2, D3⟩ := D
  obtain ⟨a_row_of, d_row_of, m_row_of, kp_row_of, b_row_of, F_row_of⟩ := c_row_of
  refine ⟨f, fd, D2, D1.kp, D3, D1.ok sc_answer_row (fun vs H Q E h => ?_) (fun cdv A outer s H vs Q E hr h => ?_)⟩
  · first | (obtain ⟨_, rfl, _⟩ := h; rfl) | (obtain ⟨_, _, rfl, _⟩ := h; rfl) | (obtain ⟨_, _, _, rfl, _⟩ := h; rfl) | (obtain ⟨_, _, _, _, rfl, _⟩ := h; rfl) | (obtain ⟨_, _, _, _, _, rfl, _⟩ := h; rfl) | (obtain ⟨_, _, _, _, _, _, rfl, _⟩ := h; rfl) | (obtain ⟨_, _, _, _, _, _, _, rfl, _⟩ := h; rfl) | (obtain ⟨_, _, _, _, _, _, _, _, rfl, _⟩ := h; rfl) | (obtain ⟨_, _, _, _, _, _, _, _, _, rfl, _⟩ := h; rfl) | (obtain ⟨_, _, _, _, _, _, _, _, _, _, rfl, _⟩ := h; rfl) | (obtain ⟨_, _, _, _, _, _, _, _, _, _, _, rfl, _⟩ := h; rfl) | (obtain ⟨_, _, _, _, _, _, _, _, _, _, _, _, rfl, _⟩ := h; rfl) | (obtain ⟨_, _, _, _, _, _, _, _, _, _, _, _, _, rfl, _⟩ := h; rfl) | (obtain ⟨rfl, _⟩ := h; rfl)
  · refine ⟨_, (pss_cons (ps_if (pt_cmpR op_ge (pv 1) (pe_fld (pe_fld (pv 0) rfl) rfl) (nomark _)) (pss_one (ps_ret (pe_lst (pa_cons (pe_un un_neg pe_int) pa_nil)))) pss_nil)
        (pss_one (ps_ret (pe_op op_cat (pe_lst (pa_cons (pe_fld (pe_fld (pv 0) rfl) rfl) pa_nil)) (pe_call F_row_of (hr.mono (by decide)) (by rfl) m_row_of kp_row_of b_row_of .nil pass0 (pa_cons (pe_fld (pv 0) rfl) (pa_cons (pv 1) pa_nil))))))), ?_⟩
    obtain ⟨t, d, y, g, rfl, hg, k⟩ := h
    rw [step_row] at k
    obtain ⟨dx, pa, qa, hd, ⟨dp, ca, hP, hC, _⟩, hq⟩ := id hg.at_
    refine ⟨_, rfl, _, rfl, d, _, dx, _, _, rfl, hd, T.cl_Desk, T.na_Desk_picture, deskF_p pa qa, pa, _, dp, _, _, rfl, hP, T.cl_Picture, T.na_Picture_h, picF_h g.p ca, _, _, rfl, rfl, _, rfl, ifD (fun c => ?_) (fun c => ?_)⟩
    · rw [if_pos (by omega)] at k
      exact ⟨_, rfl, by show 1 ≤ sizeLine; decide, fun q nq => HSp.refused k hg (Same.refl _) nq⟩
    rw [if_neg (by omega)] at k
    refine ⟨_, rfl, d, _, dx, _, _, rfl, hd, T.cl_Desk, T.na_Desk_picture, deskF_p pa qa, pa, _, dp, _, _, rfl, hP, T.cl_Picture, T.na_Picture_w, picF_w g.p ca, by show 1 ≤ sizeLine; decide, fun z nz => ?_⟩
    have s1 : Same H (upd H z (.lst [.int (g.p.w : Int)])) := same_new nz
    refine ⟨_, rfl, d, _, dx, _, _, rfl, s1 _ _ hd, T.cl_Desk, T.na_Desk_picture, deskF_p pa qa, _, rfl, pa, g.p, y, rfl, Same.pic s1 ⟨dp, ca, hP, hC⟩, hg.p, by omega, fun H1 l s2 nl el => ?_⟩
    have s12 := s1.trans s2
    have hw := hg.p.w2
    refine ⟨z, l, _, _, rfl, rfl, s2 _ _ upd_same, el, by rw [rowV_len]; exact Nat.le_trans (show 1 + g.p.w ≤ 100 by omega) (by decide), fun q nq => ?_⟩
    have s3 := s12.trans (same_new (o := .lst ([.int (g.p.w : Int)] ++ rowV g.p y)) nq)
    refine k _ q (Same.but s3) (s12.free nq) ?_ (Same.house s3 hg)
    rw [upd_same]
    show _ = some (HO.lst (V.int (g.p.w : Int) :: (Sq45.ints ((List.range g.p.w).map fun x => g.p.at_ x y)).map V.int))
    unfold Sq45.ints rowV
    rw [List.map_map, List.map_map]
    rfl
def sp_answer_spread (_ : PySem.W.Frag) (Z : Adr) : Sp := fun vs H Q _ => ∃ (t d : Addr) (g : Sq45.House), vs = [.ref d] ∧ HouseAt Z t H d g ∧ HSp Z t d H (g.step .spread) Q
theorem step_spread2 {g : Sq45.House} (o : PicOk g.p) : g.step .spread = (g, ⟨((spreadL g.p.pixels.toList).length : Nat), Sq45.ints ((spreadL g.p.pixels.toList).flatMap fun x => [x.1, x.2])⟩) := by
  rw [step_spread, o.all, spread_is]
def sprV (l : List (Nat × Nat)) (n : Nat) : List V := nV l.length :: (l.take n).flatMap fun z => [nV z.1, nV z.2]
theorem sprV_more {l : List (Nat × Nat)} {n : Nat} {z : Nat × Nat} (h : l[n]? = some z) : sprV l (n + 1) = (sprV l n ++ [nV z.1]) ++ [nV z.2] := by
  unfold sprV
  rw [List.take_add_one, h, List.flatMap_append]
  simp
theorem sprV_len (l : List (Nat × Nat)) (n : Nat) : (sprV l n).length ≤ 1 + 2 * l.length := by
  unfold sprV
  have h : ∀ m : List (Nat × Nat), (m.flatMap fun z => [nV z.1, nV z.2]).length = 2 * m.length := by
    intro m
    induction m with
    | nil => rfl
    | cons a m ih => rw [List.flatMap_cons, List.length_append, ih, List.length_cons]; simp; omega
  rw [List.length_cons, h, List.length_take]
  omega
abbrev s_answer_spread : Stmt := top 51
abbrev n_answer_spread : List Str := ["desk", "spread", "answer", "colour", "pixels"]
abbrev p_answer_spread : List Str := ["desk"]
theorem sc_answer_spread : FnScope n_answer_spread p_answer_spread (defScope s_answer_spread) := ⟨rfl, rfl, rfl, by decide +kernel, rfl, by decide +kernel, by decide +kernel⟩
theorem ok_answer_spread (T : Txt K mg Z) (c_spread_of : Okd P w K mg base "spread_of" p_spread_of 1 (sp_spread_of K Z)) (D : Dn K mg "answer_spread" s_answer_spread p_answer_spread) : Okd P w K mg base "answer_spread" p_answer_spread 2 (sp_answer_spread K Z) := by
  obtain ⟨f, fd, D1, D2, D3⟩ := D
  obtain ⟨a_spread_of, d_spread_of, m_spread_of, kp_spread_of, b_spread_of, F_spread_of⟩ := c_spread_of
  refine ⟨f, fd, D2, D1.kp, D3, D1.ok sc_answer_spread (fun vs H Q E h => ?_) (fun cdv A outer s H vs Q E hr h => ?_)⟩
  · first | (obtain ⟨_, rfl, _⟩ := h; rfl) | (obtain ⟨_, _, rfl, _⟩ := h; rfl) | (obtain ⟨_, _, _, rfl, _⟩ := h; rfl) | (obtain ⟨_, _, _, _, rfl, _⟩ := h; rfl) | (obtain ⟨_, _, _, _, _, rfl, _⟩ := h; rfl) | (obtain ⟨_, _, _, _, _, _, rfl, _⟩ := h; rfl) | (obtain ⟨_, _, _, _, _, _, _, rfl, _⟩ := h; rfl) | (obtain ⟨_, _, _, _, _, _, _, _, rfl, _⟩ := h; rfl) | (obtain ⟨_, _, _, _, _, _, _, _, _, rfl, _⟩ := h; rfl) | (obtain ⟨_, _, _, _, _, _, _, _, _, _, rfl, _⟩ := h; rfl) | (obtain ⟨_, _, _, _, _, _, _, _, _, _, _, rfl, _⟩ := h; rfl) | (obtain ⟨_, _, _, _, _, _, _, _, _, _, _, _, rfl, _⟩ := h; rfl) | (obtain ⟨_, _, _, _, _, _, _, _, _, _, _, _, _, rfl, _⟩ := h; rfl) | (obtain ⟨rfl, _⟩ := h; rfl)
  · refine ⟨_, (pss_cons (ps_set (i := 1) sc_answer_spread.nd rfl (Or.inl rfl) (pe_call F_spread_of (hr.mono (by decide)) (by rfl) m_spread_of kp_spread_of b_spread_of .nil pass0 (pa_cons (pe_fld (pe_fld (pv 0) rfl) rfl) pa_nil)))
        (pss_cons (ps_set (i := 2) sc_answer_spread.nd rfl (Or.inl rfl) (pe_lst (pa_cons (pe_callB call_len_seq (by rfl) T.n_len (by decide +kernel) (pa_cons (pv 1) pa_nil)) pa_nil)))
        (pss_cons (ps_for PassesOwn.never rfl (pi_list (pv 1)) (pg_tup rfl (pgs_cons (pg_name (i := 3) sc_answer_spread.nd rfl (Or.inl rfl)) (pgs_cons (pg_name (i := 4) sc_answer_spread.nd rfl (Or.inl rfl)) pgs_nil))) (pss_cons (ps_expr (pe_bm PySem.F.plainAttrs_list PySem.F.slot_list_append PySem.F.type_list_append mt_append (pv 2) (pa_cons (pv 3) pa_nil)))
        (pss_one (ps_expr (pe_bm PySem.F.plainAttrs_list PySem.F.slot_list_append PySem.F.type_list_append mt_append (pv 2) (pa_cons (pv 4) pa_nil))))))
        (pss_one (ps_ret (pv 2)))))), ?_⟩
    obtain ⟨t, d, g, rfl, hg, k⟩ := h
    rw [step_spread2 hg.p] at k
    obtain ⟨dx, pa, qa, hd, ⟨dp, ca, hP, hC, _⟩, hq⟩ := id hg.at_
    refine ⟨_, rfl, d, _, dx, _, _, rfl, hd, T.cl_Desk, T.na_Desk_picture, deskF_p pa qa, pa, _, dp, _, _, rfl, hP, T.cl_Picture, T.na_Picture_colours, picF_c g.p ca, ca, _, rfl, hC, by rw [Array.length_toList]; exact hg.p.size, hg.p.le, fun H1 l as s1 nl el ht => ?_⟩
    refine ⟨_, rfl, l, _, rfl, .inl (SqL.of el), by show 1 ≤ sizeLine; decide, fun q nq => ?_⟩
    have hsz := spreadL_len g.p.pixels.toList
    have s2 : Same H1 (upd H1 q (.lst [.int ((as.map V.ref).length : Int)])) := same_new nq
    have nlq : l ≠ q := ne_of_none el nq
    have naq : ∀ b ∈ as, b ≠ q := by
      intro b hb e
      obtain ⟨i, hi⟩ := List.mem_iff_getElem?.mp hb
      have hi2 : i < (spreadL g.p.pixels.toList).length := by
        rw [← ht.len]
        exact (List.getElem?_eq_some_iff.mp hi).1
      have hb1 := ht.at_ i b _ hi (List.getElem?_eq_getElem hi2)
      rw [e, nq] at hb1
      cases hb1
    refine ⟨_, rfl, l, rfl, ⟨_, SqL.of (s2 _ _ el)⟩, ?_⟩
    refine for_it walk_list (fun i σ H' => ∃ v1 v2, σ = [some (.ref d), some (.ref l), some (.ref q), v1, v2] ∧ Same H H' ∧ H' l = some (.lst (as.map V.ref)) ∧ TupsAt H' as (spreadL g.p.pixels.toList) ∧ H' q = some (.lst (sprV (spreadL g.p.pixels.toList) i)))
      ⟨none, none, rfl, s1.trans s2, s2 _ _ el, ht.same fun b o _ e => s2 _ _ e, ?_⟩ (fun i σ H' _ ⟨_, _, _, _, e, _⟩ => SqL.of e) ?_ ?_
    · rw [upd_same, List.length_map, ht.len]
      rfl
    · rintro i v0 σ H3' H3 hi ⟨v1, v2, rfl, s3, el3, ht3, eq3⟩ ⟨rfl, hv⟩
      obtain ⟨b, hb, rfl⟩ := at_map hv
      have hbi := (List.getElem?_eq_some_iff.mp hb).1
      have hi2 : i < (spreadL g.p.pixels.toList).length := by rw [← ht3.len]; exact hbi
      have hz := List.getElem?_eq_getElem hi2
      generalize (spreadL g.p.pixels.toList)[i] = z at hz
      have eb := ht3.at_ i b z hb hz
      have nbq := naq b (List.mem_of_getElem? hb)
      have hl1 := sprV_len (spreadL g.p.pixels.toList) i
      refine ⟨b, _, rfl, SqT.of eb, rfl, _, _, rfl, _, _, rfl, rfl, ?_⟩
      refine ⟨_, rfl, .inl ⟨rfl, _, SqL.of eq3⟩, _, rfl, q, _, _, rfl, rfl, eq3, Nat.lt_of_le_of_lt (show _ ≤ 1000 by omega) (by decide), ?_⟩
      refine ⟨_, rfl, .inl ⟨rfl, _, SqL.of upd_same⟩, _, rfl, q, _, _, rfl, rfl, upd_same, Nat.lt_of_le_of_lt (show _ ≤ 1000 by rw [List.length_append, List.length_singleton]; omega) (by decide), ?_⟩
      rw [upd_upd]
      refine ⟨some (nV z.1), some (nV z.2), rfl, same_upd s3 (s1.free nq), by rw [upd_ne nlq]; exact el3, ht3.same fun b' o hb' e => by rw [upd_ne (naq b' hb')]; exact e, ?_⟩
      rw [upd_same, sprV_more hz]
    · rintro σ H3 ⟨v1, v2, rfl, s3, el3, ht3, eq3⟩
      refine ⟨_, rfl, k H3 q (Same.but s3) (s1.free nq) ?_ (Same.house s3 hg)⟩
      rw [eq3]
      unfold sprV Sq45.ints
      rw [List.length_map, ht.len, List.take_length]
      show _ = some (HO.lst (V.int ((spreadL g.p.pixels.toList).length : Int) :: (((spreadL g.p.pixels.toList).flatMap fun x => [x.1, x.2]).map Int.ofNat).map V.int))
      rw [List.map_map, List.map_flatMap]
      rfl
def sp_answer_cut (_ : PySem.W.Frag) (Z : Adr) : Sp := fun vs H Q _ => ∃ (t d : Addr) (x y w h : Nat) (g : Sq45.House), vs = [.ref d, .int (x : Int), .int (y : Int), .int (w : Int), .int (h : Int)] ∧ HouseAt Z t H d g ∧ HSp Z t d H (g.step (.cut x y w h)) Q
theorem cut_ok {p : Sq45.Picture} (o : PicOk p) {x y w h : Nat} (hw : 0 < w) (hh : 0 < h) (h1 : x + w ≤ p.w) (h2 : y + h ≤ p.h) : PicOk (cutP p x y w h) := by
  have pw := o.w2
  have ph := o.h2
  refine ⟨hw, by show w ≤ 16; omega, hh, by show h ≤ 16; omega, ?_, ?_⟩
  · show (((List.range h).flatMap fun j => (List.range w).map fun i => p.at_ (x + i) (y + j))).toArray.size = w * h
    rw [List.size_toArray, len_flat _ (n := w) (fun y => by rw [List.length_map, List.length_range]), List.length_range, Nat.mul_comm]
  · intro c hc
    have hc : c ∈ (((List.range h).flatMap fun j => (List.range w).map fun i => p.at_ (x + i) (y + j))).toArray.toList := hc
    rw [List.toList_toArray] at hc
    obtain ⟨j, _, hc⟩ := List.mem_flatMap.mp hc
    obtain ⟨i, _, rfl⟩ := List.mem_map.mp hc
    exact o.any _ _
abbrev s_answer_cut : Stmt := top 53
abbrev n_answer_cut : List Str := ["desk", "x", "y", "w", "h"]
abbrev p_answer_cut : List Str := ["desk", "x", "y", "w", "h"]
theorem sc_answer_cut : FnScope n_answer_cut p_answer_cut (defScope s_answer_cut) := ⟨rfl, rfl, rfl, by decide +kernel, rfl, by decide +kernel, by decide +kernel⟩
theorem ok_answer_cut (T : Txt K mg Z) (c_is_within : Okd P w K mg base "is_within" p_is_within 1 (sp_is_within K Z)) (c_cut_out : Okd P w K mg base "cut_out" p_cut_out 3 (sp_cut_out K Z)) (D : Dn K mg "answer_cut" s_answer_cut p_answer_cut) : Okd P w K mg base "answer_cut" p_answer_cut 4 (sp_answer_cut K Z) := by
  obtain ⟨f, fd, D1, D2, D3⟩ := D
  obtain ⟨a_is_within, d_is_within, m_is_within, kp_is_within, b_is_within, F_is_within⟩ := c_is_within
  obtain ⟨a_cut_out, d_cut_out, m_cut_out, kp_cut_out, b_cut_out, F_cut_out⟩ := c_cut_out
  refine ⟨f, fd, D2, D1.kp, D3, D1.ok sc_answer_cut (fun vs H Q E h => ?_) (fun cdv A outer s H vs Q E hr h => ?_)⟩
  · first | (obtain ⟨_, rfl, _⟩ := h; rfl) | (obtain ⟨_, _, rfl, _⟩ := h; rfl) | (obtain ⟨_, _, _, rfl, _⟩ := h; rfl) | (obtain ⟨_, _, _, _, rfl, _⟩ := h; rfl) | (obtain ⟨_, _, _, _, _, rfl, _⟩ := h; rfl) | (obtain ⟨_, _, _, _, _, _, rfl, _⟩ := h; rfl) | (obtain ⟨_, _, _, _, _, _, _, rfl, _⟩ := h; rfl) | (obtain ⟨_, _, _, _, _, _, _, _, rfl, _⟩ := h; rfl) | (obtain ⟨_, _, _, _, _, _, _, _, _, rfl, _⟩ := h; rfl) | (obtain ⟨_, _, _, _, _, _, _, _, _, _, rfl, _⟩ := h; rfl) | (obtain ⟨_, _, _, _, _, _, _, _, _, _, _, rfl, _⟩ := h; rfl) | (obtain ⟨_, _, _, _, _, _, _, _, _, _, _, _, rfl, _⟩ := h; rfl) | (obtain ⟨_, _, _, _, _, _, _, _, _, _, _, _, _, rfl, _⟩ := h; rfl) | (obtain ⟨rfl, _⟩ := h; rfl)
  · refine ⟨_, (pss_cons (ps_if (pt_not (pt_val (pe_call F_is_within (hr.mono (by decide)) (by rfl) m_is_within kp_is_within b_is_within .nil pass0 (pa_cons (pe_fld (pv 0) rfl) (pa_cons (pv 1) (pa_cons (pv 2) (pa_cons (pv 3) (pa_cons (pv 4) pa_nil)))))))) (pss_one (ps_ret (pe_lst (pa_cons (pe_un un_neg pe_int) pa_nil)))) pss_nil)
        (pss_cons (ps_fld (pv 0) (pe_call F_cut_out (hr.mono (by decide)) (by rfl) m_cut_out kp_cut_out b_cut_out .nil pass0 (pa_cons (pe_fld (pv 0) rfl) (pa_cons (pv 1) (pa_cons (pv 2) (pa_cons (pv 3) (pa_cons (pv 4) pa_nil)))))) rfl)
        (pss_one (ps_ret (pe_lst (pa_cons (pe_op op_mul (pv 3) (pv 4)) pa_nil)))))), ?_⟩
    obtain ⟨t, d, x, y, w, h, g, rfl, hg, k⟩ := h
    rw [step_cut] at k
    obtain ⟨dx, pa, qa, hd, hp, hq⟩ := id hg.at_
    refine ⟨_, rfl, d, _, dx, _, _, rfl, hd, T.cl_Desk, T.na_Desk_picture, deskF_p pa qa, _, rfl, _, rfl, _, rfl, _, rfl, pa, g.p, x, y, w, h, rfl, hp.pic, _, rfl, ifN (fun c => ?_) (fun c => ?_)⟩
    · rw [if_pos (by omega)] at k
      exact ⟨_, rfl, by show 1 ≤ sizeLine; decide, fun q nq => HSp.refused k hg (Same.refl _) nq⟩
    rw [if_neg (by omega)] at k
    have pw := hg.p.w2
    have ph := hg.p.h2
    refine ⟨_, rfl, d, _, dx, _, _, rfl, hd, T.cl_Desk, T.na_Desk_picture, deskF_p pa qa, _, rfl, _, rfl, _, rfl, _, rfl, pa, g.p, x, y, w, h, rfl, hp.pic, hg.p, by omega, by omega, fun H1 o s1 no po => ?_⟩
    refine ⟨_, rfl, d, _, dx, _, rfl, s1 _ _ hd, T.cl_Desk, T.na_Desk_piece, (by show 2 < 1000; decide), ?_⟩
    rw [deskF_putq]
    have sb : SameBut d H (upd H1 d (.ins Z.Desk dx (deskF pa o))) := SameBut.upd (Same.but s1)
    have sb1 : SameBut d H1 (upd H1 d (.ins Z.Desk dx (deskF pa o))) := SameBut.upd (Same.but (Same.refl _))
    have hd1 := s1 _ _ hd
    refine ⟨_, rfl, _, rfl, _, _, rfl, rfl, .inl ⟨by omega, by omega⟩, by show 1 ≤ sizeLine; decide, fun q nq => ?_⟩
    have nqd : q ≠ d := fun e => by rw [e, upd_same] at nq; cases nq
    have nqH : H q = none := by
      cases e : H q with
      | none => rfl
      | some o => rw [sb _ _ e nqd] at nq; cases nq
    refine k _ q (sameBut_made sb (same_new nq)) nqH ?_ ⟨⟨dx, pa, o, (same_new nq) _ _ upd_same, Same.picX (same_new nq) (SameBut.pic sb hd hp), Same.picX (same_new nq) (SameBut.pic sb1 hd1 (po t hg.tr))⟩, hg.p, cut_ok hg.p c.1 c.2.1 c.2.2.1 c.2.2.2, hg.nd, SameBut.tr (sameBut_made sb (same_new nq)) hg.nd hg.tr⟩
    rw [upd_same]
    show some (HO.lst [V.int ((w : Int) * (h : Int))]) = some (HO.lst [V.int ((w * h : Nat) : Int)])
    rw [Int.natCast_mul]
end
end Tw

set_option Elab.async false
set_option linter.all false
set_option maxRecDepth 100000
set_option maxHeartbeats 2000000
namespace Tw
open PySem PySem.Spec PyProof.Rows L2
section
variable {P : Program} {w : World} {K : PySem.W.Frag} {mg : Str → Option Value} {base : Heap} {Z : Adr}
def sp_Call_init (_ : PySem.W.Frag) (Z : Adr) : Sp := fun vs H Q _ => ∃ (x dx : Addr) (v1 v2 v3 v4 : V), vs = [.ref x, v1, v2, v3, v4] ∧ H x = some (.ins Z.Call dx []) ∧
  ∀ H', H' x = some (.ins Z.Call dx [("number", v1), ("numbers", v2), ("rows", v3), ("behind", v4)]) → SameBut x H H' → Q .non H'
abbrev s_Call_init : Stmt := inClass (top 56) 0
abbrev n_Call_init : List Str := ["self", "number", "numbers", "rows", "behind"]
abbrev p_Call_init : List Str := ["self", "number", "numbers", "rows", "behind"]
theorem sc_Call_init : FnScope n_Call_init p_Call_init (defScope s_Call_init) := ⟨rfl, rfl, rfl, by decide +kernel, rfl, by decide +kernel, by decide +kernel⟩
theorem ok_Call_init (T : Txt K mg Z) (D : Dm K "__init__" "Call.__init__" s_Call_init p_Call_init Z.f_Call_init) : OkM P w K mg base Z.f_Call_init p_Call_init 1 (sp_Call_init K Z) := by
  obtain ⟨fd, D1, D3⟩ := D
  refine ⟨fd, D3, D1.ok sc_Call_init (fun vs H Q E h => ?_) (fun cdv A outer s H vs Q E hr h => ?_)⟩
  · first | (obtain ⟨_, rfl, _⟩ := h; rfl) | (obtain ⟨_, _, rfl, _⟩ := h; rfl) | (obtain ⟨_, _, _, rfl, _⟩ := h; rfl) | (obtain ⟨_, _, _, _, rfl, _⟩ := h; rfl) | (obtain ⟨_, _, _, _, _, rfl, _⟩ := h; rfl) | (obtain ⟨_, _, _, _, _, _, rfl, _⟩ := h; rfl) | (obtain ⟨_, _, _, _, _, _, _, rfl, _⟩ := h; rfl) | (obtain ⟨_, _, _, _, _, _, _, _, rfl, _⟩ := h; rfl) | (obtain ⟨_, _, _, _, _, _, _, _, _, rfl, _⟩ := h; rfl) | (obtain ⟨_, _, _, _, _, _, _, _, _, _, rfl, _⟩ := h; rfl) | (obtain ⟨_, _, _, _, _, _, _, _, _, _, _, rfl, _⟩ := h; rfl) | (obtain ⟨_, _, _, _, _, _, _, _, _, _, _, _, rfl, _⟩ := h; rfl) | (obtain ⟨_, _, _, _, _, _, _, _, _, _, _, _, _, rfl, _⟩ := h; rfl) | (obtain ⟨rfl, _⟩ := h; rfl)
  · refine ⟨_, (pss_cons (ps_fld (pv 0) (pv 1) rfl)
        (pss_cons (ps_fld (pv 0) (pv 2) rfl)
        (pss_cons (ps_fld (pv 0) (pv 3) rfl)
        (pss_one (ps_fld (pv 0) (pv 4) rfl))))), ?_⟩
    obtain ⟨x, dx, v1, v2, v3, v4, rfl, hx, k⟩ := h
    refine ⟨_, rfl, _, rfl, x, _, dx, _, rfl, hx, T.cl_Call, T.na_Call_number, (by show 0 < 1000; decide), ?_⟩
    refine ⟨_, rfl, _, rfl, x, _, dx, _, rfl, upd_same, T.cl_Call, T.na_Call_numbers, (by show 1 < 1000; decide), ?_⟩
    have e1 : putF ("numbers" : Str) v2 (putF ("number" : Str) v1 []) = [(("number" : Str), v1), (("numbers" : Str), v2)] := (put_past (by decide +kernel)).trans rfl
    refine ⟨_, rfl, _, rfl, x, _, dx, _, rfl, upd_same, T.cl_Call, T.na_Call_rows, (by rw [e1]; show 2 < 1000; decide), ?_⟩
    rw [e1]
    have e2 : putF ("rows" : Str) v3 [(("number" : Str), v1), (("numbers" : Str), v2)] = [(("number" : Str), v1), (("numbers" : Str), v2), (("rows" : Str), v3)] := (put_past (by decide +kernel)).trans (congrArg _ ((put_past (by decide +kernel)).trans rfl))
    rw [e2]
    refine ⟨_, rfl, _, rfl, x, _, dx, _, rfl, upd_same, T.cl_Call, T.na_Call_behind, (by show 3 < 1000; decide), ?_⟩
    have e3 : putF ("behind" : Str) v4 [(("number" : Str), v1), (("numbers" : Str), v2), (("rows" : Str), v3)] = [(("number" : Str), v1), (("numbers" : Str), v2), (("rows" : Str), v3), (("behind" : Str), v4)] := (put_past (by decide +kernel)).trans (congrArg _ ((put_past (by decide +kernel)).trans (congrArg _ ((put_past (by decide +kernel)).trans rfl))))
    rw [e3]
    exact k _ upd_same (SameBut.upd (SameBut.upd (SameBut.upd (SameBut.upd fun _ _ e _ => e))))
theorem shapes_get {K : PySem.W.Frag} {mg : Str → Option Value} {Z : Adr} (T : Txt K mg Z) : ∃ get, KIx K Z.SHAPES get ∧ ∀ (p : Int) (n k : Nat), PySq45.shape p = some (n, k) → ∃ a, get p = some (.ref a) ∧ ∀ H, SqT K H a [.int (n : Int), .int (k : Int)] := by
  obtain ⟨get, hK, h⟩ := T.k_SHAPES
  refine ⟨get, hK, fun p n k hs => ?_⟩
  rcases shape_cases hs with ⟨rfl, rfl, rfl⟩ | ⟨rfl, rfl, rfl⟩ | ⟨rfl, rfl, rfl⟩ | ⟨rfl, rfl, rfl⟩ | ⟨rfl, rfl, rfl⟩ | ⟨rfl, rfl, rfl⟩ | ⟨rfl, rfl, rfl⟩ | ⟨rfl, rfl, rfl⟩ | ⟨rfl, rfl, rfl⟩ | ⟨rfl, rfl, rfl⟩ | ⟨rfl, rfl, rfl⟩ | ⟨rfl, rfl, rfl⟩ | ⟨rfl, rfl, rfl⟩
  · exact h (1, [2, 1]) (by simp)
  · exact h (2, [2, 1]) (by simp)
  · exact h (3, [2, 0]) (by simp)
  · exact h (4, [4, 0]) (by simp)
  · exact h (5, [4, 2]) (by simp)
  · exact h (6, [0, 0]) (by simp)
  · exact h (7, [0, 0]) (by simp)
  · exact h (8, [1, 0]) (by simp)
  · exact h (9, [0, 0]) (by simp)
  · exact h (10, [1, 0]) (by simp)
  · exact h (11, [1, 0]) (by simp)
  · exact h (12, [0, 0]) (by simp)
  · exact h (13, [4, 0]) (by simp)
def sp_read_call (K : PySem.W.Frag) (Z : Adr) : Sp := fun vs H Q _ => ∃ (c : Addr) (ns : List Int) (i : Nat) (p : Int) (a : List Int) (xs : List (List Int)) (t : List Int), vs = [.ref c, .int (i : Int)] ∧ SqL K H c (ns.map V.int) ∧ ns.length ≤ 16000 ∧ i ≤ ns.length ∧
  ns.drop i = (p :: a) ++ (PyFlat.putRows xs ++ t) ∧ PySq45.shape p = some (a.length, xs.length) ∧ ∀ H' o b, Same H H' → b = ns.length - t.length → (∀ u, (∃ o, H u = some o) → CallAt Z u H' o p a xs b) → Q (.ref o) H'
abbrev s_read_call : Stmt := top 57
abbrev n_read_call : List Str := ["calls", "start", "number", "shape", "place", "numbers", "rows", "behind"]
abbrev p_read_call : List Str := ["calls", "start"]
theorem sc_read_call : FnScope n_read_call p_read_call (defScope s_read_call) := ⟨rfl, rfl, rfl, by decide +kernel, rfl, by decide +kernel, by decide +kernel⟩
theorem ok_read_call (T : Txt K mg Z) (c_Call_init : OkM P w K mg base Z.f_Call_init p_Call_init 1 (sp_Call_init K Z)) (D : Dn K mg "read_call" s_read_call p_read_call) : Okd P w K mg base "read_call" p_read_call 3 (sp_read_call K Z) := by
  obtain ⟨f, fd, D1, D2, D3⟩ := D
  obtain ⟨d_Call_init, b_Call_init, F_Call_init⟩ := c_Call_init
  refine ⟨f, fd, D2, D1.kp, D3, D1.ok sc_read_call (fun vs H Q E h => ?_) (fun cdv A outer s H vs Q E hr h => ?_)⟩
  · first | (obtain ⟨_, rfl, _⟩ := h; rfl) | (obtain ⟨_, _, rfl, _⟩ := h; rfl) | (obtain ⟨_, _, _, rfl, _⟩ := h; rfl) | (obtain ⟨_, _, _, _, rfl, _⟩ := h; rfl) | (obtain ⟨_, _, _, _, _, rfl, _⟩ := h; rfl) | (obtain ⟨_, _, _, _, _, _, rfl, _⟩ := h; rfl) | (obtain ⟨_, _, _, _, _, _, _, rfl, _⟩ := h; rfl) | (obtain ⟨_, _, _, _, _, _, _, _, rfl, _⟩ := h; rfl) | (obtain ⟨_, _, _, _, _, _, _, _, _, rfl, _⟩ := h; rfl) | (obtain ⟨_, _, _, _, _, _, _, _, _, _, rfl, _⟩ := h; rfl) | (obtain ⟨_, _, _, _, _, _, _, _, _, _, _, rfl, _⟩ := h; rfl) | (obtain ⟨_, _, _, _, _, _, _, _, _, _, _, _, rfl, _⟩ := h; rfl) | (obtain ⟨_, _, _, _, _, _, _, _, _, _, _, _, _, rfl, _⟩ := h; rfl) | (obtain ⟨rfl, _⟩ := h; rfl)
  · refine ⟨_, (pss_cons (ps_set (i := 2) sc_read_call.nd rfl (Or.inl rfl) (pe_ix ix_list (pv 0) (pv 1) (fun _ _ => rfl)))
        (pss_cons (ps_set (i := 3) sc_read_call.nd rfl (Or.inl rfl) (pe_ix ix_kint (pe_glob (v := .ref Z.SHAPES) (by rfl) T.g_SHAPES rfl) (pv 2) (fun _ _ => rfl)))
        (pss_cons (ps_set (i := 4) sc_read_call.nd rfl (Or.inl rfl) (pe_op op_add (pe_op op_add (pv 1) pe_int) (pe_ix ix_tup (pv 3) pe_int (fun _ _ => rfl))))
        (pss_cons (ps_set (i := 5) sc_read_call.nd rfl (Or.inl rfl) (pe_slice sl_list (pv 0) (po_some (pe_op op_add (pv 1) pe_int)) (po_some (pv 4))))
        (pss_cons (ps_set (i := 6) sc_read_call.nd rfl (Or.inl rfl) (pe_lst pa_nil))
        (pss_cons (ps_while PassesOwn.never (pt_cmpR op_lt (pe_callB call_len_seq (by rfl) T.n_len (by decide +kernel) (pa_cons (pv 6) pa_nil)) (pe_ix ix_tup (pv 3) pe_int (fun _ _ => rfl)) (nomark _)) (pss_cons (ps_set (i := 7) sc_read_call.nd rfl (Or.inl rfl) (pe_op op_add (pe_op op_add (pv 4) pe_int) (pe_ix ix_list (pv 0) (pv 4) (fun _ _ => rfl))))
        (pss_cons (ps_expr (pe_bm PySem.F.plainAttrs_list PySem.F.slot_list_append PySem.F.type_list_append mt_append (pv 6) (pa_cons (pe_slice sl_list (pv 0) (po_some (pe_op op_add (pv 4) pe_int)) (po_some (pv 7))) pa_nil)))
        (pss_one (ps_set (i := 4) sc_read_call.nd rfl (Or.inl rfl) (pv 7))))))
        (pss_one (ps_ret (pe_make T.mk_Call F_Call_init (hr.mono (by decide)) (by rfl) T.c_Call b_Call_init .nil pass0 (pa_cons (pv 2) (pa_cons (pv 5) (pa_cons (pv 6) (pa_cons (pv 4) pa_nil))))))))))))), ?_⟩
    obtain ⟨c, ns, i, p, a, xs, t, rfl, hc, hlen, hi, hdrop, hshape, k⟩ := h
    have hp : ns[i]? = some p := drop_head hdrop
    obtain ⟨get, hK, hget⟩ := shapes_get T
    obtain ⟨sa, hsa, hS⟩ := hget p _ _ hshape
    have hk2 : xs.length ≤ 2 := by rcases shape_cases hshape with h | h | h | h | h | h | h | h | h | h | h | h | h <;> omega
    have hL := drop_len_eq hi hdrop
    rw [List.length_cons, List.length_append] at hL
    refine ⟨_, rfl, _, rfl, c, _, _, .int p, rfl, rfl, hc, atI_nat (by rw [List.getElem?_map, hp]; rfl), ?_⟩
    refine ⟨_, rfl, Z.SHAPES, _, .ref sa, get, rfl, rfl, hK, hsa, ?_⟩
    refine ⟨_, rfl, _, _, rfl, rfl, _, rfl, sa, _, _, _, rfl, rfl, hS _, atI_nat (j := 0) rfl, _, _, rfl, rfl, ?_⟩
    have d1 : ns.drop (i + 1) = a ++ (PyFlat.putRows xs ++ t) := drop_more (x := [p]) hdrop
    refine ⟨_, rfl, _, rfl, _, _, rfl, rfl, _, rfl, _, rfl, _, rfl, c, _, rfl, hc, fun na nna => ?_⟩
    rw [cut_is (i := i + 1) (x := a) (by omega) d1 (by omega) (by omega)]
    have s1 : Same H (upd H na (.lst (a.map V.int))) := same_new nna
    refine ⟨by decide, fun ra nra => ?_⟩
    have nar : na ≠ ra := ne_of_none upd_same nra
    have hra0 : H ra = none := s1.free nra
    have d2 : ns.drop (i + 1 + a.length) = PyFlat.putRows xs ++ t := drop_more d1
    refine ⟨fun m σ H' => ∃ (j : Nat) (ras : List Addr) (place : Nat) (vb : Option V), m = xs.length - j ∧ j ≤ xs.length ∧ σ = [some (.ref c), some (.int (i : Int)), some (.int p), some (.ref sa), some (.int (place : Int)), some (.ref na), some (.ref ra), vb] ∧ place ≤ ns.length ∧
      ns.drop place = PyFlat.putRows (xs.drop j) ++ t ∧ Same H H' ∧ H' na = some (.lst (a.map V.int)) ∧ H' ra = some (.lst (ras.map V.ref)) ∧ (∀ b ∈ ras, b ≠ ra ∧ H b = none) ∧ RowsAt H' ras (xs.take j), ⟨xs.length, 0, [], i + 1 + a.length, none, rfl, Nat.zero_le _, ?_, by omega, d2, same_upd s1 hra0, by rw [upd_ne nar]; exact upd_same, upd_same, by simp, RowsAt.nil⟩, ?_⟩
    · show _ = [some (V.ref c), some (.int (i : Int)), some (.int p), some (.ref sa), some (.int ((i + 1 + a.length : Nat) : Int)), some (.ref na), some (.ref ra), none]
      rw [Int.natCast_add, Int.natCast_add]
      rfl
    rintro m σ H1 ⟨j, ras, place, vb, rfl, hj, rfl, hpl, hd, s2, ena, era, hne, hrows⟩
    have hrl : ras.length = j := by rw [hrows.len, List.length_take]; omega
    refine ⟨_, rfl, ra, _, rfl, .inl (SqL.of era), _, rfl, sa, _, _, _, rfl, rfl, hS _, atI_nat (j := 1) rfl, _, _, rfl, rfl, _, rfl, ifD (fun e => ?_) (fun e => ?_)⟩
    · rw [List.length_map, hrl] at e
      have hjl : j < xs.length := by omega
      have hx : xs.drop j = xs[j] :: xs.drop (j + 1) := List.drop_eq_getElem_cons hjl
      rw [hx, putRows_cons] at hd
      have hL2 := drop_len_eq (x := (xs[j].length : Int) :: xs[j]) hpl hd
      rw [List.length_cons] at hL2
      have hd3 : ns.drop (place + 1) = xs[j] ++ (PyFlat.putRows (xs.drop (j + 1)) ++ t) := drop_more (x := [(xs[j].length : Int)]) hd
      refine ⟨fun σ' H' => ∃ (ras : List Addr) (place : Nat) (vb : Option V), σ' = [some (.ref c), some (.int (i : Int)), some (.int p), some (.ref sa), some (.int (place : Int)), some (.ref na), some (.ref ra), vb] ∧ place ≤ ns.length ∧
        ns.drop place = PyFlat.putRows (xs.drop (j + 1)) ++ t ∧ Same H H' ∧ H' na = some (.lst (a.map V.int)) ∧ H' ra = some (.lst (ras.map V.ref)) ∧ (∀ b ∈ ras, b ≠ ra ∧ H b = none) ∧ RowsAt H' ras (xs.take (j + 1)), ?_, ?_⟩
      · rintro σ' H' ⟨ras, place, vb, h1, h2⟩
        exact ⟨xs.length - (j + 1), by omega, j + 1, ras, place, vb, rfl, hjl, h1, h2⟩
      refine ⟨_, rfl, _, _, rfl, rfl, _, rfl, _, rfl, c, _, _, .int (xs[j].length : Int), rfl, rfl, s2.seq hc, atI_nat (by rw [List.getElem?_map, drop_head hd]; rfl), _, _, rfl, rfl, ?_⟩
      refine ⟨_, rfl, .inl ⟨rfl, _, SqL.of era⟩, _, rfl, _, rfl, _, _, rfl, rfl, _, rfl, _, rfl, _, rfl, c, _, rfl, s2.seq hc, fun b nb => ?_⟩
      rw [cut_is (i := place + 1) (x := xs[j]) (by omega) hd3 (by omega) (by omega)]
      have nbr : b ≠ ra := (ne_of_none era nb).symm
      have s3 : Same H1 (upd H1 b (.lst (xs[j].map V.int))) := same_new nb
      refine ⟨ra, _, _, rfl, rfl, s3 _ _ era, by rw [List.length_map, hrl]; exact Nat.lt_of_le_of_lt (show j ≤ 16000 by omega) (by decide), ?_⟩
      refine ⟨_, rfl, ras ++ [b], place + 1 + xs[j].length, some (.int ((place + 1 + xs[j].length : Nat) : Int)), ?_, by omega, drop_more hd3, same_upd (s2.trans s3) hra0, ?_, ?_, ?_, ?_⟩
      · rw [Int.natCast_add, Int.natCast_add]
        rfl
      · rw [upd_ne nar]
        exact s3 _ _ ena
      · rw [upd_same, List.map_append]
        rfl
      · intro b' hb'
        rcases List.mem_append.mp hb' with h | h
        · exact hne b' h
        · rw [List.mem_singleton.mp h]
          exact ⟨nbr, s2.free nb⟩
      · rw [List.take_succ, List.getElem?_eq_getElem hjl]
        refine RowsAt.more (hrows.same fun b' o hb' e => ?_) ?_
        · rw [upd_ne (hne b' hb').1]
          exact s3 _ _ e
        · rw [upd_ne nbr]
          exact upd_same
    · rw [List.length_map, hrl] at e
      obtain rfl : j = xs.length := by omega
      refine ⟨_, rfl, _, rfl, _, rfl, _, rfl, ?_⟩
      intro x dx nx ndx nex
      refine ⟨x, dx, _, _, _, _, rfl, upd_same, fun H3 e3 s3 => ⟨rfl, ?_⟩⟩
      have s4 := made_same nx ndx s3
      have hL3 := drop_len_eq (x := []) (t := t) hpl (by rw [hd, List.drop_length]; rfl)
      rw [List.take_length] at hrows
      refine k H3 x place (s2.trans s4) ?_ fun u ⟨o, eu⟩ => ⟨dx, na, ra, ras, e3, s4 _ _ ena, s4 _ _ era, hrows.same fun b o _ e => s4 _ _ e, fun b hb => (ne_of_none eu (hne b hb).2).symm⟩
      rw [hL3]
      simp
end
end Tw

set_option Elab.async false
set_option linter.all false
set_option maxRecDepth 100000
set_option maxHeartbeats 2000000
namespace Tw
open PySem PySem.Spec PyProof.Rows L2
section
variable {P : Program} {w : World} {K : PySem.W.Frag} {mg : Str → Option Value} {base : Heap} {Z : Adr}
def sp_answer_one (_ : PySem.W.Frag) (Z : Adr) : Sp := fun vs H Q _ => ∃ (t d o : Addr) (p : Int) (a : List Int) (xs : List (List Int)) (b : Nat) (g : Sq45.House), vs = [.ref d, .ref o] ∧ HouseAt Z t H d g ∧ CallAt Z t H o p a xs b ∧ PySq45.shape p = some (a.length, xs.length) ∧
  (∀ z ∈ a, 0 ≤ z ∧ z < 2 ^ 64) ∧ (∀ x ∈ xs, x.length ≤ 1024 ∧ ∀ z ∈ x, 0 ≤ z) ∧ HSpL Z t d H (Sq45Neutral.step g ((p :: a) :: xs)) Q
abbrev s_answer_one : Stmt := top 59
abbrev n_answer_one : List Str := ["desk", "call", "number", "given", "rows"]
abbrev p_answer_one : List Str := ["desk", "call"]
theorem sc_answer_one : FnScope n_answer_one p_answer_one (defScope s_answer_one) := ⟨rfl, rfl, rfl, by decide +kernel, rfl, by decide +kernel, by decide +kernel⟩
theorem ok_answer_one (T : Txt K mg Z) (c_answer_begin : Okd P w K mg base "answer_begin" p_answer_begin 4 (sp_answer_begin K Z)) (c_answer_piece : Okd P w K mg base "answer_piece" p_answer_piece 3 (sp_answer_piece K Z)) (c_answer_mean : Okd P w K mg base "answer_mean" p_answer_mean 6 (sp_answer_mean K Z)) (c_answer_rank : Okd P w K mg base "answer_rank" p_answer_rank 6 (sp_answer_rank K Z)) (c_answer_weigh : Okd P w K mg base "answer_weigh" p_answer_weigh 6 (sp_answer_weigh K Z)) (c_answer_even : Okd P w K mg base "answer_even" p_answer_even 4 (sp_answer_even K Z)) (c_answer_parting : Okd P w K mg base "answer_parting" p_answer_parting 3 (sp_answer_parting K Z)) (c_answer_part : Okd P w K mg base "answer_part" p_answer_part 4 (sp_answer_part K Z)) (c_answer_find : Okd P w K mg base "answer_find" p_answer_find 4 (sp_answer_find K Z)) (c_answer_shift : Okd P w K mg base "answer_shift" p_answer_shift 4 (sp_answer_shift K Z)) (c_answer_row : Okd P w K mg base "answer_row" p_answer_row 2 (sp_answer_row K Z)) (c_answer_spread : Okd P w K mg base "answer_spread" p_answer_spread 2 (sp_answer_spread K Z)) (c_answer_cut : Okd P w K mg base "answer_cut" p_answer_cut 4 (sp_answer_cut K Z)) (D : Dn K mg "answer_one" s_answer_one p_answer_one) : Okd P w K mg base "answer_one" p_answer_one 7 (sp_answer_one K Z) := by
  obtain ⟨f, fd, D1, D2, D3⟩ := D
  obtain ⟨a_answer_begin, d_answer_begin, m_answer_begin, kp_answer_begin, b_answer_begin, F_answer_begin⟩ := c_answer_begin
  obtain ⟨a_answer_piece, d_answer_piece, m_answer_piece, kp_answer_piece, b_answer_piece, F_answer_piece⟩ := c_answer_piece
  obtain ⟨a_answer_mean, d_answer_mean, m_answer_mean, kp_answer_mean, b_answer_mean, F_answer_mean⟩ := c_answer_mean
  obtain ⟨a_answer_rank, d_answer_rank, m_answer_rank, kp_answer_rank, b_answer_rank, F_answer_rank⟩ := c_answer_rank
  obtain ⟨a_answer_weigh, d_answer_weigh, m_answer_weigh, kp_answer_weigh, b_answer_weigh, F_answer_weigh⟩ := c_answer_weigh
  obtain ⟨a_answer_even, d_answer_even, m_answer_even, kp_answer_even, b_answer_even, F_answer_even⟩ := c_answer_even
  obtain ⟨a_answer_parting, d_answer_parting, m_answer_parting, kp_answer_parting, b_answer_parting, F_answer_parting⟩ := c_answer_parting
  obtain ⟨a_answer_part, d_answer_part, m_answer_part, kp_answer_part, b_answer_part, F_answer_part⟩ := c_answer_part
  obtain ⟨a_answer_find, d_answer_find, m_answer_find, kp_answer_find, b_answer_find, F_answer_find⟩ := c_answer_find
  obtain ⟨a_answer_shift, d_answer_shift, m_answer_shift, kp_answer_shift, b_answer_shift, F_answer_shift⟩ := c_answer_shift
  obtain ⟨a_answer_row, d_answer_row, m_answer_row, kp_answer_row, b_answer_row, F_answer_row⟩ := c_answer_row
  obtain ⟨a_answer_spread, d_answer_spread, m_answer_spread, kp_answer_spread, b_answer_spread, F_answer_spread⟩ := c_answer_spread
  obtain ⟨a_answer_cut, d_answer_cut, m_answer_cut, kp_answer_cut, b_answer_cut, F_answer_cut⟩ := c_answer_cut
  refine ⟨f, fd, D2, D1.kp, D3, D1.ok sc_answer_one (fun vs H Q E h => ?_) (fun cdv A outer s H vs Q E hr h => ?_)⟩
  · first | (obtain ⟨_, rfl, _⟩ := h; rfl) | (obtain ⟨_, _, rfl, _⟩ := h; rfl) | (obtain ⟨_, _, _, rfl, _⟩ := h; rfl) | (obtain ⟨_, _, _, _, rfl, _⟩ := h; rfl) | (obtain ⟨_, _, _, _, _, rfl, _⟩ := h; rfl) | (obtain ⟨_, _, _, _, _, _, rfl, _⟩ := h; rfl) | (obtain ⟨_, _, _, _, _, _, _, rfl, _⟩ := h; rfl) | (obtain ⟨_, _, _, _, _, _, _, _, rfl, _⟩ := h; rfl) | (obtain ⟨_, _, _, _, _, _, _, _, _, rfl, _⟩ := h; rfl) | (obtain ⟨_, _, _, _, _, _, _, _, _, _, rfl, _⟩ := h; rfl) | (obtain ⟨_, _, _, _, _, _, _, _, _, _, _, rfl, _⟩ := h; rfl) | (obtain ⟨_, _, _, _, _, _, _, _, _, _, _, _, rfl, _⟩ := h; rfl) | (obtain ⟨_, _, _, _, _, _, _, _, _, _, _, _, _, rfl, _⟩ := h; rfl) | (obtain ⟨rfl, _⟩ := h; rfl)
  · refine ⟨_, (pss_cons (ps_set (i := 2) sc_answer_one.nd rfl (Or.inl rfl) (pe_fld (pv 1) rfl))
        (pss_cons (ps_set (i := 3) sc_answer_one.nd rfl (Or.inl rfl) (pe_fld (pv 1) rfl))
        (pss_cons (ps_set (i := 4) sc_answer_one.nd rfl (Or.inl rfl) (pe_fld (pv 1) rfl))
        (pss_cons (ps_if (pt_cmpR op_eq (pv 2) pe_int (nomark _)) (pss_one (ps_ret (pe_call F_answer_begin (hr.mono (by decide)) (by rfl) m_answer_begin kp_answer_begin b_answer_begin .nil pass0 (pa_cons (pv 0) (pa_cons (pe_ix ix_list (pv 3) pe_int (fun _ _ => rfl)) (pa_cons (pe_ix ix_list (pv 3) pe_int (fun _ _ => rfl)) (pa_cons (pe_ix ix_list (pv 4) pe_int (fun _ _ => rfl)) pa_nil))))))) pss_nil)
        (pss_cons (ps_if (pt_cmpR op_eq (pv 2) pe_int (nomark _)) (pss_one (ps_ret (pe_call F_answer_piece (hr.mono (by decide)) (by rfl) m_answer_piece kp_answer_piece b_answer_piece .nil pass0 (pa_cons (pv 0) (pa_cons (pe_ix ix_list (pv 3) pe_int (fun _ _ => rfl)) (pa_cons (pe_ix ix_list (pv 3) pe_int (fun _ _ => rfl)) (pa_cons (pe_ix ix_list (pv 4) pe_int (fun _ _ => rfl)) pa_nil))))))) pss_nil)
        (pss_cons (ps_if (pt_cmpR op_eq (pv 2) pe_int (nomark _)) (pss_one (ps_ret (pe_call F_answer_mean (hr.mono (by decide)) (by rfl) m_answer_mean kp_answer_mean b_answer_mean .nil pass0 (pa_cons (pv 0) (pa_cons (pe_ix ix_list (pv 3) pe_int (fun _ _ => rfl)) (pa_cons (pe_ix ix_list (pv 3) pe_int (fun _ _ => rfl)) pa_nil)))))) pss_nil)
        (pss_cons (ps_if (pt_cmpR op_eq (pv 2) pe_int (nomark _)) (pss_one (ps_ret (pe_call F_answer_rank (hr.mono (by decide)) (by rfl) m_answer_rank kp_answer_rank b_answer_rank .nil pass0 (pa_cons (pv 0) (pa_cons (pe_ix ix_list (pv 3) pe_int (fun _ _ => rfl)) (pa_cons (pe_ix ix_list (pv 3) pe_int (fun _ _ => rfl)) (pa_cons (pe_ix ix_list (pv 3) pe_int (fun _ _ => rfl)) (pa_cons (pe_ix ix_list (pv 3) pe_int (fun _ _ => rfl)) pa_nil)))))))) pss_nil)
        (pss_cons (ps_if (pt_cmpR op_eq (pv 2) pe_int (nomark _)) (pss_one (ps_ret (pe_call F_answer_weigh (hr.mono (by decide)) (by rfl) m_answer_weigh kp_answer_weigh b_answer_weigh .nil pass0 (pa_cons (pv 0) (pa_cons (pe_ix ix_list (pv 3) pe_int (fun _ _ => rfl)) (pa_cons (pe_ix ix_list (pv 3) pe_int (fun _ _ => rfl)) (pa_cons (pe_ix ix_list (pv 3) pe_int (fun _ _ => rfl)) (pa_cons (pe_ix ix_list (pv 3) pe_int (fun _ _ => rfl)) (pa_cons (pe_ix ix_list (pv 4) pe_int (fun _ _ => rfl)) (pa_cons (pe_ix ix_list (pv 4) pe_int (fun _ _ => rfl)) pa_nil)))))))))) pss_nil)
        (pss_cons (ps_if (pt_cmpR op_eq (pv 2) pe_int (nomark _)) (pss_one (ps_ret (pe_call F_answer_even (hr.mono (by decide)) (by rfl) m_answer_even kp_answer_even b_answer_even .nil pass0 (pa_cons (pv 0) pa_nil)))) pss_nil)
        (pss_cons (ps_if (pt_cmpR op_eq (pv 2) pe_int (nomark _)) (pss_one (ps_ret (pe_call F_answer_parting (hr.mono (by decide)) (by rfl) m_answer_parting kp_answer_parting b_answer_parting .nil pass0 (pa_cons (pv 0) pa_nil)))) pss_nil)
        (pss_cons (ps_if (pt_cmpR op_eq (pv 2) pe_int (nomark _)) (pss_one (ps_ret (pe_call F_answer_part (hr.mono (by decide)) (by rfl) m_answer_part kp_answer_part b_answer_part .nil pass0 (pa_cons (pv 0) (pa_cons (pe_ix ix_list (pv 3) pe_int (fun _ _ => rfl)) pa_nil))))) pss_nil)
        (pss_cons (ps_if (pt_cmpR op_eq (pv 2) pe_int (nomark _)) (pss_one (ps_ret (pe_call F_answer_find (hr.mono (by decide)) (by rfl) m_answer_find kp_answer_find b_answer_find .nil pass0 (pa_cons (pv 0) pa_nil)))) pss_nil)
        (pss_cons (ps_if (pt_cmpR op_eq (pv 2) pe_int (nomark _)) (pss_one (ps_ret (pe_call F_answer_shift (hr.mono (by decide)) (by rfl) m_answer_shift kp_answer_shift b_answer_shift .nil pass0 (pa_cons (pv 0) (pa_cons (pe_ix ix_list (pv 3) pe_int (fun _ _ => rfl)) pa_nil))))) pss_nil)
        (pss_cons (ps_if (pt_cmpR op_eq (pv 2) pe_int (nomark _)) (pss_one (ps_ret (pe_call F_answer_row (hr.mono (by decide)) (by rfl) m_answer_row kp_answer_row b_answer_row .nil pass0 (pa_cons (pv 0) (pa_cons (pe_ix ix_list (pv 3) pe_int (fun _ _ => rfl)) pa_nil))))) pss_nil)
        (pss_cons (ps_if (pt_cmpR op_eq (pv 2) pe_int (nomark _)) (pss_one (ps_ret (pe_call F_answer_spread (hr.mono (by decide)) (by rfl) m_answer_spread kp_answer_spread b_answer_spread .nil pass0 (pa_cons (pv 0) pa_nil)))) pss_nil)
        (pss_one (ps_ret (pe_call F_answer_cut (hr.mono (by decide)) (by rfl) m_answer_cut kp_answer_cut b_answer_cut .nil pass0 (pa_cons (pv 0) (pa_cons (pe_ix ix_list (pv 3) pe_int (fun _ _ => rfl)) (pa_cons (pe_ix ix_list (pv 3) pe_int (fun _ _ => rfl)) (pa_cons (pe_ix ix_list (pv 3) pe_int (fun _ _ => rfl)) (pa_cons (pe_ix ix_list (pv 3) pe_int (fun _ _ => rfl)) pa_nil))))))))))))))))))))))), ?_⟩
    obtain ⟨t, d, o, p, a, xs, b, g, rfl, hg, ⟨dx, na, ra, as, ho, hna, hra, hrows, ap⟩, hsh, ha, hx, k⟩ := h
    refine ⟨_, rfl, o, _, dx, _, _, rfl, ho, T.cl_Call, T.na_Call_number, callF_1 _ _ _ _, ?_⟩
    refine ⟨_, rfl, o, _, dx, _, _, rfl, ho, T.cl_Call, T.na_Call_numbers, callF_2 _ _ _ _, ?_⟩
    refine ⟨_, rfl, o, _, dx, _, _, rfl, ho, T.cl_Call, T.na_Call_rows, callF_3 _ _ _ _, ?_⟩
    rcases shape_cases hsh with ⟨rfl, e1, e2⟩ | ⟨rfl, e1, e2⟩ | ⟨rfl, e1, e2⟩ | ⟨rfl, e1, e2⟩ | ⟨rfl, e1, e2⟩ | ⟨rfl, e1, e2⟩ | ⟨rfl, e1, e2⟩ | ⟨rfl, e1, e2⟩ | ⟨rfl, e1, e2⟩ | ⟨rfl, e1, e2⟩ | ⟨rfl, e1, e2⟩ | ⟨rfl, e1, e2⟩ | ⟨rfl, e1, e2⟩
    · obtain ⟨x0, x1, rfl⟩ := len2 e1
      obtain ⟨r0, rfl⟩ := len1 e2
      obtain ⟨b0, rfl, hb0⟩ := rows1 hrows
      obtain ⟨n0, rfl⟩ := ex_nat (ha x0 (by simp)).1
      obtain ⟨n1, rfl⟩ := ex_nat (ha x1 (by simp)).1
      rw [row_nat (hx r0 (by simp)).2] at hb0
      rw [ns_1] at k
      refine ⟨_, rfl, rfl, _, rfl, ifEq (fun _ => ?_) (fun c => absurd rfl c)⟩
      exact ⟨_, rfl, _, rfl, na, _, _, _, rfl, rfl, SqL.of hna, atI_nat (j := 0) rfl, _, rfl, na, _, _, _, rfl, rfl, SqL.of hna, atI_nat (j := 1) rfl, _, rfl, ra, _, _, _, rfl, rfl, SqL.of hra, atI_nat (j := 0) rfl, t, d, n0, n1, b0, r0.map Int.toNat, g, rfl, hg, ap b0 (by simp), hb0, hsp_of k⟩
    · obtain ⟨x0, x1, rfl⟩ := len2 e1
      obtain ⟨r0, rfl⟩ := len1 e2
      obtain ⟨b0, rfl, hb0⟩ := rows1 hrows
      obtain ⟨n0, rfl⟩ := ex_nat (ha x0 (by simp)).1
      obtain ⟨n1, rfl⟩ := ex_nat (ha x1 (by simp)).1
      rw [row_nat (hx r0 (by simp)).2] at hb0
      rw [ns_2] at k
      refine ⟨_, rfl, rfl, _, rfl, ifEq (fun c => absurd c (by decide)) (fun _ => ?_)⟩
      refine ⟨_, rfl, rfl, _, rfl, ifEq (fun _ => ?_) (fun c => absurd rfl c)⟩
      exact ⟨_, rfl, _, rfl, na, _, _, _, rfl, rfl, SqL.of hna, atI_nat (j := 0) rfl, _, rfl, na, _, _, _, rfl, rfl, SqL.of hna, atI_nat (j := 1) rfl, _, rfl, ra, _, _, _, rfl, rfl, SqL.of hra, atI_nat (j := 0) rfl, t, d, n0, n1, b0, r0.map Int.toNat, g, rfl, hg, ap b0 (by simp), hb0, hsp_of k⟩
    · obtain ⟨x0, x1, rfl⟩ := len2 e1
      obtain rfl := len0 e2
      obtain ⟨n0, rfl⟩ := ex_nat (ha x0 (by simp)).1
      obtain ⟨n1, rfl⟩ := ex_nat (ha x1 (by simp)).1
      rw [ns_3] at k
      refine ⟨_, rfl, rfl, _, rfl, ifEq (fun c => absurd c (by decide)) (fun _ => ?_)⟩
      refine ⟨_, rfl, rfl, _, rfl, ifEq (fun c => absurd c (by decide)) (fun _ => ?_)⟩
      refine ⟨_, rfl, rfl, _, rfl, ifEq (fun _ => ?_) (fun c => absurd rfl c)⟩
      exact ⟨_, rfl, _, rfl, na, _, _, _, rfl, rfl, SqL.of hna, atI_nat (j := 0) rfl, _, rfl, na, _, _, _, rfl, rfl, SqL.of hna, atI_nat (j := 1) rfl, t, d, n0, n1, g, rfl, hg, hsp_of k⟩
    · obtain ⟨x0, x1, x2, x3, rfl⟩ := len4 e1
      obtain rfl := len0 e2
      obtain ⟨n0, rfl⟩ := ex_nat (ha x0 (by simp)).1
      obtain ⟨n1, rfl⟩ := ex_nat (ha x1 (by simp)).1
      obtain ⟨n2, rfl⟩ := ex_nat (ha x2 (by simp)).1
      obtain ⟨n3, rfl⟩ := ex_nat (ha x3 (by simp)).1
      rw [ns_4] at k
      refine ⟨_, rfl, rfl, _, rfl, ifEq (fun c => absurd c (by decide)) (fun _ => ?_)⟩
      refine ⟨_, rfl, rfl, _, rfl, ifEq (fun c => absurd c (by decide)) (fun _ => ?_)⟩
      refine ⟨_, rfl, rfl, _, rfl, ifEq (fun c => absurd c (by decide)) (fun _ => ?_)⟩
      refine ⟨_, rfl, rfl, _, rfl, ifEq (fun _ => ?_) (fun c => absurd rfl c)⟩
      exact ⟨_, rfl, _, rfl, na, _, _, _, rfl, rfl, SqL.of hna, atI_nat (j := 0) rfl, _, rfl, na, _, _, _, rfl, rfl, SqL.of hna, atI_nat (j := 1) rfl, _, rfl, na, _, _, _, rfl, rfl, SqL.of hna, atI_nat (j := 2) rfl, _, rfl, na, _, _, _, rfl, rfl, SqL.of hna, atI_nat (j := 3) rfl, t, d, n0, n1, n2, n3, g, rfl, hg, by have := (ha (n3 : Int) (by simp)).2; omega, hsp_of k⟩
    · obtain ⟨x0, x1, x2, x3, rfl⟩ := len4 e1
      obtain ⟨r0, r1, rfl⟩ := len2 e2
      obtain ⟨b0, b1, rfl, hb0, hb1⟩ := rows2 hrows
      obtain ⟨n0, rfl⟩ := ex_nat (ha x0 (by simp)).1
      obtain ⟨n1, rfl⟩ := ex_nat (ha x1 (by simp)).1
      obtain ⟨n2, rfl⟩ := ex_nat (ha x2 (by simp)).1
      obtain ⟨n3, rfl⟩ := ex_nat (ha x3 (by simp)).1
      rw [row_nat (hx r0 (by simp)).2] at hb0
      rw [row_nat (hx r1 (by simp)).2] at hb1
      rw [ns_5] at k
      refine ⟨_, rfl, rfl, _, rfl, ifEq (fun c => absurd c (by decide)) (fun _ => ?_)⟩
      refine ⟨_, rfl, rfl, _, rfl, ifEq (fun c => absurd c (by decide)) (fun _ => ?_)⟩
      refine ⟨_, rfl, rfl, _, rfl, ifEq (fun c => absurd c (by decide)) (fun _ => ?_)⟩
      refine ⟨_, rfl, rfl, _, rfl, ifEq (fun c => absurd c (by decide)) (fun _ => ?_)⟩
      refine ⟨_, rfl, rfl, _, rfl, ifEq (fun _ => ?_) (fun c => absurd rfl c)⟩
      exact ⟨_, rfl, _, rfl, na, _, _, _, rfl, rfl, SqL.of hna, atI_nat (j := 0) rfl, _, rfl, na, _, _, _, rfl, rfl, SqL.of hna, atI_nat (j := 1) rfl, _, rfl, na, _, _, _, rfl, rfl, SqL.of hna, atI_nat (j := 2) rfl, _, rfl, na, _, _, _, rfl, rfl, SqL.of hna, atI_nat (j := 3) rfl, _, rfl, ra, _, _, _, rfl, rfl, SqL.of hra, atI_nat (j := 0) rfl, _, rfl, ra, _, _, _, rfl, rfl, SqL.of hra, atI_nat (j := 1) rfl, t, d, n0, n1, n2, n3, b0, b1, r0.map Int.toNat, r1.map Int.toNat, g, rfl, hg, hb0, hb1, by rw [List.length_map]; exact (hx r0 (by simp)).1, by rw [List.length_map]; exact (hx r1 (by simp)).1, hsp_of k⟩
    · obtain rfl := len0 e1
      obtain rfl := len0 e2
      rw [ns_6] at k
      refine ⟨_, rfl, rfl, _, rfl, ifEq (fun c => absurd c (by decide)) (fun _ => ?_)⟩
      refine ⟨_, rfl, rfl, _, rfl, ifEq (fun c => absurd c (by decide)) (fun _ => ?_)⟩
      refine ⟨_, rfl, rfl, _, rfl, ifEq (fun c => absurd c (by decide)) (fun _ => ?_)⟩
      refine ⟨_, rfl, rfl, _, rfl, ifEq (fun c => absurd c (by decide)) (fun _ => ?_)⟩
      refine ⟨_, rfl, rfl, _, rfl, ifEq (fun c => absurd c (by decide)) (fun _ => ?_)⟩
      refine ⟨_, rfl, rfl, _, rfl, ifEq (fun _ => ?_) (fun c => absurd rfl c)⟩
      exact ⟨_, rfl, t, d, g, rfl, hg, hsp_of k⟩
    · obtain rfl := len0 e1
      obtain rfl := len0 e2
      rw [ns_7] at k
      refine ⟨_, rfl, rfl, _, rfl, ifEq (fun c => absurd c (by decide)) (fun _ => ?_)⟩
      refine ⟨_, rfl, rfl, _, rfl, ifEq (fun c => absurd c (by decide)) (fun _ => ?_)⟩
      refine ⟨_, rfl, rfl, _, rfl, ifEq (fun c => absurd c (by decide)) (fun _ => ?_)⟩
      refine ⟨_, rfl, rfl, _, rfl, ifEq (fun c => absurd c (by decide)) (fun _ => ?_)⟩
      refine ⟨_, rfl, rfl, _, rfl, ifEq (fun c => absurd c (by decide)) (fun _ => ?_)⟩
      refine ⟨_, rfl, rfl, _, rfl, ifEq (fun c => absurd c (by decide)) (fun _ => ?_)⟩
      refine ⟨_, rfl, rfl, _, rfl, ifEq (fun _ => ?_) (fun c => absurd rfl c)⟩
      exact ⟨_, rfl, t, d, g, rfl, hg, hsp_of k⟩
    · obtain ⟨x0, rfl⟩ := len1 e1
      obtain rfl := len0 e2
      obtain ⟨n0, rfl⟩ := ex_nat (ha x0 (by simp)).1
      rw [ns_8] at k
      refine ⟨_, rfl, rfl, _, rfl, ifEq (fun c => absurd c (by decide)) (fun _ => ?_)⟩
      refine ⟨_, rfl, rfl, _, rfl, ifEq (fun c => absurd c (by decide)) (fun _ => ?_)⟩
      refine ⟨_, rfl, rfl, _, rfl, ifEq (fun c => absurd c (by decide)) (fun _ => ?_)⟩
      refine ⟨_, rfl, rfl, _, rfl, ifEq (fun c => absurd c (by decide)) (fun _ => ?_)⟩
      refine ⟨_, rfl, rfl, _, rfl, ifEq (fun c => absurd c (by decide)) (fun _ => ?_)⟩
      refine ⟨_, rfl, rfl, _, rfl, ifEq (fun c => absurd c (by decide)) (fun _ => ?_)⟩
      refine ⟨_, rfl, rfl, _, rfl, ifEq (fun c => absurd c (by decide)) (fun _ => ?_)⟩
      refine ⟨_, rfl, rfl, _, rfl, ifEq (fun _ => ?_) (fun c => absurd rfl c)⟩
      exact ⟨_, rfl, _, rfl, na, _, _, _, rfl, rfl, SqL.of hna, atI_nat (j := 0) rfl, t, d, n0, g, rfl, hg, hsp_of k⟩
    · obtain rfl := len0 e1
      obtain rfl := len0 e2
      rw [ns_9] at k
      refine ⟨_, rfl, rfl, _, rfl, ifEq (fun c => absurd c (by decide)) (fun _ => ?_)⟩
      refine ⟨_, rfl, rfl, _, rfl, ifEq (fun c => absurd c (by decide)) (fun _ => ?_)⟩
      refine ⟨_, rfl, rfl, _, rfl, ifEq (fun c => absurd c (by decide)) (fun _ => ?_)⟩
      refine ⟨_, rfl, rfl, _, rfl, ifEq (fun c => absurd c (by decide)) (fun _ => ?_)⟩
      refine ⟨_, rfl, rfl, _, rfl, ifEq (fun c => absurd c (by decide)) (fun _ => ?_)⟩
      refine ⟨_, rfl, rfl, _, rfl, ifEq (fun c => absurd c (by decide)) (fun _ => ?_)⟩
      refine ⟨_, rfl, rfl, _, rfl, ifEq (fun c => absurd c (by decide)) (fun _ => ?_)⟩
      refine ⟨_, rfl, rfl, _, rfl, ifEq (fun c => absurd c (by decide)) (fun _ => ?_)⟩
      refine ⟨_, rfl, rfl, _, rfl, ifEq (fun _ => ?_) (fun c => absurd rfl c)⟩
      exact ⟨_, rfl, t, d, g, rfl, hg, hsp_of k⟩
    · obtain ⟨x0, rfl⟩ := len1 e1
      obtain rfl := len0 e2
      obtain ⟨n0, rfl⟩ := ex_nat (ha x0 (by simp)).1
      rw [ns_10] at k
      refine ⟨_, rfl, rfl, _, rfl, ifEq (fun c => absurd c (by decide)) (fun _ => ?_)⟩
      refine ⟨_, rfl, rfl, _, rfl, ifEq (fun c => absurd c (by decide)) (fun _ => ?_)⟩
      refine ⟨_, rfl, rfl, _, rfl, ifEq (fun c => absurd c (by decide)) (fun _ => ?_)⟩
      refine ⟨_, rfl, rfl, _, rfl, ifEq (fun c => absurd c (by decide)) (fun _ => ?_)⟩
      refine ⟨_, rfl, rfl, _, rfl, ifEq (fun c => absurd c (by decide)) (fun _ => ?_)⟩
      refine ⟨_, rfl, rfl, _, rfl, ifEq (fun c => absurd c (by decide)) (fun _ => ?_)⟩
      refine ⟨_, rfl, rfl, _, rfl, ifEq (fun c => absurd c (by decide)) (fun _ => ?_)⟩
      refine ⟨_, rfl, rfl, _, rfl, ifEq (fun c => absurd c (by decide)) (fun _ => ?_)⟩
      refine ⟨_, rfl, rfl, _, rfl, ifEq (fun c => absurd c (by decide)) (fun _ => ?_)⟩
      refine ⟨_, rfl, rfl, _, rfl, ifEq (fun _ => ?_) (fun c => absurd rfl c)⟩
      exact ⟨_, rfl, _, rfl, na, _, _, _, rfl, rfl, SqL.of hna, atI_nat (j := 0) rfl, t, d, n0, g, rfl, hg, hsp_of k⟩
    · obtain ⟨x0, rfl⟩ := len1 e1
      obtain rfl := len0 e2
      obtain ⟨n0, rfl⟩ := ex_nat (ha x0 (by simp)).1
      rw [ns_11] at k
      refine ⟨_, rfl, rfl, _, rfl, ifEq (fun c => absurd c (by decide)) (fun _ => ?_)⟩
      refine ⟨_, rfl, rfl, _, rfl, ifEq (fun c => absurd c (by decide)) (fun _ => ?_)⟩
      refine ⟨_, rfl, rfl, _, rfl, ifEq (fun c => absurd c (by decide)) (fun _ => ?_)⟩
      refine ⟨_, rfl, rfl, _, rfl, ifEq (fun c => absurd c (by decide)) (fun _ => ?_)⟩
      refine ⟨_, rfl, rfl, _, rfl, ifEq (fun c => absurd c (by decide)) (fun _ => ?_)⟩
      refine ⟨_, rfl, rfl, _, rfl, ifEq (fun c => absurd c (by decide)) (fun _ => ?_)⟩
      refine ⟨_, rfl, rfl, _, rfl, ifEq (fun c => absurd c (by decide)) (fun _ => ?_)⟩
      refine ⟨_, rfl, rfl, _, rfl, ifEq (fun c => absurd c (by decide)) (fun _ => ?_)⟩
      refine ⟨_, rfl, rfl, _, rfl, ifEq (fun c => absurd c (by decide)) (fun _ => ?_)⟩
      refine ⟨_, rfl, rfl, _, rfl, ifEq (fun c => absurd c (by decide)) (fun _ => ?_)⟩
      refine ⟨_, rfl, rfl, _, rfl, ifEq (fun _ => ?_) (fun c => absurd rfl c)⟩
      exact ⟨_, rfl, _, rfl, na, _, _, _, rfl, rfl, SqL.of hna, atI_nat (j := 0) rfl, t, d, n0, g, rfl, hg, hsp_of k⟩
    · obtain rfl := len0 e1
      obtain rfl := len0 e2
      rw [ns_12] at k
      refine ⟨_, rfl, rfl, _, rfl, ifEq (fun c => absurd c (by decide)) (fun _ => ?_)⟩
      refine ⟨_, rfl, rfl, _, rfl, ifEq (fun c => absurd c (by decide)) (fun _ => ?_)⟩
      refine ⟨_, rfl, rfl, _, rfl, ifEq (fun c => absurd c (by decide)) (fun _ => ?_)⟩
      refine ⟨_, rfl, rfl, _, rfl, ifEq (fun c => absurd c (by decide)) (fun _ => ?_)⟩
      refine ⟨_, rfl, rfl, _, rfl, ifEq (fun c => absurd c (by decide)) (fun _ => ?_)⟩
      refine ⟨_, rfl, rfl, _, rfl, ifEq (fun c => absurd c (by decide)) (fun _ => ?_)⟩
      refine ⟨_, rfl, rfl, _, rfl, ifEq (fun c => absurd c (by decide)) (fun _ => ?_)⟩
      refine ⟨_, rfl, rfl, _, rfl, ifEq (fun c => absurd c (by decide)) (fun _ => ?_)⟩
      refine ⟨_, rfl, rfl, _, rfl, ifEq (fun c => absurd c (by decide)) (fun _ => ?_)⟩
      refine ⟨_, rfl, rfl, _, rfl, ifEq (fun c => absurd c (by decide)) (fun _ => ?_)⟩
      refine ⟨_, rfl, rfl, _, rfl, ifEq (fun c => absurd c (by decide)) (fun _ => ?_)⟩
      refine ⟨_, rfl, rfl, _, rfl, ifEq (fun _ => ?_) (fun c => absurd rfl c)⟩
      exact ⟨_, rfl, t, d, g, rfl, hg, hsp_of k⟩
    · obtain ⟨x0, x1, x2, x3, rfl⟩ := len4 e1
      obtain rfl := len0 e2
      obtain ⟨n0, rfl⟩ := ex_nat (ha x0 (by simp)).1
      obtain ⟨n1, rfl⟩ := ex_nat (ha x1 (by simp)).1
      obtain ⟨n2, rfl⟩ := ex_nat (ha x2 (by simp)).1
      obtain ⟨n3, rfl⟩ := ex_nat (ha x3 (by simp)).1
      rw [ns_13] at k
      refine ⟨_, rfl, rfl, _, rfl, ifEq (fun c => absurd c (by decide)) (fun _ => ?_)⟩
      refine ⟨_, rfl, rfl, _, rfl, ifEq (fun c => absurd c (by decide)) (fun _ => ?_)⟩
      refine ⟨_, rfl, rfl, _, rfl, ifEq (fun c => absurd c (by decide)) (fun _ => ?_)⟩
      refine ⟨_, rfl, rfl, _, rfl, ifEq (fun c => absurd c (by decide)) (fun _ => ?_)⟩
      refine ⟨_, rfl, rfl, _, rfl, ifEq (fun c => absurd c (by decide)) (fun _ => ?_)⟩
      refine ⟨_, rfl, rfl, _, rfl, ifEq (fun c => absurd c (by decide)) (fun _ => ?_)⟩
      refine ⟨_, rfl, rfl, _, rfl, ifEq (fun c => absurd c (by decide)) (fun _ => ?_)⟩
      refine ⟨_, rfl, rfl, _, rfl, ifEq (fun c => absurd c (by decide)) (fun _ => ?_)⟩
      refine ⟨_, rfl, rfl, _, rfl, ifEq (fun c => absurd c (by decide)) (fun _ => ?_)⟩
      refine ⟨_, rfl, rfl, _, rfl, ifEq (fun c => absurd c (by decide)) (fun _ => ?_)⟩
      refine ⟨_, rfl, rfl, _, rfl, ifEq (fun c => absurd c (by decide)) (fun _ => ?_)⟩
      refine ⟨_, rfl, rfl, _, rfl, ifEq (fun c => absurd c (by decide)) (fun _ => ?_)⟩
      exact ⟨_, rfl, _, rfl, na, _, _, _, rfl, rfl, SqL.of hna, atI_nat (j := 0) rfl, _, rfl, na, _, _, _, rfl, rfl, SqL.of hna, atI_nat (j := 1) rfl, _, rfl, na, _, _, _, rfl, rfl, SqL.of hna, atI_nat (j := 2) rfl, _, rfl, na, _, _, _, rfl, rfl, SqL.of hna, atI_nat (j := 3) rfl, t, d, n0, n1, n2, n3, g, rfl, hg, hsp_of k⟩
end
end Tw

set_option Elab.async false
set_option linter.all false
set_option maxRecDepth 100000
set_option maxHeartbeats 2000000
namespace Tw
open PySem PySem.Spec PyProof.Rows L2
section
variable {P : Program} {w : World} {K : PySem.W.Frag} {mg : Str → Option Value} {base : Heap} {Z : Adr}
def sp_answers (K : PySem.W.Frag) (_ : Adr) : Sp := spRow K
abbrev s_answers : Stmt := top 60
abbrev n_answers : List Str := ["calls", "desk", "told", "place", "call", "answer"]
abbrev p_answers : List Str := ["calls"]
theorem sc_answers : FnScope n_answers p_answers (defScope s_answers) := ⟨rfl, rfl, rfl, by decide +kernel, rfl, by decide +kernel, by decide +kernel⟩
theorem ok_answers (T : Txt K mg Z) (c_read_call : Okd P w K mg base "read_call" p_read_call 3 (sp_read_call K Z)) (c_answer_one : Okd P w K mg base "answer_one" p_answer_one 7 (sp_answer_one K Z)) (c_Desk_init : OkM P w K mg base Z.f_Desk_init p_Desk_init 4 (sp_Desk_init K Z)) {f : Addr} {fd : FuncData} (D1 : Fun K "answers" "answers" s_answers f fd) : FnOk P w K mg base CX0 8 f fd p_answers (sp_answers K Z) := by
  obtain ⟨a_read_call, d_read_call, m_read_call, kp_read_call, b_read_call, F_read_call⟩ := c_read_call
  obtain ⟨a_answer_one, d_answer_one, m_answer_one, kp_answer_one, b_answer_one, F_answer_one⟩ := c_answer_one
  obtain ⟨d_Desk_init, b_Desk_init, F_Desk_init⟩ := c_Desk_init
  refine D1.ok sc_answers (fun vs H Q E h => ?_) (fun cdv A outer s H vs Q E hr h => ?_)
  · first | (obtain ⟨_, rfl, _⟩ := h; rfl) | (obtain ⟨_, _, rfl, _⟩ := h; rfl) | (obtain ⟨_, _, _, rfl, _⟩ := h; rfl) | (obtain ⟨_, _, _, _, rfl, _⟩ := h; rfl) | (obtain ⟨_, _, _, _, _, rfl, _⟩ := h; rfl) | (obtain ⟨_, _, _, _, _, _, rfl, _⟩ := h; rfl) | (obtain ⟨_, _, _, _, _, _, _, rfl, _⟩ := h; rfl) | (obtain ⟨_, _, _, _, _, _, _, _, rfl, _⟩ := h; rfl) | (obtain ⟨_, _, _, _, _, _, _, _, _, rfl, _⟩ := h; rfl) | (obtain ⟨_, _, _, _, _, _, _, _, _, _, rfl, _⟩ := h; rfl) | (obtain ⟨_, _, _, _, _, _, _, _, _, _, _, rfl, _⟩ := h; rfl) | (obtain ⟨_, _, _, _, _, _, _, _, _, _, _, _, rfl, _⟩ := h; rfl) | (obtain ⟨_, _, _, _, _, _, _, _, _, _, _, _, _, rfl, _⟩ := h; rfl) | (obtain ⟨rfl, _⟩ := h; rfl)
  · refine ⟨_, (pss_cons (ps_set (i := 1) sc_answers.nd rfl (Or.inl rfl) (pe_make0 T.mk_Desk F_Desk_init (hr.mono (by decide)) (by rfl) T.c_Desk b_Desk_init .nil pass0))
        (pss_cons (ps_set (i := 2) sc_answers.nd rfl (Or.inl rfl) (pe_lst pa_nil))
        (pss_cons (ps_set (i := 3) sc_answers.nd rfl (Or.inl rfl) pe_int)
        (pss_cons (ps_while PassesOwn.never (pt_cmpR op_lt (pv 3) (pe_callB call_len_seq (by rfl) T.n_len (by decide +kernel) (pa_cons (pv 0) pa_nil)) (nomark _)) (pss_cons (ps_set (i := 4) sc_answers.nd rfl (Or.inl rfl) (pe_call F_read_call (hr.mono (by decide)) (by rfl) m_read_call kp_read_call b_read_call .nil pass0 (pa_cons (pv 0) (pa_cons (pv 3) pa_nil))))
        (pss_cons (ps_set (i := 5) sc_answers.nd rfl (Or.inl rfl) (pe_call F_answer_one (hr.mono (by decide)) (by rfl) m_answer_one kp_answer_one b_answer_one .nil pass0 (pa_cons (pv 1) (pa_cons (pv 4) pa_nil))))
        (pss_cons (ps_expr (pe_bm PySem.F.plainAttrs_list PySem.F.slot_list_append PySem.F.type_list_append mt_append (pv 2) (pa_cons (pe_callB call_len_seq (by rfl) T.n_len (by decide +kernel) (pa_cons (pv 5) pa_nil)) pa_nil)))
        (pss_cons (ps_expr (pe_bm PySem.F.plainAttrs_list PySem.F.slot_list_extend PySem.F.type_list_extend mt_extend (pv 2) (pa_cons (pv 5) pa_nil)))
        (pss_one (ps_set (i := 3) sc_answers.nd rfl (Or.inl rfl) (pe_fld (pv 4) rfl))))))))
        (pss_one (ps_ret (pv 2))))))), ?_⟩
    obtain ⟨a, ns, rfl, hS, hlen, hb, hask, k⟩ := h
    obtain ⟨cs, ens, hgood, eans, hsh⟩ := asked_is hb hask
    intro d dx nd ndx nne
    refine ⟨d, dx, rfl, upd_same, fun H1 ⟨dd, pa0, qa0, hd, hp0, hq0⟩ sb => ⟨rfl, ?_⟩⟩
    have s1 := made_same nd ndx sb
    refine ⟨by decide, fun t nt => ?_⟩
    have s2 : Same H1 (upd H1 t (.lst [])) := same_new nt
    refine ⟨fun m σ H' => ∃ (cs : List (List (List Int))) (g : Sq45.House) (tl : List Int) (place : Nat) (vc va : Option V), m = cs.length ∧ σ = [some (.ref a), some (.ref d), some (.ref t), some (.int (place : Int)), vc, va] ∧ place ≤ ns.length ∧ ns.drop place = PyFlat.put cs ∧
      (∀ c ∈ cs, Good c) ∧ HouseAt Z t H' d g ∧ SqL K H' a (ns.map V.int) ∧ H' t = some (.lst (tl.map V.int)) ∧ tl ++ PyFlat.told (PyFlat.played Sq45Neutral.step g cs) = PySq45.answers ns,
      ⟨cs.length, cs, Sq45.fresh, [], 0, none, none, rfl, rfl, Nat.zero_le _, ens, hgood, ⟨Same.desk s2 ⟨dd, pa0, qa0, hd, hp0.x nt, hq0.x nt⟩, none_ok, none_ok, (ne_of_none hd nt).symm, _, upd_same⟩, (s1.trans s2).seq hS, upd_same, by rw [eans]; rfl⟩, ?_⟩
    rintro m σ H2 ⟨cs, g, tl, place, vc, va, rfl, rfl, hpl, hdrop, hgood, hg, hS2, et, eq⟩
    refine ⟨_, rfl, _, rfl, a, _, rfl, .inl hS2, _, _, rfl, rfl, _, rfl, ifD (fun e => ?_) (fun e => ?_)⟩
    · rw [List.length_map] at e
      cases cs with
      | nil =>
        exfalso
        have := congrArg List.length hdrop
        rw [List.length_drop] at this
        have h0 : (PyFlat.put []).length = 0 := rfl
        omega
      | cons c cs =>
        obtain ⟨p, as, xs, rfl, hshape, hz, hx⟩ := (hgood c (List.mem_cons_self ..)).ex
        have hdrop2 : ns.drop place = (p :: as) ++ (PyFlat.putRows xs ++ PyFlat.put cs) := by
          rw [hdrop]
          exact List.append_assoc _ _ _
        have hL := drop_len_eq hpl hdrop2
        rw [List.length_append] at hL
        refine ⟨fun σ' H' => ∃ (g : Sq45.House) (tl : List Int) (place : Nat) (vc va : Option V), σ' = [some (.ref a), some (.ref d), some (.ref t), some (.int (place : Int)), vc, va] ∧ place ≤ ns.length ∧ ns.drop place = PyFlat.put cs ∧
          HouseAt Z t H' d g ∧ SqL K H' a (ns.map V.int) ∧ H' t = some (.lst (tl.map V.int)) ∧ tl ++ PyFlat.told (PyFlat.played Sq45Neutral.step g cs) = PySq45.answers ns, ?_, ?_⟩
        · rintro σ' H' ⟨g, tl, place, vc, va, h1, h2, h3, h4, h5, h6, h7⟩
          exact ⟨cs.length, by simp, cs, g, tl, place, vc, va, rfl, h1, h2, h3, fun c hc => hgood c (List.mem_cons_of_mem _ hc), h4, h5, h6, h7⟩
        refine ⟨_, rfl, _, rfl, a, ns, place, p, as, xs, PyFlat.put cs, rfl, hS2, hlen, hpl, hdrop2, hshape, fun H3 o b s3 hb3 hcall => ?_⟩
        replace hcall := hcall t ⟨_, et⟩
        refine ⟨_, rfl, _, rfl, t, d, o, p, as, xs, b, g, rfl, Same.house s3 hg, hcall, hshape, hz, hx, fun H4 q sb4 nq eq4 hg4 => ?_⟩
        obtain ⟨dd, pa, qa, hd3, _, _⟩ := (Same.house s3 hg).at_
        have ht3 := s3 _ _ et
        have ntd : t ≠ d := lst_ne ht3 hd3
        have ht4 := sb4 _ _ ht3 ntd
        have nqt : q ≠ t := (ne_of_none ht3 nq).symm
        obtain ⟨dc, na, ra, ras, hco, _, _, _, _⟩ := hcall
        have hco4 := sb4 _ _ hco (call_ne hco hd3)
        have not : t ≠ o := by
          intro e
          rw [e] at ht3
          rw [ht3] at hco
          cases hco
        have heq : tl ++ (((Sq45Neutral.step g ((p :: as) :: xs)).2.length : Int) :: ((Sq45Neutral.step g ((p :: as) :: xs)).2 ++ PyFlat.told (PyFlat.played Sq45Neutral.step (Sq45Neutral.step g ((p :: as) :: xs)).1 cs))) = PySq45.answers ns := eq
        have hsz := congrArg List.length heq
        rw [List.length_append, List.length_cons, List.length_append] at hsz
        have hbig : sizeLine = 16777216 := by decide
        refine ⟨_, rfl, .inl ⟨rfl, _, SqL.of ht4⟩, _, rfl, q, _, rfl, .inl (SqL.of eq4), t, _, _, rfl, rfl, ht4, by rw [List.length_map]; omega, ?_⟩
        have ht5 : upd H4 t (.lst (tl.map V.int ++ [.int (((Sq45Neutral.step g ((p :: as) :: xs)).2.map V.int).length : Int)])) t = some (.lst (tl.map V.int ++ [.int (((Sq45Neutral.step g ((p :: as) :: xs)).2.map V.int).length : Int)])) := upd_same
        refine ⟨_, rfl, .inl ⟨rfl, _, SqL.of ht5⟩, _, rfl, t, q, _, _, rfl, rfl, ht5, by rw [upd_ne nqt]; exact eq4, by rw [List.length_append, List.length_map, List.length_map, List.length_singleton]; omega, ?_⟩
        rw [upd_upd]
        refine ⟨_, rfl, o, _, dc, _, _, rfl, by rw [upd_ne not.symm]; exact hco4, T.cl_Call, T.na_Call_behind, callF_4 _ _ _ _, ?_⟩
        refine ⟨(Sq45Neutral.step g ((p :: as) :: xs)).1, tl ++ (((Sq45Neutral.step g ((p :: as) :: xs)).2.length : Int) :: (Sq45Neutral.step g ((p :: as) :: xs)).2), b, some (.ref o), some (.ref q), rfl, by omega, ?_, hg4.put ht4, ?_, ?_, ?_⟩
        · have hd6 := drop_more (x := (p :: as) ++ PyFlat.putRows xs) (t := PyFlat.put cs) (i := place) (by rw [hdrop2, List.append_assoc])
          rw [← hd6]
          congr 1
          rw [hb3, List.length_append]
          omega
        · have h6 := seq_but sb4 hd3 (s3.seq hS2)
          exact seq_upd (s1.seq hS) nt h6
        · rw [upd_same, List.map_append, List.append_assoc, List.length_map]
          rfl
        · rw [List.append_assoc]
          exact heq
    · rw [List.length_map] at e
      cases cs with
      | nil =>
        refine ⟨_, rfl, k H2 t ?_⟩
        rw [et, ← eq]
        exact congrArg (fun l => some (HO.lst (l.map V.int))) (List.append_nil tl).symm
      | cons c cs =>
        exfalso
        obtain ⟨p, as, xs, rfl, _⟩ := (hgood c (List.mem_cons_self ..)).ex
        have := congrArg List.length hdrop
        rw [List.length_drop] at this
        have h1 : (PyFlat.put (((p :: as) :: xs) :: cs)).length = ((p :: as) ++ PyFlat.putRows xs).length + (PyFlat.put cs).length := List.length_append
        rw [List.length_append, List.length_cons] at h1
        omega
end
end Tw

set_option Elab.async false
namespace Tw
open PySem PySem.Spec PyProof.Rows L2
theorem dn_mk {K : PySem.W.Frag} {h : Heap} {mg : Str → Option Value} (X : K.In h) (G : h.Ns mainGlobals mg) {x : Str} {st : Stmt} {ps : List Str} {f : Addr} {oc : Value} {od an : Option Addr} {osl : Array (Option Value)} {kV doc pm cdv ct : Value}
    (a : PySem.W.nsIn K mainGlobals x = some (some (.ref f))) (l : K.lookup f = some ⟨oc, od, .func (PySem.W.fnOf x x (defArgs st) (defBody st) (defScope st) .none kV doc pm an cdv ct), osl⟩) (c : PySem.W.codeIn K cdv x = true) (k : PySem.W.keepIn K (.ref f) = true)
    (b : ∀ (kV doc pm : Value) (an : Option Addr) (cdv ct : Value) (us : List Value), us.length = ps.length → bindArgs (PySem.W.fnOf x x (defArgs st) (defBody st) (defScope st) .none kV doc pm an cdv ct) ⟨us, []⟩ = pure (ps.zip us)) : Dn K mg x st ps :=
  ⟨f, _, fun_mk l c k, PySem.W.mg_of X G a, (fun_mk (st := st) l c k).binds b⟩
theorem dm_mk {K : PySem.W.Frag} {x qual : Str} {st : Stmt} {ps : List Str} {f : Addr} {oc : Value} {od an : Option Addr} {osl : Array (Option Value)} {kV doc pm cdv ct : Value}
    (l : K.lookup f = some ⟨oc, od, .func (PySem.W.fnOf x qual (defArgs st) (defBody st) (defScope st) .none kV doc pm an cdv ct), osl⟩) (c : PySem.W.codeIn K cdv qual = true) (k : PySem.W.keepIn K (.ref f) = true)
    (b : ∀ (kV doc pm : Value) (an : Option Addr) (cdv ct : Value) (us : List Value), us.length = ps.length → bindArgs (PySem.W.fnOf x qual (defArgs st) (defBody st) (defScope st) .none kV doc pm an cdv ct) ⟨us, []⟩ = pure (ps.zip us)) : Dm K x qual st ps f :=
  ⟨_, fun_mk l c k, (fun_mk (st := st) l c k).binds b⟩
/-- a class of the program's own as the head tells it -/
structure ClsF (K : PySem.W.Frag) (mg : Str → Option Value) (x : Str) (C f : Addr) : Prop where
  cl : Cls K C
  mkf : Mk K C f
  cg : mg x = some (.ref C)
theorem clsF_mk {K : PySem.W.Frag} {h : Heap} {mg : Str → Option Value} (X : K.In h) (G : h.Ns mainGlobals mg) {x : Str} {C f : Addr} (a : PySem.W.nsIn K mainGlobals x = some (some (.ref C)))
    (pg : PySem.W.plainGet K C Str.empty = true) (hd : PySem.W.hasDictIn K C = true) (po : PySem.W.plainOver K C = true) (sa : PySem.W.findIn K (.ref C) "__setattr__" = some (some (.builtin "object.__setattr__")))
    (mk : PySem.W.makesIn K C = true) (i : PySem.W.findIn K (.ref C) "__init__" = some (some (.ref f))) (fn : PySem.W.isFn K (.ref f) = true) (kc : PySem.W.keepIn K (.ref C) = true) : ClsF K mg x C f :=
  ⟨⟨pg, hd, po, sa⟩, ⟨mk, i, fn, kc⟩, PySem.W.mg_of X G a⟩
/-! ### written dicts and tuples -/
def keyOk (e : DictEntry) : Bool := match e.key with
  | .int i _ => e.hash == hashInt i
  | _ => false
theorem keys_ok {es : Array DictEntry} (h : es.toList.all keyOk = true) : ∀ e ∈ es, ∃ i t, e.key = .int i t ∧ e.hash = hashInt i := by
  intro e he
  have z := List.all_eq_true.mp h e (Array.mem_toList_iff.mpr he)
  unfold keyOk at z
  split at z
  · rename_i i t hk
    exact ⟨i, t, hk, by simpa using z⟩
  · cases z
/-- a written value that is an int or an object -/
def vOf : Value → Option V
  | .int i _ => some (.int i)
  | .ref a => some (.ref a)
  | _ => none
theorem vOf_rel {u : Value} {v : V} (h : vOf u = some v) : RelV v u := by
  cases u <;> first | (cases h; exact ⟨_, rfl⟩) | (cases h; exact rfl) | cases h
def getOf (es : Array DictEntry) (i : Int) : Option V := (findBy Value.isInt es i).bind vOf
theorem vals_any {es : Array DictEntry} (h : (es.toList.all fun e => (vOf e.val).isSome) = true) : ∀ i, RelO (getOf es i) (findBy Value.isInt es i) := by
  intro i
  unfold getOf
  cases e : findBy Value.isInt es i with
  | none => exact trivial
  | some u =>
    unfold findBy at e
    obtain ⟨d, hd, hu⟩ := Option.map_eq_some_iff.mp e
    have hm : d ∈ es := Array.mem_of_find?_eq_some hd
    have z := List.all_eq_true.mp h d (Array.mem_toList_iff.mpr hm)
    rw [hu] at z
    obtain ⟨v, hv⟩ := Option.isSome_iff_exists.mp z
    show RelO ((some u).bind vOf) (some u)
    rw [Option.bind_some, hv]
    exact vOf_rel hv
theorem get_none {es : Array DictEntry} {ks : List Int} (h : (es.toList.all fun e => match e.key with | .int k _ => ks.contains k | _ => false) = true) : ∀ i : Int, i ∉ ks → getOf es i = none := by
  intro i hi
  unfold getOf findBy
  cases e : es.find? (fun d => Value.isInt i d.key) with
  | none => rfl
  | some d =>
    exfalso
    have hm : d ∈ es := Array.mem_of_find?_eq_some e
    have z := List.all_eq_true.mp h d (Array.mem_toList_iff.mpr hm)
    have y := Array.find?_some e
    obtain ⟨t, ht⟩ := Value.isInt_shape y
    rw [ht] at z
    exact hi (by simpa using z)
/-- an int that is written -/
def iOf : Value → Option Int
  | .int i _ => some i
  | _ => none
theorem vals_iOf : ∀ {us : List Value} {vs : List Int}, us.map iOf = vs.map some → Vals (vs.map V.int) us
  | [], [], _ => .nil
  | [], _ :: _, h => by cases h
  | _ :: _, [], h => by cases h
  | u :: us, v :: vs, h => by
    rw [List.map_cons, List.map_cons] at h
    obtain ⟨h1, h2⟩ := List.cons.inj h
    refine .cons ?_ (vals_iOf h2)
    cases u <;> first | (cases h1; exact ⟨_, rfl⟩) | cases h1
inductive TupAll (K : PySem.W.Frag) (es : Array DictEntry) : List (Int × List Int) → Prop
  | nil : TupAll K es []
  | cons {k : Int} {vs : List Int} {ps : List (Int × List Int)} {b : Addr} {its : Array Value} {n : Nat} (g : getOf es k = some (.ref b)) (l : K.lookup b = some ⟨.type "tuple", none, .seq its n, #[]⟩) (v : its.toList.map iOf = vs.map some) (z : its.size ≤ 100) (r : TupAll K es ps) : TupAll K es ((k, vs) :: ps)
theorem TupAll.all {K : PySem.W.Frag} {es : Array DictEntry} : ∀ {ps : List (Int × List Int)}, TupAll K es ps → ∀ kv ∈ ps, ∃ b, getOf es kv.1 = some (.ref b) ∧ ∀ H, SqT K H b (kv.2.map V.int)
  | _, .nil, kv, h => by cases h
  | _, .cons g l v z r, kv, h => by
    rcases List.mem_cons.mp h with e | h
    · subst e
      exact ⟨_, g, fun H => .inr ⟨_, _, _, l, rfl, rfl, Nat.le_trans z (by decide), vals_iOf v⟩⟩
    · exact r.all kv h
theorem tdict_mk {K : PySem.W.Frag} {h : Heap} {mg : Str → Option Value} (X : K.In h) (G : h.Ns mainGlobals mg) {x : Str} {a : Addr} {es : Array DictEntry} {n : Nat} {ps : List (Int × List Int)} (ha : PySem.W.nsIn K mainGlobals x = some (some (.ref a)))
    (l : K.lookup a = some ⟨.type "dict", none, .dict es n, #[]⟩) (low : (a == sysModules) = false) (ks : es.toList.all keyOk = true) (vs : (es.toList.all fun e => (vOf e.val).isSome) = true) (t : TupAll K es ps) :
    ∃ a, mg x = some (.ref a) ∧ ∃ get, KIx K a get ∧ ∀ kv ∈ ps, ∃ b, get kv.1 = some (.ref b) ∧ ∀ H, SqT K H b (kv.2.map V.int) :=
  ⟨a, PySem.W.mg_of X G ha, getOf es, ⟨es, n, l, low, keys_ok ks, vals_any vs⟩, t.all⟩
theorem idict_mk {K : PySem.W.Frag} {h : Heap} {mg : Str → Option Value} (X : K.In h) (G : h.Ns mainGlobals mg) {x : Str} {a : Addr} {es : Array DictEntry} {n : Nat} {ps : List (Int × Int)} (ha : PySem.W.nsIn K mainGlobals x = some (some (.ref a)))
    (l : K.lookup a = some ⟨.type "dict", none, .dict es n, #[]⟩) (low : (a == sysModules) = false) (ks : es.toList.all keyOk = true) (vs : (es.toList.all fun e => (vOf e.val).isSome) = true) (t : (ps.all fun kv => decide (getOf es kv.1 = some (.int kv.2))) = true)
    (nn : (es.toList.all fun e => match e.key with | .int k _ => (ps.map Prod.fst).contains k | _ => false) = true) :
    ∃ a, mg x = some (.ref a) ∧ ∃ get, KIx K a get ∧ (∀ kv ∈ ps, get kv.1 = some (.int kv.2)) ∧ ∀ i : Int, i ∉ ps.map Prod.fst → get i = none :=
  ⟨a, PySem.W.mg_of X G ha, getOf es, ⟨es, n, l, low, keys_ok ks, vals_any vs⟩, fun kv hkv => of_decide_eq_true (List.all_eq_true.mp t kv hkv), get_none nn⟩
end Tw

set_option Elab.async false
set_option linter.all false
namespace Tw
open PySem PySem.Spec PyProof.Rows L2
theorem bd_rounded (kV doc pm : Value) (an : Option Addr) (cdv ct : Value) (us : List Value) (hl : us.length = p_rounded.length) : bindArgs (PySem.W.fnOf "rounded" "rounded" (defArgs s_rounded) (defBody s_rounded) (defScope s_rounded) .none kV doc pm an cdv ct) ⟨us, []⟩ = pure (p_rounded.zip us) :=
  match us, hl with | [_, _], _ => rfl
theorem bd_is_more (kV doc pm : Value) (an : Option Addr) (cdv ct : Value) (us : List Value) (hl : us.length = p_is_more.length) : bindArgs (PySem.W.fnOf "is_more" "is_more" (defArgs s_is_more) (defBody s_is_more) (defScope s_is_more) .none kV doc pm an cdv ct) ⟨us, []⟩ = pure (p_is_more.zip us) :=
  match us, hl with | [_, _], _ => rfl
theorem bd_mirrored (kV doc pm : Value) (an : Option Addr) (cdv ct : Value) (us : List Value) (hl : us.length = p_mirrored.length) : bindArgs (PySem.W.fnOf "mirrored" "mirrored" (defArgs s_mirrored) (defBody s_mirrored) (defScope s_mirrored) .none kV doc pm an cdv ct) ⟨us, []⟩ = pure (p_mirrored.zip us) :=
  match us, hl with | [_, _], _ => rfl
theorem bd_taken_place (kV doc pm : Value) (an : Option Addr) (cdv ct : Value) (us : List Value) (hl : us.length = p_taken_place.length) : bindArgs (PySem.W.fnOf "taken_place" "taken_place" (defArgs s_taken_place) (defBody s_taken_place) (defScope s_taken_place) .none kV doc pm an cdv ct) ⟨us, []⟩ = pure (p_taken_place.zip us) :=
  match us, hl with | [_, _, _], _ => rfl
theorem bd_taken_places (kV doc pm : Value) (an : Option Addr) (cdv ct : Value) (us : List Value) (hl : us.length = p_taken_places.length) : bindArgs (PySem.W.fnOf "taken_places" "taken_places" (defArgs s_taken_places) (defBody s_taken_places) (defScope s_taken_places) .none kV doc pm an cdv ct) ⟨us, []⟩ = pure (p_taken_places.zip us) :=
  match us, hl with | [_, _, _, _], _ => rfl
theorem bd_window_around (kV doc pm : Value) (an : Option Addr) (cdv ct : Value) (us : List Value) (hl : us.length = p_window_around.length) : bindArgs (PySem.W.fnOf "window_around" "window_around" (defArgs s_window_around) (defBody s_window_around) (defScope s_window_around) .none kV doc pm an cdv ct) ⟨us, []⟩ = pure (p_window_around.zip us) :=
  match us, hl with | [_, _, _, _, _], _ => rfl
theorem bd_all_windows (kV doc pm : Value) (an : Option Addr) (cdv ct : Value) (us : List Value) (hl : us.length = p_all_windows.length) : bindArgs (PySem.W.fnOf "all_windows" "all_windows" (defArgs s_all_windows) (defBody s_all_windows) (defScope s_all_windows) .none kV doc pm an cdv ct) ⟨us, []⟩ = pure (p_all_windows.zip us) :=
  match us, hl with | [_, _, _], _ => rfl
theorem bd_colours_there (kV doc pm : Value) (an : Option Addr) (cdv ct : Value) (us : List Value) (hl : us.length = p_colours_there.length) : bindArgs (PySem.W.fnOf "colours_there" "colours_there" (defArgs s_colours_there) (defBody s_colours_there) (defScope s_colours_there) .none kV doc pm an cdv ct) ⟨us, []⟩ = pure (p_colours_there.zip us) :=
  match us, hl with | [_], _ => rfl
theorem bd_mean_colour (kV doc pm : Value) (an : Option Addr) (cdv ct : Value) (us : List Value) (hl : us.length = p_mean_colour.length) : bindArgs (PySem.W.fnOf "mean_colour" "mean_colour" (defArgs s_mean_colour) (defBody s_mean_colour) (defScope s_mean_colour) .none kV doc pm an cdv ct) ⟨us, []⟩ = pure (p_mean_colour.zip us) :=
  match us, hl with | [_], _ => rfl
theorem bd_rank_colour (kV doc pm : Value) (an : Option Addr) (cdv ct : Value) (us : List Value) (hl : us.length = p_rank_colour.length) : bindArgs (PySem.W.fnOf "rank_colour" "rank_colour" (defArgs s_rank_colour) (defBody s_rank_colour) (defScope s_rank_colour) .none kV doc pm an cdv ct) ⟨us, []⟩ = pure (p_rank_colour.zip us) :=
  match us, hl with | [_, _, _], _ => rfl
theorem bd_weighed_colour (kV doc pm : Value) (an : Option Addr) (cdv ct : Value) (us : List Value) (hl : us.length = p_weighed_colour.length) : bindArgs (PySem.W.fnOf "weighed_colour" "weighed_colour" (defArgs s_weighed_colour) (defBody s_weighed_colour) (defScope s_weighed_colour) .none kV doc pm an cdv ct) ⟨us, []⟩ = pure (p_weighed_colour.zip us) :=
  match us, hl with | [_, _, _, _], _ => rfl
theorem bd_counts_up_to (kV doc pm : Value) (an : Option Addr) (cdv ct : Value) (us : List Value) (hl : us.length = p_counts_up_to.length) : bindArgs (PySem.W.fnOf "counts_up_to" "counts_up_to" (defArgs s_counts_up_to) (defBody s_counts_up_to) (defScope s_counts_up_to) .none kV doc pm an cdv ct) ⟨us, []⟩ = pure (p_counts_up_to.zip us) :=
  match us, hl with | [_], _ => rfl
theorem bd_made_even (kV doc pm : Value) (an : Option Addr) (cdv ct : Value) (us : List Value) (hl : us.length = p_made_even.length) : bindArgs (PySem.W.fnOf "made_even" "made_even" (defArgs s_made_even) (defBody s_made_even) (defScope s_made_even) .none kV doc pm an cdv ct) ⟨us, []⟩ = pure (p_made_even.zip us) :=
  match us, hl with | [_], _ => rfl
theorem bd_parted_at (kV doc pm : Value) (an : Option Addr) (cdv ct : Value) (us : List Value) (hl : us.length = p_parted_at.length) : bindArgs (PySem.W.fnOf "parted_at" "parted_at" (defArgs s_parted_at) (defBody s_parted_at) (defScope s_parted_at) .none kV doc pm an cdv ct) ⟨us, []⟩ = pure (p_parted_at.zip us) :=
  match us, hl with | [_, _], _ => rfl
theorem bd_spread_of (kV doc pm : Value) (an : Option Addr) (cdv ct : Value) (us : List Value) (hl : us.length = p_spread_of.length) : bindArgs (PySem.W.fnOf "spread_of" "spread_of" (defArgs s_spread_of) (defBody s_spread_of) (defScope s_spread_of) .none kV doc pm an cdv ct) ⟨us, []⟩ = pure (p_spread_of.zip us) :=
  match us, hl with | [_], _ => rfl
theorem bd_Picture_init (kV doc pm : Value) (an : Option Addr) (cdv ct : Value) (us : List Value) (hl : us.length = p_Picture_init.length) : bindArgs (PySem.W.fnOf "__init__" "Picture.__init__" (defArgs s_Picture_init) (defBody s_Picture_init) (defScope s_Picture_init) .none kV doc pm an cdv ct) ⟨us, []⟩ = pure (p_Picture_init.zip us) :=
  match us, hl with | [_, _, _, _], _ => rfl
theorem bd_Desk_init (kV doc pm : Value) (an : Option Addr) (cdv ct : Value) (us : List Value) (hl : us.length = p_Desk_init.length) : bindArgs (PySem.W.fnOf "__init__" "Desk.__init__" (defArgs s_Desk_init) (defBody s_Desk_init) (defScope s_Desk_init) .none kV doc pm an cdv ct) ⟨us, []⟩ = pure (p_Desk_init.zip us) :=
  match us, hl with | [_], _ => rfl
theorem bd_dark_pixel (kV doc pm : Value) (an : Option Addr) (cdv ct : Value) (us : List Value) (hl : us.length = p_dark_pixel.length) : bindArgs (PySem.W.fnOf "dark_pixel" "dark_pixel" (defArgs s_dark_pixel) (defBody s_dark_pixel) (defScope s_dark_pixel) .none kV doc pm an cdv ct) ⟨us, []⟩ = pure (p_dark_pixel.zip us) :=
  match us, hl with | [], _ => rfl
theorem bd_repaint (kV doc pm : Value) (an : Option Addr) (cdv ct : Value) (us : List Value) (hl : us.length = p_repaint.length) : bindArgs (PySem.W.fnOf "repaint" "repaint" (defArgs s_repaint) (defBody s_repaint) (defScope s_repaint) .none kV doc pm an cdv ct) ⟨us, []⟩ = pure (p_repaint.zip us) :=
  match us, hl with | [_, _], _ => rfl
theorem bd_row_of (kV doc pm : Value) (an : Option Addr) (cdv ct : Value) (us : List Value) (hl : us.length = p_row_of.length) : bindArgs (PySem.W.fnOf "row_of" "row_of" (defArgs s_row_of) (defBody s_row_of) (defScope s_row_of) .none kV doc pm an cdv ct) ⟨us, []⟩ = pure (p_row_of.zip us) :=
  match us, hl with | [_, _], _ => rfl
theorem bd_cut_out (kV doc pm : Value) (an : Option Addr) (cdv ct : Value) (us : List Value) (hl : us.length = p_cut_out.length) : bindArgs (PySem.W.fnOf "cut_out" "cut_out" (defArgs s_cut_out) (defBody s_cut_out) (defScope s_cut_out) .none kV doc pm an cdv ct) ⟨us, []⟩ = pure (p_cut_out.zip us) :=
  match us, hl with | [_, _, _, _, _], _ => rfl
theorem bd_shared_places (kV doc pm : Value) (an : Option Addr) (cdv ct : Value) (us : List Value) (hl : us.length = p_shared_places.length) : bindArgs (PySem.W.fnOf "shared_places" "shared_places" (defArgs s_shared_places) (defBody s_shared_places) (defScope s_shared_places) .none kV doc pm an cdv ct) ⟨us, []⟩ = pure (p_shared_places.zip us) :=
  match us, hl with | [_, _, _], _ => rfl
theorem bd_fit_at (kV doc pm : Value) (an : Option Addr) (cdv ct : Value) (us : List Value) (hl : us.length = p_fit_at.length) : bindArgs (PySem.W.fnOf "fit_at" "fit_at" (defArgs s_fit_at) (defBody s_fit_at) (defScope s_fit_at) .none kV doc pm an cdv ct) ⟨us, []⟩ = pure (p_fit_at.zip us) :=
  match us, hl with | [_, _, _, _], _ => rfl
theorem bd_is_too_large (kV doc pm : Value) (an : Option Addr) (cdv ct : Value) (us : List Value) (hl : us.length = p_is_too_large.length) : bindArgs (PySem.W.fnOf "is_too_large" "is_too_large" (defArgs s_is_too_large) (defBody s_is_too_large) (defScope s_is_too_large) .none kV doc pm an cdv ct) ⟨us, []⟩ = pure (p_is_too_large.zip us) :=
  match us, hl with | [_, _], _ => rfl
theorem bd_best_place (kV doc pm : Value) (an : Option Addr) (cdv ct : Value) (us : List Value) (hl : us.length = p_best_place.length) : bindArgs (PySem.W.fnOf "best_place" "best_place" (defArgs s_best_place) (defBody s_best_place) (defScope s_best_place) .none kV doc pm an cdv ct) ⟨us, []⟩ = pure (p_best_place.zip us) :=
  match us, hl with | [_, _], _ => rfl
theorem bd_best_shift (kV doc pm : Value) (an : Option Addr) (cdv ct : Value) (us : List Value) (hl : us.length = p_best_shift.length) : bindArgs (PySem.W.fnOf "best_shift" "best_shift" (defArgs s_best_shift) (defBody s_best_shift) (defScope s_best_shift) .none kV doc pm an cdv ct) ⟨us, []⟩ = pure (p_best_shift.zip us) :=
  match us, hl with | [_, _, _], _ => rfl
theorem bd_how_far_apart (kV doc pm : Value) (an : Option Addr) (cdv ct : Value) (us : List Value) (hl : us.length = p_how_far_apart.length) : bindArgs (PySem.W.fnOf "how_far_apart" "how_far_apart" (defArgs s_how_far_apart) (defBody s_how_far_apart) (defScope s_how_far_apart) .none kV doc pm an cdv ct) ⟨us, []⟩ = pure (p_how_far_apart.zip us) :=
  match us, hl with | [_, _], _ => rfl
theorem bd_best_parting (kV doc pm : Value) (an : Option Addr) (cdv ct : Value) (us : List Value) (hl : us.length = p_best_parting.length) : bindArgs (PySem.W.fnOf "best_parting" "best_parting" (defArgs s_best_parting) (defBody s_best_parting) (defScope s_best_parting) .none kV doc pm an cdv ct) ⟨us, []⟩ = pure (p_best_parting.zip us) :=
  match us, hl with | [_], _ => rfl
theorem bd_is_side (kV doc pm : Value) (an : Option Addr) (cdv ct : Value) (us : List Value) (hl : us.length = p_is_side.length) : bindArgs (PySem.W.fnOf "is_side" "is_side" (defArgs s_is_side) (defBody s_is_side) (defScope s_is_side) .none kV doc pm an cdv ct) ⟨us, []⟩ = pure (p_is_side.zip us) :=
  match us, hl with | [_], _ => rfl
theorem bd_picture_refusal (kV doc pm : Value) (an : Option Addr) (cdv ct : Value) (us : List Value) (hl : us.length = p_picture_refusal.length) : bindArgs (PySem.W.fnOf "picture_refusal" "picture_refusal" (defArgs s_picture_refusal) (defBody s_picture_refusal) (defScope s_picture_refusal) .none kV doc pm an cdv ct) ⟨us, []⟩ = pure (p_picture_refusal.zip us) :=
  match us, hl with | [_, _, _], _ => rfl
theorem bd_answer_begin (kV doc pm : Value) (an : Option Addr) (cdv ct : Value) (us : List Value) (hl : us.length = p_answer_begin.length) : bindArgs (PySem.W.fnOf "answer_begin" "answer_begin" (defArgs s_answer_begin) (defBody s_answer_begin) (defScope s_answer_begin) .none kV doc pm an cdv ct) ⟨us, []⟩ = pure (p_answer_begin.zip us) :=
  match us, hl with | [_, _, _, _], _ => rfl
theorem bd_answer_piece (kV doc pm : Value) (an : Option Addr) (cdv ct : Value) (us : List Value) (hl : us.length = p_answer_piece.length) : bindArgs (PySem.W.fnOf "answer_piece" "answer_piece" (defArgs s_answer_piece) (defBody s_answer_piece) (defScope s_answer_piece) .none kV doc pm an cdv ct) ⟨us, []⟩ = pure (p_answer_piece.zip us) :=
  match us, hl with | [_, _, _, _], _ => rfl
theorem bd_is_window (kV doc pm : Value) (an : Option Addr) (cdv ct : Value) (us : List Value) (hl : us.length = p_is_window.length) : bindArgs (PySem.W.fnOf "is_window" "is_window" (defArgs s_is_window) (defBody s_is_window) (defScope s_is_window) .none kV doc pm an cdv ct) ⟨us, []⟩ = pure (p_is_window.zip us) :=
  match us, hl with | [_, _], _ => rfl
theorem bd_answer_mean (kV doc pm : Value) (an : Option Addr) (cdv ct : Value) (us : List Value) (hl : us.length = p_answer_mean.length) : bindArgs (PySem.W.fnOf "answer_mean" "answer_mean" (defArgs s_answer_mean) (defBody s_answer_mean) (defScope s_answer_mean) .none kV doc pm an cdv ct) ⟨us, []⟩ = pure (p_answer_mean.zip us) :=
  match us, hl with | [_, _, _], _ => rfl
theorem bd_answer_rank (kV doc pm : Value) (an : Option Addr) (cdv ct : Value) (us : List Value) (hl : us.length = p_answer_rank.length) : bindArgs (PySem.W.fnOf "answer_rank" "answer_rank" (defArgs s_answer_rank) (defBody s_answer_rank) (defScope s_answer_rank) .none kV doc pm an cdv ct) ⟨us, []⟩ = pure (p_answer_rank.zip us) :=
  match us, hl with | [_, _, _, _, _], _ => rfl
theorem bd_weigh_refusal (kV doc pm : Value) (an : Option Addr) (cdv ct : Value) (us : List Value) (hl : us.length = p_weigh_refusal.length) : bindArgs (PySem.W.fnOf "weigh_refusal" "weigh_refusal" (defArgs s_weigh_refusal) (defBody s_weigh_refusal) (defScope s_weigh_refusal) .none kV doc pm an cdv ct) ⟨us, []⟩ = pure (p_weigh_refusal.zip us) :=
  match us, hl with | [_, _, _, _, _], _ => rfl
theorem bd_answer_weigh (kV doc pm : Value) (an : Option Addr) (cdv ct : Value) (us : List Value) (hl : us.length = p_answer_weigh.length) : bindArgs (PySem.W.fnOf "answer_weigh" "answer_weigh" (defArgs s_answer_weigh) (defBody s_answer_weigh) (defScope s_answer_weigh) .none kV doc pm an cdv ct) ⟨us, []⟩ = pure (p_answer_weigh.zip us) :=
  match us, hl with | [_, _, _, _, _, _, _], _ => rfl
theorem bd_answer_even (kV doc pm : Value) (an : Option Addr) (cdv ct : Value) (us : List Value) (hl : us.length = p_answer_even.length) : bindArgs (PySem.W.fnOf "answer_even" "answer_even" (defArgs s_answer_even) (defBody s_answer_even) (defScope s_answer_even) .none kV doc pm an cdv ct) ⟨us, []⟩ = pure (p_answer_even.zip us) :=
  match us, hl with | [_], _ => rfl
theorem bd_answer_parting (kV doc pm : Value) (an : Option Addr) (cdv ct : Value) (us : List Value) (hl : us.length = p_answer_parting.length) : bindArgs (PySem.W.fnOf "answer_parting" "answer_parting" (defArgs s_answer_parting) (defBody s_answer_parting) (defScope s_answer_parting) .none kV doc pm an cdv ct) ⟨us, []⟩ = pure (p_answer_parting.zip us) :=
  match us, hl with | [_], _ => rfl
theorem bd_answer_part (kV doc pm : Value) (an : Option Addr) (cdv ct : Value) (us : List Value) (hl : us.length = p_answer_part.length) : bindArgs (PySem.W.fnOf "answer_part" "answer_part" (defArgs s_answer_part) (defBody s_answer_part) (defScope s_answer_part) .none kV doc pm an cdv ct) ⟨us, []⟩ = pure (p_answer_part.zip us) :=
  match us, hl with | [_, _], _ => rfl
theorem bd_answer_find (kV doc pm : Value) (an : Option Addr) (cdv ct : Value) (us : List Value) (hl : us.length = p_answer_find.length) : bindArgs (PySem.W.fnOf "answer_find" "answer_find" (defArgs s_answer_find) (defBody s_answer_find) (defScope s_answer_find) .none kV doc pm an cdv ct) ⟨us, []⟩ = pure (p_answer_find.zip us) :=
  match us, hl with | [_], _ => rfl
theorem bd_answer_shift (kV doc pm : Value) (an : Option Addr) (cdv ct : Value) (us : List Value) (hl : us.length = p_answer_shift.length) : bindArgs (PySem.W.fnOf "answer_shift" "answer_shift" (defArgs s_answer_shift) (defBody s_answer_shift) (defScope s_answer_shift) .none kV doc pm an cdv ct) ⟨us, []⟩ = pure (p_answer_shift.zip us) :=
  match us, hl with | [_, _], _ => rfl
theorem bd_answer_row (kV doc pm : Value) (an : Option Addr) (cdv ct : Value) (us : List Value) (hl : us.length = p_answer_row.length) : bindArgs (PySem.W.fnOf "answer_row" "answer_row" (defArgs s_answer_row) (defBody s_answer_row) (defScope s_answer_row) .none kV doc pm an cdv ct) ⟨us, []⟩ = pure (p_answer_row.zip us) :=
  match us, hl with | [_, _], _ => rfl
theorem bd_answer_spread (kV doc pm : Value) (an : Option Addr) (cdv ct : Value) (us : List Value) (hl : us.length = p_answer_spread.length) : bindArgs (PySem.W.fnOf "answer_spread" "answer_spread" (defArgs s_answer_spread) (defBody s_answer_spread) (defScope s_answer_spread) .none kV doc pm an cdv ct) ⟨us, []⟩ = pure (p_answer_spread.zip us) :=
  match us, hl with | [_], _ => rfl
theorem bd_is_within (kV doc pm : Value) (an : Option Addr) (cdv ct : Value) (us : List Value) (hl : us.length = p_is_within.length) : bindArgs (PySem.W.fnOf "is_within" "is_within" (defArgs s_is_within) (defBody s_is_within) (defScope s_is_within) .none kV doc pm an cdv ct) ⟨us, []⟩ = pure (p_is_within.zip us) :=
  match us, hl with | [_, _, _, _, _], _ => rfl
theorem bd_answer_cut (kV doc pm : Value) (an : Option Addr) (cdv ct : Value) (us : List Value) (hl : us.length = p_answer_cut.length) : bindArgs (PySem.W.fnOf "answer_cut" "answer_cut" (defArgs s_answer_cut) (defBody s_answer_cut) (defScope s_answer_cut) .none kV doc pm an cdv ct) ⟨us, []⟩ = pure (p_answer_cut.zip us) :=
  match us, hl with | [_, _, _, _, _], _ => rfl
theorem bd_Call_init (kV doc pm : Value) (an : Option Addr) (cdv ct : Value) (us : List Value) (hl : us.length = p_Call_init.length) : bindArgs (PySem.W.fnOf "__init__" "Call.__init__" (defArgs s_Call_init) (defBody s_Call_init) (defScope s_Call_init) .none kV doc pm an cdv ct) ⟨us, []⟩ = pure (p_Call_init.zip us) :=
  match us, hl with | [_, _, _, _, _], _ => rfl
theorem bd_read_call (kV doc pm : Value) (an : Option Addr) (cdv ct : Value) (us : List Value) (hl : us.length = p_read_call.length) : bindArgs (PySem.W.fnOf "read_call" "read_call" (defArgs s_read_call) (defBody s_read_call) (defScope s_read_call) .none kV doc pm an cdv ct) ⟨us, []⟩ = pure (p_read_call.zip us) :=
  match us, hl with | [_, _], _ => rfl
theorem bd_answer_one (kV doc pm : Value) (an : Option Addr) (cdv ct : Value) (us : List Value) (hl : us.length = p_answer_one.length) : bindArgs (PySem.W.fnOf "answer_one" "answer_one" (defArgs s_answer_one) (defBody s_answer_one) (defScope s_answer_one) .none kV doc pm an cdv ct) ⟨us, []⟩ = pure (p_answer_one.zip us) :=
  match us, hl with | [_, _], _ => rfl
theorem bd_answers (kV doc pm : Value) (an : Option Addr) (cdv ct : Value) (us : List Value) (hl : us.length = p_answers.length) : bindArgs (PySem.W.fnOf "answers" "answers" (defArgs s_answers) (defBody s_answers) (defScope s_answers) .none kV doc pm an cdv ct) ⟨us, []⟩ = pure (p_answers.zip us) :=
  match us, hl with | [_], _ => rfl

theorem all_ok {P : Program} {w : World} {K : PySem.W.Frag} {mg : Str → Option Value} {Z : Adr} {fa : Addr} (hmg : mg "answers" = some (.ref fa)) (T : Txt K mg Z) (M_Picture : Dm K "__init__" "Picture.__init__" s_Picture_init p_Picture_init Z.f_Picture_init) (M_Desk : Dm K "__init__" "Desk.__init__" s_Desk_init p_Desk_init Z.f_Desk_init) (M_Call : Dm K "__init__" "Call.__init__" s_Call_init p_Call_init Z.f_Call_init) (D_rounded : Dn K mg "rounded" s_rounded p_rounded) (D_is_more : Dn K mg "is_more" s_is_more p_is_more) (D_mirrored : Dn K mg "mirrored" s_mirrored p_mirrored) (D_taken_place : Dn K mg "taken_place" s_taken_place p_taken_place) (D_taken_places : Dn K mg "taken_places" s_taken_places p_taken_places) (D_window_around : Dn K mg "window_around" s_window_around p_window_around) (D_all_windows : Dn K mg "all_windows" s_all_windows p_all_windows) (D_colours_there : Dn K mg "colours_there" s_colours_there p_colours_there) (D_mean_colour : Dn K mg "mean_colour" s_mean_colour p_mean_colour) (D_rank_colour : Dn K mg "rank_colour" s_rank_colour p_rank_colour) (D_weighed_colour : Dn K mg "weighed_colour" s_weighed_colour p_weighed_colour) (D_counts_up_to : Dn K mg "counts_up_to" s_counts_up_to p_counts_up_to) (D_made_even : Dn K mg "made_even" s_made_even p_made_even) (D_parted_at : Dn K mg "parted_at" s_parted_at p_parted_at) (D_spread_of : Dn K mg "spread_of" s_spread_of p_spread_of) (D_dark_pixel : Dn K mg "dark_pixel" s_dark_pixel p_dark_pixel) (D_repaint : Dn K mg "repaint" s_repaint p_repaint) (D_row_of : Dn K mg "row_of" s_row_of p_row_of) (D_cut_out : Dn K mg "cut_out" s_cut_out p_cut_out) (D_shared_places : Dn K mg "shared_places" s_shared_places p_shared_places) (D_fit_at : Dn K mg "fit_at" s_fit_at p_fit_at) (D_is_too_large : Dn K mg "is_too_large" s_is_too_large p_is_too_large) (D_best_place : Dn K mg "best_place" s_best_place p_best_place) (D_best_shift : Dn K mg "best_shift" s_best_shift p_best_shift) (D_how_far_apart : Dn K mg "how_far_apart" s_how_far_apart p_how_far_apart) (D_best_parting : Dn K mg "best_parting" s_best_parting p_best_parting) (D_is_side : Dn K mg "is_side" s_is_side p_is_side) (D_picture_refusal : Dn K mg "picture_refusal" s_picture_refusal p_picture_refusal) (D_answer_begin : Dn K mg "answer_begin" s_answer_begin p_answer_begin) (D_answer_piece : Dn K mg "answer_piece" s_answer_piece p_answer_piece) (D_is_window : Dn K mg "is_window" s_is_window p_is_window) (D_answer_mean : Dn K mg "answer_mean" s_answer_mean p_answer_mean) (D_answer_rank : Dn K mg "answer_rank" s_answer_rank p_answer_rank) (D_weigh_refusal : Dn K mg "weigh_refusal" s_weigh_refusal p_weigh_refusal) (D_answer_weigh : Dn K mg "answer_weigh" s_answer_weigh p_answer_weigh) (D_answer_even : Dn K mg "answer_even" s_answer_even p_answer_even) (D_answer_parting : Dn K mg "answer_parting" s_answer_parting p_answer_parting) (D_answer_part : Dn K mg "answer_part" s_answer_part p_answer_part) (D_answer_find : Dn K mg "answer_find" s_answer_find p_answer_find) (D_answer_shift : Dn K mg "answer_shift" s_answer_shift p_answer_shift) (D_answer_row : Dn K mg "answer_row" s_answer_row p_answer_row) (D_answer_spread : Dn K mg "answer_spread" s_answer_spread p_answer_spread) (D_is_within : Dn K mg "is_within" s_is_within p_is_within) (D_answer_cut : Dn K mg "answer_cut" s_answer_cut p_answer_cut) (D_read_call : Dn K mg "read_call" s_read_call p_read_call) (D_answer_one : Dn K mg "answer_one" s_answer_one p_answer_one) (D_answers : Dn K mg "answers" s_answers p_answers) :
    ∃ fd : FuncData, (∀ (s : Shared) (us : List Value), us.length = p_answers.length → BindsTo s fd ⟨us, []⟩ (p_answers.zip us)) ∧ ∀ base : Heap, K.In base → base.Ns mainGlobals mg → FnOk P w K mg base CX0 8 fa fd p_answers (sp_answers K Z) := by
  obtain ⟨f0, fd0, F0, g0, b0⟩ := D_answers
  have e := hmg.symm.trans g0
  cases e
  obtain ⟨oc, od, kV, doc, pm, an, cdv, ct, osl, e, lk, hcd⟩ := id F0.ex
  subst e
  refine ⟨_, fun s us hl => .of_eq (bd_answers kV doc pm an cdv ct us hl), fun base hK hN => ?_⟩
  have o_rounded := ok_rounded (P := P) (w := w) (base := base) T D_rounded
  have o_is_more := ok_is_more (P := P) (w := w) (base := base) T D_is_more
  have o_mirrored := ok_mirrored (P := P) (w := w) (base := base) T D_mirrored
  have o_taken_place := ok_taken_place (P := P) (w := w) (base := base) T o_mirrored D_taken_place
  have o_taken_places := ok_taken_places (P := P) (w := w) (base := base) T o_taken_place D_taken_places
  have o_window_around := ok_window_around (P := P) (w := w) (base := base) T o_taken_places D_window_around
  have o_all_windows := ok_all_windows (P := P) (w := w) (base := base) T o_window_around D_all_windows
  have o_colours_there := ok_colours_there (P := P) (w := w) (base := base) T D_colours_there
  have o_mean_colour := ok_mean_colour (P := P) (w := w) (base := base) T o_colours_there o_rounded D_mean_colour
  have o_rank_colour := ok_rank_colour (P := P) (w := w) (base := base) T o_colours_there D_rank_colour
  have o_weighed_colour := ok_weighed_colour (P := P) (w := w) (base := base) T o_rounded D_weighed_colour
  have o_counts_up_to := ok_counts_up_to (P := P) (w := w) (base := base) T D_counts_up_to
  have o_made_even := ok_made_even (P := P) (w := w) (base := base) T o_counts_up_to o_rounded D_made_even
  have o_parted_at := ok_parted_at (P := P) (w := w) (base := base) T D_parted_at
  have o_spread_of := ok_spread_of (P := P) (w := w) (base := base) T D_spread_of
  have o_Picture_init := ok_Picture_init (P := P) (w := w) (base := base) T M_Picture
  have o_dark_pixel := ok_dark_pixel (P := P) (w := w) (base := base) T o_Picture_init D_dark_pixel
  have o_Desk_init := ok_Desk_init (P := P) (w := w) (base := base) T o_dark_pixel M_Desk
  have o_repaint := ok_repaint (P := P) (w := w) (base := base) T o_Picture_init D_repaint
  have o_row_of := ok_row_of (P := P) (w := w) (base := base) T D_row_of
  have o_cut_out := ok_cut_out (P := P) (w := w) (base := base) T o_row_of o_Picture_init D_cut_out
  have o_shared_places := ok_shared_places (P := P) (w := w) (base := base) T D_shared_places
  have o_fit_at := ok_fit_at (P := P) (w := w) (base := base) T o_shared_places o_row_of D_fit_at
  have o_is_too_large := ok_is_too_large (P := P) (w := w) (base := base) T D_is_too_large
  have o_best_place := ok_best_place (P := P) (w := w) (base := base) T o_fit_at D_best_place
  have o_best_shift := ok_best_shift (P := P) (w := w) (base := base) T o_fit_at o_is_more D_best_shift
  have o_how_far_apart := ok_how_far_apart (P := P) (w := w) (base := base) T D_how_far_apart
  have o_best_parting := ok_best_parting (P := P) (w := w) (base := base) T o_how_far_apart o_is_more D_best_parting
  have o_is_side := ok_is_side (P := P) (w := w) (base := base) T D_is_side
  have o_picture_refusal := ok_picture_refusal (P := P) (w := w) (base := base) T o_is_side D_picture_refusal
  have o_answer_begin := ok_answer_begin (P := P) (w := w) (base := base) T o_picture_refusal o_dark_pixel o_Picture_init D_answer_begin
  have o_answer_piece := ok_answer_piece (P := P) (w := w) (base := base) T o_picture_refusal o_Picture_init D_answer_piece
  have o_is_window := ok_is_window (P := P) (w := w) (base := base) T D_is_window
  have o_answer_mean := ok_answer_mean (P := P) (w := w) (base := base) T o_is_window o_all_windows o_repaint o_mean_colour D_answer_mean
  have o_answer_rank := ok_answer_rank (P := P) (w := w) (base := base) T o_is_window o_all_windows o_repaint o_rank_colour D_answer_rank
  have o_weigh_refusal := ok_weigh_refusal (P := P) (w := w) (base := base) T D_weigh_refusal
  have o_answer_weigh := ok_answer_weigh (P := P) (w := w) (base := base) T o_weigh_refusal o_all_windows o_weighed_colour o_repaint D_answer_weigh
  have o_answer_even := ok_answer_even (P := P) (w := w) (base := base) T o_repaint o_made_even D_answer_even
  have o_answer_parting := ok_answer_parting (P := P) (w := w) (base := base) T o_best_parting o_how_far_apart D_answer_parting
  have o_answer_part := ok_answer_part (P := P) (w := w) (base := base) T o_repaint o_parted_at D_answer_part
  have o_answer_find := ok_answer_find (P := P) (w := w) (base := base) T o_is_too_large o_best_place D_answer_find
  have o_answer_shift := ok_answer_shift (P := P) (w := w) (base := base) T o_best_shift D_answer_shift
  have o_answer_row := ok_answer_row (P := P) (w := w) (base := base) T o_row_of D_answer_row
  have o_answer_spread := ok_answer_spread (P := P) (w := w) (base := base) T o_spread_of D_answer_spread
  have o_is_within := ok_is_within (P := P) (w := w) (base := base) T D_is_within
  have o_answer_cut := ok_answer_cut (P := P) (w := w) (base := base) T o_is_within o_cut_out D_answer_cut
  have o_Call_init := ok_Call_init (P := P) (w := w) (base := base) T M_Call
  have o_read_call := ok_read_call (P := P) (w := w) (base := base) T o_Call_init D_read_call
  have o_answer_one := ok_answer_one (P := P) (w := w) (base := base) T o_answer_begin o_answer_piece o_answer_mean o_answer_rank o_answer_weigh o_answer_even o_answer_parting o_answer_part o_answer_find o_answer_shift o_answer_row o_answer_spread o_answer_cut D_answer_one
  exact ok_answers (P := P) (w := w) (base := base) T o_read_call o_answer_one o_Desk_init F0

end Tw

set_option Elab.async false
open PySem PySem.W PyProof.Rows
set_option maxRecDepth 100000 in
set_option maxHeartbeats 8000000 in
theorem PySem.Challenge.cw_throughwindows_s01_answers_holds : PySem.Challenge.rw_throughwindows_s01_answers.Holds := by
  w_on; k_headS; (case hw => exact ⟨[.list [.int 6]], by decide +kernel, by decide +kernel⟩)
  k_fillS
  refine L2.walk_specK (r := PySem.Challenge.rw_throughwindows_s01_answers) (k := 8) (CX := L2.CX0) (ps := ["calls"]) (sp := Tw.spRow) (by decide +kernel) rfl rfl ⟨rfl, by decide, by decide⟩ (fun w h Y => PySem.W.kIn_of Y) ?F ?S (fun _ _ _ _ z => z)
  case F =>
    intro w mg fa h Y KX G hmg
    obtain ⟨c_Picture, f_Picture, K_Picture, M_Picture, n_Picture_w, n_Picture_h, n_Picture_colours⟩ : ∃ c f, Tw.ClsF (PySem.Challenge.cw_throughwindows_s01_answers_holds.heap_1 w.params) mg "Picture" c f ∧ Tw.Dm (PySem.Challenge.cw_throughwindows_s01_answers_holds.heap_1 w.params) "__init__" "Picture.__init__" Tw.s_Picture_init Tw.p_Picture_init f ∧ PySem.W.findIn (PySem.Challenge.cw_throughwindows_s01_answers_holds.heap_1 w.params) (.ref c) "w" = some none ∧ PySem.W.findIn (PySem.Challenge.cw_throughwindows_s01_answers_holds.heap_1 w.params) (.ref c) "h" = some none ∧ PySem.W.findIn (PySem.Challenge.cw_throughwindows_s01_answers_holds.heap_1 w.params) (.ref c) "colours" = some none := by
      refine' ⟨_, _, Tw.clsF_mk KX G ?a ?b ?c ?d ?e ?f ?g ?h ?i, Tw.dm_mk ?l ?m ?n Tw.bd_Picture_init, ?x0, ?x1, ?x2⟩
      (case a => k_is); (case b => k_is); (case c => k_is); (case d => k_is); (case e => k_is); (case f => k_is); (case g => k_is); (case h => k_is); (case i => k_is); (case l => k_is); (case m => k_is); (case n => k_is); (case x0 => k_is); (case x1 => k_is); (case x2 => k_is)
    obtain ⟨c_Desk, f_Desk, K_Desk, M_Desk, n_Desk_picture, n_Desk_piece⟩ : ∃ c f, Tw.ClsF (PySem.Challenge.cw_throughwindows_s01_answers_holds.heap_1 w.params) mg "Desk" c f ∧ Tw.Dm (PySem.Challenge.cw_throughwindows_s01_answers_holds.heap_1 w.params) "__init__" "Desk.__init__" Tw.s_Desk_init Tw.p_Desk_init f ∧ PySem.W.findIn (PySem.Challenge.cw_throughwindows_s01_answers_holds.heap_1 w.params) (.ref c) "picture" = some none ∧ PySem.W.findIn (PySem.Challenge.cw_throughwindows_s01_answers_holds.heap_1 w.params) (.ref c) "piece" = some none := by
      refine' ⟨_, _, Tw.clsF_mk KX G ?a ?b ?c ?d ?e ?f ?g ?h ?i, Tw.dm_mk ?l ?m ?n Tw.bd_Desk_init, ?x0, ?x1⟩
      (case a => k_is); (case b => k_is); (case c => k_is); (case d => k_is); (case e => k_is); (case f => k_is); (case g => k_is); (case h => k_is); (case i => k_is); (case l => k_is); (case m => k_is); (case n => k_is); (case x0 => k_is); (case x1 => k_is)
    obtain ⟨c_Call, f_Call, K_Call, M_Call, n_Call_number, n_Call_numbers, n_Call_rows, n_Call_behind⟩ : ∃ c f, Tw.ClsF (PySem.Challenge.cw_throughwindows_s01_answers_holds.heap_1 w.params) mg "Call" c f ∧ Tw.Dm (PySem.Challenge.cw_throughwindows_s01_answers_holds.heap_1 w.params) "__init__" "Call.__init__" Tw.s_Call_init Tw.p_Call_init f ∧ PySem.W.findIn (PySem.Challenge.cw_throughwindows_s01_answers_holds.heap_1 w.params) (.ref c) "number" = some none ∧ PySem.W.findIn (PySem.Challenge.cw_throughwindows_s01_answers_holds.heap_1 w.params) (.ref c) "numbers" = some none ∧ PySem.W.findIn (PySem.Challenge.cw_throughwindows_s01_answers_holds.heap_1 w.params) (.ref c) "rows" = some none ∧ PySem.W.findIn (PySem.Challenge.cw_throughwindows_s01_answers_holds.heap_1 w.params) (.ref c) "behind" = some none := by
      refine' ⟨_, _, Tw.clsF_mk KX G ?a ?b ?c ?d ?e ?f ?g ?h ?i, Tw.dm_mk ?l ?m ?n Tw.bd_Call_init, ?x0, ?x1, ?x2, ?x3⟩
      (case a => k_is); (case b => k_is); (case c => k_is); (case d => k_is); (case e => k_is); (case f => k_is); (case g => k_is); (case h => k_is); (case i => k_is); (case l => k_is); (case m => k_is); (case n => k_is); (case x0 => k_is); (case x1 => k_is); (case x2 => k_is); (case x3 => k_is)
    obtain ⟨a_REACHES, g_REACHES, k_REACHES⟩ : ∃ a, mg "REACHES" = some (.ref a) ∧ ∃ get, Tw.KIx (PySem.Challenge.cw_throughwindows_s01_answers_holds.heap_1 w.params) a get ∧ (∀ kv ∈ ([(1, 0), (9, 1), (25, 2)] : List (Int × Int)), get kv.1 = some (.int kv.2)) ∧ ∀ i : Int, i ∉ (([(1, 0), (9, 1), (25, 2)] : List (Int × Int))).map Prod.fst → get i = none := by
      refine' Tw.idict_mk KX G ?a ?l ?c ?d ?e ?f ?g
      (case a => k_is); (case l => k_is); (case c => rfl); (case d => decide +kernel); (case e => decide +kernel); (case f => decide +kernel); (case g => decide +kernel)
    obtain ⟨a_SHAPES, g_SHAPES, k_SHAPES⟩ : ∃ a, mg "SHAPES" = some (.ref a) ∧ ∃ get, Tw.KIx (PySem.Challenge.cw_throughwindows_s01_answers_holds.heap_1 w.params) a get ∧ ∀ kv ∈ ([(1, [2, 1]), (2, [2, 1]), (3, [2, 0]), (4, [4, 0]), (5, [4, 2]), (6, [0, 0]), (7, [0, 0]), (8, [1, 0]), (9, [0, 0]), (10, [1, 0]), (11, [1, 0]), (12, [0, 0]), (13, [4, 0])] : List (Int × List Int)), ∃ b, get kv.1 = some (.ref b) ∧ ∀ H, L2.SqT (PySem.Challenge.cw_throughwindows_s01_answers_holds.heap_1 w.params) H b (kv.2.map L2.V.int) := by
      refine' Tw.tdict_mk KX G ?a ?l ?c ?d ?e (.cons ?g1 ?t1 ?v1 ?z1 (.cons ?g2 ?t2 ?v2 ?z2 (.cons ?g3 ?t3 ?v3 ?z3 (.cons ?g4 ?t4 ?v4 ?z4 (.cons ?g5 ?t5 ?v5 ?z5 (.cons ?g6 ?t6 ?v6 ?z6 (.cons ?g7 ?t7 ?v7 ?z7 (.cons ?g8 ?t8 ?v8 ?z8 (.cons ?g9 ?t9 ?v9 ?z9 (.cons ?g10 ?t10 ?v10 ?z10 (.cons ?g11 ?t11 ?v11 ?z11 (.cons ?g12 ?t12 ?v12 ?z12 (.cons ?g13 ?t13 ?v13 ?z13 .nil)))))))))))))
      (case a => k_is); (case l => k_is); (case c => rfl); (case d => decide +kernel); (case e => decide +kernel)
      (case g1 => rfl); (case t1 => k_is); (case v1 => rfl); (case z1 => decide)
      (case g2 => rfl); (case t2 => k_is); (case v2 => rfl); (case z2 => decide)
      (case g3 => rfl); (case t3 => k_is); (case v3 => rfl); (case z3 => decide)
      (case g4 => rfl); (case t4 => k_is); (case v4 => rfl); (case z4 => decide)
      (case g5 => rfl); (case t5 => k_is); (case v5 => rfl); (case z5 => decide)
      (case g6 => rfl); (case t6 => k_is); (case v6 => rfl); (case z6 => decide)
      (case g7 => rfl); (case t7 => k_is); (case v7 => rfl); (case z7 => decide)
      (case g8 => rfl); (case t8 => k_is); (case v8 => rfl); (case z8 => decide)
      (case g9 => rfl); (case t9 => k_is); (case v9 => rfl); (case z9 => decide)
      (case g10 => rfl); (case t10 => k_is); (case v10 => rfl); (case z10 => decide)
      (case g11 => rfl); (case t11 => k_is); (case v11 => rfl); (case z11 => decide)
      (case g12 => rfl); (case t12 => k_is); (case v12 => rfl); (case z12 => decide)
      (case g13 => rfl); (case t13 => k_is); (case v13 => rfl); (case z13 => decide)
    have D_rounded : Tw.Dn (PySem.Challenge.cw_throughwindows_s01_answers_holds.heap_1 w.params) mg "rounded" Tw.s_rounded Tw.p_rounded := by
      refine' Tw.dn_mk KX G ?a ?l ?c ?k Tw.bd_rounded
      (case a => k_is); (case l => k_is); (case c => k_is); (case k => k_is)
    have D_is_more : Tw.Dn (PySem.Challenge.cw_throughwindows_s01_answers_holds.heap_1 w.params) mg "is_more" Tw.s_is_more Tw.p_is_more := by
      refine' Tw.dn_mk KX G ?a ?l ?c ?k Tw.bd_is_more
      (case a => k_is); (case l => k_is); (case c => k_is); (case k => k_is)
    have D_mirrored : Tw.Dn (PySem.Challenge.cw_throughwindows_s01_answers_holds.heap_1 w.params) mg "mirrored" Tw.s_mirrored Tw.p_mirrored := by
      refine' Tw.dn_mk KX G ?a ?l ?c ?k Tw.bd_mirrored
      (case a => k_is); (case l => k_is); (case c => k_is); (case k => k_is)
    have D_taken_place : Tw.Dn (PySem.Challenge.cw_throughwindows_s01_answers_holds.heap_1 w.params) mg "taken_place" Tw.s_taken_place Tw.p_taken_place := by
      refine' Tw.dn_mk KX G ?a ?l ?c ?k Tw.bd_taken_place
      (case a => k_is); (case l => k_is); (case c => k_is); (case k => k_is)
    have D_taken_places : Tw.Dn (PySem.Challenge.cw_throughwindows_s01_answers_holds.heap_1 w.params) mg "taken_places" Tw.s_taken_places Tw.p_taken_places := by
      refine' Tw.dn_mk KX G ?a ?l ?c ?k Tw.bd_taken_places
      (case a => k_is); (case l => k_is); (case c => k_is); (case k => k_is)
    have D_window_around : Tw.Dn (PySem.Challenge.cw_throughwindows_s01_answers_holds.heap_1 w.params) mg "window_around" Tw.s_window_around Tw.p_window_around := by
      refine' Tw.dn_mk KX G ?a ?l ?c ?k Tw.bd_window_around
      (case a => k_is); (case l => k_is); (case c => k_is); (case k => k_is)
    have D_all_windows : Tw.Dn (PySem.Challenge.cw_throughwindows_s01_answers_holds.heap_1 w.params) mg "all_windows" Tw.s_all_windows Tw.p_all_windows := by
      refine' Tw.dn_mk KX G ?a ?l ?c ?k Tw.bd_all_windows
      (case a => k_is); (case l => k_is); (case c => k_is); (case k => k_is)
    have D_colours_there : Tw.Dn (PySem.Challenge.cw_throughwindows_s01_answers_holds.heap_1 w.params) mg "colours_there" Tw.s_colours_there Tw.p_colours_there := by
      refine' Tw.dn_mk KX G ?a ?l ?c ?k Tw.bd_colours_there
      (case a => k_is); (case l => k_is); (case c => k_is); (case k => k_is)
    have D_mean_colour : Tw.Dn (PySem.Challenge.cw_throughwindows_s01_answers_holds.heap_1 w.params) mg "mean_colour" Tw.s_mean_colour Tw.p_mean_colour := by
      refine' Tw.dn_mk KX G ?a ?l ?c ?k Tw.bd_mean_colour
      (case a => k_is); (case l => k_is); (case c => k_is); (case k => k_is)
    have D_rank_colour : Tw.Dn (PySem.Challenge.cw_throughwindows_s01_answers_holds.heap_1 w.params) mg "rank_colour" Tw.s_rank_colour Tw.p_rank_colour := by
      refine' Tw.dn_mk KX G ?a ?l ?c ?k Tw.bd_rank_colour
      (case a => k_is); (case l => k_is); (case c => k_is); (case k => k_is)
    have D_weighed_colour : Tw.Dn (PySem.Challenge.cw_throughwindows_s01_answers_holds.heap_1 w.params) mg "weighed_colour" Tw.s_weighed_colour Tw.p_weighed_colour := by
      refine' Tw.dn_mk KX G ?a ?l ?c ?k Tw.bd_weighed_colour
      (case a => k_is); (case l => k_is); (case c => k_is); (case k => k_is)
    have D_counts_up_to : Tw.Dn (PySem.Challenge.cw_throughwindows_s01_answers_holds.heap_1 w.params) mg "counts_up_to" Tw.s_counts_up_to Tw.p_counts_up_to := by
      refine' Tw.dn_mk KX G ?a ?l ?c ?k Tw.bd_counts_up_to
      (case a => k_is); (case l => k_is); (case c => k_is); (case k => k_is)
    have D_made_even : Tw.Dn (PySem.Challenge.cw_throughwindows_s01_answers_holds.heap_1 w.params) mg "made_even" Tw.s_made_even Tw.p_made_even := by
      refine' Tw.dn_mk KX G ?a ?l ?c ?k Tw.bd_made_even
      (case a => k_is); (case l => k_is); (case c => k_is); (case k => k_is)
    have D_parted_at : Tw.Dn (PySem.Challenge.cw_throughwindows_s01_answers_holds.heap_1 w.params) mg "parted_at" Tw.s_parted_at Tw.p_parted_at := by
      refine' Tw.dn_mk KX G ?a ?l ?c ?k Tw.bd_parted_at
      (case a => k_is); (case l => k_is); (case c => k_is); (case k => k_is)
    have D_spread_of : Tw.Dn (PySem.Challenge.cw_throughwindows_s01_answers_holds.heap_1 w.params) mg "spread_of" Tw.s_spread_of Tw.p_spread_of := by
      refine' Tw.dn_mk KX G ?a ?l ?c ?k Tw.bd_spread_of
      (case a => k_is); (case l => k_is); (case c => k_is); (case k => k_is)
    have D_dark_pixel : Tw.Dn (PySem.Challenge.cw_throughwindows_s01_answers_holds.heap_1 w.params) mg "dark_pixel" Tw.s_dark_pixel Tw.p_dark_pixel := by
      refine' Tw.dn_mk KX G ?a ?l ?c ?k Tw.bd_dark_pixel
      (case a => k_is); (case l => k_is); (case c => k_is); (case k => k_is)
    have D_repaint : Tw.Dn (PySem.Challenge.cw_throughwindows_s01_answers_holds.heap_1 w.params) mg "repaint" Tw.s_repaint Tw.p_repaint := by
      refine' Tw.dn_mk KX G ?a ?l ?c ?k Tw.bd_repaint
      (case a => k_is); (case l => k_is); (case c => k_is); (case k => k_is)
    have D_row_of : Tw.Dn (PySem.Challenge.cw_throughwindows_s01_answers_holds.heap_1 w.params) mg "row_of" Tw.s_row_of Tw.p_row_of := by
      refine' Tw.dn_mk KX G ?a ?l ?c ?k Tw.bd_row_of
      (case a => k_is); (case l => k_is); (case c => k_is); (case k => k_is)
    have D_cut_out : Tw.Dn (PySem.Challenge.cw_throughwindows_s01_answers_holds.heap_1 w.params) mg "cut_out" Tw.s_cut_out Tw.p_cut_out := by
      refine' Tw.dn_mk KX G ?a ?l ?c ?k Tw.bd_cut_out
      (case a => k_is); (case l => k_is); (case c => k_is); (case k => k_is)
    have D_shared_places : Tw.Dn (PySem.Challenge.cw_throughwindows_s01_answers_holds.heap_1 w.params) mg "shared_places" Tw.s_shared_places Tw.p_shared_places := by
      refine' Tw.dn_mk KX G ?a ?l ?c ?k Tw.bd_shared_places
      (case a => k_is); (case l => k_is); (case c => k_is); (case k => k_is)
    have D_fit_at : Tw.Dn (PySem.Challenge.cw_throughwindows_s01_answers_holds.heap_1 w.params) mg "fit_at" Tw.s_fit_at Tw.p_fit_at := by
      refine' Tw.dn_mk KX G ?a ?l ?c ?k Tw.bd_fit_at
      (case a => k_is); (case l => k_is); (case c => k_is); (case k => k_is)
    have D_is_too_large : Tw.Dn (PySem.Challenge.cw_throughwindows_s01_answers_holds.heap_1 w.params) mg "is_too_large" Tw.s_is_too_large Tw.p_is_too_large := by
      refine' Tw.dn_mk KX G ?a ?l ?c ?k Tw.bd_is_too_large
      (case a => k_is); (case l => k_is); (case c => k_is); (case k => k_is)
    have D_best_place : Tw.Dn (PySem.Challenge.cw_throughwindows_s01_answers_holds.heap_1 w.params) mg "best_place" Tw.s_best_place Tw.p_best_place := by
      refine' Tw.dn_mk KX G ?a ?l ?c ?k Tw.bd_best_place
      (case a => k_is); (case l => k_is); (case c => k_is); (case k => k_is)
    have D_best_shift : Tw.Dn (PySem.Challenge.cw_throughwindows_s01_answers_holds.heap_1 w.params) mg "best_shift" Tw.s_best_shift Tw.p_best_shift := by
      refine' Tw.dn_mk KX G ?a ?l ?c ?k Tw.bd_best_shift
      (case a => k_is); (case l => k_is); (case c => k_is); (case k => k_is)
    have D_how_far_apart : Tw.Dn (PySem.Challenge.cw_throughwindows_s01_answers_holds.heap_1 w.params) mg "how_far_apart" Tw.s_how_far_apart Tw.p_how_far_apart := by
      refine' Tw.dn_mk KX G ?a ?l ?c ?k Tw.bd_how_far_apart
      (case a => k_is); (case l => k_is); (case c => k_is); (case k => k_is)
    have D_best_parting : Tw.Dn (PySem.Challenge.cw_throughwindows_s01_answers_holds.heap_1 w.params) mg "best_parting" Tw.s_best_parting Tw.p_best_parting := by
      refine' Tw.dn_mk KX G ?a ?l ?c ?k Tw.bd_best_parting
      (case a => k_is); (case l => k_is); (case c => k_is); (case k => k_is)
    have D_is_side : Tw.Dn (PySem.Challenge.cw_throughwindows_s01_answers_holds.heap_1 w.params) mg "is_side" Tw.s_is_side Tw.p_is_side := by
      refine' Tw.dn_mk KX G ?a ?l ?c ?k Tw.bd_is_side
      (case a => k_is); (case l => k_is); (case c => k_is); (case k => k_is)
    have D_picture_refusal : Tw.Dn (PySem.Challenge.cw_throughwindows_s01_answers_holds.heap_1 w.params) mg "picture_refusal" Tw.s_picture_refusal Tw.p_picture_refusal := by
      refine' Tw.dn_mk KX G ?a ?l ?c ?k Tw.bd_picture_refusal
      (case a => k_is); (case l => k_is); (case c => k_is); (case k => k_is)
    have D_answer_begin : Tw.Dn (PySem.Challenge.cw_throughwindows_s01_answers_holds.heap_1 w.params) mg "answer_begin" Tw.s_answer_begin Tw.p_answer_begin := by
      refine' Tw.dn_mk KX G ?a ?l ?c ?k Tw.bd_answer_begin
      (case a => k_is); (case l => k_is); (case c => k_is); (case k => k_is)
    have D_answer_piece : Tw.Dn (PySem.Challenge.cw_throughwindows_s01_answers_holds.heap_1 w.params) mg "answer_piece" Tw.s_answer_piece Tw.p_answer_piece := by
      refine' Tw.dn_mk KX G ?a ?l ?c ?k Tw.bd_answer_piece
      (case a => k_is); (case l => k_is); (case c => k_is); (case k => k_is)
    have D_is_window : Tw.Dn (PySem.Challenge.cw_throughwindows_s01_answers_holds.heap_1 w.params) mg "is_window" Tw.s_is_window Tw.p_is_window := by
      refine' Tw.dn_mk KX G ?a ?l ?c ?k Tw.bd_is_window
      (case a => k_is); (case l => k_is); (case c => k_is); (case k => k_is)
    have D_answer_mean : Tw.Dn (PySem.Challenge.cw_throughwindows_s01_answers_holds.heap_1 w.params) mg "answer_mean" Tw.s_answer_mean Tw.p_answer_mean := by
      refine' Tw.dn_mk KX G ?a ?l ?c ?k Tw.bd_answer_mean
      (case a => k_is); (case l => k_is); (case c => k_is); (case k => k_is)
    have D_answer_rank : Tw.Dn (PySem.Challenge.cw_throughwindows_s01_answers_holds.heap_1 w.params) mg "answer_rank" Tw.s_answer_rank Tw.p_answer_rank := by
      refine' Tw.dn_mk KX G ?a ?l ?c ?k Tw.bd_answer_rank
      (case a => k_is); (case l => k_is); (case c => k_is); (case k => k_is)
    have D_weigh_refusal : Tw.Dn (PySem.Challenge.cw_throughwindows_s01_answers_holds.heap_1 w.params) mg "weigh_refusal" Tw.s_weigh_refusal Tw.p_weigh_refusal := by
      refine' Tw.dn_mk KX G ?a ?l ?c ?k Tw.bd_weigh_refusal
      (case a => k_is); (case l => k_is); (case c => k_is); (case k => k_is)
    have D_answer_weigh : Tw.Dn (PySem.Challenge.cw_throughwindows_s01_answers_holds.heap_1 w.params) mg "answer_weigh" Tw.s_answer_weigh Tw.p_answer_weigh := by
      refine' Tw.dn_mk KX G ?a ?l ?c ?k Tw.bd_answer_weigh
      (case a => k_is); (case l => k_is); (case c => k_is); (case k => k_is)
    have D_answer_even : Tw.Dn (PySem.Challenge.cw_throughwindows_s01_answers_holds.heap_1 w.params) mg "answer_even" Tw.s_answer_even Tw.p_answer_even := by
      refine' Tw.dn_mk KX G ?a ?l ?c ?k Tw.bd_answer_even
      (case a => k_is); (case l => k_is); (case c => k_is); (case k => k_is)
    have D_answer_parting : Tw.Dn (PySem.Challenge.cw_throughwindows_s01_answers_holds.heap_1 w.params) mg "answer_parting" Tw.s_answer_parting Tw.p_answer_parting := by
      refine' Tw.dn_mk KX G ?a ?l ?c ?k Tw.bd_answer_parting
      (case a => k_is); (case l => k_is); (case c => k_is); (case k => k_is)
    have D_answer_part : Tw.Dn (PySem.Challenge.cw_throughwindows_s01_answers_holds.heap_1 w.params) mg "answer_part" Tw.s_answer_part Tw.p_answer_part := by
      refine' Tw.dn_mk KX G ?a ?l ?c ?k Tw.bd_answer_part
      (case a => k_is); (case l => k_is); (case c => k_is); (case k => k_is)
    have D_answer_find : Tw.Dn (PySem.Challenge.cw_throughwindows_s01_answers_holds.heap_1 w.params) mg "answer_find" Tw.s_answer_find Tw.p_answer_find := by
      refine' Tw.dn_mk KX G ?a ?l ?c ?k Tw.bd_answer_find
      (case a => k_is); (case l => k_is); (case c => k_is); (case k => k_is)
    have D_answer_shift : Tw.Dn (PySem.Challenge.cw_throughwindows_s01_answers_holds.heap_1 w.params) mg "answer_shift" Tw.s_answer_shift Tw.p_answer_shift := by
      refine' Tw.dn_mk KX G ?a ?l ?c ?k Tw.bd_answer_shift
      (case a => k_is); (case l => k_is); (case c => k_is); (case k => k_is)
    have D_answer_row : Tw.Dn (PySem.Challenge.cw_throughwindows_s01_answers_holds.heap_1 w.params) mg "answer_row" Tw.s_answer_row Tw.p_answer_row := by
      refine' Tw.dn_mk KX G ?a ?l ?c ?k Tw.bd_answer_row
      (case a => k_is); (case l => k_is); (case c => k_is); (case k => k_is)
    have D_answer_spread : Tw.Dn (PySem.Challenge.cw_throughwindows_s01_answers_holds.heap_1 w.params) mg "answer_spread" Tw.s_answer_spread Tw.p_answer_spread := by
      refine' Tw.dn_mk KX G ?a ?l ?c ?k Tw.bd_answer_spread
      (case a => k_is); (case l => k_is); (case c => k_is); (case k => k_is)
    have D_is_within : Tw.Dn (PySem.Challenge.cw_throughwindows_s01_answers_holds.heap_1 w.params) mg "is_within" Tw.s_is_within Tw.p_is_within := by
      refine' Tw.dn_mk KX G ?a ?l ?c ?k Tw.bd_is_within
      (case a => k_is); (case l => k_is); (case c => k_is); (case k => k_is)
    have D_answer_cut : Tw.Dn (PySem.Challenge.cw_throughwindows_s01_answers_holds.heap_1 w.params) mg "answer_cut" Tw.s_answer_cut Tw.p_answer_cut := by
      refine' Tw.dn_mk KX G ?a ?l ?c ?k Tw.bd_answer_cut
      (case a => k_is); (case l => k_is); (case c => k_is); (case k => k_is)
    have D_read_call : Tw.Dn (PySem.Challenge.cw_throughwindows_s01_answers_holds.heap_1 w.params) mg "read_call" Tw.s_read_call Tw.p_read_call := by
      refine' Tw.dn_mk KX G ?a ?l ?c ?k Tw.bd_read_call
      (case a => k_is); (case l => k_is); (case c => k_is); (case k => k_is)
    have D_answer_one : Tw.Dn (PySem.Challenge.cw_throughwindows_s01_answers_holds.heap_1 w.params) mg "answer_one" Tw.s_answer_one Tw.p_answer_one := by
      refine' Tw.dn_mk KX G ?a ?l ?c ?k Tw.bd_answer_one
      (case a => k_is); (case l => k_is); (case c => k_is); (case k => k_is)
    have D_answers : Tw.Dn (PySem.Challenge.cw_throughwindows_s01_answers_holds.heap_1 w.params) mg "answers" Tw.s_answers Tw.p_answers := by
      refine' Tw.dn_mk KX G ?a ?l ?c ?k Tw.bd_answers
      (case a => k_is); (case l => k_is); (case c => k_is); (case k => k_is)
    have n_max : mg "max" = none := by
      refine' PySem.W.mg_none_of KX G ?a
      (case a => k_is)
    have n_min : mg "min" = none := by
      refine' PySem.W.mg_none_of KX G ?a
      (case a => k_is)
    have n_range : mg "range" = none := by
      refine' PySem.W.mg_none_of KX G ?a
      (case a => k_is)
    have n_sum : mg "sum" = none := by
      refine' PySem.W.mg_none_of KX G ?a
      (case a => k_is)
    have n_len : mg "len" = none := by
      refine' PySem.W.mg_none_of KX G ?a
      (case a => k_is)
    have n_sorted : mg "sorted" = none := by
      refine' PySem.W.mg_none_of KX G ?a
      (case a => k_is)
    have n_zip : mg "zip" = none := by
      refine' PySem.W.mg_none_of KX G ?a
      (case a => k_is)
    have n_list : mg "list" = none := by
      refine' PySem.W.mg_none_of KX G ?a
      (case a => k_is)
    have n_set : mg "set" = none := by
      refine' PySem.W.mg_none_of KX G ?a
      (case a => k_is)
    have T : Tw.Txt (PySem.Challenge.cw_throughwindows_s01_answers_holds.heap_1 w.params) mg { Picture := c_Picture, f_Picture_init := f_Picture, Desk := c_Desk, f_Desk_init := f_Desk, Call := c_Call, f_Call_init := f_Call, REACHES := a_REACHES, SHAPES := a_SHAPES } := { n_max := n_max, n_min := n_min, n_range := n_range, n_sum := n_sum, n_len := n_len, n_sorted := n_sorted, n_zip := n_zip, n_list := n_list, n_set := n_set, cl_Picture := K_Picture.cl, mk_Picture := K_Picture.mkf, c_Picture := K_Picture.cg, na_Picture_w := n_Picture_w, na_Picture_h := n_Picture_h, na_Picture_colours := n_Picture_colours, cl_Desk := K_Desk.cl, mk_Desk := K_Desk.mkf, c_Desk := K_Desk.cg, na_Desk_picture := n_Desk_picture, na_Desk_piece := n_Desk_piece, cl_Call := K_Call.cl, mk_Call := K_Call.mkf, c_Call := K_Call.cg, na_Call_number := n_Call_number, na_Call_numbers := n_Call_numbers, na_Call_rows := n_Call_rows, na_Call_behind := n_Call_behind, g_REACHES := g_REACHES, k_REACHES := k_REACHES, g_SHAPES := g_SHAPES, k_SHAPES := k_SHAPES }
    exact Tw.all_ok hmg T M_Picture M_Desk M_Call D_rounded D_is_more D_mirrored D_taken_place D_taken_places D_window_around D_all_windows D_colours_there D_mean_colour D_rank_colour D_weighed_colour D_counts_up_to D_made_even D_parted_at D_spread_of D_dark_pixel D_repaint D_row_of D_cut_out D_shared_places D_fit_at D_is_too_large D_best_place D_best_shift D_how_far_apart D_best_parting D_is_side D_picture_refusal D_answer_begin D_answer_piece D_is_window D_answer_mean D_answer_rank D_weigh_refusal D_answer_weigh D_answer_even D_answer_parting D_answer_part D_answer_find D_answer_shift D_answer_row D_answer_spread D_is_within D_answer_cut D_read_call D_answer_one D_answers

  case S =>
    intro K H xs a hO hwi hask hx
    cases hx with
    | cons h1 h2 =>
      cases h2
      cases h1 with
      | lst hs ha =>
        have e := L2.ints_dw a.1 _ ha
        subst e
        have q : ((Codec.inLen 0 16000 a.1 && a.1.all (Codec.inInt 0 18446744073709551615)) && true) = true := hwi
        rw [Bool.and_eq_true, Bool.and_eq_true] at q
        refine ⟨_, a.1, rfl, hs, (Codec.inNat_iff.mp q.1.1).2, fun z hz => ?_, hask, fun H' p hp => .lst (L2.SqL.of hp) (L2.dw_ints _)⟩
        have y := Codec.inInt_iff.mp (List.all_eq_true.mp q.1.2 z hz)
        omega
#print axioms PySem.Challenge.cw_throughwindows_s01_answers_holds

