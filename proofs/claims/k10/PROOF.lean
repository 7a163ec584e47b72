import PyProof.Rows.All
import Wide.All
import OpenK.AllK
import Wide.FinOn
import HandS.ForMost
import HandS.Exc
import HandS.TryOnly
import HandS.ExcOwn
import HandS.WordsExc
import HandS.IsInst
import HandS.ExcInit
import HandS.DeepEq
import HandS.Evl
import HandS.Walk
import HandS.Text
import HandS.Iter
import HandS.Rev
import HandS.CallLocal
import HandS.RevRange
import KE.KDictPairs
import HandS.TupAny
import HandS.Steps
import HandS.Replace
import HandS.List
import PySem.Challenge.RW_usecounts_k10_whole_texts_there_and_back
set_option Elab.async false
set_option maxRecDepth 100000
namespace LG
open PySem L2
def top (i : Nat) : Stmt := PySem.Challenge.pw_usecounts_k10_whole_texts_there_and_back.main.body.getD i (.Pass ⟨0, 0, 0, 0⟩)
abbrev sHand : Stmt := top 39
abbrev sDraw : Stmt := top 40
abbrev sSome : Stmt := top 41

theorem yes_kept {A B : Hp → Prop} {σ : St} {H : Hp} (h : A H) : tYes σ H (fun b H3 => if b = true then A H3 else B H3) := by
  show (if true = true then A H else B H)
  rw [if_pos rfl]
  exact h
/-- the builtins that the text leaves alone -/
structure TxB (mg : Str → Option Value) : Prop where
  abs : mg "abs" = none
  int : mg "int" = none
  len : mg "len" = none
  isinstance : mg "isinstance" = none
  all : mg "all" = none
  range : mg "range" = none

/-- the hand of draws -/
structure HandAt (H : Hp) (p c : Addr) (cells : List Int) : Prop where
  ob : ∃ i z s n : Int, 0 ≤ i ∧ H p = some (.lst [.ref c, .int i, .int z, .int s, .int n])
  cl : H c = some (.lst (cells.map V.int))
theorem HandAt.ne {H : Hp} {p c : Addr} {cells : List Int} (h : HandAt H p c cells) : p ≠ c := by
  obtain ⟨⟨i, z, s, n, _, e⟩, k⟩ := h
  refine ne_of e k (fun z => ?_)
  cases cells with
  | nil => cases z
  | cons a l => cases z
theorem HandAt.put {H : Hp} {p c : Addr} {cells : List Int} (h : HandAt H p c cells) {i z s n : Int} (hi : 0 ≤ i) : HandAt (upd H p (.lst [.ref c, .int i, .int z, .int s, .int n])) p c cells :=
  ⟨⟨i, z, s, n, hi, upd_same⟩, by rw [upd_ne h.ne.symm]; exact h.cl⟩
theorem HandAt.keep {H H' : Hp} {p c : Addr} {cells : List Int} (h : HandAt H p c cells) (k : ∀ b, b ≠ p → H' b = H b) (e : H' p = H p) : HandAt H' p c cells := by
  obtain ⟨⟨i, z, s, n, hi, q⟩, l⟩ := id h
  exact ⟨⟨i, z, s, n, hi, by rw [e]; exact q⟩, by rw [k c h.ne.symm]; exact l⟩

def spHand (K : PySem.W.Frag) : Sp := fun vs H Q _ => ∃ (a : Addr) (ns : List Int), vs = [.ref a] ∧ SqL K H a (ns.map V.int) ∧ ns.length ≤ 1000 ∧
  ∀ (p c : Addr) (cells : List Int) (H' : Hp), Same H H' → H p = none → HandAt H' p c cells → Q (.ref p) H'
/-- a draw: some number below -/
def spDraw : Sp := fun vs H Q _ => ∃ (p c : Addr) (cells : List Int) (m : Int), vs = [.ref p, .int m] ∧ HandAt H p c cells ∧ 0 < m ∧ m < 1000000 ∧
  ∀ (r : Int) (H' : Hp), 0 ≤ r → r < m → HandAt H' p c cells → (∀ b, b ≠ p → H' b = H b) → Q (.int r) H'
def spSome (K : PySem.W.Frag) : Sp := fun vs H Q _ => ∃ (p c t : Addr) (cells : List Int) (xs : List V), vs = [.ref p, .ref t] ∧ HandAt H p c cells ∧ SqL K H t xs ∧ t ≠ p ∧ 0 < xs.length ∧ xs.length < 1000 ∧
  ∀ (k : Nat) (v : V) (H' : Hp), xs[k]? = some v → HandAt H' p c cells → (∀ b, b ≠ p → H' b = H b) → Q v H'

section
variable {P : Program} {w : World} {K : PySem.W.Frag} {mg : Str → Option Value} {base : Heap}
theorem scH : FnScope ["_law_script", "_law_cells", "_law_cell"] ["_law_script"] (defScope sHand) := ⟨rfl, rfl, rfl, by decide +kernel, rfl, by decide +kernel, by decide +kernel⟩
theorem ok_hand {f : Addr} {fd : FuncData} (F : Fun K "_law_hand" "_law_hand" sHand f fd) (T : TxB mg) : FnOk P w K mg base CX0 1 f fd ["_law_script"] (spHand K) := by
  refine F.ok scH (fun vs H Q E h => ?_) (fun cdv A outer s H vs Q E hr h => ?_)
  · obtain ⟨a, ns, rfl, _⟩ := h
    rfl
  · obtain ⟨a, ns, rfl, hS, hlen, k⟩ := h
    have hu := hu_of hr
    refine ⟨_, pss_cons (ps_setLc (i := 1) (own := [("_law_cell", 2)]) (g := gName 2) (tt := tYes) rfl scH.nd rfl rfl (sw_true rfl rfl rfl (by decide +kernel))
        (pi_list (pe_slice sl_list (pv 0) po_none (po_some pe_int))) (blkOk_by (N := ["_law_script", "_law_cells", "_law_cell"]) (sc := defScope sHand) (by decide +kernel))
        (fun _ _ _ _ _ => pg_name (i := 2) scH.nd rfl (Or.inl rfl)) (fun _ _ _ _ _ => pts_nil)
        (fun _ _ _ _ _ => pe_callB call_abs (by rfl) T.abs (by decide +kernel) (pa_cons (pe_callTy call_int1 (by rfl) T.int (by decide +kernel) (pa_cons (pv 2) pa_nil)) pa_nil)))
      (pss_one (ps_ret (pe_lst (pa_cons (pv 1) (pa_cons pe_int (pa_cons pe_int (pa_cons (pe_op op_add pe_int (pe_callB call_len (by rfl) T.len PySem.boot_len (pa_cons (pv 1) pa_nil))) (pa_cons pe_int pa_nil)))))))), ?_⟩
    refine ⟨_, rfl, 63, rfl, _, _, rfl, hS, ?_⟩
    intro sl hsl
    refine ⟨sl, rfl, ⟨_, SqL.of upd_same⟩, fun D hD => ?_⟩
    have hDs : D ≠ sl := fun e => by rw [e, upd_same] at hD; cases hD
    have hD0 : H D = none := by rw [upd_ne hDs] at hD; exact hD
    obtain ⟨zs, ez, hzl⟩ : ∃ zs : List Int, cutV (ns.map V.int) none (some 63) = zs.map V.int ∧ zs.length ≤ 1000 := by
      refine ⟨(ns.drop (HT.sIx (ns.map V.int).length 0 none)).take (HT.sIx (ns.map V.int).length (ns.map V.int).length (some 63) - HT.sIx (ns.map V.int).length 0 none), ?_, ?_⟩
      · unfold cutV
        rw [← List.map_drop, ← List.map_take]
      · rw [List.length_take, List.length_drop]; omega
    rw [ez]
    refine lc_list (K := K) (a := sl) (xs := zs.map V.int) (fun i H' => Same H H' ∧ H' sl = some (.lst (zs.map V.int)) ∧ ∃ cs : List Int, cs.length = i ∧ H' D = some (.lst (cs.map V.int)))
      ⟨fun b o e => ?_, ?_, [], rfl, upd_same⟩ (fun i H' _ p => SqL.of p.2.1) ?_ ?_
    · rw [upd_ne (ne_of_none e hD0), upd_ne (ne_of_none e hsl)]; exact e
    · rw [upd_ne hDs.symm, upd_same]
    · rintro i x H' hx ⟨h1, h2, cs, h3, h4⟩
      obtain ⟨z, rfl⟩ : ∃ z, x = V.int z := by
        rw [List.getElem?_map] at hx
        cases e : zs[i]? with
        | none => rw [e] at hx; cases hx
        | some z => rw [e] at hx; exact ⟨z, (Option.some.inj hx).symm⟩
      have hi : i < zs.length := by
        have := (List.getElem?_eq_some_iff.mp hx).1
        rwa [List.length_map] at this
      refine ⟨rfl, ?_⟩
      refine yes_kept ?_
      refine ⟨_, rfl, .inl ⟨_, rfl, _, rfl, cs.map V.int, h4, ?_, fun b o e => ?_, ?_, cs ++ [if z < 0 then -z else z], ?_, ?_⟩⟩
      · rw [List.length_map, h3]; exact small1000 (by omega)
      · rw [upd_ne (ne_of_none e hD0)]; exact h1 b o e
      · rw [upd_ne hDs.symm]; exact h2
      · rw [List.length_append, h3]; rfl
      · rw [upd_same, List.map_append]; rfl
    · rintro H' ⟨h1, h2, cs, h3, h4⟩
      refine ⟨_, rfl, _, rfl, _, _, rfl, .inl ⟨_, SqL.of h4, rfl⟩, _, _, rfl, rfl, (by show 5 ≤ sizeLine; decide), fun p hp => ?_⟩
      exact k p D cs _ (fun b o e => by rw [upd_ne (ne_of_none (h1 b o e) hp)]; exact h1 b o e) (by
        cases e : H p with
        | none => rfl
        | some o => have := h1 p o e; rw [hp] at this; cases this) ⟨⟨0, 0, _, 0, Int.le_refl _, upd_same⟩, by rw [upd_ne (ne_of_none h4 hp)]; exact h4⟩
theorem scD : FnScope ["_law_hand_here", "_law_many", "_law_cell", "_law_digit", "_law_number"] ["_law_hand_here", "_law_many"] (defScope sDraw) := ⟨rfl, rfl, rfl, by decide +kernel, rfl, by decide +kernel, by decide +kernel⟩
theorem ok_draw {f : Addr} {fd : FuncData} (F : Fun K "_law_draw" "_law_draw" sDraw f fd) (T : TxB mg) : FnOk P w K mg base CX0 1 f fd ["_law_hand_here", "_law_many"] spDraw := by
  refine F.ok scD (fun vs H Q E h => ?_) (fun cdv A outer s H vs Q E hr h => ?_)
  · obtain ⟨p, c, cells, m, rfl, _⟩ := h
    rfl
  · obtain ⟨p, c, cells, m, rfl, hA, hm, hm2, k⟩ := h
    have hu := hu_of hr
    have nd := scD.nd
    refine ⟨_, Evl.pss_cut (ps_if (PW.pt (pw_and (pt_cmpR op_eq (pe_ix ix_list (pv 0) pe_int (fun _ _ => rfl)) pe_int (nomark _))
          (pw_and1 (pt_cmpR op_lt (pe_ix ix_list (pv 0) pe_int (fun _ _ => rfl)) (pe_callB call_len (by rfl) T.len PySem.boot_len (pa_cons (pe_ix ix_list (pv 0) pe_int (fun _ _ => rfl)) pa_nil)) (nomark _)))))
        (pss_cons (ps_set (i := 2) nd rfl (Or.inl rfl) (pe_ix ix_list (pe_ix ix_list (pv 0) pe_int (fun _ _ => rfl)) (pe_ix ix_list (pv 0) pe_int (fun _ _ => rfl)) (fun _ _ => rfl)))
        (pss_cons (ps_asg (pe_op op_add (pe_ix ix_list (pv 0) pe_int (fun _ _ => rfl)) pe_int) (pg_sub (pv 0) pe_int set_list))
        (pss_cons (ps_asg (pe_op op_mod (pe_callTy call_int1 (by rfl) T.int (by decide +kernel) (pa_cons (pe_op op_add (pe_op op_add (pe_op op_mul (pe_ix ix_list (pv 0) pe_int (fun _ _ => rfl)) pe_int) (pv 2)) pe_int) pa_nil)) pe_int) (pg_sub (pv 0) pe_int set_list))
        (pss_one (ps_if (pt_cmpR op_ge (pv 2) (pe_op op_pow pe_int pe_int) (nomark _)) (pss_one (ps_asg (pv 2) (pg_sub (pv 0) pe_int set_list))) pss_nil)))))
        pss_nil)
      (pss_cons (ps_if (pt_cmpR op_gt (pe_ix ix_list (pv 0) pe_int (fun _ _ => rfl)) pe_int (nomark _))
        (pss_cons (ps_set (i := 3) nd rfl (Or.inl rfl) (pe_op op_mod (pe_callTy call_int1 (by rfl) T.int (by decide +kernel) (pa_cons (pe_ix ix_list (pv 0) pe_int (fun _ _ => rfl)) pa_nil)) (pv 1)))
        (pss_cons (ps_asg (pe_op op_fdivN (pe_ix ix_list (pv 0) pe_int (fun _ _ => rfl)) (pv 1)) (pg_sub (pv 0) pe_int set_list))
        (pss_one (ps_ret (pv 3))))) pss_nil)
      (pss_cons (ps_asg (pe_op op_add (pe_ix ix_list (pv 0) pe_int (fun _ _ => rfl)) pe_int) (pg_sub (pv 0) pe_int set_list))
      (pss_cons (ps_set (i := 4) nd rfl (Or.inl rfl) (pe_op op_mod (pe_callTy call_int1 (by rfl) T.int (by decide +kernel) (pa_cons (pe_op op_mul (pe_callTy call_int1 (by rfl) T.int (by decide +kernel) (pa_cons (pe_op op_add (pe_ix ix_list (pv 0) pe_int (fun _ _ => rfl)) (pe_op op_mul pe_int (pe_ix ix_list (pv 0) pe_int (fun _ _ => rfl)))) pa_nil)) pe_int) pa_nil)) pe_int))
      (pss_cons (ps_set (i := 4) nd rfl (Or.inl rfl) (pe_op op_mod (pe_callTy call_int1 (by rfl) T.int (by decide +kernel) (pa_cons (pe_op op_mul (pv 4) (pe_op op_add (pe_op op_fdiv (pv 4) pe_int) pe_int)) pa_nil)) pe_int))
      (pss_cons (ps_set (i := 4) nd rfl (Or.inl rfl) (pe_op op_mod (pe_callTy call_int1 (by rfl) T.int (by decide +kernel) (pa_cons (pe_op op_mul (pv 4) (pe_op op_add (pe_op op_fdiv (pv 4) pe_int) pe_int)) pa_nil)) pe_int))
      (pss_one (ps_ret (pe_op op_mod (pe_callTy call_int1 (by rfl) T.int (by decide +kernel) (pa_cons (pe_op op_fdiv (pv 4) pe_int) pa_nil)) (pv 1))))))))), ?_⟩
    obtain ⟨⟨i, z, s0, n, hi, hp⟩, hc⟩ := id hA
    have nep := hA.ne
    refine ⟨fun σ' H' => ∃ (i z s n : Int) (v : Option V), 0 ≤ i ∧ σ' = [some (.ref p), some (.int m), v, none, none] ∧ H' p = some (.lst [.ref c, .int i, .int z, .int s, .int n]) ∧ (∀ b, b ≠ p → H' b = H b), ?_, ?_⟩
    · -- hand[2] == 0 and hand[1] < len(hand[0])
      refine ⟨_, rfl, p, _, _, _, rfl, rfl, SqL.of hp, rfl, rfl, _, rfl, ?_⟩
      refine ite2 (fun _ => ?_) (fun _ => ?_)
      · refine ⟨_, rfl, p, _, _, _, rfl, rfl, SqL.of hp, rfl, _, rfl, p, _, _, _, rfl, rfl, SqL.of hp, rfl, _, _, rfl, .inl ⟨_, SqL.of hc, rfl⟩, _, _, rfl, rfl, _, rfl, ?_⟩
        refine ite2 (fun e1 => ?_) (fun _ => ?_)
        · have e2 : i < (cells.length : Int) := by
            have := of_decide_eq_true e1
            rw [List.length_map] at this
            exact this
          obtain ⟨j, rfl⟩ := Int.eq_ofNat_of_zero_le hi
          have hj : j < cells.length := by omega
          have hat : atI (cells.map V.int) (j : Int) = some (.int cells[j]) := atI_nat (by rw [List.getElem?_map, List.getElem?_eq_getElem hj]; rfl)
          refine ⟨_, rfl, p, _, _, _, rfl, rfl, SqL.of hp, rfl, _, rfl, p, _, _, _, rfl, rfl, SqL.of hp, rfl, c, _, _, _, rfl, rfl, SqL.of hc, hat, ?_⟩
          refine ⟨_, rfl, p, _, _, _, rfl, rfl, SqL.of hp, rfl, _, _, rfl, rfl, _, rfl, p, _, _, 1, rfl, rfl, hp, rfl, ?_⟩
          refine ⟨_, rfl, p, _, _, _, rfl, rfl, SqL.of upd_same, rfl, _, _, rfl, rfl, .inr ⟨by decide, by decide⟩, _, rfl, _, _, rfl, rfl, _, _, rfl, rfl, .inl ⟨_, rfl, _, _, rfl, rfl, (by show (0 : Int) < 2147483629; decide), _, rfl, p, _, _, 3, rfl, rfl, upd_same, rfl, ?_⟩⟩
          refine ⟨_, rfl, _, _, rfl, rfl, ⟨by decide, by decide, by decide⟩, _, _, rfl, rfl, _, rfl, ?_⟩
          refine ite2 (fun _ => ?_) (fun _ => ?_)
          · refine ⟨_, rfl, _, rfl, p, _, _, 2, rfl, rfl, upd_same, rfl, (j : Int) + 1, _, _, _, some (.int cells[j]), by omega, rfl, upd_same, fun b hb => by rw [upd_ne hb, upd_ne hb, upd_ne hb]⟩
          · exact ⟨(j : Int) + 1, _, _, _, some (.int cells[j]), by omega, rfl, upd_same, fun b hb => by rw [upd_ne hb, upd_ne hb]⟩
        · exact ⟨i, z, s0, n, none, hi, rfl, hp, fun _ _ => rfl⟩
      · exact ⟨i, z, s0, n, none, hi, rfl, hp, fun _ _ => rfl⟩
    · clear hi hp i z s0 n
      rintro _ H1 ⟨i, z, s0, n, v, hi, rfl, hp, kp⟩
      have hc1 : H1 c = some (.lst (cells.map V.int)) := by rw [kp c nep.symm]; exact hc
      have fin : ∀ (r : Int) (i z s n : Int) (H2 : Hp), 0 ≤ r → r < m → 0 ≤ i → H2 p = some (.lst [.ref c, .int i, .int z, .int s, .int n]) → (∀ b, b ≠ p → H2 b = H1 b) → Q (.int r) H2 :=
        fun r i z s n H2 h0 h1 hi h2 h3 => k r H2 h0 h1 ⟨⟨i, z, s, n, hi, h2⟩, by rw [h3 c nep.symm]; exact hc1⟩ fun b hb => (h3 b hb).trans (kp b hb)
      -- hand[2] > 0
      refine ⟨_, rfl, p, _, _, _, rfl, rfl, SqL.of hp, rfl, _, _, rfl, rfl, _, rfl, ?_⟩
      refine ite2 (fun _ => ?_) (fun _ => ?_)
      · refine ⟨_, rfl, p, _, _, _, rfl, rfl, SqL.of hp, rfl, .inl ⟨_, rfl, _, rfl, _, _, rfl, rfl, hm, ?_⟩⟩
        refine ⟨_, rfl, p, _, _, _, rfl, rfl, SqL.of hp, rfl, _, rfl, _, _, rfl, rfl, ⟨by omega, by omega⟩, _, rfl, p, _, _, 2, rfl, rfl, hp, rfl, _, rfl, ?_⟩
        exact fin _ i _ _ _ _ (Int.emod_nonneg _ (by omega)) (Int.emod_lt_of_pos _ hm) hi upd_same fun b hb => upd_ne hb
      · refine ⟨_, rfl, p, _, _, _, rfl, rfl, SqL.of hp, rfl, _, _, rfl, rfl, _, rfl, p, _, _, 4, rfl, rfl, hp, rfl, ?_⟩
        refine ⟨_, rfl, p, _, _, _, rfl, rfl, SqL.of upd_same, rfl, _, rfl, p, _, _, _, rfl, rfl, SqL.of upd_same, rfl, _, _, rfl, rfl, .inl ⟨by decide, by decide⟩, _, _, rfl, rfl, .inl ⟨_, rfl, _, _, rfl, rfl, .inr ⟨by decide, by decide⟩, .inl ⟨_, rfl, _, _, rfl, rfl, (by show (0 : Int) < 2147483647; decide), ?_⟩⟩⟩
        dsimp only
        generalize hn1 : ((s0 + 7919 * (n + 1)) * 48271) % 2147483647 = n1
        have b1 : 0 ≤ n1 := by rw [← hn1]; exact Int.emod_nonneg _ (by decide)
        have b2 : n1 < 2147483647 := by rw [← hn1]; exact Int.emod_lt_of_pos _ (by decide)
        clear hn1
        refine ⟨_, rfl, _, rfl, _, _, rfl, rfl, ⟨by decide, by decide⟩, _, _, rfl, rfl, _, _, rfl, rfl, .inl ⟨by omega, by omega⟩, .inl ⟨_, rfl, _, _, rfl, rfl, (by show (0 : Int) < 2147483647; decide), ?_⟩⟩
        dsimp only
        generalize hn2 : (n1 * (n1 / 1009 + 69621)) % 2147483647 = n2
        have b3 : 0 ≤ n2 := by rw [← hn2]; exact Int.emod_nonneg _ (by decide)
        have b4 : n2 < 2147483647 := by rw [← hn2]; exact Int.emod_lt_of_pos _ (by decide)
        clear hn2
        refine ⟨_, rfl, _, rfl, _, _, rfl, rfl, ⟨by decide, by decide⟩, _, _, rfl, rfl, _, _, rfl, rfl, .inl ⟨by omega, by omega⟩, .inl ⟨_, rfl, _, _, rfl, rfl, (by show (0 : Int) < 2147483399; decide), ?_⟩⟩
        refine ⟨_, rfl, _, _, rfl, rfl, ⟨by decide, by decide⟩, .inl ⟨_, rfl, _, rfl, _, _, rfl, rfl, hm, ?_⟩⟩
        exact fin _ i _ _ _ _ (Int.emod_nonneg _ (by omega)) (Int.emod_lt_of_pos _ hm) hi upd_same fun b hb => upd_ne hb
theorem scS : FnScope ["_law_hand_here", "_law_things"] ["_law_hand_here", "_law_things"] (defScope sSome) := ⟨rfl, rfl, rfl, by decide +kernel, rfl, by decide +kernel, by decide +kernel⟩
theorem ok_some {f fD : Addr} {fd fdD : FuncData} (F : Fun K "_law_some" "_law_some" sSome f fd) (T : TxB mg) (FD : Fun K "_law_draw" "_law_draw" sDraw fD fdD) (bD : Binds K fdD ["_law_hand_here", "_law_many"] []) (mD : mg "_law_draw" = some (.ref fD)) :
    FnOk P w K mg base CX0 2 f fd ["_law_hand_here", "_law_things"] (spSome K) := by
  have GD : FnOk P w K mg base CX0 1 fD fdD ["_law_hand_here", "_law_many"] spDraw := ok_draw FD T
  refine F.ok scS (fun vs H Q E h => ?_) (fun cdv A outer s H vs Q E hr h => ?_)
  · obtain ⟨p, c, t, cells, xs, rfl, _⟩ := h
    rfl
  · obtain ⟨p, c, t, cells, xs, rfl, hA, hT, hn, h0, h1, k⟩ := h
    refine ⟨_, pss_one (ps_ret (pe_ix ix_list (pv 1) (pe_call GD hr (by rfl) mD FD.kp bD .nil pass0 (pa_cons (pv 0) (pa_cons (pe_callB call_len (by rfl) T.len PySem.boot_len (pa_cons (pv 1) pa_nil)) pa_nil))) (fun _ _ => rfl))), ?_⟩
    refine ⟨_, rfl, _, rfl, _, rfl, _, _, rfl, .inl ⟨_, hT, rfl⟩, p, c, cells, _, rfl, hA, by omega, by omega, fun r H' h2 h3 hA' kp => ?_⟩
    obtain ⟨j, rfl⟩ := Int.eq_ofNat_of_zero_le h2
    have hj : j < xs.length := by omega
    have hT' : SqL K H' t xs := by
      rcases hT with q | q
      · exact .inl (by unfold Rd; rw [kp t hn]; exact q)
      · exact .inr q
    exact ⟨t, xs, _, _, rfl, rfl, hT', atI_nat (List.getElem?_eq_getElem hj), k j _ H' (List.getElem?_eq_getElem hj) hA' kp⟩
end
end LG

set_option Elab.async false
set_option linter.all false
set_option maxRecDepth 100000
set_option maxHeartbeats 2000000
namespace LG
open PySem L2
theorem tyx_same {K : PySem.W.Frag} {H H' : Hp} {v : V} {t : Value} (s : Same H H') (h : TyX K H v t) : TyX K H' v t := by
  cases h with
  | base b =>
    cases b with
    | non => exact .base .non
    | bl x => exact .base (.bl x)
    | int i => exact .base (.int i)
    | str x => exact .base (.str x)
    | flt x => exact .base (.flt x)
    | lst e => exact .base (.lst (s _ _ e))
    | frz e => exact .base (.frz (s _ _ e))
    | tup e => exact .base (.tup (s _ _ e))
    | dK e => exact .base (.dK (s _ _ e))
    | dT e => exact .base (.dT (s _ _ e))
    | ins e cl ha hn htk hm => exact .base (.ins (s _ _ e) cl ha hn htk hm)
  | byt b => exact .byt b
  | set e => exact .set (s _ _ e)
  | kList e c => exact .kList e c
  | kTuple e c => exact .kTuple e c
  | kDict e c => exact .kDict e c
  | fTuple e => exact .fTuple (s _ _ e)
  | fDict e => exact .fDict (s _ _ e)
theorem same_refl (H : Hp) : Same H H := fun _ _ e => e
theorem same_trans {H H' H'' : Hp} (a : Same H H') (b : Same H' H'') : Same H H'' := fun c o e => b c o (a c o e)
theorem same_new {H H' : Hp} {p : Addr} {o : HO} (s : Same H H') (hp : H' p = none) : Same H (upd H' p o) := fun b u e => by rw [upd_ne (ne_of_none (s b u e) hp)]; exact s b u e
theorem same_none {H H' : Hp} {p : Addr} (s : Same H H') (hp : H' p = none) : H p = none := by
  cases e : H p with
  | none => rfl
  | some o => have := s p o e; rw [hp] at this; cases this

structure Fn (K : PySem.W.Frag) (mg : Str → Option Value) (x : Str) (st : Stmt) (ps : List Str) (f : Addr) (fd : FuncData) : Prop where
  F : Fun K x x st f fd
  b : Binds K fd ps []
  m : mg x = some (.ref f)
theorem ifT {c : Bool} {A B : Prop} (hc : c = true) (h : A) : if c = true then A else B := by
  rw [if_pos hc]
  exact h
theorem ifF {c : Bool} {A B : Prop} (hc : c = false) (h : B) : if c = true then A else B := by
  rw [hc, if_neg Bool.false_ne_true]
  exact h
theorem del_same_of {H H' : Hp} {p : Addr} (s : Same H H') : Same (del H p) (del H' p) := fun b o e => by
  by_cases hb : b = p
  · rw [hb, del_same] at e; cases e
  · rw [del_ne hb] at e ⊢; exact s b o e
theorem del_off {H H' : Hp} {p : Addr} (k : ∀ b, b ≠ p → H' b = H b) : Same (del H p) (del H' p) := fun b o e => by
  by_cases hb : b = p
  · rw [hb, del_same] at e; cases e
  · rw [del_ne hb] at e ⊢; rw [k b hb]; exact e
theorem del_le {H : Hp} {p : Addr} : Same (del H p) H := fun b o e => by
  by_cases hb : b = p
  · rw [hb, del_same] at e; cases e
  · rw [del_ne hb] at e; exact e
theorem HandAt.same {H H' : Hp} {p c : Addr} {cells : List Int} (h : HandAt H p c cells) (s : Same H H') : HandAt H' p c cells := by
  obtain ⟨⟨i, z, s0, n, hi, e⟩, l⟩ := h
  exact ⟨⟨i, z, s0, n, hi, s _ _ e⟩, s _ _ l⟩
theorem HandAt.some {H : Hp} {p c : Addr} {cells : List Int} (h : HandAt H p c cells) : ∃ l, H p = .some (.lst l) := by
  obtain ⟨⟨i, z, s0, n, hi, e⟩, _⟩ := h
  exact ⟨_, e⟩
theorem HandAt.fresh {H : Hp} {p c q : Addr} {cells : List Int} (h : HandAt H p c cells) (hq : H q = none) : q ≠ p := by
  obtain ⟨l, e⟩ := h.some
  exact fun z => by rw [z, e] at hq; cases hq
theorem same_upd {G H' : Hp} {p D : Addr} {o : HO} (s : Same G (del H' p)) (hd : G D = none) : Same G (del (upd H' D o) p) := fun b u e => by
  have nb : b ≠ D := ne_of_none e hd
  have h := s b u e
  by_cases hb : b = p
  · rw [hb, del_same] at h; cases h
  · rw [del_ne hb] at h ⊢
    rw [upd_ne nb]
    exact h
theorem HandAt.upd {H : Hp} {p c D : Addr} {cells : List Int} {o : HO} (h : HandAt H p c cells) (h1 : D ≠ p) (h2 : D ≠ c) : HandAt (upd H D o) p c cells := by
  obtain ⟨⟨i, z, s0, n, hi, e⟩, l⟩ := h
  exact ⟨⟨i, z, s0, n, hi, by rw [upd_ne h1.symm]; exact e⟩, by rw [upd_ne h2.symm]; exact l⟩

theorem seqIx {i : Int} {n : Nat} (h0 : 0 ≤ i) (h : i < (n : Int)) : seqIndex? i n = some i.toNat := by
  unfold seqIndex?
  simp
  omega
/-- so long a list has room -/
theorem room2 {n : Nat} (h : n ≤ 3000000) : n < sizeLine := Nat.lt_of_le_of_lt h (by decide)
theorem big2 {n : Nat} (h : n ≤ 3000000) : n ≤ sizeLine := Nat.le_of_lt (room2 h)
/-- further names of the text -/
structure TxD (mg : Str → Option Value) : Prop where
  tuple : mg "tuple" = none
  list : mg "list" = none
  dict : mg "dict" = none
  bool : mg "bool" = none
  str : mg "str" = none
  sorted : mg "sorted" = none
  max : mg "max" = none
  any : mg "any" = none
  reversed : mg "reversed" = none
  set : mg "set" = none
  enumerate : mg "enumerate" = none
  sum : mg "sum" = none
end LG

set_option Elab.async false
set_option linter.all false
set_option maxRecDepth 100000
set_option maxHeartbeats 2000000
namespace LG
open PySem L2
abbrev sInteger : Stmt := top 1
abbrev sWithin : Stmt := top 2
abbrev sPair : Stmt := top 3
abbrev sLetter : Stmt := top 17
structure TxK (mg : Str → Option Value) : Prop extends TxD mg where
  last : ∃ u, mg "LAST_LETTER" = some (.int 25 u)
/-! ### things as data: an int, a truth value, what is neither nor a tuple, a tuple of another length, a pair -/
inductive Th where
  | int (i : Int) | bl (b : Bool) | non | tup | pr (l r : Th)
namespace Th
def size : Th → Nat
  | .pr l r => l.size + r.size + 1
  | _ => 1
def letter : Th → Bool
  | .int i => decide (0 ≤ i) && decide (i ≤ 25)
  | _ => false
/-- a kind of any size -/
def any : Th → Bool
  | .pr l r => l.any && r.any
  | t => t.letter
/-- a kind nested at most so deep -/
def ok : Nat → Th → Bool
  | 0, t => t.letter
  | m + 1, .pr l r => ok m l && ok m r
  | _ + 1, t => t.letter
def letters : Th → Nat
  | .pr l r => l.letters + r.letters
  | .int _ => 1
  | _ => 0
def isKind (t : Th) : Bool := t.ok 30 && decide (t.letters ≤ 60)
theorem ok_pr {m : Nat} {l r : Th} : ok (m + 1) (.pr l r) = (ok m l && ok m r) := rfl
theorem ok_of_letter {m : Nat} {t : Th} (h : t.letter = true) : t.ok m = true ∧ t.letters = 1 := by
  cases t with
  | int i => cases m <;> exact ⟨h, rfl⟩
  | bl b => cases h
  | non => cases h
  | tup => cases h
  | pr l r => cases h
theorem size_pos (t : Th) : 0 < t.size := by cases t <;> simp [size]
end Th
/-- the judging of what waits: (thing, how deep) -/
def jud (c : Nat) (ws : List (Th × Nat)) : Bool := ws.all (fun w => w.1.ok (30 - w.2)) && decide (c + (ws.map (·.1.letters)).sum ≤ 60)
theorem jud_letter {c : Nat} {ws : List (Th × Nat)} {t : Th} {d : Nat} (h : t.letter = true) : jud c (ws ++ [(t, d)]) = jud (c + 1) ws := by
  unfold jud
  have e := Th.ok_of_letter (m := 30 - d) h
  simp only [List.all_append, List.all_cons, List.all_nil, List.map_append, List.map_cons, List.map_nil, List.sum_append, List.sum_cons, List.sum_nil, e.1, e.2, Bool.and_true]
  have q : c + ((ws.map (·.1.letters)).sum + (1 + 0)) = c + 1 + (ws.map (·.1.letters)).sum := by omega
  rw [q]
theorem jud_pair {c : Nat} {ws : List (Th × Nat)} {l r : Th} {d : Nat} (h : d < 30) : jud c (ws ++ [(.pr l r, d)]) = jud c (ws ++ [(l, d + 1), (r, d + 1)]) := by
  unfold jud
  have e : 30 - d = (30 - (d + 1)) + 1 := by omega
  have q : c + ((ws.map (·.1.letters)).sum + (l.letters + r.letters + 0)) = c + ((ws.map (·.1.letters)).sum + (l.letters + (r.letters + 0))) := by omega
  simp only [List.all_append, List.all_cons, List.all_nil, List.map_append, List.map_cons, List.map_nil, List.sum_append, List.sum_cons, List.sum_nil, Bool.and_true, e, Th.ok_pr, Th.letters, q]
theorem jud_bad {c : Nat} {ws : List (Th × Nat)} {t : Th} {d : Nat} (h1 : t.letter = false) (h2 : ∀ l r, t = .pr l r → ¬ d < 30) : jud c (ws ++ [(t, d)]) = false := by
  unfold jud
  have e : t.ok (30 - d) = false := by
    cases t with
    | pr l r =>
      have := h2 l r rfl
      have e : 30 - d = 0 := by omega
      rw [e]; rfl
    | int i => cases h3 : 30 - d <;> exact h1
    | bl b => cases h3 : 30 - d <;> rfl
    | non => cases h3 : 30 - d <;> rfl
    | tup => cases h3 : 30 - d <;> rfl
  simp [e]
theorem jud_many {c : Nat} {ws : List (Th × Nat)} (h : ¬ c ≤ 60) : jud c ws = false := by
  unfold jud
  rw [Bool.and_eq_false_iff]; exact .inr (decide_eq_false (by omega))
theorem jud_nil {c : Nat} : jud c [] = decide (c ≤ 60) := by simp [jud]
theorem jud_one {t : Th} : jud 0 [(t, 0)] = t.isKind := by simp [jud, Th.isKind]
def NonAt (K : PySem.W.Frag) (H : Hp) (v : V) : Prop := ∃ tv, TyX K H v tv ∧ PySem.W.kitOne K tv (.type "int") = some false ∧ PySem.W.kitOne K tv (.type "tuple") = some false
def ThAt (K : PySem.W.Frag) (H : Hp) : Th → V → Prop
  | .int i, v => v = .int i
  | .bl b, v => v = .bl b
  | .non, v => NonAt K H v
  | .tup, v => ∃ a xs, v = .ref a ∧ H a = some (.tup xs) ∧ xs.length ≠ 2
  | .pr l r, v => ∃ a x y, v = .ref a ∧ H a = some (.tup [x, y]) ∧ ThAt K H l x ∧ ThAt K H r y
theorem ThAt.same {K : PySem.W.Frag} {H H' : Hp} (s : Same H H') : ∀ {t : Th} {v : V}, ThAt K H t v → ThAt K H' t v
  | .int _, _, h => h
  | .bl _, _, h => h
  | .non, _, ⟨tv, h1, h2⟩ => ⟨tv, tyx_same s h1, h2⟩
  | .tup, _, ⟨a, xs, e, h, l⟩ => ⟨a, xs, e, s _ _ h, l⟩
  | .pr _ _, _, ⟨a, x, y, e, h, hl, hr⟩ => ⟨a, x, y, e, s _ _ h, hl.same s, hr.same s⟩
def Th.isI : Th → Bool
  | .int _ => true
  | .bl _ => true
  | _ => false
def Th.isB : Th → Bool
  | .bl _ => true
  | _ => false
def Th.isT : Th → Bool
  | .tup => true
  | .pr _ _ => true
  | _ => false
/-- its type, as isinstance asks it -/
theorem ThAt.ty {K : PySem.W.Frag} {H : Hp} {t : Th} {v : V} (h : ThAt K H t v) : ∃ tv, TyX K H v tv ∧ PySem.W.kitOne K tv (.type "int") = some t.isI ∧ (t.isI = true → PySem.W.kitOne K tv (.type "bool") = some t.isB) ∧ PySem.W.kitOne K tv (.type "tuple") = some t.isT := by
  cases t with
  | int i =>
    have e : v = .int i := h
    subst e
    exact ⟨_, .base (.int i), kit_ty (r := true) (by decide +kernel), fun _ => kit_ty (r := false) (by decide +kernel), kit_ty (r := false) (by decide +kernel)⟩
  | bl b =>
    have e : v = .bl b := h
    subst e
    exact ⟨_, .base (.bl b), kit_ty (r := true) (by decide +kernel), fun _ => kit_ty (r := true) (by decide +kernel), kit_ty (r := false) (by decide +kernel)⟩
  | non =>
    obtain ⟨tv, h1, h2, h3⟩ := h
    exact ⟨tv, h1, h2, fun z => (by cases z), h3⟩
  | tup =>
    obtain ⟨a, xs, rfl, h, l⟩ := h
    exact ⟨_, .base (.tup h), kit_ty (r := false) (by decide +kernel), fun z => (by cases z), kit_ty (r := true) (by decide +kernel)⟩
  | pr l r =>
    obtain ⟨a, x, y, rfl, h, _⟩ := h
    exact ⟨_, .base (.tup h), kit_ty (r := false) (by decide +kernel), fun z => (by cases z), kit_ty (r := true) (by decide +kernel)⟩
def Th.isInt : Th → Bool
  | .int _ => true
  | _ => false
def Th.isPr : Th → Bool
  | .pr _ _ => true
  | _ => false
theorem letter_int {t : Th} (h : t.isInt = false) : t.letter = false := by
  cases t <;> first | rfl | cases h
def spInteger (K : PySem.W.Frag) : Sp := fun vs H Q _ => ∃ (v : V) (t : Th), vs = [v] ∧ ThAt K H t v ∧ Q (.bl t.isInt) H
def spWithin (K : PySem.W.Frag) : Sp := fun vs H Q _ => ∃ (v : V) (t : Th), vs = [.int 0, .int 25, v] ∧ ThAt K H t v ∧ Q (.bl t.letter) H
def spPair (K : PySem.W.Frag) : Sp := fun vs H Q _ => ∃ (v : V) (t : Th), vs = [v] ∧ ThAt K H t v ∧ Q (.bl t.isPr) H
def spLetter (K : PySem.W.Frag) : Sp := fun vs H Q _ => ∃ (v : V) (t : Th), vs = [v] ∧ ThAt K H t v ∧ Q (.bl t.letter) H
section
variable {P : Program} {w : World} {K : PySem.W.Frag} {mg : Str → Option Value} {base : Heap}
theorem scInteger : FnScope ["thing"] ["thing"] (defScope sInteger) := ⟨rfl, rfl, rfl, by decide +kernel, rfl, by decide +kernel, by decide +kernel⟩
theorem ok_integer {f : Addr} {fd : FuncData} (F : Fn K mg "is_integer" sInteger ["thing"] f fd) (T : TxB mg) (T2 : TxK mg) : FnOk P w K mg base CX0 1 f fd ["thing"] (spInteger K) := by
  refine F.F.ok scInteger (fun vs H Q E h => ?_) (fun cdv A outer s H vs Q E hr h => ?_)
  · obtain ⟨v, t, rfl, _⟩ := h
    rfl
  · obtain ⟨v, t, rfl, hv, k⟩ := h
    obtain ⟨tv, ty, k1, k2, k3⟩ := hv.ty
    refine ⟨_, pss_one (ps_ret (pe_and (pe_callB call_isi (by rfl) T.isinstance (by decide +kernel) (pa_cons (pv 0) (pa_cons (pe_bltn (v := .ty "int") (by rfl) T.int (by decide +kernel) rfl) pa_nil)))
      (pe_one (pe_not (pe_callB call_isi (by rfl) T.isinstance (by decide +kernel) (pa_cons (pv 0) (pa_cons (pe_bltn (v := .ty "bool") (by rfl) T2.bool (by decide +kernel) rfl) pa_nil))))))), ?_⟩
    refine ⟨_, rfl, _, _, _, _, _, rfl, .ty _, ty, k1, _, rfl, ?_⟩
    refine ite2 (fun c => ?_) (fun c => ?_)
    · refine ⟨_, rfl, _, _, _, _, _, rfl, .ty _, ty, k2 c, _, rfl, ?_⟩
      have e : t.isInt = !t.isB := by cases t <;> first | rfl | cases c
      rw [← e]
      exact k
    · have e : t.isInt = false := by cases t <;> first | rfl | exact absurd rfl c
      rw [← e]
      exact k
theorem scWithin : FnScope ["low", "high", "thing"] ["low", "high", "thing"] (defScope sWithin) := ⟨rfl, rfl, rfl, by decide +kernel, rfl, by decide +kernel, by decide +kernel⟩
theorem ok_within {f f1 : Addr} {fd fd1 : FuncData} (F : Fn K mg "is_integer_within" sWithin ["low", "high", "thing"] f fd) (N1 : Fn K mg "is_integer" sInteger ["thing"] f1 fd1) (T : TxB mg) (T2 : TxK mg) : FnOk P w K mg base CX0 2 f fd ["low", "high", "thing"] (spWithin K) := by
  have G1 : FnOk P w K mg base CX0 1 f1 fd1 ["thing"] (spInteger K) := ok_integer N1 T T2
  refine F.F.ok scWithin (fun vs H Q E h => ?_) (fun cdv A outer s H vs Q E hr h => ?_)
  · obtain ⟨v, t, rfl, _⟩ := h
    rfl
  · obtain ⟨v, t, rfl, hv, k⟩ := h
    refine ⟨_, pss_one (ps_ret (pe_and (pe_call G1 hr (by rfl) N1.m N1.F.kp N1.b .nil pass0 (pa_cons (pv 2) pa_nil)) (pe_one (pe_chain op_le op_le (pv 0) (pv 2) (pv 1))))), ?_⟩
    refine ⟨_, rfl, v, t, rfl, hv, _, rfl, ?_⟩
    refine ite2 (fun c => ?_) (fun c => ?_)
    · obtain ⟨i, rfl⟩ : ∃ i, t = .int i := by cases t <;> first | exact ⟨_, rfl⟩ | cases c
      obtain rfl : v = .int i := hv
      refine ⟨_, rfl, _, rfl, _, _, rfl, rfl, _, rfl, ?_⟩
      refine ite2 (fun c2 => ?_) (fun c2 => ?_)
      · refine ⟨_, rfl, _, _, rfl, rfl, ?_⟩
        have e : Th.letter (.int i) = decide (i ≤ 25) := by show (decide (0 ≤ i) && decide (i ≤ 25)) = _; rw [c2, Bool.true_and]
        rw [e] at k
        exact k
      · have e : Th.letter (.int i) = false := by show (decide (0 ≤ i) && decide (i ≤ 25)) = _; rw [Bool.eq_false_iff.mpr c2, Bool.false_and]
        rw [e] at k
        exact k
    · rw [letter_int (Bool.eq_false_iff.mpr c)] at k
      exact k
theorem scPair : FnScope ["thing"] ["thing"] (defScope sPair) := ⟨rfl, rfl, rfl, by decide +kernel, rfl, by decide +kernel, by decide +kernel⟩
theorem ok_pair {f : Addr} {fd : FuncData} (F : Fn K mg "is_pair" sPair ["thing"] f fd) (T : TxB mg) (T2 : TxK mg) : FnOk P w K mg base CX0 1 f fd ["thing"] (spPair K) := by
  refine F.F.ok scPair (fun vs H Q E h => ?_) (fun cdv A outer s H vs Q E hr h => ?_)
  · obtain ⟨v, t, rfl, _⟩ := h
    rfl
  · obtain ⟨v, t, rfl, hv, k⟩ := h
    obtain ⟨tv, ty, k1, k2, k3⟩ := hv.ty
    refine ⟨_, pss_one (ps_ret (pe_and (pe_callB call_isi (by rfl) T.isinstance (by decide +kernel) (pa_cons (pv 0) (pa_cons (pe_bltn (v := .ty "tuple") (by rfl) T2.tuple (by decide +kernel) rfl) pa_nil)))
      (pe_one (pe_cmpR op_eq (pe_callB call_len (by rfl) T.len PySem.boot_len (pa_cons (pv 0) pa_nil)) pe_int (nomark _))))), ?_⟩
    refine ⟨_, rfl, _, _, _, _, _, rfl, .ty _, ty, k3, _, rfl, ?_⟩
    refine ite2 (fun c => ?_) (fun c => ?_)
    · cases t with
      | int i => cases c
      | bl b => cases c
      | non => cases c
      | tup =>
        obtain ⟨a, xs, rfl, h, l⟩ := hv
        refine ⟨_, rfl, _, _, rfl, .inr ⟨xs, SqT.of h, rfl⟩, rfl, ?_⟩
        rw [decide_eq_false (fun z => l (by have := V.int.inj z; omega))]
        exact k
      | pr l r =>
        obtain ⟨a, x, y, rfl, h, _⟩ := hv
        exact ⟨_, rfl, _, _, rfl, .inr ⟨_, SqT.of h, rfl⟩, rfl, k⟩
    · have e : t.isPr = false := by cases t <;> first | rfl | exact absurd rfl c
      rw [e] at k
      exact k
theorem scLetter : FnScope ["thing"] ["thing"] (defScope sLetter) := ⟨rfl, rfl, rfl, by decide +kernel, rfl, by decide +kernel, by decide +kernel⟩
theorem ok_letter {f f1 f2 : Addr} {fd fd1 fd2 : FuncData} (F : Fn K mg "is_letter" sLetter ["thing"] f fd) (N2 : Fn K mg "is_integer_within" sWithin ["low", "high", "thing"] f2 fd2) (N1 : Fn K mg "is_integer" sInteger ["thing"] f1 fd1) (T : TxB mg) (T2 : TxK mg) : FnOk P w K mg base CX0 3 f fd ["thing"] (spLetter K) := by
  have G2 : FnOk P w K mg base CX0 2 f2 fd2 ["low", "high", "thing"] (spWithin K) := ok_within N2 N1 T T2
  obtain ⟨u, hu⟩ := T2.last
  refine F.F.ok scLetter (fun vs H Q E h => ?_) (fun cdv A outer s H vs Q E hr h => ?_)
  · obtain ⟨v, t, rfl, _⟩ := h
    rfl
  · obtain ⟨v, t, rfl, hv, k⟩ := h
    refine ⟨_, pss_one (ps_ret (pe_call G2 hr (by rfl) N2.m N2.F.kp N2.b .nil pass0 (pa_cons pe_int (pa_cons (pe_glob (v := .int 25) (by rfl) hu ⟨_, rfl⟩) (pa_cons (pv 0) pa_nil))))), ?_⟩
    exact ⟨_, rfl, v, t, rfl, hv, k⟩
end
theorem nil_or_snoc {α : Type} (l : List α) : l = [] ∨ ∃ l' x, l = l' ++ [x] := by
  rcases List.eq_nil_or_concat l with h | ⟨l', x, h⟩
  · exact .inl h
  · exact .inr ⟨l', x, by rw [h, List.concat_eq_append]⟩
def psz (ws : List (Th × V)) : Nat := (ws.map (·.1.size)).sum
def pany (ws : List (Th × V)) : Bool := ws.all (·.1.any)
/-- between two turns of is_kind_of_any_size -/
def AW (K : PySem.W.Frag) (H : Hp) (t : Th) (v : V) (wl : Addr) : Nat → St → Hp → Prop := fun m σ H' => ∃ (ws : List (Th × V)) (p2 : Option V), m = psz ws ∧ σ = [some v, some (.ref wl), p2] ∧ Same H H' ∧
  H' wl = some (.lst (ws.map (·.2))) ∧ (∀ s ∈ ws, ThAt K H s.1 s.2) ∧ pany ws = t.any ∧ psz ws ≤ t.size
theorem len_psz : ∀ ws : List (Th × V), ws.length ≤ psz ws
  | [] => Nat.le_refl _
  | s :: ws => by
    have h := len_psz ws
    have p := s.1.size_pos
    simp only [psz, List.map_cons, List.sum_cons, List.length_cons] at *
    omega
def spAny (K : PySem.W.Frag) : Sp := fun vs H Q _ => ∃ (v : V) (t : Th), vs = [v] ∧ ThAt K H t v ∧ t.size ≤ 10000 ∧ ∀ H', Same H H' → Q (.bl t.any) H'
end LG

set_option Elab.async false
set_option linter.all false
set_option maxRecDepth 100000
set_option maxHeartbeats 2000000
namespace LG
open PySem L2
abbrev sName : Stmt := top 7
def letters : Str := "abcdefghijklmnopqrstuvwxyz"
def nameB (z : Str) : Bool := decide (1 ≤ z.length) && decide (z.length ≤ 8) && z.cps.toList.all fun c => decide (c ∈ letters.cps.toList)
/-- a text, or what is none -/
def StAt (K : PySem.W.Frag) (H : Hp) : Option Str → V → Prop
  | some z, v => v = .str z ∧ z.length ≤ 1000000
  | none, v => ∃ tv, TyX K H v tv ∧ PySem.W.kitOne K tv (.type "str") = some false
theorem StAt.same {K : PySem.W.Frag} {H H' : Hp} {o : Option Str} {v : V} (h : StAt K H o v) (s : Same H H') : StAt K H' o v := by
  cases o with
  | some z => exact h
  | none =>
    obtain ⟨tv, a, b⟩ := h
    exact ⟨tv, tyx_same s a, b⟩
theorem StAt.ty {K : PySem.W.Frag} {H : Hp} {o : Option Str} {v : V} (h : StAt K H o v) : ∃ tv, TyX K H v tv ∧ PySem.W.kitOne K tv (.type "str") = some o.isSome := by
  cases o with
  | some z =>
    obtain ⟨e, _⟩ := h
    subst e
    exact ⟨_, .base (.str z), kit_ty (r := true) (by decide +kernel)⟩
  | none => exact h
def nmB : Option Str → Bool
  | some z => nameB z
  | none => false
/-- names of the module -/
structure TxN (mg : Str → Option Value) : Prop where
  let_ : ∃ u, mg "NAME_LETTERS" = some (.str letters u)
  long : ∃ u, mg "LONGEST_NAME" = some (.int 8 u)
def spName (K : PySem.W.Frag) : Sp := fun vs H Q _ => ∃ (v : V) (o : Option Str), vs = [v] ∧ StAt K H o v ∧ ∀ H', Same H H' → Q (.bl (nmB o)) H'
section
variable {P : Program} {w : World} {K : PySem.W.Frag} {mg : Str → Option Value} {base : Heap}
theorem scName : FnScope ["thing", "sign"] ["thing"] (defScope sName) := ⟨rfl, rfl, rfl, by decide +kernel, rfl, by decide +kernel, by decide +kernel⟩
theorem ok_name {f : Addr} {fd : FuncData} (F : Fn K mg "is_name" sName ["thing"] f fd) (T : TxB mg) (T2 : TxD mg) (TN : TxN mg) : FnOk P w K mg base CX0 1 f fd ["thing"] (spName K) := by
  obtain ⟨uL, hL⟩ := TN.let_
  obtain ⟨u8, h8⟩ := TN.long
  refine F.F.ok scName (fun vs H Q E h => ?_) (fun cdv A outer s H vs Q E hr h => ?_)
  · obtain ⟨_, _, rfl, _⟩ := h
    rfl
  · obtain ⟨v, o, rfl, hv, kq⟩ := h
    have nd := scName.nd
    refine ⟨_, pss_cons (ps_if (PW.pt (pw_or (pt_not (pt_val (pe_callB call_isi (by rfl) T.isinstance (by decide +kernel) (pa_cons (pv 0) (pa_cons (pe_bltn (v := .ty "str") (by rfl) T2.str (by decide +kernel) rfl) pa_nil)))))
        (pw_or1 (pt_not (pt_chain op_le op_le pe_int (pe_callB call_len_str (by rfl) T.len PySem.boot_len (pa_cons (pv 0) pa_nil)) (pe_glob (v := .int 8) (by rfl) h8 ⟨_, rfl⟩)))))) (pss_one (ps_ret pe_bl)) pss_nil)
      (pss_one (ps_ret (pe_callB (cr_all rfl) (by rfl) T.all (by decide +kernel) (pa_cons (pe_lc (own := [("sign", 1)]) (g := gName 1) (tt := tYes) rfl nd (pi_str (pv 0))
        (blkOk_by (N := ["thing", "sign"]) (sc := defScope sName) (by decide +kernel)) (fun _ _ _ _ _ => pg_name (i := 1) nd rfl (Or.inl rfl)) (fun _ _ _ _ _ => pts_nil)
        (fun _ _ _ _ _ => pe_cmpR op_in_sign (pv 1) (pe_glob (v := .str letters) (by rfl) hL ⟨_, rfl⟩) (by rfl))) pa_nil)))), ?_⟩
    obtain ⟨tv, ty, kt⟩ := hv.ty
    refine ⟨_, rfl, _, _, _, _, _, rfl, .ty _, ty, kt, _, rfl, ?_⟩
    cases o with
    | none =>
      refine ifT rfl ?_
      exact kq H (same_refl H)
    | some z =>
      refine ifF rfl ?_
      obtain ⟨rfl, hz⟩ := hv
      have e : nmB (some z) = (decide (1 ≤ z.length) && decide (z.length ≤ 8) && z.cps.toList.all fun c => decide (c ∈ letters.cps.toList)) := rfl
      refine ⟨_, rfl, z, rfl, big2 (by omega), _, _, rfl, rfl, _, rfl, ?_⟩
      refine ite2 (fun d1 => ?_) (fun d1 => ?_)
      · have d1' : 1 ≤ z.length := by have := of_decide_eq_true d1; omega
        refine ⟨_, _, rfl, rfl, _, rfl, ?_⟩
        refine ite2 (fun d2 => ?_) (fun d2 => ?_)
        · have d2' : ¬ z.length ≤ 8 := fun q => by
            rw [decide_eq_true (show (z.length : Int) ≤ 8 by omega)] at d2
            cases d2
          have k2 := kq H (same_refl H)
          rw [e, decide_eq_false d2', Bool.and_false, Bool.false_and] at k2
          exact k2
        · have d2' : z.length ≤ 8 := by
            refine Classical.byContradiction fun q => d2 ?_
            rw [decide_eq_false (show ¬ (z.length : Int) ≤ 8 by omega)]; rfl
          refine ⟨_, rfl, z, rfl, fun D hD => ?_⟩
          have zs : z.cps.size ≤ 8 := d2'
          refine lc_it walk_str (fun i H' => Same H H' ∧ H' D = some (.lst (((z.cps.toList.take i).map fun c => decide (c ∈ letters.cps.toList)).map V.bl))) ⟨same_new (same_refl H) hD, upd_same⟩ (fun _ _ _ _ => trivial) ?_ ?_
          · rintro i _ H' _ hi ⟨h1, h2⟩ ⟨rfl, c, hc, rfl⟩
            refine ⟨rfl, ?_⟩
            refine yes_kept ?_
            refine ⟨_, rfl, c, letters, rfl, rfl, ?_⟩
            refine ⟨_, h2, (by rw [List.length_map, List.length_map, List.length_take]; exact room2 (by omega)), fun b u e => by rw [upd_ne (ne_of_none e hD)]; exact h1 b u e, ?_⟩
            have hc' : z.cps.toList[i]? = some c := by rw [Array.getElem?_toList]; exact hc
            rw [upd_same, List.take_add_one, hc', List.map_append, List.map_append]; rfl
          · rintro H' ⟨h1, h2⟩
            rw [List.take_of_length_le (by rw [Array.length_toList]; exact Nat.le_refl _)] at h2
            refine ⟨D, _, rfl, SqL.of h2, ?_⟩
            have k2 := kq H' h1
            rw [e, decide_eq_true d1', decide_eq_true d2', Bool.and_self, Bool.true_and] at k2
            rw [List.all_map]
            exact k2
      · have d1' : ¬ 1 ≤ z.length := fun q => d1 (decide_eq_true (by omega))
        refine ⟨_, rfl, ?_⟩
        refine ifT rfl ?_
        have k2 := kq H (same_refl H)
        rw [e, decide_eq_false d1', Bool.false_and, Bool.false_and] at k2
        exact k2
end
end LG

set_option Elab.async false
set_option linter.all false
set_option maxRecDepth 100000
set_option maxHeartbeats 4100000
namespace LG
open PySem L2
abbrev sIsTake : Stmt := top 21
abbrev sMade : Stmt := top 22
abbrev sFit : Stmt := top 23
theorem ite_via {c : Bool} {X Y : Prop} (h : c = true → Y → X) (y : Y) : if c = true then X else Y := by
  by_cases e : c = true
  · rw [if_pos e]; exact h e y
  · rw [if_neg e]; exact y
/-! ### words as data: a text; a pair; what is neither -/
inductive Wd where
  | st (z : Str)
  | pr (o : Option Str) (t : Th)
  | no
def WdAt (K : PySem.W.Frag) (H : Hp) : Wd → V → Prop
  | .st z, v => v = .str z ∧ z.length ≤ 1000000
  | .pr o t, v => ∃ a x y, v = .ref a ∧ H a = some (.tup [x, y]) ∧ StAt K H o x ∧ (∃ tx, ThAt K H tx x) ∧ ThAt K H t y ∧ t.size ≤ 10000
  | .no, v => (∃ tv, TyX K H v tv ∧ PySem.W.kitOne K tv (.type "str") = some false) ∧ ∃ t, ThAt K H t v ∧ t.isPr = false
theorem WdAt.same {K : PySem.W.Frag} {H H' : Hp} (s : Same H H') : ∀ {w : Wd} {v : V}, WdAt K H w v → WdAt K H' w v
  | .st _, _, h => h
  | .pr _ _, _, ⟨a, x, y, e, h, h1, ⟨tx, h0⟩, h2, h3⟩ => ⟨a, x, y, e, s _ _ h, h1.same s, ⟨tx, h0.same s⟩, h2.same s, h3⟩
  | .no, _, ⟨⟨tv, a, b⟩, t, h, p⟩ => ⟨⟨tv, tyx_same s a, b⟩, t, h.same s, p⟩
/-- a word as a text asks it -/
def Wd.text : Wd → Option Str
  | .st z => some z
  | _ => none
def Wd.thing : Wd → Bool
  | .pr _ _ => true
  | _ => false
theorem WdAt.st {K : PySem.W.Frag} {H : Hp} {w : Wd} {v : V} (h : WdAt K H w v) : StAt K H w.text v := by
  cases w with
  | st z => exact h
  | pr o t =>
    obtain ⟨a, x, y, rfl, ha, _⟩ := h
    exact ⟨_, .base (.tup ha), kit_ty (r := false) (by decide +kernel)⟩
  | no => exact h.1
theorem WdAt.th {K : PySem.W.Frag} {H : Hp} {w : Wd} {v : V} (h : WdAt K H w v) : ∃ t, ThAt K H t v ∧ t.isPr = w.thing := by
  cases w with
  | st z =>
    obtain ⟨rfl, _⟩ := h
    exact ⟨.non, ⟨_, .base (.str z), kit_ty (r := false) (by decide +kernel), kit_ty (r := false) (by decide +kernel)⟩, rfl⟩
  | pr o t =>
    obtain ⟨a, x, y, rfl, ha, _, ⟨tx, hx⟩, ht, _⟩ := h
    exact ⟨.pr tx t, ⟨a, x, y, rfl, ha, hx, ht⟩, rfl⟩
  | no =>
    obtain ⟨_, t, ht, p⟩ := h
    exact ⟨t, ht, p⟩
theorem WdAt.ty {K : PySem.W.Frag} {H : Hp} {w : Wd} {v : V} (h : WdAt K H w v) : ∃ tv, TyX K H v tv ∧ PySem.W.kitOne K tv (.type "str") = some w.text.isSome := h.st.ty
/-! ### what a word is in a program; how many parts words make, from behind -/
def Wd.use : Wd → Bool
  | .st z => decide (z = "@")
  | _ => false
def Wd.name : Wd → Bool
  | .st z => nameB z
  | _ => false
def Wd.take (fit : Th → Bool) : Wd → Bool
  | .pr (some z) t => nameB z && fit t
  | _ => false
def stepC (fit : Th → Bool) (w : Wd) (m : Nat) : Option Nat := if w.use = true then (if m < 2 then none else some (m - 1)) else if w.name = true then some (m + 1) else if decide (m < 1) || !w.take fit then none else some m
def cntC (fit : Th → Bool) : List Wd → Option Nat
  | [] => some 0
  | w :: r => (cntC fit r).bind (stepC fit w)
def progB (fit : Th → Bool) (ws : List Wd) : Bool := decide (cntC fit ws = some 1)
theorem cnt_le {fit : Th → Bool} : ∀ {ws : List Wd} {m : Nat}, cntC fit ws = some m → m ≤ ws.length
  | [], m, h => by cases h; exact Nat.le_refl _
  | w :: r, m, h => by
    cases e : cntC fit r with
    | none => rw [cntC, e] at h; cases h
    | some k =>
      have := cnt_le e
      rw [cntC, e] at h
      have h : stepC fit w k = some m := h
      rw [List.length_cons]
      unfold stepC at h
      split at h
      · split at h
        · cases h
        · cases h; omega
      · split at h
        · cases h; omega
        · split at h
          · cases h
          · cases h; omega
/-- words, one by one -/
def WdsAt (K : PySem.W.Frag) (H : Hp) (ws : List Wd) (vs : List V) : Prop := vs.length = ws.length ∧ ∀ (i : Nat) w v, ws[i]? = some w → vs[i]? = some v → WdAt K H w v
theorem WdsAt.same {K : PySem.W.Frag} {H H' : Hp} {ws : List Wd} {vs : List V} (h : WdsAt K H ws vs) (s : Same H H') : WdsAt K H' ws vs := ⟨h.1, fun i w v a b => (h.2 i w v a b).same s⟩
/-- a program's words at a tuple -/
def PgAt (K : PySem.W.Frag) (H : Hp) (ws : List Wd) (v : V) : Prop := ∃ a vs, v = .ref a ∧ H a = some (.tup vs) ∧ WdsAt K H ws vs ∧ ws.length ≤ 1000000
theorem PgAt.same {K : PySem.W.Frag} {H H' : Hp} {ws : List Wd} {v : V} (h : PgAt K H ws v) (s : Same H H') : PgAt K H' ws v := by
  obtain ⟨a, vs, e, ha, hw, l⟩ := h
  exact ⟨a, vs, e, s _ _ ha, hw.same s, l⟩
def spIsTake (K : PySem.W.Frag) : Sp := fun vs H Q _ => ∃ (v : V) (w : Wd), vs = [v] ∧ WdAt K H w v ∧ w ≠ .no ∧ Q (.bl w.thing) H
def spFitF (K : PySem.W.Frag) (fit : Th → Bool) : Sp := fun vs H Q _ => ∃ (v : V) (t : Th), vs = [v] ∧ ThAt K H t v ∧ t.size ≤ 10000 ∧ ∀ H', Same H H' → Q (.bl (fit t)) H'
def spFit (K : PySem.W.Frag) (g : Addr) (fit : Th → Bool) : Sp := fun vs H Q _ => ∃ (v : V) (w : Wd), vs = [v, .ref g] ∧ WdAt K H w v ∧ ∀ H', Same H H' → Q (.bl (w.take fit)) H'
def spMade (K : PySem.W.Frag) (g : Addr) (fit : Th → Bool) : Sp := fun vs H Q _ => ∃ (v : V) (ws : List Wd), vs = [v, .ref g] ∧ PgAt K H ws v ∧ ∀ H', Same H H' → Q (.bl (progB fit ws)) H'
section
variable {P : Program} {w : World} {K : PySem.W.Frag} {mg : Str → Option Value} {base : Heap}
theorem scIsTake : FnScope ["word"] ["word"] (defScope sIsTake) := ⟨rfl, rfl, rfl, by decide +kernel, rfl, by decide +kernel, by decide +kernel⟩
theorem ok_isTake {f : Addr} {fd : FuncData} (F : Fn K mg "is_take" sIsTake ["word"] f fd) (T : TxB mg) (T2 : TxD mg) : FnOk P w K mg base CX0 1 f fd ["word"] (spIsTake K) := by
  refine F.F.ok scIsTake (fun vs H Q E h => ?_) (fun cdv A outer s H vs Q E hr h => ?_)
  · obtain ⟨_, _, rfl, _⟩ := h
    rfl
  · obtain ⟨v, w, rfl, hv, hn, kq⟩ := h
    refine ⟨_, pss_one (ps_ret (pe_callB call_isi (by rfl) T.isinstance (by decide +kernel) (pa_cons (pv 0) (pa_cons (pe_bltn (v := .ty "tuple") (by rfl) T2.tuple (by decide +kernel) rfl) pa_nil)))), ?_⟩
    obtain ⟨tv, ty, kt⟩ : ∃ tv, TyX K H v tv ∧ PySem.W.kitOne K tv (.type "tuple") = some w.thing := by
      cases w with
      | st z =>
        obtain ⟨rfl, _⟩ := hv
        exact ⟨_, .base (.str z), kit_ty (r := false) (by decide +kernel)⟩
      | pr o t =>
        obtain ⟨a, x, y, rfl, ha, _⟩ := hv
        exact ⟨_, .base (.tup ha), kit_ty (r := true) (by decide +kernel)⟩
      | no => exact absurd rfl hn
    exact ⟨_, rfl, _, _, _, _, _, rfl, .ty _, ty, kt, kq⟩
theorem scFit : FnScope ["word", "is_fit"] ["word", "is_fit"] (defScope sFit) := ⟨rfl, rfl, rfl, by decide +kernel, rfl, by decide +kernel, by decide +kernel⟩
theorem ok_fit {f fP fN g : Addr} {fd fdP fdN gd : FuncData} {n : Nat} {fit : Th → Bool} (F : Fn K mg "_is_fit_take" sFit ["word", "is_fit"] f fd) (NP : Fn K mg "is_pair" sPair ["thing"] fP fdP) (NN : Fn K mg "is_name" sName ["thing"] fN fdN)
    (GG : FnOk P w K mg base CX0 n g gd ["thing"] (spFitF K fit)) (kG : PySem.W.keepIn K (.ref g) = true) (bG : Binds K gd ["thing"] []) (hn : 1 ≤ n) (T : TxB mg) (T2 : TxK mg) (TN : TxN mg) : FnOk P w K mg base CX0 (n + 1) f fd ["word", "is_fit"] (spFit K g fit) := by
  have GP : FnOk P w K mg base CX0 1 fP fdP ["thing"] (spPair K) := ok_pair NP T T2
  have GN : FnOk P w K mg base CX0 1 fN fdN ["thing"] (spName K) := ok_name NN T T2.toTxD TN
  refine F.F.ok scFit (fun vs H Q E h => ?_) (fun cdv A outer s H vs Q E hr h => ?_)
  · obtain ⟨_, _, rfl, _⟩ := h
    rfl
  · obtain ⟨v, w, rfl, hv, kq⟩ := h
    have hr1 := hr.mono hn
    refine ⟨_, pss_one (ps_ret (pe_and (pe_call GP hr1 (by rfl) NP.m NP.F.kp NP.b .nil pass0 (pa_cons (pv 0) pa_nil)) (pe_and (pe_call GN hr1 (by rfl) NN.m NN.F.kp NN.b .nil pass0 (pa_cons (pe_ix ix_tup (pv 0) pe_int (fun _ _ => rfl)) pa_nil))
      (pe_one (pe_callL (i := 1) GG hr rfl (.inl rfl) kG bG .nil pass0 (pa_cons (pe_ix ix_tup (pv 0) pe_int (fun _ _ => rfl)) pa_nil)))))), ?_⟩
    obtain ⟨t, ht, pt⟩ := hv.th
    refine ⟨_, rfl, v, t, rfl, ht, _, rfl, ?_⟩
    rw [pt]
    have s0 := same_refl H
    cases w with
    | st z => exact iteF (kq H s0)
    | no => exact iteF (kq H s0)
    | pr o tk =>
      refine iteT ?_
      obtain ⟨a, x, y, rfl, ha, hx, _, hy, hz⟩ := hv
      refine ⟨_, rfl, a, _, _, _, rfl, rfl, SqT.of ha, rfl, x, o, rfl, hx, fun H1 s1 => ⟨_, rfl, ?_⟩⟩
      cases o with
      | none => exact iteF (kq H1 s1)
      | some z =>
        have e : (Wd.pr (some z) tk).take fit = (nameB z && fit tk) := rfl
        refine ite2 (fun c => ?_) (fun c => ?_)
        · have c : nameB z = true := c
          rw [e, c, Bool.true_and] at kq
          exact ⟨rfl, _, rfl, a, _, _, _, rfl, rfl, SqT.of (s1 _ _ ha), rfl, y, tk, rfl, hy.same s1, hz, fun H2 s2 => kq H2 (same_trans s1 s2)⟩
        · have c : nameB z = false := Bool.eq_false_iff.mpr c
          rw [e, c, Bool.false_and] at kq
          exact kq H1 s1
theorem scMade : FnScope ["thing", "is_fit", "many", "word"] ["thing", "is_fit"] (defScope sMade) := ⟨rfl, rfl, rfl, by decide +kernel, rfl, by decide +kernel, by decide +kernel⟩
theorem ok_made {f fF fP fN g : Addr} {fd fdF fdP fdN gd : FuncData} {n : Nat} {fit : Th → Bool} (F : Fn K mg "is_made_of_words" sMade ["thing", "is_fit"] f fd) (NF : Fn K mg "_is_fit_take" sFit ["word", "is_fit"] fF fdF) (NP : Fn K mg "is_pair" sPair ["thing"] fP fdP) (NN : Fn K mg "is_name" sName ["thing"] fN fdN)
    (GG : FnOk P w K mg base CX0 n g gd ["thing"] (spFitF K fit)) (kG : PySem.W.keepIn K (.ref g) = true) (bG : Binds K gd ["thing"] []) (hn : 1 ≤ n) (hu : ∃ u, mg "USE" = some (.str "@" u)) (T : TxB mg) (T2 : TxK mg) (TN : TxN mg) : FnOk P w K mg base CX0 (n + 2) f fd ["thing", "is_fit"] (spMade K g fit) := by
  have GF : FnOk P w K mg base CX0 (n + 1) fF fdF ["word", "is_fit"] (spFit K g fit) := ok_fit NF NP NN GG kG bG hn T T2 TN
  have GN : FnOk P w K mg base CX0 1 fN fdN ["thing"] (spName K) := ok_name NN T T2.toTxD TN
  obtain ⟨uU, hU⟩ := hu
  refine F.F.ok scMade (fun vs H Q E h => ?_) (fun cdv A outer s H vs Q E hr h => ?_)
  · obtain ⟨_, _, rfl, _⟩ := h
    rfl
  · obtain ⟨v, ws, rfl, hv, kq⟩ := h
    have nd := scMade.nd
    have hr1 := hr.mono (show 1 ≤ n + 1 by omega)
    refine ⟨_, pss_cons (ps_if (pt_not (pt_val (pe_callB call_isi (by rfl) T.isinstance (by decide +kernel) (pa_cons (pv 0) (pa_cons (pe_bltn (v := .ty "tuple") (by rfl) T2.tuple (by decide +kernel) rfl) pa_nil))))) (pss_one (ps_ret pe_bl)) pss_nil)
      (pss_cons (ps_set (i := 2) nd rfl (Or.inl rfl) pe_int)
      (pss_cons (ps_for PassesOwn.never rfl (RT.pi_revA (by rfl) T2.reversed (pv 0)) (pg_name (i := 3) nd rfl (Or.inl rfl))
        (pss_one (ps_if (PW.pt (pw_and (pt_val (pe_callB call_isi (by rfl) T.isinstance (by decide +kernel) (pa_cons (pv 3) (pa_cons (pe_bltn (v := .ty "str") (by rfl) T2.str (by decide +kernel) rfl) pa_nil)))) (pw_and1 (pt_cmpR op_eq (pv 3) (pe_glob (v := .str "@") (by rfl) hU ⟨_, rfl⟩) (nomark _)))))
          (pss_cons (ps_if (pt_cmpR op_lt (pv 2) pe_int (nomark _)) (pss_one (ps_ret pe_bl)) pss_nil) (pss_one (ps_aug (i := 2) nd rfl (.inl rfl) pe_int ip_sub)))
          (pss_one (ps_if (pt_val (pe_call GN hr1 (by rfl) NN.m NN.F.kp NN.b .nil pass0 (pa_cons (pv 3) pa_nil))) (pss_one (ps_aug (i := 2) nd rfl (.inl rfl) pe_int ip_add))
            (pss_one (ps_if (PW.pt (pw_or (pt_cmpR op_lt (pv 2) pe_int (nomark _)) (pw_or1 (pt_not (pt_val (pe_call GF hr (by rfl) NF.m NF.F.kp NF.b .nil pass0 (pa_cons (pv 3) (pa_cons (pv 1) pa_nil)))))))) (pss_one (ps_ret pe_bl)) pss_nil)))))))
      (pss_one (ps_ret (pe_cmpR op_eq (pv 2) pe_int (nomark _)))))), ?_⟩
    obtain ⟨a, vs, rfl, ha, hw, hl⟩ := hv
    have lv := hw.1
    refine ⟨_, rfl, _, _, _, _, _, rfl, .ty _, .base (.tup ha), kit_ty (r := true) (by decide +kernel), _, rfl, ?_⟩
    refine ifF rfl ?_
    refine ⟨_, rfl, a, _, rfl, .inr ⟨SqT.of ha, ?_⟩⟩
    have walk_revT : Walk (RT.ItvT K a vs.length) vs.length (fun H => SqT K H a vs) (fun i H x H' => H' = H ∧ vs[vs.length - 1 - i]? = some x) :=
      ⟨fun i H hi h => ⟨hi, vs, vs[vs.length - 1 - i], h, List.getElem?_eq_getElem (by omega)⟩, fun H _ => Nat.le_refl _, fun i H x H' _ h y => ⟨y.1, y.2 vs h⟩⟩
    -- none from behind: no program
    have bad : ∀ i, i ≤ ws.length → cntC fit (ws.drop (ws.length - i)) = none → cntC fit ws = none := fun i => by
      intro hi h
      have key : ∀ k, k ≤ ws.length → cntC fit (ws.drop k) = none → cntC fit ws = none := by
        intro k
        induction k with
        | zero => intro _ h; rwa [List.drop_zero] at h
        | succ k ih =>
          intro hk h
          refine ih (by omega) ?_
          rw [List.drop_eq_getElem_cons (by omega), cntC, h]; rfl
      exact key _ (by omega) h
    refine for_it walk_revT (fun i σ H' => ∃ (m : Nat) (t3 : Option V), σ = [some (.ref a), some (.ref g), some (.int (m : Int)), t3] ∧ Same H H' ∧ cntC fit (ws.drop (ws.length - i)) = some m) ⟨0, none, rfl, same_refl H, by rw [Nat.sub_zero, List.drop_length]; rfl⟩ (fun i σ H' _ ⟨_, _, _, s, _⟩ => SqT.of (s _ _ ha)) ?_ ?_
    · rintro i x σ H0 H1 hi ⟨m, t3, rfl, s1, hm⟩ ⟨rfl, hx⟩
      have hj : ws.length - 1 - i < ws.length := by omega
      have hwj : ws[ws.length - 1 - i]? = some ws[ws.length - 1 - i] := List.getElem?_eq_getElem hj
      rw [lv] at hx
      have wd := (hw.2 _ _ _ hwj hx).same s1
      generalize ws[ws.length - 1 - i] = wj at hwj wd
      have nx : cntC fit (ws.drop (ws.length - (i + 1))) = stepC fit wj m := by
        have e1 : ws.length - (i + 1) = ws.length - 1 - i := by omega
        have e2 : ws.length - 1 - i + 1 = ws.length - i := by omega
        rw [e1, List.drop_eq_getElem_cons hj, e2, cntC, hm]
        rw [List.getElem?_eq_getElem hj] at hwj
        rw [Option.some.inj hwj]; rfl
      have ml := cnt_le hm
      rw [List.length_drop] at ml
      have dead : stepC fit wj m = none → progB fit ws = false := fun e => by
        unfold progB
        rw [bad (i + 1) (by omega) (nx.trans e)]
        exact decide_eq_false (fun z => by cases z)
      obtain ⟨tv, ty, kt⟩ := wd.ty
      by_cases hU' : wj.use = true
      · obtain ⟨z, rfl⟩ : ∃ z, wj = .st z := by
          cases wj with
          | st z => exact ⟨z, rfl⟩
          | pr o t => cases hU'
          | no => cases hU'
        obtain rfl : z = "@" := of_decide_eq_true hU'
        obtain ⟨rfl, _⟩ := wd
        refine ⟨_, rfl, _, _, _, _, _, rfl, .ty _, ty, kt, _, rfl, ?_⟩
        refine ifT rfl ?_
        refine ⟨_, rfl, rfl, _, rfl, ?_⟩
        refine ifT (decide_eq_true rfl) ?_
        refine ⟨_, rfl, _, _, rfl, rfl, _, rfl, ?_⟩
        have st : stepC fit (.st "@") m = if m < 2 then none else some (m - 1) := rfl
        refine ite2 (fun c => ?_) (fun c => ?_)
        · have c2 : m < 2 := by have := of_decide_eq_true c; omega
          rw [if_pos c2] at st
          have k2 := kq H1 s1
          rw [dead st] at k2
          exact k2
        · have c2 : ¬ m < 2 := fun q => c (decide_eq_true (by omega))
          rw [if_neg c2] at st
          refine ⟨_, rfl, _, _, rfl, rfl, m - 1, some (.str "@"), ?_, s1, nx.trans st⟩
          show [some (V.ref a), some (V.ref g), some (V.int ((m : Int) - 1)), some (.str "@")] = _
          rw [show (m : Int) - 1 = ((m - 1 : Nat) : Int) by omega]
      · have nu : wj.use = false := Bool.eq_false_iff.mpr hU'
        refine ⟨_, rfl, _, _, _, _, _, rfl, .ty _, ty, kt, _, rfl, ?_⟩
        refine ite_via (fun c y => ?_) ?_
        · cases wj with
          | st z =>
            obtain ⟨rfl, _⟩ := wd
            refine ⟨_, rfl, rfl, _, rfl, ?_⟩
            refine ifF (decide_eq_false fun e => ?_) y
            have : (Wd.st z).use = true := decide_eq_true (V.str.inj e)
            rw [nu] at this; cases this
          | pr o t => cases c
          | no => cases c
        · have st : stepC fit wj m = if wj.name = true then some (m + 1) else if decide (m < 1) || !wj.take fit then none else some m := by
            unfold stepC
            rw [nu, if_neg Bool.false_ne_true]
          refine ⟨_, rfl, x, wj.text, rfl, wd.st, fun H2 s2 => ⟨_, rfl, ?_⟩⟩
          have s12 := same_trans s1 s2
          have en : nmB wj.text = wj.name := by cases wj <;> rfl
          rw [en]
          refine ite2 (fun c => ?_) (fun c => ?_)
          · rw [if_pos c] at st
            exact ⟨_, rfl, _, _, rfl, rfl, m + 1, some x, rfl, s12, nx.trans st⟩
          · rw [if_neg c] at st
            refine ⟨_, rfl, _, _, rfl, rfl, _, rfl, ?_⟩
            refine ite2 (fun d => ?_) (fun d => ?_)
            · have d2 : decide (m < 1) = true := decide_eq_true (by have := of_decide_eq_true d; omega)
              rw [d2, Bool.true_or, if_pos rfl] at st
              have k2 := kq H2 s12
              rw [dead st] at k2
              exact k2
            · have d2 : decide (m < 1) = false := decide_eq_false fun q => d (decide_eq_true (by omega))
              rw [d2, Bool.false_or] at st
              refine ⟨_, rfl, _, rfl, x, wj, rfl, wd.same s2, fun H3 s3 => ⟨_, rfl, ?_⟩⟩
              have s13 := same_trans s12 s3
              refine ite2 (fun e => ?_) (fun e => ?_)
              · rw [if_pos e] at st
                have k2 := kq H3 s13
                rw [dead st] at k2
                exact k2
              · rw [if_neg e] at st
                exact ⟨m, _, rfl, s13, nx.trans st⟩
    · rintro σ H1 ⟨m, t3, rfl, s1, hm⟩
      rw [lv, Nat.sub_self, List.drop_zero] at hm
      refine ⟨_, rfl, rfl, ?_⟩
      have e : progB fit ws = decide (V.int (m : Int) = V.int 1) := by
        unfold progB
        rw [hm, Bool.eq_iff_iff, decide_eq_true_eq, decide_eq_true_eq]
        exact ⟨fun h => by rw [Option.some.inj h]; rfl, fun h => by have := V.int.inj h; congr 1; omega⟩
      have k2 := kq H1 s1
      rw [e] at k2
      exact k2
end
end LG

set_option Elab.async false
set_option linter.all false
set_option maxRecDepth 100000
namespace LG
open PySem L2
/-! ### where parts end: mathematics alone -/
/-- the lengths of the parts that words make, one behind another -/
def pend : List Wd → Option (List Nat)
  | [] => some []
  | w :: r => match pend r with
    | none => none
    | some l => if w.use = true then (match l with
        | a :: b :: l' => some ((a + b + 1) :: l')
        | _ => none)
      else if w.thing = true then (match l with
        | a :: l' => some ((a + 1) :: l')
        | _ => none)
      else some (1 :: l)
theorem pend_use {w : Wd} {r : List Wd} {x : List Nat} (h : pend (w :: r) = some x) (u : w.use = true) : ∃ a b l, pend r = some (a :: b :: l) ∧ x = (a + b + 1) :: l := by
  unfold pend at h
  cases e : pend r with
  | none => (rw [e] at h; cases h)
  | some l =>
    rw [e] at h
    simp only [u, if_true] at h
    match l, h with
    | a :: b :: l', h => cases h; exact ⟨a, b, l', rfl, rfl⟩
theorem pend_take {w : Wd} {r : List Wd} {x : List Nat} (h : pend (w :: r) = some x) (u : w.use = false) (t : w.thing = true) : ∃ a l, pend r = some (a :: l) ∧ x = (a + 1) :: l := by
  unfold pend at h
  cases e : pend r with
  | none => (rw [e] at h; cases h)
  | some l =>
    rw [e] at h
    simp only [u, t, if_true, Bool.false_eq_true, if_false] at h
    match l, h with
    | a :: l', h => cases h; exact ⟨a, l', rfl, rfl⟩
theorem pend_name {w : Wd} {r : List Wd} {x : List Nat} (h : pend (w :: r) = some x) (u : w.use = false) (t : w.thing = false) : ∃ l, pend r = some l ∧ x = 1 :: l := by
  unfold pend at h
  cases e : pend r with
  | none => (rw [e] at h; cases h)
  | some l =>
    rw [e] at h
    simp only [u, t, Bool.false_eq_true, if_false] at h
    cases h; exact ⟨l, rfl, rfl⟩
theorem pend_tail {w : Wd} {r : List Wd} {x : List Nat} (h : pend (w :: r) = some x) : ∃ l, pend r = some l := by
  cases u : w.use with
  | true => obtain ⟨a, b, l, e, _⟩ := pend_use h u; exact ⟨_, e⟩
  | false =>
    cases t : w.thing with
    | true => obtain ⟨a, l, e, _⟩ := pend_take h u t; exact ⟨_, e⟩
    | false => obtain ⟨l, e, _⟩ := pend_name h u t; exact ⟨_, e⟩
theorem use_thing {w : Wd} (h : w.use = true) : w.thing = false := by cases w <;> first | rfl | cases h
theorem name_thing {w : Wd} (h : w.name = true) : w.thing = false := by cases w <;> first | rfl | cases h
theorem take_thing {fit : Th → Bool} {w : Wd} (h : w.take fit = true) : w.thing = true := by cases w <;> first | rfl | cases h
theorem cnt_pend {fit : Th → Bool} : ∀ {ws : List Wd} {m : Nat}, cntC fit ws = some m → ∃ l, pend ws = some l ∧ l.length = m ∧ l.sum = ws.length
  | [], m, h => by cases h; exact ⟨[], rfl, rfl, rfl⟩
  | w :: r, m, h => by
    cases e : cntC fit r with
    | none => rw [cntC, e] at h; cases h
    | some k =>
      obtain ⟨l, e1, e2, e3⟩ := cnt_pend e
      rw [cntC, e] at h
      have h : stepC fit w k = some m := h
      unfold stepC at h
      unfold pend
      rw [e1]
      by_cases u : w.use = true
      · rw [if_pos u] at h
        simp only [u, if_true]
        by_cases k2 : k < 2
        · rw [if_pos k2] at h; cases h
        · rw [if_neg k2] at h
          cases h
          match l, e2, e3 with
          | a :: b :: l', e2, e3 =>
            refine ⟨_, rfl, ?_, ?_⟩
            · simp only [List.length_cons] at e2 ⊢; omega
            · simp only [List.sum_cons, List.length_cons] at e3 ⊢; omega
          | [], e2, _ => simp at e2; omega
          | [a], e2, _ => simp at e2; omega
      · rw [if_neg u] at h
        have u : w.use = false := Bool.eq_false_iff.mpr u
        by_cases nm : w.name = true
        · rw [if_pos nm] at h
          cases h
          simp only [u, name_thing nm, Bool.false_eq_true, if_false]
          exact ⟨_, rfl, by rw [List.length_cons, e2], by rw [List.sum_cons, List.length_cons, e3]; omega⟩
        · rw [if_neg nm] at h
          by_cases bad : (decide (k < 1) || !w.take fit) = true
          · rw [if_pos bad] at h; cases h
          · rw [if_neg bad] at h
            cases h
            have tk : w.take fit = true := by
              cases q : w.take fit with
              | true => rfl
              | false => rw [q] at bad; simp at bad
            have k1 : ¬ m < 1 := fun q => bad (by rw [decide_eq_true q]; rfl)
            simp only [u, take_thing tk, if_true, Bool.false_eq_true, if_false]
            match l, e2, e3 with
            | a :: l', e2, e3 =>
              refine ⟨_, rfl, ?_, ?_⟩
              · simpa using e2
              · simp only [List.sum_cons, List.length_cons] at e3 ⊢; omega
            | [], e2, _ => simp at e2; omega
theorem pend_drop : ∀ {ws : List Wd} {x : List Nat}, pend ws = some x → ∀ i, ∃ l, pend (ws.drop i) = some l
  | ws, x, h, 0 => ⟨x, h⟩
  | [], x, h, i + 1 => ⟨[], rfl⟩
  | w :: r, x, h, i + 1 => by
    obtain ⟨l, e⟩ := pend_tail h
    exact pend_drop e i
theorem pend_sum : ∀ {ws : List Wd} {x : List Nat}, pend ws = some x → x.sum = ws.length
  | [], x, h => by cases h; rfl
  | w :: r, x, h => by
    cases u : w.use with
    | true => obtain ⟨a, b, l, e, rfl⟩ := pend_use h u; have := pend_sum e; simp only [List.sum_cons, List.length_cons] at this ⊢; omega
    | false =>
      cases t : w.thing with
      | true => obtain ⟨a, l, e, rfl⟩ := pend_take h u t; have := pend_sum e; simp only [List.sum_cons, List.length_cons] at this ⊢; omega
      | false => obtain ⟨l, e, rfl⟩ := pend_name h u t; have := pend_sum e; simp only [List.sum_cons, List.length_cons] at this ⊢; omega
theorem pend_pos : ∀ {ws : List Wd} {x : List Nat}, pend ws = some x → ∀ a ∈ x, 0 < a
  | [], x, h, a, ha => by cases h; cases ha
  | w :: r, x, h, a, ha => by
    cases u : w.use with
    | true =>
      obtain ⟨a', b, l, e, rfl⟩ := pend_use h u
      rcases List.mem_cons.mp ha with q | q
      · omega
      · exact pend_pos e a (List.mem_cons_of_mem _ (List.mem_cons_of_mem _ q))
    | false =>
      cases t : w.thing with
      | true =>
        obtain ⟨a', l, e, rfl⟩ := pend_take h u t
        rcases List.mem_cons.mp ha with q | q
        · omega
        · exact pend_pos e a (List.mem_cons_of_mem _ q)
      | false =>
        obtain ⟨l, e, rfl⟩ := pend_name h u t
        rcases List.mem_cons.mp ha with q | q
        · omega
        · exact pend_pos e a q
/-- behind the first part -/
theorem pend_skip : ∀ (n : Nat) {ws : List Wd} {a : Nat} {l : List Nat}, ws.length ≤ n → pend ws = some (a :: l) → pend (ws.drop a) = some l
  | _, [], a, l, _, h => by cases h
  | 0, w :: r, a, l, hn, _ => by simp at hn
  | n + 1, w :: r, a, l, hn, h => by
    rw [List.length_cons] at hn
    cases u : w.use with
    | true =>
      obtain ⟨a', b, l', e, q⟩ := pend_use h u
      cases q
      have h1 := pend_skip n (by omega) e
      have h2 := pend_skip n (by rw [List.length_drop]; omega) h1
      rw [List.drop_drop] at h2
      show pend ((w :: r).drop (a' + b + 1)) = _
      rw [List.drop_succ_cons]
      exact h2
    | false =>
      cases t : w.thing with
      | true =>
        obtain ⟨a', l', e, q⟩ := pend_take h u t
        cases q
        show pend ((w :: r).drop (a' + 1)) = _
        rw [List.drop_succ_cons]
        exact pend_skip n (by omega) e
      | false =>
        obtain ⟨l', e, q⟩ := pend_name h u t
        cases q
        exact e
/-- what begins within the first part ends there -/
theorem pend_nest : ∀ (n : Nat) {ws : List Wd} {a : Nat} {l : List Nat}, ws.length ≤ n → pend ws = some (a :: l) → ∀ j, j < a → ∃ b l', pend (ws.drop j) = some (b :: l') ∧ j + b ≤ a
  | _, [], a, l, _, h => by cases h
  | 0, w :: r, a, l, hn, _ => by simp at hn
  | n + 1, w :: r, a, l, hn, h => by
    intro j hj
    rw [List.length_cons] at hn
    cases j with
    | zero => exact ⟨a, l, h, by omega⟩
    | succ j =>
      rw [List.drop_succ_cons]
      cases u : w.use with
      | true =>
        obtain ⟨a', b, l', e, q⟩ := pend_use h u
        cases q
        by_cases c : j < a'
        · obtain ⟨b', l'', e1, e2⟩ := pend_nest n (by omega) e j c
          exact ⟨b', l'', e1, by omega⟩
        · have h1 := pend_skip n (by omega) e
          obtain ⟨b', l'', e1, e2⟩ := pend_nest n (by rw [List.length_drop]; omega) h1 (j - a') (by omega)
          rw [List.drop_drop, show a' + (j - a') = j by omega] at e1
          exact ⟨b', l'', e1, by omega⟩
      | false =>
        cases t : w.thing with
        | true =>
          obtain ⟨a', l', e, q⟩ := pend_take h u t
          cases q
          obtain ⟨b', l'', e1, e2⟩ := pend_nest n (by omega) e j (by omega)
          exact ⟨b', l'', e1, by omega⟩
        | false =>
          obtain ⟨l', e, q⟩ := pend_name h u t
          cases q
          omega
/-- words that make just one part -/
def Whole (ws : List Wd) : Prop := pend ws = some [ws.length]
theorem whole_of {fit : Th → Bool} {ws : List Wd} (h : progB fit ws = true) : Whole ws := by
  obtain ⟨l, e1, e2, e3⟩ := cnt_pend (of_decide_eq_true h)
  match l, e2, e3 with
  | [a], _, e3 =>
    have : a = ws.length := by simpa using e3
    subst this
    exact e1
/-- the place behind the part at a place -/
def ofE (ws : List Wd) (i : Nat) : Nat := i + ((pend (ws.drop i)).getD []).headD 0
theorem ofE_eq {ws : List Wd} {i a : Nat} {l : List Nat} (h : pend (ws.drop i) = some (a :: l)) : ofE ws i = i + a := by unfold ofE; rw [h]; rfl
section
variable {ws : List Wd}
theorem Whole.at (h : Whole ws) {i : Nat} (hi : i < ws.length) : ∃ a l, pend (ws.drop i) = some (a :: l) ∧ 0 < a ∧ i + a ≤ ws.length ∧ ofE ws i = i + a := by
  obtain ⟨b, l, e, le⟩ := pend_nest _ (Nat.le_refl _) h i hi
  exact ⟨b, l, e, pend_pos e b List.mem_cons_self, le, ofE_eq e⟩
theorem Whole.lt (h : Whole ws) {i : Nat} (hi : i < ws.length) : i < ofE ws i ∧ ofE ws i ≤ ws.length := by
  obtain ⟨a, l, _, a0, le, e⟩ := h.at hi
  omega
theorem Whole.nest (h : Whole ws) {i j : Nat} (hi : i < ws.length) (hij : i ≤ j) (hj : j < ofE ws i) : ofE ws j ≤ ofE ws i := by
  obtain ⟨a, l, e, a0, le, ee⟩ := h.at hi
  obtain ⟨b, l', e1, e2⟩ := pend_nest _ (Nat.le_refl _) e (j - i) (by omega)
  rw [List.drop_drop, show i + (j - i) = j by omega] at e1
  rw [ofE_eq e1, ee]
  omega
theorem Whole.drop_cons (hi : i < ws.length) : ws.drop i = ws[i] :: ws.drop (i + 1) := List.drop_eq_getElem_cons hi
theorem Whole.name (h : Whole ws) {i : Nat} {w : Wd} (hw : ws[i]? = some w) (u : w.use = false) (t : w.thing = false) : ofE ws i = i + 1 := by
  have hi := (List.getElem?_eq_some_iff.mp hw).1
  have ew := (List.getElem?_eq_some_iff.mp hw).2
  obtain ⟨a, l, e, _, _, ee⟩ := h.at hi
  have e' := e
  rw [List.drop_eq_getElem_cons hi, ew] at e'
  obtain ⟨l', _, q⟩ := pend_name e' u t
  cases q
  exact ee
theorem Whole.take (h : Whole ws) {i : Nat} {w : Wd} (hw : ws[i]? = some w) (t : w.thing = true) : i + 1 < ws.length ∧ ofE ws i = ofE ws (i + 1) := by
  have hi := (List.getElem?_eq_some_iff.mp hw).1
  have ew := (List.getElem?_eq_some_iff.mp hw).2
  have u : w.use = false := by cases w <;> first | rfl | cases t
  obtain ⟨a, l, e, _, le, ee⟩ := h.at hi
  have e' := e
  rw [List.drop_eq_getElem_cons hi, ew] at e'
  obtain ⟨a', l', e1, q⟩ := pend_take e' u t
  cases q
  have := pend_pos e1 a' List.mem_cons_self
  rw [ofE_eq e1, ee]
  omega
theorem Whole.use (h : Whole ws) {i : Nat} {w : Wd} (hw : ws[i]? = some w) (u : w.use = true) : i + 1 < ws.length ∧ ofE ws (i + 1) < ws.length ∧ ofE ws i = ofE ws (ofE ws (i + 1)) := by
  have hi := (List.getElem?_eq_some_iff.mp hw).1
  have ew := (List.getElem?_eq_some_iff.mp hw).2
  obtain ⟨a, l, e, _, le, ee⟩ := h.at hi
  have e' := e
  rw [List.drop_eq_getElem_cons hi, ew] at e'
  obtain ⟨a', b, l', e1, q⟩ := pend_use e' u
  cases q
  have p1 := pend_pos e1 a' List.mem_cons_self
  have p2 := pend_pos e1 b (List.mem_cons_of_mem _ List.mem_cons_self)
  have e2 := pend_skip _ (Nat.le_refl _) e1
  rw [List.drop_drop] at e2
  rw [ofE_eq e1, ofE_eq e2, ee]
  omega
end
/-- the ends of the parts that wait, the next one first -/
def stk : Nat → List Nat → List Nat
  | _, [] => []
  | i, a :: l => (i + a) :: stk (i + a) l
end LG

set_option Elab.async false
set_option linter.all false
set_option maxRecDepth 100000
namespace LG
open PySem L2
/-- a text against a text or a tuple -/
def eqW (K : PySem.W.Frag) (x y : V) (H : Hp) (b : Bool) : Prop := (∃ i j, x = .str i ∧ y = .str j ∧ b = decide (V.str i = V.str j)) ∨ (∃ a l j, x = .ref a ∧ SqT K H a l ∧ y = .str j ∧ b = false) ∨ (∃ a l j, y = .ref a ∧ SqT K H a l ∧ x = .str j ∧ b = false)
def rEqW (K : PySem.W.Frag) : R2 := fun x y H Q => ∃ b, eqW K x y H b ∧ Q (.bl b) H
def rNeW (K : PySem.W.Frag) : R2 := fun x y H Q => ∃ b, eqW K x y H b ∧ Q (.bl (!b)) H
section
variable {X : Cx}
theorem op_eqW (hu : X.A.units < cLine) : OpR X (compareOp .Eq) (rEqW X.K) := by
  (intro pins s σ H x y v u Q I rx ry h)
  obtain ⟨b, h, q⟩ := h
  rcases h with ⟨i, j, rfl, rfl, rfl⟩ | ⟨a, l, j, rfl, hs, rfl, rfl⟩ | ⟨a, l, j, rfl, hs, rfl, rfl⟩
  · exact op_eq pins s σ H _ _ v u Q I rx ry ⟨rfl, q⟩
  · (cases (show v = Value.ref a from rx))
    obtain ⟨t', rfl⟩ := ry
    obtain ⟨its, _, p, _⟩ := I.tuple hs
    exact SeqAt.RcAt.tuple_str j t' p hu _ _ _ _ ⟨.bl false, H, I, rfl, q⟩
  · cases (show u = Value.ref a from ry)
    obtain ⟨t', rfl⟩ := rx
    obtain ⟨its, _, p, _⟩ := I.tuple hs
    exact SeqAt.RcAt.str_tuple j t' p hu _ _ _ _ ⟨.bl false, H, I, rfl, q⟩
theorem op_neW (hu : X.A.units < cLine) : OpR X (compareOp .NotEq) (rNeW X.K) := by
  (intro pins s σ H x y v u Q I rx ry h)
  obtain ⟨b, h, q⟩ := h
  rcases h with ⟨i, j, rfl, rfl, rfl⟩ | ⟨a, l, j, rfl, hs, rfl, rfl⟩ | ⟨a, l, j, rfl, hs, rfl, rfl⟩
  · exact op_ne pins s σ H _ _ v u Q I rx ry ⟨rfl, q⟩
  · (cases (show v = Value.ref a from rx))
    obtain ⟨t', rfl⟩ := ry
    obtain ⟨its, _, p, _⟩ := I.tuple hs
    exact SeqAt.RcNeAt.tuple_str j t' p hu _ _ _ _ ⟨.bl true, H, I, rfl, q⟩
  · cases (show u = Value.ref a from ry)
    obtain ⟨t', rfl⟩ := rx
    obtain ⟨its, _, p, _⟩ := I.tuple hs
    exact SeqAt.RcNeAt.str_tuple j t' p hu _ _ _ _ ⟨.bl true, H, I, rfl, q⟩
end
theorem WdAt.eqUse {K : PySem.W.Frag} {H : Hp} {w : Wd} {v : V} (h : WdAt K H w v) (hw : w ≠ .no) : eqW K v (.str "@") H w.use := by
  cases w with
  | st z => obtain ⟨rfl, _⟩ := h; exact .inl ⟨z, _, rfl, rfl, by unfold Wd.use; rw [Bool.eq_iff_iff]; simp⟩
  | pr o t => obtain ⟨a, x, y, rfl, ha, _⟩ := h; exact .inr (.inl ⟨a, _, _, rfl, SqT.of ha, rfl, rfl⟩)
  | no => exact absurd rfl hw
end LG

set_option Elab.async false
set_option linter.all false
set_option maxRecDepth 100000
set_option maxHeartbeats 4100000
namespace LG
open PySem L2
abbrev sEnds : Stmt := top 24
/-- the places behind parts, as far as they are told from behind -/
def enL (ws : List Wd) (k : Nat) : List V := (List.range ws.length).map fun j => V.int (if k ≤ j then (ofE ws j : Int) else 0)
theorem enL_len {ws : List Wd} {k : Nat} : (enL ws k).length = ws.length := by unfold enL; rw [List.length_map, List.length_range]
theorem enL_get {ws : List Wd} {k j : Nat} (h : j < ws.length) (hk : k ≤ j) : (enL ws k)[j]? = some (V.int (ofE ws j : Int)) := by
  unfold enL
  rw [List.getElem?_map, List.getElem?_range h, Option.map_some, if_pos hk]
theorem enL_top {ws : List Wd} : List.replicate ws.length (V.int 0) = enL ws ws.length := by
  unfold enL
  apply List.ext_getElem?
  intro j
  by_cases h : j < ws.length
  · rw [List.getElem?_replicate, if_pos h, List.getElem?_map, List.getElem?_range h, Option.map_some, if_neg (by omega)]
  · rw [List.getElem?_eq_none (by rw [List.length_replicate]; omega), List.getElem?_eq_none (by rw [List.length_map, List.length_range]; omega)]
theorem enL_set {ws : List Wd} {k : Nat} (h : k < ws.length) : (enL ws (k + 1)).set k (V.int (ofE ws k : Int)) = enL ws k := by
  unfold enL
  apply List.ext_getElem?
  intro j
  by_cases hj : j < ws.length
  · rw [List.getElem?_map, List.getElem?_range hj, Option.map_some]
    by_cases e : k = j
    · subst e
      rw [List.getElem?_set_self (by rw [List.length_map, List.length_range]; exact h), if_pos (Nat.le_refl _)]
    · rw [List.getElem?_set_ne e, List.getElem?_map, List.getElem?_range hj, Option.map_some]
      by_cases q : k + 1 ≤ j
      · rw [if_pos q, if_pos (by omega)]
      · rw [if_neg q, if_neg (by omega)]
  · rw [List.getElem?_eq_none (by rw [List.length_set, List.length_map, List.length_range]; omega), List.getElem?_eq_none (by rw [List.length_map, List.length_range]; omega)]
/-- words one of which is none -/
def Wds (ws : List Wd) : Prop := ∀ w ∈ ws, w ≠ .no
theorem words_of {fit : Th → Bool} : ∀ {ws : List Wd} {m : Nat}, cntC fit ws = some m → Wds ws
  | [], _, _ => fun w h => by cases h
  | w :: r, m, h => by
    cases e : cntC fit r with
    | none => rw [cntC, e] at h; cases h
    | some k =>
      rw [cntC, e] at h
      have h : stepC fit w k = some m := h
      intro x hx
      obtain rfl | hx := List.mem_cons.mp hx
      · rintro rfl
        unfold stepC at h
        rw [if_neg (by intro z; cases z), if_neg (by intro z; cases z), if_pos (by show (_ || !false) = true; rw [Bool.not_false, Bool.or_true])] at h
        cases h
      · exact words_of e x hx
def spEnds (K : PySem.W.Frag) : Sp := fun vs H Q _ => ∃ (v : V) (ws : List Wd), vs = [v] ∧ PgAt K H ws v ∧ Wds ws ∧ Whole ws ∧ ∀ l H', H l = none → Same H H' → H' l = some (.lst (enL ws 0)) → Q (.ref l) H'
section
variable {P : Program} {w : World} {K : PySem.W.Frag} {mg : Str → Option Value} {base : Heap}
theorem scEnds : FnScope ["words", "ends", "place"] ["words"] (defScope sEnds) := ⟨rfl, rfl, rfl, by decide +kernel, rfl, by decide +kernel, by decide +kernel⟩
theorem ok_ends {f fT : Addr} {fd fdT : FuncData} (F : Fn K mg "ends_of_parts" sEnds ["words"] f fd) (NT : Fn K mg "is_take" sIsTake ["word"] fT fdT) (hu : ∃ u, mg "USE" = some (.str "@" u)) (T : TxB mg) (T2 : TxK mg) : FnOk P w K mg base CX0 2 f fd ["words"] (spEnds K) := by
  have GT : FnOk P w K mg base CX0 1 fT fdT ["word"] (spIsTake K) := ok_isTake NT T T2.toTxD
  obtain ⟨uU, hU⟩ := hu
  refine F.F.ok scEnds (fun vs H Q E h => ?_) (fun cdv A outer s H vs Q E hr h => ?_)
  · obtain ⟨_, _, rfl, _⟩ := h
    rfl
  · obtain ⟨v, ws, rfl, hv, hn, wh, kq⟩ := h
    have nd := scEnds.nd
    have hr1 := hr
    refine ⟨_, pss_cons (ps_set (i := 1) nd rfl (Or.inl rfl) (pe_op op_rep (pe_lst (pa_cons pe_int pa_nil)) (pe_callB call_len_seq (by rfl) T.len PySem.boot_len (pa_cons (pv 0) pa_nil))))
      (pss_cons (ps_for PassesOwn.never rfl (pi_revR (by rfl) T2.reversed (prg_1 (by rfl) T.range (pe_callB call_len_seq (by rfl) T.len PySem.boot_len (pa_cons (pv 0) pa_nil)))) (pg_name (i := 2) nd rfl (Or.inl rfl))
        (pss_one (ps_if (pt_cmpR (op_eqW (Nat.lt_of_le_of_lt (Nat.le_add_right _ 64) hr.units)) (pe_ix ix_tup (pv 0) (pv 2) (fun _ _ => rfl)) (pe_glob (v := .str "@") (by rfl) hU ⟨_, rfl⟩) (nomark _))
          (pss_one (ps_asg (pe_ix ix_list (pv 1) (pe_ix ix_list (pv 1) (pe_op op_add (pv 2) pe_int) (fun _ _ => rfl)) (fun _ _ => rfl)) (pg_sub (pv 1) (pv 2) set_list)))
          (pss_one (ps_if (pt_val (pe_call GT hr1 (by rfl) NT.m NT.F.kp NT.b .nil pass0 (pa_cons (pe_ix ix_tup (pv 0) (pv 2) (fun _ _ => rfl)) pa_nil)))
            (pss_one (ps_asg (pe_ix ix_list (pv 1) (pe_op op_add (pv 2) pe_int) (fun _ _ => rfl)) (pg_sub (pv 1) (pv 2) set_list)))
            (pss_one (ps_asg (pe_op op_add (pv 2) pe_int) (pg_sub (pv 1) (pv 2) set_list))))))))
      (pss_one (ps_ret (pv 1)))), ?_⟩
    obtain ⟨a, vs, rfl, ha, hw, hl⟩ := hv
    have lv := hw.1
    refine ⟨(by show 1 ≤ sizeLine; decide), fun p hp => ?_⟩
    have np : a ≠ p := ne_of_none ha hp
    have ha1 : upd H p (.lst [V.int 0]) a = some (.tup vs) := by rw [upd_ne np]; exact ha
    refine ⟨_, rfl, _, _, rfl, .inr (SqT.of ha1), p, _, _, rfl, rfl, upd_same, by omega, by have := line63; omega, (by show 1 * _ ≤ sizeLine; rw [Nat.one_mul, lv]; exact big2 (by omega)), fun l hl0 => ?_⟩
    have npl : p ≠ l := ne_of_none upd_same hl0
    have hln : H l = none := by rwa [upd_ne npl.symm] at hl0
    have nal : a ≠ l := ne_of_none ha hln
    have e0 : (List.replicate ((vs.length : Int)).toNat [V.int 0]).flatten = enL ws ws.length := by
      rw [← enL_top, lv]
      show (List.replicate ws.length [V.int 0]).flatten = _
      rw [List.flatten_replicate_singleton]
    rw [e0]
    generalize hG : upd (upd H p _) l _ = G
    have sG : Same H G := by rw [← hG]; exact same_new (same_new (same_refl H) hp) hl0
    have gl : G l = some (.lst (enL ws ws.length)) := by rw [← hG]; exact upd_same
    clear hG hl0 ha1
    refine ⟨_, rfl, _, _, rfl, .inr (SqT.of (sG _ _ ha)), _, rfl, by omega, by omega, by omega, by have := hw.1; omega, ?_⟩
    have en : ((vs.length : Int) - 0).toNat = ws.length := by omega
    rw [en]
    refine for_rangeC (fun i σ H' => ∃ t2, σ = [some (.ref a), some (.ref l), t2] ∧ Same H (del H' l) ∧ H' a = some (.tup vs) ∧ H' l = some (.lst (enL ws (ws.length - i)))) ⟨none, rfl, ?_, sG _ _ ha, by rw [Nat.sub_zero]; exact gl⟩ ?_ ?_
    · exact fun b o e => by rw [del_ne (ne_of_none e hln)]; exact sG b o e
    · rintro i σ H1 hi ⟨t2, rfl, s1, ha1, hl1⟩
      have hj : ws.length - 1 - i < ws.length := by omega
      have ep : (0 : Int) + (ws.length : Int) - 1 + (i : Nat) * (-1) = ((ws.length - 1 - i : Nat) : Int) := by omega
      rw [ep]
      obtain ⟨wj, hwj⟩ : ∃ wj, ws[ws.length - 1 - i]? = some wj := ⟨_, List.getElem?_eq_getElem hj⟩
      obtain ⟨vj, hvj⟩ : ∃ vj, vs[ws.length - 1 - i]? = some vj := ⟨_, List.getElem?_eq_getElem (by omega)⟩
      have wd := (hw.2 _ _ _ hwj hvj).same (same_trans s1 del_le)
      have nn := hn wj (List.mem_of_getElem? hwj)
      have ek : ws.length - i = ws.length - 1 - i + 1 := by omega
      have ek2 : ws.length - (i + 1) = ws.length - 1 - i := by omega
      generalize hpl : ws.length - 1 - i = pl at hj hwj hvj ek ek2
      rw [ek] at hl1
      have fin : ∀ H2 : Hp, Same H1 H2 → ∃ t2, [some (V.ref a), some (V.ref l), some (V.int (pl : Int))] = [some (V.ref a), some (V.ref l), t2] ∧ Same H (del (upd H2 l (.lst ((enL ws (pl + 1)).set pl (V.int (ofE ws pl : Int))))) l) ∧ upd H2 l (.lst ((enL ws (pl + 1)).set pl (V.int (ofE ws pl : Int)))) a = some (.tup vs) ∧ upd H2 l (.lst ((enL ws (pl + 1)).set pl (V.int (ofE ws pl : Int)))) l = some (.lst (enL ws (ws.length - (i + 1)))) := fun H2 s2 => by
        refine ⟨_, rfl, fun b o e => ?_, by rw [upd_ne nal]; exact s2 _ _ ha1, by rw [upd_same, enL_set hj, ek2]⟩
        have nb := ne_of_none e hln
        have := s1 b o e
        rw [del_ne nb] at this
        rw [del_ne nb, upd_ne nb]
        exact s2 _ _ this
      refine ⟨_, rfl, _, rfl, a, _, _, _, rfl, rfl, SqT.of ha1, atI_nat hvj, wj.use, wd.eqUse nn, _, rfl, ?_⟩
      refine ite2 (fun u => ?_) (fun u => ?_)
      · obtain ⟨b1, b2, b3⟩ := wh.use hwj u
        refine ⟨_, rfl, _, rfl, _, rfl, _, _, rfl, rfl, l, _, _, _, rfl, rfl, SqL.of hl1, atI_nat (enL_get b1 (Nat.le_refl _)), l, _, _, _, rfl, rfl, SqL.of hl1, atI_nat (enL_get b2 ?_), ?_⟩
        · exact Nat.le_of_lt (wh.lt b1).1
        · rw [← b3]
          exact ⟨_, rfl, _, rfl, l, _, _, pl, rfl, rfl, hl1, Evl.ixN_nat (by rw [enL_len]; exact hj), fin H1 (same_refl H1)⟩
      · have u : wj.use = false := Bool.eq_false_iff.mpr u
        refine ⟨_, rfl, _, rfl, a, _, _, _, rfl, rfl, SqT.of ha1, atI_nat hvj, vj, wj, rfl, wd, nn, _, rfl, ?_⟩
        refine ite2 (fun t => ?_) (fun t => ?_)
        · obtain ⟨b1, b2⟩ := wh.take hwj t
          refine ⟨_, rfl, _, rfl, _, _, rfl, rfl, l, _, _, _, rfl, rfl, SqL.of hl1, atI_nat (enL_get b1 (Nat.le_refl _)), ?_⟩
          rw [← b2]
          exact ⟨_, rfl, _, rfl, l, _, _, pl, rfl, rfl, hl1, Evl.ixN_nat (by rw [enL_len]; exact hj), fin H1 (same_refl H1)⟩
        · have b := wh.name hwj u (Bool.eq_false_iff.mpr t)
          refine ⟨_, rfl, _, _, rfl, rfl, _, rfl, _, rfl, l, _, _, pl, rfl, rfl, hl1, Evl.ixN_nat (by rw [enL_len]; exact hj), ?_⟩
          have := fin H1 (same_refl H1)
          rw [b] at this
          exact this
    · rintro σ H1 ⟨t2, rfl, s1, ha1, hl1⟩
      rw [Nat.sub_self] at hl1
      exact ⟨_, rfl, kq l H1 hln (same_trans s1 del_le) hl1⟩
end
end LG

set_option Elab.async false
set_option linter.all false
set_option maxRecDepth 100000
namespace LG
open PySem L2
/-! ### to which take a name belongs: mathematics alone -/
/-- a word of a program -/
def Wok : Wd → Prop
  | .st z => z = "@" ∨ nameB z = true
  | .pr (some z) _ => nameB z = true
  | _ => False
theorem Wok.no {w : Wd} (h : Wok w) : w ≠ .no := by rintro rfl; exact h
def Woks (ws : List Wd) : Prop := ∀ w ∈ ws, Wok w
theorem Woks.wds {ws : List Wd} (h : Woks ws) : Wds ws := fun w hw => (h w hw).no
theorem woks_of {fit : Th → Bool} : ∀ {ws : List Wd} {m : Nat}, cntC fit ws = some m → Woks ws
  | [], _, _ => fun w h => by cases h
  | w :: r, m, h => by
    cases e : cntC fit r with
    | none => rw [cntC, e] at h; cases h
    | some k =>
      rw [cntC, e] at h
      have h : stepC fit w k = some m := h
      intro x hx
      obtain rfl | hx := List.mem_cons.mp hx
      · unfold stepC at h
        by_cases u : x.use = true
        · cases x with
          | st z => exact .inl (of_decide_eq_true u)
          | pr o t => cases u
          | no => cases u
        · rw [if_neg u] at h
          by_cases n : x.name = true
          · cases x with
            | st z => exact .inr n
            | pr o t => cases n
            | no => cases n
          · rw [if_neg n] at h
            by_cases b : (decide (k < 1) || !x.take fit) = true
            · rw [if_pos b] at h; cases h
            · have tk : x.take fit = true := by
                cases q : x.take fit with
                | true => rfl
                | false => rw [q] at b; simp at b
              cases x with
              | st z => cases tk
              | no => cases tk
              | pr o t =>
                cases o with
                | none => cases tk
                | some z => exact (Bool.and_eq_true_iff.mp tk).1
      · exact woks_of e x hx
theorem name_at : nameB "@" = false := by decide +kernel
def isT (ws : List Wd) (t : Nat) : Bool := match ws[t]? with
  | some w => w.thing
  | none => false
def nmOf (ws : List Wd) (t : Nat) : Option Str := match ws[t]? with
  | some (.pr o _) => o
  | _ => none
/-- the takes in whose bodies a place stands -/
def arnd (ws : List Wd) (p : Nat) : List Nat := (List.range p).filter fun t => isT ws t && decide (p < ofE ws t)
def arPre (ws : List Wd) (p : Nat) : List Nat := (List.range p).filter fun t => isT ws t && decide (p ≤ ofE ws t)
def byNm (ws : List Wd) (z : Str) (L : List Nat) : List Nat := L.filter fun t => decide (nmOf ws t = some z)
/-- the place of the take to which the name at a place belongs -/
def own (ws : List Wd) (p : Nat) : Option Nat := match ws[p]? with
  | some (.st z) => (byNm ws z (arnd ws p)).getLast?
  | _ => none
theorem isT_lt {ws : List Wd} {t : Nat} (h : isT ws t = true) : t < ws.length := by
  unfold isT at h
  cases e : ws[t]? with
  | none => (rw [e] at h; cases h)
  | some w => exact (List.getElem?_eq_some_iff.mp e).1
theorem isT_pr {ws : List Wd} (hk : Woks ws) {t : Nat} (h : isT ws t = true) : ∃ z k, ws[t]? = some (.pr (some z) k) ∧ nameB z = true ∧ nmOf ws t = some z := by
  unfold isT at h
  unfold nmOf
  cases e : ws[t]? with
  | none => (rw [e] at h; cases h)
  | some w =>
    rw [e] at h
    have ok := hk w (List.mem_of_getElem? e)
    cases w with
    | st z => cases h
    | no => cases h
    | pr o k =>
      cases o with
      | none => exact absurd ok id
      | some z => exact ⟨z, k, rfl, ok, rfl⟩
theorem arPre_zero {ws : List Wd} : arPre ws 0 = [] := rfl
theorem mem_arPre {ws : List Wd} {p t : Nat} : t ∈ arPre ws p ↔ t < p ∧ isT ws t = true ∧ p ≤ ofE ws t := by
  unfold arPre
  rw [List.mem_filter, List.mem_range, Bool.and_eq_true, decide_eq_true_eq]
theorem mem_arnd {ws : List Wd} {p t : Nat} : t ∈ arnd ws p ↔ t < p ∧ isT ws t = true ∧ p < ofE ws t := by
  unfold arnd
  rw [List.mem_filter, List.mem_range, Bool.and_eq_true, decide_eq_true_eq]
theorem arnd_pre {ws : List Wd} {p : Nat} : arnd ws p = (arPre ws p).filter fun t => decide (p < ofE ws t) := by
  unfold arnd arPre
  rw [List.filter_filter]
  congr 1
  funext t
  rw [Bool.eq_iff_iff]
  (simp only [Bool.and_eq_true, decide_eq_true_eq])
  constructor
  · rintro ⟨a, b⟩; exact ⟨b, a, by omega⟩
  · rintro ⟨a, b, c⟩; exact ⟨b, a⟩
theorem arPre_succ {ws : List Wd} (wh : Whole ws) {p : Nat} (hp : p < ws.length) : arPre ws (p + 1) = if isT ws p = true then arnd ws p ++ [p] else arnd ws p := by
  have e : (List.range p).filter (fun t => isT ws t && decide (p + 1 ≤ ofE ws t)) = arnd ws p := by
    unfold arnd
    rfl
  unfold arPre
  rw [List.range_succ, List.filter_append, e]
  have q := (wh.lt hp).1
  by_cases t : isT ws p = true
  · rw [if_pos t]
    simp [t]
    omega
  · rw [if_neg t]
    simp [t]
theorem arPre_lt {ws : List Wd} {p : Nat} : (arPre ws p).Pairwise (· < ·) := List.Pairwise.sublist List.filter_sublist List.pairwise_lt_range
theorem arnd_lt {ws : List Wd} {p : Nat} : (arnd ws p).Pairwise (· < ·) := List.Pairwise.sublist List.filter_sublist List.pairwise_lt_range
theorem pop_done {ws : List Wd} (wh : Whole ws) {p : Nat} {L S : List Nat} (h : L ++ S = arPre ws p) (hS : ∀ t ∈ S, ofE ws t = p) (hL : ∀ t, L.getLast? = some t → ofE ws t ≠ p) : L = arnd ws p := by
  rw [arnd_pre, ← h, List.filter_append]
  have e1 : S.filter (fun t => decide (p < ofE ws t)) = [] := by
    rw [List.filter_eq_nil_iff]
    intro t ht
    rw [hS t ht]; simp
  have e2 : L.filter (fun t => decide (p < ofE ws t)) = L := by
    rw [List.filter_eq_self]
    intro t ht
    apply decide_eq_true
    have mt := mem_arPre.mp (show t ∈ arPre ws p by rw [← h]; exact List.mem_append_left _ ht)
    rcases nil_or_snoc L with rfl | ⟨L', u, rfl⟩
    · cases ht
    · have hu := hL u (by simp)
      have mu := mem_arPre.mp (show u ∈ arPre ws p by rw [← h]; simp)
      have srt := arPre_lt (ws := ws) (p := p)
      rw [← h] at srt
      have tu : t ≤ u := by
        rcases List.mem_append.mp ht with q | q
        · have := (List.pairwise_append.mp (List.pairwise_append.mp srt).1).2.2 t q u List.mem_cons_self
          omega
        · rw [List.mem_singleton] at q; omega
      by_cases c : ofE ws t = p
      · have := wh.nest (isT_lt mt.2.1) tu (by omega)
        omega
      · omega
  rw [e1, e2, List.append_nil]
theorem byNm_snoc {ws : List Wd} {z : Str} {L : List Nat} {t : Nat} : byNm ws z (L ++ [t]) = if nmOf ws t = some z then byNm ws z L ++ [t] else byNm ws z L := by
  unfold byNm
  rw [List.filter_append]
  by_cases e : nmOf ws t = some z
  · rw [if_pos e]; simp [e]
  · rw [if_neg e]; simp [e]
theorem own_some {ws : List Wd} {p t : Nat} (h : own ws p = some t) : ∃ z, ws[p]? = some (.st z) ∧ nmOf ws t = some z ∧ t < p ∧ isT ws t = true ∧ p < ofE ws t := by
  unfold own at h
  cases e : ws[p]? with
  | none => (rw [e] at h; cases h)
  | some w =>
    rw [e] at h
    cases w with
    | pr o k => cases h
    | no => cases h
    | st z =>
      have h : (byNm ws z (arnd ws p)).getLast? = some t := h
      have m := List.mem_of_getLast? h
      unfold byNm at m
      rw [List.mem_filter, decide_eq_true_eq] at m
      exact ⟨z, rfl, m.2, mem_arnd.mp m.1⟩
theorem own_use {ws : List Wd} (hk : Woks ws) {p : Nat} (h : ws[p]? = some (.st "@")) : own ws p = none := by
  cases e : own ws p with
  | none => rfl
  | some t =>
    obtain ⟨z, e1, e2, _, e3, _⟩ := own_some e
    rw [h] at e1
    cases e1
    obtain ⟨z', k, _, n, e4⟩ := isT_pr hk e3
    rw [e2] at e4
    cases e4
    rw [name_at] at n; cases n
end LG

set_option Elab.async false
set_option linter.all false
set_option maxRecDepth 100000
set_option maxHeartbeats 4100000
namespace LG
open PySem L2
/-- words at a tuple that are a program with kinds of any size -/
structure Prog (ws : List Wd) : Prop where
  ok : progB Th.any ws = true
theorem Prog.whole {ws : List Wd} (h : Prog ws) : Whole ws := whole_of h.ok
theorem Prog.woks {ws : List Wd} (h : Prog ws) : Woks ws := woks_of (of_decide_eq_true h.ok)
end LG

set_option Elab.async false
set_option linter.all false
set_option maxRecDepth 100000
set_option maxHeartbeats 4100000
namespace LG
open PySem L2
namespace Th
def depth : Th → Nat
  | .pr l r => max l.depth r.depth + 1
  | _ => 0
/-- the lefts of a thing, and what ends it -/
def lefts : Th → List Th
  | .pr l r => l :: r.lefts
  | _ => []
def fin : Th → Th
  | .pr _ r => r.fin
  | t => t
theorem fin_letter : ∀ {t : Th}, t.any = true → t.fin.letter = true
  | .pr l r, h => by
    have h : (l.any && r.any) = true := h
    rw [Bool.and_eq_true] at h
    exact fin_letter (t := r) h.2
  | .int i, h => h
  | .bl b, h => by cases h
  | .non, h => by cases h
  | .tup, h => by cases h
theorem lefts_any : ∀ {t : Th}, t.any = true → ∀ x ∈ t.lefts, x.any = true
  | .pr l r, h, x, hx => by
    have h : (l.any && r.any) = true := h
    rw [Bool.and_eq_true] at h
    obtain rfl | hx := List.mem_cons.mp hx
    · exact h.1
    · exact lefts_any (t := r) h.2 x hx
theorem lefts_size : ∀ {t : Th} {x : Th}, x ∈ t.lefts → x.size < t.size
  | .pr l r, x, hx => by
    have e : (Th.pr l r).size = l.size + r.size + 1 := rfl
    obtain rfl | hx := List.mem_cons.mp hx
    · omega
    · have := lefts_size hx; omega
theorem lefts_depth : ∀ {t : Th} {x : Th}, x ∈ t.lefts → x.depth < t.depth
  | .pr l r, x, hx => by
    have e : (Th.pr l r).depth = max l.depth r.depth + 1 := rfl
    obtain rfl | hx := List.mem_cons.mp hx
    · omega
    · have := lefts_depth hx; omega
theorem lefts_len : ∀ {t : Th}, t.lefts.length ≤ t.depth
  | .pr l r => by
    have := lefts_len (t := r)
    show r.lefts.length + 1 ≤ max l.depth r.depth + 1
    omega
  | .int _ => Nat.le_refl _
  | .bl _ => Nat.le_refl _
  | .non => Nat.le_refl _
  | .tup => Nat.le_refl _
end Th
/-- what a def hands back that draws: a thing beside the hand -/
def Back (K : PySem.W.Frag) (H : Hp) (p c : Addr) (cells : List Int) (G : Th → Prop) (Q : VK) : Prop := ∀ (t : Th) (v : V) (H' : Hp), HandAt H' p c cells → Same (del H p) (del H' p) → ThAt K (del H' p) t v → G t → Q v H'
abbrev sKd : Stmt := top 44
def spKd (K : PySem.W.Frag) (d : Nat) : Sp := fun vs H Q _ => ∃ (p c : Addr) (cells : List Int), vs = [.ref p, .int (d : Int)] ∧ HandAt H p c cells ∧ Back K H p c cells (fun t => t.any = true ∧ t.depth ≤ d ∧ t.size < 2 ^ (d + 1)) Q
section
variable {P : Program} {w : World} {K : PySem.W.Frag} {mg : Str → Option Value} {base : Heap}
theorem scKd : FnScope ["_law_hand_here", "_law_deep"] ["_law_hand_here", "_law_deep"] (defScope sKd) := ⟨rfl, rfl, rfl, by decide +kernel, rfl, by decide +kernel, by decide +kernel⟩
theorem letter_small {r : Int} (h0 : 0 ≤ r) (h : r < 3) : (Th.int r).any = true ∧ (Th.int r).depth = 0 ∧ (Th.int r).size = 1 := by
  refine ⟨?_, rfl, rfl⟩
  show (decide (0 ≤ r) && decide (r ≤ 25)) = true
  rw [decide_eq_true h0, decide_eq_true (by omega)]
  rfl
theorem ok_kd {f fD : Addr} {fd fdD : FuncData} (F : Fn K mg "_law_kind" sKd ["_law_hand_here", "_law_deep"] f fd) (ND : Fn K mg "_law_draw" sDraw ["_law_hand_here", "_law_many"] fD fdD) (T : TxB mg) : ∀ d : Nat, FnOk P w K mg base CX0 (d + 2) f fd ["_law_hand_here", "_law_deep"] (spKd K d) := by
  intro d
  induction d with
  | zero =>
    have GD : FnOk P w K mg base CX0 1 fD fdD ["_law_hand_here", "_law_many"] spDraw := ok_draw ND.F T
    refine F.F.ok scKd (fun vs H Q E h => ?_) (fun cdv A outer s H vs Q E hr h => ?_)
    · obtain ⟨p, c, cells, rfl, _⟩ := h
      rfl
    · obtain ⟨p, c, cells, rfl, hA, k⟩ := h
      refine ⟨_, pss_cons (ps_if (PW.pt (pw_or (pt_cmpR op_eq (pv 1) pe_int (nomark _)) (pw_or1 (pt_cmpR op_eq (pe_call GD hr (by rfl) ND.m ND.F.kp ND.b .nil pass0 (pa_cons (pv 0) (pa_cons pe_int pa_nil))) pe_int (nomark _)))))
          (pss_one (ps_ret (pe_call GD hr (by rfl) ND.m ND.F.kp ND.b .nil pass0 (pa_cons (pv 0) (pa_cons (pe_op op_add pe_int (pe_callTy call_int1 (by rfl) T.int (by decide +kernel) (pa_cons (pe_cmpR op_eq (pe_call GD hr (by rfl) ND.m ND.F.kp ND.b .nil pass0 (pa_cons (pv 0) (pa_cons pe_int pa_nil))) pe_int (nomark _)) pa_nil))) pa_nil))))) pss_nil)
        pss_never, ?_⟩
      refine ⟨_, rfl, rfl, _, rfl, ?_⟩
      refine ifT (by decide) ?_
      refine ifT (by decide) ?_
      refine ⟨_, rfl, _, rfl, p, c, cells, 8, rfl, hA, by decide, by decide, fun r1 H1 z0 z8 hA1 o1 => ?_⟩
      refine ⟨rfl, .inr ⟨_, rfl, _, _, rfl, rfl, ?_⟩⟩
      refine ⟨p, c, cells, _, rfl, hA1, by split <;> decide, by split <;> decide, fun r2 H2 z0' z3 hA2 o2 => ?_⟩
      have r3 : r2 < 3 := by split at z3 <;> omega
      obtain ⟨q1, q2, q3⟩ := letter_small z0' r3
      exact k (.int r2) _ H2 hA2 (del_off fun b hb => (o2 b hb).trans (o1 b hb)) rfl ⟨q1, by rw [q2]; exact Nat.zero_le _, by rw [q3]; decide⟩
  | succ d G =>
    have GD : FnOk P w K mg base CX0 1 fD fdD ["_law_hand_here", "_law_many"] spDraw := ok_draw ND.F T
    refine F.F.ok scKd (fun vs H Q E h => ?_) (fun cdv A outer s H vs Q E hr h => ?_)
    · obtain ⟨p, c, cells, rfl, _⟩ := h
      rfl
    · obtain ⟨p, c, cells, rfl, hA, k⟩ := h
      have hr1 := hr.mono (show 1 ≤ d + 1 + 1 by omega)
      refine ⟨_, pss_cons (ps_if (PW.pt (pw_or (pt_cmpR op_eq (pv 1) pe_int (nomark _)) (pw_or1 (pt_cmpR op_eq (pe_call GD hr1 (by rfl) ND.m ND.F.kp ND.b .nil pass0 (pa_cons (pv 0) (pa_cons pe_int pa_nil))) pe_int (nomark _)))))
          (pss_one (ps_ret (pe_call GD hr1 (by rfl) ND.m ND.F.kp ND.b .nil pass0 (pa_cons (pv 0) (pa_cons (pe_op op_add pe_int (pe_callTy call_int1 (by rfl) T.int (by decide +kernel) (pa_cons (pe_cmpR op_eq (pe_call GD hr1 (by rfl) ND.m ND.F.kp ND.b .nil pass0 (pa_cons (pv 0) (pa_cons pe_int pa_nil))) pe_int (nomark _)) pa_nil))) pa_nil))))) pss_nil)
        (pss_one (ps_ret (pe_tup (pa_cons (pe_call G hr (by rfl) F.m F.F.kp F.b .nil pass0 (pa_cons (pv 0) (pa_cons (pe_op op_sub (pv 1) pe_int) pa_nil))) (pa_cons (pe_call G hr (by rfl) F.m F.F.kp F.b .nil pass0 (pa_cons (pv 0) (pa_cons (pe_op op_sub (pv 1) pe_int) pa_nil))) pa_nil))))), ?_⟩
      have e1 : decide (V.int ((d + 1 : Nat) : Int) = V.int 0) = false := decide_eq_false fun z => by have := V.int.inj z; omega
      have ed : ((d + 1 : Nat) : Int) - 1 = (d : Int) := by omega
      refine ⟨_, rfl, rfl, _, rfl, ?_⟩
      refine ifF e1 ?_
      refine ⟨_, rfl, p, c, cells, 3, rfl, hA, by decide, by decide, fun r0 H0 z0 z3 hA0 o0 => ?_⟩
      refine ⟨rfl, _, rfl, ?_⟩
      refine ite2 (fun _ => ?_) (fun _ => ?_)
      · refine ⟨_, rfl, _, rfl, p, c, cells, 8, rfl, hA0, by decide, by decide, fun r1 H1 z0 z8 hA1 o1 => ?_⟩
        refine ⟨rfl, .inr ⟨_, rfl, _, _, rfl, rfl, ?_⟩⟩
        refine ⟨p, c, cells, _, rfl, hA1, by split <;> decide, by split <;> decide, fun r2 H2 z0' z3 hA2 o2 => ?_⟩
        have r3 : r2 < 3 := by split at z3 <;> omega
        obtain ⟨q1, q2, q3⟩ := letter_small z0' r3
        exact k (.int r2) _ H2 hA2 (del_off fun b hb => ((o2 b hb).trans (o1 b hb)).trans (o0 b hb)) rfl ⟨q1, by rw [q2]; exact Nat.zero_le _, by rw [q3]; exact Nat.one_lt_two_pow (by omega)⟩
      · refine ⟨_, rfl, _, rfl, _, _, rfl, rfl, p, c, cells, (by show [V.ref p, V.int (((d + 1 : Nat) : Int) - 1)] = _; rw [ed]), hA0, fun t1 v1 H1 hA1 s1 th1 g1 => ?_⟩
        refine ⟨_, rfl, _, rfl, _, _, rfl, rfl, p, c, cells, (by show [V.ref p, V.int (((d + 1 : Nat) : Int) - 1)] = _; rw [ed]), hA1, fun t2 v2 H2 hA2 s2 th2 g2 => ?_⟩
        refine ⟨(by show 2 ≤ sizeLine; decide), fun q hq => ?_⟩
        have a1 := same_new (o := .tup [v1, v2]) (same_refl H2) hq
        have hqp := hA2.fresh hq
        refine k (.pr t1 t2) _ _ (hA2.same a1) (same_trans (del_off o0) (same_trans s1 (same_trans s2 (del_same_of a1)))) ⟨q, v1, v2, rfl, by rw [del_ne hqp]; exact upd_same, (th1.same s2).same (del_same_of a1), th2.same (del_same_of a1)⟩ ⟨?_, ?_, ?_⟩
        · show (t1.any && t2.any) = true
          rw [g1.1, g2.1]; rfl
        · show max t1.depth t2.depth + 1 ≤ d + 1
          have := g1.2.1
          have := g2.2.1
          omega
        · show t1.size + t2.size + 1 < 2 ^ (d + 1 + 1)
          have h1 := g1.2.2
          have h2 := g2.2.2
          have e : (2 : Nat) ^ (d + 1 + 1) = 2 ^ (d + 1) + 2 ^ (d + 1) := by rw [Nat.pow_succ]; omega
          omega
abbrev sLEnds : Stmt := top 45
def spLEnds (K : PySem.W.Frag) : Sp := fun vs H Q _ => ∃ (v : V) (t : Th) (G : Hp), vs = [v] ∧ ThAt K G t v ∧ Same G H ∧ t.size ≤ 10000 ∧ t.any = true ∧
  ∀ (ps : List (Th × V)) (e : V) (p q : Addr) (H' : Hp), ps.map (·.1) = t.lefts → (∀ s ∈ ps, ThAt K G s.1 s.2) → ThAt K G t.fin e → Same H H' → H p = none → H q = none → H' p = some (.tup [.ref q, e]) → H' q = some (.lst (ps.map (·.2))) → Q (.ref p) H'
theorem scLEnds : FnScope ["_law_kind_here", "_law_found"] ["_law_kind_here"] (defScope sLEnds) := ⟨rfl, rfl, rfl, by decide +kernel, rfl, by decide +kernel, by decide +kernel⟩
theorem ok_lends {f : Addr} {fd : FuncData} (F : Fn K mg "_law_ends" sLEnds ["_law_kind_here"] f fd) (T : TxB mg) (T2 : TxD mg) : FnOk P w K mg base CX0 1 f fd ["_law_kind_here"] (spLEnds K) := by
  refine F.F.ok scLEnds (fun vs H Q E h => ?_) (fun cdv A outer s H vs Q E hr h => ?_)
  · obtain ⟨v, t, G, rfl, _⟩ := h
    rfl
  · obtain ⟨v, t, G, rfl, hv, sG, hz, ha0, kq⟩ := h
    have nd := scLEnds.nd
    refine ⟨_, pss_cons (ps_set (i := 1) nd rfl (Or.inl rfl) (pe_lst pa_nil))
      (pss_cons (ps_while PassesOwn.never (pt_val (pe_callB call_isi (by rfl) T.isinstance (by decide +kernel) (pa_cons (pv 0) (pa_cons (pe_bltn (v := .ty "tuple") (by rfl) T2.tuple (by decide +kernel) rfl) pa_nil))))
        (pss_cons (ps_expr (pe_bm PySem.F.plainAttrs_list PySem.F.slot_list_append PySem.F.type_list_append mt_append (pv 1) (pa_cons (pe_ix ix_tup (pv 0) pe_int (fun _ _ => rfl)) pa_nil)))
        (pss_one (ps_set (i := 0) nd rfl (Or.inl rfl) (pe_ix ix_tup (pv 0) pe_int (fun _ _ => rfl))))))
      (pss_one (ps_ret (pe_tup (pa_cons (pv 1) (pa_cons (pv 0) pa_nil)))))), ?_⟩
    refine ⟨(by show 0 ≤ sizeLine; decide), fun fl hfl => ?_⟩
    have gfl : G fl = none := same_none sG hfl
    refine ⟨fun m σ H' => ∃ (t' : Th) (v' : V) (ps : List (Th × V)), m = t'.size ∧ σ = [some v', some (.ref fl)] ∧ Same H H' ∧ H' fl = some (.lst (ps.map (·.2))) ∧ ThAt K G t' v' ∧ t'.any = true ∧ ps.map (·.1) ++ t'.lefts = t.lefts ∧ t'.fin = t.fin ∧ (∀ s ∈ ps, ThAt K G s.1 s.2) ∧ ps.length + t'.size ≤ t.size,
      ⟨_, t, v, [], rfl, rfl, same_new (same_refl H) hfl, upd_same, hv, ha0, rfl, rfl, (fun s h => by cases h), by simp⟩, ?_⟩
    rintro m σ H' ⟨t', v', ps, rfl, rfl, hs, hl, hv', ha', e1, e2, h3, h4⟩
    obtain ⟨tv, ty, k1, k2, k3⟩ := ((hv'.same sG).same hs).ty
    refine ⟨_, rfl, _, _, _, _, _, rfl, .ty _, ty, k3, _, rfl, ?_⟩
    have np := t'.size_pos
    refine ite2 (fun cP => ?_) (fun cP => ?_)
    · obtain ⟨l, r, rfl⟩ : ∃ l r, t' = .pr l r := by
        cases t' with
        | pr l r => exact ⟨_, _, rfl⟩
        | int i => cases cP
        | bl b => cases cP
        | non => cases cP
        | tup => cases ha'
      have hr2 : r.any = true := (Bool.and_eq_true_iff.mp (show (l.any && r.any) = true from ha')).2
      obtain ⟨a, x, y, rfl, ha, hx, hy⟩ := hv'
      have ha' := hs _ _ (sG _ _ ha)
      have afl : a ≠ fl := ne_of_none ha gfl
      have sz : (Th.pr l r).size = l.size + r.size + 1 := rfl
      refine ⟨fun σ'' H'' => ∃ m', m' < (Th.pr l r).size ∧ ∃ (t' : Th) (v' : V) (ps : List (Th × V)), m' = t'.size ∧ σ'' = [some v', some (.ref fl)] ∧ Same H H'' ∧ H'' fl = some (.lst (ps.map (·.2))) ∧ ThAt K G t' v' ∧ t'.any = true ∧ ps.map (·.1) ++ t'.lefts = t.lefts ∧ t'.fin = t.fin ∧ (∀ s ∈ ps, ThAt K G s.1 s.2) ∧ ps.length + t'.size ≤ t.size, fun σ'' H'' z => z, ?_⟩
      refine ⟨_, rfl, .inl ⟨rfl, _, SqL.of hl⟩, _, rfl, a, _, _, x, rfl, rfl, SqT.of ha', rfl, fl, _, _, rfl, rfl, hl, (by rw [List.length_map]; exact room2 (by omega)), ?_⟩
      refine ⟨_, rfl, a, _, _, y, rfl, rfl, SqT.of (by rw [upd_ne afl]; exact ha'), rfl, r.size, by omega, r, y, ps ++ [(l, x)], rfl, rfl, fun b o e => by rw [upd_ne (ne_of_none e hfl)]; exact hs b o e, by rw [upd_same, List.map_append]; rfl, hy, hr2, ?_, e2, fun s hs' => ?_, ?_⟩
      · rw [← e1, List.map_append, List.append_assoc]; rfl
      · rcases List.mem_append.mp hs' with q | q
        · exact h3 s q
        · rw [List.mem_singleton] at q
          rw [q]; exact hx
      · have := l.size_pos
        (rw [List.length_append, List.length_singleton])
        omega
    · have el : t'.lefts = [] ∧ t'.fin = t' := by cases t' <;> first | exact ⟨rfl, rfl⟩ | exact absurd rfl cP
      rw [el.1, List.append_nil] at e1
      rw [el.2] at e2
      refine ⟨_, rfl, _, rfl, (by show 2 ≤ sizeLine; decide), fun p hp => ?_⟩
      exact kq ps v' p fl _ e1 h3 (e2 ▸ hv') (same_new hs hp) (same_none hs hp) hfl upd_same (by rw [upd_ne (ne_of_none hl hp)]; exact hl)
end
end LG

set_option Elab.async false
set_option linter.all false
set_option maxRecDepth 100000
set_option maxHeartbeats 4100000
namespace LG
open PySem L2
abbrev sShuf : Stmt := top 42
def spShuf (K : PySem.W.Frag) : Sp := fun vs H Q _ => ∃ (p c m : Addr) (cells : List Int) (M : List V), vs = [.ref p, .ref m] ∧ HandAt H p c cells ∧ SqL K H m M ∧ M.length ≤ 100 ∧
  ∀ M' l H', List.Perm M' M → HandAt H' p c cells → Same (del H p) (del H' p) → H' l = some (.lst M') → l ≠ p → H l = none → Q (.ref l) H'
section
variable {P : Program} {w : World} {K : PySem.W.Frag} {mg : Str → Option Value} {base : Heap}
theorem perm_erase {α : Type} : ∀ (l : List α) (k : Nat) (x : α), l[k]? = some x → (x :: l.eraseIdx k).Perm l
  | [], k, x, h => by simp at h
  | a :: l, 0, x, h => by
    have : a = x := Option.some.inj h
    subst this
    exact List.Perm.refl _
  | a :: l, k + 1, x, h => by
    have ih := perm_erase l k x h
    exact (List.Perm.swap a x _).trans (ih.cons a)
theorem perm_pop {α : Type} {found pool M : List α} {k : Nat} {x : α} (h : (found ++ pool).Perm M) (hk : pool[k]? = some x) : ((found ++ [x]) ++ pool.eraseIdx k).Perm M := by
  refine List.Perm.trans ?_ h
  rw [List.append_assoc]
  refine List.Perm.append_left found ?_
  exact perm_erase pool k x hk
theorem scShuf : FnScope ["_law_hand_here", "_law_things", "_law_pool", "_law_found"] ["_law_hand_here", "_law_things"] (defScope sShuf) := ⟨rfl, rfl, rfl, by decide +kernel, rfl, by decide +kernel, by decide +kernel⟩
theorem ok_shuf {f fD : Addr} {fd fdD : FuncData} (F : Fn K mg "_law_shuffled" sShuf ["_law_hand_here", "_law_things"] f fd) (ND : Fn K mg "_law_draw" sDraw ["_law_hand_here", "_law_many"] fD fdD) (T : TxB mg) (T2 : TxD mg) : FnOk P w K mg base CX0 2 f fd ["_law_hand_here", "_law_things"] (spShuf K) := by
  have GD : FnOk P w K mg base CX0 1 fD fdD ["_law_hand_here", "_law_many"] spDraw := ok_draw ND.F T
  refine F.F.ok scShuf (fun vs H Q E h => ?_) (fun cdv A outer s H vs Q E hr h => ?_)
  · obtain ⟨_, _, _, _, _, rfl, _⟩ := h
    rfl
  · obtain ⟨p, c, m, cells, M, rfl, hA, hm, hM, k⟩ := h
    have nd := scShuf.nd
    have hu := hu_of hr
    refine ⟨_, pss_cons (ps_set (i := 2) nd rfl (Or.inl rfl) (pe_callTy call_list_of (by rfl) T2.list (by decide +kernel) (pa_cons (pv 1) pa_nil)))
      (pss_cons (ps_set (i := 3) nd rfl (Or.inl rfl) (pe_lst pa_nil))
      (pss_cons (ps_while PassesOwn.never (pt_cmpR op_gt (pe_callB call_len (by rfl) T.len PySem.boot_len (pa_cons (pv 2) pa_nil)) pe_int (nomark _))
        (pss_one (ps_expr (pe_bm PySem.F.plainAttrs_list PySem.F.slot_list_append PySem.F.type_list_append mt_append (pv 3) (pa_cons (pe_bm PySem.F.plainAttrs_list PySem.F.slot_list_pop PySem.F.type_list_pop mt_popAt (pv 2)
          (pa_cons (pe_call GD hr (by rfl) ND.m ND.F.kp ND.b .nil pass0 (pa_cons (pv 0) (pa_cons (pe_callB call_len (by rfl) T.len PySem.boot_len (pa_cons (pv 2) pa_nil)) pa_nil))) pa_nil)) pa_nil)))))
      (pss_one (ps_ret (pv 3))))), ?_⟩
    refine ⟨_, rfl, m, _, rfl, .inl hm, fun pl hpl => ?_⟩
    have s1 := same_new (o := .lst M) (same_refl H) hpl
    have f1 : upd H pl (.lst M) pl = some (.lst M) := upd_same
    generalize upd H pl (.lst M) = G1 at *
    refine ⟨(by show 0 ≤ sizeLine; decide), fun fl hfl => ?_⟩
    have s2 := same_new (o := .lst []) s1 hfl
    have plfl : pl ≠ fl := ne_of_none f1 hfl
    have f2 : upd G1 fl (.lst []) pl = some (.lst M) := by rw [upd_ne plfl]; exact f1
    have g2 : upd G1 fl (.lst []) fl = some (.lst []) := upd_same
    have nfl : H fl = none := same_none s1 hfl
    generalize upd G1 fl (.lst []) = G2 at *
    have plp := hA.fresh hpl
    have flp := hA.fresh nfl
    have plc : pl ≠ c := fun z => by rw [z, hA.cl] at hpl; cases hpl
    have flc : fl ≠ c := fun z => by rw [z, hA.cl] at nfl; cases nfl
    have dpl : del H p pl = none := by rw [del_ne plp]; exact hpl
    have dfl : del H p fl = none := by rw [del_ne flp]; exact nfl
    refine ⟨fun n σ H' => ∃ (pool found : List V), n = pool.length ∧ σ = [some (.ref p), some (.ref m), some (.ref pl), some (.ref fl)] ∧ (found ++ pool).Perm M ∧ HandAt H' p c cells ∧ Same (del H p) (del H' p) ∧ H' pl = some (.lst pool) ∧ H' fl = some (.lst found),
      ⟨_, M, [], rfl, rfl, List.Perm.refl _, hA.same s2, del_same_of s2, f2, g2⟩, ?_⟩
    rintro n σ H' ⟨pool, found, rfl, rfl, pm, hA', sd, hp, hf⟩
    refine ⟨_, rfl, _, _, rfl, .inl ⟨_, SqL.of hp, rfl⟩, _, _, rfl, rfl, _, rfl, ?_⟩
    have hlen : found.length + pool.length = M.length := by rw [← List.length_append]; exact pm.length_eq
    refine ite2 (fun d => ?_) (fun d => ?_)
    · have d2 : 0 < pool.length := by have := of_decide_eq_true d; omega
      refine ⟨fun σ'' H'' => ∃ m', m' < pool.length ∧ ∃ (pool found : List V), m' = pool.length ∧ σ'' = [some (.ref p), some (.ref m), some (.ref pl), some (.ref fl)] ∧ (found ++ pool).Perm M ∧ HandAt H'' p c cells ∧ Same (del H p) (del H'' p) ∧ H'' pl = some (.lst pool) ∧ H'' fl = some (.lst found), fun σ'' H'' z => z, ?_⟩
      refine ⟨_, rfl, .inl ⟨rfl, _, SqL.of hf⟩, _, rfl, .inl ⟨rfl, _, SqL.of hp⟩, _, rfl, _, rfl, _, _, rfl, .inl ⟨_, SqL.of hp, rfl⟩, p, c, cells, _, rfl, hA', by omega, by omega, fun r H2 r0 r1 hA2 o2 => ?_⟩
      have hp2 := (o2 pl plp).trans hp
      have hf2 := (o2 fl flp).trans hf
      have lt : r.toNat < pool.length := by omega
      have ek : pool[r.toNat]? = some pool[r.toNat] := List.getElem?_eq_getElem lt
      refine ⟨pl, _, r, r.toNat, pool[r.toNat], rfl, rfl, hp2, by omega, by omega, seqIx r0 r1, ek, ?_⟩
      refine ⟨fl, _, _, rfl, rfl, (by rw [upd_ne plfl.symm]; exact hf2), (room2 (by omega)), ?_⟩
      have sd2 := same_trans sd (del_off o2)
      refine ⟨(pool.eraseIdx r.toNat).length, by rw [List.length_eraseIdx_of_lt lt]; omega, pool.eraseIdx r.toNat, found ++ [pool[r.toNat]], rfl, rfl, perm_pop pm ek, (hA2.upd plp plc).upd flp flc, same_upd (same_upd sd2 dpl) dfl, ?_, ?_⟩
      · rw [upd_ne plfl, upd_same]
      · rw [upd_same]
    · have d2 : pool = [] := List.eq_nil_of_length_eq_zero (by have : ¬ ((pool.length : Nat) : Int) > 0 := fun z => d (decide_eq_true z); omega)
      subst d2
      rw [List.append_nil] at pm
      exact ⟨_, rfl, k found fl H' pm hA' sd hf flp nfl⟩
end
end LG

set_option Elab.async false
set_option linter.all false
set_option maxRecDepth 100000
set_option maxHeartbeats 4100000
namespace LG
open PySem PySem.Spec PyProof.Rows L2
section
variable {X : Cx}
/-- tuple(a list), and no dict of its own -/
def rTupF (K : PySem.W.Frag) : List V → Hp → VK → Prop := fun vs H Q => ∃ p xs, vs = [V.ref p] ∧ SqL K H p xs ∧ ∀ (l : Addr) (o : Obj), H l = none → o.dict = none → Q (.ref l) (upd H l (.frz o (.tup xs)))
theorem cr_tupF : CallR X (.type "tuple") (rTupF X.K) := by
  (intro pins s σ H vs us Q I r h)
  obtain ⟨p, xs, rfl, hs, q⟩ := h
  obtain ⟨u, eu, rx⟩ := vals1 r
  subst eu
  cases rx
  (obtain ⟨its, rv, pl, hz⟩ := I.list hs)
  refine (call_tuple_list pl.isList (fun h' hk => ?_) (by rw [List.size_toArray, ← rv.length]; exact hz))
  have I1 : L2.Inv X pins σ H { s with heap := h' } := I.kept (t' := s.toks) hk
  have new : ObjOk X.prog X.w (upd H h'.objs.size (.frz { cls := .type "tuple", data := .seq its.toArray } (.tup xs))) (h'.push { cls := .type "tuple", data := .seq its.toArray }) h'.objs.size (.frz { cls := .type "tuple", data := .seq its.toArray } (.tup xs)) :=
    ⟨Heap.get?_push_size _ rfl, hz, its, rv, IsTup.new _ _⟩
  exact ⟨.ref h'.objs.size, _, I1.laid (t' := s.toks) (fun b o e => Heap.get?_push_of_some _ e) (Nat.le_refl _) new, rfl, q _ _ (I1.hok.fresh (Nat.le_refl _)) rfl⟩
/-- pairs by their values -/
theorem pairs_val {pins : List (Addr × Obj)} {σ : L2.St} {H : Hp} {s : Shared} (I : L2.Inv X pins σ H s) : ∀ {ps : List Addr} {kvs : List (L2.Key × V)}, Paired (fun p kv => SqT X.K H p [kV kv.1, kv.2]) ps kvs →
    ∃ (prs : List (L2.Key × Value)) (vps : List (Value × Value)), KV kvs prs ∧ prs.length = ps.length ∧ vps.length = ps.length ∧ ∀ (j : Nat) (k v : Value), vps[j]? = some (k, v) → ∃ (b : Addr) (x : L2.Key), ps[j]? = some b ∧ prs[j]? = some (x, v) ∧ s.heap.IsTuple b #[k, v] ∧ (mixKind X.prog X.w).is x k = true
  | _, _, .nil => ⟨[], [], .nil, rfl, rfl, fun j k v e => by simp at e⟩
  | _, _, .cons (a :=
      p) (b := kv) h t => by
    obtain ⟨prs, vps, r, l1, l2, hp⟩ := pairs_val I t
    (obtain ⟨its, rv, ht, _⟩ := I.tuple h)
    obtain ⟨u, y, rfl, ru, ry⟩ := vals2 rv
    refine ⟨(kv.1, y) :: prs, (u, y) :: vps, .cons ⟨rfl, ry⟩ r, by rw [List.length_cons, List.length_cons, l1], by rw [List.length_cons, List.length_cons, l2], fun j k v e => ?_⟩
    cases j with
    | zero => cases e; exact ⟨p, kv.1, rfl, rfl, ht, kV_is (P := X.prog) (w := X.w) ru⟩
    | succ j =>
      obtain ⟨b, x, e1, e2, e3, e4⟩ := hp j k v (by simpa using e)
      exact ⟨b, x, by simpa using e1, by simpa using e2, e3, e4⟩
/-- dict(a tuple of pairs) -/
def rDictF (K : PySem.W.Frag) : List V → Hp → VK → Prop := fun vs H Q => ∃ (a : Addr) (o : Obj) (ps : List Addr) (kvs : List (L2.Key × V)), vs = [V.ref a] ∧ H a = some (.frz o (.tup (ps.map V.ref))) ∧ o.dict = none ∧ Paired (fun p kv => SqT K H p [kV kv.1, kv.2]) ps kvs ∧
  ∀ p, H p = none → Q (.ref p) (upd H p (.dK (mergeK [] kvs)))
theorem cr_dictF (hc : X.calm = true) : CallR X (.type "dict") (rDictF X.K) := by
  (intro pins s σ H vs us Q I r h)
  obtain ⟨a, o, ps, kvs, rfl, ha, od, hp, q⟩ := h
  obtain ⟨u, eu, rx⟩ := vals1 r
  subst eu
  cases rx
  obtain ⟨ho, hz, its, rv, o', ho', hcl, n, hd⟩ := I.hok a _ ha
  rw [ho] at ho'
  cases ho'
  obtain rfl := refs_at rv
  rw [List.length_map] at hz
  obtain ⟨prs, vps, rel, l1, l2, hv⟩ := pairs_val I hp
  refine call_dict_pairs (knd := mixKind X.prog X.w) (kvs := prs) (PairArg.tuple a (ps.map Value.ref).toArray (fun j => ps.getD j 0) vps) (I.ok.hd hc) ⟨⟨o, n, ho, hcl, od, hd⟩, ?_⟩ ⟨by rw [l1, l2], fun j k v e => ?_⟩ (by rw [l2]; exact hz) fun h' tk hd' k => ?_
  · refine ⟨by simp [l2], fun j k v e => ?_⟩
    obtain ⟨b, x, e1, e2, e3, e4⟩ := hv j k v e
    have eb : ps.getD j 0 = b := by rw [List.getD_eq_getElem?_getD, e1]; rfl
    refine ⟨by simp [e1], ?_⟩
    show PySem.PairAt _ (ps.getD j 0) k v
    rw [eb]
    exact .inl e3
  · obtain ⟨b, x, e1, e2, e3, e4⟩ := hv j k v e
    exact ⟨x, e2, e4⟩
  · (have hm : (s.heap.objs.size == sysModules) = false := beq_eq_false_iff_ne.mpr (Nat.ne_of_gt I.big))
    have hlen : (mergeK []
        kvs).length ≤ sizeLine := by
      refine (Nat.le_trans (length_mergeK kvs []) ?_)
      rw [List.length_nil, Nat.zero_add, rel.length, l1]
      exact hz
    exact ⟨.ref s.heap.objs.size, _, I.laid (t' := tk) (fun b o e => k b o (by simp) e) (Nat.le_refl _) (show ObjOk X.prog X.w _ _ _ (.dK (mergeK [] kvs)) from ⟨hlen, hm, merged [] prs, KV.merge rel .nil, hd'⟩), rfl, q _ (I.hok.fresh (Nat.le_refl _))⟩
end
end LG

set_option Elab.async false
set_option linter.all false
set_option maxRecDepth 100000
set_option maxHeartbeats 4100000
namespace LG
open PySem L2
abbrev sKnown : Stmt := top 46
/-- a name with a kind, at a pair -/
def PairAt (K : PySem.W.Frag) (H : Hp) (k : Str × Th) (v : V) : Prop := ∃ a y, v = .ref a ∧ H a = some (.tup [.str k.1, y]) ∧ ThAt K H k.2 y
theorem PairAt.same {K : PySem.W.Frag} {H H' : Hp} {k : Str × Th} {v : V} (h : PairAt K H k v) (s : Same H H') : PairAt K H' k v := by
  obtain ⟨a, y, e, h1, h2⟩ := h
  exact ⟨a, y, e, s _ _ h1, h2.same s⟩
/-- a list is no part of a kind -/
theorem ThAt.off {K : PySem.W.Frag} {H : Hp} {D : Addr} {l : List V} (hD : H D = some (.lst l)) : ∀ {t : Th} {v : V}, t.any = true → ThAt K H t v → ThAt K (del H D) t v
  | .int i, v, _, h => h
  | .pr x y, v, ha, h => by
    obtain ⟨a, u, u', e, hs, h1, h2⟩ := h
    have ha : (x.any && y.any) = true := ha
    rw [Bool.and_eq_true] at ha
    have n : a ≠ D := by rintro rfl; rw [hs] at hD; cases hD
    exact ⟨a, u, u', e, by rw [del_ne n]; exact hs, ThAt.off hD ha.1 h1, ThAt.off hD ha.2 h2⟩
  | .bl b, v, ha, _ => by cases ha
  | .non, v, ha, _ => by cases ha
  | .tup, v, ha, _ => by cases ha
/-- a kind that is drawn: small -/
def KdOk (t : Th) : Prop := t.any = true ∧ t.depth ≤ 2 ∧ t.size < 8
/-- a tuple of names with kinds -/
def KnAt (K : PySem.W.Frag) (H : Hp) (ks : List ((Str × Th) × V)) (v : V) : Prop := ∃ (a : Addr) (o : Obj), v = .ref a ∧ H a = some (.frz o (.tup (ks.map (·.2)))) ∧ o.dict = none ∧ ∀ s ∈ ks, PairAt K H s.1 s.2 ∧ nameB s.1.1 = true ∧ KdOk s.1.2
theorem KnAt.same {K : PySem.W.Frag} {H H' : Hp} {ks : List ((Str × Th) × V)} {v : V} (h : KnAt K H ks v) (s : Same H H') : KnAt K H' ks v := by
  obtain ⟨a, o, e, h1, od, h2⟩ := h
  exact ⟨a, o, e, s _ _ h1, od, fun x hx => ⟨(h2 x hx).1.same s, (h2 x hx).2⟩⟩
def spKnown (K : PySem.W.Frag) : Sp := fun vs H Q _ => ∃ (p c : Addr) (cells : List Int) (m : Nat), vs = [.ref p, .int (m : Int)] ∧ HandAt H p c cells ∧ m ≤ 9 ∧
  ∀ v H' ks, HandAt H' p c cells → Same (del H p) (del H' p) → KnAt K (del H' p) ks v → ks.length ≤ m → Q v H'
def someNames : List V := [.str "f", .str "g", .str "h", .str "m", .str "n", .str "one", .str "two", .str "three", .str "abcdefgh"]
theorem someNames_ok : ∀ v ∈ someNames, ∃ z : Str, v = .str z ∧ nameB z = true := by
  intro v hv
  simp only [someNames, List.mem_cons, List.not_mem_nil, or_false] at hv
  rcases hv with rfl | rfl | rfl | rfl | rfl | rfl | rfl | rfl | rfl <;> exact ⟨_, rfl, by decide +kernel⟩
theorem cut_take {xs : List V} {m : Nat} : cutV xs none (some (m : Int)) = xs.take m := by
  unfold cutV HT.sIx
  simp only [show ¬ ((m : Int) < 0) by omega, if_false, List.drop_zero, Nat.sub_zero, Int.toNat_natCast]
  rcases Nat.le_total m xs.length with h | h
  · rw [Nat.min_eq_left h]
  · rw [Nat.min_eq_right h, List.take_of_length_le (Nat.le_refl _), List.take_of_length_le h]
section
variable {P : Program} {w : World} {K : PySem.W.Frag} {mg : Str → Option Value} {base : Heap}
theorem scKnown : FnScope ["_law_hand_here", "_law_many", "_law_names", "_law_name"] ["_law_hand_here", "_law_many"] (defScope sKnown) := ⟨rfl, rfl, rfl, by decide +kernel, rfl, by decide +kernel, by decide +kernel⟩
theorem ok_known {f fS fK fD : Addr} {fd fdS fdK fdD : FuncData} (F : Fn K mg "_law_known" sKnown ["_law_hand_here", "_law_many"] f fd) (NS : Fn K mg "_law_shuffled" sShuf ["_law_hand_here", "_law_things"] fS fdS) (NK : Fn K mg "_law_kind" sKd ["_law_hand_here", "_law_deep"] fK fdK)
    (ND : Fn K mg "_law_draw" sDraw ["_law_hand_here", "_law_many"] fD fdD) (T : TxB mg) (T2 : TxD mg) : FnOk P w K mg base CX0 5 f fd ["_law_hand_here", "_law_many"] (spKnown K) := by
  have GS : FnOk P w K mg base CX0 2 fS fdS ["_law_hand_here", "_law_things"] (spShuf K) := ok_shuf NS ND T T2
  have GK : FnOk P w K mg base CX0 4 fK fdK ["_law_hand_here", "_law_deep"] (spKd K 2) := ok_kd NK ND T 2
  refine F.F.ok scKnown (fun vs H Q E h => ?_) (fun cdv A outer s H vs Q E hr h => ?_)
  · obtain ⟨_, _, _, _, rfl, _⟩ := h
    rfl
  · obtain ⟨p, c, cells, m, rfl, hA, hm, kq⟩ := h
    have nd := scKnown.nd
    have hr2 := hr.mono (show 2 ≤ 4 by decide)
    refine ⟨_, pss_cons (ps_set (i := 2) nd rfl (Or.inl rfl) (pe_slice sl_list (pe_call GS hr2 (by rfl) NS.m NS.F.kp NS.b .nil pass0 (pa_cons (pv 0) (pa_cons (pe_lst (pa_cons pe_str (pa_cons pe_str (pa_cons pe_str (pa_cons pe_str (pa_cons pe_str (pa_cons pe_str (pa_cons pe_str (pa_cons pe_str (pa_cons pe_str pa_nil)))))))))) pa_nil))) po_none (po_some (pv 1))))
      (pss_one (ps_ret (pe_callTy cr_tupF (by rfl) T2.tuple (by decide +kernel) (pa_cons (pe_lc (own := [("_law_name", 3)]) (g := gName 3) (tt := tYes) rfl nd (pi_list (pv 2))
        (blkOk_by (N := ["_law_hand_here", "_law_many", "_law_names", "_law_name"]) (sc := defScope sKnown) (by decide +kernel)) (fun _ _ _ _ _ => pg_name (i := 3) nd rfl (Or.inl rfl)) (fun _ _ _ _ _ => pts_nil)
        (fun _ _ _ _ _ => pe_tup (pa_cons (pv 3) (pa_cons (pe_call GK hr (by rfl) NK.m NK.F.kp NK.b .nil pass0 (pa_cons (pv 0) (pa_cons pe_int pa_nil))) pa_nil)))) pa_nil)))), ?_⟩
    refine ⟨_, rfl, (by show 9 ≤ sizeLine; decide), fun l0 hl0 => ?_⟩
    have s1 := same_new (o := .lst someNames) (same_refl H) hl0
    refine ⟨p, c, l0, cells, someNames, rfl, hA.same s1, SqL.of upd_same, by decide, fun M l H1 pm hA1 s2 hl nlp fl => ?_⟩
    refine ⟨_, rfl, m, rfl, l, M, rfl, SqL.of hl, fun q hq => ?_⟩
    rw [cut_take]
    have nq1 : H1 q = none := hq
    have nqp : q ≠ p := hA1.fresh hq
    have nqc : q ≠ c := fun z => by rw [z, hA1.cl] at hq; cases hq
    have xok : ∀ v ∈ M.take m, ∃ z : Str, v = .str z ∧ nameB z = true := fun v hv => someNames_ok v (pm.mem_iff.mp (List.mem_of_mem_take hv))
    have hA2 : HandAt (upd H1 q (.lst (M.take m))) p c cells := hA1.upd nqp nqc
    have q2 : upd H1 q (.lst (M.take m)) q = some (.lst (M.take m)) := upd_same
    have s3 : Same (del H p) (del (upd H1 q (.lst (M.take m))) p) := same_upd (same_trans (del_same_of s1) s2) (by rw [del_ne nqp]; exact same_none (same_trans (same_trans (del_same_of s1) s2) del_le) hq |> fun h => by rw [del_ne nqp] at h; exact h)
    have ml : (M.take m).length ≤ m := by rw [List.length_take]; omega
    generalize upd H1 q (.lst (M.take m)) = H2 at hA2 q2 s3
    generalize M.take m = X at q2 xok ml
    refine ⟨_, rfl, q, rfl, ⟨_, SqL.of q2⟩, fun D hD => ?_⟩
    have nDp : D ≠ p := hA2.fresh hD
    have nDq : q ≠ D := ne_of_none q2 hD
    have nDc : D ≠ c := fun z => by rw [z, hA2.cl] at hD; cases hD
    have dD : del H p D = none := by
      rw [del_ne nDp]
      have := same_none (same_trans s3 del_le) hD
      rwa [del_ne nDp] at this
    refine lc_it walk_list (fun i H' => ∃ ks : List ((Str × Th) × V), ks.length = i ∧ HandAt H' p c cells ∧ Same (del H p) (del H' p) ∧ H' q = some (.lst X) ∧ H' D = some (.lst (ks.map (·.2))) ∧ ∀ s ∈ ks, PairAt K (del (del H' p) D) s.1 s.2 ∧ nameB s.1.1 = true ∧ KdOk s.1.2) ⟨[], rfl, hA2.upd nDp nDc, same_upd s3 dD, by rw [upd_ne nDq]; exact q2, upd_same, fun s h => by cases h⟩ (fun i H' _ ⟨_, _, _, _, h, _⟩ => SqL.of h) ?_ ?_
    · rintro i y _ H' hi ⟨ks, rfl, h1, h2, h3, h4, h5⟩ ⟨rfl, hy⟩
      obtain ⟨z, rfl, nz⟩ := xok y (List.mem_of_getElem? hy)
      refine ⟨rfl, ?_⟩
      refine yes_kept ?_
      refine ⟨_, rfl, _, rfl, p, c, cells, rfl, h1, fun t v H3 hA3 s4 th g => ?_⟩
      have q3 : H3 q = some (.lst X) := by have := s4 q _ (by rw [del_ne nqp]; exact h3); rwa [del_ne nqp] at this
      have d3 : H3 D = some (.lst (ks.map (·.2))) := by have := s4 D _ (by rw [del_ne nDp]; exact h4); rwa [del_ne nDp] at this
      refine ⟨(by show 2 ≤ sizeLine; decide), fun T hT => ?_⟩
      have nTp : T ≠ p := hA3.fresh hT
      have nDT : D ≠ T := ne_of_none d3 hT
      have nqT : q ≠ T := ne_of_none q3 hT
      have s5 := same_new (o := .tup [.str z, v]) (same_refl H3) hT
      have hA4 := hA3.same s5
      have d4 : upd H3 T (.tup [.str z, v]) D = some (.lst (ks.map (·.2))) := s5 _ _ d3
      have q4 : upd H3 T (.tup [.str z, v]) q = some (.lst X) := s5 _ _ q3
      have t4 : upd H3 T (.tup [.str z, v]) T = some (.tup [.str z, v]) := upd_same
      generalize upd H3 T (.tup [.str z, v]) = H4 at s5 hA4 d4 q4 t4
      have sDD : ∀ {G G' : Hp} {o : HO}, Same G G' → Same (del G D) (del (upd G' D o) D) := fun s b o e => by
        by_cases hb : b = D
        · rw [hb, del_same] at e; cases e
        · rw [del_ne hb] at e ⊢; rw [upd_ne hb]; exact s b o e
      have upp : ∀ {G : Hp} {o : HO}, del (upd G D o) p = upd (del G p) D o := fun {G o} => by
        funext b
        by_cases hb : b = p
        · rw [hb, del_same, upd_ne nDp.symm, del_same]
        · rw [del_ne hb]
          by_cases hd : b = D
          · rw [hd, upd_same, upd_same]
          · rw [upd_ne hd, upd_ne hd, del_ne hb]
      refine ⟨_, d4, (by rw [List.length_map]; exact room2 (by omega)), ks ++ [((z, t), .ref T)], by simp, hA4.upd nDp nDc, same_upd (same_trans h2 (same_trans s4 (del_same_of s5))) dD, by rw [upd_ne nDq]; exact q4, by rw [upd_same, List.map_append]; rfl, fun x hx => ?_⟩
      rw [upp]
      obtain hx | hx := List.mem_append.mp hx
      · exact ⟨(h5 x hx).1.same (sDD (same_trans s4 (del_same_of s5))), (h5 x hx).2⟩
      · rw [List.mem_singleton] at hx
        subst hx
        refine ⟨⟨T, v, rfl, by rw [del_ne nDT.symm, upd_ne nDT.symm, del_ne nTp]; exact t4, ?_⟩, nz, g⟩
        have d3' : del H3 p D = some (.lst (ks.map (·.2))) := by rw [del_ne nDp]; exact d3
        exact (ThAt.off d3' g.1 th).same (sDD (del_same_of s5))
    · rintro H' ⟨ks, hk, h1, h2, h3, h4, h5⟩
      refine ⟨D, _, rfl, SqL.of h4, fun R o hR od => ?_⟩
      have nRp : R ≠ p := h1.fresh hR
      have nRD : D ≠ R := ne_of_none h4 hR
      have s6 := same_new (o := .frz o (.tup (ks.map (·.2)))) (same_refl H') hR
      refine kq _ _ ks (h1.same s6) (same_trans h2 (del_same_of s6)) ⟨R, o, rfl, by rw [del_ne nRp]; exact upd_same, od, fun x hx => ⟨(h5 x hx).1.same (same_trans del_le (del_same_of s6)), (h5 x hx).2⟩⟩ (by omega)
end
end LG

set_option Elab.async false
set_option linter.all false
set_option maxRecDepth 100000
set_option maxHeartbeats 4100000
namespace LG
open PySem L2
abbrev sLoose : Stmt := top 51
/-! ### programs put together -/
theorem step_add {fit : Th → Bool} {w : Wd} {k j m : Nat} (h : stepC fit w k = some j) : stepC fit w (k + m) = some (j + m) := by
  unfold stepC at h ⊢
  by_cases u : w.use = true
  · rw [if_pos u] at h ⊢
    by_cases k2 : k < 2
    · rw [if_pos k2] at h; cases h
    · rw [if_neg k2] at h
      cases h
      rw [if_neg (by omega)]
      congr 1
      omega
  · rw [if_neg u] at h ⊢
    by_cases n : w.name = true
    · rw [if_pos n] at h ⊢
      cases h
      congr 1
      omega
    · rw [if_neg n] at h ⊢
      by_cases b : (decide (k < 1) || !w.take fit) = true
      · rw [if_pos b] at h; cases h
      · rw [if_neg b] at h
        cases h
        have b' : (decide (k < 1) || !w.take fit) = false := Bool.eq_false_iff.mpr b
        rw [Bool.or_eq_false_iff] at b'
        have k1 : ¬ k < 1 := of_decide_eq_false b'.1
        rw [if_neg]
        rw [b'.2, Bool.or_false, decide_eq_true_eq]
        omega
theorem cnt_app {fit : Th → Bool} {b : List Wd} {m : Nat} (hb : cntC fit b = some m) : ∀ {a : List Wd} {k : Nat}, cntC fit a = some k → cntC fit (a ++ b) = some (k + m)
  | [], k, h => by cases h; rw [List.nil_append, hb, Nat.zero_add]
  | w :: r, k, h => by
    cases e : cntC fit r with
    | none => rw [cntC, e] at h; cases h
    | some k' =>
      rw [cntC, e] at h
      have h : stepC fit w k' = some k := h
      rw [List.cons_append, cntC, cnt_app hb e]
      exact step_add h
/-- words that make one program -/
def kdB (t : Th) : Bool := t.any && (decide (t.depth ≤ 2) && decide (t.size < 8))
theorem kdB_of {t : Th} (a : t.any = true) (d : t.depth ≤ 2) (s : t.size < 8) : kdB t = true := by
  unfold kdB
  rw [a, decide_eq_true d, decide_eq_true s]; rfl
theorem kdB_ok {t : Th} (h : kdB t = true) : KdOk t := by
  unfold kdB at h
  rw [Bool.and_eq_true, Bool.and_eq_true, decide_eq_true_eq, decide_eq_true_eq] at h
  exact h
theorem cnt_mono {fit fit' : Th → Bool} (h : ∀ t, fit t = true → fit' t = true) : ∀ {ws : List Wd} {m : Nat}, cntC fit ws = some m → cntC fit' ws = some m
  | [], m, e => e
  | w :: r, m, e => by
    cases q : cntC fit r with
    | none => rw [cntC, q] at e; cases e
    | some k =>
      rw [cntC, q] at e
      have e : stepC fit w k = some m := e
      rw [cntC, cnt_mono h q]
      show stepC fit' w k = some m
      rw [← e]
      unfold stepC
      split
      · rfl
      · split
        · rfl
        · by_cases b : (decide (k < 1) || !w.take fit) = true
          · unfold stepC at e
            rename_i u n
            rw [if_neg u, if_neg n, if_pos b] at e; cases e
          · rw [if_neg b, if_neg]
            rw [Bool.or_eq_true, not_or, Bool.not_eq_true', Bool.not_eq_false] at b ⊢
            refine ⟨b.1, ?_⟩
            have b2 := b.2
            cases w with
            | st z => cases b2
            | no => cases b2
            | pr o t =>
              cases o with
              | none => cases b2
              | some z =>
                have b2 : (nameB z && fit t) = true := b2
                rw [Bool.and_eq_true] at b2
                show (nameB z && fit' t) = true
                rw [b2.1, h t b2.2]; rfl
/-- small kinds alone -/
def One (ws : List Wd) : Prop := cntC kdB ws = some 1
theorem One.any {ws : List Wd} (h : One ws) : cntC Th.any ws = some 1 := cnt_mono (fun t ht => (kdB_ok ht).1) h
theorem One.name {z : Str} (h : nameB z = true) : One [.st z] := by
  have u : (Wd.st z).use = false := decide_eq_false (by rintro rfl; rw [name_at] at h; cases h)
  show stepC kdB (.st z) 0 = some 1
  unfold stepC
  rw [u, if_neg Bool.false_ne_true, if_pos (show (Wd.st z).name = true from h)]
theorem One.use {f a : List Wd} (hf : One f) (ha : One a) : One (.st "@" :: (f ++ a)) := by
  have := cnt_app ha hf
  unfold One
  rw [cntC, this]; rfl
theorem One.take {b : List Wd} {z : Str} {t : Th} (hz : nameB z = true) (ht : kdB t = true) (hb : One b) : One (.pr (some z) t :: b) := by
  unfold One at hb ⊢
  rw [cntC, hb]
  show stepC kdB (.pr (some z) t) 1 = some 1
  unfold stepC
  have e : (Wd.pr (some z) t).take kdB = true := by show (nameB z && kdB t) = true; rw [hz, ht]; rfl
  rw [if_neg (by intro z; cases z), if_neg (by intro z; cases z), if_neg (by rw [e]; decide)]
theorem One.prog {ws : List Wd} (h : One ws) : Prog ws := ⟨decide_eq_true h.any⟩
/-! ### where they stand -/
theorem nameB_len {z : Str} (h : nameB z = true) : z.length ≤ 8 := by
  unfold nameB at h
  rw [Bool.and_eq_true, Bool.and_eq_true] at h
  exact of_decide_eq_true h.1.2
theorem WdAt.nm {K : PySem.W.Frag} {H : Hp} {z : Str} (h : nameB z = true) : WdAt K H (.st z) (.str z) := ⟨rfl, by have := nameB_len h; omega⟩
theorem WdAt.us {K : PySem.W.Frag} {H : Hp} : WdAt K H (.st "@") (.str "@") := ⟨rfl, by decide⟩
theorem WdAt.tk {K : PySem.W.Frag} {H : Hp} {z : Str} {t : Th} {a : Addr} {y : V} (h : nameB z = true) (ha : H a = some (.tup [.str z, y])) (ht : ThAt K H t y) (hs : t.size ≤ 10000) : WdAt K H (.pr (some z) t) (.ref a) :=
  ⟨a, .str z, y, rfl, ha, ⟨rfl, by have := nameB_len h; omega⟩, ⟨.non, ⟨_, .base (.str z), kit_ty (r := false) (by decide +kernel), kit_ty (r := false) (by decide +kernel)⟩⟩, ht, hs⟩
theorem WdsAt.nil {K : PySem.W.Frag} {H : Hp} : WdsAt K H [] [] := ⟨rfl, fun i w v h => by simp at h⟩
theorem WdsAt.app {K : PySem.W.Frag} {H : Hp} {ws xs : List Wd} {vs ys : List V} (h : WdsAt K H ws vs) (g : WdsAt K H xs ys) : WdsAt K H (ws ++ xs) (vs ++ ys) := by
  refine ⟨by rw [List.length_append, List.length_append, h.1, g.1], fun i w v hw hv => ?_⟩
  by_cases q : i < ws.length
  · rw [List.getElem?_append_left q] at hw
    rw [List.getElem?_append_left (by rw [h.1]; exact q)] at hv
    exact h.2 i w v hw hv
  · rw [List.getElem?_append_right (by omega)] at hw
    rw [List.getElem?_append_right (by rw [h.1]; omega), h.1] at hv
    exact g.2 _ w v hw hv
theorem WdsAt.one {K : PySem.W.Frag} {H : Hp} {w : Wd} {v : V} (h : WdAt K H w v) : WdsAt K H [w] [v] := by
  refine ⟨rfl, fun i w' v' hw hv => ?_⟩
  cases i with
  | zero => cases hw; cases hv; exact h
  | succ i => simp at hw
/-- what a def hands back that draws: a program beside the hand -/
def BackP (K : PySem.W.Frag) (H : Hp) (p c : Addr) (cells : List Int) (m : Nat) (Q : VK) : Prop := ∀ (ws : List Wd) (a : Addr) (vs : List V) (H' : Hp), HandAt H' p c cells → Same (del H p) (del H' p) → H' a = some (.tup vs) → WdsAt K (del H' p) ws vs → One ws → ws.length ≤ m → Q (.ref a) H'
/-- a list of names -/
def NmL (xs : List V) : Prop := ∀ v ∈ xs, ∃ z : Str, v = .str z ∧ nameB z = true
def szL (d : Nat) : Nat := 2 ^ (d + 1) - 1
def spLoose (K : PySem.W.Frag) (d : Nat) : Sp := fun vs H Q _ => ∃ (p c nm : Addr) (cells : List Int) (xs : List V), vs = [.ref p, .ref nm, .int (d : Int)] ∧ HandAt H p c cells ∧ H nm = some (.lst xs) ∧ nm ≠ p ∧ NmL xs ∧ 0 < xs.length ∧ xs.length < 1000 ∧ BackP K H p c cells (szL d) Q
section
variable {P : Program} {w : World} {K : PySem.W.Frag} {mg : Str → Option Value} {base : Heap}
theorem scLoose : FnScope ["_law_hand_here", "_law_names", "_law_deep", "_law_kind_here"] ["_law_hand_here", "_law_names", "_law_deep"] (defScope sLoose) := ⟨rfl, rfl, rfl, by decide +kernel, rfl, by decide +kernel, by decide +kernel⟩
theorem One.ne {ws : List Wd} (h : One ws) : ws ≠ [] := by rintro rfl; cases h
/-- what stands outside of the hand stays -/
theorem stays {H H' : Hp} {p q : Addr} {o : HO} (s : Same (del H p) (del H' p)) (n : q ≠ p) (h : H q = some o) : H' q = some o := by
  have := s q o (by rw [del_ne n]; exact h)
  rwa [del_ne n] at this
theorem newOff {H H' : Hp} {p q : Addr} {o : HO} (s : Same (del H p) (del H' p)) (hq : H' q = none) : Same (del H p) (del (upd H' q o) p) := same_trans s (del_same_of (same_new (same_refl _) hq))
theorem ok_loose {f fD fS fK : Addr} {fd fdD fdS fdK : FuncData} (F : Fn K mg "_law_loose" sLoose ["_law_hand_here", "_law_names", "_law_deep"] f fd) (ND : Fn K mg "_law_draw" sDraw ["_law_hand_here", "_law_many"] fD fdD) (NS : Fn K mg "_law_some" sSome ["_law_hand_here", "_law_things"] fS fdS)
    (NK : Fn K mg "_law_kind" sKd ["_law_hand_here", "_law_deep"] fK fdK) (T : TxB mg) : ∀ d : Nat, d ≤ 10 → FnOk P w K mg base CX0 (d + 4) f fd ["_law_hand_here", "_law_names", "_law_deep"] (spLoose K d) := by
  have GD : FnOk P w K mg base CX0 1 fD fdD ["_law_hand_here", "_law_many"] spDraw := ok_draw ND.F T
  have GS : FnOk P w K mg base CX0 2 fS fdS ["_law_hand_here", "_law_things"] (spSome K) := ok_some NS.F T ND.F ND.b ND.m
  have GK : FnOk P w K mg base CX0 3 fK fdK ["_law_hand_here", "_law_deep"] (spKd K 1) := ok_kd NK ND T 1
  -- one name
  have alone : ∀ {H H1 : Hp} {p c : Addr} {cells : List Int} {m : Nat} {Q : VK} {z : Str}, 1 ≤ m → nameB z = true → HandAt H1 p c cells → Same (del H p) (del H1 p) → BackP K H p c cells m Q → ∀ q, H1 q = none → Q (.ref q) (upd H1 q (.tup [.str z])) := fun hm hz hA s k q hq =>
    k [.st _] q _ _ (hA.same (same_new (same_refl _) hq)) (newOff s hq) upd_same (WdsAt.one (WdAt.nm hz)) (One.name hz) hm
  intro d
  induction d with
  | zero =>
    intro _
    refine F.F.ok scLoose (fun vs H Q E h => ?_) (fun cdv A outer s H vs Q E hr h => ?_)
    · obtain ⟨_, _, _, _, _, rfl, _⟩ := h
      rfl
    · obtain ⟨p, c, nm, cells, xs, rfl, hA, hn, np, ok, x0, x1, kq⟩ := h
      have nd := scLoose.nd
      have hr1 := hr.mono (show 1 ≤ 3 by decide)
      have hr2 := hr.mono (show 2 ≤ 3 by decide)
      refine ⟨_, pss_cons (ps_set (i := 3) nd rfl (Or.inl rfl) (pe_ifExp (pt_cmpR op_gt (pv 2) pe_int (nomark _)) (pe_call GD hr1 (by rfl) ND.m ND.F.kp ND.b .nil pass0 (pa_cons (pv 0) (pa_cons pe_int pa_nil))) pe_int))
        (pss_cons (ps_if (pt_cmpR op_eq (pv 3) pe_int (nomark _)) (pss_one (ps_ret (pe_tup (pa_cons (pe_call GS hr2 (by rfl) NS.m NS.F.kp NS.b .nil pass0 (pa_cons (pv 0) (pa_cons (pv 1) pa_nil))) pa_nil)))) pss_nil)
        pss_never), ?_⟩
      refine ⟨_, rfl, _, _, rfl, rfl, _, rfl, ?_⟩
      refine ifF (by decide) ?_
      refine ⟨_, rfl, rfl, _, rfl, ?_⟩
      refine ifT (by decide) ?_
      refine ⟨_, rfl, _, rfl, p, c, nm, cells, xs, rfl, hA, SqL.of hn, np, x0, x1, fun k v H1 hk hA1 o1 => ?_⟩
      obtain ⟨z, rfl, hz⟩ := ok v (List.mem_of_getElem? hk)
      exact ⟨(by show 1 ≤ sizeLine; decide), alone (by decide) hz hA1 (del_off o1) kq⟩
  | succ d G =>
    intro hd
    have G := G (by omega)
    refine F.F.ok scLoose (fun vs H Q E h => ?_) (fun cdv A outer s H vs Q E hr h => ?_)
    · obtain ⟨_, _, _, _, _, rfl, _⟩ := h
      rfl
    · obtain ⟨p, c, nm, cells, xs, rfl, hA, hn, np, ok, x0, x1, kq⟩ := h
      have nd := scLoose.nd
      have hr1 := hr.mono (show 1 ≤ d + 4 by omega)
      have hr2 := hr.mono (show 2 ≤ d + 4 by omega)
      have hr3 := hr.mono (show 3 ≤ d + 4 by omega)
      refine ⟨_, Evl.pss_cut (ps_set (i := 3) nd rfl (Or.inl rfl) (pe_ifExp (pt_cmpR op_gt (pv 2) pe_int (nomark _)) (pe_call GD hr1 (by rfl) ND.m ND.F.kp ND.b .nil pass0 (pa_cons (pv 0) (pa_cons pe_int pa_nil))) pe_int))
        (pss_cons (ps_if (pt_cmpR op_eq (pv 3) pe_int (nomark _)) (pss_one (ps_ret (pe_tup (pa_cons (pe_call GS hr2 (by rfl) NS.m NS.F.kp NS.b .nil pass0 (pa_cons (pv 0) (pa_cons (pv 1) pa_nil))) pa_nil)))) pss_nil)
        (pss_cons (ps_if (pt_cmpR op_lt (pv 3) pe_int (nomark _)) (pss_one (ps_ret (pe_op op_catA (pe_op op_catA (pe_tup (pa_cons pe_str pa_nil)) (pe_call G hr (by rfl) F.m F.F.kp F.b .nil pass0 (pa_cons (pv 0) (pa_cons (pv 1) (pa_cons (pe_op op_sub (pv 2) pe_int) pa_nil)))))
            (pe_call G hr (by rfl) F.m F.F.kp F.b .nil pass0 (pa_cons (pv 0) (pa_cons (pv 1) (pa_cons (pe_op op_sub (pv 2) pe_int) pa_nil))))))) pss_nil)
        (pss_one (ps_ret (pe_op op_catA (pe_tup (pa_cons (pe_tup (pa_cons (pe_call GS hr2 (by rfl) NS.m NS.F.kp NS.b .nil pass0 (pa_cons (pv 0) (pa_cons (pv 1) pa_nil))) (pa_cons (pe_call GK hr3 (by rfl) NK.m NK.F.kp NK.b .nil pass0 (pa_cons (pv 0) (pa_cons pe_int pa_nil))) pa_nil))) pa_nil))
            (pe_call G hr (by rfl) F.m F.F.kp F.b .nil pass0 (pa_cons (pv 0) (pa_cons (pv 1) (pa_cons (pe_op op_sub (pv 2) pe_int) pa_nil))))))))), ?_⟩
      have ed : ((d + 1 : Nat) : Int) - 1 = (d : Int) := by omega
      have sz : szL (d + 1) = szL d + szL d + 1 := by unfold szL; rw [Nat.pow_succ 2 (d + 1)]; have := Nat.one_le_two_pow (n := d + 1); omega
      have sz1 : 1 ≤ szL d := by unfold szL; rw [Nat.pow_succ]; have := Nat.one_le_two_pow (n := d); omega
      have sz2 : szL d ≤ 2047 := by unfold szL; have := Nat.pow_le_pow_right (n := 2) (by decide) (show d + 1 ≤ 11 by omega); omega
      refine ⟨fun σ' H' => ∃ r : Int, σ' = [some (.ref p), some (.ref nm), some (.int ((d + 1 : Nat) : Int)), some (.int r)] ∧ HandAt H' p c cells ∧ Same (del H p) (del H' p), ?_, ?_⟩
      · refine ⟨_, rfl, _, _, rfl, rfl, _, rfl, ?_⟩
        refine ifT (decide_eq_true (by omega)) ?_
        refine ⟨_, rfl, p, c, cells, 4, rfl, hA, by decide, by decide, fun r H1 z0 z4 hA1 o1 => ⟨r, rfl, hA1, del_off o1⟩⟩
      · rintro _ H1 ⟨r, rfl, hA1, s1⟩
        have hn1 := stays s1 np hn
        refine ⟨_, rfl, rfl, _, rfl, ?_⟩
        refine ite2 (fun _ => ?_) (fun _ => ?_)
        · refine ⟨_, rfl, _, rfl, p, c, nm, cells, xs, rfl, hA1, SqL.of hn1, np, x0, x1, fun k v H2 hk hA2 o2 => ?_⟩
          obtain ⟨z, rfl, hz⟩ := ok v (List.mem_of_getElem? hk)
          exact ⟨(by show 1 ≤ sizeLine; decide), alone (by omega) hz hA2 (same_trans s1 (del_off o2)) kq⟩
        · refine ⟨_, rfl, _, _, rfl, rfl, _, rfl, ?_⟩
          refine ite2 (fun _ => ?_) (fun _ => ?_)
          · refine ⟨(by show 1 ≤ sizeLine; decide), fun q1 hq1 => ?_⟩
            have n1 := hA1.fresh hq1
            have hA2 := hA1.same (same_new (o := .tup [.str "@"]) (same_refl _) hq1)
            have s2 := newOff (o := .tup [.str "@"]) s1 hq1
            have f1 : upd H1 q1 (.tup [.str "@"]) q1 = some (.tup [.str "@"]) := upd_same
            generalize upd H1 q1 (.tup [.str "@"]) = H2 at hA2 s2 f1
            refine ⟨_, rfl, _, rfl, _, rfl, _, _, rfl, rfl, p, c, nm, cells, xs, (by show [V.ref p, V.ref nm, V.int (((d + 1 : Nat) : Int) - 1)] = _; rw [ed]), hA2, stays s2 np hn, np, ok, x0, x1, fun ws1 a1 vs1 H3 hA3 s23 ha1 w1 o1 l1 => ?_⟩
            have s3 := same_trans s2 s23
            have na1 : a1 ≠ p := by
              obtain ⟨l, e⟩ := hA3.some
              rintro rfl
              rw [ha1] at e; cases e
            have f3 := stays s23 n1 f1
            have v1 : vs1 ≠ [] := fun z => o1.ne (List.eq_nil_of_length_eq_zero (by rw [← w1.1, z]; rfl))
            refine ⟨q1, a1, _, vs1, rfl, rfl, SqT.of f3, SqT.of ha1, (by rw [w1.1]; show 1 + ws1.length ≤ sizeLine; exact big2 (by omega)), (fun h => by cases h), (fun _ h => absurd h v1), fun _ _ q2 hq2 => ?_⟩
            have n2 := hA3.fresh hq2
            have hA4 := hA3.same (same_new (o := .tup ([.str "@"] ++ vs1)) (same_refl _) hq2)
            have s34 := newOff (o := .tup ([.str "@"] ++ vs1)) (same_refl (del H3 p)) hq2
            have f4 : upd H3 q2 (.tup ([.str "@"] ++ vs1)) q2 = some (.tup ([.str "@"] ++ vs1)) := upd_same
            generalize upd H3 q2 (.tup ([.str "@"] ++ vs1)) = H4 at hA4 s34 f4
            have s4 := same_trans s3 s34
            refine ⟨_, rfl, _, rfl, _, rfl, _, _, rfl, rfl, p, c, nm, cells, xs, (by show [V.ref p, V.ref nm, V.int (((d + 1 : Nat) : Int) - 1)] = _; rw [ed]), hA4, stays s4 np hn, np, ok, x0, x1, fun ws2 a2 vs2 H5 hA5 s45 ha2 w2 o2 l2 => ?_⟩
            have v2 : vs2 ≠ [] := fun z => o2.ne (List.eq_nil_of_length_eq_zero (by rw [← w2.1, z]; rfl))
            have f5 := stays s45 n2 f4
            have ww := ((WdsAt.one WdAt.us).app ((w1.same s34).same s45)).app w2
            refine ⟨q2, a2, _, vs2, rfl, rfl, SqT.of f5, SqT.of ha2, (by rw [List.length_append, w1.1, w2.1]; show 1 + ws1.length + ws2.length ≤ sizeLine; exact big2 (by omega)), (fun h => by cases h), (fun _ h => absurd h v2), fun _ _ q3 hq3 => ?_⟩
            refine kq ([.st "@"] ++ ws1 ++ ws2) q3 _ _ (hA5.same (same_new (same_refl _) hq3)) (newOff (same_trans s4 s45) hq3) upd_same (ww.same (del_same_of (same_new (same_refl _) hq3))) ?_ ?_
            · have := One.use o1 o2
              rwa [List.append_assoc]
            · rw [List.length_append, List.length_append, List.length_singleton]; omega
          · refine ⟨_, rfl, _, rfl, p, c, nm, cells, xs, rfl, hA1, SqL.of hn1, np, x0, x1, fun k v H2 hk hA2 o2 => ?_⟩
            obtain ⟨z, rfl, hz⟩ := ok v (List.mem_of_getElem? hk)
            have s2 := same_trans s1 (del_off o2)
            refine ⟨_, rfl, p, c, cells, rfl, hA2, fun t y H3 hA3 s23 ht g => ?_⟩
            have s3 := same_trans s2 s23
            refine ⟨(by show 2 ≤ sizeLine; decide), fun q0 hq0 => ?_⟩
            have n0 := hA3.fresh hq0
            have hA4 := hA3.same (same_new (o := .tup [.str z, y]) (same_refl _) hq0)
            have s34 := newOff (o := .tup [.str z, y]) (same_refl (del H3 p)) hq0
            have f0 : upd H3 q0 (.tup [.str z, y]) q0 = some (.tup [.str z, y]) := upd_same
            generalize upd H3 q0 (.tup [.str z, y]) = H4 at hA4 s34 f0
            have s4 := same_trans s3 s34
            have w0 : WdAt K (del H4 p) (.pr (some z) t) (.ref q0) := WdAt.tk hz (by rw [del_ne n0]; exact f0) (ht.same s34) (by have := g.2.2; have : (2 : Nat) ^ (1 + 1) = 4 := rfl; omega)
            refine ⟨(by show 1 ≤ sizeLine; decide), fun q1 hq1 => ?_⟩
            have n1 := hA4.fresh hq1
            have hA5 := hA4.same (same_new (o := .tup [.ref q0]) (same_refl _) hq1)
            have s45 := newOff (o := .tup [.ref q0]) (same_refl (del H4 p)) hq1
            have f1 : upd H4 q1 (.tup [.ref q0]) q1 = some (.tup [.ref q0]) := upd_same
            generalize upd H4 q1 (.tup [.ref q0]) = H5 at hA5 s45 f1
            have s5 := same_trans s4 s45
            refine ⟨_, rfl, _, rfl, _, rfl, _, _, rfl, rfl, p, c, nm, cells, xs, (by show [V.ref p, V.ref nm, V.int (((d + 1 : Nat) : Int) - 1)] = _; rw [ed]), hA5, stays s5 np hn, np, ok, x0, x1, fun ws2 a2 vs2 H6 hA6 s56 ha2 w2 o2 l2 => ?_⟩
            have v2 : vs2 ≠ [] := fun z => o2.ne (List.eq_nil_of_length_eq_zero (by rw [← w2.1, z]; rfl))
            have ww := (WdsAt.one ((w0.same s45).same s56)).app w2
            refine ⟨q1, a2, _, vs2, rfl, rfl, SqT.of (stays s56 n1 f1), SqT.of ha2, (by rw [w2.1]; show 1 + ws2.length ≤ sizeLine; exact big2 (by omega)), (fun h => by cases h), (fun _ h => absurd h v2), fun _ _ q3 hq3 => ?_⟩
            refine kq ([.pr (some z) t] ++ ws2) q3 _ _ (hA6.same (same_new (same_refl _) hq3)) (newOff (same_trans s5 s56) hq3) upd_same (ww.same (del_same_of (same_new (same_refl _) hq3))) (One.take hz (kdB_of g.1 (by have := g.2.1; omega) (by have := g.2.2; have : (2 : Nat) ^ (1 + 1) = 4 := rfl; omega)) o2) ?_
            (rw [List.length_append, List.length_singleton]; omega)
end
end LG

set_option Elab.async false
set_option linter.all false
set_option maxRecDepth 100000
set_option maxHeartbeats 4100000
namespace LG
open PySem L2
abbrev sSpans : Stmt := top 48
theorem WdAt.tyT {K : PySem.W.Frag} {H : Hp} {w : Wd} {v : V} (hv : WdAt K H w v) (hn : w ≠ .no) : ∃ tv, TyX K H v tv ∧ PySem.W.kitOne K tv (.type "tuple") = some w.thing := by
  cases w with
  | st z =>
    obtain ⟨rfl, _⟩ := hv
    exact ⟨_, .base (.str z), kit_ty (r := false) (by decide +kernel)⟩
  | pr o t =>
    obtain ⟨a, x, y, rfl, ha, _⟩ := hv
    exact ⟨_, .base (.tup ha), kit_ty (r := true) (by decide +kernel)⟩
  | no => exact absurd rfl hn
/-- the ends of the parts that wait behind a place, the next one last -/
def wtL (ws : List Wd) (i : Nat) : List V := ((stk i ((pend (ws.drop i)).getD [])).reverse).map fun t : Nat => V.int (t : Int)
theorem wtL_of {ws : List Wd} {i : Nat} {l : List Nat} (h : pend (ws.drop i) = some l) : wtL ws i = ((stk i l).reverse).map fun t : Nat => V.int (t : Int) := by unfold wtL; rw [h]; rfl
theorem wt_step {ws : List Wd} {i a : Nat} {l : List Nat} (h : pend (ws.drop i) = some (a :: l)) : wtL ws i = ((stk (i + a) l).reverse.map fun t : Nat => V.int (t : Int)) ++ [V.int ((i + a : Nat) : Int)] := by
  rw [wtL_of h]
  show (((i + a) :: stk (i + a) l).reverse.map fun t : Nat => V.int (t : Int)) = _
  rw [List.reverse_cons, List.map_append]; rfl
theorem wt_two {ws : List Wd} {i a b : Nat} {l : List Nat} (h : pend (ws.drop i) = some (a :: b :: l)) : wtL ws i = (((stk (i + a + b) l).reverse.map fun t : Nat => V.int (t : Int)) ++ [V.int ((i + a + b : Nat) : Int)]) ++ [V.int ((i + a : Nat) : Int)] := by
  rw [wt_step h]
  congr 1
  show (((i + a + b) :: stk (i + a + b) l).reverse.map fun t : Nat => V.int (t : Int)) = _
  rw [List.reverse_cons, List.map_append]; rfl
theorem stk_len : ∀ {l : List Nat} {i : Nat}, (stk i l).length = l.length
  | [], _ => rfl
  | a :: l, i => by show (stk (i + a) l).length + 1 = l.length + 1; rw [stk_len]
theorem pend_len : ∀ {ws : List Wd} {l : List Nat}, pend ws = some l → l.length ≤ ws.length
  | [], l, h => by cases h; exact Nat.le_refl _
  | w :: r, l, h => by
    rw [List.length_cons]
    cases u : w.use with
    | true => obtain ⟨a, b, l', e, rfl⟩ := pend_use h u; have := pend_len e; simp only [List.length_cons] at this ⊢; omega
    | false =>
      cases t : w.thing with
      | true => obtain ⟨a, l', e, rfl⟩ := pend_take h u t; have := pend_len e; simp only [List.length_cons] at this ⊢; omega
      | false => obtain ⟨l', e, rfl⟩ := pend_name h u t; have := pend_len e; simp only [List.length_cons] at this ⊢; omega
section
variable {P : Program} {w : World} {K : PySem.W.Frag} {mg : Str → Option Value} {base : Heap}
theorem scSpans : FnScope ["_law_words", "_law_found", "_law_waiting", "_law_place", "_law_last"] ["_law_words"] (defScope sSpans) := ⟨rfl, rfl, rfl, by decide +kernel, rfl, by decide +kernel, by decide +kernel⟩
theorem ok_spans {f : Addr} {fd : FuncData} (F : Fn K mg "_law_spans" sSpans ["_law_words"] f fd) (T : TxB mg) (T2 : TxD mg) : FnOk P w K mg base CX0 1 f fd ["_law_words"] (spEnds K) := by
  refine F.F.ok scSpans (fun vs H Q E h => ?_) (fun cdv A outer s H vs Q E hr h => ?_)
  · obtain ⟨_, _, rfl, _⟩ := h
    rfl
  · obtain ⟨v, ws, rfl, hv, hn, wh, kq⟩ := h
    have nd := scSpans.nd
    refine ⟨_, pss_cons (ps_set (i := 1) nd rfl (Or.inl rfl) (pe_op op_rep (pe_lst (pa_cons pe_int pa_nil)) (pe_callB call_len_seq (by rfl) T.len PySem.boot_len (pa_cons (pv 0) pa_nil))))
      (pss_cons (ps_set (i := 2) nd rfl (Or.inl rfl) (pe_lst pa_nil))
      (pss_cons (ps_for PassesOwn.never rfl (pi_range3 (by rfl) T.range (pa_cons (pe_op op_sub (pe_callB call_len_seq (by rfl) T.len PySem.boot_len (pa_cons (pv 0) pa_nil)) pe_int) (pa_cons (pe_un un_neg pe_int) (pa_cons (pe_un un_neg pe_int) pa_nil)))) (pg_name (i := 3) nd rfl (Or.inl rfl))
        (pss_cons (ps_set (i := 4) nd rfl (Or.inl rfl) (pe_op op_add (pv 3) pe_int))
        (Evl.pss_cut (ps_if (pt_cmpR (op_eqW (Nat.lt_of_le_of_lt (Nat.le_add_right _ 64) hr.units)) (pe_ix ix_tup (pv 0) (pv 3) (fun _ _ => rfl)) pe_str (nomark _))
          (pss_cons (ps_expr (pe_bm0 PySem.F.plainAttrs_list PySem.F.slot_list_pop PySem.F.type_list_pop mt_pop (pv 2))) (pss_one (ps_set (i := 4) nd rfl (Or.inl rfl) (pe_bm0 PySem.F.plainAttrs_list PySem.F.slot_list_pop PySem.F.type_list_pop mt_pop (pv 2)))))
          (pss_one (ps_if (pt_val (pe_callB call_isi (by rfl) T.isinstance (by decide +kernel) (pa_cons (pe_ix ix_tup (pv 0) (pv 3) (fun _ _ => rfl)) (pa_cons (pe_bltn (v := .ty "tuple") (by rfl) T2.tuple (by decide +kernel) rfl) pa_nil))))
            (pss_one (ps_set (i := 4) nd rfl (Or.inl rfl) (pe_bm0 PySem.F.plainAttrs_list PySem.F.slot_list_pop PySem.F.type_list_pop mt_pop (pv 2)))) pss_nil)))
        (pss_cons (ps_asg (pv 4) (pg_sub (pv 1) (pv 3) set_list))
        (pss_one (ps_expr (pe_bm PySem.F.plainAttrs_list PySem.F.slot_list_append PySem.F.type_list_append mt_append (pv 2) (pa_cons (pv 4) pa_nil))))))))
      (pss_one (ps_ret (pv 1))))), ?_⟩
    obtain ⟨a, vs, rfl, ha, hw, hl⟩ := hv
    have lv := hw.1
    refine ⟨(by show 1 ≤ sizeLine; decide), fun p hp => ?_⟩
    have ha1 : upd H p (.lst [V.int 0]) a = some (.tup vs) := by rw [upd_ne (ne_of_none ha hp)]; exact ha
    refine ⟨_, rfl, _, _, rfl, .inr (SqT.of ha1), p, _, _, rfl, rfl, upd_same, by omega, by have := line63; omega, (by show 1 * _ ≤ sizeLine; rw [Nat.one_mul, lv]; exact big2 (by omega)), fun l hl0 => ?_⟩
    refine ⟨(by show 0 ≤ sizeLine; decide), fun wl hwl => ?_⟩
    have e0 : (List.replicate ((vs.length : Int)).toNat [V.int 0]).flatten = enL ws ws.length := by
      rw [← enL_top, lv]
      show (List.replicate ws.length [V.int 0]).flatten = _
      rw [List.flatten_replicate_singleton]
    rw [e0] at hwl ⊢
    have s1 : Same H (upd H p (.lst [V.int 0])) := same_new (same_refl H) hp
    have nl : H l = none := same_none s1 hl0
    have s2 := same_new (o := .lst (enL ws ws.length)) s1 hl0
    have nwl : H wl = none := same_none s2 hwl
    have lw : l ≠ wl := ne_of_none upd_same hwl
    have s3 := same_new (o := .lst []) s2 hwl
    have g1 : upd (upd (upd H p (.lst [V.int 0])) l (.lst (enL ws ws.length))) wl (.lst []) l = some (.lst (enL ws ws.length)) := by rw [upd_ne lw]; exact upd_same
    have g2 : upd (upd (upd H p (.lst [V.int 0])) l (.lst (enL ws ws.length))) wl (.lst []) wl = some (.lst []) := upd_same
    generalize upd (upd (upd H p (.lst [V.int 0])) l (.lst (enL ws ws.length))) wl (.lst []) = G at s3 g1 g2
    refine ⟨_, rfl, _, _, rfl, .inr (SqT.of (s3 _ _ ha)), _, _, rfl, rfl, _, rfl, _, rfl, _, _, _, _, rfl, RgC.neg (by omega) (by omega) (by decide) (by decide), ?_⟩
    have en : ((vs.length : Int) - 1 - -1).toNat = ws.length := by omega
    rw [en]
    refine for_rangeC (fun i σ H' => ∃ t3 t4, σ = [some (.ref a), some (.ref l), some (.ref wl), t3, t4] ∧ Same H H' ∧ H' l = some (.lst (enL ws (ws.length - i))) ∧ H' wl = some (.lst (wtL ws (ws.length - i)))) ⟨none, none, rfl, s3, by rw [Nat.sub_zero]; exact g1, by rw [Nat.sub_zero, wtL_of (l := []) (by rw [List.drop_length]; rfl)]; exact g2⟩ ?_ ?_
    · rintro i σ H1 hi ⟨t3, t4, rfl, s1', hl1, hw1⟩
      have hj : ws.length - 1 - i < ws.length := by omega
      have ep : (vs.length : Int) - 1 + (i : Nat) * (-1) = ((ws.length - 1 - i : Nat) : Int) := by omega
      rw [ep]
      have ek : ws.length - i = ws.length - 1 - i + 1 := by omega
      have ek2 : ws.length - (i + 1) = ws.length - 1 - i := by omega
      rw [ek] at hl1 hw1
      rw [ek2]
      generalize hpl : ws.length - 1 - i = pl at hj hl1 hw1
      obtain ⟨wj, hwj⟩ : ∃ wj, ws[pl]? = some wj := ⟨_, List.getElem?_eq_getElem hj⟩
      obtain ⟨vj, hvj⟩ : ∃ vj, vs[pl]? = some vj := ⟨_, List.getElem?_eq_getElem (by omega)⟩
      have wd := (hw.2 _ _ _ hwj hvj).same s1'
      have nn := hn wj (List.mem_of_getElem? hwj)
      have ha2 := s1' _ _ ha
      obtain ⟨c, L, e, _, _, eo⟩ := wh.at hj
      have e' := e
      rw [List.drop_eq_getElem_cons hj, (List.getElem?_eq_some_iff.mp hwj).2] at e'
      have st := wt_step e
      refine ⟨_, rfl, _, _, rfl, rfl, ?_⟩
      refine ⟨fun σ' H' => ∃ R, σ' = [some (.ref a), some (.ref l), some (.ref wl), some (.int (pl : Int)), some (.int (ofE ws pl : Int))] ∧ Same H H' ∧ H' l = some (.lst (enL ws (pl + 1))) ∧ H' wl = some (.lst R) ∧ R ++ [V.int (ofE ws pl : Int)] = wtL ws pl ∧ R.length ≤ ws.length, ?_, ?_⟩
      · have wlen : (wtL ws (pl + 1)).length ≤ ws.length := by
          obtain ⟨x, hx⟩ := pend_drop wh (pl + 1)
          rw [wtL_of hx, List.length_map, List.length_reverse, stk_len]
          have := pend_len hx
          rw [List.length_drop] at this
          omega
        refine ⟨_, rfl, _, rfl, a, _, _, _, rfl, rfl, SqT.of ha2, atI_nat hvj, wj.use, wd.eqUse nn, _, rfl, ?_⟩
        refine ite2 (fun u => ?_) (fun u => ?_)
        · obtain ⟨x, b, l', e1, q⟩ := pend_use e' u
          cases q
          have w2 := wt_two e1
          rw [w2] at hw1 wlen
          generalize hS : ((stk (pl + 1 + x + b) L).reverse.map fun t : Nat => V.int (t : Int)) = S at hw1 w2 wlen
          refine ⟨_, rfl, .inl ⟨rfl, _, SqL.of hw1⟩, wl, _, _, rfl, rfl, hw1, (by simp; rfl), ?_⟩
          rw [show ((S ++ [V.int ((pl + 1 + x + b : Nat) : Int)]) ++ [V.int ((pl + 1 + x : Nat) : Int)]).dropLast = S ++ [V.int ((pl + 1 + x + b : Nat) : Int)] by simp]
          have g1' : upd H1 wl (.lst (S ++ [V.int ((pl + 1 + x + b : Nat) : Int)])) wl = some (.lst (S ++ [V.int ((pl + 1 + x + b : Nat) : Int)])) := upd_same
          refine ⟨_, rfl, .inl ⟨rfl, _, SqL.of g1'⟩, wl, _, _, rfl, rfl, g1', (by simp; rfl), ?_⟩
          rw [show (S ++ [V.int ((pl + 1 + x + b : Nat) : Int)]).dropLast = S by simp]
          refine ⟨S, ?_, fun b o q => by rw [upd_ne (ne_of_none q nwl), upd_ne (ne_of_none q nwl)]; exact s1' _ _ q, by rw [upd_ne lw, upd_ne lw]; exact hl1, upd_same, ?_, ?_⟩
          · rw [eo]
            show [some (V.ref a), some (.ref l), some (.ref wl), some (.int (pl : Int)), some (.int ((pl + 1 + x + b : Nat) : Int))] = _
            rw [show pl + 1 + x + b = pl + (x + b + 1) by omega]
          · rw [st, eo, ← hS, show pl + 1 + x + b = pl + (x + b + 1) by omega]
          · simp only [List.length_append, List.length_singleton] at wlen; omega
        · have u : wj.use = false := Bool.eq_false_iff.mpr u
          obtain ⟨tv, ty, kt⟩ := wd.tyT nn
          refine ⟨_, rfl, _, rfl, a, _, _, _, rfl, rfl, SqT.of ha2, atI_nat hvj, _, _, _, _, _, rfl, .ty _, ty, kt, _, rfl, ?_⟩
          refine ite2 (fun t => ?_) (fun t => ?_)
          · obtain ⟨x, l', e1, q⟩ := pend_take e' u t
            cases q
            have w2 := wt_step e1
            rw [w2] at hw1 wlen
            generalize hS : ((stk (pl + 1 + x) L).reverse.map fun t : Nat => V.int (t : Int)) = S at hw1 w2 wlen
            refine ⟨_, rfl, .inl ⟨rfl, _, SqL.of hw1⟩, wl, _, _, rfl, rfl, hw1, (by simp; rfl), ?_⟩
            rw [show (S ++ [V.int ((pl + 1 + x : Nat) : Int)]).dropLast = S by simp]
            refine ⟨S, ?_, fun b o q => by rw [upd_ne (ne_of_none q nwl)]; exact s1' _ _ q, by rw [upd_ne lw]; exact hl1, upd_same, ?_, ?_⟩
            · rw [eo]
              show [some (V.ref a), some (.ref l), some (.ref wl), some (.int (pl : Int)), some (.int ((pl + 1 + x : Nat) : Int))] = _
              rw [show pl + 1 + x = pl + (x + 1) by omega]
            · rw [st, eo, ← hS, show pl + 1 + x = pl + (x + 1) by omega]
            · simp only [List.length_append, List.length_singleton] at wlen; omega
          · obtain ⟨l', e1, q⟩ := pend_name e' u (Bool.eq_false_iff.mpr t)
            cases q
            refine ⟨wtL ws (pl + 1), ?_, s1', hl1, hw1, ?_, wlen⟩
            · rw [eo]; rfl
            · rw [st, eo, wtL_of e1]
      · rintro _ H2 ⟨R, rfl, s2', hl2, hw2, eR, lR⟩
        refine ⟨_, rfl, _, rfl, _, rfl, l, _, _, pl, rfl, rfl, hl2, Evl.ixN_nat (by rw [enL_len]; exact hj), ?_⟩
        have g3 : upd H2 l (.lst ((enL ws (pl + 1)).set pl (V.int (ofE ws pl : Int)))) wl = some (.lst R) := by rw [upd_ne lw.symm]; exact hw2
        refine ⟨_, rfl, .inl ⟨rfl, _, SqL.of g3⟩, _, rfl, wl, _, _, rfl, rfl, g3, room2 (by omega), ?_⟩
        refine ⟨_, _, rfl, fun b o q => by rw [upd_ne (ne_of_none q nwl), upd_ne (ne_of_none q nl)]; exact s2' _ _ q, ?_, ?_⟩
        · rw [upd_ne lw, upd_same, enL_set hj]
        · rw [upd_same, eR]
    · rintro σ H1 ⟨t3, t4, rfl, h1, h2, h3⟩
      rw [Nat.sub_self] at h2
      exact ⟨_, rfl, kq l H1 nl h1 h2⟩
end
end LG

set_option Elab.async false
set_option linter.all false
set_option maxRecDepth 100000
set_option maxHeartbeats 4100000
namespace LG
open PySem L2
abbrev sHeads : Stmt := top 49
theorem valV_sm : ∀ {kvs : List (Key × V)} {k : Key} {v : V}, valV kvs k = some v → (k, v) ∈ kvs
  | p :: r, k, v, h => by
    by_cases e : p.1 = k
    · rw [valV_pos e] at h
      cases h
      rw [← e]; exact List.mem_cons_self
    · rw [valV_neg e] at h
      exact List.mem_cons_of_mem _ (valV_sm h)
/-- names with kinds, in a dict -/
structure InD (K : PySem.W.Frag) (G : Hp) (kvs : List (Key × V)) : Prop where
  each : ∀ p ∈ kvs, ∃ z t, p.1 = .inr z ∧ nameB z = true ∧ ThAt K G t p.2 ∧ KdOk t
theorem InD.same {K : PySem.W.Frag} {G G' : Hp} {kvs : List (Key × V)} (h : InD K G kvs) (s : Same G G') : InD K G' kvs := ⟨fun p hp => by
  obtain ⟨z, t, e, n, ht, k⟩ := h.each p hp
  exact ⟨z, t, e, n, ht.same s, k⟩⟩
theorem InD.put {K : PySem.W.Frag} {G : Hp} {kvs : List (Key × V)} (h : InD K G kvs) {z : Str} {t : Th} {v : V} (n : nameB z = true) (ht : ThAt K G t v) (k : KdOk t) : InD K G (putK kvs (.inr z) v) := ⟨fun p hp => by
  unfold putK at hp
  split at hp
  · obtain ⟨q, hq, e⟩ := List.mem_map.mp hp
    split at e
    · rename_i e1
      rw [← e]
      exact ⟨z, t, e1, n, ht, k⟩
    · rw [← e]; exact h.each q hq
  · obtain q | q := List.mem_append.mp hp
    · exact h.each p q
    · rw [List.mem_singleton] at q
      rw [q]; exact ⟨z, t, rfl, n, ht, k⟩⟩
theorem InD.names {K : PySem.W.Frag} {G : Hp} {kvs : List (Key × V)} (h : InD K G kvs) : ∃ ks : List Str, kvs.map (·.1) = ks.map Sum.inr ∧ ∀ z ∈ ks, nameB z = true ∧ ∃ t v, valV kvs (.inr z) = some v ∧ ThAt K G t v ∧ KdOk t := by
  have e : ∀ l : List (Key × V), (∀ p ∈ l, ∃ z, p.1 = Sum.inr z) → ∃ ks : List Str, l.map (·.1) = ks.map Sum.inr := fun l => by
    induction l with
    | nil => (intro _; exact ⟨[], rfl⟩)
    | cons p r ih =>
      intro hl
      obtain ⟨z, ez⟩ := hl p List.mem_cons_self
      obtain ⟨ks, ek⟩ := ih fun q hq => hl q (List.mem_cons_of_mem _ hq)
      exact ⟨z :: ks, by rw [List.map_cons, List.map_cons, ez, ek]⟩
  obtain ⟨ks, ek⟩ := e kvs fun p hp => let ⟨z, _, ez, _⟩ := h.each p hp; ⟨z, ez⟩
  refine ⟨ks, ek, fun z hz => ?_⟩
  have mk : (Sum.inr z : Key) ∈ kvs.map (·.1) := by rw [ek]; exact List.mem_map.mpr ⟨z, hz, rfl⟩
  cases q : valV kvs (.inr z) with
  | none => exact absurd mk (valV_not q)
  | some v =>
    obtain ⟨y, t, ey, n, ht, k⟩ := h.each _ (valV_sm q)
    cases ey
    exact ⟨n, t, v, rfl, ht, k⟩
theorem fin_int {K : PySem.W.Frag} {G : Hp} {t : Th} {e : V} (ha : t.any = true) (h : ThAt K G t.fin e) : ∃ i : Int, e = .int i := by
  have l := Th.fin_letter ha
  cases q : t.fin with
  | int i => rw [q] at h; exact ⟨i, h⟩
  | bl b => rw [q] at l; cases l
  | non => rw [q] at l; cases l
  | tup => rw [q] at l; cases l
  | pr x y => rw [q] at l; cases l
def spHeads (K : PySem.W.Frag) : Sp := fun vs H Q _ => ∃ (d : Addr) (e : Int) (deep : Nat) (kvs : List (Key × V)) (G : Hp), vs = [.ref d, .int e, .int (deep : Int)] ∧ H d = some (.dK kvs) ∧ InD K G kvs ∧ Same G H ∧ kvs.length < 60 ∧
  ∀ l H' (xs : List Str), H l = none → Same H H' → H' l = some (.lst (xs.map V.str)) → xs.length < 60 → (∀ z ∈ xs, nameB z = true ∧ ∃ t v, valV kvs (.inr z) = some v ∧ ThAt K G t v ∧ KdOk t ∧ (deep = 0 → t.isPr = false)) → Q (.ref l) H'
section
variable {P : Program} {w : World} {K : PySem.W.Frag} {mg : Str → Option Value} {base : Heap}
theorem scHeads : FnScope ["_law_inner", "_law_end", "_law_deep", "_law_found", "_law_name"] ["_law_inner", "_law_end", "_law_deep"] (defScope sHeads) := ⟨rfl, rfl, rfl, by decide +kernel, rfl, by decide +kernel, by decide +kernel⟩
theorem ok_heads {f fE : Addr} {fd fdE : FuncData} (F : Fn K mg "_law_heads" sHeads ["_law_inner", "_law_end", "_law_deep"] f fd) (NE : Fn K mg "_law_ends" sLEnds ["_law_kind_here"] fE fdE) (T : TxB mg) (T2 : TxD mg) : FnOk P w K mg base CX0 2 f fd ["_law_inner", "_law_end", "_law_deep"] (spHeads K) := by
  have GE : FnOk P w K mg base CX0 1 fE fdE ["_law_kind_here"] (spLEnds K) := ok_lends NE T T2
  refine F.F.ok scHeads (fun vs H Q E h => ?_) (fun cdv A outer s H vs Q E hr h => ?_)
  · obtain ⟨_, _, _, _, _, rfl, _⟩ := h
    rfl
  · obtain ⟨d, e, deep, kvs, G, rfl, hd, hi, sG, hl, kq⟩ := h
    have nd := scHeads.nd
    have hu := hu_of hr
    refine ⟨_, pss_cons (ps_set (i := 3) nd rfl (Or.inl rfl) (pe_lst pa_nil))
      (pss_cons (ps_for PassesOwn.never rfl (pi_list (pe_callB (call_sortedD rfl) (by rfl) T2.sorted (by decide +kernel) (pa_cons (pv 0) pa_nil))) (pg_name (i := 4) nd rfl (Or.inl rfl))
        (pss_one (ps_if (PW.pt (pw_and (pt_cmpR op_eq (pe_ix ix_tup (pe_call GE hr (by rfl) NE.m NE.F.kp NE.b .nil pass0 (pa_cons (pe_dget hu (pv 0) (pv 4) (fun _ _ => rfl)) pa_nil)) pe_int (fun _ _ => rfl)) (pv 1) (nomark _))
            (pw_and1 (PW.pt (pw_or (pt_cmpR op_gt (pv 2) pe_int (nomark _)) (pw_or1 (pt_not (pt_val (pe_callB call_isi (by rfl) T.isinstance (by decide +kernel) (pa_cons (pe_dget hu (pv 0) (pv 4) (fun _ _ => rfl)) (pa_cons (pe_bltn (v := .ty "tuple") (by rfl) T2.tuple (by decide +kernel) rfl) pa_nil)))))))))))
          (pss_one (ps_expr (pe_bm PySem.F.plainAttrs_list PySem.F.slot_list_append PySem.F.type_list_append mt_append (pv 3) (pa_cons (pv 4) pa_nil)))) pss_nil)))
      (pss_one (ps_ret (pv 3)))), ?_⟩
    refine ⟨(by show 0 ≤ sizeLine; decide), fun fl hfl => ?_⟩
    have ndf : d ≠ fl := ne_of_none hd hfl
    have hd1 : upd H fl (.lst []) d = some (.dK kvs) := by rw [upd_ne ndf]; exact hd
    obtain ⟨ks, ek, hk⟩ := hi.names
    have kl : ks.length < 60 := by have := congrArg List.length ek; rw [List.length_map, List.length_map] at this; omega
    refine ⟨_, rfl, d, kvs, ks, rfl, .inl hd1, ek, by omega, fun ys q pm _ hq => ?_⟩
    have s1 := same_new (o := .lst []) (same_refl H) hfl
    have s2 := same_new (o := .lst (ys.map V.str)) s1 hq
    have nfq : fl ≠ q := ne_of_none upd_same hq
    have f2 : upd (upd H fl (.lst [])) q (.lst (ys.map V.str)) fl = some (.lst []) := by rw [upd_ne nfq]; exact upd_same
    have q2 : upd (upd H fl (.lst [])) q (.lst (ys.map V.str)) q = some (.lst (ys.map V.str)) := upd_same
    have yl : ys.length < 60 := by rw [pm.length_eq]; exact kl
    generalize upd (upd H fl (.lst [])) q (.lst (ys.map V.str)) = H2 at s2 f2 q2
    refine ⟨q, rfl, ⟨_, SqL.of q2⟩, ?_⟩
    refine for_it walk_list (fun i σ H' => ∃ (t4 : Option V) (xs : List Str), σ = [some (.ref d), some (.int e), some (.int (deep : Int)), some (.ref fl), t4] ∧ Same H H' ∧ H' q = some (.lst (ys.map V.str)) ∧ H' fl = some (.lst (xs.map V.str)) ∧ xs.length ≤ i ∧ ∀ z ∈ xs, nameB z = true ∧ ∃ t v, valV kvs (.inr z) = some v ∧ ThAt K G t v ∧ KdOk t ∧ (deep = 0 → t.isPr = false))
      ⟨none, [], rfl, s2, q2, f2, Nat.le_refl _, (fun z h => by cases h)⟩ (fun i σ H' _ ⟨_, _, _, _, h, _⟩ => SqL.of h) ?_ ?_
    · rintro i y σ H' _ hi' ⟨t4, xs, rfl, h1, h2, h3, h4, h5⟩ ⟨rfl, hy⟩
      rw [List.length_map] at hi'
      obtain ⟨z, hz⟩ : ∃ z, ys[i]? = some z := ⟨_, List.getElem?_eq_getElem hi'⟩
      rw [List.getElem?_map, hz] at hy
      cases hy
      obtain ⟨nz, t, v, hv, ht, ko⟩ := hk z (pm.mem_iff.mp (List.mem_of_getElem? hz))
      have hd' := h1 _ _ hd
      have g : ∀ G' : Hp, G' d = some (.dK kvs) → DGet G' d (kV (.inr z)) (some v) := fun G' q => by rw [← hv]; exact DGet.k q
      have sk : ∀ H3 : Hp, Same H H3 → H3 q = some (.lst (ys.map V.str)) → H3 fl = some (.lst (xs.map V.str)) → ∃ (t4 : Option V) (xs : List Str), [some (V.ref d), some (.int e), some (.int (deep : Int)), some (.ref fl), some (V.str z)] = [some (.ref d), some (.int e), some (.int (deep : Int)), some (.ref fl), t4] ∧ Same H H3 ∧ H3 q = some (.lst (ys.map V.str)) ∧ H3 fl = some (.lst (xs.map V.str)) ∧ xs.length ≤ i + 1 ∧ ∀ z ∈ xs, nameB z = true ∧ ∃ t v, valV kvs (.inr z) = some v ∧ ThAt K G t v ∧ KdOk t ∧ (deep = 0 → t.isPr = false) :=
        fun H3 a1 a2 a3 => ⟨_, xs, rfl, a1, a2, a3, by omega, h5⟩
      refine ⟨_, rfl, _, rfl, d, _, rfl, g _ hd', v, t, G, rfl, ht, same_trans sG h1, by have := ko.2.2; omega, ko.1, fun ps ev p0 q0 H3 eps hps hev s13 hp0 hq0 gp0 gq0 => ?_⟩
      obtain ⟨e', rfl⟩ := fin_int ko.1 hev
      have a1 := same_trans h1 s13
      refine ⟨p0, _, _, _, rfl, rfl, SqT.of gp0, rfl, _, rfl, rfl, _, rfl, ?_⟩
      refine ite2 (fun c => ?_) (fun c => ?_)
      · have add : (deep = 0 → t.isPr = false) → ∃ (t4 : Option V) (xs' : List Str), [some (V.ref d), some (.int e), some (.int (deep : Int)), some (.ref fl), some (V.str z)] = [some (.ref d), some (.int e), some (.int (deep : Int)), some (.ref fl), t4] ∧ Same H (upd H3 fl (.lst (xs.map V.str ++ [V.str z]))) ∧ upd H3 fl (.lst (xs.map V.str ++ [V.str z])) q = some (.lst (ys.map V.str)) ∧ upd H3 fl (.lst (xs.map V.str ++ [V.str z])) fl = some (.lst (xs'.map V.str)) ∧ xs'.length ≤ i + 1 ∧ ∀ z ∈ xs', nameB z = true ∧ ∃ t v, valV kvs (.inr z) = some v ∧ ThAt K G t v ∧ KdOk t ∧ (deep = 0 → t.isPr = false) := fun dp =>
          ⟨_, xs ++ [z], rfl, fun b o r => by rw [upd_ne (ne_of_none r hfl)]; exact a1 _ _ r, by rw [upd_ne nfq.symm]; exact s13 _ _ h2, by rw [upd_same, List.map_append]; rfl, by rw [List.length_append, List.length_singleton]; omega, fun x hx => by
            rcases List.mem_append.mp hx with r | r
            · exact h5 x r
            · rw [List.mem_singleton] at r
              rw [r]; exact ⟨nz, t, v, hv, ht, ko, dp⟩⟩
        refine ⟨_, rfl, _, _, rfl, rfl, _, rfl, ?_⟩
        refine ite2 (fun dd => ?_) (fun dd => ?_)
        · have d0 : ¬ deep = 0 := fun r => by have := of_decide_eq_true dd; omega
          refine ifT rfl ?_
          refine ⟨_, rfl, .inl ⟨rfl, _, SqL.of (s13 _ _ h3)⟩, _, rfl, fl, _, _, rfl, rfl, s13 _ _ h3, (by rw [List.length_map]; exact room2 (by omega)), add fun r => absurd r d0⟩
        · have d0 : deep = 0 := Classical.byContradiction fun r => dd (decide_eq_true (by omega))
          obtain ⟨tv, ty, k1, k2, k3⟩ := ((ht.same sG).same a1).ty
          have hd3 := a1 _ _ hd
          refine ⟨_, rfl, _, rfl, d, _, rfl, g _ hd3, _, _, _, _, _, rfl, .ty _, ty, k3, _, rfl, ?_⟩
          cases t with
          | pr x y =>
            refine ifF rfl ?_
            exact sk H3 a1 (s13 _ _ h2) (s13 _ _ h3)
          | int j =>
            refine ifT rfl ?_
            exact ⟨_, rfl, .inl ⟨rfl, _, SqL.of (s13 _ _ h3)⟩, _, rfl, fl, _, _, rfl, rfl, s13 _ _ h3, (by rw [List.length_map]; exact room2 (by omega)), add fun _ => rfl⟩
          | bl b => cases ko.1
          | non => cases ko.1
          | tup => cases ko.1
      · exact sk H3 a1 (s13 _ _ h2) (s13 _ _ h3)
    · rintro σ H3 ⟨t4, xs, rfl, h1, h2, h3, h4, h5⟩
      rw [List.length_map] at h4
      exact ⟨_, rfl, kq fl H3 xs hfl h1 h3 (by omega) h5⟩
end
end LG

set_option Elab.async false
set_option linter.all false
set_option maxRecDepth 100000
set_option maxHeartbeats 8100000
namespace LG
open PySem L2
abbrev sLFit : Stmt := top 50
def sixN : List V := [.str "x", .str "y", .str "z", .str "x", .str "u", .str "v"]
theorem sixN_ok : NmL sixN := by
  intro v hv
  simp only [sixN, List.mem_cons, List.not_mem_nil, or_false] at hv
  rcases hv with rfl | rfl | rfl | rfl | rfl | rfl <;> exact ⟨_, rfl, by decide +kernel⟩
def triN : List V := [.str "x", .str "y", .str "q"]
theorem triN_ok : NmL triN := by
  intro v hv
  simp only [triN, List.mem_cons, List.not_mem_nil, or_false] at hv
  rcases hv with rfl | rfl | rfl <;> exact ⟨_, rfl, by decide +kernel⟩
def szF : Nat → Nat
  | 0 => 3
  | d + 1 => 7 + 4 * szF d
theorem szF_ge : ∀ d, 3 ≤ szF d
  | 0 => Nat.le_refl _
  | d + 1 => by show 3 ≤ 7 + 4 * szF d; omega
def spLFit (K : PySem.W.Frag) (d : Nat) : Sp := fun vs H Q _ => ∃ (p c kd : Addr) (cells : List Int) (kvs : List (Key × V)) (t : Th) (v : V), vs = [.ref p, .ref kd, v, .int (d : Int)] ∧ HandAt H p c cells ∧ H kd = some (.dK kvs) ∧ kd ≠ p ∧ InD K (del H p) kvs ∧ kvs.length + 3 * (d + 1) < 50 ∧ ThAt K (del H p) t v ∧ KdOk t ∧ BackP K H p c cells (szF d) Q
/-- takes alone -/
def Tks (ws : List Wd) : Prop := ∀ w ∈ ws, ∃ z t, w = .pr (some z) t ∧ nameB z = true ∧ kdB t = true
theorem One.takes : ∀ {ts ws : List Wd}, Tks ts → One ws → One (ts ++ ws)
  | [], ws, _, h => h
  | t :: ts, ws, ht, h => by
    obtain ⟨z, k, rfl, hz, hk⟩ := ht t List.mem_cons_self
    exact One.take hz hk (One.takes (fun w hw => ht w (List.mem_cons_of_mem _ hw)) h)
theorem same_dd {G G' : Hp} {D : Addr} {o : HO} (s : Same G G') : Same (del G D) (del (upd G' D o) D) := fun b u e => by
  by_cases hb : b = D
  · rw [hb, del_same] at e; cases e
  · rw [del_ne hb] at e ⊢; rw [upd_ne hb]; exact s b u e
theorem del_upd {H : Hp} {p D : Addr} {o : HO} (n : D ≠ p) : del (upd H D o) p = upd (del H p) D o := by
  funext b
  by_cases hb : b = p
  · rw [hb, del_same, upd_ne n.symm, del_same]
  · rw [del_ne hb]
    by_cases hd : b = D
    · rw [hd, upd_same, upd_same]
    · rw [upd_ne hd, upd_ne hd, del_ne hb]
theorem KdOk.left {t x : Th} (h : KdOk t) (hx : x ∈ t.lefts) : KdOk x := ⟨Th.lefts_any h.1 x hx, by have := Th.lefts_depth hx; have := h.2.1; omega, by have := Th.lefts_size hx; have := h.2.2; omega⟩
def PgH (K : PySem.W.Frag) (H : Hp) (p a : Addr) (ws : List Wd) : Prop := ∃ vs, H a = some (.tup vs) ∧ WdsAt K (del H p) ws vs
/-- while a program is drawn -/
structure FitI (K : PySem.W.Frag) (H H' : Hp) (p c : Addr) (cells : List Int) (di tk : Addr) (m : Nat) (kvs : List (Key × V)) (tw : List Wd) : Prop where
  hand : HandAt H' p c cells
  same : Same (del H p) (del H' p)
  dOf : H' di = some (.dK kvs)
  dp : di ≠ p
  ind : InD K (del H' p) kvs
  len : kvs.length ≤ m
  tks : PgH K H' p tk tw
  ok : Tks tw
theorem FitI.mono {K : PySem.W.Frag} {H H' H2 : Hp} {p c : Addr} {cells : List Int} {di tk : Addr} {m : Nat} {kvs : List (Key × V)} {tw : List Wd} (h : FitI K H H' p c cells di tk m kvs tw) (hA : HandAt H2 p c cells) (s : Same (del H' p) (del H2 p)) : FitI K H H2 p c cells di tk m kvs tw := by
  obtain ⟨vs, h1, h2⟩ := h.tks
  have ntk : tk ≠ p := by
    obtain ⟨l, e⟩ := h.hand.some
    rintro rfl
    rw [h1] at e; cases e
  exact ⟨hA, same_trans h.same s, stays s h.dp h.dOf, h.dp, h.ind.same s, h.len, ⟨vs, stays s ntk h1, h2.same s⟩, h.ok⟩
section
variable {P : Program} {w : World} {K : PySem.W.Frag} {mg : Str → Option Value} {base : Heap}
theorem scLFit : FnScope ["_law_hand_here", "_law_known_here", "_law_kind_here", "_law_deep", "_law_lefts", "_law_end", "_law_inner", "_law_taken", "_law_left", "_law_name", "_law_some_here", "_law_found", "_law_wider", "_law_body"] ["_law_hand_here", "_law_known_here", "_law_kind_here", "_law_deep"] (defScope sLFit) := ⟨rfl, rfl, rfl, by decide +kernel, rfl, by decide +kernel, by decide +kernel⟩
theorem ok_lfit1 {f fD fS fK fE fH : Addr} {fd fdD fdS fdK fdE fdH : FuncData} {d n : Nat} {spR : Sp} (F : Fn K mg "_law_fit" sLFit ["_law_hand_here", "_law_known_here", "_law_kind_here", "_law_deep"] f fd) (ND : Fn K mg "_law_draw" sDraw ["_law_hand_here", "_law_many"] fD fdD) (NS : Fn K mg "_law_some" sSome ["_law_hand_here", "_law_things"] fS fdS)
    (NK : Fn K mg "_law_kind" sKd ["_law_hand_here", "_law_deep"] fK fdK) (NE : Fn K mg "_law_ends" sLEnds ["_law_kind_here"] fE fdE) (NH : Fn K mg "_law_heads" sHeads ["_law_inner", "_law_end", "_law_deep"] fH fdH) (T : TxB mg) (T2 : TxD mg)
    (G : FnOk P w K mg base CX0 n f fd ["_law_hand_here", "_law_known_here", "_law_kind_here", "_law_deep"] spR) (hG : ∀ d', d = d' + 1 → spR = spLFit K d') (hn : 3 ≤ n) (hd : d ≤ 3) : FnOk P w K mg base CX0 (n + 1) f fd ["_law_hand_here", "_law_known_here", "_law_kind_here", "_law_deep"] (spLFit K d) := by
  have GD : FnOk P w K mg base CX0 1 fD fdD ["_law_hand_here", "_law_many"] spDraw := ok_draw ND.F T
  have GS : FnOk P w K mg base CX0 2 fS fdS ["_law_hand_here", "_law_things"] (spSome K) := ok_some NS.F T ND.F ND.b ND.m
  have GK : FnOk P w K mg base CX0 3 fK fdK ["_law_hand_here", "_law_deep"] (spKd K 1) := ok_kd NK ND T 1
  have GE : FnOk P w K mg base CX0 1 fE fdE ["_law_kind_here"] (spLEnds K) := ok_lends NE T T2
  have GH : FnOk P w K mg base CX0 2 fH fdH ["_law_inner", "_law_end", "_law_deep"] (spHeads K) := ok_heads NH NE T T2
  refine F.F.ok scLFit (fun vs H Q E h => ?_) (fun cdv A outer s H vs Q E hr h => ?_)
  · obtain ⟨_, _, _, _, _, _, _, rfl, _⟩ := h
    rfl
  · obtain ⟨p, c, kd, cells, kvs, t, v, rfl, hA, hkd, nkp, hin, hl, hv, ko, kq⟩ := h
    have nd := scLFit.nd
    have hu := hu_of hr
    have hr1 := hr.mono (show 1 ≤ n by omega)
    have hr2 := hr.mono (show 2 ≤ n by omega)
    have hr3 := hr.mono hn
    refine ⟨_, pss_cons (ps_asg (pe_call GE hr1 (by rfl) NE.m NE.F.kp NE.b .nil pass0 (pa_cons (pv 2) pa_nil)) (pg_tup rfl (pgs_cons (pg_name (i := 4) nd rfl (Or.inl rfl)) (pgs_cons (pg_name (i := 5) nd rfl (Or.inl rfl)) pgs_nil))))
      (pss_cons (ps_set (i := 6) nd rfl (Or.inl rfl) (pe_callTy call_dictD (by rfl) T2.dict (by decide +kernel) (pa_cons (pv 1) pa_nil)))
      (pss_cons (ps_set (i := 7) nd rfl (Or.inl rfl) (pe_tup pa_nil))
      (Evl.pss_cut (ps_for PassesOwn.never rfl (pi_list (pv 4)) (pg_name (i := 8) nd rfl (Or.inl rfl))
        (pss_cons (ps_set (i := 9) nd rfl (Or.inl rfl) (pe_call GS hr2 (by rfl) NS.m NS.F.kp NS.b .nil pass0 (pa_cons (pv 0) (pa_cons (pe_lst (pa_cons pe_str (pa_cons pe_str (pa_cons pe_str (pa_cons pe_str (pa_cons pe_str (pa_cons pe_str pa_nil))))))) pa_nil))))
        (pss_cons (ps_set (i := 7) nd rfl (Or.inl rfl) (pe_op op_catA (pv 7) (pe_tup (pa_cons (pe_tup (pa_cons (pv 9) (pa_cons (pv 8) pa_nil))) pa_nil))))
        (pss_one (ps_dput hu (pv 6) (pv 9) (pv 8) rfl)))))
      (Evl.pss_cut (ps_set (i := 10) nd rfl (Or.inl rfl) (pe_call GH hr2 (by rfl) NH.m NH.F.kp NH.b .nil pass0 (pa_cons (pv 6) (pa_cons (pv 5) (pa_cons (pv 3) pa_nil)))))
      (pss_cons (ps_if (pt_cmpR op_eq (pe_callB call_len_seq (by rfl) T.len PySem.boot_len (pa_cons (pv 10) pa_nil)) pe_int (nomark _))
        (pss_one (ps_ret (pe_op op_catA (pv 7) (pe_tup (pa_cons (pe_call GS hr2 (by rfl) NS.m NS.F.kp NS.b .nil pass0 (pa_cons (pv 0) (pa_cons (pe_op op_cat (pe_callB (call_sortedD rfl) (by rfl) T2.sorted (by decide +kernel) (pa_cons (pv 6) pa_nil)) (pe_lst (pa_cons pe_str pa_nil))) pa_nil))) pa_nil))))) pss_nil)
      (pss_cons (ps_set (i := 9) nd rfl (Or.inl rfl) (pe_call GS hr2 (by rfl) NS.m NS.F.kp NS.b .nil pass0 (pa_cons (pv 0) (pa_cons (pv 10) pa_nil))))
      (pss_cons (ps_set (i := 11) nd rfl (Or.inl rfl) (pe_tup (pa_cons (pv 9) pa_nil)))
      (Evl.pss_cut (ps_for PassesOwn.never rfl (pi_list (pe_ix ix_tup (pe_call GE hr1 (by rfl) NE.m NE.F.kp NE.b .nil pass0 (pa_cons (pe_dget hu (pv 6) (pv 9) (fun _ _ => rfl)) pa_nil)) pe_int (fun _ _ => rfl))) (pg_name (i := 8) nd rfl (Or.inl rfl))
        (pss_one (ps_set (i := 11) nd rfl (Or.inl rfl) (pe_op op_catA (pe_op op_catA (pe_tup (pa_cons pe_str pa_nil)) (pv 11)) (pe_call G hr (by rfl) F.m F.F.kp F.b .nil pass0 (pa_cons (pv 0) (pa_cons (pv 6) (pa_cons (pv 8) (pa_cons (pe_op op_sub (pv 3) pe_int) pa_nil)))))))))
      (Evl.pss_cut (ps_if (PW.pt (pw_and (pt_cmpR op_gt (pv 3) pe_int (nomark _)) (pw_and1 (pt_cmpR op_eq (pe_call GD hr1 (by rfl) ND.m ND.F.kp ND.b .nil pass0 (pa_cons (pv 0) (pa_cons pe_int pa_nil))) pe_int (nomark _)))))
        (pss_cons (ps_par (i := 9) (j := 8) (by rfl) nd rfl rfl (by decide) rfl rfl (pa_cons (pe_call GS hr2 (by rfl) NS.m NS.F.kp NS.b .nil pass0 (pa_cons (pv 0) (pa_cons (pe_lst (pa_cons pe_str (pa_cons pe_str (pa_cons pe_str pa_nil)))) pa_nil))) (pa_cons (pe_call GK hr3 (by rfl) NK.m NK.F.kp NK.b .nil pass0 (pa_cons (pv 0) (pa_cons pe_int pa_nil))) pa_nil)) (by rfl))
        (pss_cons (ps_set (i := 12) nd rfl (Or.inl rfl) (pe_callTy call_dictD (by rfl) T2.dict (by decide +kernel) (pa_cons (pv 6) pa_nil)))
        (pss_cons (ps_dput hu (pv 12) (pv 9) (pv 8) rfl)
        (pss_cons (ps_set (i := 13) nd rfl (Or.inl rfl) (pe_call G hr (by rfl) F.m F.F.kp F.b .nil pass0 (pa_cons (pv 0) (pa_cons (pv 12) (pa_cons (pv 5) (pa_cons (pe_op op_sub (pv 3) pe_int) pa_nil))))))
        (pss_one (ps_set (i := 11) nd rfl (Or.inl rfl) (pe_op op_catA (pe_op op_catA (pe_tup (pa_cons pe_str (pa_cons (pe_tup (pa_cons (pv 9) (pa_cons (pv 8) pa_nil))) pa_nil))) (pv 13)) (pe_call G hr (by rfl) F.m F.F.kp F.b .nil pass0 (pa_cons (pv 0) (pa_cons (pv 6) (pa_cons (pv 8) (pa_cons (pe_op op_sub (pv 3) pe_int) pa_nil)))))))))))) pss_nil)
      (pss_one (ps_ret (pe_op op_catA (pv 7) (pv 11))))))))))))), ?_⟩
    refine ⟨_, rfl, v, t, del H p, rfl, hv, del_le, by have := ko.2.2; omega, ko.1, fun ps ev p0 q0 H1 eps hps hev s1 hp0 hq0 gp0 gq0 => ?_⟩
    obtain ⟨e, rfl⟩ := fin_int ko.1 hev
    have ke : KdOk (.int e) := by
      have l := Th.fin_letter ko.1
      cases q : t.fin with
      | int i =>
        rw [q] at l hev
        have : V.int e = V.int i := hev
        cases this
        exact ⟨l, Nat.zero_le _, (by show 1 < 8; decide)⟩
      | bl b => rw [q] at l; cases l
      | non => rw [q] at l; cases l
      | tup => rw [q] at l; cases l
      | pr x y => rw [q] at l; cases l
    have pl : ps.length ≤ 2 := by have := congrArg List.length eps; rw [List.length_map] at this; have := Th.lefts_len (t := t); have := ko.2.1; omega
    have psk : ∀ s ∈ ps, KdOk s.1 := fun s hs => ko.left (by rw [← eps]; exact List.mem_map.mpr ⟨s, hs, rfl⟩)
    have hA1 := hA.same s1
    have nq0 : q0 ≠ p := hA.fresh hq0
    refine ⟨p0, _, rfl, SqT.of gp0, rfl, _, _, rfl, _, _, rfl, rfl, ?_⟩
    refine ⟨_, rfl, kd, kvs, rfl, .inl (s1 _ _ hkd), fun di hdi => ?_⟩
    have fdi : H di = none := same_none s1 hdi
    have ndp : di ≠ p := hA.fresh fdi
    have ndc : di ≠ c := fun z => by rw [z, hA.cl] at fdi; cases fdi
    have s2 := same_new (o := .dK kvs) s1 hdi
    have d2 : upd H1 di (.dK kvs) di = some (.dK kvs) := upd_same
    have q2 : upd H1 di (.dK kvs) q0 = some (.lst (ps.map (·.2))) := by rw [upd_ne (ne_of_none gq0 hdi)]; exact gq0
    generalize upd H1 di (.dK kvs) = H2 at s2 d2 q2
    refine ⟨(by show 0 ≤ sizeLine; decide), fun tk htk => ?_⟩
    have ftk : H tk = none := same_none s2 htk
    have s3 := same_new (o := .tup []) s2 htk
    have d3 : upd H2 tk (.tup []) di = some (.dK kvs) := by rw [upd_ne (ne_of_none d2 htk)]; exact d2
    have q3 : upd H2 tk (.tup []) q0 = some (.lst (ps.map (·.2))) := by rw [upd_ne (ne_of_none q2 htk)]; exact q2
    have t3 : upd H2 tk (.tup []) tk = some (.tup []) := upd_same
    have q0d : q0 ≠ di := ne_of q3 d3 (fun z => by cases z)
    generalize upd H2 tk (.tup []) = H3 at s3 d3 q3 t3
    refine ⟨fun σ' H' => ∃ (tk : Addr) (t8 t9 : Option V) (kvs' : List (Key × V)) (tw : List Wd), σ' = [some (.ref p), some (.ref kd), some v, some (.int (d : Int)), some (.ref q0), some (.int e), some (.ref di), some (.ref tk), t8, t9, none, none, none, none] ∧ FitI K H H' p c cells di tk (kvs.length + 2) kvs' tw ∧ tw.length ≤ 2, ?_, ?_⟩
    · refine ⟨_, rfl, q0, rfl, ⟨_, SqL.of q3⟩, ?_⟩
      refine for_it walk_list (fun i σ H' => ∃ (tk : Addr) (t8 t9 : Option V) (kvs' : List (Key × V)) (tw : List Wd) (vs : List V), σ = [some (.ref p), some (.ref kd), some v, some (.int (d : Int)), some (.ref q0), some (.int e), some (.ref di), some (.ref tk), t8, t9, none, none, none, none] ∧ HandAt H' p c cells ∧ Same (del H p) (del H' p) ∧ H' q0 = some (.lst (ps.map (·.2))) ∧ H' di = some (.dK kvs') ∧ InD K (del H p) kvs' ∧ kvs'.length ≤ kvs.length + i ∧ H' tk = some (.tup vs) ∧ WdsAt K (del (del H' p) di) tw vs ∧ Tks tw ∧ tw.length = i)
        ⟨tk, none, none, kvs, [], [], rfl, hA.same s3, del_same_of s3, q3, d3, hin, Nat.le_refl _, t3, WdsAt.nil, (fun w h => by cases h), rfl⟩ (fun i σ H' _ ⟨_, _, _, _, _, _, _, _, _, h, _⟩ => SqL.of h) ?_ ?_
      · rintro i x σ _ H' hi ⟨tk, t8, t9, kvs', tw, vs, rfl, a1, a2, a3, a4, a5, a6, a7, a8, a9, a10⟩ ⟨rfl, hx⟩
        rw [List.length_map] at hi
        obtain ⟨sx, hsx⟩ : ∃ sx, ps[i]? = some sx := ⟨_, List.getElem?_eq_getElem hi⟩
        rw [List.getElem?_map, hsx] at hx
        cases hx
        have hs := List.mem_of_getElem? hsx
        have ddi : del H p di = none := by rw [del_ne ndp]; exact fdi
        refine ⟨_, rfl, (by show 6 ≤ sizeLine; decide), fun l0 hl0 => ?_⟩
        have nl0 := a1.fresh hl0
        refine ⟨p, c, l0, cells, sixN, rfl, a1.same (same_new (same_refl _) hl0), SqL.of upd_same, nl0, by decide, by decide, fun k y H5 hk hA5 o5 => ?_⟩
        obtain ⟨z, rfl, hz⟩ := sixN_ok y (List.mem_of_getElem? hk)
        have s5 : Same (del H' p) (del H5 p) := same_trans (del_same_of (same_new (same_refl _) hl0)) (del_off o5)
        have ntk : tk ≠ p := by
          obtain ⟨l, e⟩ := a1.some
          rintro rfl
          rw [a7] at e; cases e
        refine ⟨_, rfl, _, rfl, _, rfl, (by show 2 ≤ sizeLine; decide), fun x1 hx1 => ?_⟩
        have n1 := hA5.fresh hx1
        have hA6 := hA5.same (same_new (o := .tup [.str z, sx.2]) (same_refl _) hx1)
        have s6 := newOff (o := .tup [.str z, sx.2]) s5 hx1
        have f1 : upd H5 x1 (.tup [.str z, sx.2]) x1 = some (.tup [.str z, sx.2]) := upd_same
        generalize upd H5 x1 (.tup [.str z, sx.2]) = H6 at hA6 s6 f1
        refine ⟨(by show 1 ≤ sizeLine; decide), fun x2 hx2 => ?_⟩
        have n2 := hA6.fresh hx2
        have hA7 := hA6.same (same_new (o := .tup [.ref x1]) (same_refl _) hx2)
        have s7 := newOff (o := .tup [.ref x1]) s6 hx2
        have f2 : upd H6 x2 (.tup [.ref x1]) x2 = some (.tup [.ref x1]) := upd_same
        have f3 : upd H6 x2 (.tup [.ref x1]) x1 = some (.tup [.str z, sx.2]) := by rw [upd_ne (ne_of_none f1 hx2)]; exact f1
        generalize upd H6 x2 (.tup [.ref x1]) = H7 at hA7 s7 f2 f3
        have fin : ∀ (tk2 : Addr) (H8 : Hp), HandAt H8 p c cells → Same (del H7 p) (del H8 p) → H8 tk2 = some (.tup (vs ++ [.ref x1])) → ∃ (u1 : Addr) (u2 u3 : Option V) (u4 : List (Key × V)) (u5 : List Wd) (u6 : List V), [some (V.ref p), some (.ref kd), some v, some (.int (d : Int)), some (.ref q0), some (.int e), some (.ref di), some (.ref tk2), some sx.2, some (.str z), none, none, none, none] = [some (.ref p), some (.ref kd), some v, some (.int (d : Int)), some (.ref q0), some (.int e), some (.ref di), some (.ref u1), u2, u3, none, none, none, none] ∧
            HandAt (upd H8 di (.dK (putK kvs' (.inr z) sx.2))) p c cells ∧ Same (del H p) (del (upd H8 di (.dK (putK kvs' (.inr z) sx.2))) p) ∧ upd H8 di (.dK (putK kvs' (.inr z) sx.2)) q0 = some (.lst (ps.map (·.2))) ∧ upd H8 di (.dK (putK kvs' (.inr z) sx.2)) di = some (.dK u4) ∧ InD K (del H p) u4 ∧ u4.length ≤ kvs.length + (i + 1) ∧ upd H8 di (.dK (putK kvs' (.inr z) sx.2)) u1 = some (.tup u6) ∧ WdsAt K (del (del (upd H8 di (.dK (putK kvs' (.inr z) sx.2))) p) di) u5 u6 ∧ Tks u5 ∧ u5.length = i + 1 := fun tk2 H8 b1 b2 b3 => by
          have s8 : Same (del H' p) (del H8 p) := same_trans s7 b2
          have x1p : H8 x1 = some (.tup [.str z, sx.2]) := stays b2 n1 f3
          have d8 : H8 di = some (.dK kvs') := stays s8 ndp a4
          have ntd : tk2 ≠ di := ne_of b3 d8 (fun z => by cases z)
          have x1d : x1 ≠ di := ne_of x1p d8 (fun z => by cases z)
          have base : Same (del H p) (del (del H8 p) di) := fun b o r => by
            have r2 := (same_trans a2 s8) b o r
            rw [del_ne (ne_of_none r ddi)]; exact r2
          refine ⟨tk2, _, _, putK kvs' (.inr z) sx.2, tw ++ [.pr (some z) sx.1], vs ++ [.ref x1], rfl, b1.upd ndp ndc, same_upd (same_trans a2 s8) ddi, by rw [upd_ne q0d]; exact stays s8 nq0 a3, upd_same, a5.put hz (hps sx hs) (psk sx hs), Nat.le_trans (length_putK _ _ _) (by omega), by rw [upd_ne ntd]; exact b3, ?_, fun y hy => ?_, by rw [List.length_append, List.length_singleton, a10]⟩
          · rw [del_upd ndp]
            have w8 : WdsAt K (del (del H8 p) di) (tw ++ [.pr (some z) sx.1]) (vs ++ [.ref x1]) := (a8.same (del_same_of s8)).app (WdsAt.one (WdAt.tk hz (by rw [del_ne x1d, del_ne n1]; exact x1p) ((hps sx hs).same base) (by have := (psk sx hs).2.2; omega)))
            exact w8.same (same_dd (same_refl _))
          · rcases List.mem_append.mp hy with r | r
            · exact a9 y r
            · rw [List.mem_singleton] at r
              rw [r]; exact ⟨z, sx.1, rfl, hz, kdB_of (psk sx hs).1 (psk sx hs).2.1 (psk sx hs).2.2⟩
        have t7 : H7 tk = some (.tup vs) := stays s7 ntk a7
        have d7 : H7 di = some (.dK kvs') := stays s7 ndp a4
        have vl : vs.length ≤ 2 := by rw [a8.1]; omega
        have kl : kvs'.length < 3000 := by omega
        refine ⟨tk, x2, vs, _, rfl, rfl, SqT.of t7, SqT.of f2, (by show vs.length + 1 ≤ sizeLine; exact big2 (by omega)), fun hv0 => ?_, (fun _ h => by cases h), fun _ _ x3 hx3 => ?_⟩
        · subst hv0
          exact ⟨_, rfl, _, rfl, _, rfl, di, _, rfl, DPut.k (k := .inr z) d7 (room2 (by omega)), fin x2 H7 hA7 (same_refl _) f2⟩
        · have n3 : di ≠ x3 := ne_of_none d7 hx3
          have hA8 := hA7.same (same_new (o := .tup (vs ++ [.ref x1])) (same_refl _) hx3)
          have s8 := newOff (o := .tup (vs ++ [.ref x1])) (same_refl (del H7 p)) hx3
          have d8 : upd H7 x3 (.tup (vs ++ [.ref x1])) di = some (.dK kvs') := by rw [upd_ne n3]; exact d7
          exact ⟨_, rfl, _, rfl, _, rfl, di, _, rfl, DPut.k (k := .inr z) d8 (room2 (by omega)), fin x3 _ hA8 s8 upd_same⟩
      · rintro σ H' ⟨tk, t8, t9, kvs', tw, vs, rfl, a1, a2, a3, a4, a5, a6, a7, a8, a9, a10⟩
        rw [List.length_map] at a6 a10
        exact ⟨tk, t8, t9, kvs', tw, rfl, ⟨a1, a2, a4, ndp, a5.same a2, by omega, ⟨vs, a7, a8.same del_le⟩, a9⟩, by omega⟩
    · rintro σ H4 ⟨tk, t8, t9, kvs', tw, rfl, I, twl⟩
      have fins : ∀ (H8 : Hp) (fa : Addr) (ws : List Wd) (fvs : List V), HandAt H8 p c cells → Same (del H4 p) (del H8 p) → H8 fa = some (.tup fvs) → WdsAt K (del H8 p) ws fvs → One ws → ws.length + 2 ≤ szF d → rCatA K (.ref tk) (.ref fa) H8 Q := fun H8 fa ws fvs b1 b2 b3 b4 b5 b6 => by
        have J := I.mono b1 b2
        obtain ⟨vs, h1, h2⟩ := J.tks
        have sz3 : szF d ≤ 339 := by
          have : d = 0 ∨ d = 1 ∨ d = 2 ∨ d = 3 := by omega
          rcases this with rfl | rfl | rfl | rfl <;> decide
        have o := One.takes J.ok b5
        have ll : (tw ++ ws).length ≤ szF d := by rw [List.length_append]; omega
        refine ⟨tk, fa, vs, fvs, rfl, rfl, SqT.of h1, SqT.of b3, by rw [h2.1, b4.1]; exact big2 (by omega), fun e0 => ?_, fun _ e0 => ?_, fun _ _ r hr => ?_⟩
        · have e1 : tw = [] := List.eq_nil_of_length_eq_zero (by rw [← h2.1, e0]; rfl)
          rw [e1, List.nil_append] at o
          exact kq ws fa fvs H8 b1 J.same b3 b4 o (by omega)
        · exact absurd (List.eq_nil_of_length_eq_zero (by rw [← b4.1, e0]; rfl)) b5.ne
        · exact kq (tw ++ ws) r _ _ (b1.same (same_new (same_refl _) hr)) (newOff J.same hr) upd_same ((h2.app b4).same (del_same_of (same_new (same_refl _) hr))) o ll
      refine ⟨fun σ' H' => ∃ (sl : Addr) (xs : List Str), σ' = [some (.ref p), some (.ref kd), some v, some (.int (d : Int)), some (.ref q0), some (.int e), some (.ref di), some (.ref tk), t8, t9, some (.ref sl), none, none, none] ∧ Same H4 H' ∧ H' sl = some (.lst (xs.map V.str)) ∧ sl ≠ p ∧ xs.length < 60 ∧ ∀ z ∈ xs, nameB z = true ∧ ∃ t v, valV kvs' (.inr z) = some v ∧ ThAt K (del H4 p) t v ∧ KdOk t ∧ (d = 0 → t.isPr = false), ?_, ?_⟩
      · refine ⟨_, rfl, _, rfl, _, rfl, di, e, d, kvs', del H4 p, rfl, I.dOf, I.ind, del_le, by have := I.len; omega, fun sl H5 xs hsl s5 sl5 xl xok => ?_⟩
        exact ⟨sl, xs, rfl, s5, sl5, I.hand.fresh hsl, xl, xok⟩
      · rintro σ H5 ⟨sl, xs, rfl, s5, sl5, slp, xl, xok⟩
        have J := I.mono (I.hand.same s5) (del_same_of s5)
        refine ⟨_, rfl, _, _, rfl, .inl (SqL.of sl5), rfl, _, rfl, ?_⟩
        rw [List.length_map]
        refine ite2 (fun cz => ?_) (fun cz => ?_)
        · obtain ⟨ks, ek, hk⟩ := J.ind.names
          have kl : ks.length < 60 := by have := congrArg List.length ek; rw [List.length_map, List.length_map] at this; have := J.len; omega
          refine ⟨_, rfl, _, rfl, _, rfl, di, kvs', ks, rfl, .inl J.dOf, ek, by omega, fun ys q pm _ hq => ?_⟩
          have yl : ys.length < 60 := by rw [pm.length_eq]; exact kl
          have g1 := same_new (o := .lst (ys.map V.str)) (same_refl H5) hq
          refine ⟨(by show 1 ≤ sizeLine; decide), fun l1 hl1 => ?_⟩
          have g2 := same_new (o := .lst [.str "w"]) g1 hl1
          have e1 : upd (upd H5 q (.lst (ys.map V.str))) l1 (.lst [.str "w"]) q = some (.lst (ys.map V.str)) := by rw [upd_ne (ne_of_none upd_same hl1)]; exact upd_same
          have e2 : upd (upd H5 q (.lst (ys.map V.str))) l1 (.lst [.str "w"]) l1 = some (.lst [.str "w"]) := upd_same
          generalize upd (upd H5 q (.lst (ys.map V.str))) l1 (.lst [.str "w"]) = H6 at g2 e1 e2
          refine ⟨q, l1, _, _, rfl, rfl, e1, e2, (by rw [List.length_map]; show ys.length + 1 ≤ sizeLine; exact big2 (by omega)), fun r hr => ?_⟩
          have g3 := same_new (o := .lst (ys.map V.str ++ [.str "w"])) g2 hr
          have hA6 := J.hand.same g3
          have nm : NmL (ys.map V.str ++ [.str "w"]) := fun y hy => by
            rcases List.mem_append.mp hy with m | m
            · obtain ⟨z, mz, rfl⟩ := List.mem_map.mp m
              exact ⟨z, rfl, (hk z (pm.mem_iff.mp mz)).1⟩
            · rw [List.mem_singleton] at m
              exact ⟨_, m, by decide +kernel⟩
          refine ⟨p, c, r, cells, _, rfl, hA6, SqL.of upd_same, J.hand.fresh (same_none g2 hr), (by rw [List.length_append]; show 0 < _ + 1; omega), (by rw [List.length_append, List.length_map]; show ys.length + 1 < 1000; omega), fun k y H7 hk7 hA7 o7 => ?_⟩
          obtain ⟨z, rfl, hz⟩ := nm y (List.mem_of_getElem? hk7)
          refine ⟨(by show 1 ≤ sizeLine; decide), fun a ha => ?_⟩
          have s57 : Same (del H4 p) (del H7 p) := same_trans (del_same_of (same_trans s5 g3)) (del_off o7)
          exact fins _ a [.st z] _ (hA7.same (same_new (same_refl _) ha)) (newOff s57 ha) upd_same (WdsAt.one (WdAt.nm hz)) (One.name hz) (by have := szF_ge d; show 1 + 2 ≤ szF d; omega)
        · have x0 : 0 < xs.length := by
            rcases Nat.eq_zero_or_pos xs.length with r | r
            · exact absurd (decide_eq_true (by rw [r]; rfl)) cz
            · exact r
          refine ⟨_, rfl, _, rfl, p, c, sl, cells, _, rfl, J.hand, SqL.of sl5, slp, (by rw [List.length_map]; exact x0), (by rw [List.length_map]; omega), fun k y H6 hk6 hA6 o6 => ?_⟩
          obtain ⟨z, mz, rfl⟩ := List.mem_map.mp (List.mem_of_getElem? hk6)
          obtain ⟨nz, th, vh, hvh, tth, koh, hd0⟩ := xok z mz
          have s6 : Same (del H4 p) (del H6 p) := same_trans (del_same_of s5) (del_off o6)
          refine ⟨_, rfl, (by show 1 ≤ sizeLine; decide), fun f0 hf0 => ?_⟩
          have hA7 := hA6.same (same_new (o := .tup [.str z]) (same_refl _) hf0)
          have s7 := newOff (o := .tup [.str z]) s6 hf0
          have g7 : upd H6 f0 (.tup [.str z]) f0 = some (.tup [.str z]) := upd_same
          have f0p := hA6.fresh hf0
          generalize upd H6 f0 (.tup [.str z]) = H7 at hA7 s7 g7
          have J7 := I.mono hA7 s7
          have gd : DGet H7 di (kV (.inr z)) (some vh) := by rw [← hvh]; exact DGet.k J7.dOf
          refine ⟨fun σ' H' => ∃ (t8 : Option V) (fa : Addr) (ws : List Wd) (fvs : List V), σ' = [some (.ref p), some (.ref kd), some v, some (.int (d : Int)), some (.ref q0), some (.int e), some (.ref di), some (.ref tk), t8, some (.str z), some (.ref sl), some (.ref fa), none, none] ∧ HandAt H' p c cells ∧ Same (del H4 p) (del H' p) ∧ H' fa = some (.tup fvs) ∧ WdsAt K (del H' p) ws fvs ∧ One ws ∧ ws.length + 2 ≤ szF d, ?_, ?_⟩
          · refine ⟨_, rfl, _, rfl, di, _, rfl, gd, vh, th, del H4 p, rfl, tth, same_trans s7 del_le, by have := koh.2.2; omega, koh.1, fun ps2 ev2 pp qq H8 eps2 hps2 hev2 s78 hpp hqq gpp gqq => ?_⟩
            have pl2 : ps2.length ≤ 2 := by have := congrArg List.length eps2; rw [List.length_map] at this; have := Th.lefts_len (t := th); have := koh.2.1; omega
            have psk2 : ∀ s ∈ ps2, KdOk s.1 := fun s hs => koh.left (by rw [← eps2]; exact List.mem_map.mpr ⟨s, hs, rfl⟩)
            have qqp := hA7.fresh hqq
            have hA8 := hA7.same s78
            have s8 : Same (del H4 p) (del H8 p) := same_trans s7 (del_same_of s78)
            refine ⟨pp, _, _, _, rfl, rfl, SqT.of gpp, rfl, qq, rfl, ⟨_, SqL.of gqq⟩, ?_⟩
            refine for_it walk_list (fun i σ' H' => ∃ (t8 : Option V) (fa : Addr) (ws : List Wd) (fvs : List V), σ' = [some (.ref p), some (.ref kd), some v, some (.int (d : Int)), some (.ref q0), some (.int e), some (.ref di), some (.ref tk), t8, some (.str z), some (.ref sl), some (.ref fa), none, none] ∧ HandAt H' p c cells ∧ Same (del H4 p) (del H' p) ∧ H' qq = some (.lst (ps2.map (·.2))) ∧ H' fa = some (.tup fvs) ∧ fa ≠ p ∧ WdsAt K (del H' p) ws fvs ∧ One ws ∧ ws.length ≤ 1 + i * (1 + szF (d - 1)))
              ⟨t8, f0, [.st z], _, rfl, hA8, s8, gqq, s78 _ _ g7, f0p, WdsAt.one (WdAt.nm nz), One.name nz, by show 1 ≤ 1 + 0 * _; omega⟩ (fun i σ' H' _ ⟨_, _, _, _, _, _, _, h, _⟩ => SqL.of h) ?_ ?_
            · rintro i x σ' Hq H' hi ⟨t8, fa, ws, fvs, rfl, a1, a2, a3, a4, a4p, a5, a6, a7⟩ ⟨rfl, hx⟩
              rw [List.length_map] at hi
              obtain ⟨sx, hsx⟩ : ∃ sx, ps2[i]? = some sx := ⟨_, List.getElem?_eq_getElem hi⟩
              rw [List.getElem?_map, hsx] at hx
              cases hx
              have hs := List.mem_of_getElem? hsx
              obtain ⟨d', rfl⟩ : ∃ d', d = d' + 1 := by
                refine ⟨d - 1, ?_⟩
                have : d ≠ 0 := fun r => by
                  have np := hd0 r
                  have : th.lefts = [] := by cases th <;> first | rfl | cases np
                  rw [this] at eps2
                  have := List.map_eq_nil_iff.mp eps2
                  rw [this] at hi
                  exact (absurd hi (Nat.not_lt_zero _))
                omega
              have eR := hG d' rfl
              subst eR
              have ed : ((d' + 1 : Nat) : Int) - 1 = (d' : Int) := by omega
              have sS : szF d' ≤ 83 := by
                have : d' = 0 ∨ d' = 1 ∨ d' = 2 := by omega
                rcases this with rfl | rfl | rfl <;> decide
              have e2 : d' + 1 - 1 = d' := rfl
              rw [e2] at a7 ⊢
              have i2 : i < 2 := by omega
              have a7' : ws.length ≤ 1 + 1 * (1 + szF d') := Nat.le_trans a7 (Nat.add_le_add_left (Nat.mul_le_mul_right _ (by omega)) 1)
              have f0v : fvs ≠ [] := fun q => a6.ne (List.eq_nil_of_length_eq_zero (by rw [← a5.1, q]; rfl))
              refine ⟨(by show 1 ≤ sizeLine; decide), fun u1 hu1 => ?_⟩
              have n1 := a1.fresh hu1
              have hAa := a1.same (same_new (o := .tup [.str "@"]) (same_refl _) hu1)
              have sa := newOff (o := .tup [.str "@"]) (same_refl (del H' p)) hu1
              have ga : upd H' u1 (.tup [.str "@"]) u1 = some (.tup [.str "@"]) := upd_same
              have fa1 := stays sa a4p a4
              refine ⟨_, rfl, u1, fa, _, fvs, rfl, rfl, SqT.of ga, SqT.of fa1, (by rw [a5.1]; show 1 + ws.length ≤ sizeLine; exact big2 (by omega)), (fun h => by cases h), (fun _ h => absurd h f0v), fun _ _ u2 hu2 => ?_⟩
              have n2 := hAa.fresh hu2
              have hAb := hAa.same (same_new (o := .tup ([.str "@"] ++ fvs)) (same_refl _) hu2)
              have sb := newOff (o := .tup ([.str "@"] ++ fvs)) sa hu2
              have gb : upd (upd H' u1 (.tup [.str "@"])) u2 (.tup ([.str "@"] ++ fvs)) u2 = some (.tup ([.str "@"] ++ fvs)) := upd_same
              have Jb := I.mono hAb (same_trans a2 sb)
              refine ⟨_, rfl, _, rfl, _, rfl, _, rfl, _, _, rfl, rfl, p, c, di, cells, kvs', sx.1, sx.2, (by show [V.ref p, V.ref di, sx.2, V.int (((d' + 1 : Nat) : Int) - 1)] = _; rw [ed]), hAb, Jb.dOf, Jb.dp, Jb.ind, by have := Jb.len; omega, (hps2 sx hs).same (same_trans a2 sb), psk2 sx hs, fun ws2 a2' vs2 Hc hAc sbc hc wc oc lc => ?_⟩
              have v2 : vs2 ≠ [] := fun q => oc.ne (List.eq_nil_of_length_eq_zero (by rw [← wc.1, q]; rfl))
              have ww := ((WdsAt.one WdAt.us).app ((a5.same sb).same sbc)).app wc
              refine ⟨u2, a2', _, vs2, rfl, rfl, SqT.of (stays sbc n2 gb), SqT.of hc, (by rw [List.length_append, a5.1, wc.1]; show 1 + ws.length + ws2.length ≤ sizeLine; exact big2 (by omega)), (fun h => by cases h), (fun _ h => absurd h v2), fun _ _ u3 hu3 => ?_⟩
              have sc := newOff (o := .tup (([.str "@"] ++ fvs) ++ vs2)) (same_trans sb sbc) hu3
              refine ⟨_, u3, [.st "@"] ++ ws ++ ws2, _, rfl, hAc.same (same_new (same_refl _) hu3), same_trans a2 sc, stays sc qqp a3, upd_same, hAc.fresh hu3, ww.same (del_same_of (same_new (same_refl _) hu3)), ?_, ?_⟩
              · have := One.use a6 oc
                rwa [List.append_assoc]
              · rw [List.length_append, List.length_append, List.length_singleton, Nat.succ_mul]
                omega
            · rintro σ' H' ⟨t8, fa, ws, fvs, rfl, a1, a2, a3, a4, a4p, a5, a6, a7⟩
              rw [List.length_map] at a7
              refine ⟨t8, fa, ws, fvs, rfl, a1, a2, a4, a5, a6, ?_⟩
              by_cases r : d = 0
              · have np := hd0 r
                have : th.lefts = [] := by cases th <;> first | rfl | cases np
                rw [this] at eps2
                have := List.map_eq_nil_iff.mp eps2
                rw [this] at a7
                have := szF_ge d
                simp at a7
                omega
              · obtain ⟨d', rfl⟩ : ∃ d', d = d' + 1 := ⟨d - 1, by omega⟩
                have e1 : szF (d' + 1) = 7 + 4 * szF d' := rfl
                have e2 : d' + 1 - 1 = d' := rfl
                rw [e2] at a7
                have : ps2.length * (1 + szF d') ≤ 2 * (1 + szF d') := Nat.mul_le_mul_right _ pl2
                omega
          · rintro σ' H9 ⟨t8, fa, ws, fvs, rfl, a1, a2, a3, a4, a5, a6⟩
            refine ⟨fun σ' H' => ∃ (u8 u9 u12 u13 : Option V) (fa : Addr) (ws : List Wd) (fvs : List V), σ' = [some (.ref p), some (.ref kd), some v, some (.int (d : Int)), some (.ref q0), some (.int e), some (.ref di), some (.ref tk), u8, u9, some (.ref sl), some (.ref fa), u12, u13] ∧ HandAt H' p c cells ∧ Same (del H4 p) (del H' p) ∧ H' fa = some (.tup fvs) ∧ WdsAt K (del H' p) ws fvs ∧ One ws ∧ ws.length + 2 ≤ szF d, ?_, ?_⟩
            · refine ⟨_, rfl, _, _, rfl, rfl, _, rfl, ?_⟩
              refine ite2 (fun cd => ?_) (fun cd => ?_)
              · obtain ⟨d', rfl⟩ : ∃ d', d = d' + 1 := ⟨d - 1, by have := of_decide_eq_true cd; omega⟩
                have eR := hG d' rfl
                subst eR
                have ed : ((d' + 1 : Nat) : Int) - 1 = (d' : Int) := by omega
                have sS : szF d' ≤ 83 := by
                  have : d' = 0 ∨ d' = 1 ∨ d' = 2 := by omega
                  rcases this with rfl | rfl | rfl <;> decide
                have sE : szF (d' + 1) = 7 + 4 * szF d' := rfl
                refine ⟨_, rfl, p, c, cells, 6, rfl, a1, by decide, by decide, fun r1 Ha z0 z6 hAa oa => ?_⟩
                have sa : Same (del H4 p) (del Ha p) := same_trans a2 (del_off oa)
                refine ⟨rfl, _, rfl, ?_⟩
                refine ite2 (fun _ => ?_) (fun _ => ?_)
                · refine ⟨_, rfl, (by show 3 ≤ sizeLine; decide), fun l3 hl3 => ?_⟩
                  refine ⟨p, c, l3, cells, triN, rfl, hAa.same (same_new (same_refl _) hl3), SqL.of upd_same, hAa.fresh hl3, by decide, by decide, fun k y Hb hk3 hAb o3 => ?_⟩
                  obtain ⟨z2, rfl, hz2⟩ := triN_ok y (List.mem_of_getElem? hk3)
                  have sb : Same (del H4 p) (del Hb p) := same_trans sa (same_trans (del_same_of (same_new (same_refl _) hl3)) (del_off o3))
                  refine ⟨_, rfl, p, c, cells, rfl, hAb, fun t2 v2 Hc hAc sbc ht2 g2 => ?_⟩
                  have k2 : KdOk t2 := ⟨g2.1, by have := g2.2.1; omega, by have := g2.2.2; have : (2 : Nat) ^ (1 + 1) = 4 := rfl; omega⟩
                  refine ⟨_, _, rfl, ?_⟩
                  have sc := same_trans sb sbc
                  have Jc := I.mono hAc sc
                  have kl := Jc.len
                  refine ⟨_, rfl, di, kvs', rfl, .inl Jc.dOf, fun wi hwi => ?_⟩
                  have nwp := hAc.fresh hwi
                  have nwc : wi ≠ c := fun q => by rw [q, hAc.cl] at hwi; cases hwi
                  have dW : del Hc p wi = none := by rw [del_ne nwp]; exact hwi
                  refine ⟨_, rfl, _, rfl, _, rfl, wi, _, rfl, DPut.k (k := .inr z2) upd_same (room2 (by omega)), ?_⟩
                  have hAd : HandAt (upd (upd Hc wi (.dK kvs')) wi (.dK (putK kvs' (.inr z2) v2))) p c cells := (hAc.upd nwp nwc).upd nwp nwc
                  have sd : Same (del Hc p) (del (upd (upd Hc wi (.dK kvs')) wi (.dK (putK kvs' (.inr z2) v2))) p) := same_upd (same_upd (same_refl _) dW) dW
                  have dd : upd (upd Hc wi (.dK kvs')) wi (.dK (putK kvs' (.inr z2) v2)) wi = some (.dK (putK kvs' (.inr z2) v2)) := upd_same
                  have wl := length_putK kvs' (.inr z2) v2
                  generalize upd (upd Hc wi (.dK kvs')) wi (.dK (putK kvs' (.inr z2) v2)) = Hd at hAd sd dd
                  refine ⟨_, rfl, _, rfl, _, rfl, _, rfl, _, _, rfl, rfl, p, c, wi, cells, putK kvs' (.inr z2) v2, .int e, .int e, (by show [V.ref p, V.ref wi, V.int e, V.int (((d' + 1 : Nat) : Int) - 1)] = _; rw [ed]), hAd, dd, nwp, (Jc.ind.same sd).put hz2 (ht2.same sd) k2, by omega, rfl, ke, fun wsb ab vsb He hAe sde hb wb ob lb => ?_⟩
                  have abp : ab ≠ p := by
                    obtain ⟨l, q⟩ := hAe.some
                    rintro rfl
                    rw [hb] at q; cases q
                  have vb : vsb ≠ [] := fun q => ob.ne (List.eq_nil_of_length_eq_zero (by rw [← wb.1, q]; rfl))
                  refine ⟨_, rfl, _, rfl, (by show 2 ≤ sizeLine; decide), fun x1 hx1 => ?_⟩
                  have m1 := hAe.fresh hx1
                  have hAf := hAe.same (same_new (o := .tup [.str z2, v2]) (same_refl _) hx1)
                  have sf := newOff (o := .tup [.str z2, v2]) (same_refl (del He p)) hx1
                  have e1 : upd He x1 (.tup [.str z2, v2]) x1 = some (.tup [.str z2, v2]) := upd_same
                  generalize upd He x1 (.tup [.str z2, v2]) = Hf at hAf sf e1
                  refine ⟨(by show 2 ≤ sizeLine; decide), fun x2 hx2 => ?_⟩
                  have m2 := hAf.fresh hx2
                  have hAg := hAf.same (same_new (o := .tup [.str "@", .ref x1]) (same_refl _) hx2)
                  have sg := newOff (o := .tup [.str "@", .ref x1]) (same_refl (del Hf p)) hx2
                  have e2 : upd Hf x2 (.tup [.str "@", .ref x1]) x2 = some (.tup [.str "@", .ref x1]) := upd_same
                  generalize upd Hf x2 (.tup [.str "@", .ref x1]) = Hg at hAg sg e2
                  have sfg := same_trans sf sg
                  have wt : WdAt K (del Hg p) (.pr (some z2) t2) (.ref x1) := WdAt.tk hz2 (by rw [del_ne m1]; exact stays sg m1 e1) (((ht2.same sd).same sde).same sfg) (by have := k2.2.2; omega)
                  refine ⟨_, rfl, x2, ab, _, vsb, rfl, rfl, SqT.of e2, SqT.of (stays sfg abp hb), (by rw [wb.1]; show 2 + wsb.length ≤ sizeLine; exact big2 (by omega)), (fun h => by cases h), (fun _ h => absurd h vb), fun _ _ x3 hx3 => ?_⟩
                  have m3 := hAg.fresh hx3
                  have hAh := hAg.same (same_new (o := .tup ([.str "@", .ref x1] ++ vsb)) (same_refl _) hx3)
                  have sh := newOff (o := .tup ([.str "@", .ref x1] ++ vsb)) (same_refl (del Hg p)) hx3
                  have e3 : upd Hg x3 (.tup ([.str "@", .ref x1] ++ vsb)) x3 = some (.tup ([.str "@", .ref x1] ++ vsb)) := upd_same
                  generalize upd Hg x3 (.tup ([.str "@", .ref x1] ++ vsb)) = Hh at hAh sh e3
                  have seh := same_trans sfg sh
                  have s4h : Same (del H4 p) (del Hh p) := same_trans sc (same_trans sd (same_trans sde seh))
                  have Jh := I.mono hAh s4h
                  refine ⟨_, rfl, _, rfl, _, rfl, _, rfl, _, _, rfl, rfl, p, c, di, cells, kvs', t2, v2, (by show [V.ref p, V.ref di, v2, V.int (((d' + 1 : Nat) : Int) - 1)] = _; rw [ed]), hAh, Jh.dOf, Jh.dp, Jh.ind, by omega, (((ht2.same sd).same sde).same seh), k2, fun wsc ac vsc Hi hAi shi hc wc oc lc => ?_⟩
                  have vc : vsc ≠ [] := fun q => oc.ne (List.eq_nil_of_length_eq_zero (by rw [← wc.1, q]; rfl))
                  have ww := ((((WdsAt.one WdAt.us).app (WdsAt.one wt)).app (wb.same sfg)).same (same_trans sh shi)).app wc
                  refine ⟨x3, ac, _, vsc, rfl, rfl, SqT.of (stays shi m3 e3), SqT.of hc, (by rw [List.length_append, wb.1, wc.1]; show 2 + wsb.length + wsc.length ≤ sizeLine; exact big2 (by omega)), (fun h => by cases h), (fun _ h => absurd h vc), fun _ _ x5 hx5 => ?_⟩
                  refine ⟨_, _, _, _, x5, ([.st "@"] ++ [.pr (some z2) t2] ++ wsb) ++ wsc, _, rfl, hAi.same (same_new (same_refl _) hx5), newOff (same_trans s4h shi) hx5, upd_same, ww.same (del_same_of (same_new (same_refl _) hx5)), One.use (One.take hz2 (kdB_of g2.1 (by have := g2.2.1; omega) (by have := g2.2.2; have : (2 : Nat) ^ (1 + 1) = 4 := rfl; omega)) ob) oc, ?_⟩
                  (simp only [List.length_append, List.length_singleton])
                  omega
                · have fap : fa ≠ p := by
                    obtain ⟨l, q⟩ := a1.some
                    rintro rfl
                    rw [a3] at q; cases q
                  exact ⟨_, _, _, _, fa, ws, fvs, rfl, hAa, sa, stays (del_off oa) fap a3, a4.same (del_off oa), a5, a6⟩
              · refine ifF rfl ?_
                exact ⟨_, _, _, _, fa, ws, fvs, rfl, a1, a2, a3, a4, a5, a6⟩
            · rintro σ' H10 ⟨u8, u9, u12, u13, fa, ws, fvs, rfl, b1, b2, b3, b4, b5, b6⟩
              exact ⟨_, rfl, _, rfl, fins H10 fa ws fvs b1 b2 b3 b4 b5 b6⟩
end
end LG

set_option Elab.async false
set_option linter.all false
set_option maxRecDepth 100000
set_option maxHeartbeats 4100000
namespace LG
open PySem L2
abbrev sSomeP : Stmt := top 47
def spSomeP (K : PySem.W.Frag) : Sp := fun vs H Q _ => ∃ (p c : Addr) (cells : List Int) (kn : V) (ks : List ((Str × Th) × V)), vs = [.ref p, kn, .int 3] ∧ HandAt H p c cells ∧ KnAt K (del H p) ks kn ∧ ks.length ≤ 9 ∧ BackP K H p c cells 60 Q
theorem mergeK_in {K : PySem.W.Frag} {G : Hp} : ∀ {l : List (Key × V)} {kvs : List (Key × V)}, InD K G kvs → InD K G l → InD K G (mergeK kvs l) ∧ (mergeK kvs l).length ≤ kvs.length + l.length
  | [], kvs, h, _ => ⟨h, Nat.le_refl _⟩
  | q :: l, kvs, h, g => by
    obtain ⟨z, t, e, n, ht, k⟩ := g.each q List.mem_cons_self
    have h' : InD K G (putK kvs q.1 q.2) := by rw [e]; exact h.put n ht k
    obtain ⟨a, b⟩ := mergeK_in h' ⟨fun x hx => g.each x (List.mem_cons_of_mem _ hx)⟩
    refine ⟨a, Nat.le_trans b ?_⟩
    have := length_putK kvs q.1 q.2
    rw [List.length_cons]; omega
theorem InD.nil {K : PySem.W.Frag} {G : Hp} : InD K G [] := ⟨fun p h => by cases h⟩
/-- names with kinds as a dict -/
theorem kn_dict {K : PySem.W.Frag} {G H : Hp} : ∀ {ks : List ((Str × Th) × V)}, Same G H → (∀ s ∈ ks, PairAt K G s.1 s.2 ∧ nameB s.1.1 = true ∧ KdOk s.1.2) → ∃ (as : List Addr) (kvs : List (Key × V)), ks.map (·.2) = as.map V.ref ∧ Paired (fun p kv => SqT K H p [kV kv.1, kv.2]) as kvs ∧ InD K G kvs ∧ kvs.length = ks.length
  | [], _, _ => ⟨[], [], rfl, .nil, .nil, rfl⟩
  | s :: r, sG, h => by
    obtain ⟨as, kvs, e1, e2, e3, e4⟩ := kn_dict (ks := r) sG fun x hx => h x (List.mem_cons_of_mem _ hx)
    obtain ⟨⟨a, y, ea, ha, hy⟩, n, k⟩ := h s List.mem_cons_self
    refine ⟨a :: as, (.inr s.1.1, y) :: kvs, by rw [List.map_cons, List.map_cons, e1, ea], .cons (SqT.of (sG _ _ ha)) e2, ⟨fun p hp => ?_⟩, by rw [List.length_cons, List.length_cons, e4]⟩
    rcases List.mem_cons.mp hp with q | q
    · rw [q]; exact ⟨s.1.1, s.1.2, rfl, n, hy, k⟩
    · exact e3.each p q
section
variable {P : Program} {w : World} {K : PySem.W.Frag} {mg : Str → Option Value} {base : Heap}
theorem ok_lfit {f fD fS fK fE fH : Addr} {fd fdD fdS fdK fdE fdH : FuncData} (F : Fn K mg "_law_fit" sLFit ["_law_hand_here", "_law_known_here", "_law_kind_here", "_law_deep"] f fd) (ND : Fn K mg "_law_draw" sDraw ["_law_hand_here", "_law_many"] fD fdD) (NS : Fn K mg "_law_some" sSome ["_law_hand_here", "_law_things"] fS fdS)
    (NK : Fn K mg "_law_kind" sKd ["_law_hand_here", "_law_deep"] fK fdK) (NE : Fn K mg "_law_ends" sLEnds ["_law_kind_here"] fE fdE) (NH : Fn K mg "_law_heads" sHeads ["_law_inner", "_law_end", "_law_deep"] fH fdH) (T : TxB mg) (T2 : TxD mg) : ∀ d : Nat, d ≤ 3 → FnOk P w K mg base CX0 (d + 4) f fd ["_law_hand_here", "_law_known_here", "_law_kind_here", "_law_deep"] (spLFit K d) := by
  have G0 : FnOk P w K mg base CX0 3 f fd ["_law_hand_here", "_law_known_here", "_law_kind_here", "_law_deep"] (fun _ _ _ _ => False) := F.F.ok scLFit (fun vs H Q E h => h.elim) (fun cdv A outer s H vs Q E hr h => h.elim)
  intro d
  induction d with
  | zero => intro _; exact ok_lfit1 F ND NS NK NE NH T T2 G0 (fun d' e => by omega) (by decide) (by decide)
  | succ d ih =>
    intro hd
    refine ok_lfit1 F ND NS NK NE NH T T2 (ih (by omega)) (fun d' e => ?_) (by omega) hd
    have : d' = d := by omega
    rw [this]
theorem scSomeP : FnScope ["_law_hand_here", "_law_known_here", "_law_deep", "_law_turn", "_law_found", "_law_name", "_law_kind_here"] ["_law_hand_here", "_law_known_here", "_law_deep"] (defScope sSomeP) := ⟨rfl, rfl, rfl, by decide +kernel, rfl, by decide +kernel, by decide +kernel⟩
theorem ok_somep {f fD fS fK fE fH fF fL : Addr} {fd fdD fdS fdK fdE fdH fdF fdL : FuncData} (F : Fn K mg "_law_some_program" sSomeP ["_law_hand_here", "_law_known_here", "_law_deep"] f fd) (NF : Fn K mg "_law_fit" sLFit ["_law_hand_here", "_law_known_here", "_law_kind_here", "_law_deep"] fF fdF) (NL : Fn K mg "_law_loose" sLoose ["_law_hand_here", "_law_names", "_law_deep"] fL fdL)
    (ND : Fn K mg "_law_draw" sDraw ["_law_hand_here", "_law_many"] fD fdD) (NS : Fn K mg "_law_some" sSome ["_law_hand_here", "_law_things"] fS fdS) (NK : Fn K mg "_law_kind" sKd ["_law_hand_here", "_law_deep"] fK fdK) (NE : Fn K mg "_law_ends" sLEnds ["_law_kind_here"] fE fdE) (NH : Fn K mg "_law_heads" sHeads ["_law_inner", "_law_end", "_law_deep"] fH fdH) (T : TxB mg) (T2 : TxD mg) :
    FnOk P w K mg base CX0 8 f fd ["_law_hand_here", "_law_known_here", "_law_deep"] (spSomeP K) := by
  have GD : FnOk P w K mg base CX0 1 fD fdD ["_law_hand_here", "_law_many"] spDraw := ok_draw ND.F T
  have GF : FnOk P w K mg base CX0 7 fF fdF ["_law_hand_here", "_law_known_here", "_law_kind_here", "_law_deep"] (spLFit K 3) := ok_lfit NF ND NS NK NE NH T T2 3 (by decide)
  have GL : FnOk P w K mg base CX0 7 fL fdL ["_law_hand_here", "_law_names", "_law_deep"] (spLoose K 3) := ok_loose NL ND NS NK T 3 (by decide)
  have GK : FnOk P w K mg base CX0 4 fK fdK ["_law_hand_here", "_law_deep"] (spKd K 2) := ok_kd NK ND T 2
  refine F.F.ok scSomeP (fun vs H Q E h => ?_) (fun cdv A outer s H vs Q E hr h => ?_)
  · obtain ⟨_, _, _, _, _, rfl, _⟩ := h
    rfl
  · obtain ⟨p, c, cells, kn, ks, rfl, hA, hk, kl, kq⟩ := h
    have nd := scSomeP.nd
    have hr1 := hr.mono (show 1 ≤ 7 by decide)
    have hr4 := hr.mono (show 4 ≤ 7 by decide)
    refine ⟨_, pss_cons (ps_for PassesOwn.never rfl (pi_range1 (by rfl) T.range (pa_cons pe_int pa_nil)) (pg_name (i := 3) nd rfl (Or.inl rfl))
        (Evl.pss_cut (ps_if (pt_cmpR op_eq (pe_call GD hr1 (by rfl) ND.m ND.F.kp ND.b .nil pass0 (pa_cons (pv 0) (pa_cons pe_int pa_nil))) pe_int (nomark _))
          (pss_one (ps_set (i := 4) nd rfl (Or.inl rfl) (pe_call GL hr (by rfl) NL.m NL.F.kp NL.b .nil pass0 (pa_cons (pv 0) (pa_cons (pe_op op_cat
            (pe_lc (own := [("_law_name", 5), ("_law_kind_here", 6)]) (g := gTup K 2 (gCons (gName 5) (gCons (gName 6) gNil))) (tt := tYes) rfl nd (pi_tup (pv 1))
              (blkOk_by (N := ["_law_hand_here", "_law_known_here", "_law_deep", "_law_turn", "_law_found", "_law_name", "_law_kind_here"]) (sc := defScope sSomeP) (by decide +kernel)) (fun _ _ _ _ _ => pg_tup rfl (pgs_cons (pg_name (i := 5) nd rfl (Or.inl rfl)) (pgs_cons (pg_name (i := 6) nd rfl (Or.inl rfl)) pgs_nil))) (fun _ _ _ _ _ => pts_nil)
              (fun _ _ _ _ _ => pv 5)) (pe_lst (pa_cons pe_str (pa_cons pe_str (pa_cons pe_str pa_nil))))) (pa_cons (pv 2) pa_nil))))))
          (pss_one (ps_set (i := 4) nd rfl (Or.inl rfl) (pe_call GF hr (by rfl) NF.m NF.F.kp NF.b .nil pass0 (pa_cons (pv 0) (pa_cons (pe_callTy (cr_dictF rfl) (by rfl) T2.dict (by decide +kernel) (pa_cons (pv 1) pa_nil)) (pa_cons (pe_call GK hr4 (by rfl) NK.m NK.F.kp NK.b .nil pass0 (pa_cons (pv 0) (pa_cons pe_int pa_nil))) (pa_cons (pv 2) pa_nil))))))))
        (pss_one (ps_if (pt_cmpR op_le (pe_callB call_len_seq (by rfl) T.len PySem.boot_len (pa_cons (pv 4) pa_nil)) pe_int (nomark _)) (pss_one (ps_ret (pv 4))) pss_nil))))
      (pss_one (ps_ret (pe_tup (pa_cons (pe_tup (pa_cons pe_str (pa_cons pe_int pa_nil))) (pa_cons pe_str pa_nil))))), ?_⟩
    refine ⟨6, rfl, by decide, by decide, for_range (lo := 0) (n := 6) (fun i σ H' => ∃ (t3 t4 : Option V), σ = [some (.ref p), some kn, some (.int 3), t3, t4, none, none] ∧ HandAt H' p c cells ∧ Same (del H p) (del H' p)) ⟨none, none, rfl, hA, same_refl _⟩ ?_ ?_⟩
    · rintro i σ H1 hi ⟨t3, t4, rfl, hA1, s1⟩
      have hk1 := hk.same s1
      refine ⟨fun σ' H' => ∃ (a : Addr) (ws : List Wd) (vs : List V), σ' = [some (.ref p), some kn, some (.int 3), some (.int (0 + (i : Int))), some (.ref a), none, none] ∧ HandAt H' p c cells ∧ Same (del H p) (del H' p) ∧ H' a = some (.tup vs) ∧ WdsAt K (del H' p) ws vs ∧ One ws ∧ ws.length ≤ 3000, ?_, ?_⟩
      · refine ⟨_, rfl, p, c, cells, 4, rfl, hA1, by decide, by decide, fun r H2 z0 z4 hA2 o2 => ?_⟩
        have s2 := same_trans s1 (del_off o2)
        have hk2 := hk1.same (del_off o2)
        refine ⟨rfl, _, rfl, ?_⟩
        refine ite2 (fun _ => ?_) (fun _ => ?_)
        · obtain ⟨a, o, rfl, ha, od, hp⟩ := hk2
          have anp : a ≠ p := by rintro rfl; rw [del_same] at ha; cases ha
          have ha2 : SqT K H2 a (ks.map (·.2)) := .inl (.inr ⟨o, by rw [del_ne anp] at ha; exact ha⟩)
          have keep : ∀ H', Same H2 H' → SqT K H' a (ks.map (·.2)) := fun H' s => .inl (.inr ⟨o, s _ _ (by rw [del_ne anp] at ha; exact ha)⟩)
          refine ⟨_, rfl, _, rfl, a, rfl, ⟨_, ha2⟩, fun D hD => ?_⟩
          refine lc_it walk_tup (fun i H' => Same H2 H' ∧ H' D = some (.lst ((ks.take i).map fun s => V.str s.1.1))) ⟨same_new (same_refl H2) hD, by rw [List.take_zero]; exact upd_same⟩ (fun i H' _ q => keep H' q.1) ?_ ?_
          · rintro j x _ H' hj ⟨h1, h2⟩ ⟨rfl, hx⟩
            rw [List.length_map] at hj
            obtain ⟨sx, hsx⟩ : ∃ sx, ks[j]? = some sx := ⟨_, List.getElem?_eq_getElem hj⟩
            rw [List.getElem?_map, hsx] at hx
            cases hx
            obtain ⟨⟨b, y, eb, hb, _⟩, nb, _⟩ := hp sx (List.mem_of_getElem? hsx)
            have bnp : b ≠ p := by rintro rfl; rw [del_same] at hb; cases hb
            rw [del_ne bnp] at hb
            refine ⟨b, _, eb, SqT.of (h1 _ _ hb), rfl, _, _, rfl, _, _, rfl, rfl, ?_⟩
            refine ⟨rfl, ?_⟩
            refine yes_kept ?_
            refine ⟨_, rfl, _, h2, (by rw [List.length_map, List.length_take]; exact room2 (by omega)), fun c u q => by rw [upd_ne (ne_of_none q hD)]; exact h1 c u q, ?_⟩
            rw [upd_same, List.take_add_one, hsx, List.map_append]; rfl
          · rintro H3 ⟨h1, h2⟩
            rw [List.length_map, List.take_length] at h2
            refine ⟨(by show 3 ≤ sizeLine; decide), fun l1 hl1 => ?_⟩
            have g1 := same_new (o := .lst [.str "x", .str "y", .str "z"]) h1 hl1
            have e1 : upd H3 l1 (.lst [.str "x", .str "y", .str "z"]) D = some (.lst (ks.map fun s => V.str s.1.1)) := by rw [upd_ne (ne_of_none h2 hl1)]; exact h2
            have e2 : upd H3 l1 (.lst [.str "x", .str "y", .str "z"]) l1 = some (.lst [.str "x", .str "y", .str "z"]) := upd_same
            generalize upd H3 l1 (.lst [.str "x", .str "y", .str "z"]) = H4 at g1 e1 e2
            refine ⟨D, l1, _, _, rfl, rfl, e1, e2, (by rw [List.length_map]; show ks.length + 3 ≤ sizeLine; exact big2 (by omega)), fun r hr => ?_⟩
            have g2 := same_new (o := .lst ((ks.map fun s => V.str s.1.1) ++ [.str "x", .str "y", .str "z"])) g1 hr
            have hA5 := hA2.same g2
            have nm : NmL ((ks.map fun s => V.str s.1.1) ++ [.str "x", .str "y", .str "z"]) := fun v hv => by
              rcases List.mem_append.mp hv with m | m
              · obtain ⟨s, ms, rfl⟩ := List.mem_map.mp m
                exact ⟨_, rfl, (hp s ms).2.1⟩
              · simp only [List.mem_cons, List.not_mem_nil, or_false] at m
                rcases m with rfl | rfl | rfl <;> exact ⟨_, rfl, by decide +kernel⟩
            refine ⟨_, rfl, p, c, r, cells, _, rfl, hA5, upd_same, hA2.fresh (same_none g1 hr), nm, (by rw [List.length_append]; show 0 < _ + 3; omega), (by rw [List.length_append, List.length_map]; show ks.length + 3 < 1000; omega), fun ws b vs H6 hA6 s56 hb wb ob lb => ?_⟩
            exact ⟨b, ws, vs, rfl, hA6, same_trans s2 (same_trans (del_same_of g2) s56), hb, wb, ob, by have : szL 3 = 15 := rfl; omega⟩
        · obtain ⟨a, o, rfl, ha, od, hp⟩ := hk2
          obtain ⟨as, kvs, e1, e2, e3, e4⟩ := kn_dict (H := H2) del_le hp
          have anp : a ≠ p := by rintro rfl; rw [del_same] at ha; cases ha
          have ha2 : H2 a = some (.frz o (.tup (as.map V.ref))) := by rw [del_ne anp] at ha; rw [← e1]; exact ha
          refine ⟨_, rfl, _, rfl, a, o, as, kvs, rfl, ha2, od, e2, fun D hD => ?_⟩
          have nDp := hA2.fresh hD
          obtain ⟨i1, i2⟩ := mergeK_in InD.nil e3
          rw [List.length_nil, Nat.zero_add, e4] at i2
          have hA3 := hA2.same (same_new (o := .dK (mergeK [] kvs)) (same_refl _) hD)
          have s23 := newOff (o := .dK (mergeK [] kvs)) (same_refl (del H2 p)) hD
          have g3 : upd H2 D (.dK (mergeK [] kvs)) D = some (.dK (mergeK [] kvs)) := upd_same
          generalize upd H2 D (.dK (mergeK [] kvs)) = H3 at hA3 s23 g3
          refine ⟨_, rfl, p, c, cells, rfl, hA3, fun t v H4 hA4 s34 ht g => ?_⟩
          have s24 := same_trans s23 s34
          refine ⟨_, rfl, p, c, D, cells, mergeK [] kvs, t, v, rfl, hA4, stays s34 nDp g3, nDp, i1.same s24, by omega, ht, g, fun ws b vs H5 hA5 s45 hb wb ob lb => ?_⟩
          exact ⟨b, ws, vs, rfl, hA5, same_trans s2 (same_trans s24 s45), hb, wb, ob, by have : szF 3 = 339 := rfl; omega⟩
      · rintro σ H2 ⟨a, ws, vs, rfl, b1, b2, b3, b4, b5, b6⟩
        refine ⟨_, rfl, _, _, rfl, .inr (SqT.of b3), _, _, rfl, rfl, _, rfl, ?_⟩
        refine ite2 (fun c => ?_) (fun _ => ?_)
        · have : ws.length ≤ 60 := by have := of_decide_eq_true c; rw [b4.1] at this; omega
          exact ⟨_, rfl, kq ws a vs H2 b1 b2 b3 b4 b5 this⟩
        · exact ⟨_, _, rfl, b1, b2⟩
    · rintro σ H1 ⟨t3, t4, rfl, hA1, s1⟩
      refine ⟨(by show 2 ≤ sizeLine; decide), fun x1 hx1 => ?_⟩
      have n1 := hA1.fresh hx1
      have hA2 := hA1.same (same_new (o := .tup [.str "x", .int 0]) (same_refl _) hx1)
      have s2 := newOff (o := .tup [.str "x", .int 0]) s1 hx1
      have g1 : upd H1 x1 (.tup [.str "x", .int 0]) x1 = some (.tup [.str "x", .int 0]) := upd_same
      generalize upd H1 x1 (.tup [.str "x", .int 0]) = H2 at hA2 s2 g1
      refine ⟨(by show 2 ≤ sizeLine; decide), fun x2 hx2 => ?_⟩
      have nx : nameB "x" = true := by decide +kernel
      have wt : WdAt K (del H2 p) (.pr (some "x") (.int 0)) (.ref x1) := WdAt.tk nx (by rw [del_ne n1]; exact g1) rfl (by decide)
      exact kq ([.pr (some "x") (.int 0)] ++ [.st "x"]) x2 _ _ (hA2.same (same_new (same_refl _) hx2)) (newOff s2 hx2) upd_same (((WdsAt.one wt).app (WdsAt.one (WdAt.nm nx))).same (del_same_of (same_new (same_refl _) hx2))) (One.take nx (by decide) (One.name nx)) (by decide)
end
end LG

set_option Elab.async false
set_option linter.all false
set_option maxRecDepth 100000
set_option maxHeartbeats 2100000
namespace LG
open PySem L2 TL
/-! ### texts of kinds and programs: mathematics alone -/
def mk (l : List Nat) : Str := ⟨l.toArray⟩
theorem tl_mk' {l : List Nat} : tl (mk l) = l := rfl
theorem mk_tl {z : Str} : mk (tl z) = z := ext_tl rfl
theorem mk_inj {a b : List Nat} (h : mk a = mk b) : a = b := congrArg tl h
theorem mk_app {a b : List Nat} : mk a ++ mk b = mk (a ++ b) := ext_tl (tl_append _ _)
theorem mk_len {l : List Nat} : (mk l).length = l.length := by
  show l.toArray.size = l.length
  simp
theorem tl_len {z : Str} : (tl z).length = z.length := by
  show z.cps.toList.length = z.cps.size
  simp
theorem joinL_nil : ∀ {ls : List (List Nat)}, joinL [] ls = ls.flatten
  | [] => rfl
  | [p] => by show p = [p].flatten; simp
  | p :: q :: r => by
    show p ++ ([] ++ joinL [] (q :: r)) = _
    rw [joinL_nil]; simp
theorem join_mk {fs : List Str} : Txt.join "" fs = mk (fs.flatMap tl) := by
  refine ext_tl ?_
  rw [join_eq, tl_join, show tl ("" : Str) = [] from by decide +kernel, joinL_nil, tl_mk']
  rfl
/-- the letters' codes -/
theorem letters_at {i : Nat} (h : i ≤ 25) : letters.cps.toList[i]? = some (97 + i) := by
  have : ∀ j < 26, letters.cps.toList[j]? = some (97 + j) := by decide +kernel
  exact this i (by omega)
/-- the signs of a kind -/
def kL : Th → List Nat
  | .int i => [97 + i.toNat]
  | .pr l r => (if l.isPr = true then 40 :: (kL l ++ [41]) else kL l) ++ 32 :: 62 :: 32 :: kL r
  | _ => []
theorem kL_len : ∀ (t : Th), (kL t).length ≤ 6 * t.size
  | .int i => by show 1 ≤ 6 * 1; omega
  | .pr l r => by
    have a := kL_len l
    have b := kL_len r
    have e : (Th.pr l r).size = l.size + r.size + 1 := rfl
    unfold kL
    rw [e]
    split <;> simp only [List.length_append, List.length_cons, List.length_nil] <;> omega
  | .bl _ => Nat.zero_le _
  | .non => Nat.zero_le _
  | .tup => Nat.zero_le _
/-- a program as a tree -/
inductive Tm where
  | nm (z : Str)
  | us (f a : Tm)
  | tk (z : Str) (t : Th) (b : Tm)
namespace Tm
def ws : Tm → List Wd
  | .nm z => [.st z]
  | .us f a => .st "@" :: (f.ws ++ a.ws)
  | .tk z t b => .pr (some z) t :: b.ws
/-- names are names, kinds kinds -/
def ok : Tm → Prop
  | .nm z => nameB z = true
  | .us f a => f.ok ∧ a.ok
  | .tk z t b => nameB z = true ∧ t.any = true ∧ b.ok
def tx : Tm → List Nat
  | .nm z => tl z
  | .us f a => 40 :: (f.tx ++ 32 :: (a.tx ++ [41]))
  | .tk z t b => 91 :: (tl z ++ 58 :: (kL t ++ 93 :: 32 :: b.tx))
end Tm
/-- words that make m programs, one behind another -/
theorem trees : ∀ {ws : List Wd} {m : Nat}, cntC Th.any ws = some m → ∃ ts : List Tm, ts.length = m ∧ ts.flatMap Tm.ws = ws ∧ ∀ t ∈ ts, t.ok
  | [], m, h => by cases h; exact ⟨[], rfl, rfl, fun t h => by cases h⟩
  | w :: r, m, h => by
    cases e : cntC Th.any r with
    | none => rw [cntC, e] at h; cases h
    | some k =>
      obtain ⟨ts, t1, t2, t3⟩ := trees e
      rw [cntC, e] at h
      have h : stepC Th.any w k = some m := h
      unfold stepC at h
      split at h
      · rename_i u
        split at h
        · cases h
        · rename_i k2
          cases h
          match ts, t1, t2, t3 with
          | [], t1, _, _ => exact absurd t1 (by simp only [List.length_nil]; omega)
          | [_], t1, _, _ => exact absurd t1 (by simp only [List.length_cons, List.length_nil]; omega)
          | f :: a :: l, t1, t2, t3 =>
            refine ⟨.us f a :: l, by simp only [List.length_cons] at t1 ⊢; omega, ?_, fun t ht => ?_⟩
            · have ew : w = .st "@" := by
                cases w with
                | st z => exact congrArg Wd.st (of_decide_eq_true u)
                | pr o t => cases u
                | no => cases u
              rw [← t2, ew]
              simp [List.flatMap_cons, Tm.ws]
            · rcases List.mem_cons.mp ht with q | q
              · rw [q]; exact ⟨t3 f (by simp), t3 a (by simp)⟩
              · exact t3 t (by simp [q])
      · split at h
        · rename_i n
          cases h
          obtain ⟨z, rfl⟩ : ∃ z, w = .st z := by cases w with
            | st z => exact ⟨z, rfl⟩
            | pr o t => cases n
            | no => cases n
          refine ⟨.nm z :: ts, by rw [List.length_cons, t1], by rw [List.flatMap_cons, t2]; rfl, fun t ht => ?_⟩
          rcases List.mem_cons.mp ht with q | q
          · rw [q]; exact n
          · exact t3 t q
        · split at h
          · cases h
          · rename_i c
            cases h
            rw [Bool.or_eq_true, not_or, Bool.not_eq_true', Bool.not_eq_false] at c
            obtain ⟨c1, c2⟩ := c
            have k1 : 1 ≤ ts.length := by
              rw [decide_eq_true_eq] at c1; omega
            match ts, t1, t2, t3, k1 with
            | [], t1, _, _, k1 => exact absurd k1 (by simp)
            | b :: l, t1, t2, t3, _ =>
              cases w with
              | st z => cases c2
              | no => cases c2
              | pr o t =>
                cases o with
                | none => cases c2
                | some z =>
                  have c2 : (nameB z && t.any) = true := c2
                  rw [Bool.and_eq_true] at c2
                  refine ⟨.tk z t b :: l, t1, by rw [← t2]; simp [List.flatMap_cons, Tm.ws], fun x hx => ?_⟩
                  rcases List.mem_cons.mp hx with q | q
                  · rw [q]; exact ⟨c2.1, c2.2, t3 b List.mem_cons_self⟩
                  · exact t3 x (List.mem_cons_of_mem _ q)
theorem tree {ws : List Wd} (h : One ws) : ∃ t : Tm, t.ws = ws ∧ t.ok := by
  obtain ⟨ts, t1, t2, t3⟩ := trees h.any
  match ts, t1, t2, t3 with
  | [t], _, t2, t3 => exact ⟨t, by rw [← t2]; simp [List.flatMap_cons], t3 t List.mem_cons_self⟩
/-! ### where a part begins, it can be read -/
/-- signs behind which no name and no kind goes on -/
def stopL : List Nat → Prop
  | [] => True
  | c :: _ => c ∉ letters.cps.toList ∧ c ≠ 32
def stopN : List Nat → Prop
  | [] => True
  | c :: _ => c ∉ letters.cps.toList
theorem name_signs {z : Str} (h : nameB z = true) : ∀ c ∈ tl z, c ∈ letters.cps.toList := by
  unfold nameB at h
  rw [Bool.and_eq_true] at h
  intro c hc
  exact of_decide_eq_true (List.all_eq_true.mp h.2 c hc)
theorem name_len {z : Str} (h : nameB z = true) : 1 ≤ (tl z).length ∧ (tl z).length ≤ 8 := by
  unfold nameB at h
  rw [Bool.and_eq_true, Bool.and_eq_true, decide_eq_true_eq, decide_eq_true_eq] at h
  rw [tl_len]
  exact h.1
/-- two names ahead of what stops them are one -/
theorem name_split {a b r s : List Nat} (ha : ∀ c ∈ a, c ∈ letters.cps.toList) (hb : ∀ c ∈ b, c ∈ letters.cps.toList) (hr : stopN r) (hs : stopN s) (e : a ++ r = b ++ s) : a = b ∧ r = s := by
  induction a generalizing b with
  | nil =>
    cases b with
    | nil => exact ⟨rfl, e⟩
    | cons y b =>
      exfalso
      have e : r = y :: (b ++ s) := e
      rw [e] at hr
      exact hr (hb y List.mem_cons_self)
  | cons x a ih =>
    cases b with
    | nil =>
      exfalso
      have e : x :: (a ++ r) = s := e
      rw [← e] at hs
      exact hs (ha x List.mem_cons_self)
    | cons y b =>
      have e : x :: (a ++ r) = y :: (b ++ s) := e
      injection e with e1 e2
      obtain ⟨p, q⟩ := ih (fun c h => ha c (List.mem_cons_of_mem _ h)) (fun c h => hb c (List.mem_cons_of_mem _ h)) e2
      exact ⟨by rw [e1, p], q⟩
end LG

set_option Elab.async false
set_option linter.all false
set_option maxRecDepth 100000
set_option maxHeartbeats 4100000
namespace LG
open PySem L2 TL
abbrev sKText : Stmt := top 26
/-- what waits: a kind, or signs -/
inductive Sg where
  | th (t : Th)
  | tx (l : List Nat)
namespace Sg
def out : Sg → List Nat
  | .th t => kL t
  | .tx l => l
def wt : Sg → Nat
  | .th t => 5 * t.size
  | .tx _ => 1
def ok : Sg → Prop
  | .th t => t.any = true
  | .tx _ => True
end Sg
def SgAt (K : PySem.W.Frag) (H : Hp) : Sg → V → Prop
  | .th t, v => ThAt K H t v
  | .tx l, v => v = .str (mk l)
theorem SgAt.same {K : PySem.W.Frag} {H H' : Hp} (s : Same H H') : ∀ {g : Sg} {v : V}, SgAt K H g v → SgAt K H' g v
  | .th _, _, h => ThAt.same s h
  | .tx _, _, h => h
def isTx : Sg → Bool
  | .tx _ => true
  | .th _ => false
theorem SgAt.ty {K : PySem.W.Frag} {H : Hp} {g : Sg} {v : V} (h : SgAt K H g v) (k : g.ok) : ∃ tv, TyX K H v tv ∧ PySem.W.kitOne K tv (.type "str") = some (isTx g) := by
  cases g with
  | tx l =>
    have e : v = .str (mk l) := h
    subst e
    exact ⟨_, .base (.str _), kit_ty (r := true) (by decide +kernel)⟩
  | th t =>
    cases t with
    | int i =>
      have e : v = .int i := h
      subst e
      exact ⟨_, .base (.int i), kit_ty (r := false) (by decide +kernel)⟩
    | pr l r =>
      obtain ⟨a, x, y, rfl, ha, _⟩ := h
      exact ⟨_, .base (.tup ha), kit_ty (r := false) (by decide +kernel)⟩
    | bl b => cases k
    | non => cases k
    | tup => cases k
def wtS (ss : List (Sg × V)) : Nat := (ss.map (·.1.wt)).sum
def outS (ss : List (Sg × V)) : List Nat := ss.reverse.flatMap (·.1.out)
theorem wt_pos {g : Sg} : 1 ≤ g.wt := by
  cases g with
  | th t => have := t.size_pos; show 1 ≤ 5 * t.size; omega
  | tx l => exact Nat.le_refl _
theorem wtS_len : ∀ ss : List (Sg × V), ss.length ≤ wtS ss
  | [] => Nat.le_refl _
  | s :: ss => by
    have h := wtS_len ss
    have p := wt_pos (g := s.1)
    simp only [wtS, List.map_cons, List.sum_cons, List.length_cons] at *
    omega
theorem wtS_app {a b : List (Sg × V)} : wtS (a ++ b) = wtS a + wtS b := by simp [wtS]
theorem outS_app {a b : List (Sg × V)} : outS (a ++ b) = outS b ++ outS a := by simp [outS]
theorem sum_len {fs : List Str} : (fs.map (·.length)).sum = (fs.flatMap tl).length := by
  induction fs with
  | nil => rfl
  | cons a r ih => rw [List.map_cons, List.sum_cons, List.flatMap_cons, List.length_append, ih, tl_len]
/-- the pieces so far, and what is still to come, are the text -/
structure KtI (K : PySem.W.Frag) (H0 H : Hp) (fl wl : Addr) (fs : List Str) (ss : List (Sg × V)) (t : Th) : Prop where
  same : Same H0 H
  ff : H fl = some (.lst (fs.map V.str))
  ww : H wl = some (.lst (ss.map (·.2)))
  each : ∀ s ∈ ss, SgAt K H0 s.1 s.2 ∧ s.1.ok
  eq : fs.flatMap tl ++ outS ss = kL t
  few : fs.length + wtS ss ≤ 5 * t.size
def spKText (K : PySem.W.Frag) : Sp := fun vs H Q _ => ∃ (v : V) (t : Th), vs = [v] ∧ ThAt K H t v ∧ t.any = true ∧ t.size ≤ 10000 ∧ ∀ H', Same H H' → Q (.str (mk (kL t))) H'
section
variable {P : Program} {w : World} {K : PySem.W.Frag} {mg : Str → Option Value} {base : Heap}
theorem scKText : FnScope ["kind", "found", "waiting", "part"] ["kind"] (defScope sKText) := ⟨rfl, rfl, rfl, by decide +kernel, rfl, by decide +kernel, by decide +kernel⟩
theorem any_pr {l r : Th} (h : (Th.pr l r).any = true) : l.any = true ∧ r.any = true := by
  have h : (l.any && r.any) = true := h
  rwa [Bool.and_eq_true] at h
theorem any_int {t : Th} (h : t.any = true) (n : t.isPr = false) : ∃ i : Nat, t = .int (i : Int) ∧ i ≤ 25 := by
  cases t with
  | int i =>
    have h : (decide (0 ≤ i) && decide (i ≤ 25)) = true := h
    rw [Bool.and_eq_true, decide_eq_true_eq, decide_eq_true_eq] at h
    exact ⟨i.toNat, by rw [Int.toNat_of_nonneg h.1], by omega⟩
  | pr l r => cases n
  | bl b => cases h
  | non => cases h
  | tup => cases h
theorem pr_of {t : Th} (h : t.isPr = true) : ∃ l r, t = .pr l r := by
  cases t with
  | pr l r => exact ⟨l, r, rfl⟩
  | int i => cases h
  | bl b => cases h
  | non => cases h
  | tup => cases h
theorem ok_ktext {f fP : Addr} {fd fdP : FuncData} (F : Fn K mg "kind_text" sKText ["kind"] f fd) (NP : Fn K mg "is_pair" sPair ["thing"] fP fdP) (T : TxB mg) (T2 : TxK mg) (TN : TxN mg) : FnOk P w K mg base CX0 2 f fd ["kind"] (spKText K) := by
  have GP : FnOk P w K mg base CX0 1 fP fdP ["thing"] (spPair K) := ok_pair NP T T2
  obtain ⟨uL, hL⟩ := TN.let_
  refine F.F.ok scKText (fun vs H Q E h => ?_) (fun cdv A outer s H vs Q E hr h => ?_)
  · obtain ⟨_, _, rfl, _⟩ := h
    rfl
  · obtain ⟨v, t, rfl, hv, ha, hz, kq⟩ := h
    have nd := scKText.nd
    refine ⟨_, pss_cons (ps_set (i := 1) nd rfl (Or.inl rfl) (pe_lst pa_nil))
    (pss_cons (ps_set (i := 2) nd rfl (Or.inl rfl) (pe_lst (pa_cons (pv 0) pa_nil)))
    (pss_cons (ps_while PassesOwn.never (pt_truth (pv 2) (by intro _; rfl))
        (pss_cons (ps_set (i := 3) nd rfl (Or.inl rfl) (pe_bm0 PySem.F.plainAttrs_list PySem.F.slot_list_pop PySem.F.type_list_pop mt_pop (pv 2)))
        (pss_one (ps_if (pt_val (pe_callB call_isi (by rfl) T.isinstance (by decide +kernel) (pa_cons (pv 3) (pa_cons (pe_bltn (v := .ty "str") (by rfl) T2.str (by decide +kernel) rfl) pa_nil))))
            (pss_one (ps_expr (pe_bm PySem.F.plainAttrs_list PySem.F.slot_list_append PySem.F.type_list_append mt_append (pv 1) (pa_cons (pv 3) pa_nil))))
            (pss_one (ps_if (pt_not (pt_val (pe_call GP hr (by rfl) NP.m NP.F.kp NP.b .nil pass0 (pa_cons (pv 3) pa_nil))))
                (pss_one (ps_expr (pe_bm PySem.F.plainAttrs_list PySem.F.slot_list_append PySem.F.type_list_append mt_append (pv 1) (pa_cons (pe_ix ix_str (pe_glob (v := .str letters) (by rfl) hL ⟨_, rfl⟩) (pv 3) (fun _ _ => rfl)) pa_nil))))
                (pss_one (ps_if (pt_val (pe_call GP hr (by rfl) NP.m NP.F.kp NP.b .nil pass0 (pa_cons (pe_ix ix_tup (pv 3) pe_int (fun _ _ => rfl)) pa_nil)))
                    (pss_one (ps_expr (pe_bm PySem.F.plainAttrs_list PySem.F.slot_list_extend PySem.F.type_list_extend mt_extend (pv 2) (pa_cons (pe_lst (pa_cons (pe_ix ix_tup (pv 3) pe_int (fun _ _ => rfl)) (pa_cons pe_str (pa_cons (pe_ix ix_tup (pv 3) pe_int (fun _ _ => rfl)) (pa_cons pe_str pa_nil))))) pa_nil))))
                    (pss_one (ps_expr (pe_bm PySem.F.plainAttrs_list PySem.F.slot_list_extend PySem.F.type_list_extend mt_extend (pv 2) (pa_cons (pe_lst (pa_cons (pe_ix ix_tup (pv 3) pe_int (fun _ _ => rfl)) (pa_cons pe_str (pa_cons (pe_ix ix_tup (pv 3) pe_int (fun _ _ => rfl)) pa_nil)))) pa_nil))))))))))))
    (pss_one (ps_ret (pe_join pe_str (pv 1)))))), ?_⟩
    refine ⟨(by show 0 ≤ sizeLine; decide), fun fl hfl => ?_⟩
    have s1 := same_new (o := .lst []) (same_refl H) hfl
    refine ⟨_, rfl, (by show 1 ≤ sizeLine; decide), fun wl hwl => ?_⟩
    have fw : fl ≠ wl := ne_of_none upd_same hwl
    have nfl : H fl = none := hfl
    have nwl : H wl = none := same_none s1 hwl
    refine ⟨fun m σ H' => ∃ (fs : List Str) (ss : List (Sg × V)) (t3 : Option V), m = wtS ss ∧ σ = [some v, some (.ref fl), some (.ref wl), t3] ∧ KtI K H H' fl wl fs ss t, ⟨_, [], [(.th t, v)], none, rfl, rfl, ?_⟩, ?_⟩
    · refine ⟨same_new s1 hwl, by rw [upd_ne fw]; exact upd_same, upd_same, fun s hs => ?_, by simp [outS, Sg.out], by simp [wtS, Sg.wt]⟩
      rw [List.mem_singleton] at hs
      subst hs
      exact ⟨hv, ha⟩
    · rintro m σ H' ⟨fs, ss, t3, rfl, rfl, I⟩
      refine ⟨_, rfl, _, .inl ⟨_, SqL.of I.ww, rfl⟩, ?_⟩
      rcases nil_or_snoc ss with rfl | ⟨ss', ⟨g, gx⟩, rfl⟩
      · refine ifF rfl ?_
        have e := I.eq
        rw [show outS [] = [] from rfl, List.append_nil] at e
        refine ⟨⟨_, rfl⟩, _, rfl, _, _, fs, rfl, rfl, .inl (SqL.of I.ff), ?_, ?_⟩
        · have := kL_len t
          rw [sum_len, e, show (("" : Str).length) = 0 from by decide +kernel]
          omega
        · rw [join_mk, e]
          exact kq H' I.same
      · have ww := I.ww
        rw [List.map_append] at ww
        refine ifT (by simp) ?_
        obtain ⟨gv, gk⟩ := I.each (g, gx) (List.mem_append_right _ List.mem_cons_self)
        have fewS := I.few
        rw [wtS_app] at fewS
        have e0 := I.eq
        rw [outS_app] at e0
        have gw : wtS [(g, gx)] = g.wt := by simp [wtS]
        have go : outS [(g, gx)] = g.out := by simp [outS]
        rw [gw] at fewS
        rw [go] at e0
        have lens := wtS_len ss'
        refine ⟨fun σ'' H'' => ∃ m', m' < wtS (ss' ++ [(g, gx)]) ∧ ∃ (fs : List Str) (ss : List (Sg × V)) (t3 : Option V), m' = wtS ss ∧ σ'' = [some v, some (.ref fl), some (.ref wl), t3] ∧ KtI K H H'' fl wl fs ss t, fun σ'' H'' z => z, ?_⟩
        rw [wtS_app, gw]
        refine ⟨_, rfl, .inl ⟨rfl, _, SqL.of ww⟩, wl, _, gx, rfl, rfl, ww, (by simp), ?_⟩
        have dl : (List.map (fun x : Sg × V => x.2) ss' ++ List.map (fun x : Sg × V => x.2) [(g, gx)]).dropLast = List.map (fun x : Sg × V => x.2) ss' := by simp
        rw [dl]
        generalize hG : upd H' wl (.lst (List.map (fun x : Sg × V => x.2) ss')) = H1
        have w1 : H1 wl = some (.lst (ss'.map (·.2))) := by rw [← hG]; exact upd_same
        have f1 : H1 fl = some (.lst (fs.map V.str)) := by rw [← hG, upd_ne fw]; exact I.ff
        have s2 : Same H H1 := fun b o e => by rw [← hG, upd_ne (ne_of_none e nwl)]; exact I.same b o e
        have each' : ∀ s ∈ ss', SgAt K H s.1 s.2 ∧ s.1.ok := fun s h => I.each s (List.mem_append_left _ h)
        clear hG ww
        have gv1 := gv.same s2
        obtain ⟨tv, ty, kt⟩ := gv1.ty gk
        refine ⟨_, rfl, _, _, _, _, _, rfl, .ty _, ty, kt, _, rfl, ?_⟩
        -- one piece more
        have piece : ∀ (l : List Nat) (z : Str), tl z = l → l = g.out → ∃ m', m' < wtS ss' + g.wt ∧ ∃ (fs0 : List Str) (ss0 : List (Sg × V)) (t3 : Option V), m' = wtS ss0 ∧ [some v, some (.ref fl), some (.ref wl), some gx] = [some v, some (.ref fl), some (.ref wl), t3] ∧ KtI K H (upd H1 fl (.lst (fs.map V.str ++ [.str z]))) fl wl fs0 ss0 t := fun l z e1 e2 => by
          have gp := wt_pos (g := g)
          refine ⟨wtS ss', by omega, fs ++ [z], ss', _, rfl, rfl, fun b o q => by rw [upd_ne (ne_of_none q nfl)]; exact s2 b o q, by rw [upd_same, List.map_append]; rfl, by rw [upd_ne fw.symm]; exact w1, each', ?_, by rw [List.length_append]; show fs.length + 1 + wtS ss' ≤ _; omega⟩
          rw [List.flatMap_append, List.append_assoc]
          show fs.flatMap tl ++ ([z].flatMap tl ++ outS ss') = _
          rw [show [z].flatMap tl = l from by simp [e1], e2]
          exact e0
        have room : (fs.map V.str).length < sizeLine := by rw [List.length_map]; exact room2 (by omega)
        refine ite2 (fun c => ?_) (fun c => ?_)
        · cases g with
          | th t' => cases c
          | tx l =>
            have gv1 : gx = .str (mk l) := gv1
            refine ⟨_, rfl, .inl ⟨rfl, _, SqL.of f1⟩, gx, rfl, fl, _, _, rfl, rfl, f1, room, ?_⟩
            have := piece l (mk l) rfl rfl
            rw [gv1] at this ⊢
            exact this
        · cases g with
          | tx l => exact absurd rfl c
          | th t' =>
            have gv1 : ThAt K H1 t' gx := gv1
            have gv : ThAt K H t' gx := gv
            have gk : t'.any = true := gk
            have e0 : fs.flatMap tl ++ (kL t' ++ outS ss') = kL t := e0
            have fewS : fs.length + (wtS ss' + 5 * t'.size) ≤ 5 * t.size := fewS
            refine ⟨_, rfl, gx, t', rfl, gv1, _, rfl, ?_⟩
            refine ite2 (fun cP => ?_) (fun cP => ?_)
            · have np : t'.isPr = false := by simpa using cP
              obtain ⟨i, rfl, hi⟩ := any_int gk np
              have gv1 : gx = .int (i : Int) := gv1
              refine ⟨_, rfl, .inl ⟨rfl, _, SqL.of f1⟩, gx, rfl, letters, (i : Int), 97 + i, rfl, gv1, (by show 26 ≤ sizeLine; decide), atI_nat (letters_at hi), fl, _, _, rfl, rfl, f1, room, ?_⟩
              have := piece [97 + i] (⟨#[97 + i]⟩) rfl (by show _ = [97 + (i : Int).toNat]; rw [Int.toNat_natCast])
              exact this
            · have pp : t'.isPr = true := by simpa using cP
              obtain ⟨l, r, rfl⟩ := pr_of pp
              obtain ⟨al, ar⟩ := any_pr gk
              obtain ⟨pa, x, y, ev, hpa, tl1, tr1⟩ := gv
              have hp1 := s2 _ _ hpa
              have esz : (Th.pr l r).size = l.size + r.size + 1 := rfl
              refine ⟨_, rfl, pa, _, _, x, ev, rfl, SqT.of hp1, rfl, x, l, rfl, tl1.same s2, _, rfl, ?_⟩
              -- the parts, and what stands between them
              have more : ∀ (new : List (Sg × V)) (l2 : Addr), H1 l2 = none → (∀ s ∈ new, SgAt K H s.1 s.2 ∧ s.1.ok) → wtS new < 5 * (l.size + r.size + 1) → outS new = kL (.pr l r) → ∃ m', m' < wtS ss' + (Sg.th (.pr l r)).wt ∧ ∃ (fs0 : List Str) (ss0 : List (Sg × V)) (t3 : Option V), m' = wtS ss0 ∧ [some v, some (.ref fl), some (.ref wl), some gx] = [some v, some (.ref fl), some (.ref wl), t3] ∧ KtI K H (upd (upd H1 l2 (.lst (new.map (·.2)))) wl (.lst (ss'.map (·.2) ++ new.map (·.2)))) fl wl fs0 ss0 t := fun new l2 n2 ok2 wn on => by
                have a3 := same_new (o := .lst (new.map (·.2))) (same_refl H1) n2
                have ew : (Sg.th (.pr l r)).wt = 5 * (l.size + r.size + 1) := rfl
                refine ⟨wtS (ss' ++ new), by rw [wtS_app, ew]; omega, fs, ss' ++ new, _, rfl, rfl, fun b o q => by rw [upd_ne (ne_of_none q nwl)]; exact a3 _ _ (s2 b o q), by rw [upd_ne fw]; exact a3 _ _ f1, by rw [upd_same, List.map_append], fun s hs => ?_, ?_, by rw [wtS_app]; omega⟩
                · rcases List.mem_append.mp hs with q | q
                  · exact each' s q
                  · exact ok2 s q
                · rw [outS_app, on]; exact e0
              refine ite2 (fun cL => ?_) (fun cL => ?_)
              · refine ⟨_, rfl, .inl ⟨rfl, _, SqL.of w1⟩, ?_⟩
                refine ⟨_, rfl, pa, _, _, y, ev, rfl, SqT.of hp1, rfl, _, rfl, pa, _, _, x, ev, rfl, SqT.of hp1, rfl, (by show 4 ≤ sizeLine; decide), fun l2 hl2 => ?_⟩
                refine ⟨wl, l2, _, _, rfl, rfl, (same_new (same_refl H1) hl2) _ _ w1, upd_same, (by rw [List.length_map]; show ss'.length + 4 ≤ sizeLine; exact big2 (by omega)), ?_⟩
                refine more [(.th r, y), (.tx [41, 32, 62, 32], .str ") > "), (.th l, x), (.tx [40], .str "(")] l2 hl2 (fun s hs => ?_) (by simp only [wtS, List.map_cons, List.map_nil, List.sum_cons, List.sum_nil, Sg.wt]; omega) ?_
                · simp only [List.mem_cons, List.not_mem_nil, or_false] at hs
                  rcases hs with rfl | rfl | rfl | rfl
                  · exact ⟨tr1, ar⟩
                  · exact ⟨(by show V.str ") > " = V.str (mk [41, 32, 62, 32]); exact congrArg V.str (by decide +kernel)), trivial⟩
                  · exact ⟨tl1, al⟩
                  · exact ⟨(by show V.str "(" = V.str (mk [40]); exact congrArg V.str (by decide +kernel)), trivial⟩
                · show _ = (if l.isPr = true then 40 :: (kL l ++ [41]) else kL l) ++ 32 :: 62 :: 32 :: kL r
                  rw [if_pos cL]
                  simp [outS, Sg.out]
              · refine ⟨_, rfl, .inl ⟨rfl, _, SqL.of w1⟩, ?_⟩
                refine ⟨_, rfl, pa, _, _, y, ev, rfl, SqT.of hp1, rfl, _, rfl, pa, _, _, x, ev, rfl, SqT.of hp1, rfl, (by show 3 ≤ sizeLine; decide), fun l2 hl2 => ?_⟩
                refine ⟨wl, l2, _, _, rfl, rfl, (same_new (same_refl H1) hl2) _ _ w1, upd_same, (by rw [List.length_map]; show ss'.length + 3 ≤ sizeLine; exact big2 (by omega)), ?_⟩
                refine more [(.th r, y), (.tx [32, 62, 32], .str " > "), (.th l, x)] l2 hl2 (fun s hs => ?_) (by simp only [wtS, List.map_cons, List.map_nil, List.sum_cons, List.sum_nil, Sg.wt]; omega) ?_
                · simp only [List.mem_cons, List.not_mem_nil, or_false] at hs
                  rcases hs with rfl | rfl | rfl
                  · exact ⟨tr1, ar⟩
                  · exact ⟨(by show V.str " > " = V.str (mk [32, 62, 32]); exact congrArg V.str (by decide +kernel)), trivial⟩
                  · exact ⟨tl1, al⟩
                · show _ = (if l.isPr = true then 40 :: (kL l ++ [41]) else kL l) ++ 32 :: 62 :: 32 :: kL r
                  rw [if_neg cL]
                  simp [outS, Sg.out]
end
end LG

set_option Elab.async false
set_option linter.all false
set_option maxRecDepth 100000
set_option maxHeartbeats 8100000
namespace LG
open PySem L2 TL
abbrev sPText : Stmt := top 27
theorem nm_use {z : Str} (h : nameB z = true) : (Wd.st z).use = false := by
  show decide (z = "@") = false
  rw [decide_eq_false_iff_not]
  rintro rfl
  rw [name_at] at h; cases h
theorem nm_ne {z : Str} (h : nameB z = true) : z ≠ "@" := by
  rintro rfl
  rw [name_at] at h; cases h
theorem pend_tree : ∀ {t : Tm} {r : List Wd} {l : List Nat}, t.ok → pend r = some l → pend (t.ws ++ r) = some (t.ws.length :: l)
  | .nm z, r, l, h, e => by
    show pend (.st z :: r) = some (1 :: l)
    unfold pend
    rw [e]
    simp only [nm_use h, Wd.thing, Bool.false_eq_true, if_false]
  | .us f a, r, l, h, e => by
    have h2 := pend_tree h.2 e
    have h1 := pend_tree h.1 h2
    show pend (.st "@" :: ((f.ws ++ a.ws) ++ r)) = some (((f.ws ++ a.ws).length + 1) :: l)
    unfold pend
    rw [List.append_assoc, h1]
    have u : (Wd.st "@").use = true := by decide +kernel
    simp only [u, if_true, List.length_append]
  | .tk z t b, r, l, h, e => by
    have h1 := pend_tree h.2.2 e
    show pend (.pr (some z) t :: (b.ws ++ r)) = some ((b.ws.length + 1) :: l)
    unfold pend
    rw [h1]
    have u : (Wd.pr (some z) t).use = false := rfl
    simp only [u, Wd.thing, if_true, Bool.false_eq_true, if_false]
/-- at a place of words a program begins -/
def SubT (ws : List Wd) (p : Nat) (t : Tm) : Prop := ∃ r, ws.drop p = t.ws ++ r
theorem ws_pos : ∀ t : Tm, 0 < t.ws.length
  | .nm _ => Nat.one_pos
  | .us _ _ => Nat.succ_pos _
  | .tk _ _ _ => Nat.succ_pos _
theorem SubT.lt {ws : List Wd} {p : Nat} {t : Tm} (h : SubT ws p t) : p + t.ws.length ≤ ws.length := by
  obtain ⟨r, e⟩ := h
  have l := congrArg List.length e
  rw [List.length_drop, List.length_append] at l
  have := ws_pos t
  omega
theorem SubT.end {ws : List Wd} {p : Nat} {t : Tm} (h : SubT ws p t) (wh : Whole ws) (k : t.ok) : ofE ws p = p + t.ws.length := by
  obtain ⟨r, e⟩ := id h
  have er : r = ws.drop (p + t.ws.length) := by
    have := congrArg (List.drop t.ws.length) e
    rw [List.drop_drop, List.drop_left] at this
    exact this.symm
  obtain ⟨l, el⟩ := pend_drop wh (p + t.ws.length)
  rw [← er] at el
  have q := pend_tree k el
  rw [← e] at q
  exact ofE_eq q
theorem SubT.at {ws : List Wd} {p : Nat} {w : Wd} {l : List Wd} (h : ws.drop p = w :: l) : ws[p]? = some w ∧ ws.drop (p + 1) = l := by
  constructor
  · have := List.head?_drop (l := ws) (i := p)
    rw [h] at this
    exact this.symm
  · have := congrArg (List.drop 1) h
    rw [List.drop_drop] at this
    exact this
theorem SubT.nm {ws : List Wd} {p : Nat} {z : Str} (h : SubT ws p (.nm z)) : ws[p]? = some (.st z) := by
  obtain ⟨r, e⟩ := h
  exact (SubT.at e).1
theorem SubT.us {ws : List Wd} {p : Nat} {f a : Tm} (h : SubT ws p (.us f a)) : ws[p]? = some (.st "@") ∧ SubT ws (p + 1) f ∧ SubT ws (p + 1 + f.ws.length) a := by
  obtain ⟨r, e⟩ := h
  have e : ws.drop p = .st "@" :: ((f.ws ++ a.ws) ++ r) := e
  obtain ⟨h1, h2⟩ := SubT.at e
  rw [List.append_assoc] at h2
  refine ⟨h1, ⟨_, h2⟩, r, ?_⟩
  rw [← List.drop_drop, h2, List.drop_left]
theorem SubT.tk {ws : List Wd} {p : Nat} {z : Str} {t : Th} {b : Tm} (h : SubT ws p (.tk z t b)) : ws[p]? = some (.pr (some z) t) ∧ SubT ws (p + 1) b := by
  obtain ⟨r, e⟩ := h
  have e : ws.drop p = .pr (some z) t :: (b.ws ++ r) := e
  obtain ⟨h1, h2⟩ := SubT.at e
  exact ⟨h1, _, h2⟩
/-- kinds of at most this size -/
def Tm.fit (n : Nat) : Tm → Prop
  | .nm _ => True
  | .us f a => f.fit n ∧ a.fit n
  | .tk _ t b => t.size ≤ n ∧ b.fit n
theorem fit_of : ∀ {t : Tm} {ws : List Wd} {n : Nat}, (∀ w ∈ ws, ∀ o k, w = .pr o k → k.size ≤ n) → (∀ w ∈ t.ws, w ∈ ws) → t.fit n
  | .nm _, _, _, _, _ => trivial
  | .us f a, ws, n, h, s => ⟨fit_of h fun w hw => s w (by simp [Tm.ws, hw]), fit_of h fun w hw => s w (by simp [Tm.ws, hw])⟩
  | .tk z t b, ws, n, h, s => ⟨h _ (s (.pr (some z) t) (by simp [Tm.ws])) _ _ rfl, fit_of h fun w hw => s w (by simp [Tm.ws, hw])⟩
theorem wd_sizes {K : PySem.W.Frag} {H : Hp} {ws : List Wd} {vs : List V} (h : WdsAt K H ws vs) : ∀ w ∈ ws, ∀ o k, w = .pr o k → k.size ≤ 10000 := by
  intro w hw o k e
  obtain ⟨i, hi, ei⟩ := List.getElem_of_mem hw
  obtain ⟨v, hv⟩ : ∃ v, vs[i]? = some v := ⟨_, List.getElem?_eq_getElem (by rw [h.1]; exact hi)⟩
  have := h.2 i w v (by rw [← ei]; exact List.getElem?_eq_getElem hi) hv
  rw [e] at this
  obtain ⟨_, _, _, _, _, _, _, _, q⟩ := this
  exact q
theorem tx_len : ∀ {t : Tm} {n : Nat}, t.ok → t.fit n → t.tx.length ≤ (6 * n + 20) * t.ws.length
  | .nm z, n, h, _ => by
    have := (name_len h).2
    show (tl z).length ≤ _ * 1
    omega
  | .us f a, n, h, g => by
    have h1 := tx_len h.1 g.1
    have h2 := tx_len h.2 g.2
    show (40 :: (f.tx ++ 32 :: (a.tx ++ [41]))).length ≤ _ * ((f.ws ++ a.ws).length + 1)
    rw [List.length_append, Nat.mul_add, Nat.mul_add]
    simp only [List.length_cons, List.length_append, List.length_nil]
    omega
  | .tk z t b, n, h, g => by
    have h1 := tx_len h.2.2 g.2
    have h2 := (name_len h.1).2
    have h3 := kL_len t
    have h4 := g.1
    show (91 :: (tl z ++ 58 :: (kL t ++ 93 :: 32 :: b.tx))).length ≤ _ * (b.ws.length + 1)
    rw [Nat.mul_add]
    simp only [List.length_cons, List.length_append]
    omega
/-- what waits: a program at a place, or signs -/
inductive Pg where
  | at (p : Nat) (t : Tm)
  | tx (l : List Nat)
namespace Pg
def out : Pg → List Nat
  | .at _ t => t.tx
  | .tx l => l
def wt : Pg → Nat
  | .at _ t => 6 * t.ws.length
  | .tx _ => 1
def val : Pg → V
  | .at p _ => .int (p : Int)
  | .tx l => .str (mk l)
def ok (ws : List Wd) : Pg → Prop
  | .at p t => SubT ws p t ∧ t.ok
  | .tx _ => True
def isTx : Pg → Bool
  | .tx _ => true
  | .at _ _ => false
end Pg
theorem Pg.ty {K : PySem.W.Frag} {H : Hp} (g : Pg) : ∃ tv, TyX K H g.val tv ∧ PySem.W.kitOne K tv (.type "str") = some g.isTx := by
  cases g with
  | tx l => exact ⟨_, .base (.str _), kit_ty (r := true) (by decide +kernel)⟩
  | «at» p t => exact ⟨_, .base (.int _), kit_ty (r := false) (by decide +kernel)⟩
def wtP (ss : List Pg) : Nat := (ss.map Pg.wt).sum
def outP (ss : List Pg) : List Nat := ss.reverse.flatMap Pg.out
theorem wtP_app {a b : List Pg} : wtP (a ++ b) = wtP a + wtP b := by simp [wtP]
theorem outP_app {a b : List Pg} : outP (a ++ b) = outP b ++ outP a := by simp [outP]
theorem pwt_pos {g : Pg} : 1 ≤ g.wt := by
  cases g with
  | «at» p t => have := ws_pos t; show 1 ≤ 6 * t.ws.length; omega
  | tx l => exact Nat.le_refl _
theorem wtP_len : ∀ ss : List Pg, ss.length ≤ wtP ss
  | [] => Nat.le_refl _
  | s :: ss => by
    have h := wtP_len ss
    have p := pwt_pos (g := s)
    simp only [wtP, List.map_cons, List.sum_cons, List.length_cons] at *
    omega
structure PtI (H0 H : Hp) (fl wl : Addr) (fs : List Str) (ss : List Pg) (ws : List Wd) (t : Tm) : Prop where
  same : Same H0 H
  ff : H fl = some (.lst (fs.map V.str))
  ww : H wl = some (.lst (ss.map Pg.val))
  each : ∀ s ∈ ss, s.ok ws
  eq : fs.flatMap tl ++ outP ss = t.tx
  few : fs.length + wtP ss ≤ 6 * ws.length
def spPText (K : PySem.W.Frag) : Sp := fun vs H Q _ => ∃ (v : V) (t : Tm), vs = [v] ∧ PgAt K H t.ws v ∧ t.ok ∧ t.ws.length ≤ 100 ∧ ∀ H', Same H H' → Q (.str (mk t.tx)) H'
theorem tree_one : ∀ {t : Tm} {r : List Wd} {m : Nat}, t.ok → cntC Th.any r = some m → cntC Th.any (t.ws ++ r) = some (m + 1)
  | .nm z, r, m, h, e => by
    show (cntC Th.any r).bind (stepC Th.any (.st z)) = _
    rw [e]
    show stepC Th.any (.st z) m = _
    unfold stepC
    rw [if_neg (by rw [nm_use h]; exact Bool.false_ne_true), if_pos (show (Wd.st z).name = true from h)]
  | .us f a, r, m, h, e => by
    have h2 := tree_one h.2 e
    have h1 := tree_one h.1 h2
    show (cntC Th.any ((f.ws ++ a.ws) ++ r)).bind (stepC Th.any (.st "@")) = _
    rw [List.append_assoc, h1]
    show stepC Th.any (.st "@") (m + 1 + 1) = _
    unfold stepC
    have u : (Wd.st "@").use = true := by decide +kernel
    rw [if_pos u, if_neg (by omega)]
    rfl
  | .tk z t b, r, m, h, e => by
    have h1 := tree_one h.2.2 e
    show (cntC Th.any (b.ws ++ r)).bind (stepC Th.any (.pr (some z) t)) = _
    rw [h1]
    show stepC Th.any (.pr (some z) t) (m + 1) = _
    unfold stepC
    have u : (Wd.pr (some z) t).use = false := rfl
    have n : (Wd.pr (some z) t).name = false := rfl
    have k : (Wd.pr (some z) t).take Th.any = true := by
      show (nameB z && t.any) = true
      rw [h.1, h.2.1]; rfl
    rw [u, n, k, if_neg Bool.false_ne_true, if_neg Bool.false_ne_true, if_neg (by simp)]
theorem Tm.one {t : Tm} (h : t.ok) : Prog t.ws := by
  have := tree_one (r := []) (m := 0) h rfl
  rw [List.append_nil] at this
  exact ⟨decide_eq_true this⟩
section
variable {P : Program} {w : World} {K : PySem.W.Frag} {mg : Str → Option Value} {base : Heap}
theorem scPText : FnScope ["program", "ends", "found", "waiting", "part"] ["program"] (defScope sPText) := ⟨rfl, rfl, rfl, by decide +kernel, rfl, by decide +kernel, by decide +kernel⟩
theorem ok_ptext {f fE fT fX fP : Addr} {fd fdE fdT fdX fdP : FuncData} (F : Fn K mg "program_text" sPText ["program"] f fd) (NE : Fn K mg "ends_of_parts" sEnds ["words"] fE fdE) (NT : Fn K mg "is_take" sIsTake ["word"] fT fdT) (NX : Fn K mg "kind_text" sKText ["kind"] fX fdX) (NP : Fn K mg "is_pair" sPair ["thing"] fP fdP)
    (hu : ∃ u, mg "USE" = some (.str "@" u)) (T : TxB mg) (T2 : TxK mg) (TN : TxN mg) : FnOk P w K mg base CX0 3 f fd ["program"] (spPText K) := by
  have GE : FnOk P w K mg base CX0 2 fE fdE ["words"] (spEnds K) := ok_ends NE NT hu T T2
  have GT : FnOk P w K mg base CX0 1 fT fdT ["word"] (spIsTake K) := ok_isTake NT T T2.toTxD
  have GX : FnOk P w K mg base CX0 2 fX fdX ["kind"] (spKText K) := ok_ktext NX NP T T2 TN
  obtain ⟨uU, hU⟩ := hu
  refine F.F.ok scPText (fun vs H Q E h => ?_) (fun cdv A outer s H vs Q E hr h => ?_)
  · obtain ⟨_, _, rfl, _⟩ := h
    rfl
  · obtain ⟨v, t, rfl, hv, tk, hl, kq⟩ := h
    have nd := scPText.nd
    have hr1 := hr.mono (show 1 ≤ 2 by decide)
    have hone := Tm.one tk
    have wh := hone.whole
    have wk := hone.woks
    refine ⟨_, pss_cons (ps_set (i := 1) nd rfl (Or.inl rfl) (pe_call GE hr (by rfl) NE.m NE.F.kp NE.b .nil pass0 (pa_cons (pv 0) pa_nil)))
    (pss_cons (ps_set (i := 2) nd rfl (Or.inl rfl) (pe_lst pa_nil))
    (pss_cons (ps_set (i := 3) nd rfl (Or.inl rfl) (pe_lst (pa_cons pe_int pa_nil)))
    (pss_cons (ps_while PassesOwn.never (pt_truth (pv 3) (by intro _; rfl))
        (pss_cons (ps_set (i := 4) nd rfl (Or.inl rfl) (pe_bm0 PySem.F.plainAttrs_list PySem.F.slot_list_pop PySem.F.type_list_pop mt_pop (pv 3)))
        (pss_one (ps_if (pt_val (pe_callB call_isi (by rfl) T.isinstance (by decide +kernel) (pa_cons (pv 4) (pa_cons (pe_bltn (v := .ty "str") (by rfl) T2.str (by decide +kernel) rfl) pa_nil))))
            (pss_one (ps_expr (pe_bm PySem.F.plainAttrs_list PySem.F.slot_list_append PySem.F.type_list_append mt_append (pv 2) (pa_cons (pv 4) pa_nil))))
            (pss_one (ps_if (pt_cmpR (op_eqW (Nat.lt_of_le_of_lt (Nat.le_add_right _ 64) hr.units)) (pe_ix ix_tup (pv 0) (pv 4) (fun _ _ => rfl)) (pe_glob (v := .str "@") (by rfl) hU ⟨_, rfl⟩) (nomark _))
                (pss_one (ps_expr (pe_bm PySem.F.plainAttrs_list PySem.F.slot_list_extend PySem.F.type_list_extend mt_extend (pv 3) (pa_cons (pe_lst (pa_cons pe_str (pa_cons (pe_ix ix_list (pv 1) (pe_op op_add (pv 4) pe_int) (fun _ _ => rfl)) (pa_cons pe_str (pa_cons (pe_op op_add (pv 4) pe_int) (pa_cons pe_str pa_nil)))))) pa_nil))))
                (pss_one (ps_if (pt_val (pe_call GT hr1 (by rfl) NT.m NT.F.kp NT.b .nil pass0 (pa_cons (pe_ix ix_tup (pv 0) (pv 4) (fun _ _ => rfl)) pa_nil)))
                    (pss_cons (ps_expr (pe_bm PySem.F.plainAttrs_list PySem.F.slot_list_append PySem.F.type_list_append mt_append (pv 2) (pa_cons (pe_op op_add_str (pe_op op_add_str (pe_op op_add_str (pe_op op_add_str pe_str (pe_ix ix_tup (pe_ix ix_tup (pv 0) (pv 4) (fun _ _ => rfl)) pe_int (fun _ _ => rfl))) pe_str) (pe_call GX hr (by rfl) NX.m NX.F.kp NX.b .nil pass0 (pa_cons (pe_ix ix_tup (pe_ix ix_tup (pv 0) (pv 4) (fun _ _ => rfl)) pe_int (fun _ _ => rfl)) pa_nil))) pe_str) pa_nil)))
                    (pss_one (ps_expr (pe_bm PySem.F.plainAttrs_list PySem.F.slot_list_append PySem.F.type_list_append mt_append (pv 3) (pa_cons (pe_op op_add (pv 4) pe_int) pa_nil)))))
                    (pss_one (ps_expr (pe_bm PySem.F.plainAttrs_list PySem.F.slot_list_append PySem.F.type_list_append mt_append (pv 2) (pa_cons (pe_ix ix_tup (pv 0) (pv 4) (fun _ _ => rfl)) pa_nil))))))))))))
    (pss_one (ps_ret (pe_join pe_str (pv 2))))))), ?_⟩
    refine ⟨_, rfl, v, t.ws, rfl, hv, wk.wds, wh, fun el H0 hel s0 e0 => ?_⟩
    have nel : H el = none := hel
    refine ⟨(by show 0 ≤ sizeLine; decide), fun fl hfl => ?_⟩
    have nfl : H fl = none := same_none s0 hfl
    have efl : el ≠ fl := ne_of_none e0 hfl
    have s1 := same_new (o := .lst []) s0 hfl
    have e1 : upd H0 fl (.lst []) el = some (.lst (enL t.ws 0)) := by rw [upd_ne efl]; exact e0
    have f1 : upd H0 fl (.lst []) fl = some (.lst []) := upd_same
    generalize upd H0 fl (.lst []) = H1 at s1 e1 f1
    refine ⟨(by show 1 ≤ sizeLine; decide), fun wl hwl => ?_⟩
    have nwl : H wl = none := same_none s1 hwl
    have fw : fl ≠ wl := ne_of_none f1 hwl
    have ew : el ≠ wl := ne_of_none e1 hwl
    obtain ⟨pa, vs, rfl, hpa, hws, _⟩ := id hv
    have fitT : t.fit 10000 := fit_of (wd_sizes hws) fun w h => h
    refine ⟨fun m σ H' => ∃ (fs : List Str) (ss : List Pg) (t3 : Option V), m = wtP ss ∧ σ = [some (.ref pa), some (.ref el), some (.ref fl), some (.ref wl), t3] ∧ PtI H H' fl wl fs ss t.ws t ∧ H' el = some (.lst (enL t.ws 0)), ⟨_, [], [.at 0 t], none, rfl, rfl, ?_, by rw [upd_ne ew]; exact e1⟩, ?_⟩
    · refine ⟨same_new s1 hwl, by rw [upd_ne fw]; exact f1, upd_same, fun s hs => ?_, by simp [outP, Pg.out], by simp [wtP, Pg.wt]⟩
      rw [List.mem_singleton] at hs
      subst hs
      exact ⟨⟨[], by rw [List.drop_zero, List.append_nil]⟩, tk⟩
    · rintro m σ H' ⟨fs, ss, t3, rfl, rfl, I, e2⟩
      refine ⟨_, rfl, _, .inl ⟨_, SqL.of I.ww, rfl⟩, ?_⟩
      rcases nil_or_snoc ss with rfl | ⟨ss', g, rfl⟩
      · refine ifF rfl ?_
        have e := I.eq
        rw [show outP [] = [] from rfl, List.append_nil] at e
        refine ⟨⟨_, rfl⟩, _, rfl, _, _, fs, rfl, rfl, .inl (SqL.of I.ff), ?_, ?_⟩
        · have := tx_len tk fitT
          have := Nat.mul_le_mul_left (6 * 10000 + 20) hl
          rw [sum_len, e, show (("" : Str).length) = 0 from by decide +kernel]
          omega
        · rw [join_mk, e]
          exact kq H' I.same
      · have ww := I.ww
        rw [List.map_append] at ww
        refine ifT (by simp) ?_
        have gk := I.each g (List.mem_append_right _ List.mem_cons_self)
        have fewS := I.few
        rw [wtP_app] at fewS
        have eq0 := I.eq
        rw [outP_app] at eq0
        have gw : wtP [g] = g.wt := by simp [wtP]
        have go : outP [g] = g.out := by simp [outP]
        rw [gw] at fewS
        rw [go] at eq0
        have lens := wtP_len ss'
        refine ⟨fun σ'' H'' => ∃ m', m' < wtP (ss' ++ [g]) ∧ ∃ (fs : List Str) (ss : List Pg) (t3 : Option V), m' = wtP ss ∧ σ'' = [some (.ref pa), some (.ref el), some (.ref fl), some (.ref wl), t3] ∧ PtI H H'' fl wl fs ss t.ws t ∧ H'' el = some (.lst (enL t.ws 0)), fun σ'' H'' z => z, ?_⟩
        rw [wtP_app, gw]
        refine ⟨_, rfl, .inl ⟨rfl, _, SqL.of ww⟩, wl, _, g.val, rfl, rfl, ww, (by simp), ?_⟩
        have dl : (List.map Pg.val ss' ++ List.map Pg.val [g]).dropLast = List.map Pg.val ss' := by simp
        rw [dl]
        generalize hG : upd H' wl (.lst (List.map Pg.val ss')) = H2
        have w2 : H2 wl = some (.lst (ss'.map Pg.val)) := by rw [← hG]; exact upd_same
        have f2 : H2 fl = some (.lst (fs.map V.str)) := by rw [← hG, upd_ne fw]; exact I.ff
        have e3 : H2 el = some (.lst (enL t.ws 0)) := by rw [← hG, upd_ne ew]; exact e2
        have s2 : Same H H2 := fun b o e => by rw [← hG, upd_ne (ne_of_none e nwl)]; exact I.same b o e
        have each' : ∀ s ∈ ss', s.ok t.ws := fun s h => I.each s (List.mem_append_left _ h)
        clear hG ww e2
        obtain ⟨tv, ty, kt⟩ := g.ty (K := K) (H := H2)
        refine ⟨_, rfl, _, _, _, _, _, rfl, .ty _, ty, kt, _, rfl, ?_⟩
        have room : (fs.map V.str).length < sizeLine := by rw [List.length_map]; exact room2 (by omega)
        have gp := pwt_pos (g := g)
        -- one piece more, on a heap that holds the rest
        have piece : ∀ (z : Str) (ss2 : List Pg) (H3 : Hp), Same H H3 → H3 wl = some (.lst (ss2.map Pg.val)) → H3 el = some (.lst (enL t.ws 0)) → H3 fl = some (.lst ((fs ++ [z]).map V.str)) → (∀ s ∈ ss2, s.ok t.ws) → tl z ++ outP ss2 = g.out ++ outP ss' → wtP ss2 + 1 ≤ wtP ss' + g.wt → ∃ m', m' < wtP ss' + g.wt ∧ ∃ (fs0 : List Str) (ss0 : List Pg) (t3 : Option V), m' = wtP ss0 ∧ [some (V.ref pa), some (.ref el), some (.ref fl), some (.ref wl), some g.val] = [some (.ref pa), some (.ref el), some (.ref fl), some (.ref wl), t3] ∧ PtI H H3 fl wl fs0 ss0 t.ws t ∧ H3 el = some (.lst (enL t.ws 0)) := fun z ss2 H3 a1 a2 a3 a4 a5 a6 a7 => by
          refine ⟨wtP ss2, by omega, fs ++ [z], ss2, _, rfl, rfl, ⟨a1, a4, a2, a5, ?_, by rw [List.length_append]; show fs.length + 1 + wtP ss2 ≤ _; omega⟩, a3⟩
          rw [List.flatMap_append, List.append_assoc]
          show fs.flatMap tl ++ ([z].flatMap tl ++ outP ss2) = _
          rw [show [z].flatMap tl = tl z from by simp, a6]
          exact eq0
        have put : ∀ z : Str, upd H2 fl (.lst (fs.map V.str ++ [.str z])) fl = some (.lst ((fs ++ [z]).map V.str)) := fun z => by rw [upd_same, List.map_append]; rfl
        have sput : ∀ z : Str, Same H (upd H2 fl (.lst (fs.map V.str ++ [.str z]))) := fun z b o q => by rw [upd_ne (ne_of_none q nfl)]; exact s2 b o q
        refine ite2 (fun c => ?_) (fun c => ?_)
        · cases g with
          | «at» p t' => cases c
          | tx l =>
            refine ⟨_, rfl, .inl ⟨rfl, _, SqL.of f2⟩, _, rfl, fl, _, _, rfl, rfl, f2, room, ?_⟩
            exact piece (mk l) ss' _ (sput _) (by rw [upd_ne fw.symm]; exact w2) (by rw [upd_ne efl]; exact e3) (put _) each' rfl (Nat.le_refl _)
        · cases g with
          | tx l => exact absurd rfl c
          | «at» p t' =>
            obtain ⟨sub, ok'⟩ := gk
            have lt := sub.lt
            have hp2 := s2 _ _ hpa
            have wsz := ws_pos t'
            obtain ⟨vp, hvp⟩ : ∃ vp, vs[p]? = some vp := ⟨_, List.getElem?_eq_getElem (by rw [hws.1]; omega)⟩
            have fewS : fs.length + (wtP ss' + 6 * t'.ws.length) ≤ 6 * t.ws.length := fewS
            have gwt : (Pg.at p t').wt = 6 * t'.ws.length := rfl
            rw [gwt] at *
            cases t' with
            | us f a =>
              obtain ⟨hw, sf, sa⟩ := sub.us
              have wd := (hws.2 _ _ _ hw hvp).same s2
              refine ⟨_, rfl, _, rfl, pa, _, _, _, rfl, rfl, SqT.of hp2, atI_nat hvp, _, wd.eqUse (by intro z; cases z), _, rfl, ?_⟩
              refine ifT (by decide +kernel) ?_
              have ef := sf.end wh ok'.1
              have lf := sf.lt
              have wf := ws_pos f
              have la := sa.lt
              have wa := ws_pos a
              have el1 : (enL t.ws 0)[p + 1]? = some (.int ((p + 1 + f.ws.length : Nat) : Int)) := by rw [enL_get (by omega) (Nat.zero_le _), ef]
              have ep : ((p : Int) + 1) = ((p + 1 : Nat) : Int) := by omega
              refine ⟨_, rfl, .inl ⟨rfl, _, SqL.of w2⟩, ?_⟩
              refine ⟨_, rfl, _, rfl, _, _, rfl, rfl, el, _, _, _, rfl, rfl, SqL.of e3, (by rw [ep]; exact atI_nat el1), _, rfl, _, _, rfl, rfl, (by show 5 ≤ sizeLine; decide), fun l2 hl2 => ?_⟩
              refine ⟨wl, l2, _, _, rfl, rfl, (same_new (same_refl H2) hl2) _ _ w2, upd_same, (by rw [List.length_map]; show ss'.length + 5 ≤ sizeLine; exact big2 (by omega)), ?_⟩
              have a3 := same_new (o := .lst [.str ")", .int ((p + 1 + f.ws.length : Nat) : Int), .str " ", .int ((p : Int) + 1), .str "("]) (same_refl H2) hl2
              have elen : (Tm.us f a).ws.length = f.ws.length + a.ws.length + 1 := by show (f.ws ++ a.ws).length + 1 = _; rw [List.length_append]
              refine ⟨wtP (ss' ++ [.tx [41], .at (p + 1 + f.ws.length) a, .tx [32], .at (p + 1) f, .tx [40]]), ?_, fs, ss' ++ [.tx [41], .at (p + 1 + f.ws.length) a, .tx [32], .at (p + 1) f, .tx [40]], _, rfl, rfl, ⟨fun b o q => by rw [upd_ne (ne_of_none q nwl)]; exact a3 _ _ (s2 b o q), by rw [upd_ne fw]; exact a3 _ _ f2, ?_, fun s hs => ?_, ?_, ?_⟩, by rw [upd_ne ew]; exact a3 _ _ e3⟩
              · rw [wtP_app]
                simp only [wtP, List.map_cons, List.map_nil, List.sum_cons, List.sum_nil, Pg.wt]
                omega
              · rw [upd_same, List.map_append]
                show some (HO.lst (ss'.map Pg.val ++ [.str ")", .int ((p + 1 + f.ws.length : Nat) : Int), .str " ", .int ((p : Int) + 1), .str "("])) = some (HO.lst (ss'.map Pg.val ++ [.str (mk [41]), .int ((p + 1 + f.ws.length : Nat) : Int), .str (mk [32]), .int ((p + 1 : Nat) : Int), .str (mk [40])]))
                rw [ep, show (")" : Str) = mk [41] from by decide +kernel, show (" " : Str) = mk [32] from by decide +kernel, show ("(" : Str) = mk [40] from by decide +kernel]
              · rcases List.mem_append.mp hs with q | q
                · exact each' s q
                · simp only [List.mem_cons, List.not_mem_nil, or_false] at q
                  rcases q with rfl | rfl | rfl | rfl | rfl
                  · trivial
                  · exact ⟨sa, ok'.2⟩
                  · trivial
                  · exact ⟨sf, ok'.1⟩
                  · trivial
              · rw [outP_app, ← eq0]
                simp [outP, Pg.out, Tm.tx]
              · rw [wtP_app]
                simp only [wtP, List.map_cons, List.map_nil, List.sum_cons, List.sum_nil, Pg.wt] at fewS ⊢
                omega
            | tk z k b =>
              obtain ⟨hw, sb⟩ := sub.tk
              have wd := (hws.2 _ _ _ hw hvp).same s2
              refine ⟨_, rfl, _, rfl, pa, _, _, _, rfl, rfl, SqT.of hp2, atI_nat hvp, _, wd.eqUse (by intro z; cases z), _, rfl, ?_⟩
              refine ifF rfl ?_
              refine ⟨_, rfl, _, rfl, pa, _, _, _, rfl, rfl, SqT.of hp2, atI_nat hvp, vp, _, rfl, wd, (by intro z; cases z), _, rfl, ?_⟩
              refine ifT rfl ?_
              obtain ⟨qa, x, y, rfl, hqa, ⟨ex, _⟩, _, hy, ysz⟩ := id wd
              subst ex
              have zl := name_len ok'.1
              rw [tl_len] at zl
              have kl := kL_len k
              have eb : ("[" : Str) ++ z ++ ":" ++ mk (kL k) ++ "] " = mk (91 :: (tl z ++ 58 :: (kL k ++ [93, 32]))) := by
                refine ext_tl ?_
                rw [tl_append, tl_append, tl_append, tl_append, show tl ("[" : Str) = [91] from by decide +kernel, show tl (":" : Str) = [58] from by decide +kernel, show tl ("] " : Str) = [93, 32] from by decide +kernel, tl_mk', tl_mk']
                simp
              have la : ∀ a b : Str, (a ++ b).length = a.length + b.length := fun a b => by
                rw [← tl_len, ← tl_len, ← tl_len, tl_append, List.length_append]
              have l1 : (("[" : Str)).length = 1 := by decide +kernel
              have l2 : ((":" : Str)).length = 1 := by decide +kernel
              have l3 : (("] " : Str)).length = 2 := by decide +kernel
              have big : ∀ n, n ≤ 70000 → n ≤ sizeLine := fun n h => big2 (by omega)
              refine ⟨_, rfl, .inl ⟨rfl, _, SqL.of f2⟩, ?_⟩
              refine ⟨_, rfl, _, rfl, pa, _, _, _, rfl, rfl, SqT.of hp2, atI_nat hvp, qa, _, _, _, rfl, rfl, SqT.of hqa, rfl, _, _, rfl, rfl, (big _ (by rw [l1]; omega)), _, _, rfl, rfl, (big _ (by rw [la, l1, l2]; omega)), ?_⟩
              refine ⟨_, rfl, _, rfl, pa, _, _, _, rfl, rfl, SqT.of hp2, atI_nat hvp, qa, _, _, _, rfl, rfl, SqT.of hqa, rfl, y, k, rfl, hy, ok'.2.1, ysz, fun H4 s4 => ?_⟩
              refine ⟨_, _, rfl, rfl, (big _ (by rw [la, la, l1, l2, mk_len]; omega)), _, _, rfl, rfl, (big _ (by rw [la, la, la, l1, l2, l3, mk_len]; omega)), ?_⟩
              rw [eb]
              refine ⟨fl, _, _, rfl, rfl, s4 _ _ f2, room, ?_⟩
              have w4 := s4 _ _ w2
              refine ⟨_, rfl, .inl ⟨rfl, _, SqL.of (by rw [upd_ne fw.symm]; exact w4)⟩, _, rfl, _, _, rfl, rfl, wl, _, _, rfl, rfl, (by rw [upd_ne fw.symm]; exact w4), (by rw [List.length_map]; exact room2 (by omega)), ?_⟩
              have ep : ((p : Int) + 1) = ((p + 1 : Nat) : Int) := by omega
              refine piece (mk (91 :: (tl z ++ 58 :: (kL k ++ [93, 32])))) (ss' ++ [.at (p + 1) b]) _ (fun c o q => ?_) ?_ ?_ ?_ (fun s hs => ?_) ?_ ?_
              · rw [upd_ne (ne_of_none q nwl), upd_ne (ne_of_none q nfl)]; exact s4 _ _ (s2 c o q)
              · rw [upd_same, List.map_append]; show some (HO.lst (_ ++ [V.int ((p : Int) + 1)])) = _; rw [ep]; rfl
              · rw [upd_ne ew, upd_ne efl]; exact s4 _ _ e3
              · rw [upd_ne fw, upd_same, List.map_append]; rfl
              · rcases List.mem_append.mp hs with q | q
                · exact each' s q
                · rw [List.mem_singleton] at q
                  subst q
                  exact ⟨sb, ok'.2.2⟩
              · rw [tl_mk', outP_app]
                show 91 :: (tl z ++ 58 :: (kL k ++ [93, 32])) ++ (outP [.at (p + 1) b] ++ outP ss') = 91 :: (tl z ++ 58 :: (kL k ++ 93 :: 32 :: b.tx)) ++ outP ss'
                rw [show outP [Pg.at (p + 1) b] = b.tx from by simp [outP, Pg.out]]
                simp
              · rw [wtP_app]
                have elen : (Tm.tk z k b).ws.length = b.ws.length + 1 := rfl
                simp only [wtP, List.map_cons, List.map_nil, List.sum_cons, List.sum_nil, Pg.wt]
                omega
            | nm z =>
              have hw := sub.nm
              have wd := (hws.2 _ _ _ hw hvp).same s2
              refine ⟨_, rfl, _, rfl, pa, _, _, _, rfl, rfl, SqT.of hp2, atI_nat hvp, _, wd.eqUse (by intro z; cases z), _, rfl, ?_⟩
              refine ifF (nm_use ok') ?_
              refine ⟨_, rfl, _, rfl, pa, _, _, _, rfl, rfl, SqT.of hp2, atI_nat hvp, vp, _, rfl, wd, (by intro z; cases z), _, rfl, ?_⟩
              refine ifF rfl ?_
              obtain ⟨rfl, _⟩ := id wd
              refine ⟨_, rfl, .inl ⟨rfl, _, SqL.of f2⟩, ?_⟩
              refine ⟨_, rfl, _, rfl, pa, _, _, _, rfl, rfl, SqT.of hp2, atI_nat hvp, fl, _, _, rfl, rfl, f2, room, ?_⟩
              exact piece z ss' _ (sput _) (by rw [upd_ne fw.symm]; exact w2) (by rw [upd_ne efl]; exact e3) (put _) each' rfl (by show wtP ss' + 1 ≤ wtP ss' + 6 * 1; omega)
end
end LG

set_option Elab.async false
set_option linter.all false
set_option maxRecDepth 100000
set_option maxHeartbeats 4100000
namespace LG
open PySem L2 TL
abbrev sRGoes : Stmt := inClass (top 37) 1
abbrev sRIsL : Stmt := inClass (top 37) 2
abbrev sRNeed : Stmt := inClass (top 37) 3
abbrev sREnd : Stmt := inClass (top 37) 4
abbrev sRLet : Stmt := inClass (top 37) 5
abbrev sRName : Stmt := inClass (top 37) 6
abbrev sRInit : Stmt := inClass (top 37) 0
structure RdT (K : PySem.W.Frag) (CR : Addr) : Prop where
  cl : Cls K CR
  nT : NoAttr K CR "_text"
  nA : NoAttr K CR "_at"
def rdF (z : Str) (n : Nat) : List (Str × V) := [(("_text" : Str), .str z), (("_at" : Str), .int (n : Int))]
theorem rdF_text {z : Str} {n : Nat} : (rdF z n).lookup ("_text" : Str) = some (.str z) := rfl
theorem rdF_at {z : Str} {n : Nat} : (rdF z n).lookup ("_at" : Str) = some (.int (n : Int)) := rfl
theorem rdF_put {z : Str} {n m : Nat} : putF "_at" (.int (m : Int)) (rdF z n) = rdF z m := by
  have h1 : ¬ (("_text" : Str) = "_at") := by decide +kernel
  simp only [putF, rdF, if_neg h1, if_true]
theorem rdF_make {z : Str} : putF "_at" (.int 0) (putF "_text" (.str z) []) = rdF z 0 := by
  have h1 : ¬ (("_text" : Str) = "_at") := by decide +kernel
  simp only [putF, rdF, if_neg h1]
  rfl
/-- a Reading with the signs that are ahead -/
def RdAt (CR : Addr) (H : Hp) (r : Addr) (l : List Nat) : Prop := ∃ dx z n, H r = some (.ins CR dx (rdF z n)) ∧ (tl z).drop n = l ∧ n ≤ (tl z).length ∧ (tl z).length ≤ 4000000
theorem RdAt.len {CR : Addr} {H : Hp} {r : Addr} {l : List Nat} (h : RdAt CR H r l) : l.length ≤ 4000000 := by
  obtain ⟨dx, z, n, _, e, _, q⟩ := h
  rw [← e, List.length_drop]; omega
theorem RdAt.same {CR : Addr} {H H' : Hp} {r : Addr} {l : List Nat} (h : RdAt CR H r l) (s : Same H H') : RdAt CR H' r l := by
  obtain ⟨dx, z, n, a, q⟩ := h
  exact ⟨dx, z, n, s _ _ a, q⟩
theorem big4 {n : Nat} (h : n ≤ 5000000) : n ≤ sizeLine := Nat.le_trans h (by decide)
theorem drop_at {l : List Nat} {n c : Nat} {r : List Nat} (h : l.drop n = c :: r) : l[n]? = some c ∧ l.drop (n + 1) = r ∧ n < l.length := by
  have lt : n < l.length := by
    rcases Nat.lt_or_ge n l.length with q | q
    · exact q
    · rw [List.drop_eq_nil_of_le q] at h; cases h
  rw [List.drop_eq_getElem_cons lt] at h
  injection h with h1 h2
  exact ⟨by rw [List.getElem?_eq_getElem lt, h1], h2, lt⟩
theorem drop_nil {l : List Nat} {n : Nat} (h : l.drop n = []) (k : n ≤ l.length) : n = l.length := by
  (have := congrArg List.length h)
  rw [List.length_drop, List.length_nil] at this
  omega
/-- one sign on -/
theorem RdAt.step {CR : Addr} {H : Hp} {r dx : Addr} {z : Str} {n c : Nat} {l : List Nat} (h : H r = some (.ins CR dx (rdF z n))) (e : (tl z).drop n = c :: l) (k : (tl z).length ≤ 4000000) :
    RdAt CR (upd H r (.ins CR dx (putF "_at" (.int ((n : Int) + 1)) (rdF z n)))) r l := by
  obtain ⟨_, e2, lt⟩ := drop_at e
  refine ⟨dx, z, n + 1, ?_, e2, lt, k⟩
  rw [upd_same, show ((n : Int) + 1) = ((n + 1 : Nat) : Int) by omega, rdF_put]
theorem del_updR {H : Hp} {r : Addr} {o : HO} : Same (del H r) (del (upd H r o) r) := del_off fun b h => upd_ne h
theorem ip_addS {X : Cx} : PIp X .Add rAddS := fun pins s σ H x y v u Q I rx ry h => iop_add_str pins s σ H x y v u Q I rx ry h
def isLt : List Nat → Bool
  | c :: _ => decide (c ∈ letters.cps.toList)
  | [] => false
def spRGoes (K : PySem.W.Frag) (CR : Addr) : Sp := fun vs H Q _ => ∃ (r : Addr) (l : List Nat) (c : Nat) (y : Str), vs = [.ref r, .str y] ∧ tl y = [c] ∧ RdAt CR H r l ∧ Q (.bl (decide (l.head? = some c))) H
def spRIsL (K : PySem.W.Frag) (CR : Addr) : Sp := fun vs H Q _ => ∃ (r : Addr) (l : List Nat), vs = [.ref r] ∧ RdAt CR H r l ∧ Q (.bl (isLt l)) H
def spRNeed (K : PySem.W.Frag) (CR : Addr) : Sp := fun vs H Q _ => ∃ (r : Addr) (a l : List Nat) (y : Str), vs = [.ref r, .str y] ∧ tl y = a ∧ RdAt CR H r (a ++ l) ∧ ∀ H', RdAt CR H' r l → Same (del H r) (del H' r) → Q .non H'
def spREnd (K : PySem.W.Frag) (CR : Addr) : Sp := fun vs H Q _ => ∃ (r : Addr), vs = [.ref r] ∧ RdAt CR H r [] ∧ Q .non H
def spRLet (K : PySem.W.Frag) (CR : Addr) : Sp := fun vs H Q _ => ∃ (r : Addr) (c : Nat) (l : List Nat), vs = [.ref r] ∧ RdAt CR H r (c :: l) ∧ c ∈ letters.cps.toList ∧ ∀ H', RdAt CR H' r l → Same (del H r) (del H' r) → Q (.str (mk [c])) H'
def spRName (K : PySem.W.Frag) (CR : Addr) : Sp := fun vs H Q _ => ∃ (r : Addr) (z : Str) (l : List Nat), vs = [.ref r] ∧ RdAt CR H r (tl z ++ l) ∧ nameB z = true ∧ stopN l ∧ ∀ H', RdAt CR H' r l → Same (del H r) (del H' r) → Q (.str z) H'
def spRInit (K : PySem.W.Frag) (CR : Addr) : Sp := fun vs H Q _ => ∃ (x dx : Addr) (z : Str), vs = [.ref x, .str z] ∧ H x = some (.ins CR dx []) ∧ (tl z).length ≤ 4000000 ∧ ∀ H', RdAt CR H' x (tl z) → Same (del H x) (del H' x) → Q .non H'
theorem sign_eq {c d : Nat} : decide (V.str (⟨#[c]⟩ : Str) = V.str (mk [d])) = decide (some c = some d) := by
  rw [decide_eq_decide]
  constructor
  · intro h
    have h : (⟨#[c]⟩ : Str) = mk [d] := V.str.inj h
    have h : [c] = [d] := congrArg tl h
    rw [(List.cons.inj h).1]
  · intro h
    rw [Option.some.inj h]; rfl
section
variable {P : Program} {w : World} {K : PySem.W.Frag} {mg : Str → Option Value} {base : Heap} {CR : Addr}
theorem scRGoes : FnScope ["self", "sign"] ["self", "sign"] (defScope sRGoes) := ⟨rfl, rfl, rfl, by decide +kernel, rfl, by decide +kernel, by decide +kernel⟩
theorem ok_rgoes {f : Addr} {fd : FuncData} (F : Fun K "_goes_on" "Reading._goes_on" sRGoes f fd) (T : TxB mg) (R : RdT K CR) : FnOk P w K mg base CX0 1 f fd ["self", "sign"] (spRGoes K CR) := by
  refine F.ok scRGoes (fun vs H Q E h => ?_) (fun cdv A outer s H vs Q E hr h => ?_)
  · obtain ⟨_, _, _, _, rfl, _⟩ := h
    rfl
  · obtain ⟨r, l, c, y, rfl, ey, ⟨dx, z, n, hA, e, hn, hz⟩, kq⟩ := h
    obtain rfl : y = mk [c] := ext_tl ey
    refine ⟨_, pss_one (ps_ret (pe_and (pe_cmpR op_lt (pe_fld (pv 0) rfl) (pe_callB call_len_str (by rfl) T.len PySem.boot_len (pa_cons (pe_fld (pv 0) rfl) pa_nil)) (nomark _)) (pe_one (pe_cmpR op_eq (pe_ix ix_str (pe_fld (pv 0) rfl) (pe_fld (pv 0) rfl) (fun _ _ => rfl)) (pv 1) (nomark _))))), ?_⟩
    have zl : (tl z).length = z.length := tl_len
    refine ⟨_, rfl, r, CR, dx, _, _, rfl, hA, R.cl, R.nA, rdF_at, _, rfl, r, CR, dx, _, _, rfl, hA, R.cl, R.nT, rdF_text, _, rfl, big4 (by omega), _, _, rfl, rfl, _, rfl, ?_⟩
    cases l with
    | nil =>
      have := drop_nil e hn
      refine ifF (decide_eq_false (by omega)) ?_
      have q : decide (([] : List Nat).head? = some c) = false := rfl
      rw [q] at kq
      exact kq
    | cons d l =>
      obtain ⟨h1, _, lt⟩ := drop_at e
      refine ifT (decide_eq_true (by omega)) ?_
      refine ⟨_, rfl, r, CR, dx, _, _, rfl, hA, R.cl, R.nT, rdF_text, _, rfl, r, CR, dx, _, _, rfl, hA, R.cl, R.nA, rdF_at, z, _, d, rfl, rfl, big4 (by omega), atI_nat h1, _, rfl, rfl, ?_⟩
      rw [sign_eq]
      exact kq
theorem scRIsL : FnScope ["self"] ["self"] (defScope sRIsL) := ⟨rfl, rfl, rfl, by decide +kernel, rfl, by decide +kernel, by decide +kernel⟩
theorem ok_risl {f : Addr} {fd : FuncData} (F : Fun K "_is_letter" "Reading._is_letter" sRIsL f fd) (T : TxB mg) (TN : TxN mg) (R : RdT K CR) : FnOk P w K mg base CX0 1 f fd ["self"] (spRIsL K CR) := by
  obtain ⟨uL, hL⟩ := TN.let_
  refine F.ok scRIsL (fun vs H Q E h => ?_) (fun cdv A outer s H vs Q E hr h => ?_)
  · obtain ⟨_, _, rfl, _⟩ := h
    rfl
  · obtain ⟨r, l, rfl, ⟨dx, z, n, hA, e, hn, hz⟩, kq⟩ := h
    refine ⟨_, pss_one (ps_ret (pe_and (pe_cmpR op_lt (pe_fld (pv 0) rfl) (pe_callB call_len_str (by rfl) T.len PySem.boot_len (pa_cons (pe_fld (pv 0) rfl) pa_nil)) (nomark _)) (pe_one (pe_cmpR op_in_sign (pe_ix ix_str (pe_fld (pv 0) rfl) (pe_fld (pv 0) rfl) (fun _ _ => rfl)) (pe_glob (v := .str letters) (by rfl) hL ⟨_, rfl⟩) (by rfl))))), ?_⟩
    have zl : (tl z).length = z.length := tl_len
    refine ⟨_, rfl, r, CR, dx, _, _, rfl, hA, R.cl, R.nA, rdF_at, _, rfl, r, CR, dx, _, _, rfl, hA, R.cl, R.nT, rdF_text, _, rfl, big4 (by omega), _, _, rfl, rfl, _, rfl, ?_⟩
    cases l with
    | nil =>
      have := drop_nil e hn
      refine ifF (decide_eq_false (by omega)) ?_
      exact kq
    | cons d l =>
      obtain ⟨h1, _, lt⟩ := drop_at e
      refine ifT (decide_eq_true (by omega)) ?_
      exact ⟨_, rfl, r, CR, dx, _, _, rfl, hA, R.cl, R.nT, rdF_text, _, rfl, r, CR, dx, _, _, rfl, hA, R.cl, R.nA, rdF_at, z, _, d, rfl, rfl, big4 (by omega), atI_nat h1, d, letters, rfl, rfl, kq⟩
theorem scREnd : FnScope ["self"] ["self"] (defScope sREnd) := ⟨rfl, rfl, rfl, by decide +kernel, rfl, by decide +kernel, by decide +kernel⟩
theorem ok_rend {f : Addr} {fd : FuncData} (F : Fun K "need_end" "Reading.need_end" sREnd f fd) (T : TxB mg) (R : RdT K CR) : FnOk P w K mg base CX0 1 f fd ["self"] (spREnd K CR) := by
  refine F.ok scREnd (fun vs H Q E h => ?_) (fun cdv A outer s H vs Q E hr h => ?_)
  · obtain ⟨_, rfl, _⟩ := h
    rfl
  · obtain ⟨r, rfl, ⟨dx, z, n, hA, e, hn, hz⟩, kq⟩ := h
    refine ⟨_, pss_one (ps_if (pt_cmpR op_lt (pe_fld (pv 0) rfl) (pe_callB call_len_str (by rfl) T.len PySem.boot_len (pa_cons (pe_fld (pv 0) rfl) pa_nil)) (nomark _))
        pss_never
        pss_nil), ?_⟩
    have zl : (tl z).length = z.length := tl_len
    have := drop_nil e hn
    refine ⟨_, rfl, r, CR, dx, _, _, rfl, hA, R.cl, R.nA, rdF_at, _, rfl, r, CR, dx, _, _, rfl, hA, R.cl, R.nT, rdF_text, _, rfl, big4 (by omega), _, _, rfl, rfl, _, rfl, ?_⟩
    refine ifF (decide_eq_false (by omega)) ?_
    exact kq
theorem scRLet : FnScope ["self"] ["self"] (defScope sRLet) := ⟨rfl, rfl, rfl, by decide +kernel, rfl, by decide +kernel, by decide +kernel⟩
theorem ok_rlet {f fL : Addr} {fd fdL : FuncData} (F : Fun K "_letter" "Reading._letter" sRLet f fd) (FL : Fun K "_is_letter" "Reading._is_letter" sRIsL fL fdL) (bL : Binds K fdL ["self"] []) (mL : Meth K CR "_is_letter" fL) (T : TxB mg) (TN : TxN mg) (R : RdT K CR) : FnOk P w K mg base CX0 2 f fd ["self"] (spRLet K CR) := by
  have GL : FnOk P w K mg base CX0 1 fL fdL ["self"] (spRIsL K CR) := ok_risl FL T TN R
  refine F.ok scRLet (fun vs H Q E h => ?_) (fun cdv A outer s H vs Q E hr h => ?_)
  · obtain ⟨_, _, _, rfl, _⟩ := h
    rfl
  · obtain ⟨r, c, l, rfl, hR, hc, kq⟩ := h
    obtain ⟨dx, z, n, hA, e, hn, hz⟩ := id hR
    refine ⟨_, pss_cons (ps_if (pt_not (pt_val (pe_meth0 (pv 0) R.cl mL GL hr bL .nil pass0)))
        pss_never
        pss_nil)
    (pss_cons (ps_fldaug (pv 0) pe_int in_add)
    (pss_one (ps_ret (pe_ix ix_str (pe_fld (pv 0) rfl) (pe_op op_sub (pe_fld (pv 0) rfl) pe_int) (fun _ _ => rfl))))), ?_⟩
    have zl : (tl z).length = z.length := tl_len
    obtain ⟨h1, h2, lt⟩ := drop_at e
    refine ⟨_, rfl, r, dx, _, rfl, hA, rfl, r, c :: l, rfl, hR, _, rfl, ?_⟩
    have ct : isLt (c :: l) = true := decide_eq_true hc
    rw [ct]
    refine ifF rfl ?_
    refine ⟨_, rfl, r, CR, dx, _, _, rfl, hA, R.cl, R.nA, rdF_at, _, _, rfl, rfl, dx, _, hA, (by show 2 < 1000; decide), ?_⟩
    have R2 := RdAt.step (CR := CR) hA e hz
    have s2 : Same (del H r) (del (upd H r (.ins CR dx (putF "_at" (.int ((n : Int) + 1)) (rdF z n)))) r) := del_updR
    have h3 : upd H r (.ins CR dx (putF "_at" (.int ((n : Int) + 1)) (rdF z n))) r = some (.ins CR dx (rdF z (n + 1))) := by
      rw [upd_same, show ((n : Int) + 1) = ((n + 1 : Nat) : Int) by omega, rdF_put]
    generalize upd H r (.ins CR dx (putF "_at" (.int ((n : Int) + 1)) (rdF z n))) = H2 at R2 s2 h3
    refine ⟨_, rfl, r, CR, dx, _, _, rfl, h3, R.cl, R.nT, rdF_text, _, rfl, r, CR, dx, _, _, rfl, h3, R.cl, R.nA, rdF_at, _, _, rfl, rfl, z, _, c, rfl, rfl, big4 (by omega), ?_, kq H2 R2 s2⟩
    have ei : (((n + 1 : Nat) : Int) - 1) = ((n : Nat) : Int) := by omega
    rw [ei]
    exact atI_nat h1
theorem scRNeed : FnScope ["self", "signs", "sign"] ["self", "signs"] (defScope sRNeed) := ⟨rfl, rfl, rfl, by decide +kernel, rfl, by decide +kernel, by decide +kernel⟩
theorem ok_rneed {f fG : Addr} {fd fdG : FuncData} (F : Fun K "_need" "Reading._need" sRNeed f fd) (FG : Fun K "_goes_on" "Reading._goes_on" sRGoes fG fdG) (bG : Binds K fdG ["self", "sign"] []) (mG : Meth K CR "_goes_on" fG) (T : TxB mg) (R : RdT K CR) : FnOk P w K mg base CX0 2 f fd ["self", "signs"] (spRNeed K CR) := by
  have GG : FnOk P w K mg base CX0 1 fG fdG ["self", "sign"] (spRGoes K CR) := ok_rgoes FG T R
  refine F.ok scRNeed (fun vs H Q E h => ?_) (fun cdv A outer s H vs Q E hr h => ?_)
  · obtain ⟨_, _, _, _, rfl, _⟩ := h
    rfl
  · obtain ⟨r, a, l, y, rfl, ey, hR, kq⟩ := h
    obtain rfl : y = mk a := ext_tl ey
    have nd := scRNeed.nd
    refine ⟨_, pss_one (ps_for PassesOwn.never rfl (pi_str (pv 1)) (pg_name (i := 2) nd rfl (Or.inl rfl))
        (pss_cons (ps_if (pt_not (pt_val (pe_meth (pv 0) R.cl mG GG hr bG .nil pass0 (pa_cons (pv 2) pa_nil))))
            pss_never
            pss_nil)
        (pss_one (ps_fldaug (pv 0) pe_int in_add)))), ?_⟩
    refine ⟨_, rfl, _, rfl, ?_⟩
    refine for_it (walk_str (z := mk a)) (fun i σ H' => ∃ t2, σ = [some (.ref r), some (.str (mk a)), t2] ∧ RdAt CR H' r (a.drop i ++ l) ∧ Same (del H r) (del H' r)) ⟨none, rfl, hR, same_refl _⟩ (fun _ _ _ _ _ => trivial) ?_ ?_
    · rintro i y σ Hq H' hi ⟨t2, rfl, h1, h2⟩ ⟨rfl, c, hc, rfl⟩
      have hc' : a[i]? = some c := by
        have := hc
        simpa [mk] using this
      have lt : i < a.length := by
        rcases Nat.lt_or_ge i a.length with q | q
        · exact q
        · rw [List.getElem?_eq_none q] at hc'; cases hc'
      have ed : a.drop i = c :: a.drop (i + 1) := by
        rw [List.drop_eq_getElem_cons lt]
        rw [List.getElem?_eq_getElem lt] at hc'
        rw [Option.some.inj hc']
      rw [ed] at h1
      obtain ⟨dx, z, n, hA, e, hn, hz⟩ := id h1
      refine ⟨_, rfl, r, dx, _, rfl, hA, rfl, _, rfl, r, _, c, _, rfl, rfl, h1, _, rfl, ?_⟩
      refine ifF (by simp) ?_
      refine ⟨_, rfl, r, CR, dx, _, _, rfl, hA, R.cl, R.nA, rdF_at, _, _, rfl, rfl, dx, _, hA, (by show 2 < 1000; decide), ?_⟩
      exact ⟨_, rfl, RdAt.step hA e hz, same_trans h2 del_updR⟩
    · rintro σ H' ⟨t2, rfl, h1, h2⟩
      have el : (mk a).cps.size = a.length := by simp [mk]
      rw [el, List.drop_length] at h1
      exact kq H' h1 h2
theorem scRName : FnScope ["self", "name"] ["self"] (defScope sRName) := ⟨rfl, rfl, rfl, by decide +kernel, rfl, by decide +kernel, by decide +kernel⟩
theorem ok_rname {f fL fI : Addr} {fd fdL fdI : FuncData} (F : Fun K "_name" "Reading._name" sRName f fd) (FL : Fun K "_letter" "Reading._letter" sRLet fL fdL) (bL : Binds K fdL ["self"] []) (mL : Meth K CR "_letter" fL) (FI : Fun K "_is_letter" "Reading._is_letter" sRIsL fI fdI) (bI : Binds K fdI ["self"] []) (mI : Meth K CR "_is_letter" fI)
    (T : TxB mg) (TN : TxN mg) (R : RdT K CR) : FnOk P w K mg base CX0 3 f fd ["self"] (spRName K CR) := by
  have GI : FnOk P w K mg base CX0 1 fI fdI ["self"] (spRIsL K CR) := ok_risl FI T TN R
  have GL : FnOk P w K mg base CX0 2 fL fdL ["self"] (spRLet K CR) := ok_rlet FL FI bI mI T TN R
  obtain ⟨u8, h8⟩ := TN.long
  refine F.ok scRName (fun vs H Q E h => ?_) (fun cdv A outer s H vs Q E hr h => ?_)
  · obtain ⟨_, _, _, rfl, _⟩ := h
    rfl
  · obtain ⟨r, z, l, rfl, hR, hz, hs, kq⟩ := h
    have nd := scRName.nd
    have hr1 := hr.mono (show 1 ≤ 2 by decide)
    refine ⟨_, pss_cons (ps_set (i := 1) nd rfl (Or.inl rfl) (pe_meth0 (pv 0) R.cl mL GL hr bL .nil pass0))
    (pss_cons (ps_while PassesOwn.never (PW.pt (pw_and (pt_val (pe_meth0 (pv 0) R.cl mI GI hr1 bI .nil pass0)) (pw_and1 (pt_cmpR op_lt (pe_callB call_len_str (by rfl) T.len PySem.boot_len (pa_cons (pv 1) pa_nil)) (pe_glob (v := .int 8) (by rfl) h8 ⟨_, rfl⟩) (nomark _)))))
        (pss_one (ps_aug (i := 1) nd rfl (Or.inl rfl) (pe_meth0 (pv 0) R.cl mL GL hr bL .nil pass0) ip_addS)))
    (pss_one (ps_ret (pv 1)))), ?_⟩
    obtain ⟨zl1, zl8⟩ := name_len hz
    have zs := name_signs hz
    obtain ⟨c, z', ez⟩ : ∃ c z', tl z = c :: z' := by
      cases e : tl z with
      | nil => rw [e] at zl1; exact absurd zl1 (by simp)
      | cons c z' => exact ⟨c, z', rfl⟩
    rw [ez] at hR zl8 zs
    obtain ⟨dx, z0, n, hA, _⟩ := id hR
    refine ⟨_, rfl, r, dx, _, rfl, hA, rfl, r, c, z' ++ l, rfl, hR, zs c List.mem_cons_self, fun H1 R1 s1 => ?_⟩
    refine ⟨fun m σ H' => ∃ i, m = z'.length - i ∧ i ≤ z'.length ∧ σ = [some (.ref r), some (.str (mk (c :: z'.take i)))] ∧ RdAt CR H' r (z'.drop i ++ l) ∧ Same (del H r) (del H' r), ⟨_, 0, rfl, Nat.zero_le _, rfl, R1, s1⟩, ?_⟩
    rintro m σ H' ⟨i, rfl, hi, rfl, R2, s2⟩
    have zn : z'.length ≤ 7 := by rw [List.length_cons] at zl8; omega
    obtain ⟨dx2, z2, n2, hA2, _⟩ := id R2
    refine ⟨_, rfl, r, dx2, _, rfl, hA2, rfl, r, _, rfl, R2, _, rfl, ?_⟩
    have tkl : (mk (c :: z'.take i)).length = i + 1 := by rw [mk_len, List.length_cons, List.length_take]; omega
    rcases Nat.lt_or_ge i z'.length with lt | ge
    · have ed : z'.drop i = z'[i] :: z'.drop (i + 1) := List.drop_eq_getElem_cons lt
      have cin := zs z'[i] (List.mem_cons_of_mem _ (List.getElem_mem lt))
      rw [ed] at R2 ⊢
      refine ifT (by show decide (z'[i] ∈ letters.cps.toList) = true; exact decide_eq_true cin) ?_
      refine ⟨_, rfl, _, rfl, big4 (by rw [tkl]; omega), _, _, rfl, rfl, _, rfl, ?_⟩
      rw [tkl]
      refine ifT (decide_eq_true (by omega)) ?_
      refine ⟨fun σ'' H'' => ∃ m', m' < z'.length - i ∧ ∃ i', m' = z'.length - i' ∧ i' ≤ z'.length ∧ σ'' = [some (.ref r), some (.str (mk (c :: z'.take i')))] ∧ RdAt CR H'' r (z'.drop i' ++ l) ∧ Same (del H r) (del H'' r), fun σ'' H'' z => z, ?_⟩
      refine ⟨_, rfl, _, rfl, r, dx2, _, rfl, hA2, rfl, r, z'[i], z'.drop (i + 1) ++ l, rfl, R2, cin, fun H3 R3 s3 => ?_⟩
      refine ⟨_, _, rfl, rfl, big4 (by rw [tkl, mk_len, List.length_singleton]; omega), _, by omega, i + 1, rfl, lt, ?_, R3, same_trans s2 s3⟩
      rw [mk_app, List.take_add_one, List.getElem?_eq_getElem lt]; rfl
    · have ei : i = z'.length := by omega
      have ed : z'.drop i = [] := List.drop_eq_nil_of_le ge
      rw [ed, List.nil_append] at R2 ⊢
      refine ifF ?_ ?_
      · cases l with
        | nil => rfl
        | cons d l => exact decide_eq_false hs
      · have et : mk (c :: z'.take i) = z := by
          rw [ei, List.take_length, ← ez, mk_tl]
        rw [et]
        exact ⟨_, rfl, kq H' R2 s2⟩
end
end LG

set_option Elab.async false
set_option linter.all false
set_option maxRecDepth 100000
set_option maxHeartbeats 4100000
namespace LG
open PySem L2 TL
abbrev sRKind : Stmt := inClass (top 37) 7
/-! ### reading a kind: mathematics -/
/-- a kind with these lefts ahead of another one -/
def bld (L : List Th) (t : Th) : Th := L.foldr Th.pr t
theorem bld_snoc {L : List Th} {a t : Th} : bld (L ++ [a]) t = bld L (.pr a t) := by
  unfold bld
  rw [List.foldr_append]; rfl
/-- what is read, the innermost first: lefts so far, and what is ahead -/
abbrev Frm : Type := List Th × Th
def tailS : List Frm → List Nat
  | [] => []
  | f :: fs => 41 :: 32 :: 62 :: 32 :: (kL f.2 ++ tailS fs)
def valK : List Th → Th → List Frm → Th
  | L, t, [] => bld L t
  | L, t, f :: fs => valK (f.1 ++ [bld L t]) f.2 fs
def noBl (l : List Nat) : Prop := l.head? ≠ some 32
theorem valK_open {L : List Th} {l r : Th} {fs : List Frm} : valK [] l ((L, r) :: fs) = valK L (.pr l r) fs := by
  show valK (L ++ [bld [] l]) r fs = _
  cases fs with
  | nil => exact bld_snoc
  | cons f fs =>
    show valK (f.1 ++ [bld (L ++ [bld [] l]) r]) f.2 fs = valK (f.1 ++ [bld L (.pr l r)]) f.2 fs
    rw [bld_snoc]; rfl
theorem valK_left {L : List Th} {a r : Th} {fs : List Frm} : valK (L ++ [a]) r fs = valK L (.pr a r) fs := by
  cases fs with
  | nil => exact bld_snoc
  | cons f fs =>
    show valK (f.1 ++ [bld (L ++ [a]) r]) f.2 fs = valK (f.1 ++ [bld L (.pr a r)]) f.2 fs
    rw [bld_snoc]
theorem valK_close {L : List Th} {t : Th} {f : Frm} {fs : List Frm} : valK L t (f :: fs) = valK (f.1 ++ [bld L t]) f.2 fs := rfl
/-- the tuples of a heap alone -/
def tups (H : Hp) : Hp := fun b => match H b with
  | some (.tup xs) => some (.tup xs)
  | _ => none
theorem tups_of {H : Hp} {b : Addr} {xs : List V} (h : H b = some (.tup xs)) : tups H b = some (.tup xs) := by unfold tups; rw [h]
theorem tups_some {H : Hp} {b : Addr} {o : HO} (h : tups H b = some o) : ∃ xs, H b = some (.tup xs) ∧ o = .tup xs := by
  unfold tups at h
  cases e : H b with
  | none => (rw [e] at h; cases h)
  | some q =>
    rw [e] at h
    cases q <;> first | (injection h with h; exact ⟨_, rfl, h.symm⟩) | cases h
theorem tups_le {H : Hp} : Same (tups H) H := fun b o h => by
  obtain ⟨xs, e, rfl⟩ := tups_some h
  exact e
theorem tups_mono {H H' : Hp} (s : Same H H') : Same (tups H) (tups H') := fun b o h => by
  obtain ⟨xs, e, rfl⟩ := tups_some h
  exact tups_of (s _ _ e)
/-- what is no tuple may be written -/
theorem tups_upd {H : Hp} {a : Addr} {o : HO} (h : ∀ xs, H a ≠ some (.tup xs)) : Same (tups H) (tups (upd H a o)) := fun b u e => by
  obtain ⟨xs, e1, rfl⟩ := tups_some e
  have n : b ≠ a := by rintro rfl; exact h xs e1
  exact tups_of (by rw [upd_ne n]; exact e1)
theorem tups_del {H H' : Hp} {r : Addr} (s : Same (del H r) (del H' r)) (h : ∀ xs, H r ≠ some (.tup xs)) : Same (tups H) (tups H') := fun b u e => by
  obtain ⟨xs, e1, rfl⟩ := tups_some e
  have n : b ≠ r := by rintro rfl; exact h xs e1
  have := s b (.tup xs) (by rw [del_ne n]; exact e1)
  rw [del_ne n] at this
  exact tups_of this
theorem th_tups {K : PySem.W.Frag} {H : Hp} : ∀ {t : Th} {v : V}, t.any = true → ThAt K H t v → ThAt K (tups H) t v
  | .int i, v, _, h => h
  | .pr l r, v, a, h => by
    obtain ⟨p, x, y, e, hp, h1, h2⟩ := h
    obtain ⟨a1, a2⟩ := any_pr a
    exact ⟨p, x, y, e, tups_of hp, th_tups a1 h1, th_tups a2 h2⟩
  | .bl b, v, a, _ => by cases a
  | .non, v, a, _ => by cases a
  | .tup, v, a, _ => by cases a
theorem bld_any {L : List Th} {t : Th} (h : ∀ a ∈ L, a.any = true) (g : t.any = true) : (bld L t).any = true := by
  induction L with
  | nil => exact g
  | cons a L ih =>
    show (a.any && (bld L t).any) = true
    rw [h a List.mem_cons_self, ih fun b hb => h b (List.mem_cons_of_mem _ hb)]; rfl
/-- a frame's list, at an address -/
structure FrA where
  a : Addr
  L : List (Th × V)
  t : Th
def FrA.frm (f : FrA) : Frm := (f.L.map (·.1), f.t)
def FrOk (K : PySem.W.Frag) (H0 H : Hp) (g : FrA) : Prop := H0 g.a = none ∧ H g.a = some (.lst (g.L.map (·.2))) ∧ (∀ p ∈ g.L, ThAt K (tups H) p.1 p.2 ∧ p.1.any = true) ∧ g.t.any = true
/-- between two turns of kind: the frames, the innermost first -/
structure RkI (K : PySem.W.Frag) (CR : Addr) (H0 H : Hp) (r ar : Addr) (f : FrA) (fs : List FrA) (T : Th) (rest : List Nat) : Prop where
  same : Same (del H0 r) (del H r)
  rd : RdAt CR H r (kL f.t ++ (tailS (fs.map FrA.frm) ++ rest))
  arnew : H0 ar = none
  aro : H ar = some (.lst ((f :: fs).reverse.map fun g => V.ref g.a))
  each : ∀ g ∈ f :: fs, FrOk K H0 H g
  apart : (ar :: (f :: fs).map FrA.a).Nodup
  val : valK (f.L.map (·.1)) f.t (fs.map FrA.frm) = T
  pair : fs ≠ [] → f.L ≠ [] ∨ f.t.isPr = true
  few : ∀ g ∈ f :: fs, g.L.length + (kL f.t ++ (tailS (fs.map FrA.frm) ++ rest)).length ≤ 4000000
theorem idx_at {i : Nat} (h : i ≤ 25) : ∃ q, Builtin.Str.occurrences letters (mk [97 + i]) 0 letters.length 1 = i :: q := by
  have : ∀ j < 26, (Builtin.Str.occurrences letters (mk [97 + j]) 0 letters.length 1).head? = some j := by decide +kernel
  have := this i (by omega)
  cases e : Builtin.Str.occurrences letters (mk [97 + i]) 0 letters.length 1 with
  | nil => rw [e] at this; cases this
  | cons a q => rw [e] at this; cases this; exact ⟨q, rfl⟩
theorem tailS_len : ∀ {fs : List Frm}, 4 * fs.length ≤ (tailS fs).length
  | [] => Nat.le_refl _
  | f :: fs => by
    have := tailS_len (fs := fs)
    show 4 * (fs.length + 1) ≤ (41 :: 32 :: 62 :: 32 :: (kL f.2 ++ tailS fs)).length
    simp only [List.length_cons, List.length_append]
    omega
/-- the methods of Reading that stand in the written part -/
structure RdF (K : PySem.W.Frag) (mg : Str → Option Value) (CR f0 fG fI fN fE fL fM fK fP fT : Addr) (fd0 fdG fdI fdN fdE fdL fdM fdK fdP fdT : FuncData) (sK sP sT : Stmt) : Prop where
  R : RdT K CR
  Mm : Mk K CR f0
  m : mg "Reading" = some (.ref CR)
  F0 : Fun K "__init__" "Reading.__init__" sRInit f0 fd0
  b0 : Binds K fd0 ["self", "text"] []
  FG : Fun K "_goes_on" "Reading._goes_on" sRGoes fG fdG
  bG : Binds K fdG ["self", "sign"] []
  mG : Meth K CR "_goes_on" fG
  FI : Fun K "_is_letter" "Reading._is_letter" sRIsL fI fdI
  bI : Binds K fdI ["self"] []
  mI : Meth K CR "_is_letter" fI
  FN : Fun K "_need" "Reading._need" sRNeed fN fdN
  bN : Binds K fdN ["self", "signs"] []
  mN : Meth K CR "_need" fN
  FE : Fun K "need_end" "Reading.need_end" sREnd fE fdE
  bE : Binds K fdE ["self"] []
  mE : Meth K CR "need_end" fE
  FL : Fun K "_letter" "Reading._letter" sRLet fL fdL
  bL : Binds K fdL ["self"] []
  mL : Meth K CR "_letter" fL
  FM : Fun K "_name" "Reading._name" sRName fM fdM
  bM : Binds K fdM ["self"] []
  mM : Meth K CR "_name" fM
  FK : Fun K "kind" "Reading.kind" sK fK fdK
  bK : Binds K fdK ["self"] []
  mK : Meth K CR "kind" fK
  FP : Fun K "program" "Reading.program" sP fP fdP
  bP : Binds K fdP ["self"] []
  mP : Meth K CR "program" fP
  FT : Fun K "_take" "Reading._take" sT fT fdT
  bT : Binds K fdT ["self"] []
  mT : Meth K CR "_take" fT
theorem RdAt.ins {CR : Addr} {H : Hp} {r : Addr} {l : List Nat} (h : RdAt CR H r l) : ∀ xs, H r ≠ some (.tup xs) := by
  obtain ⟨dx, z, n, e, _⟩ := h
  intro xs q
  rw [e] at q; cases q
/-- what is no Reading stays while one reads on -/
theorem keepR {CR : Addr} {H H' : Hp} {r b : Addr} {l : List Nat} {xs : List V} (h : RdAt CR H r l) (s : Same (del H r) (del H' r)) (e : H b = some (.lst xs)) : H' b = some (.lst xs) := by
  have n : b ≠ r := by
    rintro rfl
    obtain ⟨dx, z, k, q, _⟩ := h
    rw [e] at q; cases q
  have := s b _ (by rw [del_ne n]; exact e)
  rwa [del_ne n] at this
theorem RdAt.put {CR : Addr} {H : Hp} {r b : Addr} {l : List Nat} {xs : List V} {o : HO} (h : RdAt CR H r l) (e : H b = some (.lst xs)) : RdAt CR (upd H b o) r l := by
  obtain ⟨dx, z, n, q, r1⟩ := h
  have ne : r ≠ b := by rintro rfl; rw [e] at q; cases q
  exact ⟨dx, z, n, by rw [upd_ne ne]; exact q, r1⟩
def spRKind (K : PySem.W.Frag) (CR : Addr) : Sp := fun vs H Q _ => ∃ (r : Addr) (t : Th) (rest : List Nat), vs = [.ref r] ∧ RdAt CR H r (kL t ++ rest) ∧ t.any = true ∧ noBl rest ∧ ∀ v H', RdAt CR H' r rest → Same (del H r) (del H' r) → ThAt K (tups H') t v → Q v H'
/-- what is new behind was new ahead -/
theorem newR {CR : Addr} {H H2 : Hp} {r a : Addr} {l : List Nat} (R : RdAt CR H2 r l) (s : Same (del H r) (del H2 r)) (h : H2 a = none) : H a = none := by
  obtain ⟨dx, z, n, q, _⟩ := R
  have ne : a ≠ r := by rintro rfl; rw [h] at q; cases q
  cases e : H a with
  | none => rfl
  | some o =>
    have := s a o (by rw [del_ne ne]; exact e)
    rw [del_ne ne, h] at this; cases this
theorem sameU {G H : Hp} {r a : Addr} {o : HO} (s : Same G (del H r)) (h : G a = none) : Same G (del (upd H a o) r) := fun b u e => by
  have ne : b ≠ a := by rintro rfl; rw [h] at e; cases e
  have q := s b u e
  by_cases hb : b = r
  · rw [hb, del_same] at q; cases q
  · rw [del_ne hb] at q ⊢; rw [upd_ne ne]; exact q
theorem del_none {H : Hp} {r a : Addr} (h : H a = none) : del H r a = none := by
  by_cases e : a = r
  · rw [e, del_same]
  · rw [del_ne e]; exact h
theorem FrOk.carry {K : PySem.W.Frag} {CR : Addr} {H0 H H2 H4 : Hp} {r : Addr} {g : FrA} {l : List Nat} (h : FrOk K H0 H g) (R : RdAt CR H r l) (s : Same (del H r) (del H2 r)) (st : Same (tups H2) (tups H4)) (e : H4 g.a = H2 g.a) : FrOk K H0 H4 g := by
  obtain ⟨a, b, c, d⟩ := h
  refine ⟨a, by rw [e]; exact keepR R s b, fun p hp => ⟨?_, (c p hp).2⟩, d⟩
  exact ((c p hp).1.same (tups_del s R.ins)).same st
def RkW (K : PySem.W.Frag) (CR : Addr) (H0 : Hp) (r ar : Addr) (T : Th) (rest : List Nat) : Nat → St → Hp → Prop := fun m σ H' => ∃ (f : FrA) (fs : List FrA) (t2 t3 t4 : Option V), m = (kL f.t ++ (tailS (fs.map FrA.frm) ++ rest)).length ∧ σ = [some (.ref r), some (.ref ar), t2, t3, t4] ∧ RkI K CR H0 H' r ar f fs T rest
theorem kL_cons : ∀ {t : Th}, t.any = true → ∃ c l, kL t = c :: l ∧ (c = 40 ∨ c ∈ letters.cps.toList)
  | .int i, h => by
    obtain ⟨j, e, hj⟩ := any_int h rfl
    cases e
    exact ⟨97 + j, [], rfl, .inr (List.mem_of_getElem? (letters_at hj))⟩
  | .pr l r, h => by
    unfold kL
    split
    · exact ⟨40, _, rfl, .inl rfl⟩
    · obtain ⟨c, q, e, k⟩ := kL_cons (any_pr h).1
      exact ⟨c, q ++ 32 :: 62 :: 32 :: kL r, by rw [e]; rfl, k⟩
  | .bl b, h => by cases h
  | .non, h => by cases h
  | .tup, h => by cases h
theorem letter_not {i c : Nat} (h : i ≤ 25) (k : c < 97) : ¬ some (97 + i) = some c := fun q => by
  injection q with q; omega
section
variable {P : Program} {w : World} {K : PySem.W.Frag} {mg : Str → Option Value} {base : Heap} {CR f0 fG fI fN fE fL fM fK fP fT : Addr} {fd0 fdG fdI fdN fdE fdL fdM fdK fdP fdT : FuncData} {sP sT : Stmt}
theorem scRKind : FnScope ["self", "around", "kind", "lefts", "left"] ["self"] (defScope sRKind) := ⟨rfl, rfl, rfl, by decide +kernel, rfl, by decide +kernel, by decide +kernel⟩
theorem ok_rkind (RF : RdF K mg CR f0 fG fI fN fE fL fM fK fP fT fd0 fdG fdI fdN fdE fdL fdM fdK fdP fdT sRKind sP sT) (T : TxB mg) (T2 : TxD mg) (TN : TxN mg) : FnOk P w K mg base CX0 3 fK fdK ["self"] (spRKind K CR) := by
  have R := RF.R
  have GG : FnOk P w K mg base CX0 1 fG fdG ["self", "sign"] (spRGoes K CR) := ok_rgoes RF.FG T R
  have GN : FnOk P w K mg base CX0 2 fN fdN ["self", "signs"] (spRNeed K CR) := ok_rneed RF.FN RF.FG RF.bG RF.mG T R
  have GL : FnOk P w K mg base CX0 2 fL fdL ["self"] (spRLet K CR) := ok_rlet RF.FL RF.FI RF.bI RF.mI T TN R
  obtain ⟨uL, hL⟩ := TN.let_
  refine RF.FK.ok scRKind (fun vs H Q E h => ?_) (fun cdv A outer s H vs Q E hr h => ?_)
  · obtain ⟨_, _, _, rfl, _⟩ := h
    rfl
  · obtain ⟨r, t, rest, rfl, hR, ha, hb, kq⟩ := h
    have nd := scRKind.nd
    have hr1 := hr.mono (show 1 ≤ 2 by decide)
    refine ⟨_, pss_cons (ps_set (i := 1) nd rfl (Or.inl rfl) (pe_lst (pa_cons (pe_lst pa_nil) pa_nil)))
    (pss_one (ps_while PassesOwn.never (pt_val pe_bl)
        (pss_cons (ps_if (pt_val (pe_meth (pv 0) R.cl RF.mG GG hr1 RF.bG .nil pass0 (pa_cons pe_str pa_nil)))
            (pss_cons (ps_expr (pe_meth (pv 0) R.cl RF.mN GN hr RF.bN .nil pass0 (pa_cons pe_str pa_nil)))
            (pss_cons (ps_expr (pe_bm PySem.F.plainAttrs_list PySem.F.slot_list_append PySem.F.type_list_append mt_append (pv 1) (pa_cons (pe_lst pa_nil) pa_nil)))
            (pss_one ps_continue)))
            pss_nil)
        (pss_cons (ps_set (i := 2) nd rfl (Or.inl rfl) (pe_bm PySem.F.plainAttrs_str PySem.F.slot_str_index PySem.F.type_str_index mt_sindex (pe_glob (v := .str letters) (by rfl) hL ⟨_, rfl⟩) (pa_cons (pe_meth0 (pv 0) R.cl RF.mL GL hr RF.bL .nil pass0) pa_nil)))
        (Evl.pss_cut (ps_if (PW.pt (pw_or (pt_val (pe_meth (pv 0) R.cl RF.mG GG hr1 RF.bG .nil pass0 (pa_cons pe_str pa_nil))) (pw_or1 (PW.pt (pw_and (pt_cmpR op_gt (pe_callB call_len_seq (by rfl) T.len PySem.boot_len (pa_cons (pv 1) pa_nil)) pe_int (nomark _)) (pw_and1 (pt_not (pt_truth (pe_ix ix_list (pv 1) (pe_un un_neg pe_int) (fun _ _ => rfl)) (by intro _; rfl)))))))))
            (pss_cons (ps_expr (pe_meth (pv 0) R.cl RF.mN GN hr RF.bN .nil pass0 (pa_cons pe_str pa_nil)))
            (pss_cons (ps_expr (pe_bm PySem.F.plainAttrs_list PySem.F.slot_list_append PySem.F.type_list_append mt_append (pe_ix ix_list (pv 1) (pe_un un_neg pe_int) (fun _ _ => rfl)) (pa_cons (pv 2) pa_nil)))
            (pss_one ps_continue)))
            pss_nil)
        (pss_cons (ps_set (i := 3) nd rfl (Or.inl rfl) (pe_bm0 PySem.F.plainAttrs_list PySem.F.slot_list_pop PySem.F.type_list_pop mt_pop (pv 1)))
        (pss_cons (ps_for PassesOwn.never rfl (pi_reversed (by rfl) T2.reversed (pa_cons (pv 3) pa_nil)) (pg_name (i := 4) nd rfl (Or.inl rfl))
            (pss_one (ps_set (i := 2) nd rfl (Or.inl rfl) (pe_tup (pa_cons (pv 4) (pa_cons (pv 2) pa_nil))))))
        (pss_cons (ps_if (pt_not (pt_truth (pv 1) (by intro _; rfl)))
            (pss_one (ps_ret (pv 2)))
            pss_nil)
        (pss_cons (ps_expr (pe_meth (pv 0) R.cl RF.mN GN hr RF.bN .nil pass0 (pa_cons pe_str pa_nil)))
        (pss_one (ps_expr (pe_bm PySem.F.plainAttrs_list PySem.F.slot_list_append PySem.F.type_list_append mt_append (pe_ix ix_list (pv 1) (pe_un un_neg pe_int) (fun _ _ => rfl)) (pa_cons (pv 2) pa_nil))))))))))))), ?_⟩
    refine ⟨(by show 0 ≤ sizeLine; decide), fun l0 n0 => ?_⟩
    have s0 := same_new (o := .lst []) (same_refl H) n0
    refine ⟨(by show 1 ≤ sizeLine; decide), fun ar nar => ?_⟩
    have l0ar : l0 ≠ ar := ne_of_none upd_same nar
    have nar0 : H ar = none := same_none s0 nar
    have s1 := same_new (o := .lst [.ref l0]) s0 nar
    have e0 : upd (upd H l0 (.lst [])) ar (.lst [.ref l0]) l0 = some (.lst []) := by rw [upd_ne l0ar]; exact upd_same
    have e1 : upd (upd H l0 (.lst [])) ar (.lst [.ref l0]) ar = some (.lst [.ref l0]) := upd_same
    generalize upd (upd H l0 (.lst [])) ar (.lst [.ref l0]) = H1 at s1 e0 e1
    refine ⟨RkW K CR H r ar t rest, ⟨_, ⟨l0, [], t⟩, [], none, none, none, rfl, rfl, ?_⟩, ?_⟩
    · have hlen := hR.len
      refine ⟨del_same_of s1, hR.same s1, nar0, e1, fun g hg => ?_, ?_, rfl, fun h => absurd rfl h, fun g hg => ?_⟩
      · rw [List.mem_singleton] at hg
        subst hg
        exact ⟨n0, e0, (fun p hp => by cases hp), ha⟩
      · simp [l0ar.symm]
      · rw [List.mem_singleton] at hg
        subst hg
        simpa [tailS] using hlen
    · rintro m σ H' ⟨f, fs, t2, t3, t4, rfl, rfl, I⟩
      refine ⟨_, rfl, ?_⟩
      refine ifT rfl ?_
      obtain ⟨fa, fL, ft⟩ := f
      refine ⟨fun σ'' H'' => ∃ m', m' < (kL ft ++ (tailS (fs.map FrA.frm) ++ rest)).length ∧ RkW K CR H r ar t rest m' σ'' H'', fun σ'' H'' z => z, ?_⟩
      have fok := I.each ⟨fa, fL, ft⟩ List.mem_cons_self
      obtain ⟨fnew, fat, fvals, fany⟩ := id fok
      have fnew : H fa = none := fnew
      have fat : H' fa = some (.lst (fL.map (·.2))) := fat
      have fany : ft.any = true := fany
      have fvals : ∀ p ∈ fL, ThAt K (tups H') p.1 p.2 ∧ p.1.any = true := fvals
      have ird : RdAt CR H' r (kL ft ++ (tailS (fs.map FrA.frm) ++ rest)) := I.rd
      have ival : valK (fL.map (·.1)) ft (fs.map FrA.frm) = t := I.val
      have few0 : fL.length + (kL ft ++ (tailS (fs.map FrA.frm) ++ rest)).length ≤ 4000000 := I.few ⟨fa, fL, ft⟩ List.mem_cons_self
      have ipair : fs ≠ [] → fL ≠ [] ∨ ft.isPr = true := I.pair
      have apart := I.apart
      rw [List.nodup_cons, List.map_cons, List.nodup_cons] at apart
      obtain ⟨ap1, ap2, ap3⟩ := apart
      have ap2 : fa ∉ fs.map FrA.a := ap2
      have arfa : ar ≠ fa := fun q => ap1 (by rw [q]; exact List.mem_cons_self)
      have arfs : ar ∉ fs.map FrA.a := fun q => ap1 (List.mem_cons_of_mem _ q)
      obtain ⟨dx, z0, n0', hA, _⟩ := id ird
      have lens := ird.len
      have tl4 := tailS_len (fs := fs.map FrA.frm)
      rw [List.length_map] at tl4
      have fsl : fs.length ≤ 1000000 := by
        have := lens
        simp only [List.length_append] at this
        omega
      have each2 : ∀ g ∈ fs, FrOk K H H' g := fun g hg => I.each g (List.mem_cons_of_mem _ hg)
      have few2 : ∀ g ∈ fs, g.L.length + (kL ft ++ (tailS (fs.map FrA.frm) ++ rest)).length ≤ 4000000 := fun g hg => I.few g (List.mem_cons_of_mem _ hg)
      have aro : H' ar = some (.lst (fs.reverse.map (fun g => V.ref g.a) ++ [.ref fa])) := by
        have := I.aro
        rw [List.reverse_cons, List.map_append] at this
        exact this
      have ntup : ∀ {G : Hp} {b : Addr} {ys : List V}, G b = some (.lst ys) → ∀ xs, G b ≠ some (.tup xs) := fun e xs q => by rw [e] at q; cases q
      by_cases open_ : ∃ l r', ft = .pr l r' ∧ l.isPr = true
      · obtain ⟨l, r', rfl, lp⟩ := open_
        obtain ⟨al, ar'⟩ := any_pr fany
        have ek : kL (.pr l r') ++ (tailS (fs.map FrA.frm) ++ rest) = [40] ++ (kL l ++ (tailS ((FrA.mk fa fL r' :: fs).map FrA.frm) ++ rest)) := by
          show (if l.isPr = true then 40 :: (kL l ++ [41]) else kL l) ++ 32 :: 62 :: 32 :: kL r' ++ (tailS (fs.map FrA.frm) ++ rest) = _
          rw [if_pos lp]
          simp [tailS, FrA.frm]
        rw [ek] at ird few0 few2 lens ⊢
        refine ⟨_, rfl, r, dx, _, rfl, hA, rfl, r, _, 40, _, rfl, (by decide +kernel), ird, _, rfl, ?_⟩
        refine ifT rfl ?_
        refine ⟨_, rfl, r, dx, _, rfl, hA, rfl, r, [40], _, _, rfl, (by decide +kernel), ird, fun H2 R2 s2 => ?_⟩
        have ar2 := keepR ird s2 aro
        have fa2 := keepR ird s2 fat
        refine ⟨_, rfl, .inl ⟨rfl, _, SqL.of ar2⟩, (by show 0 ≤ sizeLine; decide), fun nl nnl => ?_⟩
        have nlnew := newR R2 (same_trans I.same s2) nnl
        have nlar : ar ≠ nl := ne_of_none ar2 nnl
        have nlfa : fa ≠ nl := ne_of_none fa2 nnl
        have k3 := same_new (o := .lst []) (same_refl H2) nnl
        have ar3 := k3 _ _ ar2
        refine ⟨ar, _, _, rfl, rfl, ar3, (by rw [List.length_append, List.length_map, List.length_reverse]; show fs.length + 1 < sizeLine; exact room2 (by omega)), ?_⟩
        have st : Same (tups H2) (tups (upd (upd H2 nl (.lst [])) ar (.lst (fs.reverse.map (fun g => V.ref g.a) ++ [.ref fa] ++ [.ref nl])))) := same_trans (tups_mono k3) (tups_upd (ntup ar3))
        have off : ∀ b ys, H2 b = some (.lst ys) → b ≠ ar → upd (upd H2 nl (.lst [])) ar (.lst (fs.reverse.map (fun g => V.ref g.a) ++ [.ref fa] ++ [.ref nl])) b = H2 b := fun b ys e n => by rw [upd_ne n, upd_ne (ne_of_none e nnl)]
        have hlen : (kL l ++ (tailS ((FrA.mk fa fL r' :: fs).map FrA.frm) ++ rest)).length < ([40] ++ (kL l ++ (tailS ((FrA.mk fa fL r' :: fs).map FrA.frm) ++ rest))).length := by
          exact Nat.lt_succ_self _
        refine ⟨_, hlen, ⟨nl, [], l⟩, ⟨fa, fL, r'⟩ :: fs, _, _, _, rfl, rfl, ?_⟩
        refine ⟨sameU (sameU (same_trans I.same s2) (del_none nlnew)) (del_none I.arnew), (R2.same k3).put ar3, I.arnew, ?_, fun g hg => ?_, ?_, valK_open.trans ival, fun _ => .inr lp, fun g hg => ?_⟩
        · rw [upd_same]; simp
        · rcases List.mem_cons.mp hg with rfl | hg
          · exact ⟨nlnew, by show upd _ ar _ nl = _; rw [upd_ne nlar.symm, upd_same]; rfl, fun p hp => (by cases hp), al⟩
          · rcases List.mem_cons.mp hg with rfl | hg
            · refine FrOk.carry (g := ⟨fa, fL, r'⟩) ⟨fnew, fat, fvals, ar'⟩ ird s2 st (off _ _ fa2 arfa.symm)
            · exact (each2 g hg).carry ird s2 st (off _ _ (keepR ird s2 (each2 g hg).2.1) fun q => arfs (by rw [← q]; exact List.mem_map_of_mem hg))
        · have nin : nl ∉ fs.map FrA.a := fun q => by
            obtain ⟨g, hg, e⟩ := List.mem_map.mp q
            have := keepR ird s2 (each2 g hg).2.1
            rw [e, nnl] at this; cases this
          simp only [List.map_cons, List.nodup_cons, List.mem_cons, not_or]
          exact ⟨⟨nlar, arfa, arfs⟩, ⟨nlfa.symm, nin⟩, ap2, ap3⟩
        · have hh := hlen
          obtain rfl | hg := List.mem_cons.mp hg
          · show 0 + (kL l ++ (tailS ((FrA.mk fa fL r' :: fs).map FrA.frm) ++ rest)).length ≤ _; omega
          · rcases List.mem_cons.mp hg with rfl | hg
            · show fL.length + (kL l ++ (tailS ((FrA.mk fa fL r' :: fs).map FrA.frm) ++ rest)).length ≤ _; omega
            · have := few2 g hg
              show g.L.length + (kL l ++ (tailS ((FrA.mk fa fL r' :: fs).map FrA.frm) ++ rest)).length ≤ _; omega
      · -- a letter is next
        have lett : ∃ (i : Nat) (l2 : List Nat), (ft = .int (i : Int) ∧ i ≤ 25 ∧ l2 = tailS (fs.map FrA.frm) ++ rest ∧ kL ft ++ (tailS (fs.map FrA.frm) ++ rest) = (97 + i) :: l2) ∨ (∃ r', ft = .pr (.int (i : Int)) r' ∧ i ≤ 25 ∧ r'.any = true ∧ l2 = [32, 62, 32] ++ (kL r' ++ (tailS (fs.map FrA.frm) ++ rest)) ∧ kL ft ++ (tailS (fs.map FrA.frm) ++ rest) = (97 + i) :: l2) := by
          cases hp : ft.isPr with
          | false =>
            obtain ⟨i, rfl, hi⟩ := any_int fany hp
            exact ⟨i, _, .inl ⟨rfl, hi, rfl, by show [97 + (i : Int).toNat] ++ _ = _; rw [Int.toNat_natCast]; rfl⟩⟩
          | true =>
            obtain ⟨l, r', rfl⟩ := pr_of hp
            obtain ⟨al, ar'⟩ := any_pr fany
            cases hl : l.isPr with
            | true => exact absurd ⟨l, r', rfl, hl⟩ open_
            | false =>
              obtain ⟨i, rfl, hi⟩ := any_int al hl
              refine ⟨i, _, .inr ⟨r', rfl, hi, ar', rfl, ?_⟩⟩
              show ([97 + (i : Int).toNat] ++ 32 :: 62 :: 32 :: kL r') ++ _ = _
              rw [Int.toNat_natCast]
              simp
        obtain ⟨i, l2, lett⟩ := lett
        have hi : i ≤ 25 := by rcases lett with ⟨_, h, _⟩ | ⟨_, _, h, _⟩ <;> exact h
        have el2 : kL ft ++ (tailS (fs.map FrA.frm) ++ rest) = (97 + i) :: l2 := by rcases lett with ⟨_, _, _, h⟩ | ⟨_, _, _, _, _, h⟩ <;> exact h
        rw [el2] at ird few0 few2 lens ⊢
        rw [List.length_cons] at few0 few2 lens ⊢
        refine ⟨_, rfl, r, dx, _, rfl, hA, rfl, r, _, 40, _, rfl, (by decide +kernel), ird, _, rfl, ?_⟩
        refine ifF (decide_eq_false (letter_not hi (by decide))) ?_
        have cin : 97 + i ∈ letters.cps.toList := List.mem_of_getElem? (letters_at hi)
        obtain ⟨oc, hoc⟩ := idx_at hi
        refine ⟨rfl, _, rfl, r, dx, _, rfl, hA, rfl, r, 97 + i, l2, rfl, ird, cin, fun H2 R2 s2 => ⟨letters, _, i, oc, rfl, rfl, hoc, ?_⟩⟩
        have ar2 := keepR ird s2 aro
        have fa2 := keepR ird s2 fat
        have s12 := same_trans I.same s2
        obtain ⟨dx2, z2, n2', hA2, _⟩ := id R2
        have l2len : l2.length ≤ 4000000 := by omega
        refine ⟨fun σ' H'' => σ' = [some (.ref r), some (.ref ar), some (.int (i : Int)), t3, t4] ∧ H'' = H2 ∧ ft = .int (i : Int) ∧ l2 = tailS (fs.map FrA.frm) ++ rest, ?_, ?_⟩
        · rcases lett with ⟨eft, _, el, _⟩ | ⟨r', eft, _, ar', el, _⟩
          · have hne : ¬ l2.head? = some 32 := by
              rw [el]
              cases fs with
              | nil => exact hb
              | cons g gs => intro q; injection q with q; cases q
            refine ⟨_, rfl, r, dx2, _, rfl, hA2, rfl, r, _, 32, _, rfl, (by decide +kernel), R2, _, rfl, ?_⟩
            refine ifF (decide_eq_false hne) ?_
            refine ⟨_, rfl, _, _, rfl, .inl (SqL.of ar2), _, _, rfl, rfl, _, rfl, ?_⟩
            cases fs with
            | nil =>
              refine ifF (by simp) ?_
              refine ifF rfl ?_
              exact ⟨rfl, rfl, eft, el⟩
            | cons g gs =>
              refine ifT (by simp; omega) ?_
              have fne : fL ≠ [] := by
                rcases ipair (by simp) with q | q
                · exact q
                · rw [eft] at q; cases q
              have fb : (fL.map fun p : Th × V => p.2).isEmpty = false := by
                cases fL with
                | nil => exact absurd rfl fne
                | cons p q => rfl
              refine ⟨_, rfl, _, rfl, ar, _, _, _, rfl, rfl, SqL.of ar2, atI_last _ _, _, .inl ⟨_, SqL.of fa2, rfl⟩, ?_⟩
              rw [fb]
              refine ifF rfl ?_
              exact ⟨rfl, rfl, eft, el⟩
          · subst eft
            subst el
            refine ⟨_, rfl, r, dx2, _, rfl, hA2, rfl, r, _, 32, _, rfl, (by decide +kernel), R2, _, rfl, ?_⟩
            refine ifT rfl ?_
            refine ifT rfl ?_
            refine ⟨_, rfl, r, dx2, _, rfl, hA2, rfl, r, [32, 62, 32], _, _, rfl, (by decide +kernel), R2, fun H3 R3 s3 => ?_⟩
            have ar3 := keepR R2 s3 ar2
            have fa3 := keepR R2 s3 fa2
            have s23 := same_trans s2 s3
            refine ⟨_, rfl, _, rfl, ar, _, _, _, rfl, rfl, SqL.of ar3, atI_last _ _, .inl ⟨rfl, _, SqL.of fa3⟩, _, rfl, fa, _, _, rfl, rfl, fa3, (by rw [List.length_map]; exact Nat.lt_of_le_of_lt (m := 4000000) (by omega) (by decide)), ?_⟩
            have st : Same (tups H3) (tups (upd H3 fa (.lst (fL.map (·.2) ++ [.int (i : Int)])))) := tups_upd (ntup fa3)
            have hlen : (kL r' ++ (tailS (fs.map FrA.frm) ++ rest)).length + 3 = ([32, 62, 32] ++ (kL r' ++ (tailS (fs.map FrA.frm) ++ rest))).length := by
              rw [List.length_append (as := [32, 62, 32])]
              show _ + 3 = 3 + _
              omega
            refine ⟨_, (by rw [← hlen]; omega : (kL r' ++ (tailS (fs.map FrA.frm) ++ rest)).length < _), ⟨fa, fL ++ [(.int (i : Int), .int (i : Int))], r'⟩, fs, _, _, _, rfl, rfl, ?_⟩
            refine ⟨sameU (same_trans s12 s3) (del_none fnew), R3.put fa3, I.arnew, ?_, fun g hg => ?_, I.apart, ?_, fun _ => .inl (by simp), fun g hg => ?_⟩
            · rw [upd_ne arfa, ar3]; simp
            · rcases List.mem_cons.mp hg with rfl | hg
              · refine ⟨fnew, by rw [upd_same, List.map_append]; rfl, fun p hp => ?_, ar'⟩
                obtain q | q := List.mem_append.mp hp
                · exact ⟨((fvals p q).1.same (tups_del s23 ird.ins)).same st, (fvals p q).2⟩
                · rw [List.mem_singleton] at q
                  subst q
                  refine ⟨rfl, ?_⟩
                  show (decide (0 ≤ (i : Int)) && decide ((i : Int) ≤ 25)) = true
                  rw [decide_eq_true (by omega), decide_eq_true (by omega)]; rfl
              · have gne : g.a ≠ fa := fun q => ap2 (List.mem_map.mpr ⟨g, hg, q⟩)
                exact (each2 g hg).carry ird s23 st (upd_ne gne)
            · show valK ((fL ++ [(Th.int (i : Int), V.int (i : Int))]).map (·.1)) r' (fs.map FrA.frm) = t
              rw [List.map_append]
              exact valK_left.trans ival
            · rcases List.mem_cons.mp hg with rfl | hg
              · show (fL ++ [_]).length + (kL r' ++ (tailS (fs.map FrA.frm) ++ rest)).length ≤ _
                (rw [List.length_append, List.length_singleton]; omega)
              · have := few2 g hg
                show g.L.length + (kL r' ++ (tailS (fs.map FrA.frm) ++ rest)).length ≤ _
                omega
        · rintro _ H9 ⟨rfl, e9, eft, el⟩
          rw [e9]
          clear e9 H9
          subst eft
          subst el
          clear lett open_
          refine ⟨_, rfl, .inl ⟨rfl, _, SqL.of ar2⟩, ar, _, .ref fa, rfl, rfl, ar2, (by simp), ?_⟩
          rw [List.dropLast_concat]
          have R3 := R2.put (o := .lst (fs.reverse.map fun g => V.ref g.a)) ar2
          have ar3 : upd H2 ar (.lst (fs.reverse.map fun g => V.ref g.a)) ar = some (.lst (fs.reverse.map fun g => V.ref g.a)) := upd_same
          have fa3 : upd H2 ar (.lst (fs.reverse.map fun g => V.ref g.a)) fa = some (.lst (fL.map (·.2))) := by rw [upd_ne arfa.symm]; exact fa2
          have s3 := sameU (o := .lst (fs.reverse.map fun g => V.ref g.a)) s12 (del_none I.arnew)
          have st3 : Same (tups H2) (tups (upd H2 ar (.lst (fs.reverse.map fun g => V.ref g.a)))) := tups_upd (ntup ar2)
          have off3 : ∀ b, b ≠ ar → upd H2 ar (.lst (fs.reverse.map fun g => V.ref g.a)) b = H2 b := fun b n => upd_ne n
          generalize upd H2 ar (.lst (fs.reverse.map fun g => V.ref g.a)) = H3 at R3 ar3 fa3 s3 st3 off3
          refine ⟨_, rfl, fa, _, rfl, SqL.of fa3, ?_⟩
          have tv : ∀ p ∈ fL, ThAt K (tups H3) p.1 p.2 := fun p hp => ((fvals p hp).1.same (tups_del s2 ird.ins)).same st3
          refine for_it walk_rev (fun j σ H'' => ∃ kv t4, σ = [some (.ref r), some (.ref ar), some kv, some (.ref fa), t4] ∧ Same H3 H'' ∧ ThAt K (tups H'') (bld ((fL.map (·.1)).drop (fL.length - j)) (.int (i : Int))) kv) ⟨_, _, rfl, same_refl _, ?_⟩ (fun j σ H'' _ ⟨_, _, _, q, _⟩ => SqL.of (q _ _ fa3)) ?_ ?_
          · rw [Nat.sub_zero, List.drop_of_length_le (by rw [List.length_map]; exact Nat.le_refl _)]; rfl
          · rintro j x σ _ H'' hj ⟨kv, t4', rfl, h1, h2⟩ ⟨rfl, hx⟩
            rw [List.length_map] at hj hx
            obtain ⟨p0, hp0⟩ : ∃ p0, fL[fL.length - 1 - j]? = some p0 := ⟨_, List.getElem?_eq_getElem (by omega)⟩
            rw [List.getElem?_map, hp0] at hx
            cases hx
            refine ⟨_, rfl, _, rfl, (by show 2 ≤ sizeLine; decide), fun q nq => ?_⟩
            have k5 := same_new (o := .tup [p0.2, kv]) (same_refl H'') nq
            refine ⟨_, _, rfl, same_trans h1 k5, ?_⟩
            have ed : (fL.map (·.1)).drop (fL.length - (j + 1)) = p0.1 :: (fL.map (·.1)).drop (fL.length - j) := by
              have lt : fL.length - (j + 1) < (fL.map (·.1)).length := by rw [List.length_map]; omega
              rw [List.drop_eq_getElem_cons lt]
              have e1 : fL.length - (j + 1) + 1 = fL.length - j := by omega
              have e2 : (fL.map (·.1))[fL.length - (j + 1)]? = some p0.1 := by
                rw [List.getElem?_map, show fL.length - (j + 1) = fL.length - 1 - j by omega, hp0]; rfl
              rw [List.getElem?_eq_getElem lt] at e2
              rw [Option.some.inj e2, e1]
            rw [ed]
            refine ⟨q, _, _, rfl, tups_of upd_same, ?_, h2.same (tups_mono k5)⟩
            exact ((tv p0 (List.mem_of_getElem? hp0)).same (tups_mono h1)).same (tups_mono k5)
          · rintro σ H4 ⟨kv, t4', rfl, h1, h2⟩
            rw [List.length_map, Nat.sub_self, List.drop_zero] at h2
            have ar4 := h1 _ _ ar3
            have R4 := R3.same h1
            have s4 := same_trans s3 (del_same_of h1)
            have st4 := same_trans st3 (tups_mono h1)
            have bany : (bld (fL.map (·.1)) (.int (i : Int))).any = true := bld_any (fun a ha => by
              obtain ⟨p, hp, rfl⟩ := List.mem_map.mp ha
              exact (fvals p hp).2) fany
            refine ⟨_, rfl, _, .inl ⟨_, SqL.of ar4, rfl⟩, ?_⟩
            cases fs with
            | nil =>
              refine ifT rfl ?_
              have e : bld (fL.map (·.1)) (.int (i : Int)) = t := ival
              rw [e] at h2
              exact ⟨_, rfl, kq kv H4 R4 s4 h2⟩
            | cons g gs =>
              have eg : (g :: gs).reverse.map (fun g => V.ref g.a) = gs.reverse.map (fun g => V.ref g.a) ++ [.ref g.a] := by simp
              rw [eg] at ar4 ⊢
              refine ifF (by simp) ?_
              obtain ⟨dx4, z4, n4, hA4, _⟩ := id R4
              have R4' : RdAt CR H4 r ([41, 32, 62, 32] ++ (kL g.t ++ (tailS (gs.map FrA.frm) ++ rest))) := by
                have : tailS ((g :: gs).map FrA.frm) ++ rest = [41, 32, 62, 32] ++ (kL g.t ++ (tailS (gs.map FrA.frm) ++ rest)) := by simp [tailS, FrA.frm]
                rw [← this]; exact R4
              refine ⟨_, rfl, r, dx4, _, rfl, hA4, rfl, r, [41, 32, 62, 32], _, _, rfl, (by decide +kernel), R4', fun H5 R5 s5 => ?_⟩
              have ar5 := keepR R4 s5 ar4
              obtain ⟨gnew, gat, gvals, gany⟩ := each2 g List.mem_cons_self
              have gar : g.a ≠ ar := fun q => arfs (by rw [← q]; exact List.mem_cons_self)
              have ga2 := keepR ird s2 gat
              have ga4 : H4 g.a = some (.lst (g.L.map (·.2))) := h1 _ _ (by rw [off3 _ gar]; exact ga2)
              have ga5 := keepR R4 s5 ga4
              have fg := few2 g List.mem_cons_self
              refine ⟨_, rfl, _, rfl, ar, _, _, _, rfl, rfl, SqL.of ar5, atI_last _ _, .inl ⟨rfl, _, SqL.of ga5⟩, _, rfl, g.a, _, _, rfl, rfl, ga5, (by rw [List.length_map]; exact Nat.lt_of_le_of_lt (m := 4000000) (by omega) (by decide)), ?_⟩
              have st5 := tups_del s5 R4.ins
              have st6 : Same (tups H5) (tups (upd H5 g.a (.lst (g.L.map (·.2) ++ [kv])))) := tups_upd (ntup ga5)
              have hlen : (kL g.t ++ (tailS (gs.map FrA.frm) ++ rest)).length + 4 = (tailS ((g :: gs).map FrA.frm) ++ rest).length := by
                show _ = (41 :: 32 :: 62 :: 32 :: (kL g.t ++ tailS (gs.map FrA.frm)) ++ rest).length
                simp only [List.length_cons, List.length_append]
                omega
              refine ⟨_, (by omega : (kL g.t ++ (tailS (gs.map FrA.frm) ++ rest)).length < _), ⟨g.a, g.L ++ [(bld (fL.map (·.1)) (.int (i : Int)), kv)], g.t⟩, gs, _, _, _, rfl, rfl, ?_⟩
              have ap4 := ap3
              rw [List.map_cons, List.nodup_cons] at ap4
              refine ⟨sameU (same_trans s4 s5) (del_none gnew), R5.put ga5, I.arnew, ?_, fun g' hg => ?_, ?_, ?_, fun _ => .inl (by simp), fun g' hg => ?_⟩
              · rw [upd_ne gar.symm, ar5]; simp
              · rcases List.mem_cons.mp hg with rfl | hg
                · refine ⟨gnew, by rw [upd_same, List.map_append]; rfl, fun p hp => ?_, gany⟩
                  obtain q | q := List.mem_append.mp hp
                  · exact ⟨((((gvals p q).1.same (tups_del s2 ird.ins)).same st4).same st5).same st6, (gvals p q).2⟩
                  · rw [List.mem_singleton] at q
                    subst q
                    exact ⟨(h2.same st5).same st6, bany⟩
                · have gne : g'.a ≠ g.a := fun q => ap4.1 (List.mem_map.mpr ⟨g', hg, q⟩)
                  have gar' : g'.a ≠ ar := fun q => arfs (List.mem_cons_of_mem _ (List.mem_map.mpr ⟨g', hg, q⟩))
                  have fo := each2 g' (List.mem_cons_of_mem _ hg)
                  have f2 : FrOk K H H2 g' := fo.carry ird s2 (same_refl _) rfl
                  have f4 : FrOk K H H4 g' := ⟨f2.1, h1 _ _ (by rw [off3 _ gar']; exact f2.2.1), fun p hp => ⟨(f2.2.2.1 p hp).1.same st4, (f2.2.2.1 p hp).2⟩, f2.2.2.2⟩
                  exact f4.carry R4 s5 st6 (upd_ne gne)
              · simp only [List.map_cons, List.nodup_cons, List.mem_cons, not_or]
                exact ⟨⟨gar.symm, fun q => arfs (List.mem_cons_of_mem _ q)⟩, ap4.1, ap4.2⟩
              · show valK ((g.L ++ [(bld (fL.map (·.1)) (.int (i : Int)), kv)]).map (·.1)) g.t (gs.map FrA.frm) = t
                rw [List.map_append]
                exact ival
              · rcases List.mem_cons.mp hg with rfl | hg
                · show (g.L ++ [_]).length + (kL g.t ++ (tailS (gs.map FrA.frm) ++ rest)).length ≤ _
                  (rw [List.length_append, List.length_singleton]; omega)
                · have := few2 g' (List.mem_cons_of_mem _ hg)
                  show g'.L.length + (kL g.t ++ (tailS (gs.map FrA.frm) ++ rest)).length ≤ _
                  omega
end
end LG

set_option Elab.async false
set_option linter.all false
set_option maxRecDepth 100000
set_option maxHeartbeats 4100000
namespace LG
open PySem L2 TL
abbrev sRTake : Stmt := inClass (top 37) 9
abbrev sRProg : Stmt := inClass (top 37) 8
def spRTake (K : PySem.W.Frag) (CR : Addr) : Sp := fun vs H Q _ => ∃ (r : Addr) (z : Str) (t : Th) (rest : List Nat), vs = [.ref r] ∧ RdAt CR H r (91 :: (tl z ++ 58 :: (kL t ++ 93 :: 32 :: rest))) ∧ nameB z = true ∧ t.any = true ∧
  ∀ a y H', RdAt CR H' r rest → Same (del H r) (del H' r) → H' a = some (.tup [.str z, y]) → ThAt K (tups H') t y → Q (.ref a) H'
/-- what stands behind the part that is read, the innermost first -/
inductive Pb where
  | sp (a : Tm)
  | cl
namespace Pb
def rest : List Pb → List Nat
  | [] => []
  | .sp a :: B => 32 :: (a.tx ++ 41 :: rest B)
  | .cl :: B => 41 :: rest B
def pend : List Pb → List Wd
  | [] => []
  | .sp a :: B => a.ws ++ pend B
  | .cl :: B => pend B
def val : Pb → V
  | .sp _ => .str " "
  | .cl => .str ")"
def ok : Pb → Prop
  | .sp a => a.ok ∧ a.fit 10000
  | .cl => True
end Pb
theorem rest_len : ∀ {B : List Pb}, B.length ≤ (Pb.rest B).length
  | [] => Nat.le_refl _
  | .sp a :: B => by
    have := rest_len (B := B)
    show B.length + 1 ≤ (32 :: (a.tx ++ 41 :: Pb.rest B)).length
    simp only [List.length_cons, List.length_append]; omega
  | .cl :: B => by
    have := rest_len (B := B)
    show B.length + 1 ≤ (41 :: Pb.rest B).length
    rw [List.length_cons]; omega
theorem ws_tx : ∀ {t : Tm}, t.ok → t.ws.length ≤ t.tx.length
  | .nm z, h => by have := (name_len h).1; exact this
  | .us f a, h => by
    have h1 := ws_tx h.1
    have h2 := ws_tx h.2
    show (f.ws ++ a.ws).length + 1 ≤ (40 :: (f.tx ++ 32 :: (a.tx ++ [41]))).length
    simp only [List.length_cons, List.length_append, List.length_nil]; omega
  | .tk z t b, h => by
    have h1 := ws_tx h.2.2
    show b.ws.length + 1 ≤ (91 :: (tl z ++ 58 :: (kL t ++ 93 :: 32 :: b.tx))).length
    simp only [List.length_cons, List.length_append]; omega
/-- behind a part no name goes on -/
theorem rest_stop : ∀ {B : List Pb}, stopN (Pb.rest B)
  | [] => trivial
  | .sp a :: B => by show 32 ∉ letters.cps.toList; decide +kernel
  | .cl :: B => by show 41 ∉ letters.cps.toList; decide +kernel
structure RpI (K : PySem.W.Frag) (CR : Addr) (H0 H : Hp) (r wl bl : Addr) (us : List V) (done : List Wd) (B : List Pb) (sg : List Nat) : Prop where
  same : Same (del H0 r) (del H r)
  rd : RdAt CR H r sg
  wnew : H0 wl = none
  bnew : H0 bl = none
  wb : wl ≠ bl
  wo : H wl = some (.lst us)
  bo : H bl = some (.lst (B.reverse.map Pb.val))
  wds : WdsAt K (tups H) done us
  oks : ∀ b ∈ B, b.ok
def spRProg (K : PySem.W.Frag) (CR : Addr) : Sp := fun vs H Q _ => ∃ (r : Addr) (t : Tm), vs = [.ref r] ∧ RdAt CR H r t.tx ∧ t.ok ∧ t.fit 10000 ∧
  ∀ a us H', RdAt CR H' r [] → Same (del H r) (del H' r) → H' a = some (.tup us) → WdsAt K (tups H') t.ws us → Q (.ref a) H'
theorem WdsAt.snoc {K : PySem.W.Frag} {H : Hp} {ws : List Wd} {vs : List V} {w : Wd} {v : V} (h : WdsAt K H ws vs) (k : WdAt K H w v) : WdsAt K H (ws ++ [w]) (vs ++ [v]) := h.app (WdsAt.one k)
section
variable {K : PySem.W.Frag} {CR : Addr} {H0 H : Hp} {r wl bl : Addr} {us : List V} {done : List Wd} {B : List Pb} {sg : List Nat}
theorem ntupL {G : Hp} {b : Addr} {ys : List V} (e : G b = some (.lst ys)) : ∀ xs, G b ≠ some (.tup xs) := fun xs q => by rw [e] at q; cases q
/-- one reads on -/
theorem RpI.read (I : RpI K CR H0 H r wl bl us done B sg) {H2 : Hp} {sg2 : List Nat} (s : Same (del H r) (del H2 r)) (R : RdAt CR H2 r sg2) : RpI K CR H0 H2 r wl bl us done B sg2 :=
  ⟨same_trans I.same s, R, I.wnew, I.bnew, I.wb, keepR I.rd s I.wo, keepR I.rd s I.bo, I.wds.same (tups_del s I.rd.ins), I.oks⟩
theorem RpI.word (I : RpI K CR H0 H r wl bl us done B sg) {w : Wd} {v : V} (h : WdAt K (tups H) w v) : RpI K CR H0 (upd H wl (.lst (us ++ [v]))) r wl bl (us ++ [v]) (done ++ [w]) B sg :=
  ⟨sameU I.same (del_none I.wnew), I.rd.put I.wo, I.wnew, I.bnew, I.wb, upd_same, by rw [upd_ne I.wb.symm]; exact I.bo, (I.wds.snoc h).same (tups_upd (ntupL I.wo)), I.oks⟩
theorem RpI.push (I : RpI K CR H0 H r wl bl us done B sg) {b : Pb} (k : b.ok) : RpI K CR H0 (upd H bl (.lst (B.reverse.map Pb.val ++ [b.val]))) r wl bl us done (b :: B) sg :=
  ⟨sameU I.same (del_none I.bnew), I.rd.put I.bo, I.wnew, I.bnew, I.wb, by rw [upd_ne I.wb]; exact I.wo, by rw [upd_same, List.reverse_cons, List.map_append]; rfl, I.wds.same (tups_upd (ntupL I.bo)), fun x hx => by
    rcases List.mem_cons.mp hx with q | q
    · rw [q]; exact k
    · exact I.oks x q⟩
theorem RpI.pop {b : Pb} (I : RpI K CR H0 H r wl bl us done (b :: B) sg) : RpI K CR H0 (upd H bl (.lst (B.reverse.map Pb.val))) r wl bl us done B sg :=
  ⟨sameU I.same (del_none I.bnew), I.rd.put I.bo, I.wnew, I.bnew, I.wb, by rw [upd_ne I.wb]; exact I.wo, upd_same, I.wds.same (tups_upd (ntupL I.bo)), fun x hx => I.oks x (List.mem_cons_of_mem _ hx)⟩
end
def RpW (K : PySem.W.Frag) (CR : Addr) (H0 : Hp) (r wl bl : Addr) (T : List Wd) : Nat → St → Hp → Prop := fun m σ H' => ∃ (us : List V) (done : List Wd) (t : Tm) (B : List Pb), m = (t.tx ++ Pb.rest B).length ∧ σ = [some (.ref r), some (.ref wl), some (.ref bl)] ∧ RpI K CR H0 H' r wl bl us done B (t.tx ++ Pb.rest B) ∧ done ++ (t.ws ++ Pb.pend B) = T ∧ t.ok ∧ t.fit 10000
theorem noLt {l : List Nat} {c : Nat} (h : ∀ d q, l = d :: q → d ∈ letters.cps.toList) (k : c ∉ letters.cps.toList) : ¬ l.head? = some c := by
  cases l with
  | nil => intro q; cases q
  | cons d q =>
    intro e
    injection e with e
    exact k (e ▸ h d q rfl)
section
variable {P : Program} {w : World} {K : PySem.W.Frag} {mg : Str → Option Value} {base : Heap} {CR f0 fG fI fN fE fL fM fK fP fT : Addr} {fd0 fdG fdI fdN fdE fdL fdM fdK fdP fdT : FuncData} {sP sT : Stmt}
theorem scRTake : FnScope ["self", "name", "kind"] ["self"] (defScope sRTake) := ⟨rfl, rfl, rfl, by decide +kernel, rfl, by decide +kernel, by decide +kernel⟩
theorem ok_rtake (RF : RdF K mg CR f0 fG fI fN fE fL fM fK fP fT fd0 fdG fdI fdN fdE fdL fdM fdK fdP fdT sRKind sP sRTake) (T : TxB mg) (T2 : TxD mg) (TN : TxN mg) : FnOk P w K mg base CX0 4 fT fdT ["self"] (spRTake K CR) := by
  have R := RF.R
  have GN : FnOk P w K mg base CX0 2 fN fdN ["self", "signs"] (spRNeed K CR) := ok_rneed RF.FN RF.FG RF.bG RF.mG T R
  have GM : FnOk P w K mg base CX0 3 fM fdM ["self"] (spRName K CR) := ok_rname RF.FM RF.FL RF.bL RF.mL RF.FI RF.bI RF.mI T TN R
  have GK : FnOk P w K mg base CX0 3 fK fdK ["self"] (spRKind K CR) := ok_rkind RF T T2 TN
  refine RF.FT.ok scRTake (fun vs H Q E h => ?_) (fun cdv A outer s H vs Q E hr h => ?_)
  · obtain ⟨_, _, _, _, rfl, _⟩ := h
    rfl
  · obtain ⟨r, z, t, rest, rfl, hR, hz, ha, kq⟩ := h
    have nd := scRTake.nd
    have hr2 := hr.mono (show 2 ≤ 3 by decide)
    refine ⟨_, pss_cons (ps_expr (pe_meth (pv 0) R.cl RF.mN GN hr2 RF.bN .nil pass0 (pa_cons pe_str pa_nil)))
    (pss_cons (ps_set (i := 1) nd rfl (Or.inl rfl) (pe_meth0 (pv 0) R.cl RF.mM GM hr RF.bM .nil pass0))
    (pss_cons (ps_expr (pe_meth (pv 0) R.cl RF.mN GN hr2 RF.bN .nil pass0 (pa_cons pe_str pa_nil)))
    (pss_cons (ps_set (i := 2) nd rfl (Or.inl rfl) (pe_meth0 (pv 0) R.cl RF.mK GK hr RF.bK .nil pass0))
    (pss_cons (ps_expr (pe_meth (pv 0) R.cl RF.mN GN hr2 RF.bN .nil pass0 (pa_cons pe_str pa_nil)))
    (pss_one (ps_ret (pe_tup (pa_cons (pv 1) (pa_cons (pv 2) pa_nil))))))))), ?_⟩
    obtain ⟨dx, z0, n0, hA, _⟩ := id hR
    refine ⟨_, rfl, r, dx, _, rfl, hA, rfl, r, [91], _, _, rfl, (by decide +kernel), hR, fun H1 R1 s1 => ?_⟩
    obtain ⟨dx1, z1, n1, hA1, _⟩ := id R1
    refine ⟨_, rfl, r, dx1, _, rfl, hA1, rfl, r, z, _, rfl, R1, hz, (by show 58 ∉ letters.cps.toList; decide +kernel), fun H2 R2 s2 => ?_⟩
    obtain ⟨dx2, z2, n2, hA2, _⟩ := id R2
    refine ⟨_, rfl, r, dx2, _, rfl, hA2, rfl, r, [58], _, _, rfl, (by decide +kernel), R2, fun H3 R3 s3 => ?_⟩
    obtain ⟨dx3, z3, n3, hA3, _⟩ := id R3
    refine ⟨_, rfl, r, dx3, _, rfl, hA3, rfl, r, t, _, rfl, R3, ha, (fun q => by injection q with q; cases q), fun v H4 R4 s4 tv => ?_⟩
    obtain ⟨dx4, z4, n4, hA4, _⟩ := id R4
    refine ⟨_, rfl, r, dx4, _, rfl, hA4, rfl, r, [93, 32], _, _, rfl, (by decide +kernel), R4, fun H5 R5 s5 => ?_⟩
    refine ⟨_, rfl, _, rfl, (by show 2 ≤ sizeLine; decide), fun p np => ?_⟩
    have k6 := same_new (o := .tup [.str z, v]) (same_refl H5) np
    exact kq p v _ (R5.same k6) (same_trans (same_trans (same_trans s1 s2) (same_trans (same_trans s3 s4) s5)) (del_same_of k6)) upd_same ((tv.same (tups_del s5 R4.ins)).same (tups_mono k6))
theorem scRProg : FnScope ["self", "words", "behind"] ["self"] (defScope sRProg) := ⟨rfl, rfl, rfl, by decide +kernel, rfl, by decide +kernel, by decide +kernel⟩
theorem ok_rprog (RF : RdF K mg CR f0 fG fI fN fE fL fM fK fP fT fd0 fdG fdI fdN fdE fdL fdM fdK fdP fdT sRKind sRProg sRTake) (hu : ∃ u, mg "USE" = some (.str "@" u)) (T : TxB mg) (T2 : TxD mg) (TN : TxN mg) : FnOk P w K mg base CX0 5 fP fdP ["self"] (spRProg K CR) := by
  have R := RF.R
  have GG : FnOk P w K mg base CX0 1 fG fdG ["self", "sign"] (spRGoes K CR) := ok_rgoes RF.FG T R
  have GN : FnOk P w K mg base CX0 2 fN fdN ["self", "signs"] (spRNeed K CR) := ok_rneed RF.FN RF.FG RF.bG RF.mG T R
  have GM : FnOk P w K mg base CX0 3 fM fdM ["self"] (spRName K CR) := ok_rname RF.FM RF.FL RF.bL RF.mL RF.FI RF.bI RF.mI T TN R
  have GT : FnOk P w K mg base CX0 4 fT fdT ["self"] (spRTake K CR) := ok_rtake RF T T2 TN
  obtain ⟨uU, hU⟩ := hu
  refine RF.FP.ok scRProg (fun vs H Q E h => ?_) (fun cdv A outer s H vs Q E hr h => ?_)
  · obtain ⟨_, _, rfl, _⟩ := h
    rfl
  · obtain ⟨r, t, rfl, hR, tk, tf, kq⟩ := h
    have nd := scRProg.nd
    have hr1 := hr.mono (show 1 ≤ 4 by decide)
    have hr2 := hr.mono (show 2 ≤ 4 by decide)
    have hr3 := hr.mono (show 3 ≤ 4 by decide)
    refine ⟨_, pss_cons (ps_set (i := 1) nd rfl (Or.inl rfl) (pe_lst pa_nil))
    (pss_cons (ps_set (i := 2) nd rfl (Or.inl rfl) (pe_lst pa_nil))
    (pss_one (ps_while PassesOwn.never (pt_val pe_bl)
        (pss_cons (ps_if (pt_val (pe_meth (pv 0) R.cl RF.mG GG hr1 RF.bG .nil pass0 (pa_cons pe_str pa_nil)))
            (pss_cons (ps_expr (pe_meth (pv 0) R.cl RF.mN GN hr2 RF.bN .nil pass0 (pa_cons pe_str pa_nil)))
            (pss_cons (ps_expr (pe_bm PySem.F.plainAttrs_list PySem.F.slot_list_append PySem.F.type_list_append mt_append (pv 1) (pa_cons (pe_glob (v := .str "@") (by rfl) hU ⟨_, rfl⟩) pa_nil)))
            (pss_cons (ps_expr (pe_bm PySem.F.plainAttrs_list PySem.F.slot_list_append PySem.F.type_list_append mt_append (pv 2) (pa_cons pe_str pa_nil)))
            (pss_one ps_continue))))
            pss_nil)
        (pss_cons (ps_if (pt_val (pe_meth (pv 0) R.cl RF.mG GG hr1 RF.bG .nil pass0 (pa_cons pe_str pa_nil)))
            (pss_cons (ps_expr (pe_bm PySem.F.plainAttrs_list PySem.F.slot_list_append PySem.F.type_list_append mt_append (pv 1) (pa_cons (pe_meth0 (pv 0) R.cl RF.mT GT hr RF.bT .nil pass0) pa_nil)))
            (pss_one ps_continue))
            pss_nil)
        (pss_cons (ps_expr (pe_bm PySem.F.plainAttrs_list PySem.F.slot_list_append PySem.F.type_list_append mt_append (pv 1) (pa_cons (pe_meth0 (pv 0) R.cl RF.mM GM hr3 RF.bM .nil pass0) pa_nil)))
        (Evl.pss_cut (ps_while PassesOwn.never (PW.pt (pw_and (pt_truth (pv 2) (by intro _; rfl)) (pw_and1 (pt_cmpR op_eq (pe_ix ix_list (pv 2) (pe_un un_neg pe_int) (fun _ _ => rfl)) pe_str (nomark _)))))
            (pss_one (ps_expr (pe_meth (pv 0) R.cl RF.mN GN hr2 RF.bN .nil pass0 (pa_cons (pe_bm0 PySem.F.plainAttrs_list PySem.F.slot_list_pop PySem.F.type_list_pop mt_pop (pv 2)) pa_nil)))))
        (pss_cons (ps_if (pt_not (pt_truth (pv 2) (by intro _; rfl)))
            (pss_one (ps_ret (pe_callTy call_tuple_of (by rfl) T2.tuple (by decide +kernel) (pa_cons (pv 1) pa_nil))))
            pss_nil)
        (pss_cons (ps_expr (pe_meth (pv 0) R.cl RF.mN GN hr2 RF.bN .nil pass0 (pa_cons (pe_bm0 PySem.F.plainAttrs_list PySem.F.slot_list_pop PySem.F.type_list_pop mt_pop (pv 2)) pa_nil)))
        (pss_one (ps_expr (pe_bm PySem.F.plainAttrs_list PySem.F.slot_list_append PySem.F.type_list_append mt_append (pv 2) (pa_cons pe_str pa_nil))))))))))))), ?_⟩
    refine ⟨(by show 0 ≤ sizeLine; decide), fun wl nwl => ?_⟩
    have s0 := same_new (o := .lst []) (same_refl H) nwl
    refine ⟨(by show 0 ≤ sizeLine; decide), fun bl nbl => ?_⟩
    have wb : wl ≠ bl := ne_of_none upd_same nbl
    have nbl0 : H bl = none := same_none s0 nbl
    have s1 := same_new (o := .lst []) s0 nbl
    have e0 : upd (upd H wl (.lst [])) bl (.lst []) wl = some (.lst []) := by rw [upd_ne wb]; exact upd_same
    have e1 : upd (upd H wl (.lst [])) bl (.lst []) bl = some (.lst []) := upd_same
    generalize upd (upd H wl (.lst [])) bl (.lst []) = H1 at s1 e0 e1
    have tlen := ws_tx tk
    have rlen := hR.len
    refine ⟨RpW K CR H r wl bl t.ws, ⟨_, [], [], t, [], rfl, rfl, ⟨del_same_of s1, by rw [show Pb.rest [] = [] from rfl, List.append_nil]; exact hR.same s1, nwl, nbl0, wb, e0, e1, WdsAt.nil, fun b h => by cases h⟩, by show [] ++ (t.ws ++ []) = _; rw [List.append_nil]; rfl, tk, tf⟩, ?_⟩
    rintro m σ H' ⟨us, done, tm, B, rfl, rfl, I, eq, ok, fit⟩
    refine ⟨_, rfl, ?_⟩
    refine ifT rfl ?_
    refine ⟨fun σ'' H'' => ∃ m', m' < (tm.tx ++ Pb.rest B).length ∧ RpW K CR H r wl bl t.ws m' σ'' H'', fun σ'' H'' z => z, ?_⟩
    have ird := I.rd
    obtain ⟨dx, z0, n0, hA, _⟩ := id ird
    have lens := ird.len
    have blen := rest_len (B := B)
    have dlen : done.length + tm.ws.length ≤ 4000000 := by
      have := congrArg List.length eq
      rw [List.length_append, List.length_append] at this
      omega
    have ulen : us.length = done.length := I.wds.1
    have tpos := ws_pos tm
    have room : us.length < sizeLine := Nat.lt_of_le_of_lt (m := 4000000) (by omega) (by decide)
    have blen2 : B.length ≤ 4000000 := by rw [List.length_append] at lens; omega
    have broom : (B.reverse.map Pb.val).length < sizeLine := by rw [List.length_map, List.length_reverse]; exact Nat.lt_of_le_of_lt (m := 4000000) (by omega) (by decide)
    cases tm with
    | us f a =>
      have es : (Tm.us f a).tx ++ Pb.rest B = [40] ++ (f.tx ++ Pb.rest (.sp a :: B)) := by
        show 40 :: (f.tx ++ 32 :: (a.tx ++ [41])) ++ Pb.rest B = [40] ++ (f.tx ++ (32 :: (a.tx ++ 41 :: Pb.rest B)))
        simp
      rw [es] at I ird ⊢
      refine ⟨_, rfl, r, dx, _, rfl, hA, rfl, r, _, 40, _, rfl, (by decide +kernel), ird, _, rfl, ?_⟩
      refine ifT rfl ?_
      refine ⟨_, rfl, r, dx, _, rfl, hA, rfl, r, [40], _, _, rfl, (by decide +kernel), ird, fun H2 R2 s2 => ?_⟩
      have I2 := I.read s2 R2
      refine ⟨_, rfl, .inl ⟨rfl, _, SqL.of I2.wo⟩, wl, _, _, rfl, rfl, I2.wo, room, ?_⟩
      have I3 := I2.word (w := .st "@") (v := .str "@") WdAt.us
      refine ⟨_, rfl, .inl ⟨rfl, _, SqL.of I3.bo⟩, bl, _, _, rfl, rfl, I3.bo, broom, ?_⟩
      have I4 : RpI K CR H (upd (upd H2 wl (.lst (us ++ [V.str "@"]))) bl (.lst (B.reverse.map Pb.val ++ [V.str " "]))) r wl bl (us ++ [V.str "@"]) (done ++ [Wd.st "@"]) (.sp a :: B) (f.tx ++ Pb.rest (.sp a :: B)) := I3.push (b := .sp a) ⟨ok.2, fit.2⟩
      refine ⟨_, (Nat.lt_succ_self _ : (f.tx ++ Pb.rest (.sp a :: B)).length < _), us ++ [V.str "@"], done ++ [Wd.st "@"], f, .sp a :: B, rfl, rfl, I4, ?_, ok.1, fit.1⟩
      rw [← eq]
      show done ++ [.st "@"] ++ (f.ws ++ (a.ws ++ Pb.pend B)) = done ++ (.st "@" :: (f.ws ++ a.ws) ++ Pb.pend B)
      simp
    | tk z k b =>
      have es : (Tm.tk z k b).tx ++ Pb.rest B = 91 :: (tl z ++ 58 :: (kL k ++ 93 :: 32 :: (b.tx ++ Pb.rest B))) := by
        show 91 :: (tl z ++ 58 :: (kL k ++ 93 :: 32 :: b.tx)) ++ Pb.rest B = _
        simp
      rw [es] at I ird ⊢
      refine ⟨_, rfl, r, dx, _, rfl, hA, rfl, r, _, 40, _, rfl, (by decide +kernel), ird, _, rfl, ?_⟩
      refine ifF rfl ?_
      refine ⟨_, rfl, r, dx, _, rfl, hA, rfl, r, _, 91, _, rfl, (by decide +kernel), ird, _, rfl, ?_⟩
      refine ifT rfl ?_
      refine ⟨_, rfl, .inl ⟨rfl, _, SqL.of I.wo⟩, _, rfl, r, dx, _, rfl, hA, rfl, r, z, k, _, rfl, ird, ok.1, ok.2.1, fun p y H2 R2 s2 hp hy => ?_⟩
      have I2 := I.read s2 R2
      refine ⟨wl, _, _, rfl, rfl, I2.wo, room, ?_⟩
      have I3 := I2.word (w := .pr (some z) k) (v := .ref p) (WdAt.tk ok.1 (tups_of hp) hy fit.1)
      refine ⟨_, ?_, us ++ [.ref p], done ++ [.pr (some z) k], b, B, rfl, rfl, I3, ?_, ok.2.2, fit.2⟩
      · simp only [List.length_cons, List.length_append]; omega
      · rw [← eq]
        show done ++ [_] ++ (b.ws ++ Pb.pend B) = done ++ (_ :: b.ws ++ Pb.pend B)
        simp
    | nm z =>
      have es : (Tm.nm z).tx ++ Pb.rest B = tl z ++ Pb.rest B := rfl
      rw [es] at I ird ⊢
      have zl := name_len ok
      have zs := name_signs ok
      have hd : ∀ d q, tl z ++ Pb.rest B = d :: q → d ∈ letters.cps.toList := fun d q e => by
        cases hz : tl z with
        | nil => rw [hz] at zl; exact absurd zl.1 (by simp)
        | cons c l =>
          rw [hz] at e zs
          injection e with e _
          rw [← e]; exact zs c List.mem_cons_self
      refine ⟨_, rfl, r, dx, _, rfl, hA, rfl, r, _, 40, _, rfl, (by decide +kernel), ird, _, rfl, ?_⟩
      refine ifF (decide_eq_false (noLt hd (by decide +kernel))) ?_
      refine ⟨_, rfl, r, dx, _, rfl, hA, rfl, r, _, 91, _, rfl, (by decide +kernel), ird, _, rfl, ?_⟩
      refine ifF (decide_eq_false (noLt hd (by decide +kernel))) ?_
      refine ⟨_, rfl, .inl ⟨rfl, _, SqL.of I.wo⟩, _, rfl, r, dx, _, rfl, hA, rfl, r, z, _, rfl, ird, ok, rest_stop, fun H2 R2 s2 => ?_⟩
      have I2 := I.read s2 R2
      refine ⟨wl, _, _, rfl, rfl, I2.wo, room, ?_⟩
      have I3 := I2.word (w := .st z) (v := .str z) (WdAt.nm ok)
      have eq3 : done ++ [.st z] ++ Pb.pend B = t.ws := by
        rw [← eq]
        show _ = done ++ (.st z :: [] ++ Pb.pend B)
        simp
      generalize upd H2 wl (.lst (us ++ [.str z])) = H3 at I3
      generalize us ++ [V.str z] = us3 at I3
      generalize done ++ [Wd.st z] = done3 at I3 eq3
      have lt3 : (Pb.rest B).length < (tl z ++ Pb.rest B).length := by rw [List.length_append]; omega
      -- all brackets that close here
      refine ⟨fun σ'' H'' => ∃ B2, σ'' = [some (.ref r), some (.ref wl), some (.ref bl)] ∧ RpI K CR H H'' r wl bl us3 done3 B2 (Pb.rest B2) ∧ done3 ++ Pb.pend B2 = t.ws ∧ (Pb.rest B2).length < (tl z ++ Pb.rest B).length ∧ (B2 = [] ∨ ∃ a B3, B2 = .sp a :: B3), ?_, ?_⟩
      · refine ⟨fun m σ'' H'' => ∃ B2, m = B2.length ∧ σ'' = [some (.ref r), some (.ref wl), some (.ref bl)] ∧ RpI K CR H H'' r wl bl us3 done3 B2 (Pb.rest B2) ∧ done3 ++ Pb.pend B2 = t.ws ∧ (Pb.rest B2).length < (tl z ++ Pb.rest B).length, ⟨_, B, rfl, rfl, I3, eq3, lt3⟩, ?_⟩
        rintro m σ H4 ⟨B2, rfl, rfl, I4, eq4, lt4⟩
        refine ⟨_, rfl, _, .inl ⟨_, SqL.of I4.bo, rfl⟩, ?_⟩
        cases B2 with
        | nil =>
          refine ifF rfl ?_
          refine ifF rfl ?_
          exact ⟨[], rfl, I4, eq4, lt4, .inl rfl⟩
        | cons b B3 =>
          have bo4 := I4.bo
          rw [List.reverse_cons, List.map_append] at bo4
          refine ifT (by simp) ?_
          cases b with
          | sp a =>
            refine ⟨_, rfl, _, rfl, bl, _, _, V.str " ", rfl, rfl, SqL.of bo4, atI_last _ _, rfl, _, rfl, ?_⟩
            refine ifF (by decide +kernel) ?_
            exact ⟨.sp a :: B3, rfl, I4, eq4, lt4, .inr ⟨a, B3, rfl⟩⟩
          | cl =>
            refine ⟨_, rfl, _, rfl, bl, _, _, V.str ")", rfl, rfl, SqL.of bo4, atI_last _ _, rfl, _, rfl, ?_⟩
            refine ifT (by decide +kernel) ?_
            refine ⟨fun σ'' H'' => ∃ m', m' < B3.length + 1 ∧ ∃ B2, m' = B2.length ∧ σ'' = [some (.ref r), some (.ref wl), some (.ref bl)] ∧ RpI K CR H H'' r wl bl us3 done3 B2 (Pb.rest B2) ∧ done3 ++ Pb.pend B2 = t.ws ∧ (Pb.rest B2).length < (tl z ++ Pb.rest B).length, fun σ'' H'' z => z, ?_⟩
            obtain ⟨dx4, z4, n4, hA4, _⟩ := id I4.rd
            have I5 := I4.pop
            refine ⟨_, rfl, r, dx4, _, rfl, hA4, rfl, _, rfl, .inl ⟨rfl, _, SqL.of bo4⟩, bl, _, .str ")", rfl, rfl, bo4, (by simp [Pb.val]), ?_⟩
            rw [show List.map Pb.val [Pb.cl] = [V.str ")"] from rfl, List.dropLast_concat]
            refine ⟨r, [41], _, _, rfl, (by decide +kernel), I5.rd, fun H6 R6 s6 => ?_⟩
            refine ⟨_, Nat.lt_succ_self _, B3, rfl, rfl, I5.read s6 R6, eq4, ?_⟩
            have : (Pb.rest B3).length < (Pb.rest (.cl :: B3)).length := Nat.lt_succ_self _
            omega
      · rintro _ H4 ⟨B2, rfl, I4, eq4, lt4, q⟩
        rcases q with rfl | ⟨a, B3, rfl⟩
        · refine ⟨_, rfl, _, .inl ⟨_, SqL.of I4.bo, rfl⟩, ?_⟩
          refine ifT rfl ?_
          refine ⟨_, rfl, wl, _, rfl, .inl ⟨SqL.of I4.wo, fun p np => ?_⟩⟩
          have k5 := same_new (o := .tup us3) (same_refl H4) np
          have ed : done3 = t.ws := by
            have := eq4
            rw [show Pb.pend [] = [] from rfl, List.append_nil] at this
            exact this
          rw [ed] at I4
          exact kq p us3 _ (I4.rd.same k5) (same_trans I4.same (del_same_of k5)) upd_same (I4.wds.same (tups_mono k5))
        · have bo4 := I4.bo
          rw [List.reverse_cons, List.map_append] at bo4
          refine ⟨_, rfl, _, .inl ⟨_, SqL.of bo4, rfl⟩, ?_⟩
          refine ifF (by simp) ?_
          obtain ⟨dx4, z4, n4, hA4, _⟩ := id I4.rd
          have okb := I4.oks (.sp a) List.mem_cons_self
          have I5 := I4.pop
          refine ⟨_, rfl, r, dx4, _, rfl, hA4, rfl, _, rfl, .inl ⟨rfl, _, SqL.of bo4⟩, bl, _, .str " ", rfl, rfl, bo4, (by simp [Pb.val]), ?_⟩
          rw [show List.map Pb.val [Pb.sp a] = [V.str " "] from rfl, List.dropLast_concat]
          refine ⟨r, [32], a.tx ++ 41 :: Pb.rest B3, _, rfl, (by decide +kernel), I5.rd, fun H6 R6 s6 => ?_⟩
          have I6 := I5.read s6 R6
          have b3 := rest_len (B := B3)
          have l3 := I4.rd.len
          have e3 : (Pb.rest (.sp a :: B3)).length = 1 + (a.tx.length + (1 + (Pb.rest B3).length)) := by
            show (32 :: (a.tx ++ 41 :: Pb.rest B3)).length = _
            simp only [List.length_cons, List.length_append]; omega
          refine ⟨_, rfl, .inl ⟨rfl, _, SqL.of I6.bo⟩, bl, _, _, rfl, rfl, I6.bo, (by rw [List.length_map, List.length_reverse]; exact Nat.lt_of_le_of_lt (m := 4000000) (by omega) (by decide)), ?_⟩
          have I7 := I6.push (b := .cl) trivial
          refine ⟨(a.tx ++ Pb.rest (.cl :: B3)).length, ?_, us3, done3, a, .cl :: B3, rfl, rfl, I7, eq4, okb.1, okb.2⟩
          have e4 : (a.tx ++ Pb.rest (.cl :: B3)).length = a.tx.length + (1 + (Pb.rest B3).length) := by
            show (a.tx ++ 41 :: Pb.rest B3).length = _
            simp only [List.length_cons, List.length_append]; omega
          omega
end
end LG

set_option Elab.async false
set_option linter.all false
set_option maxRecDepth 100000
set_option maxHeartbeats 4100000
namespace LG
open PySem L2
abbrev sKind : Stmt := top 18
/-- how great a kind may be -/
structure TxKK (mg : Str → Option Value) : Prop where
  most : ∃ u, mg "MOST_LETTERS" = some (.int 60 u)
  deep : ∃ u, mg "MOST_DEEP" = some (.int 30 u)
/-- what waits: the thing, how deep, its tuple, its value -/
structure Wt where
  t : Th
  d : Nat
  a : Addr
  v : V
def wsz (ws : List Wt) : Nat := (ws.map (·.t.size)).sum
def WtAt (K : PySem.W.Frag) (H H' : Hp) (s : Wt) : Prop := H' s.a = some (.tup [s.v, .int (s.d : Int)]) ∧ ThAt K H s.t s.v
def jws (c : Nat) (ws : List Wt) : Bool := jud c (ws.map fun s => (s.t, s.d))
def spKind (K : PySem.W.Frag) : Sp := fun vs H Q _ => ∃ (v : V) (t : Th), vs = [v] ∧ ThAt K H t v ∧ t.size ≤ 10000 ∧ ∀ H', Same H H' → Q (.bl t.isKind) H'
def fa (s : Wt) : V := .ref s.a
/-- between two turns of is_kind -/
def KW (K : PySem.W.Frag) (H : Hp) (t : Th) (v : V) (wl : Addr) : Nat → St → Hp → Prop := fun m σ H' => ∃ (ws : List Wt) (c : Nat) (p3 p4 : Option V), m = wsz ws ∧ σ = [some v, some (.int (c : Int)), some (.ref wl), p3, p4] ∧ Same H H' ∧
  H' wl = some (.lst (ws.map fa)) ∧ (∀ s ∈ ws, WtAt K H H' s) ∧ jws c ws = t.isKind ∧ wsz ws ≤ t.size
theorem wsz_snoc (ws : List Wt) (s : Wt) : wsz (ws ++ [s]) = wsz ws + s.t.size := by simp [wsz]
theorem jws_snoc (c : Nat) (ws : List Wt) (s : Wt) : jws c (ws ++ [s]) = jud c ((ws.map fun s => (s.t, s.d)) ++ [(s.t, s.d)]) := by simp [jws]
theorem len_wsz : ∀ ws : List Wt, ws.length ≤ wsz ws
  | [] => Nat.le_refl _
  | s :: ws => by
    have h := len_wsz ws
    have p := s.t.size_pos
    simp only [wsz, List.map_cons, List.sum_cons, List.length_cons] at *
    omega
section
variable {P : Program} {w : World} {K : PySem.W.Frag} {mg : Str → Option Value} {base : Heap}
theorem scKind : FnScope ["thing", "letters", "waiting", "part", "deep"] ["thing"] (defScope sKind) := ⟨rfl, rfl, rfl, by decide +kernel, rfl, by decide +kernel, by decide +kernel⟩
theorem ok_kind {f fL f1 f2 fP : Addr} {fd fdL fd1 fd2 fdP : FuncData} (F : Fn K mg "is_kind" sKind ["thing"] f fd) (NL : Fn K mg "is_letter" sLetter ["thing"] fL fdL) (N2 : Fn K mg "is_integer_within" sWithin ["low", "high", "thing"] f2 fd2) (N1 : Fn K mg "is_integer" sInteger ["thing"] f1 fd1)
    (NP : Fn K mg "is_pair" sPair ["thing"] fP fdP) (T : TxB mg) (T2 : TxK mg) (T3 : TxKK mg) : FnOk P w K mg base CX0 4 f fd ["thing"] (spKind K) := by
  have GL : FnOk P w K mg base CX0 3 fL fdL ["thing"] (spLetter K) := ok_letter NL N2 N1 T T2
  have GP : FnOk P w K mg base CX0 1 fP fdP ["thing"] (spPair K) := ok_pair NP T T2
  obtain ⟨um, hm⟩ := T3.most
  obtain ⟨ud, hd⟩ := T3.deep
  refine F.F.ok scKind (fun vs H Q E h => ?_) (fun cdv A outer s H vs Q E hr h => ?_)
  · obtain ⟨v, t, rfl, _⟩ := h
    rfl
  · obtain ⟨v, t, rfl, hv, hz, k⟩ := h
    have nd := scKind.nd
    have hr1 := hr.mono (show 1 ≤ 3 by decide)
    refine ⟨_, pss_cons (ps_set (i := 1) nd rfl (Or.inl rfl) pe_int)
      (pss_cons (ps_set (i := 2) nd rfl (Or.inl rfl) (pe_lst (pa_cons (pe_tup (pa_cons (pv 0) (pa_cons pe_int pa_nil))) pa_nil)))
      (pss_cons (ps_while PassesOwn.never (PW.pt (pw_and (pt_truth (pv 2) (by intro _; rfl)) (pw_and1 (pt_cmpR op_le (pv 1) (pe_glob (v := .int 60) (by rfl) hm ⟨_, rfl⟩) (nomark _)))))
        (pss_cons (ps_asg (pe_bm0 PySem.F.plainAttrs_list PySem.F.slot_list_pop PySem.F.type_list_pop mt_pop (pv 2)) (pg_tup rfl (pgs_cons (pg_name (i := 3) nd rfl (Or.inl rfl)) (pgs_cons (pg_name (i := 4) nd rfl (Or.inl rfl)) pgs_nil))))
        (pss_one (ps_if (pt_val (pe_call GL hr (by rfl) NL.m NL.F.kp NL.b .nil pass0 (pa_cons (pv 3) pa_nil)))
          (pss_one (ps_aug (i := 1) nd rfl (.inl rfl) pe_int ip_add))
          (pss_one (ps_if (PW.pt (pw_and (pt_val (pe_call GP hr1 (by rfl) NP.m NP.F.kp NP.b .nil pass0 (pa_cons (pv 3) pa_nil))) (pw_and1 (pt_cmpR op_lt (pv 4) (pe_glob (v := .int 30) (by rfl) hd ⟨_, rfl⟩) (nomark _)))))
            (pss_one (ps_expr (pe_bm PySem.F.plainAttrs_list PySem.F.slot_list_extend PySem.F.type_list_extend mt_extend (pv 2) (pa_cons (pe_lst (pa_cons (pe_tup (pa_cons (pe_ix ix_tup (pv 3) pe_int (fun _ _ => rfl)) (pa_cons (pe_op op_add (pv 4) pe_int) pa_nil)))
              (pa_cons (pe_tup (pa_cons (pe_ix ix_tup (pv 3) pe_int (fun _ _ => rfl)) (pa_cons (pe_op op_add (pv 4) pe_int) pa_nil))) pa_nil))) pa_nil))))
            (pss_one (ps_ret pe_bl))))))))
      (pss_one (ps_ret (pe_cmpR op_le (pv 1) (pe_glob (v := .int 60) (by rfl) hm ⟨_, rfl⟩) (nomark _)))))), ?_⟩
    refine ⟨_, rfl, (by show 2 ≤ sizeLine; decide), fun a0 h0 => ?_⟩
    refine ⟨(by show 1 ≤ sizeLine; decide), fun wl hw => ?_⟩
    have hw0 : H wl = none := same_none (same_new (same_refl H) h0) hw
    refine ⟨KW K H t v wl, ⟨_, [⟨t, 0, a0, v⟩], 0, none, none, rfl, rfl, same_new (same_new (same_refl H) h0) hw, upd_same, fun s hs => ?_, jud_one, (by simp [wsz])⟩, ?_⟩
    · rw [List.mem_singleton] at hs
      subst hs
      exact ⟨by rw [upd_ne (ne_of_none upd_same hw)]; exact upd_same, hv⟩
    · rintro m σ H' ⟨ws, c, p3, p4, rfl, rfl, hs, hwl, hws, hj, hz'⟩
      have fin : ∀ b : Bool, jws c ws = b → t.isKind = b := fun b e => hj.symm.trans e
      refine ⟨_, rfl, _, .inl ⟨_, SqL.of hwl, rfl⟩, ?_⟩
      rcases nil_or_snoc ws with rfl | ⟨ws', s1, rfl⟩
      · refine ifF rfl ?_
        refine ifF rfl ?_
        refine ⟨_, rfl, _, _, rfl, rfl, ?_⟩
        have e := k H' hs
        rw [fin _ jud_nil] at e
        have q : decide (c ≤ 60) = decide ((c : Int) ≤ 60) := by simp only [decide_eq_decide]; omega
        rw [q] at e
        exact e
      · rw [List.map_append] at hwl
        have e1 : (!(List.map fa (ws' ++ [s1])).isEmpty) = true := by simp
        refine ifT e1 ?_
        refine ⟨_, rfl, _, _, rfl, rfl, _, rfl, ?_⟩
        refine ite2 (fun c60 => ?_) (fun c60 => ?_)
        · have hmem : s1 ∈ ws' ++ [s1] := List.mem_append_right _ List.mem_cons_self
          obtain ⟨t1, t2⟩ := hws s1 hmem
          have hne : s1.a ≠ wl := ne_of t1 hwl (fun z => by cases z)
          refine ⟨fun σ'' H'' => ∃ m', m' < wsz (ws' ++ [s1]) ∧ KW K H t v wl m' σ'' H'', fun σ'' H'' z => z, ?_⟩
          refine ⟨_, rfl, .inl ⟨rfl, _, SqL.of hwl⟩, wl, _, .ref s1.a, rfl, rfl, hwl, (by simp [fa]), ?_⟩
          refine ⟨s1.a, _, rfl, SqT.of (by rw [upd_ne hne]; exact t1), rfl, _, _, rfl, _, _, rfl, rfl, ?_⟩
          have dl : (List.map fa ws' ++ List.map fa [s1]).dropLast = List.map fa ws' := by simp
          rw [dl]
          generalize hG : upd H' wl (.lst (List.map fa ws')) = H1
          have g1 : H1 wl = some (.lst (List.map fa ws')) := by rw [← hG]; exact upd_same
          have g2 : ∀ b, b ≠ wl → H1 b = H' b := fun b hb => by rw [← hG]; exact upd_ne hb
          have g3 : Same H H1 := fun b o e => by rw [g2 b (ne_of_none e hw0)]; exact hs b o e
          have g4 : ∀ s ∈ ws', WtAt K H H1 s := fun s h => by
            obtain ⟨q1, q2⟩ := hws s (List.mem_append_left _ h)
            exact ⟨by rw [g2 _ (ne_of q1 hwl (fun z => by cases z))]; exact q1, q2⟩
          have hsz := wsz_snoc ws' s1
          have hp := s1.t.size_pos
          rw [jws_snoc] at hj
          clear hG
          refine ⟨_, rfl, s1.v, s1.t, rfl, t2.same g3, _, rfl, ?_⟩
          refine ite2 (fun cL => ?_) (fun cL => ?_)
          · rw [jud_letter cL] at hj
            exact ⟨_, rfl, _, _, rfl, rfl, wsz ws', by omega, ws', c + 1, _, _, rfl, rfl, g3, g1, g4, hj, by omega⟩
          · refine ⟨_, rfl, s1.v, s1.t, rfl, t2.same g3, _, rfl, ?_⟩
            have bad : (∀ l r, s1.t = .pr l r → ¬ s1.d < 30) → Q (.bl false) H1 := fun h => by
              rw [jud_bad (Bool.eq_false_iff.mpr cL) h] at hj
              have e := k H1 g3
              rw [← hj] at e
              exact e
            refine ite2 (fun cP => ?_) (fun cP => ?_)
            · refine ⟨_, rfl, _, _, rfl, rfl, _, rfl, ?_⟩
              refine ite2 (fun cD => ?_) (fun cD => ?_)
              · obtain ⟨l, r, et⟩ : ∃ l r, s1.t = .pr l r := by
                  cases e : s1.t <;> rw [e] at cP <;> first | exact ⟨_, _, rfl⟩ | cases cP
                have d30 : s1.d < 30 := by have := of_decide_eq_true cD; omega
                rw [et] at t2 hj hsz
                rw [jud_pair d30] at hj
                obtain ⟨pa, x, y, ev, hpa, tl, tr⟩ := t2
                have hp1 := g3 _ _ hpa
                refine ⟨_, rfl, .inl ⟨rfl, _, SqL.of g1⟩, ?_⟩
                refine ⟨_, rfl, pa, _, _, x, ev, rfl, SqT.of hp1, rfl, _, rfl, _, _, rfl, rfl, (by show 2 ≤ sizeLine; decide), fun q1 hq1 => ?_⟩
                have a1 := same_new (o := .tup [x, .int ((s1.d : Int) + 1)]) (same_refl H1) hq1
                refine ⟨_, rfl, pa, _, _, y, ev, rfl, SqT.of (a1 _ _ hp1), rfl, _, rfl, _, _, rfl, rfl, (by show 2 ≤ sizeLine; decide), fun q2 hq2 => ?_⟩
                have a2 := same_new (o := .tup [y, .int ((s1.d : Int) + 1)]) a1 hq2
                have b2 := same_new (o := .tup [y, .int ((s1.d : Int) + 1)]) (same_refl _) hq2
                refine ⟨(by show 2 ≤ sizeLine; decide), fun l2 hl2 => ?_⟩
                have a3 := same_new (o := .lst [.ref q1, .ref q2]) a2 hl2
                have b3 := same_new (o := .lst [.ref q1, .ref q2]) (same_refl _) hl2
                have lw := len_wsz ws'
                have e1 : (Th.pr l r).size = l.size + r.size + 1 := rfl
                refine ⟨wl, l2, _, _, rfl, rfl, a3 _ _ g1, upd_same, (by rw [List.length_map]; show ws'.length + 2 ≤ sizeLine; exact Nat.le_of_lt (Nat.lt_of_le_of_lt (m := 20000) (by omega) (by decide))), ?_⟩
                have q1w : q1 ≠ wl := fun z => by rw [z, g1] at hq1; cases hq1
                have q2w : q2 ≠ wl := fun z => by rw [z, a1 _ _ g1] at hq2; cases hq2
                refine ⟨wsz ws' + (l.size + r.size), by omega, ws' ++ [⟨l, s1.d + 1, q1, x⟩, ⟨r, s1.d + 1, q2, y⟩], c, _, _, by simp [wsz], rfl, fun b o e => ?_, ?_, fun s hs' => ?_, ?_, by simp only [wsz, List.map_append, List.map_cons, List.map_nil, List.sum_append, List.sum_cons, List.sum_nil] at *; omega⟩
                · rw [upd_ne (ne_of_none e hw0)]; exact a3 _ _ (g3 _ _ e)
                · rw [upd_same]; simp [fa]
                · rcases List.mem_append.mp hs' with hs' | hs'
                  · obtain ⟨z1, z2⟩ := g4 s hs'
                    exact ⟨by rw [upd_ne (ne_of z1 g1 (fun z => by cases z))]; exact a3 _ _ z1, z2⟩
                  · simp only [List.mem_cons, List.not_mem_nil, or_false] at hs'
                    rcases hs' with rfl | rfl
                    · exact ⟨by show upd _ wl _ q1 = _; rw [upd_ne q1w]; exact b3 _ _ (b2 _ _ upd_same), tl⟩
                    · exact ⟨by show upd _ wl _ q2 = _; rw [upd_ne q2w]; exact b3 _ _ upd_same, tr⟩
                · show jud c _ = _
                  rw [List.map_append]
                  exact hj
              · exact bad fun _ _ _ z => cD (decide_eq_true (by omega))
            · exact bad fun l r e => absurd (by rw [e]; rfl) cP
        · refine ⟨_, rfl, _, _, rfl, rfl, ?_⟩
          have n60 : ¬ c ≤ 60 := fun z => c60 (decide_eq_true (by omega))
          have e := k H' hs
          rw [fin false (by rw [jws_snoc]; exact jud_many n60)] at e
          have q : decide ((c : Int) ≤ 60) = false := decide_eq_false (by omega)
          show Q (.bl (decide ((c : Int) ≤ 60))) H'
          rw [q]
          exact e
end
end LG

set_option Elab.async false
set_option linter.all false
set_option maxRecDepth 100000
set_option maxHeartbeats 4100000
namespace LG
open PySem L2 TL
abbrev sKOf : Stmt := top 35
abbrev sPOf : Stmt := top 36
abbrev sRdK : Stmt := top 33
abbrev sRdP : Stmt := top 34
abbrev sIsProg : Stmt := top 30
def spKOf (K : PySem.W.Frag) : Sp := fun vs H Q _ => ∃ (z : Str) (t : Th), vs = [.str z] ∧ tl z = kL t ∧ t.any = true ∧ (kL t).length ≤ 4000000 ∧ ∀ v H', Same H H' → ThAt K (tups H') t v → Q v H'
def spPOf (K : PySem.W.Frag) : Sp := fun vs H Q _ => ∃ (z : Str) (t : Tm), vs = [.str z] ∧ tl z = t.tx ∧ t.ok ∧ t.fit 10000 ∧ t.tx.length ≤ 4000000 ∧ ∀ a us H', Same H H' → H' a = some (.tup us) → WdsAt K (tups H') t.ws us → Q (.ref a) H'
def spRdK (K : PySem.W.Frag) : Sp := fun vs H Q _ => ∃ (z : Str) (t : Th), vs = [.str z] ∧ tl z = kL t ∧ t.any = true ∧ t.isKind = true ∧ t.size ≤ 10000 ∧ ∀ v H', Same H H' → ThAt K (tups H') t v → Q v H'
/-- kinds that is_kind lets -/
def Tm.kok : Tm → Prop
  | .nm _ => True
  | .us f a => f.kok ∧ a.kok
  | .tk _ t b => t.isKind = true ∧ b.kok
def spRdP (K : PySem.W.Frag) : Sp := fun vs H Q _ => ∃ (z : Str) (t : Tm), vs = [.str z] ∧ tl z = t.tx ∧ t.ok ∧ t.fit 10000 ∧ t.kok ∧ t.tx.length ≤ 4000000 ∧ t.ws.length ≤ 400 ∧ ∀ a us H', Same H H' → H' a = some (.tup us) → WdsAt K (tups H') t.ws us → Q (.ref a) H'
def spIsProg (K : PySem.W.Frag) : Sp := fun vs H Q _ => ∃ (v : V) (ws : List Wd), vs = [v] ∧ PgAt K H ws v ∧ ws.length ≤ 400 ∧ ∀ H', Same H H' → Q (.bl (progB Th.isKind ws)) H'
theorem upd_del2 {H G : Hp} {x : Addr} {o : HO} (s : Same G (del H x)) : Same G (del (upd H x o) x) := fun b u e => by
  have q := s b u e
  by_cases hb : b = x
  · rw [hb, del_same] at q; cases q
  · rw [del_ne hb] at q ⊢; rw [upd_ne hb]; exact q
theorem kok_step : ∀ {t : Tm} {r : List Wd} {m : Nat}, t.ok → t.kok → cntC Th.isKind r = some m → cntC Th.isKind (t.ws ++ r) = some (m + 1)
  | .nm z, r, m, h, _, e => by
    show (cntC Th.isKind r).bind (stepC Th.isKind (.st z)) = _
    rw [e]
    show stepC Th.isKind (.st z) m = _
    unfold stepC
    rw [if_neg (by rw [nm_use h]; exact Bool.false_ne_true), if_pos (show (Wd.st z).name = true from h)]
  | .us f a, r, m, h, g, e => by
    have h2 := kok_step h.2 g.2 e
    have h1 := kok_step h.1 g.1 h2
    show (cntC Th.isKind ((f.ws ++ a.ws) ++ r)).bind (stepC Th.isKind (.st "@")) = _
    rw [List.append_assoc, h1]
    show stepC Th.isKind (.st "@") (m + 1 + 1) = _
    unfold stepC
    have u : (Wd.st "@").use = true := by decide +kernel
    rw [if_pos u, if_neg (by omega)]
    rfl
  | .tk z t b, r, m, h, g, e => by
    have h1 := kok_step h.2.2 g.2 e
    show (cntC Th.isKind (b.ws ++ r)).bind (stepC Th.isKind (.pr (some z) t)) = _
    rw [h1]
    show stepC Th.isKind (.pr (some z) t) (m + 1) = _
    unfold stepC
    have u : (Wd.pr (some z) t).use = false := rfl
    have n : (Wd.pr (some z) t).name = false := rfl
    have k : (Wd.pr (some z) t).take Th.isKind = true := by
      show (nameB z && t.isKind) = true
      rw [h.1, g.1]; rfl
    rw [u, n, k, if_neg Bool.false_ne_true, if_neg Bool.false_ne_true, if_neg (by simp)]
theorem kok_prog {t : Tm} (h : t.ok) (g : t.kok) : progB Th.isKind t.ws = true := by
  have := kok_step (r := []) (m := 0) h g rfl
  rw [List.append_nil] at this
  exact decide_eq_true this
section
variable {P : Program} {w : World} {K : PySem.W.Frag} {mg : Str → Option Value} {base : Heap} {CR f0 fG fI fN fE fL fM fK fP fT : Addr} {fd0 fdG fdI fdN fdE fdL fdM fdK fdP fdT : FuncData}
theorem scRInit : FnScope ["self", "text"] ["self", "text"] (defScope sRInit) := ⟨rfl, rfl, rfl, by decide +kernel, rfl, by decide +kernel, by decide +kernel⟩
theorem ok_rinit {f : Addr} {fd : FuncData} (F : Fun K "__init__" "Reading.__init__" sRInit f fd) (T : TxB mg) (T2 : TxD mg) (R : RdT K CR) : FnOk P w K mg base CX0 1 f fd ["self", "text"] (spRInit K CR) := by
  refine F.ok scRInit (fun vs H Q E h => ?_) (fun cdv A outer s H vs Q E hr h => ?_)
  · obtain ⟨_, _, _, rfl, _⟩ := h
    rfl
  · obtain ⟨x, dx, z, rfl, hx, hz, kq⟩ := h
    refine ⟨_, pss_cons (ps_if (pt_not (pt_val (pe_callB call_isi (by rfl) T.isinstance (by decide +kernel) (pa_cons (pv 1) (pa_cons (pe_bltn (v := .ty "str") (by rfl) T2.str (by decide +kernel) rfl) pa_nil)))))
        pss_never
        pss_nil)
    (pss_cons (ps_fld (pv 0) (pv 1) rfl)
    (pss_one (ps_fld (pv 0) pe_int rfl))), ?_⟩
    refine ⟨_, rfl, _, _, _, _, _, rfl, .ty _, .base (.str z), kit_ty (r := true) (by decide +kernel), _, rfl, ?_⟩
    refine ifF rfl ?_
    refine ⟨_, rfl, _, rfl, x, CR, dx, _, rfl, hx, R.cl, R.nT, (by show 0 < 1000; decide), ?_⟩
    refine ⟨_, rfl, x, CR, dx, _, rfl, upd_same, R.cl, R.nA, (by show 1 < 1000; decide), ?_⟩
    refine kq _ ⟨dx, z, 0, by rw [upd_same, rdF_make], by rw [List.drop_zero], Nat.zero_le _, hz⟩ (same_trans del_updR del_updR)
theorem scKOf : FnScope ["text", "reading", "kind"] ["text"] (defScope sKOf) := ⟨rfl, rfl, rfl, by decide +kernel, rfl, by decide +kernel, by decide +kernel⟩
theorem ok_kof {f : Addr} {fd : FuncData} (F : Fn K mg "kind_of_text" sKOf ["text"] f fd) (RF : RdF K mg CR f0 fG fI fN fE fL fM fK fP fT fd0 fdG fdI fdN fdE fdL fdM fdK fdP fdT sRKind sRProg sRTake) (T : TxB mg) (T2 : TxD mg) (TN : TxN mg) : FnOk P w K mg base CX0 4 f fd ["text"] (spKOf K) := by
  have R := RF.R
  have G0 : FnOk P w K mg base CX0 1 f0 fd0 ["self", "text"] (spRInit K CR) := ok_rinit RF.F0 T T2 R
  have GE : FnOk P w K mg base CX0 1 fE fdE ["self"] (spREnd K CR) := ok_rend RF.FE T R
  have GK : FnOk P w K mg base CX0 3 fK fdK ["self"] (spRKind K CR) := ok_rkind RF T T2 TN
  refine F.F.ok scKOf (fun vs H Q E h => ?_) (fun cdv A outer s H vs Q E hr h => ?_)
  · obtain ⟨_, _, rfl, _⟩ := h
    rfl
  · obtain ⟨z, t, rfl, ez, ha, hl, kq⟩ := h
    have nd := scKOf.nd
    have hr1 := hr.mono (show 1 ≤ 3 by decide)
    have hr2 := hr.mono (show 2 ≤ 3 by decide)
    refine ⟨_, pss_cons (ps_set (i := 1) nd rfl (Or.inl rfl) (pe_make RF.Mm G0 hr2 (by rfl) RF.m RF.b0 .nil pass0 (pa_cons (pv 0) pa_nil)))
    (pss_cons (ps_set (i := 2) nd rfl (Or.inl rfl) (pe_meth0 (pv 1) R.cl RF.mK GK hr RF.bK .nil pass0))
    (pss_cons (ps_expr (pe_meth0 (pv 1) R.cl RF.mE GE hr1 RF.bE .nil pass0))
    (pss_one (ps_ret (pv 2))))), ?_⟩
    refine ⟨_, rfl, fun x dx hx hdx nd' => ?_⟩
    have s0 : Same H (del (upd (upd H dx (.own x)) x (.ins CR dx [])) x) := upd_del2 (fun b o e => by rw [del_ne (ne_of_none e hx), upd_ne (ne_of_none e hdx)]; exact e)
    refine ⟨x, dx, z, rfl, upd_same, by rw [ez]; exact hl, fun H1 R1 s1 => ⟨rfl, ?_⟩⟩
    rw [ez] at R1
    obtain ⟨dx1, z1, n1, hA1, _⟩ := id R1
    refine ⟨_, rfl, x, dx1, _, rfl, hA1, rfl, x, t, [], rfl, by rw [List.append_nil]; exact R1, ha, (fun q => by cases q), fun v H2 R2 s2 tv => ?_⟩
    obtain ⟨dx2, z2, n2, hA2, _⟩ := id R2
    refine ⟨_, rfl, x, dx2, _, rfl, hA2, rfl, x, rfl, R2, ?_⟩
    exact ⟨_, rfl, kq v H2 (same_trans s0 (same_trans s1 (same_trans s2 del_le))) tv⟩
theorem scPOf : FnScope ["text", "reading", "program"] ["text"] (defScope sPOf) := ⟨rfl, rfl, rfl, by decide +kernel, rfl, by decide +kernel, by decide +kernel⟩
theorem ok_pof {f : Addr} {fd : FuncData} (F : Fn K mg "program_of_text" sPOf ["text"] f fd) (RF : RdF K mg CR f0 fG fI fN fE fL fM fK fP fT fd0 fdG fdI fdN fdE fdL fdM fdK fdP fdT sRKind sRProg sRTake) (hu : ∃ u, mg "USE" = some (.str "@" u)) (T : TxB mg) (T2 : TxD mg) (TN : TxN mg) : FnOk P w K mg base CX0 6 f fd ["text"] (spPOf K) := by
  have R := RF.R
  have G0 : FnOk P w K mg base CX0 1 f0 fd0 ["self", "text"] (spRInit K CR) := ok_rinit RF.F0 T T2 R
  have GE : FnOk P w K mg base CX0 1 fE fdE ["self"] (spREnd K CR) := ok_rend RF.FE T R
  have GK : FnOk P w K mg base CX0 5 fP fdP ["self"] (spRProg K CR) := ok_rprog RF hu T T2 TN
  refine F.F.ok scPOf (fun vs H Q E h => ?_) (fun cdv A outer s H vs Q E hr h => ?_)
  · obtain ⟨_, _, rfl, _⟩ := h
    rfl
  · obtain ⟨z, t, rfl, ez, ok, fit, hl, kq⟩ := h
    have nd := scPOf.nd
    have hr1 := hr.mono (show 1 ≤ 5 by decide)
    have hr2 := hr.mono (show 2 ≤ 5 by decide)
    refine ⟨_, pss_cons (ps_set (i := 1) nd rfl (Or.inl rfl) (pe_make RF.Mm G0 hr2 (by rfl) RF.m RF.b0 .nil pass0 (pa_cons (pv 0) pa_nil)))
    (pss_cons (ps_set (i := 2) nd rfl (Or.inl rfl) (pe_meth0 (pv 1) R.cl RF.mP GK hr RF.bP .nil pass0))
    (pss_cons (ps_expr (pe_meth0 (pv 1) R.cl RF.mE GE hr1 RF.bE .nil pass0))
    (pss_one (ps_ret (pv 2))))), ?_⟩
    refine ⟨_, rfl, fun x dx hx hdx nd' => ?_⟩
    have s0 : Same H (del (upd (upd H dx (.own x)) x (.ins CR dx [])) x) := upd_del2 (fun b o e => by rw [del_ne (ne_of_none e hx), upd_ne (ne_of_none e hdx)]; exact e)
    refine ⟨x, dx, z, rfl, upd_same, by rw [ez]; exact hl, fun H1 R1 s1 => ⟨rfl, ?_⟩⟩
    rw [ez] at R1
    obtain ⟨dx1, z1, n1, hA1, _⟩ := id R1
    refine ⟨_, rfl, x, dx1, _, rfl, hA1, rfl, x, t, rfl, R1, ok, fit, fun a us H2 R2 s2 ha hw => ?_⟩
    obtain ⟨dx2, z2, n2, hA2, _⟩ := id R2
    refine ⟨_, rfl, x, dx2, _, rfl, hA2, rfl, x, rfl, R2, ?_⟩
    exact ⟨_, rfl, kq a us H2 (same_trans s0 (same_trans s1 (same_trans s2 del_le))) ha hw⟩
theorem scRdK : FnScope ["text", "kind"] ["text"] (defScope sRdK) := ⟨rfl, rfl, rfl, by decide +kernel, rfl, by decide +kernel, by decide +kernel⟩
theorem ok_rdk {f fO fL f1 f2 fQ fX : Addr} {fd fdO fd1 fd2 fdQ fdX : FuncData} (F : Fn K mg "read_kind" sRdK ["text"] f fd) (NO : Fn K mg "kind_of_text" sKOf ["text"] fO fdO) (RF : RdF K mg CR f0 fG fI fN fE fL fM fK fP fT fd0 fdG fdI fdN fdE fdL fdM fdK fdP fdT sRKind sRProg sRTake)
    (NX : Fn K mg "is_kind" sKind ["thing"] fX fdX) {gL : Addr} {gdL : FuncData} (NL : Fn K mg "is_letter" sLetter ["thing"] gL gdL) (N2 : Fn K mg "is_integer_within" sWithin ["low", "high", "thing"] f2 fd2) (N1 : Fn K mg "is_integer" sInteger ["thing"] f1 fd1) (NP : Fn K mg "is_pair" sPair ["thing"] fQ fdQ)
    (T : TxB mg) (T2 : TxK mg) (T3 : TxKK mg) (TN : TxN mg) : FnOk P w K mg base CX0 5 f fd ["text"] (spRdK K) := by
  have GO : FnOk P w K mg base CX0 4 fO fdO ["text"] (spKOf K) := ok_kof NO RF T T2.toTxD TN
  have GX : FnOk P w K mg base CX0 4 fX fdX ["thing"] (spKind K) := ok_kind NX NL N2 N1 NP T T2 T3
  refine F.F.ok scRdK (fun vs H Q E h => ?_) (fun cdv A outer s H vs Q E hr h => ?_)
  · obtain ⟨_, _, rfl, _⟩ := h
    rfl
  · obtain ⟨z, t, rfl, ez, ha, hk, hz, kq⟩ := h
    have nd := scRdK.nd
    refine ⟨_, pss_cons (ps_set (i := 1) nd rfl (Or.inl rfl) (pe_call GO hr (by rfl) NO.m NO.F.kp NO.b .nil pass0 (pa_cons (pv 0) pa_nil)))
    (pss_cons (ps_if (pt_not (pt_val (pe_call GX hr (by rfl) NX.m NX.F.kp NX.b .nil pass0 (pa_cons (pv 1) pa_nil))))
        pss_never
        pss_nil)
    (pss_one (ps_ret (pv 1)))), ?_⟩
    have kl := kL_len t
    refine ⟨_, rfl, z, t, rfl, ez, ha, by omega, fun v H1 s1 tv => ?_⟩
    refine ⟨_, rfl, v, t, rfl, tv.same tups_le, hz, fun H2 s2 => ⟨_, rfl, ?_⟩⟩
    rw [hk]
    refine ifF rfl ?_
    exact ⟨_, rfl, kq v H2 (same_trans s1 s2) (tv.same (tups_mono s2))⟩
theorem scIsProg : FnScope ["thing"] ["thing"] (defScope sIsProg) := ⟨rfl, rfl, rfl, by decide +kernel, rfl, by decide +kernel, by decide +kernel⟩
theorem ok_isprog {f fA fF fQ fNm gM f1 f2 gL : Addr} {fd fdA fdF fdQ fdNm gdM fd1 fd2 gdL : FuncData} (F : Fn K mg "is_program" sIsProg ["thing"] f fd) (NM : Fn K mg "is_made_of_words" sMade ["thing", "is_fit"] gM gdM) (NF : Fn K mg "_is_fit_take" sFit ["word", "is_fit"] fF fdF) (NP : Fn K mg "is_pair" sPair ["thing"] fQ fdQ) (NN : Fn K mg "is_name" sName ["thing"] fNm fdNm)
    (NX : Fn K mg "is_kind" sKind ["thing"] fA fdA) (NL : Fn K mg "is_letter" sLetter ["thing"] gL gdL) (N2 : Fn K mg "is_integer_within" sWithin ["low", "high", "thing"] f2 fd2) (N1 : Fn K mg "is_integer" sInteger ["thing"] f1 fd1)
    (hm : ∃ u, mg "MOST_WORDS" = some (.int 400 u)) (hu : ∃ u, mg "USE" = some (.str "@" u)) (T : TxB mg) (T2 : TxK mg) (T3 : TxKK mg) (TN : TxN mg) : FnOk P w K mg base CX0 7 f fd ["thing"] (spIsProg K) := by
  have GA : FnOk P w K mg base CX0 4 fA fdA ["thing"] (spFitF K Th.isKind) := ok_kind NX NL N2 N1 NP T T2 T3
  have GM : FnOk P w K mg base CX0 6 gM gdM ["thing", "is_fit"] (spMade K fA Th.isKind) := ok_made NM NF NP NN GA NX.F.kp NX.b (by decide) hu T T2 TN
  obtain ⟨u4, h4⟩ := hm
  refine F.F.ok scIsProg (fun vs H Q E h => ?_) (fun cdv A outer s H vs Q E hr h => ?_)
  · obtain ⟨_, _, rfl, _⟩ := h
    rfl
  · obtain ⟨v, ws, rfl, hv, hl, kq⟩ := h
    obtain ⟨a, us, rfl, ha, hw, _⟩ := id hv
    refine ⟨_, pss_cons (ps_if (PW.pt (pw_or (pt_not (pt_val (pe_callB call_isi (by rfl) T.isinstance (by decide +kernel) (pa_cons (pv 0) (pa_cons (pe_bltn (v := .ty "tuple") (by rfl) T2.tuple (by decide +kernel) rfl) pa_nil))))) (pw_or1 (pt_cmpR op_gt (pe_callB call_len_seq (by rfl) T.len PySem.boot_len (pa_cons (pv 0) pa_nil)) (pe_glob (v := .int 400) (by rfl) h4 ⟨_, rfl⟩) (nomark _)))))
        (pss_one (ps_ret pe_bl))
        pss_nil)
    (pss_one (ps_ret (pe_call GM hr (by rfl) NM.m NM.F.kp NM.b .nil pass0 (pa_cons (pv 0) (pa_cons (pe_glob (v := .ref fA) (by rfl) NX.m rfl) pa_nil))))), ?_⟩
    refine ⟨_, rfl, _, _, _, _, _, rfl, .ty _, .base (.tup ha), kit_ty (r := true) (by decide +kernel), _, rfl, ?_⟩
    refine ifF rfl ?_
    refine ⟨_, rfl, _, _, rfl, .inr (SqT.of ha), _, _, rfl, rfl, _, rfl, ?_⟩
    refine ifF (decide_eq_false (by rw [hw.1]; omega)) ?_
    exact ⟨_, rfl, _, ws, rfl, hv, kq⟩
theorem scRdP : FnScope ["text", "program"] ["text"] (defScope sRdP) := ⟨rfl, rfl, rfl, by decide +kernel, rfl, by decide +kernel, by decide +kernel⟩
theorem ok_rdp {f fO fX : Addr} {fd fdO fdX : FuncData} (F : Fn K mg "read_program" sRdP ["text"] f fd) (NO : Fn K mg "program_of_text" sPOf ["text"] fO fdO) (GO : FnOk P w K mg base CX0 6 fO fdO ["text"] (spPOf K)) (NX : Fn K mg "is_program" sIsProg ["thing"] fX fdX) (GX : FnOk P w K mg base CX0 7 fX fdX ["thing"] (spIsProg K)) : FnOk P w K mg base CX0 8 f fd ["text"] (spRdP K) := by
  refine F.F.ok scRdP (fun vs H Q E h => ?_) (fun cdv A outer s H vs Q E hr h => ?_)
  · obtain ⟨_, _, rfl, _⟩ := h
    rfl
  · obtain ⟨z, t, rfl, ez, ok, fit, kok, hl, h4, kq⟩ := h
    have nd := scRdP.nd
    have hr6 := hr.mono (show 6 ≤ 7 by decide)
    refine ⟨_, pss_cons (ps_set (i := 1) nd rfl (Or.inl rfl) (pe_call GO hr6 (by rfl) NO.m NO.F.kp NO.b .nil pass0 (pa_cons (pv 0) pa_nil)))
    (pss_cons (ps_if (pt_not (pt_val (pe_call GX hr (by rfl) NX.m NX.F.kp NX.b .nil pass0 (pa_cons (pv 1) pa_nil))))
        pss_never
        pss_nil)
    (pss_one (ps_ret (pv 1)))), ?_⟩
    refine ⟨_, rfl, z, t, rfl, ez, ok, fit, hl, fun a us H1 s1 ha hw => ?_⟩
    refine ⟨_, rfl, _, t.ws, rfl, ⟨a, us, rfl, ha, hw.same tups_le, by omega⟩, h4, fun H2 s2 => ⟨_, rfl, ?_⟩⟩
    rw [kok_prog ok kok]
    refine ifF rfl ?_
    exact ⟨_, rfl, kq a us H2 (same_trans s1 s2) (s2 _ _ ha) (hw.same (tups_mono s2))⟩
end
end LG

set_option Elab.async false
set_option linter.all false
set_option maxRecDepth 100000
set_option maxHeartbeats 4100000
namespace LG
open PySem L2 TL
abbrev sLKT : Stmt := top 52
abbrev sLTx : Stmt := top 53
theorem letters_size : ∀ t : Th, t.letters ≤ t.size
  | .int _ => Nat.le_refl _
  | .pr l r => by
    have a := letters_size l
    have b := letters_size r
    show l.letters + r.letters ≤ l.size + r.size + 1
    omega
  | .bl _ => Nat.zero_le _
  | .non => Nat.zero_le _
  | .tup => Nat.zero_le _
theorem ok_deep : ∀ {t : Th} {m : Nat}, t.any = true → t.depth ≤ m → t.ok m = true
  | .int i, m, a, _ => (Th.ok_of_letter (m := m) a).1
  | .pr l r, 0, _, d => by
    have d : max l.depth r.depth + 1 ≤ 0 := d
    omega
  | .pr l r, m + 1, a, d => by
    obtain ⟨a1, a2⟩ := any_pr a
    have d : max l.depth r.depth + 1 ≤ m + 1 := d
    rw [Th.ok_pr, ok_deep a1 (by omega), ok_deep a2 (by omega)]; rfl
  | .bl _, _, a, _ => by cases a
  | .non, _, a, _ => by cases a
  | .tup, _, a, _ => by cases a
theorem isKind_of {t : Th} (a : t.any = true) (d : t.depth ≤ 30) (l : t.letters ≤ 60) : t.isKind = true := by
  unfold Th.isKind
  rw [ok_deep a d, decide_eq_true l]; rfl
/-- a kind's type: a tuple just if it is a pair -/
theorem th_tup {K : PySem.W.Frag} {H : Hp} {t : Th} {v : V} (a : t.any = true) (h : ThAt K H t v) : ∃ tv, TyX K H v tv ∧ PySem.W.kitOne K tv (.type "tuple") = some t.isPr := by
  cases t with
  | int i =>
    have e : v = .int i := h
    subst e
    exact ⟨_, .base (.int i), kit_ty (r := false) (by decide +kernel)⟩
  | pr l r =>
    obtain ⟨p, x, y, rfl, hp, _⟩ := h
    exact ⟨_, .base (.tup hp), kit_ty (r := true) (by decide +kernel)⟩
  | bl b => cases a
  | non => cases a
  | tup => cases a
def spLKT (K : PySem.W.Frag) (d : Nat) : Sp := fun vs H Q _ => ∃ (v : V) (t : Th), vs = [v] ∧ ThAt K H t v ∧ t.any = true ∧ t.depth ≤ d ∧ t.size ≤ 10000 ∧ Q (.str (mk (kL t))) H
theorem str_app {a b : Str} {l m : List Nat} (ha : tl a = l) (hb : tl b = m) : tl (a ++ b) = l ++ m := by rw [tl_append, ha, hb]
theorem str_len {a : Str} {l : List Nat} (h : tl a = l) : a.length = l.length := by rw [← tl_len, h]
section
variable {P : Program} {w : World} {K : PySem.W.Frag} {mg : Str → Option Value} {base : Heap}
theorem scLKT : FnScope ["_law_kind_here", "_law_left"] ["_law_kind_here"] (defScope sLKT) := ⟨rfl, rfl, rfl, by decide +kernel, rfl, by decide +kernel, by decide +kernel⟩
theorem ok_lkt1 {f : Addr} {fd : FuncData} {n d : Nat} {spR : Sp} (F : Fn K mg "_law_kind_text" sLKT ["_law_kind_here"] f fd) (G : FnOk P w K mg base CX0 n f fd ["_law_kind_here"] spR) (hG : ∀ d', d = d' + 1 → spR = spLKT K d') (T : TxB mg) (T2 : TxD mg) : FnOk P w K mg base CX0 (n + 1) f fd ["_law_kind_here"] (spLKT K d) := by
  refine F.F.ok scLKT (fun vs H Q E h => ?_) (fun cdv A outer s H vs Q E hr h => ?_)
  · obtain ⟨_, _, rfl, _⟩ := h
    rfl
  · obtain ⟨v, t, rfl, hv, ha, hd, hz, kq⟩ := h
    have nd := scLKT.nd
    refine ⟨_, pss_cons (ps_if (pt_not (pt_val (pe_callB call_isi (by rfl) T.isinstance (by decide +kernel) (pa_cons (pv 0) (pa_cons (pe_bltn (v := .ty "tuple") (by rfl) T2.tuple (by decide +kernel) rfl) pa_nil)))))
        (pss_one (ps_ret (pe_ix ix_str pe_str (pv 0) (fun _ _ => rfl))))
        pss_nil)
    (pss_cons (ps_set (i := 1) nd rfl (Or.inl rfl) (pe_call G hr (by rfl) F.m F.F.kp F.b .nil pass0 (pa_cons (pe_ix ix_tup (pv 0) pe_int (fun _ _ => rfl)) pa_nil)))
    (Evl.pss_cut (ps_if (pt_val (pe_callB call_isi (by rfl) T.isinstance (by decide +kernel) (pa_cons (pe_ix ix_tup (pv 0) pe_int (fun _ _ => rfl)) (pa_cons (pe_bltn (v := .ty "tuple") (by rfl) T2.tuple (by decide +kernel) rfl) pa_nil))))
        (pss_one (ps_set (i := 1) nd rfl (Or.inl rfl) (pe_op op_add_str (pe_op op_add_str pe_str (pv 1)) pe_str)))
        pss_nil)
    (pss_one (ps_ret (pe_op op_add_str (pe_op op_add_str (pv 1) pe_str) (pe_call G hr (by rfl) F.m F.F.kp F.b .nil pass0 (pa_cons (pe_ix ix_tup (pv 0) pe_int (fun _ _ => rfl)) pa_nil))))))), ?_⟩
    obtain ⟨tv, ty, kt⟩ := th_tup ha hv
    refine ⟨_, rfl, _, _, _, _, _, rfl, .ty _, ty, kt, _, rfl, ?_⟩
    cases hp : t.isPr with
    | false =>
      refine ifT rfl ?_
      obtain ⟨i, rfl, hi⟩ := any_int ha hp
      have e : v = .int (i : Int) := hv
      subst e
      refine ⟨_, rfl, letters, _, 97 + i, rfl, rfl, (by show 26 ≤ sizeLine; decide), atI_nat (letters_at hi), ?_⟩
      have := kq
      rw [show kL (.int (i : Int)) = [97 + i] from by show [97 + (i : Int).toNat] = _; rw [Int.toNat_natCast]] at this
      exact this
    | true =>
      refine ifF rfl ?_
      obtain ⟨l, r, rfl⟩ := pr_of hp
      obtain ⟨al, ar⟩ := any_pr ha
      obtain ⟨pa, x, y, rfl, hpa, tx, ty'⟩ := id hv
      have hd : max l.depth r.depth + 1 ≤ d := hd
      have hz : l.size + r.size + 1 ≤ 10000 := hz
      obtain ⟨d', rfl⟩ : ∃ d', d = d' + 1 := ⟨d - 1, by omega⟩
      refine ⟨_, rfl, pa, _, _, x, rfl, rfl, SqT.of hpa, rfl, ?_⟩
      have sp : spR = spLKT K d' := hG d' rfl
      rw [sp]
      refine ⟨x, l, rfl, tx, al, by omega, by omega, ?_⟩
      have ll := kL_len l
      have lr := kL_len r
      refine ⟨fun σ' H' => ∃ y : Str, σ' = [some (.ref pa), some (.str y)] ∧ tl y = (if l.isPr = true then 40 :: (kL l ++ [41]) else kL l) ∧ H' = H, ?_, ?_⟩
      · obtain ⟨tv2, ty2, kt2⟩ := th_tup al tx
        refine ⟨_, rfl, pa, _, _, x, rfl, rfl, SqT.of hpa, rfl, _, _, _, _, _, rfl, .ty _, ty2, kt2, _, rfl, ?_⟩
        cases hl : l.isPr with
        | true =>
          refine ifT rfl ?_
          have l1 : (("(" : Str)).length = 1 := by decide +kernel
          have l2 : ((")" : Str)).length = 1 := by decide +kernel
          have e1 : tl ("(" : Str) = [40] := by decide +kernel
          have e2 : tl (")" : Str) = [41] := by decide +kernel
          refine ⟨_, rfl, _, _, rfl, rfl, big2 (by rw [l1, mk_len]; omega), _, _, rfl, rfl, big2 (by rw [str_len (str_app e1 tl_mk'), l2, List.length_append]; show 1 + _ + 1 ≤ _; omega), _, rfl, ?_, rfl⟩
          rw [str_app (str_app e1 tl_mk') e2, if_pos rfl]; rfl
        | false =>
          refine ifF rfl ?_
          exact ⟨_, rfl, by rw [if_neg Bool.false_ne_true]; rfl, rfl⟩
      · rintro _ H9 ⟨y', rfl, ey, eH⟩
        rw [eH]
        have e3 : tl (" > " : Str) = [32, 62, 32] := by decide +kernel
        have yl : y'.length ≤ 60010 := by
          rw [str_len ey]
          split
          · simp only [List.length_cons, List.length_append, List.length_nil]; omega
          · omega
        have l3 : ((" > " : Str)).length = 3 := by decide +kernel
        refine ⟨_, rfl, _, _, rfl, rfl, big2 (by omega), _, rfl, pa, _, _, y, rfl, rfl, SqT.of hpa, rfl, ?_⟩
        refine ⟨y, r, rfl, ty', ar, by omega, by omega, _, _, rfl, rfl, big2 (by rw [str_len (str_app ey e3), mk_len, List.length_append, ← ey, tl_len]; show y'.length + 3 + _ ≤ _; omega), ?_⟩
        have e4 : y' ++ (" > " : Str) ++ mk (kL r) = mk (kL (.pr l r)) := by
          refine ext_tl ?_
          rw [str_app (str_app ey e3) tl_mk', tl_mk', List.append_assoc]
          rfl
        rw [e4]
        exact kq
theorem ok_lkt {f : Addr} {fd : FuncData} (F : Fn K mg "_law_kind_text" sLKT ["_law_kind_here"] f fd) (T : TxB mg) (T2 : TxD mg) : ∀ d : Nat, FnOk P w K mg base CX0 (d + 2) f fd ["_law_kind_here"] (spLKT K d) := by
  have G0 : FnOk P w K mg base CX0 1 f fd ["_law_kind_here"] (fun _ _ _ _ => False) := F.F.ok scLKT (fun vs H Q E h => False.elim h) (fun cdv A outer s H vs Q E hr h => False.elim h)
  intro d
  induction d with
  | zero => exact ok_lkt1 F G0 (fun d' e => by omega) T T2
  | succ d ih =>
    refine ok_lkt1 F ih (fun d' e => ?_) T T2
    have q : d' = d := by omega
    rw [q]
end
end LG

set_option Elab.async false
set_option linter.all false
set_option maxRecDepth 100000
set_option maxHeartbeats 4100000
namespace LG
open PySem L2 TL
/-- a program in one -/
inductive Part : Tm → Tm → Prop where
  | me (t) : Part t t
  | ofF {f a x} : Part x f → Part x (.us f a)
  | ofA {f a x} : Part x a → Part x (.us f a)
  | ofB {z t b x} : Part x b → Part x (.tk z t b)
theorem Part.ok : ∀ {x t : Tm}, Part x t → t.ok → x.ok
  | _, _, .me t, h => h
  | _, _, .ofF p, h => p.ok h.1
  | _, _, .ofA p, h => p.ok h.2
  | _, _, .ofB p, h => p.ok h.2.2
theorem Part.fit {n : Nat} : ∀ {x t : Tm}, Part x t → t.fit n → x.fit n
  | _, _, .me t, h => h
  | _, _, .ofF p, h => p.fit h.1
  | _, _, .ofA p, h => p.fit h.2
  | _, _, .ofB p, h => p.fit h.2
theorem subs : ∀ {t : Tm} {p : Nat}, p < t.ws.length → ∃ x, SubT t.ws p x ∧ Part x t
  | .nm z, p, h => by
    have : p = 0 := by have h : p < 1 := h; omega
    subst this
    exact ⟨.nm z, ⟨[], rfl⟩, .me _⟩
  | .us f a, p, h => by
    have h : p < (f.ws ++ a.ws).length + 1 := h
    cases p with
    | zero => exact ⟨.us f a, ⟨[], by rw [List.append_nil]; rfl⟩, .me _⟩
    | succ p =>
      rw [List.length_append] at h
      rcases Nat.lt_or_ge p f.ws.length with lt | ge
      · obtain ⟨x, ⟨r, e⟩, q⟩ := subs (t := f) lt
        refine ⟨x, ⟨r ++ a.ws, ?_⟩, .ofF q⟩
        show (f.ws ++ a.ws).drop p = _
        rw [List.drop_append_of_le_length (Nat.le_of_lt lt), e, List.append_assoc]
      · obtain ⟨x, ⟨r, e⟩, q⟩ := subs (t := a) (p := p - f.ws.length) (by omega)
        refine ⟨x, ⟨r, ?_⟩, .ofA q⟩
        show (f.ws ++ a.ws).drop p = _
        rw [List.drop_append, List.drop_eq_nil_of_le ge, List.nil_append, e]
  | .tk z t b, p, h => by
    have h : p < b.ws.length + 1 := h
    cases p with
    | zero => exact ⟨.tk z t b, ⟨[], by rw [List.append_nil]; rfl⟩, .me _⟩
    | succ p =>
      obtain ⟨x, ⟨r, e⟩, q⟩ := subs (t := b) (p := p) (by omega)
      exact ⟨x, ⟨r, e⟩, .ofB q⟩
/-- kinds nested at most so deep -/
def Tm.dep (d : Nat) : Tm → Prop
  | .nm _ => True
  | .us f a => f.dep d ∧ a.dep d
  | .tk _ t b => t.depth ≤ d ∧ b.dep d
theorem Part.dep {n : Nat} : ∀ {x t : Tm}, Part x t → t.dep n → x.dep n
  | _, _, .me t, h => h
  | _, _, .ofF p, h => p.dep h.1
  | _, _, .ofA p, h => p.dep h.2
  | _, _, .ofB p, h => p.dep h.2
theorem Part.len : ∀ {x t : Tm}, Part x t → x.ws.length ≤ t.ws.length
  | _, _, .me t => Nat.le_refl _
  | _, .us f a, .ofF p => by
    have := p.len
    show _ ≤ (f.ws ++ a.ws).length + 1
    rw [List.length_append]; omega
  | _, .us f a, .ofA p => by
    have := p.len
    show _ ≤ (f.ws ++ a.ws).length + 1
    rw [List.length_append]; omega
  | _, .tk _ _ b, .ofB p => by
    have := p.len
    show _ ≤ b.ws.length + 1
    omega
theorem Part.trans : ∀ {x y t : Tm}, Part x y → Part y t → Part x t
  | _, _, _, p, .me _ => p
  | _, _, _, p, .ofF q => .ofF (p.trans q)
  | _, _, _, p, .ofA q => .ofA (p.trans q)
  | _, _, _, p, .ofB q => .ofB (p.trans q)
/-- one text at a place has one program -/
theorem SubT.one {ws : List Wd} {p : Nat} {x y : Tm} (hx : SubT ws p x) (hy : SubT ws p y) (kx : x.ok) (ky : y.ok) : x = y := by
  obtain ⟨r, e⟩ := hx
  obtain ⟨q, e2⟩ := hy
  rw [e] at e2
  clear e ws p
  induction x generalizing y r q with
  | nm z =>
    cases y with
    | nm z' => have e2 : Wd.st z :: r = Wd.st z' :: q := e2
               injection e2 with e2 _; injection e2 with e2; rw [e2]
    | us f a => have e2 : Wd.st z :: r = Wd.st "@" :: ((f.ws ++ a.ws) ++ q) := e2
                injection e2 with e2 _; injection e2 with e2; exact absurd e2 (nm_ne kx)
    | tk z' t b => have e2 : Wd.st z :: r = Wd.pr (some z') t :: (b.ws ++ q) := e2
                   injection e2 with e2 _; cases e2
  | us f a ihf iha =>
    cases y with
    | nm z => have e2 : Wd.st "@" :: ((f.ws ++ a.ws) ++ r) = Wd.st z :: q := e2
              injection e2 with e2 _; injection e2 with e2; exact absurd e2.symm (nm_ne ky)
    | us f' a' =>
      have e2 : Wd.st "@" :: ((f.ws ++ a.ws) ++ r) = Wd.st "@" :: ((f'.ws ++ a'.ws) ++ q) := e2
      injection e2 with _ e2
      rw [List.append_assoc, List.append_assoc] at e2
      have ef := ihf kx.1 ky.1 _ _ e2
      subst ef
      have e3 := List.append_cancel_left e2
      have ea := iha kx.2 ky.2 _ _ e3
      rw [ea]
    | tk z' t b => have e2 : Wd.st "@" :: ((f.ws ++ a.ws) ++ r) = Wd.pr (some z') t :: (b.ws ++ q) := e2
                   injection e2 with e2 _; cases e2
  | tk z t b ih =>
    cases y with
    | nm z' => have e2 : Wd.pr (some z) t :: (b.ws ++ r) = Wd.st z' :: q := e2
               injection e2 with e2 _; cases e2
    | us f a => have e2 : Wd.pr (some z) t :: (b.ws ++ r) = Wd.st "@" :: ((f.ws ++ a.ws) ++ q) := e2
                injection e2 with e2 _; cases e2
    | tk z' t' b' =>
      have e2 : Wd.pr (some z) t :: (b.ws ++ r) = Wd.pr (some z') t' :: (b'.ws ++ q) := e2
      injection e2 with e1 e2
      injection e1 with e0 e1
      injection e0 with e0
      rw [e0, e1, ih kx.2.2 ky.2.2 _ _ e2]
def spLTx (K : PySem.W.Frag) (d : Nat) : Sp := fun vs H Q _ => ∃ (v : V) (t : Tm), vs = [v] ∧ PgAt K H t.ws v ∧ t.ok ∧ t.dep d ∧ t.ws.length ≤ 60 ∧ ∀ H', Same H H' → Q (.str (mk t.tx)) H'
/-- texts told from behind -/
def TxF (ws : List Wd) (t : Tm) (k : Nat) (xs : List Str) : Prop := xs.length = ws.length ∧ ∀ j x, k ≤ j → SubT ws j x → Part x t → xs[j]? = some (mk x.tx)
section
variable {P : Program} {w : World} {K : PySem.W.Frag} {mg : Str → Option Value} {base : Heap}
theorem scLTx : FnScope ["_law_words", "_law_spans_here", "_law_texts", "_law_place", "_law_word"] ["_law_words"] (defScope sLTx) := ⟨rfl, rfl, rfl, by decide +kernel, rfl, by decide +kernel, by decide +kernel⟩
theorem ok_ltx {f fS fX : Addr} {fd fdS fdX : FuncData} {d : Nat} (F : Fn K mg "_law_text" sLTx ["_law_words"] f fd) (NS : Fn K mg "_law_spans" sSpans ["_law_words"] fS fdS) (NX : Fn K mg "_law_kind_text" sLKT ["_law_kind_here"] fX fdX) (T : TxB mg) (T2 : TxD mg) : FnOk P w K mg base CX0 (d + 3) f fd ["_law_words"] (spLTx K d) := by
  have GS : FnOk P w K mg base CX0 1 fS fdS ["_law_words"] (spEnds K) := ok_spans NS T T2
  have GX : FnOk P w K mg base CX0 (d + 2) fX fdX ["_law_kind_here"] (spLKT K d) := ok_lkt NX T T2 d
  refine F.F.ok scLTx (fun vs H Q E h => ?_) (fun cdv A outer s H vs Q E hr h => ?_)
  · obtain ⟨_, _, rfl, _⟩ := h
    rfl
  · obtain ⟨v, t, rfl, hv, tk, td, hl, kq⟩ := h
    have nd := scLTx.nd
    have hr1 := hr.mono (show 1 ≤ d + 2 by omega)
    have hone := Tm.one tk
    have wh := hone.whole
    have wk := hone.woks
    refine ⟨_, pss_cons (ps_set (i := 1) nd rfl (Or.inl rfl) (pe_call GS hr1 (by rfl) NS.m NS.F.kp NS.b .nil pass0 (pa_cons (pv 0) pa_nil)))
    (pss_cons (ps_set (i := 2) nd rfl (Or.inl rfl) (pe_op op_rep (pe_lst (pa_cons pe_str pa_nil)) (pe_callB call_len_seq (by rfl) T.len PySem.boot_len (pa_cons (pv 0) pa_nil))))
    (pss_cons (ps_for PassesOwn.never rfl (pi_range3 (by rfl) T.range (pa_cons (pe_op op_sub (pe_callB call_len_seq (by rfl) T.len PySem.boot_len (pa_cons (pv 0) pa_nil)) pe_int) (pa_cons (pe_un un_neg pe_int) (pa_cons (pe_un un_neg pe_int) pa_nil)))) (pg_name (i := 3) nd rfl (Or.inl rfl))
        (pss_cons (ps_set (i := 4) nd rfl (Or.inl rfl) (pe_ix ix_tup (pv 0) (pv 3) (fun _ _ => rfl)))
        (pss_one (ps_if (pt_val (pe_callB call_isi (by rfl) T.isinstance (by decide +kernel) (pa_cons (pv 4) (pa_cons (pe_bltn (v := .ty "tuple") (by rfl) T2.tuple (by decide +kernel) rfl) pa_nil))))
            (pss_one (ps_asg (pe_op op_add_str (pe_op op_add_str (pe_op op_add_str (pe_op op_add_str (pe_op op_add_str pe_str (pe_ix ix_tup (pv 4) pe_int (fun _ _ => rfl))) pe_str) (pe_call GX hr (by rfl) NX.m NX.F.kp NX.b .nil pass0 (pa_cons (pe_ix ix_tup (pv 4) pe_int (fun _ _ => rfl)) pa_nil))) pe_str) (pe_ix ix_list (pv 2) (pe_op op_add (pv 3) pe_int) (fun _ _ => rfl))) (pg_sub (pv 2) (pv 3) set_list)))
            (pss_one (ps_if (pt_cmpR (op_eqW (Nat.lt_of_le_of_lt (Nat.le_add_right _ 64) hr.units)) (pv 4) pe_str (nomark _))
                (pss_one (ps_asg (pe_op op_add_str (pe_op op_add_str (pe_op op_add_str (pe_op op_add_str pe_str (pe_ix ix_list (pv 2) (pe_op op_add (pv 3) pe_int) (fun _ _ => rfl))) pe_str) (pe_ix ix_list (pv 2) (pe_ix ix_list (pv 1) (pe_op op_add (pv 3) pe_int) (fun _ _ => rfl)) (fun _ _ => rfl))) pe_str) (pg_sub (pv 2) (pv 3) set_list)))
                (pss_one (ps_asg (pv 4) (pg_sub (pv 2) (pv 3) set_list)))))))))
    (pss_one (ps_ret (pe_ix ix_list (pv 2) pe_int (fun _ _ => rfl)))))), ?_⟩
    obtain ⟨a, vs, rfl, ha, hw, _⟩ := id hv
    have lv := hw.1
    have fitT : t.fit 10000 := fit_of (wd_sizes hw) fun w h => h
    have few : ∀ {x : Tm}, Part x t → x.tx.length ≤ 3700000 := fun {x} q => by
      have h1 := tx_len (q.ok tk) (q.fit fitT)
      have h2 := Nat.mul_le_mul_left (6 * 10000 + 20) (show x.ws.length ≤ 60 from Nat.le_trans q.len hl)
      omega
    refine ⟨_, rfl, _, t.ws, rfl, hv, wk.wds, wh, fun sp H1 hsp s1 e1 => ?_⟩
    have ha1 := s1 _ _ ha
    refine ⟨(by show 1 ≤ sizeLine; decide), fun p0 hp0 => ?_⟩
    have s2 := same_new (o := .lst [.str ""]) s1 hp0
    have e2 : upd H1 p0 (.lst [.str ""]) sp = some (.lst (enL t.ws 0)) := by rw [upd_ne (ne_of_none e1 hp0)]; exact e1
    have f2 : upd H1 p0 (.lst [.str ""]) p0 = some (.lst [.str ""]) := upd_same
    generalize upd H1 p0 (.lst [.str ""]) = H2 at s2 e2 f2
    refine ⟨_, rfl, _, _, rfl, .inr (SqT.of (s2 _ _ ha)), p0, _, _, rfl, rfl, f2, by omega, by have := line63; omega, (by show 1 * _ ≤ sizeLine; rw [Nat.one_mul, lv]; exact big2 (by omega)), fun l hl0 => ?_⟩
    have er : (List.replicate ((vs.length : Int)).toNat [V.str ""]).flatten = (List.replicate t.ws.length ("" : Str)).map V.str := by
      rw [lv]
      show (List.replicate t.ws.length [V.str ""]).flatten = _
      rw [List.flatten_replicate_singleton, List.map_replicate]
    rw [er]
    have nl : H l = none := same_none s2 hl0
    have spl : sp ≠ l := ne_of_none e2 hl0
    have s3 := same_new (o := .lst ((List.replicate t.ws.length ("" : Str)).map V.str)) s2 hl0
    have e3 : upd H2 l (.lst ((List.replicate t.ws.length ("" : Str)).map V.str)) sp = some (.lst (enL t.ws 0)) := by rw [upd_ne spl]; exact e2
    have g3 : upd H2 l (.lst ((List.replicate t.ws.length ("" : Str)).map V.str)) l = some (.lst ((List.replicate t.ws.length ("" : Str)).map V.str)) := upd_same
    generalize upd H2 l (.lst ((List.replicate t.ws.length ("" : Str)).map V.str)) = H3 at s3 e3 g3
    refine ⟨_, rfl, _, _, rfl, .inr (SqT.of (s3 _ _ ha)), _, _, rfl, rfl, _, rfl, _, rfl, _, _, _, _, rfl, RgC.neg (by omega) (by omega) (by decide) (by decide), ?_⟩
    have en : ((vs.length : Int) - 1 - -1).toNat = t.ws.length := by omega
    rw [en]
    refine for_rangeC (fun i σ H' => ∃ t3 t4, σ = [some (.ref a), some (.ref sp), some (.ref l), t3, t4] ∧ Same H H' ∧ H' sp = some (.lst (enL t.ws 0)) ∧ ∃ xs : List Str, H' l = some (.lst (xs.map V.str)) ∧ TxF t.ws t (t.ws.length - i) xs) ⟨none, none, rfl, s3, e3, _, g3, by rw [List.length_replicate], fun j x hj hx _ => by
      have := hx.lt
      have := ws_pos x
      omega⟩ ?_ ?_
    · rintro i σ H4 hi ⟨t3, t4, rfl, k1, k2, xs, k3, kl, kf⟩
      have hj : t.ws.length - 1 - i < t.ws.length := by omega
      have ep : (vs.length : Int) - 1 + (i : Nat) * (-1) = ((t.ws.length - 1 - i : Nat) : Int) := by omega
      rw [ep]
      have ek : t.ws.length - i = t.ws.length - 1 - i + 1 := by omega
      have ek2 : t.ws.length - (i + 1) = t.ws.length - 1 - i := by omega
      rw [ek] at kf
      rw [ek2]
      generalize hpl : t.ws.length - 1 - i = pl at hj kf
      obtain ⟨x, sx, px⟩ := subs hj
      have xok := px.ok tk
      obtain ⟨vp, hvp⟩ : ∃ vp, vs[pl]? = some vp := ⟨_, List.getElem?_eq_getElem (by omega)⟩
      have ha4 := k1 _ _ ha
      -- this place is told
      have fin : ∀ t4', ∃ t3 t4'', [some (V.ref a), some (.ref sp), some (.ref l), some (.int (pl : Int)), some t4'] = [some (.ref a), some (.ref sp), some (.ref l), t3, t4''] ∧ Same H (upd H4 l (.lst ((xs.map V.str).set pl (.str (mk x.tx))))) ∧ upd H4 l (.lst ((xs.map V.str).set pl (.str (mk x.tx)))) sp = some (.lst (enL t.ws 0)) ∧ ∃ xs' : List Str, upd H4 l (.lst ((xs.map V.str).set pl (.str (mk x.tx)))) l = some (.lst (xs'.map V.str)) ∧ TxF t.ws t pl xs' := fun t4' => by
        refine ⟨_, _, rfl, fun b o q => by rw [upd_ne (ne_of_none q nl)]; exact k1 b o q, by rw [upd_ne spl]; exact k2, xs.set pl (mk x.tx), by rw [upd_same, List.map_set], by rw [List.length_set]; exact kl, fun j y hjy sy py => ?_⟩
        by_cases e : j = pl
        · subst e
          rw [List.getElem?_set_self (by omega), SubT.one sy sx (py.ok tk) xok]
        · rw [List.getElem?_set_ne (fun q => e q.symm)]
          exact kf j y (by omega) sy py
      have at_ : ∀ {j : Nat} {y : Tm}, pl + 1 ≤ j → SubT t.ws j y → Part y x → atI (xs.map V.str) ((j : Nat) : Int) = some (.str (mk y.tx)) := fun hjj sy py => atI_nat (by rw [List.getElem?_map, kf _ _ hjj sy (py.trans px)]; rfl)
      have ep1 : ((pl : Int) + 1) = ((pl + 1 : Nat) : Int) := by omega
      have la : ∀ a b : Str, (a ++ b).length = a.length + b.length := fun a b => by
        rw [← tl_len, ← tl_len, ← tl_len, tl_append, List.length_append]
      cases x with
      | nm z =>
        have hw4 := sx.nm
        have wd := (hw.2 _ _ _ hw4 hvp).same k1
        obtain ⟨tv, ty, kt⟩ := wd.tyT (by intro q; cases q)
        refine ⟨_, rfl, _, rfl, a, _, _, _, rfl, rfl, SqT.of ha4, atI_nat hvp, _, rfl, _, _, _, _, _, rfl, .ty _, ty, kt, _, rfl, ?_⟩
        refine ifF rfl ?_
        refine ⟨_, rfl, _, wd.eqUse (by intro z; cases z), _, rfl, ?_⟩
        refine ifF (nm_use xok) ?_
        obtain ⟨rfl, _⟩ := id wd
        refine ⟨_, rfl, _, rfl, _, rfl, l, _, _, pl, rfl, rfl, k3, Evl.ixN_nat (by rw [List.length_map]; omega), ?_⟩
        have := fin (.str z)
        rw [show mk (Tm.nm z).tx = z from mk_tl] at this
        exact this
      | us f b =>
        obtain ⟨hw4, sf, sb⟩ := sx.us
        have wd := (hw.2 _ _ _ hw4 hvp).same k1
        obtain ⟨tv, ty, kt⟩ := wd.tyT (by intro q; cases q)
        refine ⟨_, rfl, _, rfl, a, _, _, _, rfl, rfl, SqT.of ha4, atI_nat hvp, _, rfl, _, _, _, _, _, rfl, .ty _, ty, kt, _, rfl, ?_⟩
        refine ifF rfl ?_
        refine ⟨_, rfl, _, wd.eqUse (by intro z; cases z), _, rfl, ?_⟩
        refine ifT (by decide +kernel) ?_
        have ef := sf.end wh xok.1
        have lf := sf.lt
        have lb := sb.lt
        have wf := ws_pos f
        have wb := ws_pos b
        have l1 : (("(" : Str)).length = 1 := by decide +kernel
        have l2 : ((" " : Str)).length = 1 := by decide +kernel
        have l3 : ((")" : Str)).length = 1 := by decide +kernel
        have ff := few ((Part.ofF (.me f)).trans px)
        have fb := few ((Part.ofA (.me b)).trans px)
        have a1 : atI (xs.map V.str) ((pl : Int) + 1) = some (.str (mk f.tx)) := by rw [ep1]; exact at_ (Nat.le_refl _) sf (.ofF (.me f))
        have a2 : atI (enL t.ws 0) ((pl : Int) + 1) = some (.int ((pl + 1 + f.ws.length : Nat) : Int)) := by
          rw [ep1]
          exact atI_nat (by rw [enL_get (by omega) (Nat.zero_le _), ef])
        have a3 := at_ (j := pl + 1 + f.ws.length) (by omega) sb (.ofA (.me b))
        refine ⟨_, rfl, _, rfl, _, _, rfl, rfl, l, _, _, _, rfl, rfl, SqL.of k3, a1, _, _, rfl, rfl, Nat.le_trans (by rw [l1, mk_len]; exact Nat.le_refl _) (big4 (by omega)), _, _, rfl, rfl, Nat.le_trans (by rw [la, l1, l2, mk_len]; exact Nat.le_refl _) (big4 (by omega)), ?_⟩
        refine ⟨_, rfl, _, rfl, _, rfl, _, _, rfl, rfl, sp, _, _, _, rfl, rfl, SqL.of k2, a2, l, _, _, _, rfl, rfl, SqL.of k3, a3, _, _, rfl, rfl, ?_, _, _, rfl, rfl, ?_, ?_⟩
        · rw [la, la, l1, l2, mk_len, mk_len]; exact Nat.le_trans (m := 8000000) (by omega) (by decide)
        · rw [la, la, la, l1, l2, l3, mk_len, mk_len]; exact Nat.le_trans (m := 8000000) (by omega) (by decide)
        refine ⟨_, rfl, _, rfl, l, _, _, pl, rfl, rfl, k3, Evl.ixN_nat (by rw [List.length_map]; omega), ?_⟩
        have e5 : ("(" : Str) ++ mk f.tx ++ " " ++ mk b.tx ++ ")" = mk (Tm.us f b).tx := by
          refine ext_tl ?_
          rw [tl_append, tl_append, tl_append, tl_append, show tl ("(" : Str) = [40] from by decide +kernel, show tl (" " : Str) = [32] from by decide +kernel, show tl (")" : Str) = [41] from by decide +kernel, tl_mk', tl_mk', tl_mk']
          show _ = 40 :: (f.tx ++ 32 :: (b.tx ++ [41]))
          simp
        rw [e5]
        exact fin _
      | tk z k b =>
        obtain ⟨hw4, sb⟩ := sx.tk
        have wd := (hw.2 _ _ _ hw4 hvp).same k1
        obtain ⟨tv, ty, kt⟩ := wd.tyT (by intro q; cases q)
        refine ⟨_, rfl, _, rfl, a, _, _, _, rfl, rfl, SqT.of ha4, atI_nat hvp, _, rfl, _, _, _, _, _, rfl, .ty _, ty, kt, _, rfl, ?_⟩
        refine ifT rfl ?_
        obtain ⟨qa, x', y, rfl, hqa, ⟨ex, _⟩, _, hy, ysz⟩ := id wd
        subst ex
        have zl := name_len xok.1
        rw [tl_len] at zl
        have kl2 := kL_len k
        have fb := few ((Part.ofB (.me b)).trans px)
        have l1 : (("[" : Str)).length = 1 := by decide +kernel
        have l2 : ((":" : Str)).length = 1 := by decide +kernel
        have l3 : (("] " : Str)).length = 2 := by decide +kernel
        have a1 : atI (xs.map V.str) ((pl : Int) + 1) = some (.str (mk b.tx)) := by rw [ep1]; exact at_ (Nat.le_refl _) sb (.ofB (.me b))
        have dk := (px.dep td).1
        refine ⟨_, rfl, qa, _, _, _, rfl, rfl, SqT.of hqa, rfl, _, _, rfl, rfl, big2 (by rw [l1]; omega), _, _, rfl, rfl, big2 (by rw [la, l1, l2]; omega), ?_⟩
        refine ⟨_, rfl, qa, _, _, _, rfl, rfl, SqT.of hqa, rfl, y, k, rfl, hy, xok.2.1, dk, ysz, ?_⟩
        refine ⟨_, _, rfl, rfl, big2 (by rw [la, la, l1, l2, mk_len]; omega), _, _, rfl, rfl, big2 (by rw [la, la, la, l1, l2, l3, mk_len]; omega), ?_⟩
        refine ⟨_, rfl, _, rfl, _, _, rfl, rfl, l, _, _, _, rfl, rfl, SqL.of k3, a1, _, _, rfl, rfl, Nat.le_trans (by rw [la, la, la, la, l1, l2, l3, mk_len, mk_len]; exact Nat.le_refl _) (big4 (by omega)), ?_⟩
        refine ⟨_, rfl, _, rfl, l, _, _, pl, rfl, rfl, k3, Evl.ixN_nat (by rw [List.length_map]; omega), ?_⟩
        have e5 : ("[" : Str) ++ z ++ ":" ++ mk (kL k) ++ "] " ++ mk b.tx = mk (Tm.tk z k b).tx := by
          refine ext_tl ?_
          rw [tl_append, tl_append, tl_append, tl_append, tl_append, show tl ("[" : Str) = [91] from by decide +kernel, show tl (":" : Str) = [58] from by decide +kernel, show tl ("] " : Str) = [93, 32] from by decide +kernel, tl_mk', tl_mk', tl_mk']
          show _ = 91 :: (tl z ++ 58 :: (kL k ++ 93 :: 32 :: b.tx))
          simp
        rw [e5]
        exact fin _
    · rintro σ H4 ⟨t3, t4, rfl, k1, k2, xs, k3, kl, kf⟩
      rw [Nat.sub_self] at kf
      have q := kf 0 t (Nat.le_refl _) ⟨[], by rw [List.drop_zero, List.append_nil]⟩ (.me t)
      refine ⟨_, rfl, l, _, _, _, rfl, rfl, SqL.of k3, (atI_nat (by rw [List.getElem?_map, q]; rfl) : atI (xs.map V.str) (((0 : Nat)) : Int) = some (.str (mk t.tx))), kq H4 k1⟩
end
end LG

set_option Elab.async false
set_option linter.all false
set_option maxRecDepth 100000
set_option maxHeartbeats 4100000
namespace LG
open PySem L2 TL
abbrev sLIsT : Stmt := top 43
/-- the same data twice, nested at most so deep: texts, ints, tuples -/
def Twin (H : Hp) : Nat → V → V → Prop
  | 0, v, v' => (∃ z, v = .str z ∧ v' = .str z) ∨ ∃ i, v = .int i ∧ v' = .int i
  | n + 1, v, v' => Twin H n v v' ∨ ∃ a b xs ys, v = .ref a ∧ v' = .ref b ∧ H a = some (.tup xs) ∧ H b = some (.tup ys) ∧ xs.length = ys.length ∧ xs.length ≤ 3000 ∧ ∀ (k : Nat) (x y : V), xs[k]? = some x → ys[k]? = some y → Twin H n x y
theorem Twin.same {H H' : Hp} (s : Same H H') : ∀ {n : Nat} {v v' : V}, Twin H n v v' → Twin H' n v v'
  | 0, _, _, h => h
  | n + 1, _, _, .inl h => .inl (Twin.same s h)
  | n + 1, _, _, .inr ⟨a, b, xs, ys, e1, e2, ha, hb, l, m, e⟩ => .inr ⟨a, b, xs, ys, e1, e2, s _ _ ha, s _ _ hb, l, m, fun k x y p q => Twin.same s (e k x y p q)⟩
theorem Twin.up {H : Hp} {v v' : V} : ∀ {m n : Nat}, n ≤ m → Twin H n v v' → Twin H m v v'
  | 0, n, h, t => by
    have : n = 0 := by omega
    subst this; exact t
  | m + 1, n, h, t => by
    rcases Nat.lt_or_ge n (m + 1) with q | q
    · exact .inl (Twin.up (by omega) t)
    · have : n = m + 1 := by omega
      subst this; exact t
/-- scalars, or tuples all the way -/
theorem Twin.cases {H : Hp} : ∀ {n : Nat} {v v' : V}, Twin H n v v' → ((∃ z, v = .str z ∧ v' = .str z) ∨ ∃ i, v = .int i ∧ v' = .int i) ∨ ∃ m a b xs ys, n = m + 1 ∧ v = .ref a ∧ v' = .ref b ∧ H a = some (.tup xs) ∧ H b = some (.tup ys) ∧ xs.length = ys.length ∧ xs.length ≤ 3000 ∧ ∀ (k : Nat) (x y : V), xs[k]? = some x → ys[k]? = some y → Twin H m x y
  | 0, _, _, h => .inl h
  | n + 1, _, _, .inl h => by
    rcases Twin.cases h with q | ⟨m, a, b, xs, ys, rfl, e1, e2, ha, hb, l, m3, e⟩
    · exact .inl q
    · exact .inr ⟨m + 1, a, b, xs, ys, rfl, e1, e2, ha, hb, l, m3, fun k x y p q => .inl (e k x y p q)⟩
  | n + 1, _, _, .inr ⟨a, b, xs, ys, e1, e2, ha, hb, l, m, e⟩ => .inr ⟨n, a, b, xs, ys, rfl, e1, e2, ha, hb, l, m, e⟩
theorem th_twin {K : PySem.W.Frag} {H : Hp} : ∀ {t : Th} {v v' : V} {d : Nat}, t.any = true → t.depth ≤ d → ThAt K H t v → ThAt K H t v' → Twin H d v v'
  | .int i, v, v', d, _, _, h, h' => Twin.up (Nat.zero_le _) (.inr ⟨i, h, h'⟩)
  | .pr l r, v, v', 0, _, hd, _, _ => by
    have hd : max l.depth r.depth + 1 ≤ 0 := hd
    omega
  | .pr l r, v, v', d + 1, a, hd, h, h' => by
    obtain ⟨p, x, y, e, hp, h1, h2⟩ := h
    obtain ⟨p', x', y', e', hp', h1', h2'⟩ := h'
    obtain ⟨a1, a2⟩ := any_pr a
    have hd : max l.depth r.depth + 1 ≤ d + 1 := hd
    refine .inr ⟨p, p', _, _, e, e', hp, hp', rfl, (by show 2 ≤ 3000; decide), fun k u u' q q' => ?_⟩
    match k, q, q' with
    | 0, q, q' => cases q; cases q'; exact th_twin a1 (by omega) h1 h1'
    | 1, q, q' => cases q; cases q'; exact th_twin a2 (by omega) h2 h2'
    | k + 2, q, q' => simp at q
  | .bl _, _, _, _, a, _, _, _ => by cases a
  | .non, _, _, _, a, _, _, _ => by cases a
  | .tup, _, _, _, a, _, _, _ => by cases a
def spLIsT (n : Nat) : Sp := fun vs H Q _ => ∃ (v v' : V), vs = [v, v'] ∧ Twin H n v v' ∧ ∀ H', Same H H' → Q (.bl true) H'
section
variable {P : Program} {w : World} {K : PySem.W.Frag} {mg : Str → Option Value} {base : Heap}
theorem scLIsT : FnScope ["_law_told", "_law_due", "_law_k", "_law_key"] ["_law_told", "_law_due"] (defScope sLIsT) := ⟨rfl, rfl, rfl, by decide +kernel, rfl, by decide +kernel, by decide +kernel⟩
theorem ok_lisT1 {f : Addr} {fd : FuncData} {n d : Nat} {spR : Sp} (F : Fn K mg "_law_is" sLIsT ["_law_told", "_law_due"] f fd) (G : FnOk P w K mg base CX0 n f fd ["_law_told", "_law_due"] spR) (hG : ∀ d', d = d' + 1 → spR = spLIsT d') (T : TxB mg) (T2 : TxD mg) : FnOk P w K mg base CX0 (n + 1) f fd ["_law_told", "_law_due"] (spLIsT d) := by
  refine F.F.ok scLIsT (fun vs H Q E h => ?_) (fun cdv A outer s H vs Q E hr h => ?_)
  · obtain ⟨_, _, rfl, _⟩ := h
    rfl
  · obtain ⟨v, v', rfl, ht, kq⟩ := h
    have nd := scLIsT.nd
    refine ⟨_, pss_cons (ps_if (pt_val (pe_callB call_isiT (by rfl) T.isinstance (by decide +kernel) (pa_cons (pv 1) (pa_cons (pe_tup (pa_cons (pe_bltn (v := .ty "tuple") (by rfl) T2.tuple (by decide +kernel) rfl) (pa_cons (pe_bltn (v := .ty "list") (by rfl) T2.list (by decide +kernel) rfl) pa_nil))) pa_nil))))
        (pss_cons (ps_if (PW.pt (pw_or (pt_cmpR op_ne (pe_callB call_isi (by rfl) T.isinstance (by decide +kernel) (pa_cons (pv 0) (pa_cons (pe_bltn (v := .ty "tuple") (by rfl) T2.tuple (by decide +kernel) rfl) pa_nil))) (pe_callB call_isi (by rfl) T.isinstance (by decide +kernel) (pa_cons (pv 1) (pa_cons (pe_bltn (v := .ty "tuple") (by rfl) T2.tuple (by decide +kernel) rfl) pa_nil))) (nomark _)) (pw_or1 (pt_cmpR op_ne (pe_callB call_isi (by rfl) T.isinstance (by decide +kernel) (pa_cons (pv 0) (pa_cons (pe_bltn (v := .ty "list") (by rfl) T2.list (by decide +kernel) rfl) pa_nil))) (pe_callB call_isi (by rfl) T.isinstance (by decide +kernel) (pa_cons (pv 1) (pa_cons (pe_bltn (v := .ty "list") (by rfl) T2.list (by decide +kernel) rfl) pa_nil))) (nomark _)))))
            pss_never
            pss_nil)
        (pss_one (ps_ret (pe_and (pe_cmpR op_eq (pe_callB call_len_seq (by rfl) T.len PySem.boot_len (pa_cons (pv 0) pa_nil)) (pe_callB call_len_seq (by rfl) T.len PySem.boot_len (pa_cons (pv 1) pa_nil)) (nomark _)) (pe_one (pe_callB (cr_all rfl) (by rfl) T.all (by decide +kernel) (pa_cons (pe_lc (own := [("_law_k", 2)]) (g := gName 2) (tt := tYes) rfl nd (pi_range1 (by rfl) T.range (pa_cons (pe_callB call_len_seq (by rfl) T.len PySem.boot_len (pa_cons (pv 1) pa_nil)) pa_nil)) (blkOk_by (N := ["_law_told", "_law_due", "_law_k", "_law_key"]) (sc := defScope sLIsT) (by decide +kernel)) (fun _ _ _ _ _ => pg_name (i := 2) nd rfl (Or.inl rfl)) (fun _ _ _ _ _ => pts_nil) (fun _ _ _ _ _ => pe_call G hr (by rfl) F.m F.F.kp F.b .nil pass0 (pa_cons (pe_ix (ix_tup : IxR _ (rIxT K)) (pv 0) (pv 2) (fun _ _ => rfl)) (pa_cons (pe_ix (ix_tup : IxR _ (rIxT K)) (pv 1) (pv 2) (fun _ _ => rfl)) pa_nil)))) pa_nil)))))))
        pss_nil)
    (pss_cons (ps_if (pt_val (pe_callB call_isi (by rfl) T.isinstance (by decide +kernel) (pa_cons (pv 1) (pa_cons (pe_bltn (v := .ty "dict") (by rfl) T2.dict (by decide +kernel) rfl) pa_nil))))
        pss_never
        pss_nil)
    (pss_one (ps_ret (pe_and (pe_cmpR op_eq (pe_callB call_isi (by rfl) T.isinstance (by decide +kernel) (pa_cons (pv 0) (pa_cons (pe_bltn (v := .ty "bool") (by rfl) T2.bool (by decide +kernel) rfl) pa_nil))) (pe_callB call_isi (by rfl) T.isinstance (by decide +kernel) (pa_cons (pv 1) (pa_cons (pe_bltn (v := .ty "bool") (by rfl) T2.bool (by decide +kernel) rfl) pa_nil))) (nomark _)) (pe_one (pe_cmpR op_eq (pv 0) (pv 1) (nomark _))))))), ?_⟩
    rcases ht.cases with q | ⟨m, a, b, xs, ys, rfl, rfl, rfl, ha, hb, el, sm, ee⟩
    · have sc : ∃ t1, TyX K H v' (.type t1) ∧ TyX K H v (.type t1) ∧ kitB t1 "tuple" = some false ∧ kitB t1 "list" = some false ∧ kitB t1 "dict" = some false ∧ kitB t1 "bool" = some false := by
        rcases q with ⟨z, rfl, rfl⟩ | ⟨i, rfl, rfl⟩
        · exact ⟨"str", .base (.str z), .base (.str z), by decide +kernel, by decide +kernel, by decide +kernel, by decide +kernel⟩
        · exact ⟨"int", .base (.int i), .base (.int i), by decide +kernel, by decide +kernel, by decide +kernel, by decide +kernel⟩
      obtain ⟨t1, ty', ty, k1, k2, k3, k4⟩ := sc
      refine ⟨_, rfl, (by show 2 ≤ sizeLine; decide), fun tp htp => ?_⟩
      have s1 := same_new (o := .tup [.ty "tuple", .ty "list"]) (same_refl H) htp
      refine ⟨_, _, _, _, _, _, rfl, upd_same, .cons (.ty _) (.cons (.ty _) .nil), tyx_same s1 ty', (kitAny_cons (kit_ty k1) (fun _ => kitAny_cons (kit_ty k2) (fun _ => kitAny_nil) (fun z => nomatch z)) (fun z => nomatch z)), _, rfl, ?_⟩
      refine ifF rfl ?_
      refine ⟨_, rfl, _, _, _, _, _, rfl, .ty _, tyx_same s1 ty', kit_ty k3, _, rfl, ?_⟩
      refine ifF rfl ?_
      refine ⟨_, rfl, _, _, _, _, _, rfl, .ty _, tyx_same s1 ty, kit_ty k4, _, rfl, _, _, _, _, _, rfl, .ty _, tyx_same s1 ty', kit_ty k4, rfl, _, rfl, ?_⟩
      refine ifT (by decide) ?_
      rcases q with ⟨z, rfl, rfl⟩ | ⟨i, rfl, rfl⟩
      · refine ⟨_, rfl, _, rfl, rfl, ?_⟩
        rw [decide_eq_true rfl]
        exact kq _ s1
      · refine ⟨_, rfl, _, rfl, rfl, ?_⟩
        rw [decide_eq_true rfl]
        exact kq _ s1
    · have sp : spR = spLIsT m := hG m rfl
      refine ⟨_, rfl, (by show 2 ≤ sizeLine; decide), fun tp htp => ?_⟩
      have s1 := same_new (o := .tup [.ty "tuple", .ty "list"]) (same_refl H) htp
      have ha1 := s1 _ _ ha
      have hb1 := s1 _ _ hb
      have f1 : upd H tp (.tup [.ty "tuple", .ty "list"]) tp = some (.tup [.ty "tuple", .ty "list"]) := upd_same
      generalize upd H tp (.tup [.ty "tuple", .ty "list"]) = H1 at s1 ha1 hb1 f1
      refine ⟨_, _, _, _, _, _, rfl, f1, .cons (.ty _) (.cons (.ty _) .nil), .base (.tup hb1), (kitAny_cons (kit_ty (a := "tuple") (r := true) (by decide +kernel)) (fun z => nomatch z) (fun _ => rfl)), _, rfl, ?_⟩
      refine ifT rfl ?_
      refine ⟨_, rfl, _, _, _, _, _, rfl, .ty _, .base (.tup ha1), kit_ty (r := true) (by decide +kernel), _, rfl, _, _, _, _, _, rfl, .ty _, .base (.tup hb1), kit_ty (r := true) (by decide +kernel), rfl, _, rfl, ?_⟩
      refine ifF (by decide) ?_
      refine ⟨_, rfl, _, _, _, _, _, rfl, .ty _, .base (.tup ha1), kit_ty (r := false) (by decide +kernel), _, rfl, _, _, _, _, _, rfl, .ty _, .base (.tup hb1), kit_ty (r := false) (by decide +kernel), rfl, _, rfl, ?_⟩
      refine ifF (by decide) ?_
      refine ⟨_, rfl, _, _, rfl, .inr (SqT.of ha1), _, rfl, _, _, rfl, .inr (SqT.of hb1), rfl, _, rfl, ?_⟩
      refine ifT (decide_eq_true (by rw [el])) ?_
      refine ⟨_, rfl, _, _, rfl, .inr (SqT.of hb1), _, rfl, by omega, by have := line63; omega, fun D hD => ?_⟩
      rw [show ((ys.length : Int)).toNat = ys.length by omega]
      refine lc_range (lo := 0) (n := ys.length) (fun i H' => Same H1 H' ∧ H' D = some (.lst ((List.replicate i true).map V.bl))) ⟨same_new (same_refl H1) hD, upd_same⟩ ?_ ?_
      · rintro i H' hi ⟨h1, h2⟩
        refine ⟨rfl, ?_⟩
        refine yes_kept ?_
        rw [Int.zero_add]
        obtain ⟨x, hx⟩ : ∃ x, xs[i]? = some x := ⟨_, List.getElem?_eq_getElem (by omega)⟩
        obtain ⟨y, hy⟩ : ∃ y, ys[i]? = some y := ⟨_, List.getElem?_eq_getElem hi⟩
        refine ⟨_, rfl, _, rfl, a, _, _, x, rfl, rfl, SqT.of (h1 _ _ ha1), atI_nat hx, _, rfl, _, rfl, b, _, _, y, rfl, rfl, SqT.of (h1 _ _ hb1), atI_nat hy, ?_⟩
        rw [sp]
        refine ⟨x, y, rfl, (ee i x y hx hy).same (same_trans s1 h1), fun H2 s2 => ?_⟩
        refine ⟨_, s2 _ _ h2, (by rw [List.length_map, List.length_replicate]; exact room2 (by omega)), fun c o q => by rw [upd_ne (ne_of_none q hD)]; exact s2 _ _ (h1 c o q), ?_⟩
        rw [upd_same, List.replicate_succ', List.map_append]; rfl
      · rintro H' ⟨h1, h2⟩
        refine ⟨D, _, rfl, SqL.of h2, ?_⟩
        have : (List.replicate ys.length true).all id = true := by simp
        rw [this]
        exact kq _ (same_trans s1 h1)
theorem ok_lisT {f : Addr} {fd : FuncData} (F : Fn K mg "_law_is" sLIsT ["_law_told", "_law_due"] f fd) (T : TxB mg) (T2 : TxD mg) : ∀ d : Nat, FnOk P w K mg base CX0 (d + 2) f fd ["_law_told", "_law_due"] (spLIsT d) := by
  have G0 : FnOk P w K mg base CX0 1 f fd ["_law_told", "_law_due"] (fun _ _ _ _ => False) := F.F.ok scLIsT (fun vs H Q E h => False.elim h) (fun cdv A outer s H vs Q E hr h => False.elim h)
  intro d
  induction d with
  | zero => exact ok_lisT1 F G0 (fun d' e => by omega) T T2
  | succ d ih =>
    refine ok_lisT1 F ih (fun d' e => ?_) T T2
    have q : d' = d := by omega
    rw [q]
end
end LG

set_option Elab.async false
set_option linter.all false
set_option maxRecDepth 100000
set_option maxHeartbeats 4100000
namespace LG
open PySem L2 TL
abbrev sLAK : Stmt := top 54
abbrev sLLK : Stmt := top 55
/-! ### texts tell kinds and programs apart: mathematics -/
theorem kL_inj : ∀ {t u : Th} {r s : List Nat}, t.any = true → u.any = true → noBl r → noBl s → kL t ++ r = kL u ++ s → t = u ∧ r = s
  | .int i, .int j, r, s, ht, hu, _, _, e => by
    obtain ⟨i', e1, hi⟩ := any_int ht rfl
    obtain ⟨j', e2, hj⟩ := any_int hu rfl
    cases e1; cases e2
    have e : (97 + (i' : Int).toNat) :: r = (97 + (j' : Int).toNat) :: s := e
    injection e with e3 e4
    rw [Int.toNat_natCast, Int.toNat_natCast] at e3
    have : i' = j' := by omega
    rw [this]; exact ⟨rfl, e4⟩
  | .int i, .pr l q, r, s, ht, hu, hr, _, e => by
    exfalso
    obtain ⟨i', e1, hi⟩ := any_int ht rfl
    cases e1
    obtain ⟨al, _⟩ := any_pr hu
    have e : (97 + (i' : Int).toNat) :: r = ((if l.isPr = true then 40 :: (kL l ++ [41]) else kL l) ++ 32 :: 62 :: 32 :: kL q) ++ s := e
    rw [Int.toNat_natCast] at e
    cases hl : l.isPr with
    | true =>
      rw [hl, if_pos rfl] at e
      injection e with e3 _; omega
    | false =>
      rw [hl, if_neg Bool.false_ne_true] at e
      obtain ⟨j, rfl, hj⟩ := any_int al hl
      have e : (97 + i') :: r = (97 + (j : Int).toNat) :: (32 :: 62 :: 32 :: kL q ++ s) := e
      injection e with _ e4
      rw [e4] at hr
      exact hr rfl
  | .pr l q, .int j, r, s, ht, hu, _, hs, e => by
    exfalso
    obtain ⟨j', e1, hj⟩ := any_int hu rfl
    cases e1
    obtain ⟨al, _⟩ := any_pr ht
    have e : ((if l.isPr = true then 40 :: (kL l ++ [41]) else kL l) ++ 32 :: 62 :: 32 :: kL q) ++ r = (97 + (j' : Int).toNat) :: s := e
    rw [Int.toNat_natCast] at e
    cases hl : l.isPr with
    | true =>
      rw [hl, if_pos rfl] at e
      injection e with e3 _; omega
    | false =>
      rw [hl, if_neg Bool.false_ne_true] at e
      obtain ⟨i, rfl, hi⟩ := any_int al hl
      have e : (97 + (i : Int).toNat) :: (32 :: 62 :: 32 :: kL q ++ r) = (97 + j') :: s := e
      injection e with _ e4
      rw [← e4] at hs
      exact hs rfl
  | .pr l q, .pr l' q', r, s, ht, hu, hr, hs, e => by
    obtain ⟨al, aq⟩ := any_pr ht
    obtain ⟨al', aq'⟩ := any_pr hu
    have e : ((if l.isPr = true then 40 :: (kL l ++ [41]) else kL l) ++ 32 :: 62 :: 32 :: kL q) ++ r = ((if l'.isPr = true then 40 :: (kL l' ++ [41]) else kL l') ++ 32 :: 62 :: 32 :: kL q') ++ s := e
    cases hl : l.isPr with
    | true =>
      cases hl' : l'.isPr with
      | true =>
        rw [hl, hl', if_pos rfl, if_pos rfl] at e
        have e : 40 :: (kL l ++ (41 :: 32 :: 62 :: 32 :: (kL q ++ r))) = 40 :: (kL l' ++ (41 :: 32 :: 62 :: 32 :: (kL q' ++ s))) := by simpa using e
        injection e with _ e
        obtain ⟨e1, e2⟩ := kL_inj al al' (fun z => by injection z with z; cases z) (fun z => by injection z with z; cases z) e
        injection e2 with _ e2; injection e2 with _ e2; injection e2 with _ e2; injection e2 with _ e2
        obtain ⟨e3, e4⟩ := kL_inj aq aq' hr hs e2
        exact ⟨by rw [e1, e3], e4⟩
      | false =>
        exfalso
        rw [hl, hl', if_pos rfl, if_neg Bool.false_ne_true] at e
        obtain ⟨j, rfl, hj⟩ := any_int al' hl'
        have e : 40 :: _ = (97 + (j : Int).toNat) :: _ := e
        rw [Int.toNat_natCast] at e
        injection e with e3 _; omega
    | false =>
      obtain ⟨i, rfl, hi⟩ := any_int al hl
      cases hl' : l'.isPr with
      | true =>
        exfalso
        rw [hl, hl', if_pos rfl, if_neg Bool.false_ne_true] at e
        have e : (97 + (i : Int).toNat) :: _ = 40 :: _ := e
        rw [Int.toNat_natCast] at e
        injection e with e3 _; omega
      | false =>
        obtain ⟨j, rfl, hj⟩ := any_int al' hl'
        have e : (97 + (i : Int).toNat) :: 32 :: 62 :: 32 :: (kL q ++ r) = (97 + (j : Int).toNat) :: 32 :: 62 :: 32 :: (kL q' ++ s) := e
        rw [Int.toNat_natCast, Int.toNat_natCast] at e
        injection e with e0 e2
        injection e2 with _ e2; injection e2 with _ e2; injection e2 with _ e2
        obtain ⟨e3, e4⟩ := kL_inj aq aq' hr hs e2
        have : i = j := by omega
        exact ⟨by rw [this, e3], e4⟩
  | .bl _, _, _, _, a, _, _, _, _ => by cases a
  | .non, _, _, _, a, _, _, _, _ => by cases a
  | .tup, _, _, _, a, _, _, _, _ => by cases a
  | .int _, .bl _, _, _, _, a, _, _, _ => by cases a
  | .int _, .non, _, _, _, a, _, _, _ => by cases a
  | .int _, .tup, _, _, _, a, _, _, _ => by cases a
  | .pr _ _, .bl _, _, _, _, a, _, _, _ => by cases a
  | .pr _ _, .non, _, _, _, a, _, _, _ => by cases a
  | .pr _ _, .tup, _, _, _, a, _, _, _ => by cases a
theorem nm_head {z : Str} (h : nameB z = true) : ∃ c l, tl z = c :: l ∧ c ∈ letters.cps.toList := by
  have l1 := (name_len h).1
  have l2 := name_signs h
  cases e : tl z with
  | nil => rw [e] at l1; exact absurd l1 (by simp)
  | cons c l => exact ⟨c, l, rfl, l2 c (by rw [e]; exact List.mem_cons_self)⟩
theorem no40 : 40 ∉ letters.cps.toList := by decide +kernel
theorem no91 : 91 ∉ letters.cps.toList := by decide +kernel
theorem stop32 {l : List Nat} : stopN (32 :: l) := (show 32 ∉ letters.cps.toList by decide +kernel)
theorem stop41 {l : List Nat} : stopN (41 :: l) := (show 41 ∉ letters.cps.toList by decide +kernel)
theorem stop58 {l : List Nat} : stopN (58 :: l) := (show 58 ∉ letters.cps.toList by decide +kernel)
theorem tx_inj : ∀ {t u : Tm} {r s : List Nat}, t.ok → u.ok → stopN r → stopN s → t.tx ++ r = u.tx ++ s → t = u ∧ r = s
  | .nm z, .nm y, r, s, ht, hu, hr, hs, e => by
    obtain ⟨e1, e2⟩ := name_split (name_signs ht) (name_signs hu) hr hs e
    have : z = y := ext_tl e1
    rw [this]; exact ⟨rfl, e2⟩
  | .nm z, .us f a, r, s, ht, _, _, _, e => by
    exfalso
    obtain ⟨c, l, e1, m⟩ := nm_head ht
    have e : tl z ++ r = 40 :: _ := e
    rw [e1] at e
    injection e with e _
    rw [e] at m; exact no40 m
  | .nm z, .tk y k b, r, s, ht, _, _, _, e => by
    exfalso
    obtain ⟨c, l, e1, m⟩ := nm_head ht
    have e : tl z ++ r = 91 :: _ := e
    rw [e1] at e
    injection e with e _
    rw [e] at m; exact no91 m
  | .us f a, .nm z, r, s, _, hu, _, _, e => by
    exfalso
    obtain ⟨c, l, e1, m⟩ := nm_head hu
    have e : 40 :: _ = tl z ++ s := e
    rw [e1] at e
    injection e with e _
    rw [← e] at m; exact no40 m
  | .us f a, .us f' a', r, s, ht, hu, hr, hs, e => by
    have e : 40 :: (f.tx ++ 32 :: (a.tx ++ [41])) ++ r = 40 :: (f'.tx ++ 32 :: (a'.tx ++ [41])) ++ s := e
    have e : 40 :: (f.tx ++ (32 :: (a.tx ++ (41 :: r)))) = 40 :: (f'.tx ++ (32 :: (a'.tx ++ (41 :: s)))) := by simpa using e
    injection e with _ e
    obtain ⟨e1, e2⟩ := tx_inj ht.1 hu.1 stop32 stop32 e
    injection e2 with _ e2
    obtain ⟨e3, e4⟩ := tx_inj ht.2 hu.2 stop41 stop41 e2
    injection e4 with _ e4
    exact ⟨by rw [e1, e3], e4⟩
  | .us f a, .tk z k b, r, s, _, _, _, _, e => by
    exfalso
    have e : 40 :: _ = 91 :: _ := e
    injection e with e _
    exact absurd e (by decide)
  | .tk y k b, .nm z, r, s, _, hu, _, _, e => by
    exfalso
    obtain ⟨c, l, e1, m⟩ := nm_head hu
    have e : 91 :: _ = tl z ++ s := e
    rw [e1] at e
    injection e with e _
    rw [← e] at m; exact no91 m
  | .tk z k b, .us f a, r, s, _, _, _, _, e => by
    exfalso
    have e : 91 :: _ = 40 :: _ := e
    injection e with e _
    exact absurd e (by decide)
  | .tk z k b, .tk z' k' b', r, s, ht, hu, hr, hs, e => by
    have e : 91 :: (tl z ++ 58 :: (kL k ++ 93 :: 32 :: b.tx)) ++ r = 91 :: (tl z' ++ 58 :: (kL k' ++ 93 :: 32 :: b'.tx)) ++ s := e
    have e : 91 :: (tl z ++ (58 :: (kL k ++ (93 :: 32 :: (b.tx ++ r))))) = 91 :: (tl z' ++ (58 :: (kL k' ++ (93 :: 32 :: (b'.tx ++ s))))) := by simpa using e
    injection e with _ e
    obtain ⟨e1, e2⟩ := name_split (name_signs ht.1) (name_signs hu.1) stop58 stop58 e
    injection e2 with _ e2
    obtain ⟨e3, e4⟩ := kL_inj ht.2.1 hu.2.1 (fun z => by injection z with z; cases z) (fun z => by injection z with z; cases z) e2
    injection e4 with _ e4; injection e4 with _ e4
    obtain ⟨e5, e6⟩ := tx_inj ht.2.2 hu.2.2 hr hs e4
    have : z = z' := ext_tl e1
    exact ⟨by rw [this, e3, e5], e6⟩
/-! ### kinds and words as data that == compares -/
def thD : Th → PyData
  | .int i => .int i
  | .pr l r => .tuple [thD l, thD r]
  | _ => .none
def wdD : Wd → PyData
  | .st z => .str z
  | .pr (some z) t => .tuple [.str z, thD t]
  | _ => .none
theorem th_eqv : ∀ {t u : Th}, t.any = true → u.any = true → (PyData.eqv (thD t) (thD u) = true ↔ t = u)
  | .int i, .int j, _, _ => by
    show (i == j) = true ↔ _
    rw [beq_iff_eq]
    exact ⟨fun h => (by rw [h]), fun h => by injection h⟩
  | .int i, .pr l r, _, _ => ⟨fun h => (by cases h), fun h => (by cases h)⟩
  | .pr l r, .int i, _, _ => ⟨fun h => (by cases h), fun h => (by cases h)⟩
  | .pr l r, .pr l' r', a, b => by
    obtain ⟨a1, a2⟩ := any_pr a
    obtain ⟨b1, b2⟩ := any_pr b
    show (PyData.eqv (thD l) (thD l') && (PyData.eqv (thD r) (thD r') && true)) = true ↔ _
    rw [Bool.and_true, Bool.and_eq_true, th_eqv a1 b1, th_eqv a2 b2]
    exact ⟨fun h => (by rw [h.1, h.2]), fun h => by injection h with h1 h2; exact ⟨h1, h2⟩⟩
  | .bl _, _, a, _ => by cases a
  | .non, _, a, _ => by cases a
  | .tup, _, a, _ => by cases a
  | .int _, .bl _, _, a => by cases a
  | .int _, .non, _, a => by cases a
  | .int _, .tup, _, a => by cases a
  | .pr _ _, .bl _, _, a => by cases a
  | .pr _ _, .non, _, a => by cases a
  | .pr _ _, .tup, _, a => by cases a
def WdA : Wd → Prop
  | .st _ => True
  | .pr (some _) t => t.any = true
  | _ => False
theorem wd_eqv : ∀ {w u : Wd}, WdA w → WdA u → (PyData.eqv (wdD w) (wdD u) = true ↔ w = u)
  | .st z, .st y, _, _ => by
    show (z == y) = true ↔ _
    rw [beq_iff_eq]
    exact ⟨fun h => (by rw [h]), fun h => by injection h⟩
  | .st z, .pr (some y) t, _, _ => ⟨fun h => (by cases h), fun h => (by cases h)⟩
  | .pr (some y) t, .st z, _, _ => ⟨fun h => (by cases h), fun h => (by cases h)⟩
  | .pr (some z) t, .pr (some y) u, a, b => by
    show ((z == y) && (PyData.eqv (thD t) (thD u) && true)) = true ↔ _
    rw [Bool.and_true, Bool.and_eq_true, beq_iff_eq, th_eqv a b]
    exact ⟨fun h => (by rw [h.1, h.2]), fun h => by injection h with h1 h2; injection h1 with h1; exact ⟨h1, h2⟩⟩
  | .pr none _, _, a, _ => a.elim
  | .no, _, a, _ => a.elim
  | .st _, .pr none _, _, b => b.elim
  | .st _, .no, _, b => b.elim
  | .pr (some _) _, .pr none _, _, b => b.elim
  | .pr (some _) _, .no, _, b => b.elim
theorem ws_eqv : ∀ {ws us : List Wd}, (∀ w ∈ ws, WdA w) → (∀ w ∈ us, WdA w) → (PyData.eqvAll (ws.map wdD) (us.map wdD) = true ↔ ws = us)
  | [], [], _, _ => ⟨fun _ => rfl, fun _ => rfl⟩
  | [], _ :: _, _, _ => ⟨fun h => (by cases h), fun h => (by cases h)⟩
  | _ :: _, [], _, _ => ⟨fun h => (by cases h), fun h => (by cases h)⟩
  | w :: ws, u :: us, a, b => by
    show (PyData.eqv (wdD w) (wdD u) && PyData.eqvAll (ws.map wdD) (us.map wdD)) = true ↔ _
    rw [Bool.and_eq_true, wd_eqv (a w List.mem_cons_self) (b u List.mem_cons_self), ws_eqv (fun x hx => a x (List.mem_cons_of_mem _ hx)) (fun x hx => b x (List.mem_cons_of_mem _ hx))]
    exact ⟨fun h => (by rw [h.1, h.2]), fun h => by injection h with h1 h2; exact ⟨h1, h2⟩⟩
theorem tm_wds : ∀ {t : Tm}, t.ok → ∀ w ∈ t.ws, WdA w
  | .nm z, _, w, h => by
    have h : w ∈ [Wd.st z] := h
    rw [List.mem_singleton] at h; rw [h]; trivial
  | .us f a, k, w, h => by
    have h : w ∈ Wd.st "@" :: (f.ws ++ a.ws) := h
    obtain q | q := List.mem_cons.mp h
    · rw [q]; trivial
    · obtain q | q := List.mem_append.mp q
      · exact tm_wds k.1 w q
      · exact tm_wds k.2 w q
  | .tk z t b, k, w, h => by
    have h : w ∈ Wd.pr (some z) t :: b.ws := h
    obtain q | q := List.mem_cons.mp h
    · rw [q]; exact k.2.1
    · exact tm_wds k.2.2 w q
theorem ws_inj {t u : Tm} (ht : t.ok) (hu : u.ok) (e : t.ws = u.ws) : t = u := SubT.one (ws := t.ws) (p := 0) ⟨[], by rw [List.drop_zero, List.append_nil]⟩ ⟨[], by rw [List.drop_zero, List.append_nil]; exact e⟩ ht hu
theorem kind_same {t u : Th} (ht : t.any = true) (hu : u.any = true) : decide (V.str (mk (kL t)) = V.str (mk (kL u))) = PyData.eqv (thD t) (thD u) := by
  rw [Bool.eq_iff_iff, decide_eq_true_eq, th_eqv ht hu]
  constructor
  · intro h
    have h := mk_inj (V.str.inj h)
    exact (kL_inj (r := []) (s := []) ht hu (fun z => by cases z) (fun z => by cases z) (by rw [List.append_nil, List.append_nil]; exact h)).1
  · rintro rfl; rfl
theorem prog_same {t u : Tm} (ht : t.ok) (hu : u.ok) : decide (V.str (mk t.tx) = V.str (mk u.tx)) = PyData.eqv (.tuple (t.ws.map wdD)) (.tuple (u.ws.map wdD)) := by
  (rw [Bool.eq_iff_iff, decide_eq_true_eq])
  show _ ↔ PyData.eqvAll (t.ws.map wdD) (u.ws.map wdD) = true
  rw [ws_eqv (tm_wds ht) (tm_wds hu)]
  constructor
  · intro h
    have h := mk_inj (V.str.inj h)
    rw [(tx_inj (r := []) (s := []) ht hu trivial trivial (by rw [List.append_nil, List.append_nil]; exact h)).1]
  · intro h
    rw [ws_inj ht hu h]
/-! ### such data may be compared -/
theorem th_lay : ∀ {t : Th}, t.any = true → (thD t).canLay0 = true
  | .int _, _ => rfl
  | .pr l r, a => by
    obtain ⟨a1, a2⟩ := any_pr a
    show ((thD l).canLay0 && ((thD r).canLay0 && true)) = true
    rw [th_lay a1, th_lay a2]; rfl
  | .bl _, a => by cases a
  | .non, a => by cases a
  | .tup, a => by cases a
theorem th_dep : ∀ {t : Th}, (thD t).depth ≤ t.depth
  | .int _ => Nat.le_refl _
  | .pr l r => by
    have a := th_dep (t := l)
    have b := th_dep (t := r)
    show max (thD l).depth (max (thD r).depth 0) + 1 ≤ max l.depth r.depth + 1
    omega
  | .bl _ => Nat.le_refl _
  | .non => Nat.le_refl _
  | .tup => Nat.le_refl _
theorem nm_lay {z : Str} (h : ∀ c ∈ tl z, c < 0x110000) : (PyData.str z).canLay0 = true := by
  show z.cps.all (· < 0x110000) = true
  (rw [← Array.all_toList, List.all_eq_true])
  intro c hc
  exact decide_eq_true (h c hc)
theorem letter_lt {c : Nat} (h : c ∈ letters.cps.toList) : c < 0x110000 := by
  have : ∀ d ∈ letters.cps.toList, d < 0x110000 := by decide +kernel
  exact this c h
theorem ws_lay : ∀ {t : Tm} {r : List PyData}, t.ok → PyData.canLayAll0 r = true → PyData.canLayAll0 (t.ws.map wdD ++ r) = true
  | .nm z, r, h, hr => by
    show ((PyData.str z).canLay0 && PyData.canLayAll0 r) = true
    rw [hr, nm_lay fun c hc => letter_lt (name_signs h c hc)]; rfl
  | .us f a, r, h, hr => by
    show ((PyData.str "@").canLay0 && PyData.canLayAll0 ((f.ws ++ a.ws).map wdD ++ r)) = true
    rw [List.map_append, List.append_assoc, ws_lay h.1 (ws_lay h.2 hr)]
    decide +kernel
  | .tk z t b, r, h, hr => by
    show (((PyData.str z).canLay0 && ((thD t).canLay0 && true)) && PyData.canLayAll0 (b.ws.map wdD ++ r)) = true
    rw [ws_lay h.2.2 hr, nm_lay fun c hc => letter_lt (name_signs h.1 c hc), th_lay h.2.1]; rfl
theorem ws_dep {d : Nat} : ∀ {t : Tm} {r : List PyData}, t.dep d → PyData.depthAll r ≤ d + 1 → PyData.depthAll (t.ws.map wdD ++ r) ≤ d + 1
  | .nm z, r, _, hr => by
    show max 0 (PyData.depthAll r) ≤ d + 1
    omega
  | .us f a, r, h, hr => by
    have := ws_dep h.1 (ws_dep h.2 hr)
    show max 0 (PyData.depthAll ((f.ws ++ a.ws).map wdD ++ r)) ≤ d + 1
    rw [List.map_append, List.append_assoc]
    omega
  | .tk z t b, r, h, hr => by
    have h1 := ws_dep h.2 hr
    have h2 := th_dep (t := t)
    have h3 := h.1
    show max (max 0 (max (thD t).depth 0) + 1) (PyData.depthAll (b.ws.map wdD ++ r)) ≤ d + 1
    omega
theorem prog_shaped {t : Tm} {d : Nat} (h : t.ok) (k : t.dep d) (d30 : d ≤ 30) : SeqAt.shaped (.tuple (t.ws.map wdD)) = true := by
  have a := ws_lay (r := []) h rfl
  have b := ws_dep (r := []) k (Nat.zero_le _)
  rw [List.append_nil] at a b
  unfold SeqAt.shaped
  rw [Bool.and_eq_true]
  refine ⟨a, decide_eq_true ?_⟩
  show PyData.depthAll (t.ws.map wdD) + 1 ≤ 64
  omega
theorem th_shaped {t : Th} (h : t.any = true) (k : t.depth ≤ 30) : SeqAt.shaped (thD t) = true := by
  unfold SeqAt.shaped
  rw [Bool.and_eq_true]
  have := th_dep (t := t)
  exact ⟨th_lay h, decide_eq_true (by omega)⟩
theorem th_dp {K : PySem.W.Frag} {H : Hp} : ∀ {t : Th} {v : V}, t.any = true → ThAt K H t v → Dp K H v (thD t)
  | .int i, v, _, h => by
    have e : v = .int i := h
    rw [e]; exact .int i
  | .pr l r, v, a, h => by
    obtain ⟨p, x, y, rfl, hp, h1, h2⟩ := h
    obtain ⟨a1, a2⟩ := any_pr a
    exact .tup (SqT.of hp) (.cons (th_dp a1 h1) (.cons (th_dp a2 h2) .nil))
  | .bl _, _, a, _ => by cases a
  | .non, _, a, _ => by cases a
  | .tup, _, a, _ => by cases a
theorem wd_dp {K : PySem.W.Frag} {H : Hp} : ∀ {w : Wd} {v : V}, WdA w → WdAt K H w v → Dp K H v (wdD w)
  | .st z, v, _, h => by
    obtain ⟨rfl, _⟩ := h
    exact .str z
  | .pr (some z) t, v, a, h => by
    obtain ⟨p, x, y, rfl, hp, ⟨rfl, _⟩, _, h2, _⟩ := h
    exact .tup (SqT.of hp) (.cons (.str z) (.cons (th_dp a h2) .nil))
  | .pr none _, _, a, _ => a.elim
  | .no, _, a, _ => a.elim
theorem ws_dp {K : PySem.W.Frag} {H : Hp} : ∀ {ws : List Wd} {vs : List V}, (∀ w ∈ ws, WdA w) → WdsAt K H ws vs → DpAll K H vs (ws.map wdD)
  | [], [], _, _ => .nil
  | [], v :: vs, _, h => by have := h.1; cases this
  | w :: ws, [], _, h => by have := h.1; cases this
  | w :: ws, v :: vs, a, h => .cons (wd_dp (a w List.mem_cons_self) (h.2 0 w v rfl rfl)) (ws_dp (fun x hx => a x (List.mem_cons_of_mem _ hx)) ⟨Nat.succ.inj h.1, fun i x y p q => h.2 (i + 1) x y p q⟩)
theorem prog_dp {K : PySem.W.Frag} {H : Hp} {t : Tm} {a : Addr} {vs : List V} (k : t.ok) (ha : H a = some (.tup vs)) (h : WdsAt K H t.ws vs) : Dp K H (.ref a) (.tuple (t.ws.map wdD)) := .tup (SqT.of ha) (ws_dp (tm_wds k) h)
end LG

set_option Elab.async false
set_option linter.all false
set_option maxRecDepth 100000
set_option maxHeartbeats 4100000
namespace LG
open PySem L2 TL
def spLAK (K : PySem.W.Frag) (d : Nat) : Sp := fun vs H Q _ => ∃ (p c : Addr) (cells : List Int), vs = [.ref p, .int (d : Int)] ∧ HandAt H p c cells ∧ Back K H p c cells (fun t => t.any = true ∧ t.depth ≤ d ∧ t.size < 2 ^ (d + 1)) Q
def spLLK (K : PySem.W.Frag) : Sp := fun vs H Q _ => ∃ (p c : Addr) (cells : List Int), vs = [.ref p] ∧ HandAt H p c cells ∧ Back K H p c cells (fun t => t.any = true ∧ t.depth ≤ 16 ∧ t.letters ≤ 43 ∧ t.size ≤ 85) Q
section
variable {P : Program} {w : World} {K : PySem.W.Frag} {mg : Str → Option Value} {base : Heap}
theorem scLLK : FnScope ["_law_hand_here", "_law_found", "_law_turn", "_law_left"] ["_law_hand_here"] (defScope sLLK) := ⟨rfl, rfl, rfl, by decide +kernel, rfl, by decide +kernel, by decide +kernel⟩
theorem scLAK : FnScope ["_law_hand_here", "_law_deep"] ["_law_hand_here", "_law_deep"] (defScope sLAK) := ⟨rfl, rfl, rfl, by decide +kernel, rfl, by decide +kernel, by decide +kernel⟩
theorem letter26 {r : Int} (h0 : 0 ≤ r) (h : r < 26) : (Th.int r).any = true ∧ (Th.int r).depth = 0 ∧ (Th.int r).size = 1 ∧ (Th.int r).letters = 1 := by
  refine ⟨?_, rfl, rfl, rfl⟩
  show (decide (0 ≤ r) && decide (r ≤ 25)) = true
  rw [decide_eq_true h0, decide_eq_true (by omega)]
  rfl
theorem ok_lak {f fD : Addr} {fd fdD : FuncData} (F : Fn K mg "_law_any_kind" sLAK ["_law_hand_here", "_law_deep"] f fd) (ND : Fn K mg "_law_draw" sDraw ["_law_hand_here", "_law_many"] fD fdD) (T : TxB mg) : ∀ d : Nat, FnOk P w K mg base CX0 (d + 2) f fd ["_law_hand_here", "_law_deep"] (spLAK K d) := by
  intro d
  induction d with
  | zero =>
    have GD : FnOk P w K mg base CX0 1 fD fdD ["_law_hand_here", "_law_many"] spDraw := ok_draw ND.F T
    refine F.F.ok scLAK (fun vs H Q E h => ?_) (fun cdv A outer s H vs Q E hr h => ?_)
    · obtain ⟨p, c, cells, rfl, _⟩ := h
      rfl
    · obtain ⟨p, c, cells, rfl, hA, k⟩ := h
      refine ⟨_, pss_cons (ps_if (PW.pt (pw_or (pt_cmpR op_eq (pv 1) pe_int (nomark _)) (pw_or1 (pt_cmpR op_eq (pe_call GD hr (by rfl) ND.m ND.F.kp ND.b .nil pass0 (pa_cons (pv 0) (pa_cons pe_int pa_nil))) pe_int (nomark _)))))
          (pss_one (ps_ret (pe_call GD hr (by rfl) ND.m ND.F.kp ND.b .nil pass0 (pa_cons (pv 0) (pa_cons pe_int pa_nil))))) pss_nil)
        pss_never, ?_⟩
      refine ⟨_, rfl, rfl, _, rfl, ?_⟩
      refine ifT (by decide) ?_
      refine ifT (by decide) ?_
      refine ⟨_, rfl, p, c, cells, 26, rfl, hA, by decide, by decide, fun r2 H2 z0' z3 hA2 o2 => ?_⟩
      obtain ⟨q1, q2, q3, _⟩ := letter26 z0' z3
      exact k (.int r2) _ H2 hA2 (del_off o2) rfl ⟨q1, by rw [q2]; exact Nat.zero_le _, by rw [q3]; decide⟩
  | succ d G =>
    have GD : FnOk P w K mg base CX0 1 fD fdD ["_law_hand_here", "_law_many"] spDraw := ok_draw ND.F T
    refine F.F.ok scLAK (fun vs H Q E h => ?_) (fun cdv A outer s H vs Q E hr h => ?_)
    · obtain ⟨p, c, cells, rfl, _⟩ := h
      rfl
    · obtain ⟨p, c, cells, rfl, hA, k⟩ := h
      have hr1 := hr.mono (show 1 ≤ d + 1 + 1 by omega)
      refine ⟨_, pss_cons (ps_if (PW.pt (pw_or (pt_cmpR op_eq (pv 1) pe_int (nomark _)) (pw_or1 (pt_cmpR op_eq (pe_call GD hr1 (by rfl) ND.m ND.F.kp ND.b .nil pass0 (pa_cons (pv 0) (pa_cons pe_int pa_nil))) pe_int (nomark _)))))
          (pss_one (ps_ret (pe_call GD hr1 (by rfl) ND.m ND.F.kp ND.b .nil pass0 (pa_cons (pv 0) (pa_cons pe_int pa_nil))))) pss_nil)
        (pss_one (ps_ret (pe_tup (pa_cons (pe_call G hr (by rfl) F.m F.F.kp F.b .nil pass0 (pa_cons (pv 0) (pa_cons (pe_op op_sub (pv 1) pe_int) pa_nil))) (pa_cons (pe_call G hr (by rfl) F.m F.F.kp F.b .nil pass0 (pa_cons (pv 0) (pa_cons (pe_op op_sub (pv 1) pe_int) pa_nil))) pa_nil))))), ?_⟩
      have e1 : decide (V.int ((d + 1 : Nat) : Int) = V.int 0) = false := decide_eq_false fun z => by have := V.int.inj z; omega
      have ed : ((d + 1 : Nat) : Int) - 1 = (d : Int) := by omega
      refine ⟨_, rfl, rfl, _, rfl, ?_⟩
      refine ifF e1 ?_
      refine ⟨_, rfl, p, c, cells, 4, rfl, hA, by decide, by decide, fun r0 H0 z0 z3 hA0 o0 => ?_⟩
      refine ⟨rfl, _, rfl, ?_⟩
      refine ite2 (fun _ => ?_) (fun _ => ?_)
      · refine ⟨_, rfl, p, c, cells, 26, rfl, hA0, by decide, by decide, fun r2 H2 z0' z3 hA2 o2 => ?_⟩
        obtain ⟨q1, q2, q3, _⟩ := letter26 z0' z3
        exact k (.int r2) _ H2 hA2 (del_off fun b hb => (o2 b hb).trans (o0 b hb)) rfl ⟨q1, by rw [q2]; exact Nat.zero_le _, by rw [q3]; exact Nat.one_lt_two_pow (by omega)⟩
      · refine ⟨_, rfl, _, rfl, _, _, rfl, rfl, p, c, cells, (by show [V.ref p, V.int (((d + 1 : Nat) : Int) - 1)] = _; rw [ed]), hA0, fun t1 v1 H1 hA1 s1 th1 g1 => ?_⟩
        refine ⟨_, rfl, _, rfl, _, _, rfl, rfl, p, c, cells, (by show [V.ref p, V.int (((d + 1 : Nat) : Int) - 1)] = _; rw [ed]), hA1, fun t2 v2 H2 hA2 s2 th2 g2 => ?_⟩
        refine ⟨(by show 2 ≤ sizeLine; decide), fun q hq => ?_⟩
        have a1 := same_new (o := .tup [v1, v2]) (same_refl H2) hq
        have hqp := hA2.fresh hq
        refine k (.pr t1 t2) _ _ (hA2.same a1) (same_trans (del_off o0) (same_trans s1 (same_trans s2 (del_same_of a1)))) ⟨q, v1, v2, rfl, by rw [del_ne hqp]; exact upd_same, (th1.same s2).same (del_same_of a1), th2.same (del_same_of a1)⟩ ⟨?_, ?_, ?_⟩
        · show (t1.any && t2.any) = true
          rw [g1.1, g2.1]; rfl
        · show max t1.depth t2.depth + 1 ≤ d + 1
          have := g1.2.1
          have := g2.2.1
          omega
        · show t1.size + t2.size + 1 < 2 ^ (d + 1 + 1)
          have h1 := g1.2.2
          have h2 := g2.2.2
          have e : (2 : Nat) ^ (d + 1 + 1) = 2 ^ (d + 1) + 2 ^ (d + 1) := by rw [Nat.pow_succ]; omega
          omega
/-- a pair laid beside the hand -/
theorem pr_new {H : Hp} {p c q : Addr} {cells : List Int} {t u : Th} {x y : V} (hA : HandAt H p c cells) (hq : H q = none) (hx : ThAt K (del H p) t x) (hy : ThAt K (del H p) u y) : ThAt K (del (upd H q (.tup [x, y])) p) (.pr t u) (.ref q) := by
  have hqp := hA.fresh hq
  have a1 := same_new (o := .tup [x, y]) (same_refl H) hq
  exact ⟨q, x, y, rfl, by rw [del_ne hqp]; exact upd_same, hx.same (del_same_of a1), hy.same (del_same_of a1)⟩
theorem ok_llk {f fD : Addr} {fd fdD : FuncData} (F : Fn K mg "_law_long_kind" sLLK ["_law_hand_here"] f fd) (ND : Fn K mg "_law_draw" sDraw ["_law_hand_here", "_law_many"] fD fdD) (T : TxB mg) : FnOk P w K mg base CX0 2 f fd ["_law_hand_here"] (spLLK K) := by
  have GD : FnOk P w K mg base CX0 1 fD fdD ["_law_hand_here", "_law_many"] spDraw := ok_draw ND.F T
  refine F.F.ok scLLK (fun vs H Q E h => ?_) (fun cdv A outer s H vs Q E hr h => ?_)
  · obtain ⟨p, c, cells, rfl, _⟩ := h
    rfl
  · obtain ⟨p, c, cells, rfl, hA, k⟩ := h
    have nd := scLLK.nd
    refine ⟨_, pss_cons (ps_set (i := 1) nd rfl (Or.inl rfl) (pe_call GD hr (by rfl) ND.m ND.F.kp ND.b .nil pass0 (pa_cons (pv 0) (pa_cons pe_int pa_nil))))
    (pss_cons (ps_for PassesOwn.never rfl (pi_range1 (by rfl) T.range (pa_cons (pe_op op_add pe_int (pe_call GD hr (by rfl) ND.m ND.F.kp ND.b .nil pass0 (pa_cons (pv 0) (pa_cons pe_int pa_nil)))) pa_nil)) (pg_name (i := 2) nd rfl (Or.inl rfl))
        (pss_cons (ps_set (i := 3) nd rfl (Or.inl rfl) (pe_tup (pa_cons (pe_call GD hr (by rfl) ND.m ND.F.kp ND.b .nil pass0 (pa_cons (pv 0) (pa_cons pe_int pa_nil))) (pa_cons (pe_call GD hr (by rfl) ND.m ND.F.kp ND.b .nil pass0 (pa_cons (pv 0) (pa_cons pe_int pa_nil))) pa_nil))))
        (pss_one (ps_set (i := 1) nd rfl (Or.inl rfl) (pe_tup (pa_cons (pe_ix ix_list (pe_lst (pa_cons (pv 3) (pa_cons (pe_tup (pa_cons (pv 3) (pa_cons (pe_ix ix_tup (pv 3) pe_int (fun _ _ => rfl)) pa_nil))) (pa_cons (pe_tup (pa_cons (pe_ix ix_tup (pv 3) pe_int (fun _ _ => rfl)) (pa_cons (pv 3) pa_nil))) pa_nil)))) (pe_call GD hr (by rfl) ND.m ND.F.kp ND.b .nil pass0 (pa_cons (pv 0) (pa_cons pe_int pa_nil))) (fun _ _ => rfl)) (pa_cons (pv 1) pa_nil)))))))
    (pss_one (ps_ret (pv 1)))), ?_⟩
    refine ⟨_, rfl, p, c, cells, 26, rfl, hA, by decide, by decide, fun r1 H1 z1 z1' hA1 o1 => ?_⟩
    refine ⟨_, rfl, p, c, cells, 5, rfl, hA1, by decide, by decide, fun r2 H2 z2 z2' hA2 o2 => ?_⟩
    obtain ⟨q1, q2, q3, q4⟩ := letter26 z1 z1'
    refine ⟨_, _, rfl, rfl, _, rfl, by omega, by omega, ?_⟩
    refine for_range (lo := 0) (n := (10 + r2).toNat) (fun i σ H' => ∃ (t : Th) (v : V) (u2 u3 : Option V), σ = [some (.ref p), some v, u2, u3] ∧ HandAt H' p c cells ∧ Same (del H p) (del H' p) ∧ ThAt K (del H' p) t v ∧ t.any = true ∧ t.depth ≤ i + 2 ∧ t.letters ≤ 1 + 3 * i ∧ t.size ≤ 1 + 6 * i) ⟨.int r1, _, none, none, rfl, hA2, del_off fun b hb => (o2 b hb).trans (o1 b hb), rfl, q1, by rw [q2]; omega, by rw [q4]; omega, by rw [q3]; omega⟩ ?_ ?_
    · rintro i σ H3 hi ⟨t, v, u2, u3, rfl, hA3, s3, th, g1, g2, g3, g4⟩
      refine ⟨_, rfl, p, c, cells, 26, rfl, hA3, by decide, by decide, fun r4 H4 z4 z4' hA4 o4 => ?_⟩
      refine ⟨_, rfl, p, c, cells, 26, rfl, hA4, by decide, by decide, fun r5 H5 z5 z5' hA5 o5 => ?_⟩
      obtain ⟨a1, a2, a3, a4⟩ := letter26 z4 z4'
      obtain ⟨b1, b2, b3, b4⟩ := letter26 z5 z5'
      refine ⟨(by show 2 ≤ sizeLine; decide), fun l hl => ?_⟩
      have s5 : Same (del H3 p) (del H5 p) := del_off fun b hb => (o5 b hb).trans (o4 b hb)
      have th5 := th.same s5
      have lft := pr_new (K := K) (t := .int r4) (u := .int r5) hA5 hl rfl rfl
      have lp := hA5.fresh hl
      have f6 : upd H5 l (.tup [.int r4, .int r5]) l = some (.tup [.int r4, .int r5]) := upd_same
      have n6 := same_new (o := .tup [.int r4, .int r5]) (same_refl H5) hl
      have hA6 := hA5.same n6
      have s6 := same_trans s3 (same_trans s5 (del_same_of n6))
      have th6 := th5.same (del_same_of n6)
      generalize upd H5 l (.tup [.int r4, .int r5]) = H6 at lft f6 n6 hA6 s6 th6
      refine ⟨_, rfl, _, rfl, _, rfl, l, _, _, _, rfl, rfl, SqT.of f6, rfl, (by show 2 ≤ sizeLine; decide), fun l2 hl2 => ?_⟩
      have two := pr_new (t := .pr (.int r4) (.int r5)) (u := .int r4) hA6 hl2 lft rfl
      have n7 := same_new (o := .tup [.ref l, .int r4]) (same_refl H6) hl2
      have hA7 := hA6.same n7
      have f7 := n7 _ _ f6
      have s7 := same_trans s6 (del_same_of n7)
      have th7 := th6.same (del_same_of n7)
      have lft7 := lft.same (del_same_of n7)
      generalize upd H6 l2 (.tup [.ref l, .int r4]) = H7 at two n7 hA7 f7 s7 th7 lft7
      refine ⟨_, rfl, l, _, _, _, rfl, rfl, SqT.of f7, rfl, _, rfl, (by show 2 ≤ sizeLine; decide), fun l3 hl3 => ?_⟩
      have three := pr_new (t := .int r5) (u := .pr (.int r4) (.int r5)) hA7 hl3 rfl lft7
      have n8 := same_new (o := .tup [.int r5, .ref l]) (same_refl H7) hl3
      have hA8 := hA7.same n8
      have s8 := same_trans s7 (del_same_of n8)
      have th8 := th7.same (del_same_of n8)
      have lft8 := lft7.same (del_same_of n8)
      have two8 := two.same (del_same_of n8)
      generalize upd H7 l3 (.tup [.int r5, .ref l]) = H8 at three n8 hA8 s8 th8 lft8 two8
      refine ⟨(by show 3 ≤ sizeLine; decide), fun L hL => ?_⟩
      have n9 := same_new (o := .lst [.ref l, .ref l2, .ref l3]) (same_refl H8) hL
      have hA9 := hA8.same n9
      have f9 : upd H8 L (.lst [.ref l, .ref l2, .ref l3]) L = some (.lst [.ref l, .ref l2, .ref l3]) := upd_same
      have s9 := same_trans s8 (del_same_of n9)
      have th9 := th8.same (del_same_of n9)
      have lft9 := lft8.same (del_same_of n9)
      have two9 := two8.same (del_same_of n9)
      have three9 := three.same (del_same_of n9)
      have Lp := hA8.fresh hL
      generalize upd H8 L (.lst [.ref l, .ref l2, .ref l3]) = H9 at n9 hA9 f9 s9 th9 lft9 two9 three9
      refine ⟨_, rfl, p, c, cells, 3, rfl, hA9, by decide, by decide, fun k3 H10 y0 y1 hA10 o10 => ?_⟩
      have f10 := (o10 L Lp).trans f9
      have d10 : Same (del H9 p) (del H10 p) := del_off o10
      obtain ⟨tt, vv, ei, ht, g5, g6, g7, g8⟩ : ∃ (tt : Th) (vv : V), atI [V.ref l, .ref l2, .ref l3] k3 = some vv ∧ ThAt K (del H10 p) tt vv ∧ tt.any = true ∧ tt.depth ≤ 2 ∧ tt.letters ≤ 3 ∧ tt.size ≤ 5 := by
        have e : k3 = 0 ∨ k3 = 1 ∨ k3 = 2 := by omega
        rcases e with rfl | rfl | rfl
        · exact ⟨_, _, rfl, lft9.same d10, by show (Th.any (.int r4) && Th.any (.int r5)) = true; rw [a1, b1]; rfl, by show max 0 0 + 1 ≤ 2; omega, by show 1 + 1 ≤ 3; omega, by show 1 + 1 + 1 ≤ 5; omega⟩
        · exact ⟨_, _, rfl, two9.same d10, by show ((Th.any (.int r4) && Th.any (.int r5)) && Th.any (.int r4)) = true; rw [a1, b1]; rfl, by show max (max 0 0 + 1) 0 + 1 ≤ 2; omega, by show 1 + 1 + 1 ≤ 3; omega, by show 1 + 1 + 1 + 1 + 1 ≤ 5; omega⟩
        · exact ⟨_, _, rfl, three9.same d10, by show (Th.any (.int r5) && (Th.any (.int r4) && Th.any (.int r5))) = true; rw [a1, b1]; rfl, by show max 0 (max 0 0 + 1) + 1 ≤ 2; omega, by show 1 + (1 + 1) ≤ 3; omega, by show 1 + (1 + 1 + 1) + 1 ≤ 5; omega⟩
      refine ⟨L, _, _, _, rfl, rfl, SqL.of f10, ei, _, rfl, (by show 2 ≤ sizeLine; decide), fun q hq => ?_⟩
      have n11 := same_new (o := .tup [vv, v]) (same_refl H10) hq
      refine ⟨.pr tt t, _, _, _, rfl, hA10.same n11, same_trans s9 (same_trans d10 (del_same_of n11)), pr_new hA10 hq ht (th9.same d10), ?_, ?_, ?_, ?_⟩
      · show (tt.any && t.any) = true
        rw [g5, g1]; rfl
      · show max tt.depth t.depth + 1 ≤ i + 1 + 2; omega
      · show tt.letters + t.letters ≤ 1 + 3 * (i + 1); omega
      · show tt.size + t.size + 1 ≤ 1 + 6 * (i + 1); omega
    · rintro σ H3 ⟨t, v, u2, u3, rfl, hA3, s3, th, g1, g2, g3, g4⟩
      exact ⟨_, rfl, k t v H3 hA3 s3 th ⟨g1, by omega, by omega, by omega⟩⟩
end
end LG

set_option Elab.async false
set_option linter.all false
set_option maxRecDepth 100000
set_option maxHeartbeats 8100000
namespace LG
open PySem L2 TL
abbrev sLaw : Stmt := top 56
def spLaw (K : PySem.W.Frag) : Sp := fun vs H Q _ => ∃ (a : Addr) (ns : List Int), vs = [.ref a] ∧ SqL K H a (ns.map V.int) ∧ ns.length ≤ 63 ∧ ∀ H', Q (.bl true) H'
/-! ### what is drawn is a program of small kinds -/
theorem cnt_fit {fit : Th → Bool} : ∀ {ws : List Wd} {m : Nat}, cntC fit ws = some m → ∀ w ∈ ws, ∀ o t, w = .pr o t → fit t = true
  | [], m, e, w, h, _, _, _ => by cases h
  | x :: r, m, e, w, h, o, t, ew => by
    cases q : cntC fit r with
    | none => rw [cntC, q] at e; cases e
    | some k =>
      rw [cntC, q] at e
      obtain rfl | h := List.mem_cons.mp h
      · subst ew
        have e : stepC fit (.pr o t) k = some m := e
        unfold stepC at e
        rw [if_neg (by intro z; cases z), if_neg (by intro z; cases z)] at e
        by_cases b : (decide (k < 1) || !(Wd.pr o t).take fit) = true
        · rw [if_pos b] at e; cases e
        · rw [Bool.or_eq_true, not_or, Bool.not_eq_true', Bool.not_eq_false] at b
          have b2 := b.2
          cases o with
          | none => cases b2
          | some z =>
            have b2 : (nameB z && fit t) = true := b2
            rw [Bool.and_eq_true] at b2
            exact b2.2
      · exact cnt_fit q w h o t ew
theorem dep_of {d : Nat} : ∀ {t : Tm} {ws : List Wd}, (∀ w ∈ ws, ∀ o k, w = .pr o k → k.depth ≤ d) → (∀ w ∈ t.ws, w ∈ ws) → t.dep d
  | .nm _, _, _, _ => trivial
  | .us f a, ws, h, s => ⟨dep_of h fun w hw => s w (by simp [Tm.ws, hw]), dep_of h fun w hw => s w (by simp [Tm.ws, hw])⟩
  | .tk z t b, ws, h, s => ⟨h _ (s (.pr (some z) t) (by simp [Tm.ws])) _ _ rfl, dep_of h fun w hw => s w (by simp [Tm.ws, hw])⟩
theorem kok_of : ∀ {t : Tm} {ws : List Wd}, (∀ w ∈ ws, ∀ o k, w = .pr o k → k.isKind = true) → (∀ w ∈ t.ws, w ∈ ws) → t.kok
  | .nm _, _, _, _ => trivial
  | .us f a, ws, h, s => ⟨kok_of h fun w hw => s w (by simp [Tm.ws, hw]), kok_of h fun w hw => s w (by simp [Tm.ws, hw])⟩
  | .tk z t b, ws, h, s => ⟨h _ (s (.pr (some z) t) (by simp [Tm.ws])) _ _ rfl, kok_of h fun w hw => s w (by simp [Tm.ws, hw])⟩
/-- a program that can be told as a text, where it stands -/
structure Gd (K : PySem.W.Frag) (H : Hp) (a : Addr) (t : Tm) : Prop where
  at_ : ∃ vs, H a = some (.tup vs) ∧ WdsAt K H t.ws vs
  ok : t.ok
  dep : t.dep 16
  kok : t.kok
  len : t.ws.length ≤ 60
theorem Gd.same {K : PySem.W.Frag} {H H' : Hp} {a : Addr} {t : Tm} (g : Gd K H a t) (s : Same H H') : Gd K H' a t := by
  obtain ⟨vs, h1, h2⟩ := g.at_
  exact ⟨⟨vs, s _ _ h1, h2.same s⟩, g.ok, g.dep, g.kok, g.len⟩
theorem Gd.pg {K : PySem.W.Frag} {H : Hp} {a : Addr} {t : Tm} (g : Gd K H a t) : PgAt K H t.ws (.ref a) := by
  obtain ⟨vs, h1, h2⟩ := g.at_
  exact ⟨a, vs, rfl, h1, h2, by have := g.len; omega⟩
theorem Gd.fit {K : PySem.W.Frag} {H : Hp} {a : Addr} {t : Tm} (g : Gd K H a t) : t.fit 10000 := by
  obtain ⟨vs, h1, h2⟩ := g.at_
  exact fit_of (wd_sizes h2) fun w h => h
theorem Gd.few {K : PySem.W.Frag} {H : Hp} {a : Addr} {t : Tm} (g : Gd K H a t) : t.tx.length ≤ 4000000 := by
  have h1 := tx_len g.ok g.fit
  have h2 := Nat.mul_le_mul_left (6 * 10000 + 20) g.len
  omega
theorem Gd.of {K : PySem.W.Frag} {H : Hp} {a : Addr} {ws : List Wd} {vs : List V} (ho : One ws) (ha : H a = some (.tup vs)) (hw : WdsAt K H ws vs) (l : ws.length ≤ 60) : ∃ t : Tm, t.ws = ws ∧ Gd K H a t := by
  obtain ⟨t, e, ok⟩ := tree ho
  have kd := fun w hw o k e => kdB_ok (cnt_fit ho w hw o k e)
  refine ⟨t, e, ⟨vs, ha, by rw [e]; exact hw⟩, ok, dep_of (ws := ws) (fun w hw o k q => ?_) (fun w h => e ▸ h), kok_of (ws := ws) (fun w hw o k q => ?_) (fun w h => e ▸ h), by rw [e]; exact l⟩
  · have := (kd w hw o k q).2.1
    omega
  · obtain ⟨k1, k2, k3⟩ := kd w hw o k q
    exact isKind_of k1 (by omega) (by have := letters_size k; omega)
theorem WdD_twin {K : PySem.W.Frag} {H : Hp} {d : Nat} : ∀ {w : Wd} {v v' : V}, WdA w → (∀ o k, w = .pr o k → k.depth ≤ d) → WdAt K H w v → WdAt K H w v' → Twin H (d + 1) v v'
  | .st z, v, v', _, _, h, h' => by
    obtain ⟨rfl, _⟩ := h
    obtain ⟨rfl, _⟩ := h'
    exact Twin.up (Nat.zero_le _) (.inl ⟨z, rfl, rfl⟩)
  | .pr (some z) t, v, v', a, dd, h, h' => by
    obtain ⟨p, x, y, rfl, hp, ⟨rfl, _⟩, _, h2, _⟩ := h
    obtain ⟨p', x', y', rfl, hp', ⟨rfl, _⟩, _, h2', _⟩ := h'
    refine .inr ⟨p, p', _, _, rfl, rfl, hp, hp', rfl, (by show 2 ≤ 3000; decide), fun k u u' q q' => ?_⟩
    match k, q, q' with
    | 0, q, q' => cases q; cases q'; exact Twin.up (Nat.zero_le _) (.inl ⟨z, rfl, rfl⟩)
    | 1, q, q' => cases q; cases q'; exact th_twin a (dd _ _ rfl) h2 h2'
    | k + 2, q, q' => simp at q
  | .pr none _, _, _, a, _, _, _ => a.elim
  | .no, _, _, a, _, _, _ => a.elim
theorem dep_wds {d : Nat} : ∀ {t : Tm}, t.dep d → ∀ w ∈ t.ws, ∀ o k, w = .pr o k → k.depth ≤ d
  | .nm z, _, w, h, o, k, e => by
    have h : w ∈ [Wd.st z] := h
    rw [List.mem_singleton] at h; rw [h] at e; cases e
  | .us f a, g, w, h, o, k, e => by
    have h : w ∈ Wd.st "@" :: (f.ws ++ a.ws) := h
    obtain q | q := List.mem_cons.mp h
    · rw [q] at e; cases e
    · obtain q | q := List.mem_append.mp q
      · exact dep_wds g.1 w q o k e
      · exact dep_wds g.2 w q o k e
  | .tk z t b, g, w, h, o, k, e => by
    have h : w ∈ Wd.pr (some z) t :: b.ws := h
    obtain q | q := List.mem_cons.mp h
    · rw [q] at e; cases e; exact g.1
    · exact dep_wds g.2 w q o k e
theorem Gd.twin {K : PySem.W.Frag} {H : Hp} {a b : Addr} {t : Tm} {us : List V} (g : Gd K H a t) (hb : H b = some (.tup us)) (hw : WdsAt K H t.ws us) : Twin H 18 (.ref b) (.ref a) := by
  obtain ⟨vs, h1, h2⟩ := g.at_
  have l := g.len
  refine .inr ⟨b, a, us, vs, rfl, rfl, hb, h1, by rw [hw.1, h2.1], by rw [hw.1]; omega, fun k x y p q => ?_⟩
  have lt : k < t.ws.length := by
    rw [← hw.1]; exact (List.getElem?_eq_some_iff.mp p).1
  have e : t.ws[k]? = some t.ws[k] := List.getElem?_eq_getElem lt
  exact WdD_twin (tm_wds g.ok _ (List.getElem_mem lt)) (dep_wds g.dep _ (List.getElem_mem lt)) (hw.2 k _ x e p) (h2.2 k _ y e q)
theorem Gd.dp {K : PySem.W.Frag} {H : Hp} {a : Addr} {t : Tm} (g : Gd K H a t) : Dp K H (.ref a) (.tuple (t.ws.map wdD)) := by
  obtain ⟨vs, h1, h2⟩ := g.at_
  exact prog_dp g.ok h1 h2
theorem Gd.shaped {K : PySem.W.Frag} {H : Hp} {a : Addr} {t : Tm} (g : Gd K H a t) : SeqAt.shaped (.tuple (t.ws.map wdD)) = true := prog_shaped g.ok g.dep (by decide)
theorem str_twin {H : Hp} {z : Str} {n : Nat} : Twin H n (.str z) (.str z) := Twin.up (Nat.zero_le _) (.inl ⟨z, rfl, rfl⟩)
section
variable {P : Program} {w : World} {K : PySem.W.Frag} {mg : Str → Option Value} {base : Heap}
theorem scLaw : FnScope ["_law_script", "_law_hand_here", "_law_long", "_law_words", "_law_turn", "_law_one", "_law_other", "_law_known_here", "_law_later", "_law_some_here", "_law_text_here"] ["_law_script"] (defScope sLaw) := ⟨rfl, rfl, rfl, by decide +kernel, rfl, by decide +kernel, by decide +kernel⟩
theorem ok_law {f : Addr} {fd : FuncData} (F : Fn K mg "law" sLaw ["_law_script"] f fd)
    {fNH : Addr} {fdNH : FuncData} {stNH : Stmt} (NH : Fn K mg "_law_hand" stNH ["_law_script"] fNH fdNH) (GH : FnOk P w K mg base CX0 1 fNH fdNH ["_law_script"] (spHand K))
    {fNLL : Addr} {fdNLL : FuncData} {stNLL : Stmt} (NLL : Fn K mg "_law_long_kind" stNLL ["_law_hand_here"] fNLL fdNLL) (GLL : FnOk P w K mg base CX0 2 fNLL fdNLL ["_law_hand_here"] (spLLK K))
    {fNI : Addr} {fdNI : FuncData} {stNI : Stmt} (NI : Fn K mg "_law_is" stNI ["_law_told", "_law_due"] fNI fdNI) (GI : FnOk P w K mg base CX0 20 fNI fdNI ["_law_told", "_law_due"] (spLIsT 18))
    {fNKT : Addr} {fdNKT : FuncData} {stNKT : Stmt} (NKT : Fn K mg "kind_text" stNKT ["kind"] fNKT fdNKT) (GKT : FnOk P w K mg base CX0 2 fNKT fdNKT ["kind"] (spKText K))
    {fNLK : Addr} {fdNLK : FuncData} {stNLK : Stmt} (NLK : Fn K mg "_law_kind_text" stNLK ["_law_kind_here"] fNLK fdNLK) (GLK : FnOk P w K mg base CX0 18 fNLK fdNLK ["_law_kind_here"] (spLKT K 16))
    {fNRK : Addr} {fdNRK : FuncData} {stNRK : Stmt} (NRK : Fn K mg "read_kind" stNRK ["text"] fNRK fdNRK) (GRK : FnOk P w K mg base CX0 5 fNRK fdNRK ["text"] (spRdK K))
    {fNPT : Addr} {fdNPT : FuncData} {stNPT : Stmt} (NPT : Fn K mg "program_text" stNPT ["program"] fNPT fdNPT) (GPT : FnOk P w K mg base CX0 3 fNPT fdNPT ["program"] (spPText K))
    {fNLT : Addr} {fdNLT : FuncData} {stNLT : Stmt} (NLT : Fn K mg "_law_text" stNLT ["_law_words"] fNLT fdNLT) (GLT : FnOk P w K mg base CX0 19 fNLT fdNLT ["_law_words"] (spLTx K 16))
    {fNRP : Addr} {fdNRP : FuncData} {stNRP : Stmt} (NRP : Fn K mg "read_program" stNRP ["text"] fNRP fdNRP) (GRP : FnOk P w K mg base CX0 8 fNRP fdNRP ["text"] (spRdP K))
    {fNAK : Addr} {fdNAK : FuncData} {stNAK : Stmt} (NAK : Fn K mg "_law_any_kind" stNAK ["_law_hand_here", "_law_deep"] fNAK fdNAK) (GAK : FnOk P w K mg base CX0 6 fNAK fdNAK ["_law_hand_here", "_law_deep"] (spLAK K 4))
    {fNKD : Addr} {fdNKD : FuncData} {stNKD : Stmt} (NKD : Fn K mg "_law_kind" stNKD ["_law_hand_here", "_law_deep"] fNKD fdNKD) (GKD : FnOk P w K mg base CX0 5 fNKD fdNKD ["_law_hand_here", "_law_deep"] (spKd K 3))
    {fNKN : Addr} {fdNKN : FuncData} {stNKN : Stmt} (NKN : Fn K mg "_law_known" stNKN ["_law_hand_here", "_law_many"] fNKN fdNKN) (GKN : FnOk P w K mg base CX0 5 fNKN fdNKN ["_law_hand_here", "_law_many"] (spKnown K))
    {fNSP : Addr} {fdNSP : FuncData} {stNSP : Stmt} (NSP : Fn K mg "_law_some_program" stNSP ["_law_hand_here", "_law_known_here", "_law_deep"] fNSP fdNSP) (GSP : FnOk P w K mg base CX0 8 fNSP fdNSP ["_law_hand_here", "_law_known_here", "_law_deep"] (spSomeP K))
    {fNLO : Addr} {fdNLO : FuncData} {stNLO : Stmt} (NLO : Fn K mg "_law_loose" stNLO ["_law_hand_here", "_law_names", "_law_deep"] fNLO fdNLO) (GLO : FnOk P w K mg base CX0 7 fNLO fdNLO ["_law_hand_here", "_law_names", "_law_deep"] (spLoose K 3))
    (T : TxB mg) (T2 : TxD mg) : FnOk P w K mg base CX0 21 f fd ["_law_script"] (spLaw K) := by
  refine F.F.ok scLaw (fun vs H Q E h => ?_) (fun cdv A outer s H vs Q E hr h => ?_)
  · obtain ⟨_, _, rfl, _⟩ := h
    rfl
  · obtain ⟨a0, ns, rfl, hs, hl, kq⟩ := h
    have nd := scLaw.nd
    have hr1 := hr.mono (show 1 ≤ 20 by decide)
    have hr2 := hr.mono (show 2 ≤ 20 by decide)
    have hr3 := hr.mono (show 3 ≤ 20 by decide)
    have hr5 := hr.mono (show 5 ≤ 20 by decide)
    have hr6 := hr.mono (show 6 ≤ 20 by decide)
    have hr7 := hr.mono (show 7 ≤ 20 by decide)
    have hr8 := hr.mono (show 8 ≤ 20 by decide)
    have hr18 := hr.mono (show 18 ≤ 20 by decide)
    have hr19 := hr.mono (show 19 ≤ 20 by decide)
    refine ⟨_, pss_cons (ps_set (i := 1) nd rfl (Or.inl rfl) (pe_call GH hr1 (by rfl) NH.m NH.F.kp NH.b .nil pass0 (pa_cons (pv 0) pa_nil)))
    (pss_cons (ps_set (i := 2) nd rfl (Or.inl rfl) (pe_call GLL hr2 (by rfl) NLL.m NLL.F.kp NLL.b .nil pass0 (pa_cons (pv 1) pa_nil)))
    (pss_cons (ps_set (i := 3) nd rfl (Or.inl rfl) (pe_tup (pa_cons (pe_tup (pa_cons pe_str (pa_cons (pv 2) pa_nil))) (pa_cons pe_str pa_nil))))
    (pss_cons (ps_if (PW.pt (pw_or (pt_not (pt_val (pe_call GI hr (by rfl) NI.m NI.F.kp NI.b .nil pass0 (pa_cons (pe_call GKT hr2 (by rfl) NKT.m NKT.F.kp NKT.b .nil pass0 (pa_cons (pv 2) pa_nil)) (pa_cons (pe_call GLK hr18 (by rfl) NLK.m NLK.F.kp NLK.b .nil pass0 (pa_cons (pv 2) pa_nil)) pa_nil))))) (pw_or1 (pt_not (pt_val (pe_call GI hr (by rfl) NI.m NI.F.kp NI.b .nil pass0 (pa_cons (pe_call GRK hr5 (by rfl) NRK.m NRK.F.kp NRK.b .nil pass0 (pa_cons (pe_call GLK hr18 (by rfl) NLK.m NLK.F.kp NLK.b .nil pass0 (pa_cons (pv 2) pa_nil)) pa_nil)) (pa_cons (pv 2) pa_nil))))))))
        pss_never
        pss_nil)
    (pss_cons (ps_if (PW.pt (pw_or (pt_not (pt_val (pe_call GI hr (by rfl) NI.m NI.F.kp NI.b .nil pass0 (pa_cons (pe_call GPT hr3 (by rfl) NPT.m NPT.F.kp NPT.b .nil pass0 (pa_cons (pv 3) pa_nil)) (pa_cons (pe_call GLT hr19 (by rfl) NLT.m NLT.F.kp NLT.b .nil pass0 (pa_cons (pv 3) pa_nil)) pa_nil))))) (pw_or1 (pt_not (pt_val (pe_call GI hr (by rfl) NI.m NI.F.kp NI.b .nil pass0 (pa_cons (pe_call GRP hr8 (by rfl) NRP.m NRP.F.kp NRP.b .nil pass0 (pa_cons (pe_call GLT hr19 (by rfl) NLT.m NLT.F.kp NLT.b .nil pass0 (pa_cons (pv 3) pa_nil)) pa_nil)) (pa_cons (pv 3) pa_nil))))))))
        pss_never
        pss_nil)
    (pss_cons (ps_for PassesOwn.never rfl (pi_range1 (by rfl) T.range (pa_cons pe_int pa_nil)) (pg_name (i := 4) nd rfl (Or.inl rfl))
        (pss_cons (ps_par (i := 5) (j := 6) (by rfl) nd rfl rfl (by decide) rfl rfl (pa_cons (pe_call GAK hr6 (by rfl) NAK.m NAK.F.kp NAK.b .nil pass0 (pa_cons (pv 1) (pa_cons pe_int pa_nil))) (pa_cons (pe_call GKD hr5 (by rfl) NKD.m NKD.F.kp NKD.b .nil pass0 (pa_cons (pv 1) (pa_cons pe_int pa_nil))) pa_nil)) (by rfl))
        (pss_cons (ps_if (PW.pt (pw_or (pt_not (pt_val (pe_call GI hr (by rfl) NI.m NI.F.kp NI.b .nil pass0 (pa_cons (pe_call GKT hr2 (by rfl) NKT.m NKT.F.kp NKT.b .nil pass0 (pa_cons (pv 5) pa_nil)) (pa_cons (pe_call GLK hr18 (by rfl) NLK.m NLK.F.kp NLK.b .nil pass0 (pa_cons (pv 5) pa_nil)) pa_nil))))) (pw_or1 (pt_not (pt_val (pe_call GI hr (by rfl) NI.m NI.F.kp NI.b .nil pass0 (pa_cons (pe_call GRK hr5 (by rfl) NRK.m NRK.F.kp NRK.b .nil pass0 (pa_cons (pe_call GKT hr2 (by rfl) NKT.m NKT.F.kp NKT.b .nil pass0 (pa_cons (pv 5) pa_nil)) pa_nil)) (pa_cons (pv 5) pa_nil))))))))
            pss_never
            pss_nil)
        (pss_cons (ps_if (pt_cmpR op_ne (pe_cmpR op_eq (pe_call GKT hr2 (by rfl) NKT.m NKT.F.kp NKT.b .nil pass0 (pa_cons (pv 5) pa_nil)) (pe_call GKT hr2 (by rfl) NKT.m NKT.F.kp NKT.b .nil pass0 (pa_cons (pv 6) pa_nil)) (nomark _)) (pe_cmpR (op_eqD hr.units) (pv 5) (pv 6) (nomark _)) (nomark _))
            pss_never
            pss_nil)
        (pss_cons (ps_set (i := 7) nd rfl (Or.inl rfl) (pe_call GKN hr5 (by rfl) NKN.m NKN.F.kp NKN.b .nil pass0 (pa_cons (pv 1) (pa_cons pe_int pa_nil))))
        (pss_cons (ps_set (i := 3) nd rfl (Or.inl rfl) (pe_call GSP hr8 (by rfl) NSP.m NSP.F.kp NSP.b .nil pass0 (pa_cons (pv 1) (pa_cons (pv 7) (pa_cons pe_int pa_nil)))))
        (pss_cons (ps_set (i := 8) nd rfl (Or.inl rfl) (pe_call GLO hr7 (by rfl) NLO.m NLO.F.kp NLO.b .nil pass0 (pa_cons (pv 1) (pa_cons (pe_lst (pa_cons pe_str (pa_cons pe_str (pa_cons pe_str (pa_cons pe_str pa_nil))))) (pa_cons pe_int pa_nil)))))
        (pss_cons (ps_for PassesOwn.never rfl (pi_list (pe_lst (pa_cons (pv 3) (pa_cons (pv 8) pa_nil)))) (pg_name (i := 9) nd rfl (Or.inl rfl))
            (pss_cons (ps_set (i := 10) nd rfl (Or.inl rfl) (pe_call GPT hr3 (by rfl) NPT.m NPT.F.kp NPT.b .nil pass0 (pa_cons (pv 9) pa_nil)))
            (pss_one (ps_if (PW.pt (pw_or (pt_not (pt_val (pe_call GI hr (by rfl) NI.m NI.F.kp NI.b .nil pass0 (pa_cons (pv 10) (pa_cons (pe_call GLT hr19 (by rfl) NLT.m NLT.F.kp NLT.b .nil pass0 (pa_cons (pv 9) pa_nil)) pa_nil))))) (pw_or1 (pt_not (pt_val (pe_call GI hr (by rfl) NI.m NI.F.kp NI.b .nil pass0 (pa_cons (pe_call GRP hr8 (by rfl) NRP.m NRP.F.kp NRP.b .nil pass0 (pa_cons (pv 10) pa_nil)) (pa_cons (pv 9) pa_nil))))))))
                pss_never
                pss_nil))))
        (pss_one (ps_if (pt_cmpR op_ne (pe_cmpR op_eq (pe_call GPT hr3 (by rfl) NPT.m NPT.F.kp NPT.b .nil pass0 (pa_cons (pv 3) pa_nil)) (pe_call GPT hr3 (by rfl) NPT.m NPT.F.kp NPT.b .nil pass0 (pa_cons (pv 8) pa_nil)) (nomark _)) (pe_cmpR (op_eqD hr.units) (pv 3) (pv 8) (nomark _)) (nomark _))
            pss_never
            pss_nil))))))))))
    (pss_one (ps_ret pe_bl))))))), ?_⟩
    refine ⟨_, rfl, a0, ns, rfl, hs, by omega, fun p c cells H1 s1 np hA => ?_⟩
    clear hs s1
    refine ⟨_, rfl, p, c, cells, rfl, hA, fun tl_ vl H2 hA2 _ thl ⟨la, ld, ll, lz⟩ => ?_⟩
    have thl2 := thl.same del_le
    refine ⟨_, rfl, (by show 2 ≤ sizeLine; decide), fun q1 hq1 => ?_⟩
    have n3 := same_new (o := .tup [.str "x", vl]) (same_refl H2) hq1
    have hA3 := hA2.same n3
    have th3 := thl2.same n3
    have f3 : upd H2 q1 (.tup [.str "x", vl]) q1 = some (.tup [.str "x", vl]) := upd_same
    generalize upd H2 q1 (.tup [.str "x", vl]) = H3 at n3 hA3 th3 f3
    refine ⟨(by show 2 ≤ sizeLine; decide), fun q2 hq2 => ?_⟩
    have n4 := same_new (o := .tup [.ref q1, .str "x"]) (same_refl H3) hq2
    have hA4 := hA3.same n4
    have th4 := th3.same n4
    have f4 := n4 _ _ f3
    have g4 : upd H3 q2 (.tup [.ref q1, .str "x"]) q2 = some (.tup [.ref q1, .str "x"]) := upd_same
    generalize upd H3 q2 (.tup [.ref q1, .str "x"]) = H4 at n4 hA4 th4 f4 g4
    have nx : nameB "x" = true := by decide +kernel
    have gd4 : Gd K H4 q2 (.tk "x" tl_ (.nm "x")) := ⟨⟨_, g4, WdsAt.app (ws := [.pr (some "x") tl_]) (vs := [.ref q1]) (WdsAt.one (WdAt.tk nx f4 th4 (by omega))) (WdsAt.one (WdAt.nm nx))⟩, ⟨nx, la, nx⟩, ⟨ld, trivial⟩, ⟨isKind_of la (by omega) (by omega), trivial⟩, by show 2 ≤ 60; decide⟩
    -- the long kind
    refine ⟨_, rfl, vl, tl_, rfl, th4, la, by omega, fun H5 s5 => ?_⟩
    have th5 := th4.same s5
    refine ⟨_, rfl, vl, tl_, rfl, th5, la, ld, by omega, ?_⟩
    refine ⟨_, _, rfl, str_twin, fun H6 s6 => ?_⟩
    refine ⟨_, rfl, ?_⟩
    refine ifF rfl ?_
    have th6 := th5.same s6
    refine ⟨_, rfl, vl, tl_, rfl, th6, la, ld, by omega, ?_⟩
    refine ⟨_, tl_, rfl, tl_mk', la, isKind_of la (by omega) (by omega), by omega, fun v7 H7 s7 tv7 => ?_⟩
    have th7 := th6.same s7
    refine ⟨_, rfl, _, _, rfl, th_twin la (by omega) (tv7.same tups_le) th7, fun H8 s8 => ?_⟩
    refine ⟨_, rfl, ?_⟩
    refine ifF rfl ?_
    have s48 := same_trans s5 (same_trans s6 (same_trans s7 s8))
    have gd8 := gd4.same s48
    have hA8 := hA4.same s48
    clear th7 tv7 th6 th5 th4 s5 s6 s7 s8 s48 gd4 f4 g4 n4 hA4 th3 f3 n3 hA3 thl thl2
    generalize Tm.tk "x" tl_ (.nm "x") = tw at gd8
    -- its program
    refine ⟨_, rfl, _, tw, rfl, gd8.pg, gd8.ok, by have := gd8.len; omega, fun H9 s9 => ?_⟩
    have gd9 := gd8.same s9
    refine ⟨_, rfl, _, tw, rfl, gd9.pg, gd9.ok, gd9.dep, gd9.len, fun H10 s10 => ?_⟩
    refine ⟨_, _, rfl, str_twin, fun H11 s11 => ?_⟩
    refine ⟨_, rfl, ?_⟩
    refine ifF rfl ?_
    have gd11 := (gd9.same s10).same s11
    refine ⟨_, rfl, _, tw, rfl, gd11.pg, gd11.ok, gd11.dep, gd11.len, fun H12 s12 => ?_⟩
    have gd12 := gd11.same s12
    refine ⟨_, tw, rfl, tl_mk', gd12.ok, gd12.fit, gd12.kok, gd12.few, by have := gd12.len; omega, fun b us H13 s13 hb hw => ?_⟩
    have gd13 := gd12.same s13
    refine ⟨_, rfl, _, _, rfl, gd13.twin hb (hw.same tups_le), fun H14 s14 => ?_⟩
    refine ⟨_, rfl, ?_⟩
    refine ifF rfl ?_
    have hA14 := hA8.same (same_trans s9 (same_trans s10 (same_trans s11 (same_trans s12 (same_trans s13 s14)))))
    clear gd13 gd12 gd11 gd9 gd8 hb hw hA8 s9 s10 s11 s12 s13 s14
    -- three times
    refine ⟨3, rfl, by decide, by decide, for_range (lo := 0) (n := 3) (fun i σ H' => ∃ (v0 : V) (t2 t3 t4 t5 t6 t7 t8 t9 t10 : Option V), σ = [some v0, some (.ref p), t2, t3, t4, t5, t6, t7, t8, t9, t10] ∧ HandAt H' p c cells) ⟨_, _, _, none, none, none, none, none, none, none, rfl, hA14⟩ ?_ ?_⟩
    · rintro i σ H1 hi ⟨v0, t2, t3, t4, t5, t6, t7, t8, t9, t10, rfl, hA1⟩
      refine ⟨_, rfl, p, c, cells, rfl, hA1, fun t1 v1 H2 hA2 s2 th1 ⟨a1, d1, z1⟩ => ?_⟩
      refine ⟨_, rfl, p, c, cells, rfl, hA2, fun t2' v2 H3 hA3 s3 th2 ⟨a2, d2, z2⟩ => ?_⟩
      have z1 : t1.size < 32 := z1
      have z2 : t2'.size < 16 := z2
      have h1 := (th1.same s3).same (del_le (H := H3) (p := p))
      have h2 := th2.same (del_le (H := H3) (p := p))
      refine ⟨_, _, rfl, ?_⟩
      refine ⟨_, rfl, v1, t1, rfl, h1, a1, by omega, fun H4 s4 => ?_⟩
      have h1' := h1.same s4
      refine ⟨_, rfl, v1, t1, rfl, h1', a1, by omega, by omega, ?_⟩
      refine ⟨_, _, rfl, str_twin, fun H5 s5 => ?_⟩
      refine ⟨_, rfl, ?_⟩
      refine ifF rfl ?_
      have h1'' := h1'.same s5
      refine ⟨_, rfl, v1, t1, rfl, h1'', a1, by omega, fun H6 s6 => ?_⟩
      have l1 := letters_size t1
      refine ⟨_, t1, rfl, tl_mk', a1, isKind_of a1 (by omega) (by omega), by omega, fun v7 H7 s7 tv7 => ?_⟩
      refine ⟨_, rfl, _, _, rfl, th_twin a1 (by omega) (tv7.same tups_le) ((h1''.same s6).same s7), fun H8 s8 => ?_⟩
      refine ⟨_, rfl, ?_⟩
      refine ifF rfl ?_
      have s38 := same_trans s4 (same_trans s5 (same_trans s6 (same_trans s7 s8)))
      have g1 := h1.same s38
      have g2 := h2.same s38
      have hA8 := hA3.same s38
      clear h1 h1' h1'' h2 tv7 s4 s5 s6 s7 s8 s38 th1 th2
      -- as kinds, so as texts
      refine ⟨_, rfl, v1, t1, rfl, g1, a1, by omega, fun H9 s9 => ?_⟩
      have g2' := g2.same s9
      refine ⟨_, rfl, v2, t2', rfl, g2', a2, by omega, fun H10 s10 => ?_⟩
      have k1 := (g1.same s9).same s10
      have k2 := g2'.same s10
      refine ⟨rfl, _, rfl, _, rfl, thD t1, thD t2', th_dp a1 k1, th_dp a2 k2, th_shaped a1 (by omega), th_shaped a2 (by omega), ?_⟩
      rw [kind_same a1 a2]
      refine ⟨rfl, _, rfl, ?_⟩
      refine ifF (by simp) ?_
      have hA10 := hA8.same (same_trans s9 s10)
      clear k1 k2 g1 g2 g2' s9 s10 hA8
      -- programs
      refine ⟨_, rfl, p, c, cells, 5, rfl, hA10, by decide, fun kn H11 ks hA11 s11 hk kl => ?_⟩
      refine ⟨_, rfl, _, rfl, p, c, cells, kn, ks, rfl, hA11, hk, by omega, fun ws a vs H12 hA12 s12 ha hw ho hl60 => ?_⟩
      obtain ⟨tw, ew, gw⟩ := Gd.of ho ha (hw.same del_le) hl60
      have pa : a ≠ p := fun z => by
        obtain ⟨l, e⟩ := hA12.some
        rw [z, e] at ha; cases ha
      have dw : WdsAt K (del H12 p) tw.ws vs := ew ▸ hw
      refine ⟨_, rfl, (by show 4 ≤ sizeLine; decide), fun nm hnm => ?_⟩
      have n13 := same_new (o := .lst [.str "a", .str "abcdefgh", .str "zz", .str "use"]) (same_refl H12) hnm
      refine ⟨p, c, nm, cells, _, rfl, hA12.same n13, upd_same, hA12.fresh hnm, fun v hv => ?_, by decide, by decide, fun ws2 a2 vs2 H14 hA14 s14 ha2 hw2 ho2 hl2 => ?_⟩
      · simp only [List.mem_cons, List.not_mem_nil, or_false] at hv
        rcases hv with rfl | rfl | rfl | rfl <;> exact ⟨_, rfl, by decide +kernel⟩
      obtain ⟨tu, eu, gu⟩ := Gd.of ho2 ha2 (hw2.same del_le) (Nat.le_trans hl2 (by decide))
      have s124 := same_trans (del_same_of n13) s14
      have gw14 : Gd K H14 a tw := ⟨⟨vs, stays s124 pa ha, (dw.same s124).same del_le⟩, gw.ok, gw.dep, gw.kok, gw.len⟩
      clear gw dw ha hw ho ew n13 hk s11 s12 s14 s124 ho2 hw2 ha2 eu
      refine ⟨_, rfl, _, rfl, (by show 2 ≤ sizeLine; decide), fun L hL => ?_⟩
      have n15 := same_new (o := .lst [.ref a, .ref a2]) (same_refl H14) hL
      have hA15 := hA14.same n15
      have f15 : upd H14 L (.lst [.ref a, .ref a2]) L = some (.lst [.ref a, .ref a2]) := upd_same
      have gw15 := gw14.same n15
      have gu15 := gu.same n15
      generalize upd H14 L (.lst [.ref a, .ref a2]) = H15 at n15 hA15 f15 gw15 gu15
      refine ⟨L, rfl, ⟨_, SqL.of f15⟩, ?_⟩
      refine for_list (xs := [.ref a, .ref a2]) (fun _ σ H' => ∃ (t4 t9 t10 : Option V), σ = [some v0, some (.ref p), t2, some (.ref a), t4, some v1, some v2, some kn, some (.ref a2), t9, t10] ∧ Same H15 H') ⟨_, _, _, rfl, same_refl _⟩ (fun i σ H' _ q => by obtain ⟨_, _, _, _, s⟩ := q; exact SqL.of (s _ _ f15)) ?_ ?_
      · rintro j x σ H16 hj ⟨t4', t9', t10', rfl, s16⟩
        obtain ⟨b, tb, rfl, gb⟩ : ∃ (b : Addr) (tb : Tm), x = .ref b ∧ Gd K H15 b tb := by
          match j, hj with
          | 0, hj => cases hj; exact ⟨a, tw, rfl, gw15⟩
          | 1, hj => cases hj; exact ⟨a2, tu, rfl, gu15⟩
          | j + 2, hj => simp at hj
        have gb16 := gb.same s16
        refine ⟨_, rfl, _, tb, rfl, gb16.pg, gb16.ok, by have := gb16.len; omega, fun H17 s17 => ?_⟩
        have gb17 := gb16.same s17
        refine ⟨_, rfl, _, rfl, _, tb, rfl, gb17.pg, gb17.ok, gb17.dep, gb17.len, fun H18 s18 => ?_⟩
        refine ⟨_, _, rfl, str_twin, fun H19 s19 => ?_⟩
        refine ⟨_, rfl, ?_⟩
        refine ifF rfl ?_
        have gb19 := (gb17.same s18).same s19
        refine ⟨_, rfl, _, tb, rfl, tl_mk', gb19.ok, gb19.fit, gb19.kok, gb19.few, by have := gb19.len; omega, fun b2 us H20 s20 hb hw => ?_⟩
        refine ⟨_, rfl, _, _, rfl, (gb19.same s20).twin hb (hw.same tups_le), fun H21 s21 => ?_⟩
        refine ⟨_, rfl, ?_⟩
        refine ifF rfl ?_
        exact ⟨_, _, _, rfl, same_trans s16 (same_trans s17 (same_trans s18 (same_trans s19 (same_trans s20 s21))))⟩
      · rintro σ H16 ⟨t4', t9', t10', rfl, s16⟩
        have gw16 := gw15.same s16
        refine ⟨_, rfl, _, tw, rfl, gw16.pg, gw16.ok, by have := gw16.len; omega, fun H17 s17 => ?_⟩
        have gu17 := (gu15.same s16).same s17
        refine ⟨_, rfl, _, tu, rfl, gu17.pg, gu17.ok, by have := gu17.len; omega, fun H18 s18 => ?_⟩
        have gw18 := (gw16.same s17).same s18
        have gu18 := gu17.same s18
        refine ⟨rfl, _, rfl, _, rfl, _, _, gw18.dp, gu18.dp, gw18.shaped, gu18.shaped, ?_⟩
        rw [prog_same gw18.ok gu18.ok]
        refine ⟨rfl, _, rfl, ?_⟩
        refine ifF (by simp) ?_
        exact ⟨_, _, _, _, _, _, _, _, _, _, rfl, hA15.same (same_trans s16 (same_trans s17 s18))⟩
    · rintro σ H2 ⟨v0, t2, t3, t4, t5, t6, t7, t8, t9, t10, rfl, hA2⟩
      exact kq H2
end
end LG

set_option Elab.async false
set_option linter.all false
set_option maxRecDepth 100000
set_option maxHeartbeats 5000000
namespace LG
open PySem L2 TL
/-- a def of the text as the top has left it -/
def DefPack (K : PySem.W.Frag) (x : Str) (st : Stmt) (ps : List Str) : Prop := ∃ (f : Addr) (fd : FuncData), PySem.W.nsIn K mainGlobals x = some (some (.ref f)) ∧ Fun K x x st f fd ∧ Binds K fd ps []
theorem DefPack.fn {K : PySem.W.Frag} {h : Heap} {mg : Str → Option Value} {x : Str} {st : Stmt} {ps : List Str} (X : K.In h) (G : h.Ns mainGlobals mg) (d : DefPack K x st ps) : ∃ f fd, Fn K mg x st ps f fd := by
  obtain ⟨f, fd, a, F, b⟩ := d
  exact ⟨f, fd, F, b, PySem.W.mg_of X G a⟩
theorem def_mk {K : PySem.W.Frag} {x : Str} {st : Stmt} {ps : List Str} {f : Addr} {oc : Value} {od an : Option Addr} {osl : Array (Option Value)} {kV doc pm cdv ct : Value} (a : PySem.W.nsIn K mainGlobals x = some (some (.ref f)))
    (l : K.lookup f = some ⟨oc, od, .func (PySem.W.fnOf x x (defArgs st) (defBody st) (defScope st) .none kV doc pm an cdv ct), osl⟩) (c : PySem.W.codeIn K cdv x = true) (k : PySem.W.keepIn K (.ref f) = true)
    (h : ∀ (kV doc pm : Value) (an : Option Addr) (cdv ct : Value) (us : List Value), us.length = ps.length → bindArgs (PySem.W.fnOf x x (defArgs st) (defBody st) (defScope st) .none kV doc pm an cdv ct) ⟨us, []⟩ = pure (ps.zip us)) : DefPack K x st ps :=
  ⟨f, _, a, fun_mk l c k, (fun_mk l c k).binds h⟩
/-- a method as the top has left it -/
def MethPack (K : PySem.W.Frag) (C : Addr) (nm qual : Str) (st : Stmt) (ps : List Str) : Prop := ∃ (f : Addr) (fd : FuncData), PySem.W.findIn K (.ref C) nm = some (some (.ref f)) ∧ PySem.W.isFn K (.ref f) = true ∧ PySem.W.keepIn K (.ref f) = true ∧ Fun K nm qual st f fd ∧ Binds K fd ps []
theorem meth_mk {K : PySem.W.Frag} {C f : Addr} {nm qual : Str} {st : Stmt} {ps : List Str} {oc : Value} {od an : Option Addr} {osl : Array (Option Value)} {kV doc pm cdv ct : Value}
    (i : PySem.W.findIn K (.ref C) nm = some (some (.ref f))) (n : PySem.W.isFn K (.ref f) = true) (l : K.lookup f = some ⟨oc, od, .func (PySem.W.fnOf nm qual (defArgs st) (defBody st) (defScope st) .none kV doc pm an cdv ct), osl⟩) (c : PySem.W.codeIn K cdv qual = true) (k : PySem.W.keepIn K (.ref f) = true)
    (h : ∀ (kV doc pm : Value) (an : Option Addr) (cdv ct : Value) (us : List Value), us.length = ps.length → bindArgs (PySem.W.fnOf nm qual (defArgs st) (defBody st) (defScope st) .none kV doc pm an cdv ct) ⟨us, []⟩ = pure (ps.zip us)) : MethPack K C nm qual st ps :=
  ⟨f, _, i, n, k, fun_mk l c k, (fun_mk l c k).binds h⟩
/-- Reading as the top has left it -/
structure ReadPack (K : PySem.W.Frag) (CR : Addr) : Prop where
  a : PySem.W.nsIn K mainGlobals "Reading" = some (some (.ref CR))
  cl : Cls K CR
  nT : NoAttr K CR "_text"
  nA : NoAttr K CR "_at"
  mks : PySem.W.makesIn K CR = true
  kc : PySem.W.keepIn K (.ref CR) = true
  m0 : MethPack K CR "__init__" "Reading.__init__" sRInit ["self", "text"]
  m1 : MethPack K CR "_goes_on" "Reading._goes_on" sRGoes ["self", "sign"]
  m2 : MethPack K CR "_is_letter" "Reading._is_letter" sRIsL ["self"]
  m3 : MethPack K CR "_need" "Reading._need" sRNeed ["self", "signs"]
  m4 : MethPack K CR "need_end" "Reading.need_end" sREnd ["self"]
  m5 : MethPack K CR "_letter" "Reading._letter" sRLet ["self"]
  m6 : MethPack K CR "_name" "Reading._name" sRName ["self"]
  m7 : MethPack K CR "kind" "Reading.kind" sRKind ["self"]
  m8 : MethPack K CR "program" "Reading.program" sRProg ["self"]
  m9 : MethPack K CR "_take" "Reading._take" sRTake ["self"]
theorem read_mk {K : PySem.W.Frag} {CR : Addr} (a : PySem.W.nsIn K mainGlobals "Reading" = some (some (.ref CR))) (pg : PySem.W.plainGet K CR Str.empty = true) (hd : PySem.W.hasDictIn K CR = true) (po : PySem.W.plainOver K CR = true) (sa : PySem.W.findIn K (.ref CR) "__setattr__" = some (some (.builtin "object.__setattr__")))
    (n1 : PySem.W.findIn K (.ref CR) "_text" = some none) (n2 : PySem.W.findIn K (.ref CR) "_at" = some none) (mk : PySem.W.makesIn K CR = true) (kc : PySem.W.keepIn K (.ref CR) = true)
    (m0 : MethPack K CR "__init__" "Reading.__init__" sRInit ["self", "text"])
    (m1 : MethPack K CR "_goes_on" "Reading._goes_on" sRGoes ["self", "sign"])
    (m2 : MethPack K CR "_is_letter" "Reading._is_letter" sRIsL ["self"])
    (m3 : MethPack K CR "_need" "Reading._need" sRNeed ["self", "signs"])
    (m4 : MethPack K CR "need_end" "Reading.need_end" sREnd ["self"])
    (m5 : MethPack K CR "_letter" "Reading._letter" sRLet ["self"])
    (m6 : MethPack K CR "_name" "Reading._name" sRName ["self"])
    (m7 : MethPack K CR "kind" "Reading.kind" sRKind ["self"])
    (m8 : MethPack K CR "program" "Reading.program" sRProg ["self"])
    (m9 : MethPack K CR "_take" "Reading._take" sRTake ["self"])
    : ∃ CR, ReadPack K CR :=
  ⟨CR, a, ⟨pg, hd, po, sa⟩, n1, n2, mk, kc, m0, m1, m2, m3, m4, m5, m6, m7, m8, m9⟩
def LawPack (K : PySem.W.Frag) : Prop := ∃ (f : Addr) (fd : FuncData), PySem.W.nsIn K mainGlobals "law" = some (some (.ref f)) ∧ Fun K "law" "law" sLaw f fd ∧ Binds K fd ["_law_script"] [] ∧ ∀ (s : Shared) (v : Value), BindsTo s fd ⟨[v], []⟩ [("_law_script", v)]
theorem law_mk {K : PySem.W.Frag} {f : Addr} {oc : Value} {od an : Option Addr} {osl : Array (Option Value)} {kV doc pm cdv ct : Value} (a : PySem.W.nsIn K mainGlobals "law" = some (some (.ref f)))
    (l : K.lookup f = some ⟨oc, od, .func (PySem.W.fnOf "law" "law" (defArgs sLaw) (defBody sLaw) (defScope sLaw) .none kV doc pm an cdv ct), osl⟩) (c : PySem.W.codeIn K cdv "law" = true) (k : PySem.W.keepIn K (.ref f) = true) : LawPack K :=
  ⟨f, _, a, fun_mk l c k, (fun_mk l c k).binds (fun _ _ _ _ _ _ us hl => match us, hl with | [_], _ => rfl), fun s v => .of_eq rfl⟩
theorem all_mk {l : PySem.W.OpenLaw} {w : World} {K : PySem.W.Frag} {h : Heap} {mg : Str → Option Value} {fa : Addr} {v0 v1 v2 v3 v4 v5 v6 : Tok} (X : K.In h) (G : h.Ns mainGlobals mg) (hfa : mg "law" = some (.ref fa))
    (c0 : PySem.W.nsIn K mainGlobals "LAST_LETTER" = some (some (.int 25 v0)))
    (c1 : PySem.W.nsIn K mainGlobals "LONGEST_NAME" = some (some (.int 8 v1)))
    (c2 : PySem.W.nsIn K mainGlobals "NAME_LETTERS" = some (some (.str "abcdefghijklmnopqrstuvwxyz" v2)))
    (c3 : PySem.W.nsIn K mainGlobals "USE" = some (some (.str "@" v3)))
    (c4 : PySem.W.nsIn K mainGlobals "MOST_LETTERS" = some (some (.int 60 v4)))
    (c5 : PySem.W.nsIn K mainGlobals "MOST_DEEP" = some (some (.int 30 v5)))
    (c6 : PySem.W.nsIn K mainGlobals "MOST_WORDS" = some (some (.int 400 v6)))
    (d0 : DefPack K "is_integer" sInteger ["thing"])
    (d1 : DefPack K "is_integer_within" sWithin ["low", "high", "thing"])
    (d2 : DefPack K "is_pair" sPair ["thing"])
    (d3 : DefPack K "is_letter" sLetter ["thing"])
    (d4 : DefPack K "is_kind" sKind ["thing"])
    (d5 : DefPack K "is_name" sName ["thing"])
    (d6 : DefPack K "is_take" sIsTake ["word"])
    (d7 : DefPack K "is_made_of_words" sMade ["thing", "is_fit"])
    (d8 : DefPack K "_is_fit_take" sFit ["word", "is_fit"])
    (d9 : DefPack K "ends_of_parts" sEnds ["words"])
    (d10 : DefPack K "kind_text" sKText ["kind"])
    (d11 : DefPack K "program_text" sPText ["program"])
    (d12 : DefPack K "is_program" sIsProg ["thing"])
    (d13 : DefPack K "read_kind" sRdK ["text"])
    (d14 : DefPack K "read_program" sRdP ["text"])
    (d15 : DefPack K "kind_of_text" sKOf ["text"])
    (d16 : DefPack K "program_of_text" sPOf ["text"])
    (d17 : DefPack K "_law_hand" sHand ["_law_script"])
    (d18 : DefPack K "_law_draw" sDraw ["_law_hand_here", "_law_many"])
    (d19 : DefPack K "_law_some" sSome ["_law_hand_here", "_law_things"])
    (d20 : DefPack K "_law_shuffled" sShuf ["_law_hand_here", "_law_things"])
    (d21 : DefPack K "_law_is" sLIsT ["_law_told", "_law_due"])
    (d22 : DefPack K "_law_kind" sKd ["_law_hand_here", "_law_deep"])
    (d23 : DefPack K "_law_ends" sLEnds ["_law_kind_here"])
    (d24 : DefPack K "_law_known" sKnown ["_law_hand_here", "_law_many"])
    (d25 : DefPack K "_law_some_program" sSomeP ["_law_hand_here", "_law_known_here", "_law_deep"])
    (d26 : DefPack K "_law_spans" sSpans ["_law_words"])
    (d27 : DefPack K "_law_heads" sHeads ["_law_inner", "_law_end", "_law_deep"])
    (d28 : DefPack K "_law_fit" sLFit ["_law_hand_here", "_law_known_here", "_law_kind_here", "_law_deep"])
    (d29 : DefPack K "_law_loose" sLoose ["_law_hand_here", "_law_names", "_law_deep"])
    (d30 : DefPack K "_law_kind_text" sLKT ["_law_kind_here"])
    (d31 : DefPack K "_law_text" sLTx ["_law_words"])
    (d32 : DefPack K "_law_any_kind" sLAK ["_law_hand_here", "_law_deep"])
    (d33 : DefPack K "_law_long_kind" sLLK ["_law_hand_here"])
    (pR : ∃ CR, ReadPack K CR) (pW : LawPack K)
    (z0 : PySem.W.nsIn K mainGlobals "abs" = some none) (z1 : PySem.W.nsIn K mainGlobals "int" = some none) (z2 : PySem.W.nsIn K mainGlobals "len" = some none) (z3 : PySem.W.nsIn K mainGlobals "isinstance" = some none) (z4 : PySem.W.nsIn K mainGlobals "all" = some none) (z5 : PySem.W.nsIn K mainGlobals "range" = some none) (z6 : PySem.W.nsIn K mainGlobals "tuple" = some none) (z7 : PySem.W.nsIn K mainGlobals "list" = some none) (z8 : PySem.W.nsIn K mainGlobals "dict" = some none) (z9 : PySem.W.nsIn K mainGlobals "bool" = some none) (z10 : PySem.W.nsIn K mainGlobals "str" = some none) (z11 : PySem.W.nsIn K mainGlobals "sorted" = some none) (z12 : PySem.W.nsIn K mainGlobals "max" = some none) (z13 : PySem.W.nsIn K mainGlobals "any" = some none) (z14 : PySem.W.nsIn K mainGlobals "reversed" = some none) (z15 : PySem.W.nsIn K mainGlobals "set" = some none) (z16 : PySem.W.nsIn K mainGlobals "enumerate" = some none) (z17 : PySem.W.nsIn K mainGlobals "sum" = some none) :
    ∃ fd : FuncData, (∀ (s : Shared) (v : Value), BindsTo s fd ⟨[v], []⟩ [("_law_script", v)]) ∧ ∀ base : Heap, K.In base → base.Ns mainGlobals mg → FnOk l.prog w K mg base CX0 21 fa fd ["_law_script"] (spLaw K) := by
  obtain ⟨fw, fdw, aw, Fw, bb, bw⟩ := pW
  have e := hfa.symm.trans (PySem.W.mg_of X G aw)
  cases e
  obtain ⟨g0, gd0, D0⟩ := d0.fn X G
  obtain ⟨g1, gd1, D1⟩ := d1.fn X G
  obtain ⟨g2, gd2, D2⟩ := d2.fn X G
  obtain ⟨g3, gd3, D3⟩ := d3.fn X G
  obtain ⟨g4, gd4, D4⟩ := d4.fn X G
  obtain ⟨g5, gd5, D5⟩ := d5.fn X G
  obtain ⟨g6, gd6, D6⟩ := d6.fn X G
  obtain ⟨g7, gd7, D7⟩ := d7.fn X G
  obtain ⟨g8, gd8, D8⟩ := d8.fn X G
  obtain ⟨g9, gd9, D9⟩ := d9.fn X G
  obtain ⟨g10, gd10, D10⟩ := d10.fn X G
  obtain ⟨g11, gd11, D11⟩ := d11.fn X G
  obtain ⟨g12, gd12, D12⟩ := d12.fn X G
  obtain ⟨g13, gd13, D13⟩ := d13.fn X G
  obtain ⟨g14, gd14, D14⟩ := d14.fn X G
  obtain ⟨g15, gd15, D15⟩ := d15.fn X G
  obtain ⟨g16, gd16, D16⟩ := d16.fn X G
  obtain ⟨g17, gd17, D17⟩ := d17.fn X G
  obtain ⟨g18, gd18, D18⟩ := d18.fn X G
  obtain ⟨g19, gd19, D19⟩ := d19.fn X G
  obtain ⟨g20, gd20, D20⟩ := d20.fn X G
  obtain ⟨g21, gd21, D21⟩ := d21.fn X G
  obtain ⟨g22, gd22, D22⟩ := d22.fn X G
  obtain ⟨g23, gd23, D23⟩ := d23.fn X G
  obtain ⟨g24, gd24, D24⟩ := d24.fn X G
  obtain ⟨g25, gd25, D25⟩ := d25.fn X G
  obtain ⟨g26, gd26, D26⟩ := d26.fn X G
  obtain ⟨g27, gd27, D27⟩ := d27.fn X G
  obtain ⟨g28, gd28, D28⟩ := d28.fn X G
  obtain ⟨g29, gd29, D29⟩ := d29.fn X G
  obtain ⟨g30, gd30, D30⟩ := d30.fn X G
  obtain ⟨g31, gd31, D31⟩ := d31.fn X G
  obtain ⟨g32, gd32, D32⟩ := d32.fn X G
  obtain ⟨g33, gd33, D33⟩ := d33.fn X G
  obtain ⟨CR, SP⟩ := pR
  obtain ⟨h0, hd0, i0, n0, k0, F0, b0⟩ := SP.m0
  obtain ⟨h1, hd1, i1, n1, k1, F1, b1⟩ := SP.m1
  obtain ⟨h2, hd2, i2, n2, k2, F2, b2⟩ := SP.m2
  obtain ⟨h3, hd3, i3, n3, k3, F3, b3⟩ := SP.m3
  obtain ⟨h4, hd4, i4, n4, k4, F4, b4⟩ := SP.m4
  obtain ⟨h5, hd5, i5, n5, k5, F5, b5⟩ := SP.m5
  obtain ⟨h6, hd6, i6, n6, k6, F6, b6⟩ := SP.m6
  obtain ⟨h7, hd7, i7, n7, k7, F7, b7⟩ := SP.m7
  obtain ⟨h8, hd8, i8, n8, k8, F8, b8⟩ := SP.m8
  obtain ⟨h9, hd9, i9, n9, k9, F9, b9⟩ := SP.m9
  have T : TxB mg := ⟨PySem.W.mg_none_of X G z0, PySem.W.mg_none_of X G z1, PySem.W.mg_none_of X G z2, PySem.W.mg_none_of X G z3, PySem.W.mg_none_of X G z4, PySem.W.mg_none_of X G z5⟩
  have T2 : TxD mg := ⟨PySem.W.mg_none_of X G z6, PySem.W.mg_none_of X G z7, PySem.W.mg_none_of X G z8, PySem.W.mg_none_of X G z9, PySem.W.mg_none_of X G z10, PySem.W.mg_none_of X G z11, PySem.W.mg_none_of X G z12, PySem.W.mg_none_of X G z13, PySem.W.mg_none_of X G z14, PySem.W.mg_none_of X G z15, PySem.W.mg_none_of X G z16, PySem.W.mg_none_of X G z17⟩
  have TK : TxK mg := { toTxD := T2, last := ⟨_, PySem.W.mg_of X G c0⟩ }
  have TN : TxN mg := ⟨⟨_, PySem.W.mg_of X G c2⟩, ⟨_, PySem.W.mg_of X G c1⟩⟩
  have T3 : TxKK mg := { most := ⟨_, PySem.W.mg_of X G c4⟩, deep := ⟨_, PySem.W.mg_of X G c5⟩ }
  have hu : ∃ u, mg "USE" = some (.str "@" u) := ⟨_, PySem.W.mg_of X G c3⟩
  have hm : ∃ u, mg "MOST_WORDS" = some (.int 400 u) := ⟨_, PySem.W.mg_of X G c6⟩
  have RF : RdF K mg CR h0 h1 h2 h3 h4 h5 h6 h7 h8 h9 hd0 hd1 hd2 hd3 hd4 hd5 hd6 hd7 hd8 hd9 sRKind sRProg sRTake := { R := ⟨SP.cl, SP.nT, SP.nA⟩, Mm := ⟨SP.mks, i0, n0, SP.kc⟩, m := PySem.W.mg_of X G SP.a, F0 := F0, b0 := b0, FG := F1, bG := b1, mG := ⟨i1, n1, k1⟩, FI := F2, bI := b2, mI := ⟨i2, n2, k2⟩, FN := F3, bN := b3, mN := ⟨i3, n3, k3⟩, FE := F4, bE := b4, mE := ⟨i4, n4, k4⟩, FL := F5, bL := b5, mL := ⟨i5, n5, k5⟩, FM := F6, bM := b6, mM := ⟨i6, n6, k6⟩, FK := F7, bK := b7, mK := ⟨i7, n7, k7⟩, FP := F8, bP := b8, mP := ⟨i8, n8, k8⟩, FT := F9, bT := b9, mT := ⟨i9, n9, k9⟩ }
  refine ⟨fdw, bw, fun base _ _ => ?_⟩
  have GKT := ok_ktext (P := l.prog) (base := base) (w := w) D10 D2 T TK TN
  have GPT := ok_ptext (P := l.prog) (base := base) (w := w) D11 D9 D6 D10 D2 hu T TK TN
  have GRK := ok_rdk (P := l.prog) (base := base) (w := w) D13 D15 RF D4 D3 D1 D0 D2 T TK T3 TN
  have GPO := ok_pof (P := l.prog) (base := base) (w := w) D16 RF hu T T2 TN
  have GIP := ok_isprog (P := l.prog) (base := base) (w := w) D12 D7 D8 D2 D5 D4 D3 D1 D0 hm hu T TK T3 TN
  have GRP := ok_rdp (P := l.prog) (base := base) (w := w) D14 D16 GPO D12 GIP
  have GS := ok_somep (P := l.prog) (base := base) (w := w) D25 D28 D29 D18 D19 D22 D23 D27 T T2
  have GK := ok_known (P := l.prog) (base := base) (w := w) D24 D20 D22 D18 T T2
  have GLO := ok_loose (P := l.prog) (base := base) (w := w) D29 D18 D19 D22 T 3 (by decide)
  have GLT := ok_ltx (P := l.prog) (base := base) (w := w) (d := 16) D31 D26 D30 T T2
  have GLK := ok_lkt (P := l.prog) (base := base) (w := w) D30 T T2 16
  have GI := ok_lisT (P := l.prog) (base := base) (w := w) D21 T T2 18
  have GAK := ok_lak (P := l.prog) (base := base) (w := w) D32 D18 T 4
  have GLL := ok_llk (P := l.prog) (base := base) (w := w) D33 D18 T
  have GKD := ok_kd (P := l.prog) (base := base) (w := w) D22 D18 T 3
  exact ok_law ⟨Fw, bb, hfa⟩ D17 (ok_hand D17.F T) D33 GLL D21 GI D10 GKT D30 GLK D13 GRK D11 GPT D31 GLT D14 GRP D32 GAK D22 GKD D24 GK D25 GS D29 GLO T T2
theorem walk {l : PySem.W.OpenLaw} {q : Program} {loose : List Str} {XP : (Str → Option Value) → Heap → Prop} {YP : World → Heap → Prop} {d : DefRec} {K : Params → PySem.W.Frag} (hn : l.most = some 63) (hdf : d.params.defaults = [])
    (hY : ∀ (w : World) (h : Heap), YP w h → (K w.params).In h)
    (F : ∀ (w : World) (mg : Str → Option Value) (fa : Addr) (h : Heap), (K w.params).In h → h.Ns mainGlobals mg → mg d.name = some (.ref fa) →
      ∃ fd : FuncData, (∀ (s : Shared) (u : Value), BindsTo s fd ⟨[u], []⟩ [("_law_script", u)]) ∧ ∀ base : Heap, (K w.params).In base → base.Ns mainGlobals mg → FnOk l.prog w (K w.params) mg base CX0 21 fa fd ["_law_script"] (spLaw (K w.params))) :
    PySem.W.WalkO q loose XP YP l.row.toRowW d [] (fun f vs => PySem.call f vs) :=
  L2.walk_of (n := 63) (k := 21) (x := "_law_script") (CX := fun _ => CX0) (sp := fun w => spLaw (K w.params)) hn (by decide) hdf ⟨rfl, by decide, by decide⟩ hY F (fun _ _ a ns hl _ hS => ⟨a, ns, rfl, hS, hl, fun _ => rfl⟩) fun _ _ _ _ _ z => z
end LG

open PySem PySem.W PyProof.Rows
set_option Elab.async false
set_option maxRecDepth 100000 in
set_option maxHeartbeats 0 in
theorem PySem.Challenge.cw_usecounts_k10_whole_texts_there_and_back_holds : PySem.Challenge.rw_usecounts_k10_whole_texts_there_and_back.Holds := by
  w_on; o_law; k_head; (case hw => w_witness2)
  k_fill
  refine LG.walk (l := PySem.Challenge.rw_usecounts_k10_whole_texts_there_and_back) rfl rfl (fun w h Y => PySem.W.kIn_of Y) ?F
  case F =>
    intro w mg fa h KX G hmg
    refine' LG.all_mk KX G hmg ?c0 ?c1 ?c2 ?c3 ?c4 ?c5 ?c6 ?d0 ?d1 ?d2 ?d3 ?d4 ?d5 ?d6 ?d7 ?d8 ?d9 ?d10 ?d11 ?d12 ?d13 ?d14 ?d15 ?d16 ?d17 ?d18 ?d19 ?d20 ?d21 ?d22 ?d23 ?d24 ?d25 ?d26 ?d27 ?d28 ?d29 ?d30 ?d31 ?d32 ?d33 ?pR ?pW ?z0 ?z1 ?z2 ?z3 ?z4 ?z5 ?z6 ?z7 ?z8 ?z9 ?z10 ?z11 ?z12 ?z13 ?z14 ?z15 ?z16 ?z17
    (case c0 => k_is)
    (case c1 => k_is)
    (case c2 => k_is)
    (case c3 => k_is)
    (case c4 => k_is)
    (case c5 => k_is)
    (case c6 => k_is)
    (case d0 => (refine' LG.def_mk ?d0a ?d0l ?d0c ?d0k ?d0h; (case d0a => k_is); (case d0l => k_is); (case d0c => k_is); (case d0k => k_is); (case d0h => exact fun _ _ _ _ _ _ us hl => match us, hl with | [_], _ => rfl)))
    (case d1 => (refine' LG.def_mk ?d1a ?d1l ?d1c ?d1k ?d1h; (case d1a => k_is); (case d1l => k_is); (case d1c => k_is); (case d1k => k_is); (case d1h => exact fun _ _ _ _ _ _ us hl => match us, hl with | [_, _, _], _ => rfl)))
    (case d2 => (refine' LG.def_mk ?d2a ?d2l ?d2c ?d2k ?d2h; (case d2a => k_is); (case d2l => k_is); (case d2c => k_is); (case d2k => k_is); (case d2h => exact fun _ _ _ _ _ _ us hl => match us, hl with | [_], _ => rfl)))
    (case d3 => (refine' LG.def_mk ?d3a ?d3l ?d3c ?d3k ?d3h; (case d3a => k_is); (case d3l => k_is); (case d3c => k_is); (case d3k => k_is); (case d3h => exact fun _ _ _ _ _ _ us hl => match us, hl with | [_], _ => rfl)))
    (case d4 => (refine' LG.def_mk ?d4a ?d4l ?d4c ?d4k ?d4h; (case d4a => k_is); (case d4l => k_is); (case d4c => k_is); (case d4k => k_is); (case d4h => exact fun _ _ _ _ _ _ us hl => match us, hl with | [_], _ => rfl)))
    (case d5 => (refine' LG.def_mk ?d5a ?d5l ?d5c ?d5k ?d5h; (case d5a => k_is); (case d5l => k_is); (case d5c => k_is); (case d5k => k_is); (case d5h => exact fun _ _ _ _ _ _ us hl => match us, hl with | [_], _ => rfl)))
    (case d6 => (refine' LG.def_mk ?d6a ?d6l ?d6c ?d6k ?d6h; (case d6a => k_is); (case d6l => k_is); (case d6c => k_is); (case d6k => k_is); (case d6h => exact fun _ _ _ _ _ _ us hl => match us, hl with | [_], _ => rfl)))
    (case d7 => (refine' LG.def_mk ?d7a ?d7l ?d7c ?d7k ?d7h; (case d7a => k_is); (case d7l => k_is); (case d7c => k_is); (case d7k => k_is); (case d7h => exact fun _ _ _ _ _ _ us hl => match us, hl with | [_, _], _ => rfl)))
    (case d8 => (refine' LG.def_mk ?d8a ?d8l ?d8c ?d8k ?d8h; (case d8a => k_is); (case d8l => k_is); (case d8c => k_is); (case d8k => k_is); (case d8h => exact fun _ _ _ _ _ _ us hl => match us, hl with | [_, _], _ => rfl)))
    (case d9 => (refine' LG.def_mk ?d9a ?d9l ?d9c ?d9k ?d9h; (case d9a => k_is); (case d9l => k_is); (case d9c => k_is); (case d9k => k_is); (case d9h => exact fun _ _ _ _ _ _ us hl => match us, hl with | [_], _ => rfl)))
    (case d10 => (refine' LG.def_mk ?d10a ?d10l ?d10c ?d10k ?d10h; (case d10a => k_is); (case d10l => k_is); (case d10c => k_is); (case d10k => k_is); (case d10h => exact fun _ _ _ _ _ _ us hl => match us, hl with | [_], _ => rfl)))
    (case d11 => (refine' LG.def_mk ?d11a ?d11l ?d11c ?d11k ?d11h; (case d11a => k_is); (case d11l => k_is); (case d11c => k_is); (case d11k => k_is); (case d11h => exact fun _ _ _ _ _ _ us hl => match us, hl with | [_], _ => rfl)))
    (case d12 => (refine' LG.def_mk ?d12a ?d12l ?d12c ?d12k ?d12h; (case d12a => k_is); (case d12l => k_is); (case d12c => k_is); (case d12k => k_is); (case d12h => exact fun _ _ _ _ _ _ us hl => match us, hl with | [_], _ => rfl)))
    (case d13 => (refine' LG.def_mk ?d13a ?d13l ?d13c ?d13k ?d13h; (case d13a => k_is); (case d13l => k_is); (case d13c => k_is); (case d13k => k_is); (case d13h => exact fun _ _ _ _ _ _ us hl => match us, hl with | [_], _ => rfl)))
    (case d14 => (refine' LG.def_mk ?d14a ?d14l ?d14c ?d14k ?d14h; (case d14a => k_is); (case d14l => k_is); (case d14c => k_is); (case d14k => k_is); (case d14h => exact fun _ _ _ _ _ _ us hl => match us, hl with | [_], _ => rfl)))
    (case d15 => (refine' LG.def_mk ?d15a ?d15l ?d15c ?d15k ?d15h; (case d15a => k_is); (case d15l => k_is); (case d15c => k_is); (case d15k => k_is); (case d15h => exact fun _ _ _ _ _ _ us hl => match us, hl with | [_], _ => rfl)))
    (case d16 => (refine' LG.def_mk ?d16a ?d16l ?d16c ?d16k ?d16h; (case d16a => k_is); (case d16l => k_is); (case d16c => k_is); (case d16k => k_is); (case d16h => exact fun _ _ _ _ _ _ us hl => match us, hl with | [_], _ => rfl)))
    (case d17 => (refine' LG.def_mk ?d17a ?d17l ?d17c ?d17k ?d17h; (case d17a => k_is); (case d17l => k_is); (case d17c => k_is); (case d17k => k_is); (case d17h => exact fun _ _ _ _ _ _ us hl => match us, hl with | [_], _ => rfl)))
    (case d18 => (refine' LG.def_mk ?d18a ?d18l ?d18c ?d18k ?d18h; (case d18a => k_is); (case d18l => k_is); (case d18c => k_is); (case d18k => k_is); (case d18h => exact fun _ _ _ _ _ _ us hl => match us, hl with | [_, _], _ => rfl)))
    (case d19 => (refine' LG.def_mk ?d19a ?d19l ?d19c ?d19k ?d19h; (case d19a => k_is); (case d19l => k_is); (case d19c => k_is); (case d19k => k_is); (case d19h => exact fun _ _ _ _ _ _ us hl => match us, hl with | [_, _], _ => rfl)))
    (case d20 => (refine' LG.def_mk ?d20a ?d20l ?d20c ?d20k ?d20h; (case d20a => k_is); (case d20l => k_is); (case d20c => k_is); (case d20k => k_is); (case d20h => exact fun _ _ _ _ _ _ us hl => match us, hl with | [_, _], _ => rfl)))
    (case d21 => (refine' LG.def_mk ?d21a ?d21l ?d21c ?d21k ?d21h; (case d21a => k_is); (case d21l => k_is); (case d21c => k_is); (case d21k => k_is); (case d21h => exact fun _ _ _ _ _ _ us hl => match us, hl with | [_, _], _ => rfl)))
    (case d22 => (refine' LG.def_mk ?d22a ?d22l ?d22c ?d22k ?d22h; (case d22a => k_is); (case d22l => k_is); (case d22c => k_is); (case d22k => k_is); (case d22h => exact fun _ _ _ _ _ _ us hl => match us, hl with | [_, _], _ => rfl)))
    (case d23 => (refine' LG.def_mk ?d23a ?d23l ?d23c ?d23k ?d23h; (case d23a => k_is); (case d23l => k_is); (case d23c => k_is); (case d23k => k_is); (case d23h => exact fun _ _ _ _ _ _ us hl => match us, hl with | [_], _ => rfl)))
    (case d24 => (refine' LG.def_mk ?d24a ?d24l ?d24c ?d24k ?d24h; (case d24a => k_is); (case d24l => k_is); (case d24c => k_is); (case d24k => k_is); (case d24h => exact fun _ _ _ _ _ _ us hl => match us, hl with | [_, _], _ => rfl)))
    (case d25 => (refine' LG.def_mk ?d25a ?d25l ?d25c ?d25k ?d25h; (case d25a => k_is); (case d25l => k_is); (case d25c => k_is); (case d25k => k_is); (case d25h => exact fun _ _ _ _ _ _ us hl => match us, hl with | [_, _, _], _ => rfl)))
    (case d26 => (refine' LG.def_mk ?d26a ?d26l ?d26c ?d26k ?d26h; (case d26a => k_is); (case d26l => k_is); (case d26c => k_is); (case d26k => k_is); (case d26h => exact fun _ _ _ _ _ _ us hl => match us, hl with | [_], _ => rfl)))
    (case d27 => (refine' LG.def_mk ?d27a ?d27l ?d27c ?d27k ?d27h; (case d27a => k_is); (case d27l => k_is); (case d27c => k_is); (case d27k => k_is); (case d27h => exact fun _ _ _ _ _ _ us hl => match us, hl with | [_, _, _], _ => rfl)))
    (case d28 => (refine' LG.def_mk ?d28a ?d28l ?d28c ?d28k ?d28h; (case d28a => k_is); (case d28l => k_is); (case d28c => k_is); (case d28k => k_is); (case d28h => exact fun _ _ _ _ _ _ us hl => match us, hl with | [_, _, _, _], _ => rfl)))
    (case d29 => (refine' LG.def_mk ?d29a ?d29l ?d29c ?d29k ?d29h; (case d29a => k_is); (case d29l => k_is); (case d29c => k_is); (case d29k => k_is); (case d29h => exact fun _ _ _ _ _ _ us hl => match us, hl with | [_, _, _], _ => rfl)))
    (case d30 => (refine' LG.def_mk ?d30a ?d30l ?d30c ?d30k ?d30h; (case d30a => k_is); (case d30l => k_is); (case d30c => k_is); (case d30k => k_is); (case d30h => exact fun _ _ _ _ _ _ us hl => match us, hl with | [_], _ => rfl)))
    (case d31 => (refine' LG.def_mk ?d31a ?d31l ?d31c ?d31k ?d31h; (case d31a => k_is); (case d31l => k_is); (case d31c => k_is); (case d31k => k_is); (case d31h => exact fun _ _ _ _ _ _ us hl => match us, hl with | [_], _ => rfl)))
    (case d32 => (refine' LG.def_mk ?d32a ?d32l ?d32c ?d32k ?d32h; (case d32a => k_is); (case d32l => k_is); (case d32c => k_is); (case d32k => k_is); (case d32h => exact fun _ _ _ _ _ _ us hl => match us, hl with | [_, _], _ => rfl)))
    (case d33 => (refine' LG.def_mk ?d33a ?d33l ?d33c ?d33k ?d33h; (case d33a => k_is); (case d33l => k_is); (case d33c => k_is); (case d33k => k_is); (case d33h => exact fun _ _ _ _ _ _ us hl => match us, hl with | [_], _ => rfl)))
    (case pR => (refine' LG.read_mk ?pRa ?pRpg ?pRhd ?pRpo ?pRsa ?pRn1 ?pRn2 ?pRmk ?pRkc ?pRm0 ?pRm1 ?pRm2 ?pRm3 ?pRm4 ?pRm5 ?pRm6 ?pRm7 ?pRm8 ?pRm9; (case pRa => k_is); (case pRpg => k_is); (case pRhd => k_is); (case pRpo => k_is); (case pRsa => k_is); (case pRn1 => k_is); (case pRn2 => k_is); (case pRmk => k_is); (case pRkc => k_is); (case pRm0 => (refine' LG.meth_mk ?pRm0i ?pRm0n ?pRm0l ?pRm0c ?pRm0k ?pRm0h; (case pRm0i => k_is); (case pRm0n => k_is); (case pRm0l => k_is); (case pRm0c => k_is); (case pRm0k => k_is); (case pRm0h => exact fun _ _ _ _ _ _ us hl => match us, hl with | [_, _], _ => rfl))); (case pRm1 => (refine' LG.meth_mk ?pRm1i ?pRm1n ?pRm1l ?pRm1c ?pRm1k ?pRm1h; (case pRm1i => k_is); (case pRm1n => k_is); (case pRm1l => k_is); (case pRm1c => k_is); (case pRm1k => k_is); (case pRm1h => exact fun _ _ _ _ _ _ us hl => match us, hl with | [_, _], _ => rfl))); (case pRm2 => (refine' LG.meth_mk ?pRm2i ?pRm2n ?pRm2l ?pRm2c ?pRm2k ?pRm2h; (case pRm2i => k_is); (case pRm2n => k_is); (case pRm2l => k_is); (case pRm2c => k_is); (case pRm2k => k_is); (case pRm2h => exact fun _ _ _ _ _ _ us hl => match us, hl with | [_], _ => rfl))); (case pRm3 => (refine' LG.meth_mk ?pRm3i ?pRm3n ?pRm3l ?pRm3c ?pRm3k ?pRm3h; (case pRm3i => k_is); (case pRm3n => k_is); (case pRm3l => k_is); (case pRm3c => k_is); (case pRm3k => k_is); (case pRm3h => exact fun _ _ _ _ _ _ us hl => match us, hl with | [_, _], _ => rfl))); (case pRm4 => (refine' LG.meth_mk ?pRm4i ?pRm4n ?pRm4l ?pRm4c ?pRm4k ?pRm4h; (case pRm4i => k_is); (case pRm4n => k_is); (case pRm4l => k_is); (case pRm4c => k_is); (case pRm4k => k_is); (case pRm4h => exact fun _ _ _ _ _ _ us hl => match us, hl with | [_], _ => rfl))); (case pRm5 => (refine' LG.meth_mk ?pRm5i ?pRm5n ?pRm5l ?pRm5c ?pRm5k ?pRm5h; (case pRm5i => k_is); (case pRm5n => k_is); (case pRm5l => k_is); (case pRm5c => k_is); (case pRm5k => k_is); (case pRm5h => exact fun _ _ _ _ _ _ us hl => match us, hl with | [_], _ => rfl))); (case pRm6 => (refine' LG.meth_mk ?pRm6i ?pRm6n ?pRm6l ?pRm6c ?pRm6k ?pRm6h; (case pRm6i => k_is); (case pRm6n => k_is); (case pRm6l => k_is); (case pRm6c => k_is); (case pRm6k => k_is); (case pRm6h => exact fun _ _ _ _ _ _ us hl => match us, hl with | [_], _ => rfl))); (case pRm7 => (refine' LG.meth_mk ?pRm7i ?pRm7n ?pRm7l ?pRm7c ?pRm7k ?pRm7h; (case pRm7i => k_is); (case pRm7n => k_is); (case pRm7l => k_is); (case pRm7c => k_is); (case pRm7k => k_is); (case pRm7h => exact fun _ _ _ _ _ _ us hl => match us, hl with | [_], _ => rfl))); (case pRm8 => (refine' LG.meth_mk ?pRm8i ?pRm8n ?pRm8l ?pRm8c ?pRm8k ?pRm8h; (case pRm8i => k_is); (case pRm8n => k_is); (case pRm8l => k_is); (case pRm8c => k_is); (case pRm8k => k_is); (case pRm8h => exact fun _ _ _ _ _ _ us hl => match us, hl with | [_], _ => rfl))); (case pRm9 => (refine' LG.meth_mk ?pRm9i ?pRm9n ?pRm9l ?pRm9c ?pRm9k ?pRm9h; (case pRm9i => k_is); (case pRm9n => k_is); (case pRm9l => k_is); (case pRm9c => k_is); (case pRm9k => k_is); (case pRm9h => exact fun _ _ _ _ _ _ us hl => match us, hl with | [_], _ => rfl)))))
    (case pW => (refine' LG.law_mk ?pWa ?pWl ?pWc ?pWk; (case pWa => k_is); (case pWl => k_is); (case pWc => k_is); (case pWk => k_is)))
    (case z0 => k_is)
    (case z1 => k_is)
    (case z2 => k_is)
    (case z3 => k_is)
    (case z4 => k_is)
    (case z5 => k_is)
    (case z6 => k_is)
    (case z7 => k_is)
    (case z8 => k_is)
    (case z9 => k_is)
    (case z10 => k_is)
    (case z11 => k_is)
    (case z12 => k_is)
    (case z13 => k_is)
    (case z14 => k_is)
    (case z15 => k_is)
    (case z16 => k_is)
    (case z17 => k_is)
#print axioms PySem.Challenge.cw_usecounts_k10_whole_texts_there_and_back_holds
