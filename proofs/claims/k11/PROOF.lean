import PyProof.Rows.All
import Wide.All
import OpenK.AllK
import Wide.FinOn
import HandS.ForMost
import HandS.Exc
import HandS.TryOnly
import HandS.ExcOwn
import HandS.WordsExc
import HandS.IsInst
import HandS.ExcInit
import HandS.DeepEq
import HandS.Evl
import KE.KStateDown
import HandS.Base
import HandS.Call
import HandS.Ends
import HandS.More
import HandS.Words
import HandS.Defaults
import HandS.Head0
import HandS.Head1
import HandS.Head2
import HandS.Head3
import HandS.HeadEnd
import HandS.HeadHook1
import HandS.HeadHook2
import HandS.Walk
import HandS.Text
import HandS.Iter
import HandS.Rev
import HandS.CallLocal
import HandS.RevRange
import KE.KDictPairs
import HandS.TupAny
import HandS.ExcField
import HandS.ExcIs
import HandS.ExcValue
import HandS.OwnEq
import KE.KExcIs
import HandS.Steps
import HandS.Replace
import HandS.List
import HandS.Conv
import HandS.Style
import PyProof.ListStr
import HandS.Codes
import PySem.Challenge.RW_usecounts_k11_whole_first_wrong_signs
set_option Elab.async false
set_option maxRecDepth 100000
namespace LG
open PySem L2
def top (i : Nat) : Stmt := PySem.Challenge.pw_usecounts_k11_whole_first_wrong_signs.main.body.getD i (.Pass ⟨0, 0, 0, 0⟩)
abbrev sHand : Stmt := top 34
abbrev sDraw : Stmt := top 35
abbrev sSome : Stmt := top 36

theorem yes_kept {A B : Hp → Prop} {σ : St} {H : Hp} (h : A H) : tYes σ H (fun b H3 => if b = true then A H3 else B H3) := by
  show (if true = true then A H else B H)
  rw [if_pos rfl]
  exact h
/-- the builtins that the text leaves alone -/
structure TxB (mg : Str → Option Value) : Prop where
  abs : mg "abs" = none
  int : mg "int" = none
  len : mg "len" = none
  isinstance : mg "isinstance" = none
  all : mg "all" = none
  range : mg "range" = none

/-- the hand of draws -/
structure HandAt (H : Hp) (p c : Addr) (cells : List Int) : Prop where
  ob : ∃ i z s n : Int, 0 ≤ i ∧ H p = some (.lst [.ref c, .int i, .int z, .int s, .int n])
  cl : H c = some (.lst (cells.map V.int))
theorem HandAt.ne {H : Hp} {p c : Addr} {cells : List Int} (h : HandAt H p c cells) : p ≠ c := by
  obtain ⟨⟨i, z, s, n, _, e⟩, k⟩ := h
  refine ne_of e k (fun z => ?_)
  cases cells with
  | nil => cases z
  | cons a l => cases z
theorem HandAt.put {H : Hp} {p c : Addr} {cells : List Int} (h : HandAt H p c cells) {i z s n : Int} (hi : 0 ≤ i) : HandAt (upd H p (.lst [.ref c, .int i, .int z, .int s, .int n])) p c cells :=
  ⟨⟨i, z, s, n, hi, upd_same⟩, by rw [upd_ne h.ne.symm]; exact h.cl⟩
theorem HandAt.keep {H H' : Hp} {p c : Addr} {cells : List Int} (h : HandAt H p c cells) (k : ∀ b, b ≠ p → H' b = H b) (e : H' p = H p) : HandAt H' p c cells := by
  obtain ⟨⟨i, z, s, n, hi, q⟩, l⟩ := id h
  exact ⟨⟨i, z, s, n, hi, by rw [e]; exact q⟩, by rw [k c h.ne.symm]; exact l⟩

def spHand (K : PySem.W.Frag) : Sp := fun vs H Q _ => ∃ (a : Addr) (ns : List Int), vs = [.ref a] ∧ SqL K H a (ns.map V.int) ∧ ns.length ≤ 1000 ∧
  ∀ (p c : Addr) (cells : List Int) (H' : Hp), Same H H' → H p = none → HandAt H' p c cells → Q (.ref p) H'
/-- a draw: some number below -/
def spDraw : Sp := fun vs H Q _ => ∃ (p c : Addr) (cells : List Int) (m : Int), vs = [.ref p, .int m] ∧ HandAt H p c cells ∧ 0 < m ∧ m < 1000000 ∧
  ∀ (r : Int) (H' : Hp), 0 ≤ r → r < m → HandAt H' p c cells → (∀ b, b ≠ p → H' b = H b) → Q (.int r) H'
def spSome (K : PySem.W.Frag) : Sp := fun vs H Q _ => ∃ (p c t : Addr) (cells : List Int) (xs : List V), vs = [.ref p, .ref t] ∧ HandAt H p c cells ∧ SqL K H t xs ∧ t ≠ p ∧ 0 < xs.length ∧ xs.length < 1000 ∧
  ∀ (k : Nat) (v : V) (H' : Hp), xs[k]? = some v → HandAt H' p c cells → (∀ b, b ≠ p → H' b = H b) → Q v H'

section
variable {P : Program} {w : World} {K : PySem.W.Frag} {mg : Str → Option Value} {base : Heap}
theorem scH : FnScope ["_law_script", "_law_cells", "_law_cell"] ["_law_script"] (defScope sHand) := ⟨rfl, rfl, rfl, by decide +kernel, rfl, by decide +kernel, by decide +kernel⟩
theorem ok_hand {f : Addr} {fd : FuncData} (F : Fun K "_law_hand" "_law_hand" sHand f fd) (T : TxB mg) : FnOk P w K mg base CX0 1 f fd ["_law_script"] (spHand K) := by
  refine F.ok scH (fun vs H Q E h => ?_) (fun cdv A outer s H vs Q E hr h => ?_)
  · obtain ⟨a, ns, rfl, _⟩ := h
    rfl
  · obtain ⟨a, ns, rfl, hS, hlen, k⟩ := h
    have hu := hu_of hr
    refine ⟨_, pss_cons (ps_setLc (i := 1) (own := [("_law_cell", 2)]) (g := gName 2) (tt := tYes) rfl scH.nd rfl rfl (sw_true rfl rfl rfl (by decide +kernel))
        (pi_list (pe_slice sl_list (pv 0) po_none (po_some pe_int))) (blkOk_by (N := ["_law_script", "_law_cells", "_law_cell"]) (sc := defScope sHand) (by decide +kernel))
        (fun _ _ _ _ _ => pg_name (i := 2) scH.nd rfl (Or.inl rfl)) (fun _ _ _ _ _ => pts_nil)
        (fun _ _ _ _ _ => pe_callB call_abs (by rfl) T.abs (by decide +kernel) (pa_cons (pe_callTy call_int1 (by rfl) T.int (by decide +kernel) (pa_cons (pv 2) pa_nil)) pa_nil)))
      (pss_one (ps_ret (pe_lst (pa_cons (pv 1) (pa_cons pe_int (pa_cons pe_int (pa_cons (pe_op op_add pe_int (pe_callB call_len (by rfl) T.len PySem.boot_len (pa_cons (pv 1) pa_nil))) (pa_cons pe_int pa_nil)))))))), ?_⟩
    refine ⟨_, rfl, 63, rfl, _, _, rfl, hS, ?_⟩
    intro sl hsl
    refine ⟨sl, rfl, ⟨_, SqL.of upd_same⟩, fun D hD => ?_⟩
    have hDs : D ≠ sl := fun e => by rw [e, upd_same] at hD; cases hD
    have hD0 : H D = none := by rw [upd_ne hDs] at hD; exact hD
    obtain ⟨zs, ez, hzl⟩ : ∃ zs : List Int, cutV (ns.map V.int) none (some 63) = zs.map V.int ∧ zs.length ≤ 1000 := by
      refine ⟨(ns.drop (HT.sIx (ns.map V.int).length 0 none)).take (HT.sIx (ns.map V.int).length (ns.map V.int).length (some 63) - HT.sIx (ns.map V.int).length 0 none), ?_, ?_⟩
      · unfold cutV
        rw [← List.map_drop, ← List.map_take]
      · rw [List.length_take, List.length_drop]; omega
    rw [ez]
    refine lc_list (K := K) (a := sl) (xs := zs.map V.int) (fun i H' => Same H H' ∧ H' sl = some (.lst (zs.map V.int)) ∧ ∃ cs : List Int, cs.length = i ∧ H' D = some (.lst (cs.map V.int)))
      ⟨fun b o e => ?_, ?_, [], rfl, upd_same⟩ (fun i H' _ p => SqL.of p.2.1) ?_ ?_
    · rw [upd_ne (ne_of_none e hD0), upd_ne (ne_of_none e hsl)]; exact e
    · rw [upd_ne hDs.symm, upd_same]
    · rintro i x H' hx ⟨h1, h2, cs, h3, h4⟩
      obtain ⟨z, rfl⟩ : ∃ z, x = V.int z := by
        rw [List.getElem?_map] at hx
        cases e : zs[i]? with
        | none => rw [e] at hx; cases hx
        | some z => rw [e] at hx; exact ⟨z, (Option.some.inj hx).symm⟩
      have hi : i < zs.length := by
        have := (List.getElem?_eq_some_iff.mp hx).1
        rwa [List.length_map] at this
      refine ⟨rfl, ?_⟩
      refine yes_kept ?_
      refine ⟨_, rfl, .inl ⟨_, rfl, _, rfl, cs.map V.int, h4, ?_, fun b o e => ?_, ?_, cs ++ [if z < 0 then -z else z], ?_, ?_⟩⟩
      · rw [List.length_map, h3]; exact small1000 (by omega)
      · rw [upd_ne (ne_of_none e hD0)]; exact h1 b o e
      · rw [upd_ne hDs.symm]; exact h2
      · rw [List.length_append, h3]; rfl
      · rw [upd_same, List.map_append]; rfl
    · rintro H' ⟨h1, h2, cs, h3, h4⟩
      refine ⟨_, rfl, _, rfl, _, _, rfl, .inl ⟨_, SqL.of h4, rfl⟩, _, _, rfl, rfl, (by show 5 ≤ sizeLine; decide), fun p hp => ?_⟩
      exact k p D cs _ (fun b o e => by rw [upd_ne (ne_of_none (h1 b o e) hp)]; exact h1 b o e) (by
        cases e : H p with
        | none => rfl
        | some o => have := h1 p o e; rw [hp] at this; cases this) ⟨⟨0, 0, _, 0, Int.le_refl _, upd_same⟩, by rw [upd_ne (ne_of_none h4 hp)]; exact h4⟩
theorem scD : FnScope ["_law_hand_here", "_law_many", "_law_cell", "_law_digit", "_law_number"] ["_law_hand_here", "_law_many"] (defScope sDraw) := ⟨rfl, rfl, rfl, by decide +kernel, rfl, by decide +kernel, by decide +kernel⟩
theorem ok_draw {f : Addr} {fd : FuncData} (F : Fun K "_law_draw" "_law_draw" sDraw f fd) (T : TxB mg) : FnOk P w K mg base CX0 1 f fd ["_law_hand_here", "_law_many"] spDraw := by
  refine F.ok scD (fun vs H Q E h => ?_) (fun cdv A outer s H vs Q E hr h => ?_)
  · obtain ⟨p, c, cells, m, rfl, _⟩ := h
    rfl
  · obtain ⟨p, c, cells, m, rfl, hA, hm, hm2, k⟩ := h
    have hu := hu_of hr
    have nd := scD.nd
    refine ⟨_, Evl.pss_cut (ps_if (PW.pt (pw_and (pt_cmpR op_eq (pe_ix ix_list (pv 0) pe_int (fun _ _ => rfl)) pe_int (nomark _))
          (pw_and1 (pt_cmpR op_lt (pe_ix ix_list (pv 0) pe_int (fun _ _ => rfl)) (pe_callB call_len (by rfl) T.len PySem.boot_len (pa_cons (pe_ix ix_list (pv 0) pe_int (fun _ _ => rfl)) pa_nil)) (nomark _)))))
        (pss_cons (ps_set (i := 2) nd rfl (Or.inl rfl) (pe_ix ix_list (pe_ix ix_list (pv 0) pe_int (fun _ _ => rfl)) (pe_ix ix_list (pv 0) pe_int (fun _ _ => rfl)) (fun _ _ => rfl)))
        (pss_cons (ps_asg (pe_op op_add (pe_ix ix_list (pv 0) pe_int (fun _ _ => rfl)) pe_int) (pg_sub (pv 0) pe_int set_list))
        (pss_cons (ps_asg (pe_op op_mod (pe_callTy call_int1 (by rfl) T.int (by decide +kernel) (pa_cons (pe_op op_add (pe_op op_add (pe_op op_mul (pe_ix ix_list (pv 0) pe_int (fun _ _ => rfl)) pe_int) (pv 2)) pe_int) pa_nil)) pe_int) (pg_sub (pv 0) pe_int set_list))
        (pss_one (ps_if (pt_cmpR op_ge (pv 2) (pe_op op_pow pe_int pe_int) (nomark _)) (pss_one (ps_asg (pv 2) (pg_sub (pv 0) pe_int set_list))) pss_nil)))))
        pss_nil)
      (pss_cons (ps_if (pt_cmpR op_gt (pe_ix ix_list (pv 0) pe_int (fun _ _ => rfl)) pe_int (nomark _))
        (pss_cons (ps_set (i := 3) nd rfl (Or.inl rfl) (pe_op op_mod (pe_callTy call_int1 (by rfl) T.int (by decide +kernel) (pa_cons (pe_ix ix_list (pv 0) pe_int (fun _ _ => rfl)) pa_nil)) (pv 1)))
        (pss_cons (ps_asg (pe_op op_fdivN (pe_ix ix_list (pv 0) pe_int (fun _ _ => rfl)) (pv 1)) (pg_sub (pv 0) pe_int set_list))
        (pss_one (ps_ret (pv 3))))) pss_nil)
      (pss_cons (ps_asg (pe_op op_add (pe_ix ix_list (pv 0) pe_int (fun _ _ => rfl)) pe_int) (pg_sub (pv 0) pe_int set_list))
      (pss_cons (ps_set (i := 4) nd rfl (Or.inl rfl) (pe_op op_mod (pe_callTy call_int1 (by rfl) T.int (by decide +kernel) (pa_cons (pe_op op_mul (pe_callTy call_int1 (by rfl) T.int (by decide +kernel) (pa_cons (pe_op op_add (pe_ix ix_list (pv 0) pe_int (fun _ _ => rfl)) (pe_op op_mul pe_int (pe_ix ix_list (pv 0) pe_int (fun _ _ => rfl)))) pa_nil)) pe_int) pa_nil)) pe_int))
      (pss_cons (ps_set (i := 4) nd rfl (Or.inl rfl) (pe_op op_mod (pe_callTy call_int1 (by rfl) T.int (by decide +kernel) (pa_cons (pe_op op_mul (pv 4) (pe_op op_add (pe_op op_fdiv (pv 4) pe_int) pe_int)) pa_nil)) pe_int))
      (pss_cons (ps_set (i := 4) nd rfl (Or.inl rfl) (pe_op op_mod (pe_callTy call_int1 (by rfl) T.int (by decide +kernel) (pa_cons (pe_op op_mul (pv 4) (pe_op op_add (pe_op op_fdiv (pv 4) pe_int) pe_int)) pa_nil)) pe_int))
      (pss_one (ps_ret (pe_op op_mod (pe_callTy call_int1 (by rfl) T.int (by decide +kernel) (pa_cons (pe_op op_fdiv (pv 4) pe_int) pa_nil)) (pv 1))))))))), ?_⟩
    obtain ⟨⟨i, z, s0, n, hi, hp⟩, hc⟩ := id hA
    have nep := hA.ne
    refine ⟨fun σ' H' => ∃ (i z s n : Int) (v : Option V), 0 ≤ i ∧ σ' = [some (.ref p), some (.int m), v, none, none] ∧ H' p = some (.lst [.ref c, .int i, .int z, .int s, .int n]) ∧ (∀ b, b ≠ p → H' b = H b), ?_, ?_⟩
    · -- hand[2] == 0 and hand[1] < len(hand[0])
      refine ⟨_, rfl, p, _, _, _, rfl, rfl, SqL.of hp, rfl, rfl, _, rfl, ?_⟩
      refine ite2 (fun _ => ?_) (fun _ => ?_)
      · refine ⟨_, rfl, p, _, _, _, rfl, rfl, SqL.of hp, rfl, _, rfl, p, _, _, _, rfl, rfl, SqL.of hp, rfl, _, _, rfl, .inl ⟨_, SqL.of hc, rfl⟩, _, _, rfl, rfl, _, rfl, ?_⟩
        refine ite2 (fun e1 => ?_) (fun _ => ?_)
        · have e2 : i < (cells.length : Int) := by
            have := of_decide_eq_true e1
            rw [List.length_map] at this
            exact this
          obtain ⟨j, rfl⟩ := Int.eq_ofNat_of_zero_le hi
          have hj : j < cells.length := by omega
          have hat : atI (cells.map V.int) (j : Int) = some (.int cells[j]) := atI_nat (by rw [List.getElem?_map, List.getElem?_eq_getElem hj]; rfl)
          refine ⟨_, rfl, p, _, _, _, rfl, rfl, SqL.of hp, rfl, _, rfl, p, _, _, _, rfl, rfl, SqL.of hp, rfl, c, _, _, _, rfl, rfl, SqL.of hc, hat, ?_⟩
          refine ⟨_, rfl, p, _, _, _, rfl, rfl, SqL.of hp, rfl, _, _, rfl, rfl, _, rfl, p, _, _, 1, rfl, rfl, hp, rfl, ?_⟩
          refine ⟨_, rfl, p, _, _, _, rfl, rfl, SqL.of upd_same, rfl, _, _, rfl, rfl, .inr ⟨by decide, by decide⟩, _, rfl, _, _, rfl, rfl, _, _, rfl, rfl, .inl ⟨_, rfl, _, _, rfl, rfl, (by show (0 : Int) < 2147483629; decide), _, rfl, p, _, _, 3, rfl, rfl, upd_same, rfl, ?_⟩⟩
          refine ⟨_, rfl, _, _, rfl, rfl, ⟨by decide, by decide, by decide⟩, _, _, rfl, rfl, _, rfl, ?_⟩
          refine ite2 (fun _ => ?_) (fun _ => ?_)
          · refine ⟨_, rfl, _, rfl, p, _, _, 2, rfl, rfl, upd_same, rfl, (j : Int) + 1, _, _, _, some (.int cells[j]), by omega, rfl, upd_same, fun b hb => by rw [upd_ne hb, upd_ne hb, upd_ne hb]⟩
          · exact ⟨(j : Int) + 1, _, _, _, some (.int cells[j]), by omega, rfl, upd_same, fun b hb => by rw [upd_ne hb, upd_ne hb]⟩
        · exact ⟨i, z, s0, n, none, hi, rfl, hp, fun _ _ => rfl⟩
      · exact ⟨i, z, s0, n, none, hi, rfl, hp, fun _ _ => rfl⟩
    · clear hi hp i z s0 n
      rintro _ H1 ⟨i, z, s0, n, v, hi, rfl, hp, kp⟩
      have hc1 : H1 c = some (.lst (cells.map V.int)) := by rw [kp c nep.symm]; exact hc
      have fin : ∀ (r : Int) (i z s n : Int) (H2 : Hp), 0 ≤ r → r < m → 0 ≤ i → H2 p = some (.lst [.ref c, .int i, .int z, .int s, .int n]) → (∀ b, b ≠ p → H2 b = H1 b) → Q (.int r) H2 :=
        fun r i z s n H2 h0 h1 hi h2 h3 => k r H2 h0 h1 ⟨⟨i, z, s, n, hi, h2⟩, by rw [h3 c nep.symm]; exact hc1⟩ fun b hb => (h3 b hb).trans (kp b hb)
      -- hand[2] > 0
      refine ⟨_, rfl, p, _, _, _, rfl, rfl, SqL.of hp, rfl, _, _, rfl, rfl, _, rfl, ?_⟩
      refine ite2 (fun _ => ?_) (fun _ => ?_)
      · refine ⟨_, rfl, p, _, _, _, rfl, rfl, SqL.of hp, rfl, .inl ⟨_, rfl, _, rfl, _, _, rfl, rfl, hm, ?_⟩⟩
        refine ⟨_, rfl, p, _, _, _, rfl, rfl, SqL.of hp, rfl, _, rfl, _, _, rfl, rfl, ⟨by omega, by omega⟩, _, rfl, p, _, _, 2, rfl, rfl, hp, rfl, _, rfl, ?_⟩
        exact fin _ i _ _ _ _ (Int.emod_nonneg _ (by omega)) (Int.emod_lt_of_pos _ hm) hi upd_same fun b hb => upd_ne hb
      · refine ⟨_, rfl, p, _, _, _, rfl, rfl, SqL.of hp, rfl, _, _, rfl, rfl, _, rfl, p, _, _, 4, rfl, rfl, hp, rfl, ?_⟩
        refine ⟨_, rfl, p, _, _, _, rfl, rfl, SqL.of upd_same, rfl, _, rfl, p, _, _, _, rfl, rfl, SqL.of upd_same, rfl, _, _, rfl, rfl, .inl ⟨by decide, by decide⟩, _, _, rfl, rfl, .inl ⟨_, rfl, _, _, rfl, rfl, .inr ⟨by decide, by decide⟩, .inl ⟨_, rfl, _, _, rfl, rfl, (by show (0 : Int) < 2147483647; decide), ?_⟩⟩⟩
        dsimp only
        generalize hn1 : ((s0 + 7919 * (n + 1)) * 48271) % 2147483647 = n1
        have b1 : 0 ≤ n1 := by rw [← hn1]; exact Int.emod_nonneg _ (by decide)
        have b2 : n1 < 2147483647 := by rw [← hn1]; exact Int.emod_lt_of_pos _ (by decide)
        clear hn1
        refine ⟨_, rfl, _, rfl, _, _, rfl, rfl, ⟨by decide, by decide⟩, _, _, rfl, rfl, _, _, rfl, rfl, .inl ⟨by omega, by omega⟩, .inl ⟨_, rfl, _, _, rfl, rfl, (by show (0 : Int) < 2147483647; decide), ?_⟩⟩
        dsimp only
        generalize hn2 : (n1 * (n1 / 1009 + 69621)) % 2147483647 = n2
        have b3 : 0 ≤ n2 := by rw [← hn2]; exact Int.emod_nonneg _ (by decide)
        have b4 : n2 < 2147483647 := by rw [← hn2]; exact Int.emod_lt_of_pos _ (by decide)
        clear hn2
        refine ⟨_, rfl, _, rfl, _, _, rfl, rfl, ⟨by decide, by decide⟩, _, _, rfl, rfl, _, _, rfl, rfl, .inl ⟨by omega, by omega⟩, .inl ⟨_, rfl, _, _, rfl, rfl, (by show (0 : Int) < 2147483399; decide), ?_⟩⟩
        refine ⟨_, rfl, _, _, rfl, rfl, ⟨by decide, by decide⟩, .inl ⟨_, rfl, _, rfl, _, _, rfl, rfl, hm, ?_⟩⟩
        exact fin _ i _ _ _ _ (Int.emod_nonneg _ (by omega)) (Int.emod_lt_of_pos _ hm) hi upd_same fun b hb => upd_ne hb
theorem scS : FnScope ["_law_hand_here", "_law_things"] ["_law_hand_here", "_law_things"] (defScope sSome) := ⟨rfl, rfl, rfl, by decide +kernel, rfl, by decide +kernel, by decide +kernel⟩
theorem ok_some {f fD : Addr} {fd fdD : FuncData} (F : Fun K "_law_some" "_law_some" sSome f fd) (T : TxB mg) (FD : Fun K "_law_draw" "_law_draw" sDraw fD fdD) (bD : Binds K fdD ["_law_hand_here", "_law_many"] []) (mD : mg "_law_draw" = some (.ref fD)) :
    FnOk P w K mg base CX0 2 f fd ["_law_hand_here", "_law_things"] (spSome K) := by
  have GD : FnOk P w K mg base CX0 1 fD fdD ["_law_hand_here", "_law_many"] spDraw := ok_draw FD T
  refine F.ok scS (fun vs H Q E h => ?_) (fun cdv A outer s H vs Q E hr h => ?_)
  · obtain ⟨p, c, t, cells, xs, rfl, _⟩ := h
    rfl
  · obtain ⟨p, c, t, cells, xs, rfl, hA, hT, hn, h0, h1, k⟩ := h
    refine ⟨_, pss_one (ps_ret (pe_ix ix_list (pv 1) (pe_call GD hr (by rfl) mD FD.kp bD .nil pass0 (pa_cons (pv 0) (pa_cons (pe_callB call_len (by rfl) T.len PySem.boot_len (pa_cons (pv 1) pa_nil)) pa_nil))) (fun _ _ => rfl))), ?_⟩
    refine ⟨_, rfl, _, rfl, _, rfl, _, _, rfl, .inl ⟨_, hT, rfl⟩, p, c, cells, _, rfl, hA, by omega, by omega, fun r H' h2 h3 hA' kp => ?_⟩
    obtain ⟨j, rfl⟩ := Int.eq_ofNat_of_zero_le h2
    have hj : j < xs.length := by omega
    have hT' : SqL K H' t xs := by
      rcases hT with q | q
      · exact .inl (by unfold Rd; rw [kp t hn]; exact q)
      · exact .inr q
    exact ⟨t, xs, _, _, rfl, rfl, hT', atI_nat (List.getElem?_eq_getElem hj), k j _ H' (List.getElem?_eq_getElem hj) hA' kp⟩
end
end LG

set_option Elab.async false
set_option linter.all false
set_option maxRecDepth 100000
set_option maxHeartbeats 5000000
namespace LG
open PySem L2
/-! ### the part of the heap that the facts look at -/
/-- a def's code, a class's table -/
def nxA (o : Obj) : List Addr := match o.data with
  | .func fd => He.refV fd.code ++ He.refV fd.defaults
  | .cls cd => [cd.ns]
  | _ => []
/-- what a table holds -/
def nxN (o : Obj) : List Addr := match o.data with
  | .dict es _ => es.toList.flatMap fun e => He.refV e.val
  | _ => []
def goA (g : Addr → Option Obj) (nx : Obj → List Addr) (as : List Addr) : List Addr := as.flatMap fun a => match g a with
  | some o => nx o
  | none => []
def frcL {α : Type} : List Addr → (List Addr → α) → α
  | [], k => k []
  | a :: r, k => HandSHeadRun.frNat a fun a => frcL r fun r => k (a :: r)
theorem frcL_eq {α : Type} : ∀ (as : List Addr) (k : List Addr → α), frcL as k = k as
  | [], _ => rfl
  | a :: r, k => by
    show HandSHeadRun.frNat a (fun a => frcL r fun r => k (a :: r)) = _
    rw [HandSHeadRun.frNat_eq, frcL_eq r]
/-- the module's names, what they name, and their code, a class's methods, their code -/
def adH {α : Type} (g : Addr → Option Obj) (k : List Addr → α) : α :=
  frcL (goA g nxN [mainGlobals]) fun a1 => frcL (goA g nxA a1) fun a2 => frcL (goA g nxN a2) fun a3 => frcL (goA g nxA a3) fun a4 => k (mainGlobals :: (a1 ++ (a2 ++ (a3 ++ a4))))
def frK {α : Type} (g : Addr → Option Obj) : List Addr → (PySem.W.Frag → α) → α
  | [], k => k []
  | a :: r, k => match g a with
    | some o => frK g r fun K => k ((a, o) :: K)
    | none => frK g r k
theorem frK_eq {α : Type} (g : Addr → Option Obj) : ∀ (as : List Addr) (k : PySem.W.Frag → α), frK g as k = k (He.frG g as)
  | [], _ => rfl
  | a :: r, k => by
    unfold frK He.frG
    rw [List.filterMap_cons]
    cases g a with
    | none =>
      show frK g r k = _
      rw [frK_eq g r]
      rfl
    | some o =>
      show frK g r (fun K => k ((a, o) :: K)) = _
      rw [frK_eq g r]
      rfl
/-! ### facts -/
abbrev Fct : Type := PySem.W.Frag → Bool
abbrev AlB : Type := Bool × List He.FnV
def obB (fs : List Fct) (fn : List He.FnD) (K : PySem.W.Frag) : AlB := ((fs.all fun f => f K) && fn.all fun d => (He.Fa.code d.at_ d.qual).ok K, fn.map fun d => He.fnObs K d.at_)
def vaB (fn : List He.FnD) : AlB := (true, fn.map He.FnD.val)
def SaysB (fs : List Fct) (fn : List He.FnD) (K : PySem.W.Frag) : Prop := obB fs fn K = vaB fn
def obG (fs : List Fct) (fn : List He.FnD) (g : Addr → Option Obj) : AlB := adH g fun as => frK g as fun K => obB fs fn K
theorem obG_is (fs : List Fct) (fn : List He.FnD) (g : Addr → Option Obj) : ∃ as, obG fs fn g = obB fs fn (He.frG g as) := by
  refine ⟨mainGlobals :: (goA g nxN [mainGlobals] ++ (goA g nxA (goA g nxN [mainGlobals]) ++ (goA g nxN (goA g nxA (goA g nxN [mainGlobals])) ++ goA g nxA (goA g nxN (goA g nxA (goA g nxN [mainGlobals])))))), ?_⟩
  unfold obG adH
  rw [frcL_eq, frcL_eq, frcL_eq, frcL_eq]
  exact frK_eq g _ _
def hookB (fs : List Fct) (fn : List He.FnD) : PySem.W.Hook where
  α := AlB
  obs := fun s => obG fs fn s.heap.get?
  val := fun _ => vaB fn
  says := fun _ h => ∃ K : PySem.W.Frag, K.In h ∧ SaysB fs fn K
  of := fun _ s e => by
    obtain ⟨as, q⟩ := obG_is fs fn s.heap.get?
    exact ⟨_, He.frG_in (as := as), q.symm.trans e⟩
  keeps := fun _ _ _ ⟨K, hK, c⟩ k =>
      ⟨K, PySem.W.Frag.In.keeps hK k, c⟩
theorem obG_eq {fs : List Fct} {fn : List He.FnD} {g : Addr → Option Obj} {s : Shared} (h : ∀ a, g a = s.heap.get? a) : obG fs fn g = (hookB fs fn).obs s := by
  (have e : g = s.heap.get? := funext h)
  rw [e] <;> rfl
section
variable {fs : List Fct} {fn : List He.FnD} {K : PySem.W.Frag}
theorem SaysB.f (c : SaysB fs fn K) (i : Nat) {f : Fct} (h : fs[i]? = some f) : f K = true := by
  have c1 := (He.ba (show ((fs.all fun f => f K) && fn.all fun d => (He.Fa.code d.at_ d.qual).ok K) = true from congrArg (fun z : AlB => z.1) c)).1
  exact (List.all_eq_true.mp c1 f (List.mem_of_getElem? h))
theorem SaysB.d (c : SaysB fs fn K) (i : Nat) {d : He.FnD} (h : fn[i]? = some d) :
    ∃ oc od osl kV doc pm an cdv ct, K.lookup (He.fAd K d.at_) = some ⟨oc, od, .func (PySem.W.fnOf d.name d.qual d.params d.body d.scope .none kV doc pm an cdv ct), osl⟩ ∧ PySem.W.codeIn K cdv d.qual = true := by
  have c2 := (He.ba (show ((fs.all fun f => f K) && fn.all fun d => (He.Fa.code d.at_ d.qual).ok K) = true from congrArg (fun z : AlB => z.1) c)).2
  have e : fn.map (fun d => He.fnObs K d.at_) = fn.map He.FnD.val := congrArg (fun z : AlB => z.2) c
  have e2 : (fn.map fun d => He.fnObs K d.at_)[i]? = (fn.map He.FnD.val)[i]? := by rw [e]
  (rw [List.getElem?_map, List.getElem?_map, h] at e2)
  exact He.fn_ok (Option.some.inj e2) (List.all_eq_true.mp c2 d (List.mem_of_getElem? h))
end
/-! ### the facts' kinds -/
def fIs {α : Type} [DecidableEq α] (a b : PySem.W.Frag → α) : Fct := fun K => decide (a K = b K)
theorem fIs_ok {α : Type} [DecidableEq α] {a b : PySem.W.Frag → α} {K : PySem.W.Frag} (h : fIs a b K = true) : a K = b K := of_decide_eq_true h
abbrev gl (K : PySem.W.Frag) (x : Str) : Addr := He.ga K x
def fGlo (x : Str) : Fct := fun K => He.eqO (PySem.W.nsIn K mainGlobals x) (some (some (.ref (gl K x))))
def fFree (x : Str) : Fct := fun K => He.eqO (PySem.W.nsIn K mainGlobals x) (some none)
def fInt (x : Str) (i : Int) : Fct := fun K => match PySem.W.nsIn K mainGlobals x with
  | some (some (.int j _)) => (decide (j = i))
  | _ => false
def fStr (x z : Str) : Fct := fun K => match PySem.W.nsIn K mainGlobals x with
  | some (some (.str y _)) => (decide (y = z))
  | _ => false
theorem fGlo_ok {K : PySem.W.Frag} {x : Str} (h : fGlo x K = true) : PySem.W.nsIn K mainGlobals x = some (some (.ref (gl K x))) := He.eqO_ok h
theorem fFree_ok {K : PySem.W.Frag} {x : Str} (h : fFree x K = true) : PySem.W.nsIn K mainGlobals x = some none := He.eqO_ok h
theorem fInt_ok {K : PySem.W.Frag} {x : Str} {i : Int} (h : fInt x i K = true) : ∃ t, PySem.W.nsIn K mainGlobals x = some (some (.int i t)) := by
  unfold fInt at h
  split at h
  · rename_i j t e
    exact ⟨t, by rw [e, of_decide_eq_true h]⟩
  · cases h
theorem fStr_ok {K : PySem.W.Frag} {x z : Str} (h : fStr x z K = true) : ∃ t, PySem.W.nsIn K mainGlobals x = some (some (.str z t)) := by
  unfold fStr at h
  split at h
  · rename_i j t e
    exact ⟨t, by rw [e, of_decide_eq_true h]⟩
  · cases h
/-- a def of the module -/
def fDef (x : Str) : Fct := fun K => fGlo x K && PySem.W.keepIn K (.ref (gl K x))
def dG (x : Str) (st : Stmt) : He.FnD := ⟨(x, none), x, x, defArgs st, defBody st, defScope st⟩
def dM (C m q : Str) (st : Stmt) : He.FnD := ⟨(C, some m), m, q, defArgs st, defBody st, defScope st⟩
/-- a class: where it stands, how its attributes are read and set, how it is made -/
def fCls (x : Str) : Fct := fun K => fGlo x K && (PySem.W.plainGet K (gl K x) Str.empty && (PySem.W.hasDictIn K (gl K x) && (PySem.W.plainOver K (gl K x) && (He.eqO (PySem.W.findIn K (.ref (gl K x)) "__setattr__") (some (some (.builtin "object.__setattr__"))) && (PySem.W.makesIn K (gl K x) && PySem.W.keepIn K (.ref (gl K x)))))))
theorem fCls_ok {K : PySem.W.Frag} {x : Str} (h : fCls x K = true) : PySem.W.nsIn K mainGlobals x = some (some (.ref (gl K x))) ∧ PySem.W.plainGet K (gl K x) Str.empty = true ∧ PySem.W.hasDictIn K (gl K x) = true ∧ PySem.W.plainOver K (gl K x) = true ∧
    PySem.W.findIn K (.ref (gl K x)) "__setattr__" = some (some (.builtin "object.__setattr__")) ∧ PySem.W.makesIn K (gl K x) = true ∧ PySem.W.keepIn K (.ref (gl K x)) = true := by
  obtain ⟨h1, h⟩ := He.ba h
  obtain ⟨h2, h⟩ := He.ba h
  obtain ⟨h3, h⟩ := He.ba h
  obtain ⟨h4, h⟩ := He.ba h
  obtain ⟨h5, h⟩ := He.ba h
  obtain ⟨h6, h7⟩ := He.ba h
  exact ⟨fGlo_ok h1, h2, h3, h4, He.eqO_ok h5, h6, h7⟩
def fNo (x f : Str) : Fct := fun K => He.eqO (PySem.W.findIn K (.ref (gl K x)) f) (some none)
theorem fNo_ok {K : PySem.W.Frag} {x f : Str} (h : fNo x f K = true) : PySem.W.findIn K (.ref (gl K x)) f = some none := He.eqO_ok h
def fMeth (x m : Str) : Fct := fun K => He.eqO (PySem.W.findIn K (.ref (gl K x)) m) (some (some (.ref (He.ma K (gl K x) m)))) && (PySem.W.isFn K (.ref (He.ma K (gl K x) m)) && PySem.W.keepIn K (.ref (He.ma K (gl K x) m)))
theorem fMeth_ok {K : PySem.W.Frag} {x m : Str} (h : fMeth x m K = true) : PySem.W.findIn K (.ref (gl K x)) m = some (some (.ref (He.ma K (gl K x) m))) ∧ PySem.W.isFn K (.ref (He.ma K (gl K x) m)) = true ∧ PySem.W.keepIn K (.ref (He.ma K (gl K x) m)) = true := by
  obtain ⟨h1, h⟩ := He.ba h
  obtain ⟨h2, h3⟩ := He.ba h
  exact ⟨He.eqO_ok h1, h2, h3⟩
/-- an own error class -/
def slB (sl : Array (Option Value)) : Bool := match sl.toList with
  | [_, _, _, _, some (.builtin i), _] => decide (i = "ValueError.__new__")
  | _ => false
theorem slB_ok {sl : Array (Option Value)} (h : slB sl = true) : ∃ k0 k1 k2 k3 k5, sl = #[k0, k1, k2, k3, some (.builtin "ValueError.__new__"), k5] := by
  obtain ⟨l⟩ := sl
  unfold slB at h
  split at h
  · rename_i k0 k1 k2 k3 i k5 es
    simp only at es
    exact ⟨k0, k1, k2, k3, k5, by rw [es, of_decide_eq_true h]⟩
  · cases h
def fExc (nm : Str) (bm : PySem.W.Frag → List Value) : Fct := fun K => match K.lookup (gl K nm) with
  | some ⟨.type ty, _, .cls ⟨n, _, mro, _, _, hd, _, _, _, _, del⟩, sl⟩ => decide (ty = "type") && (decide (n = nm) && (decide (mro = .ref (gl K nm) :: bm K) && (hd && (!del && slB sl))))
  | _ => false
theorem fExc_ok {K : PySem.W.Frag} {nm : Str} {bm : PySem.W.Frag → List Value} (h : fExc nm bm K = true) : ∃ q N bs sn sub ab col dd k0 k1 k2 k3 k5, K.lookup (gl K nm) = some (excClassObj nm q (gl K nm) N bs (bm K) true sn sub ab col dd k0 k1 k2 k3 k5 "ValueError.__new__") := by
  unfold fExc at h
  split at h
  · rename_i ty dd n bs mro ns qn hd sn sub ab col del sl e
    obtain ⟨h1, h⟩ := He.ba h
    obtain ⟨h2, h⟩ := He.ba h
    obtain ⟨h3, h⟩ := He.ba h
    obtain ⟨h4, h⟩ := He.ba h
    obtain ⟨h5, h6⟩ := He.ba h
    obtain ⟨k0, k1, k2, k3, k5, es⟩ := slB_ok h6
    have e5 : del = false := by
      cases del with
      | false => rfl
      | true => cases h5
    exact ⟨qn, ns, bs, sn, sub, ab, col, dd, k0, k1, k2, k3, k5, by rw [e, of_decide_eq_true h1, of_decide_eq_true h2, of_decide_eq_true h3, show hd = true from h4, e5, es]⟩
  · cases h
end LG

set_option Elab.async false
set_option linter.all false
set_option maxRecDepth 100000
set_option maxHeartbeats 0
namespace LG
open PySem L2
def hFs0 : List Fct := [fGlo "CountsError", fExc "CountsError" (fun _ => [.type "ValueError", .type "Exception", .type "BaseException", .type "object"]), fIs (fun K => PySem.W.typeIn K (.ref (gl K "CountsError"))) (fun K => some (.type "type")), fIs (fun K => PySem.W.subIn K (.ref (gl K "CountsError")) (.type "BaseException")) (fun K => some true), fIs (fun K => PySem.W.hasDictIn K (gl K "CountsError")) (fun K => true), fIs (fun K => PySem.W.specialIn K (.builtin "object.__class__") "__get__") (fun K => some (some (.builtin "getset_descriptor.__get__"))), fIs (fun K => PySem.W.takesIn K (.builtin "object.__class__")) (fun K => some true), fGlo "BadText", fExc "BadText" (fun K => [.ref (gl K "CountsError"), .type "ValueError", .type "Exception", .type "BaseException", .type "object"]), fIs (fun K => PySem.W.findIn K (.ref (gl K "BadText")) "__setattr__") (fun K => some (some (.builtin "object.__setattr__"))), fIs (fun K => PySem.W.findIn K (.ref (gl K "BadText")) "__getattribute__") (fun K => some (some (.builtin "BaseException.__getattribute__"))), fIs (fun K => PySem.W.findIn K (.ref (gl K "BadText")) "__getattr__") (fun K => some none), fIs (fun K => PySem.W.typeIn K (.ref (gl K "BadText"))) (fun K => some (.type "type")), fIs (fun K => PySem.W.keepIn K (.ref (gl K "BadText"))) (fun K => true), fIs (fun K => PySem.W.findIn K (.ref (gl K "BadText")) "__class__") (fun K => some (some (.builtin "object.__class__"))), fMeth "BadText" "__init__", fIs (fun K => PySem.W.findIn K (.ref (gl K "BadText")) "index") (fun K => some none), fInt "LAST_LETTER" 25, fInt "MOST_LETTERS" 60, fInt "MOST_DEEP" 30, fStr "NAME_LETTERS" "abcdefghijklmnopqrstuvwxyz", fInt "LONGEST_NAME" 8, fStr "USE" "@", fInt "MOST_WORDS" 400, fInt "NO_STRING" (-1), fDef "is_integer", fDef "is_integer_within", fDef "is_pair", fDef "is_letter", fDef "is_kind", fDef "is_name", fDef "is_made_of_words", fDef "_is_fit_take", fDef "is_program", fDef "read_kind", fDef "read_program", fDef "kind_of_text", fDef "program_of_text", fDef "_law_hand", fDef "_law_draw"]
def hFs1 : List Fct := [fDef "_law_some", fDef "_law_shuffled", fDef "_law_is", fDef "_law_deep", fDef "_law_kind", fDef "_law_ends", fDef "_law_known", fDef "_law_some_program", fDef "_law_spans", fDef "_law_heads", fDef "_law_fit", fDef "_law_loose", fDef "_law_kind_text", fDef "_law_text", fDef "_law_signs", fDef "_law_read_atom", fDef "_law_read_kind", fDef "_law_read_name", fDef "_law_read_take", fDef "_law_read_words", fDef "_law_due", fDef "_law_told", fDef "_law_bent", fCls "Reading", fNo "Reading" "_text", fNo "Reading" "_at", fMeth "Reading" "__init__", fMeth "Reading" "_goes_on", fMeth "Reading" "_is_letter", fMeth "Reading" "_need", fMeth "Reading" "need_end", fMeth "Reading" "_letter", fMeth "Reading" "_name", fMeth "Reading" "kind", fMeth "Reading" "program", fMeth "Reading" "_take", fDef "law", fFree "abs", fFree "int", fFree "len"]
def hFs2 : List Fct := [fFree "isinstance", fFree "all", fFree "range", fFree "tuple", fFree "list", fFree "dict", fFree "bool", fFree "str", fFree "sorted", fFree "max", fFree "any", fFree "reversed", fFree "set", fFree "enumerate", fFree "sum", fFree "ValueError"]
def hFs : List Fct := hFs0 ++ (hFs1 ++ (hFs2))
def hFn0 : List He.FnD := [dM "BadText" "__init__" "BadText.__init__" (inClass (top 2) 0), dG "is_integer" (top 6), dG "is_integer_within" (top 7), dG "is_pair" (top 8), dG "is_letter" (top 13), dG "is_kind" (top 14), dG "is_name" (top 18), dG "is_made_of_words" (top 21), dG "_is_fit_take" (top 22), dG "is_program" (top 25), dG "read_kind" (top 28), dG "read_program" (top 29), dG "kind_of_text" (top 30), dG "program_of_text" (top 31), dG "_law_hand" (top 34), dG "_law_draw" (top 35), dG "_law_some" (top 36), dG "_law_shuffled" (top 37), dG "_law_is" (top 38), dG "_law_deep" (top 39), dG "_law_kind" (top 40), dG "_law_ends" (top 41), dG "_law_known" (top 42), dG "_law_some_program" (top 43), dG "_law_spans" (top 44), dG "_law_heads" (top 45), dG "_law_fit" (top 46), dG "_law_loose" (top 47), dG "_law_kind_text" (top 48), dG "_law_text" (top 49), dG "_law_signs" (top 50), dG "_law_read_atom" (top 51), dG "_law_read_kind" (top 52), dG "_law_read_name" (top 53), dG "_law_read_take" (top 54), dG "_law_read_words" (top 55), dG "_law_due" (top 56), dG "_law_told" (top 57), dG "_law_bent" (top 58), dM "Reading" "__init__" "Reading.__init__" (inClass (top 32) 0)]
def hFn1 : List He.FnD := [dM "Reading" "_goes_on" "Reading._goes_on" (inClass (top 32) 1), dM "Reading" "_is_letter" "Reading._is_letter" (inClass (top 32) 2), dM "Reading" "_need" "Reading._need" (inClass (top 32) 3), dM "Reading" "need_end" "Reading.need_end" (inClass (top 32) 4), dM "Reading" "_letter" "Reading._letter" (inClass (top 32) 5), dM "Reading" "_name" "Reading._name" (inClass (top 32) 6), dM "Reading" "kind" "Reading.kind" (inClass (top 32) 7), dM "Reading" "program" "Reading.program" (inClass (top 32) 8), dM "Reading" "_take" "Reading._take" (inClass (top 32) 9), dG "law" (top 59)]
def hFn : List He.FnD := hFn0 ++ (hFn1)
def hLoose0 : List PySem.Str := [("CountsError" : PySem.Str), ("BadText" : PySem.Str), ("NoKind" : PySem.Str), ("NoProgram" : PySem.Str), ("is_integer" : PySem.Str), ("is_integer_within" : PySem.Str), ("is_pair" : PySem.Str), ("LAST_LETTER" : PySem.Str), ("MOST_LETTERS" : PySem.Str), ("MOST_DEEP" : PySem.Str), ("is_letter" : PySem.Str), ("is_kind" : PySem.Str), ("NAME_LETTERS" : PySem.Str), ("LONGEST_NAME" : PySem.Str), ("is_name" : PySem.Str), ("USE" : PySem.Str), ("is_made_of_words" : PySem.Str), ("_is_fit_take" : PySem.Str), ("MOST_WORDS" : PySem.Str), ("is_program" : PySem.Str), ("NO_STRING" : PySem.Str), ("read_kind" : PySem.Str), ("read_program" : PySem.Str), ("kind_of_text" : PySem.Str), ("program_of_text" : PySem.Str), ("Reading" : PySem.Str), ("_law_hand" : PySem.Str), ("_law_draw" : PySem.Str), ("_law_some" : PySem.Str), ("_law_shuffled" : PySem.Str), ("_law_is" : PySem.Str), ("_law_deep" : PySem.Str), ("_law_kind" : PySem.Str), ("_law_ends" : PySem.Str), ("_law_known" : PySem.Str), ("_law_some_program" : PySem.Str), ("_law_spans" : PySem.Str), ("_law_heads" : PySem.Str), ("_law_fit" : PySem.Str), ("_law_loose" : PySem.Str)]
def hLoose1 : List PySem.Str := [("_law_kind_text" : PySem.Str), ("_law_text" : PySem.Str), ("_law_signs" : PySem.Str), ("_law_read_atom" : PySem.Str), ("_law_read_kind" : PySem.Str), ("_law_read_name" : PySem.Str), ("_law_read_take" : PySem.Str), ("_law_read_words" : PySem.Str), ("_law_due" : PySem.Str), ("_law_told" : PySem.Str), ("_law_bent" : PySem.Str)]
def hLoose : List PySem.Str := hLoose0 ++ (hLoose1)
abbrev hRow : PySem.W.OpenRow := PySem.W.OpenLaw.row PySem.Challenge.rw_usecounts_k11_whole_first_wrong_signs
abbrev hHk : PySem.W.Hook := hookB hFs hFn
def hOb (s : PySem.W.SharedT) : AlB := obG hFs hFn (HandSHeadRun.getT s)
theorem hOb_eq (s : PySem.W.SharedT) : hOb s = hHk.obs s.abs := obG_eq (HandSHeadRun.getT_eq s)
theorem hRun (w : World) : HandSHeadRun.RunEqI hRow (PySem.W.view hRow.prog [59]) hHk hOb 60000 hLoose w := by
  unfold HandSHeadRun.RunEqI
  kernel_rfl
end LG

set_option Elab.async false
set_option linter.all false
set_option maxRecDepth 100000
set_option maxHeartbeats 2000000
namespace LG
open PySem L2
theorem tyx_same {K : PySem.W.Frag} {H H' : Hp} {v : V} {t : Value} (s : Same H H') (h : TyX K H v t) : TyX K H' v t := by
  cases h with
  | base b =>
    cases b with
    | non => exact .base .non
    | bl x => exact .base (.bl x)
    | int i => exact .base (.int i)
    | str x => exact .base (.str x)
    | flt x => exact .base (.flt x)
    | lst e => exact .base (.lst (s _ _ e))
    | frz e => exact .base (.frz (s _ _ e))
    | tup e => exact .base (.tup (s _ _ e))
    | dK e => exact .base (.dK (s _ _ e))
    | dT e => exact .base (.dT (s _ _ e))
    | ins e cl ha hn htk hm => exact .base (.ins (s _ _ e) cl ha hn htk hm)
  | byt b => exact .byt b
  | set e => exact .set (s _ _ e)
  | kList e c => exact .kList e c
  | kTuple e c => exact .kTuple e c
  | kDict e c => exact .kDict e c
  | fTuple e => exact .fTuple (s _ _ e)
  | fDict e => exact .fDict (s _ _ e)
theorem same_refl (H : Hp) : Same H H := fun _ _ e => e
theorem same_trans {H H' H'' : Hp} (a : Same H H') (b : Same H' H'') : Same H H'' := fun c o e => b c o (a c o e)
theorem same_new {H H' : Hp} {p : Addr} {o : HO} (s : Same H H') (hp : H' p = none) : Same H (upd H' p o) := fun b u e => by rw [upd_ne (ne_of_none (s b u e) hp)]; exact s b u e
theorem same_none {H H' : Hp} {p : Addr} (s : Same H H') (hp : H' p = none) : H p = none := by
  cases e : H p with
  | none => rfl
  | some o => have := s p o e; rw [hp] at this; cases this

structure Fn (K : PySem.W.Frag) (mg : Str → Option Value) (x : Str) (st : Stmt) (ps : List Str) (f : Addr) (fd : FuncData) : Prop where
  F : Fun K x x st f fd
  b : Binds K fd ps []
  m : mg x = some (.ref f)
theorem ifT {c : Bool} {A B : Prop} (hc : c = true) (h : A) : if c = true then A else B := by
  rw [if_pos hc]
  exact h
theorem ifF {c : Bool} {A B : Prop} (hc : c = false) (h : B) : if c = true then A else B := by
  rw [hc, if_neg Bool.false_ne_true]
  exact h
theorem del_same_of {H H' : Hp} {p : Addr} (s : Same H H') : Same (del H p) (del H' p) := fun b o e => by
  by_cases hb : b = p
  · rw [hb, del_same] at e; cases e
  · rw [del_ne hb] at e ⊢; exact s b o e
theorem del_off {H H' : Hp} {p : Addr} (k : ∀ b, b ≠ p → H' b = H b) : Same (del H p) (del H' p) := fun b o e => by
  by_cases hb : b = p
  · rw [hb, del_same] at e; cases e
  · rw [del_ne hb] at e ⊢; rw [k b hb]; exact e
theorem del_le {H : Hp} {p : Addr} : Same (del H p) H := fun b o e => by
  by_cases hb : b = p
  · rw [hb, del_same] at e; cases e
  · rw [del_ne hb] at e; exact e
theorem HandAt.same {H H' : Hp} {p c : Addr} {cells : List Int} (h : HandAt H p c cells) (s : Same H H') : HandAt H' p c cells := by
  obtain ⟨⟨i, z, s0, n, hi, e⟩, l⟩ := h
  exact ⟨⟨i, z, s0, n, hi, s _ _ e⟩, s _ _ l⟩
theorem HandAt.some {H : Hp} {p c : Addr} {cells : List Int} (h : HandAt H p c cells) : ∃ l, H p = .some (.lst l) := by
  obtain ⟨⟨i, z, s0, n, hi, e⟩, _⟩ := h
  exact ⟨_, e⟩
theorem HandAt.fresh {H : Hp} {p c q : Addr} {cells : List Int} (h : HandAt H p c cells) (hq : H q = none) : q ≠ p := by
  obtain ⟨l, e⟩ := h.some
  exact fun z => by rw [z, e] at hq; cases hq
theorem same_upd {G H' : Hp} {p D : Addr} {o : HO} (s : Same G (del H' p)) (hd : G D = none) : Same G (del (upd H' D o) p) := fun b u e => by
  have nb : b ≠ D := ne_of_none e hd
  have h := s b u e
  by_cases hb : b = p
  · rw [hb, del_same] at h; cases h
  · rw [del_ne hb] at h ⊢
    rw [upd_ne nb]
    exact h
theorem HandAt.upd {H : Hp} {p c D : Addr} {cells : List Int} {o : HO} (h : HandAt H p c cells) (h1 : D ≠ p) (h2 : D ≠ c) : HandAt (upd H D o) p c cells := by
  obtain ⟨⟨i, z, s0, n, hi, e⟩, l⟩ := h
  exact ⟨⟨i, z, s0, n, hi, by rw [upd_ne h1.symm]; exact e⟩, by rw [upd_ne h2.symm]; exact l⟩

theorem seqIx {i : Int} {n : Nat} (h0 : 0 ≤ i) (h : i < (n : Int)) : seqIndex? i n = some i.toNat := by
  unfold seqIndex?
  simp
  omega
/-- so long a list has room -/
theorem room2 {n : Nat} (h : n ≤ 3000000) : n < sizeLine := Nat.lt_of_le_of_lt h (by decide)
theorem big2 {n : Nat} (h : n ≤ 3000000) : n ≤ sizeLine := Nat.le_of_lt (room2 h)
/-- further names of the text -/
structure TxD (mg : Str → Option Value) : Prop where
  tuple : mg "tuple" = none
  list : mg "list" = none
  dict : mg "dict" = none
  bool : mg "bool" = none
  str : mg "str" = none
  sorted : mg "sorted" = none
  max : mg "max" = none
  any : mg "any" = none
  reversed : mg "reversed" = none
  set : mg "set" = none
  enumerate : mg "enumerate" = none
  sum : mg "sum" = none
end LG

set_option Elab.async false
set_option linter.all false
set_option maxRecDepth 100000
set_option maxHeartbeats 2000000
namespace LG
open PySem L2
abbrev sInteger : Stmt := top 6
abbrev sWithin : Stmt := top 7
abbrev sPair : Stmt := top 8
abbrev sLetter : Stmt := top 13
structure TxK (mg : Str → Option Value) : Prop extends TxD mg where
  last : ∃ u, mg "LAST_LETTER" = some (.int 25 u)
/-! ### things as data: an int, a truth value, what is neither nor a tuple, a tuple of another length, a pair -/
inductive Th where
  | int (i : Int) | bl (b : Bool) | non | tup | pr (l r : Th)
namespace Th
def size : Th → Nat
  | .pr l r => l.size + r.size + 1
  | _ => 1
def letter : Th → Bool
  | .int i => decide (0 ≤ i) && decide (i ≤ 25)
  | _ => false
/-- a kind of any size -/
def any : Th → Bool
  | .pr l r => l.any && r.any
  | t => t.letter
/-- a kind nested at most so deep -/
def ok : Nat → Th → Bool
  | 0, t => t.letter
  | m + 1, .pr l r => ok m l && ok m r
  | _ + 1, t => t.letter
def letters : Th → Nat
  | .pr l r => l.letters + r.letters
  | .int _ => 1
  | _ => 0
def isKind (t : Th) : Bool := t.ok 30 && decide (t.letters ≤ 60)
theorem ok_pr {m : Nat} {l r : Th} : ok (m + 1) (.pr l r) = (ok m l && ok m r) := rfl
theorem ok_of_letter {m : Nat} {t : Th} (h : t.letter = true) : t.ok m = true ∧ t.letters = 1 := by
  cases t with
  | int i => cases m <;> exact ⟨h, rfl⟩
  | bl b => cases h
  | non => cases h
  | tup => cases h
  | pr l r => cases h
theorem size_pos (t : Th) : 0 < t.size := by cases t <;> simp [size]
end Th
/-- the judging of what waits: (thing, how deep) -/
def jud (c : Nat) (ws : List (Th × Nat)) : Bool := ws.all (fun w => w.1.ok (30 - w.2)) && decide (c + (ws.map (·.1.letters)).sum ≤ 60)
theorem jud_letter {c : Nat} {ws : List (Th × Nat)} {t : Th} {d : Nat} (h : t.letter = true) : jud c (ws ++ [(t, d)]) = jud (c + 1) ws := by
  unfold jud
  have e := Th.ok_of_letter (m := 30 - d) h
  simp only [List.all_append, List.all_cons, List.all_nil, List.map_append, List.map_cons, List.map_nil, List.sum_append, List.sum_cons, List.sum_nil, e.1, e.2, Bool.and_true]
  have q : c + ((ws.map (·.1.letters)).sum + (1 + 0)) = c + 1 + (ws.map (·.1.letters)).sum := by omega
  rw [q]
theorem jud_pair {c : Nat} {ws : List (Th × Nat)} {l r : Th} {d : Nat} (h : d < 30) : jud c (ws ++ [(.pr l r, d)]) = jud c (ws ++ [(l, d + 1), (r, d + 1)]) := by
  unfold jud
  have e : 30 - d = (30 - (d + 1)) + 1 := by omega
  have q : c + ((ws.map (·.1.letters)).sum + (l.letters + r.letters + 0)) = c + ((ws.map (·.1.letters)).sum + (l.letters + (r.letters + 0))) := by omega
  simp only [List.all_append, List.all_cons, List.all_nil, List.map_append, List.map_cons, List.map_nil, List.sum_append, List.sum_cons, List.sum_nil, Bool.and_true, e, Th.ok_pr, Th.letters, q]
theorem jud_bad {c : Nat} {ws : List (Th × Nat)} {t : Th} {d : Nat} (h1 : t.letter = false) (h2 : ∀ l r, t = .pr l r → ¬ d < 30) : jud c (ws ++ [(t, d)]) = false := by
  unfold jud
  have e : t.ok (30 - d) = false := by
    cases t with
    | pr l r =>
      have := h2 l r rfl
      have e : 30 - d = 0 := by omega
      rw [e]; rfl
    | int i => cases h3 : 30 - d <;> exact h1
    | bl b => cases h3 : 30 - d <;> rfl
    | non => cases h3 : 30 - d <;> rfl
    | tup => cases h3 : 30 - d <;> rfl
  simp [e]
theorem jud_many {c : Nat} {ws : List (Th × Nat)} (h : ¬ c ≤ 60) : jud c ws = false := by
  unfold jud
  rw [Bool.and_eq_false_iff]; exact .inr (decide_eq_false (by omega))
theorem jud_nil {c : Nat} : jud c [] = decide (c ≤ 60) := by simp [jud]
theorem jud_one {t : Th} : jud 0 [(t, 0)] = t.isKind := by simp [jud, Th.isKind]
def NonAt (K : PySem.W.Frag) (H : Hp) (v : V) : Prop := ∃ tv, TyX K H v tv ∧ PySem.W.kitOne K tv (.type "int") = some false ∧ PySem.W.kitOne K tv (.type "tuple") = some false
def ThAt (K : PySem.W.Frag) (H : Hp) : Th → V → Prop
  | .int i, v => v = .int i
  | .bl b, v => v = .bl b
  | .non, v => NonAt K H v
  | .tup, v => ∃ a xs, v = .ref a ∧ H a = some (.tup xs) ∧ xs.length ≠ 2
  | .pr l r, v => ∃ a x y, v = .ref a ∧ H a = some (.tup [x, y]) ∧ ThAt K H l x ∧ ThAt K H r y
theorem ThAt.same {K : PySem.W.Frag} {H H' : Hp} (s : Same H H') : ∀ {t : Th} {v : V}, ThAt K H t v → ThAt K H' t v
  | .int _, _, h => h
  | .bl _, _, h => h
  | .non, _, ⟨tv, h1, h2⟩ => ⟨tv, tyx_same s h1, h2⟩
  | .tup, _, ⟨a, xs, e, h, l⟩ => ⟨a, xs, e, s _ _ h, l⟩
  | .pr _ _, _, ⟨a, x, y, e, h, hl, hr⟩ => ⟨a, x, y, e, s _ _ h, hl.same s, hr.same s⟩
def Th.isI : Th → Bool
  | .int _ => true
  | .bl _ => true
  | _ => false
def Th.isB : Th → Bool
  | .bl _ => true
  | _ => false
def Th.isT : Th → Bool
  | .tup => true
  | .pr _ _ => true
  | _ => false
/-- its type, as isinstance asks it -/
theorem ThAt.ty {K : PySem.W.Frag} {H : Hp} {t : Th} {v : V} (h : ThAt K H t v) : ∃ tv, TyX K H v tv ∧ PySem.W.kitOne K tv (.type "int") = some t.isI ∧ (t.isI = true → PySem.W.kitOne K tv (.type "bool") = some t.isB) ∧ PySem.W.kitOne K tv (.type "tuple") = some t.isT := by
  cases t with
  | int i =>
    have e : v = .int i := h
    subst e
    exact ⟨_, .base (.int i), kit_ty (r := true) (by decide +kernel), fun _ => kit_ty (r := false) (by decide +kernel), kit_ty (r := false) (by decide +kernel)⟩
  | bl b =>
    have e : v = .bl b := h
    subst e
    exact ⟨_, .base (.bl b), kit_ty (r := true) (by decide +kernel), fun _ => kit_ty (r := true) (by decide +kernel), kit_ty (r := false) (by decide +kernel)⟩
  | non =>
    obtain ⟨tv, h1, h2, h3⟩ := h
    exact ⟨tv, h1, h2, fun z => (by cases z), h3⟩
  | tup =>
    obtain ⟨a, xs, rfl, h, l⟩ := h
    exact ⟨_, .base (.tup h), kit_ty (r := false) (by decide +kernel), fun z => (by cases z), kit_ty (r := true) (by decide +kernel)⟩
  | pr l r =>
    obtain ⟨a, x, y, rfl, h, _⟩ := h
    exact ⟨_, .base (.tup h), kit_ty (r := false) (by decide +kernel), fun z => (by cases z), kit_ty (r := true) (by decide +kernel)⟩
def Th.isInt : Th → Bool
  | .int _ => true
  | _ => false
def Th.isPr : Th → Bool
  | .pr _ _ => true
  | _ => false
theorem letter_int {t : Th} (h : t.isInt = false) : t.letter = false := by
  cases t <;> first | rfl | cases h
def spInteger (K : PySem.W.Frag) : Sp := fun vs H Q _ => ∃ (v : V) (t : Th), vs = [v] ∧ ThAt K H t v ∧ Q (.bl t.isInt) H
def spWithin (K : PySem.W.Frag) : Sp := fun vs H Q _ => ∃ (v : V) (t : Th), vs = [.int 0, .int 25, v] ∧ ThAt K H t v ∧ Q (.bl t.letter) H
def spPair (K : PySem.W.Frag) : Sp := fun vs H Q _ => ∃ (v : V) (t : Th), vs = [v] ∧ ThAt K H t v ∧ Q (.bl t.isPr) H
def spLetter (K : PySem.W.Frag) : Sp := fun vs H Q _ => ∃ (v : V) (t : Th), vs = [v] ∧ ThAt K H t v ∧ Q (.bl t.letter) H
section
variable {P : Program} {w : World} {K : PySem.W.Frag} {mg : Str → Option Value} {base : Heap}
theorem scInteger : FnScope ["thing"] ["thing"] (defScope sInteger) := ⟨rfl, rfl, rfl, by decide +kernel, rfl, by decide +kernel, by decide +kernel⟩
theorem ok_integer {f : Addr} {fd : FuncData} (F : Fn K mg "is_integer" sInteger ["thing"] f fd) (T : TxB mg) (T2 : TxK mg) : FnOk P w K mg base CX0 1 f fd ["thing"] (spInteger K) := by
  refine F.F.ok scInteger (fun vs H Q E h => ?_) (fun cdv A outer s H vs Q E hr h => ?_)
  · obtain ⟨v, t, rfl, _⟩ := h
    rfl
  · obtain ⟨v, t, rfl, hv, k⟩ := h
    obtain ⟨tv, ty, k1, k2, k3⟩ := hv.ty
    refine ⟨_, pss_one (ps_ret (pe_and (pe_callB call_isi (by rfl) T.isinstance (by decide +kernel) (pa_cons (pv 0) (pa_cons (pe_bltn (v := .ty "int") (by rfl) T.int (by decide +kernel) rfl) pa_nil)))
      (pe_one (pe_not (pe_callB call_isi (by rfl) T.isinstance (by decide +kernel) (pa_cons (pv 0) (pa_cons (pe_bltn (v := .ty "bool") (by rfl) T2.bool (by decide +kernel) rfl) pa_nil))))))), ?_⟩
    refine ⟨_, rfl, _, _, _, _, _, rfl, .ty _, ty, k1, _, rfl, ?_⟩
    refine ite2 (fun c => ?_) (fun c => ?_)
    · refine ⟨_, rfl, _, _, _, _, _, rfl, .ty _, ty, k2 c, _, rfl, ?_⟩
      have e : t.isInt = !t.isB := by cases t <;> first | rfl | cases c
      rw [← e]
      exact k
    · have e : t.isInt = false := by cases t <;> first | rfl | exact absurd rfl c
      rw [← e]
      exact k
theorem scWithin : FnScope ["low", "high", "thing"] ["low", "high", "thing"] (defScope sWithin) := ⟨rfl, rfl, rfl, by decide +kernel, rfl, by decide +kernel, by decide +kernel⟩
theorem ok_within {f f1 : Addr} {fd fd1 : FuncData} (F : Fn K mg "is_integer_within" sWithin ["low", "high", "thing"] f fd) (N1 : Fn K mg "is_integer" sInteger ["thing"] f1 fd1) (T : TxB mg) (T2 : TxK mg) : FnOk P w K mg base CX0 2 f fd ["low", "high", "thing"] (spWithin K) := by
  have G1 : FnOk P w K mg base CX0 1 f1 fd1 ["thing"] (spInteger K) := ok_integer N1 T T2
  refine F.F.ok scWithin (fun vs H Q E h => ?_) (fun cdv A outer s H vs Q E hr h => ?_)
  · obtain ⟨v, t, rfl, _⟩ := h
    rfl
  · obtain ⟨v, t, rfl, hv, k⟩ := h
    refine ⟨_, pss_one (ps_ret (pe_and (pe_call G1 hr (by rfl) N1.m N1.F.kp N1.b .nil pass0 (pa_cons (pv 2) pa_nil)) (pe_one (pe_chain op_le op_le (pv 0) (pv 2) (pv 1))))), ?_⟩
    refine ⟨_, rfl, v, t, rfl, hv, _, rfl, ?_⟩
    refine ite2 (fun c => ?_) (fun c => ?_)
    · obtain ⟨i, rfl⟩ : ∃ i, t = .int i := by cases t <;> first | exact ⟨_, rfl⟩ | cases c
      obtain rfl : v = .int i := hv
      refine ⟨_, rfl, _, rfl, _, _, rfl, rfl, _, rfl, ?_⟩
      refine ite2 (fun c2 => ?_) (fun c2 => ?_)
      · refine ⟨_, rfl, _, _, rfl, rfl, ?_⟩
        have e : Th.letter (.int i) = decide (i ≤ 25) := by show (decide (0 ≤ i) && decide (i ≤ 25)) = _; rw [c2, Bool.true_and]
        rw [e] at k
        exact k
      · have e : Th.letter (.int i) = false := by show (decide (0 ≤ i) && decide (i ≤ 25)) = _; rw [Bool.eq_false_iff.mpr c2, Bool.false_and]
        rw [e] at k
        exact k
    · rw [letter_int (Bool.eq_false_iff.mpr c)] at k
      exact k
theorem scPair : FnScope ["thing"] ["thing"] (defScope sPair) := ⟨rfl, rfl, rfl, by decide +kernel, rfl, by decide +kernel, by decide +kernel⟩
theorem ok_pair {f : Addr} {fd : FuncData} (F : Fn K mg "is_pair" sPair ["thing"] f fd) (T : TxB mg) (T2 : TxK mg) : FnOk P w K mg base CX0 1 f fd ["thing"] (spPair K) := by
  refine F.F.ok scPair (fun vs H Q E h => ?_) (fun cdv A outer s H vs Q E hr h => ?_)
  · obtain ⟨v, t, rfl, _⟩ := h
    rfl
  · obtain ⟨v, t, rfl, hv, k⟩ := h
    obtain ⟨tv, ty, k1, k2, k3⟩ := hv.ty
    refine ⟨_, pss_one (ps_ret (pe_and (pe_callB call_isi (by rfl) T.isinstance (by decide +kernel) (pa_cons (pv 0) (pa_cons (pe_bltn (v := .ty "tuple") (by rfl) T2.tuple (by decide +kernel) rfl) pa_nil)))
      (pe_one (pe_cmpR op_eq (pe_callB call_len (by rfl) T.len PySem.boot_len (pa_cons (pv 0) pa_nil)) pe_int (nomark _))))), ?_⟩
    refine ⟨_, rfl, _, _, _, _, _, rfl, .ty _, ty, k3, _, rfl, ?_⟩
    refine ite2 (fun c => ?_) (fun c => ?_)
    · cases t with
      | int i => cases c
      | bl b => cases c
      | non => cases c
      | tup =>
        obtain ⟨a, xs, rfl, h, l⟩ := hv
        refine ⟨_, rfl, _, _, rfl, .inr ⟨xs, SqT.of h, rfl⟩, rfl, ?_⟩
        rw [decide_eq_false (fun z => l (by have := V.int.inj z; omega))]
        exact k
      | pr l r =>
        obtain ⟨a, x, y, rfl, h, _⟩ := hv
        exact ⟨_, rfl, _, _, rfl, .inr ⟨_, SqT.of h, rfl⟩, rfl, k⟩
    · have e : t.isPr = false := by cases t <;> first | rfl | exact absurd rfl c
      rw [e] at k
      exact k
theorem scLetter : FnScope ["thing"] ["thing"] (defScope sLetter) := ⟨rfl, rfl, rfl, by decide +kernel, rfl, by decide +kernel, by decide +kernel⟩
theorem ok_letter {f f1 f2 : Addr} {fd fd1 fd2 : FuncData} (F : Fn K mg "is_letter" sLetter ["thing"] f fd) (N2 : Fn K mg "is_integer_within" sWithin ["low", "high", "thing"] f2 fd2) (N1 : Fn K mg "is_integer" sInteger ["thing"] f1 fd1) (T : TxB mg) (T2 : TxK mg) : FnOk P w K mg base CX0 3 f fd ["thing"] (spLetter K) := by
  have G2 : FnOk P w K mg base CX0 2 f2 fd2 ["low", "high", "thing"] (spWithin K) := ok_within N2 N1 T T2
  obtain ⟨u, hu⟩ := T2.last
  refine F.F.ok scLetter (fun vs H Q E h => ?_) (fun cdv A outer s H vs Q E hr h => ?_)
  · obtain ⟨v, t, rfl, _⟩ := h
    rfl
  · obtain ⟨v, t, rfl, hv, k⟩ := h
    refine ⟨_, pss_one (ps_ret (pe_call G2 hr (by rfl) N2.m N2.F.kp N2.b .nil pass0 (pa_cons pe_int (pa_cons (pe_glob (v := .int 25) (by rfl) hu ⟨_, rfl⟩) (pa_cons (pv 0) pa_nil))))), ?_⟩
    exact ⟨_, rfl, v, t, rfl, hv, k⟩
end
theorem nil_or_snoc {α : Type} (l : List α) : l = [] ∨ ∃ l' x, l = l' ++ [x] := by
  rcases List.eq_nil_or_concat l with h | ⟨l', x, h⟩
  · exact .inl h
  · exact .inr ⟨l', x, by rw [h, List.concat_eq_append]⟩
def psz (ws : List (Th × V)) : Nat := (ws.map (·.1.size)).sum
def pany (ws : List (Th × V)) : Bool := ws.all (·.1.any)
/-- between two turns of is_kind_of_any_size -/
def AW (K : PySem.W.Frag) (H : Hp) (t : Th) (v : V) (wl : Addr) : Nat → St → Hp → Prop := fun m σ H' => ∃ (ws : List (Th × V)) (p2 : Option V), m = psz ws ∧ σ = [some v, some (.ref wl), p2] ∧ Same H H' ∧
  H' wl = some (.lst (ws.map (·.2))) ∧ (∀ s ∈ ws, ThAt K H s.1 s.2) ∧ pany ws = t.any ∧ psz ws ≤ t.size
theorem len_psz : ∀ ws : List (Th × V), ws.length ≤ psz ws
  | [] => Nat.le_refl _
  | s :: ws => by
    have h := len_psz ws
    have p := s.1.size_pos
    simp only [psz, List.map_cons, List.sum_cons, List.length_cons] at *
    omega
def spAny (K : PySem.W.Frag) : Sp := fun vs H Q _ => ∃ (v : V) (t : Th), vs = [v] ∧ ThAt K H t v ∧ t.size ≤ 10000 ∧ ∀ H', Same H H' → Q (.bl t.any) H'
end LG

set_option Elab.async false
set_option linter.all false
set_option maxRecDepth 100000
set_option maxHeartbeats 2000000
namespace LG
open PySem L2
abbrev sName : Stmt := top 18
def letters : Str := "abcdefghijklmnopqrstuvwxyz"
def nameB (z : Str) : Bool := decide (1 ≤ z.length) && decide (z.length ≤ 8) && z.cps.toList.all fun c => decide (c ∈ letters.cps.toList)
/-- a text, or what is none -/
def StAt (K : PySem.W.Frag) (H : Hp) : Option Str → V → Prop
  | some z, v => v = .str z ∧ z.length ≤ 1000000
  | none, v => ∃ tv, TyX K H v tv ∧ PySem.W.kitOne K tv (.type "str") = some false
theorem StAt.same {K : PySem.W.Frag} {H H' : Hp} {o : Option Str} {v : V} (h : StAt K H o v) (s : Same H H') : StAt K H' o v := by
  cases o with
  | some z => exact h
  | none =>
    obtain ⟨tv, a, b⟩ := h
    exact ⟨tv, tyx_same s a, b⟩
theorem StAt.ty {K : PySem.W.Frag} {H : Hp} {o : Option Str} {v : V} (h : StAt K H o v) : ∃ tv, TyX K H v tv ∧ PySem.W.kitOne K tv (.type "str") = some o.isSome := by
  cases o with
  | some z =>
    obtain ⟨e, _⟩ := h
    subst e
    exact ⟨_, .base (.str z), kit_ty (r := true) (by decide +kernel)⟩
  | none => exact h
def nmB : Option Str → Bool
  | some z => nameB z
  | none => false
/-- names of the module -/
structure TxN (mg : Str → Option Value) : Prop where
  let_ : ∃ u, mg "NAME_LETTERS" = some (.str letters u)
  long : ∃ u, mg "LONGEST_NAME" = some (.int 8 u)
def spName (K : PySem.W.Frag) : Sp := fun vs H Q _ => ∃ (v : V) (o : Option Str), vs = [v] ∧ StAt K H o v ∧ ∀ H', Same H H' → Q (.bl (nmB o)) H'
section
variable {P : Program} {w : World} {K : PySem.W.Frag} {mg : Str → Option Value} {base : Heap}
theorem scName : FnScope ["thing", "sign"] ["thing"] (defScope sName) := ⟨rfl, rfl, rfl, by decide +kernel, rfl, by decide +kernel, by decide +kernel⟩
theorem ok_name {f : Addr} {fd : FuncData} (F : Fn K mg "is_name" sName ["thing"] f fd) (T : TxB mg) (T2 : TxD mg) (TN : TxN mg) : FnOk P w K mg base CX0 1 f fd ["thing"] (spName K) := by
  obtain ⟨uL, hL⟩ := TN.let_
  obtain ⟨u8, h8⟩ := TN.long
  refine F.F.ok scName (fun vs H Q E h => ?_) (fun cdv A outer s H vs Q E hr h => ?_)
  · obtain ⟨_, _, rfl, _⟩ := h
    rfl
  · obtain ⟨v, o, rfl, hv, kq⟩ := h
    have nd := scName.nd
    refine ⟨_, pss_cons (ps_if (PW.pt (pw_or (pt_not (pt_val (pe_callB call_isi (by rfl) T.isinstance (by decide +kernel) (pa_cons (pv 0) (pa_cons (pe_bltn (v := .ty "str") (by rfl) T2.str (by decide +kernel) rfl) pa_nil)))))
        (pw_or1 (pt_not (pt_chain op_le op_le pe_int (pe_callB call_len_str (by rfl) T.len PySem.boot_len (pa_cons (pv 0) pa_nil)) (pe_glob (v := .int 8) (by rfl) h8 ⟨_, rfl⟩)))))) (pss_one (ps_ret pe_bl)) pss_nil)
      (pss_one (ps_ret (pe_callB (cr_all rfl) (by rfl) T.all (by decide +kernel) (pa_cons (pe_lc (own := [("sign", 1)]) (g := gName 1) (tt := tYes) rfl nd (pi_str (pv 0))
        (blkOk_by (N := ["thing", "sign"]) (sc := defScope sName) (by decide +kernel)) (fun _ _ _ _ _ => pg_name (i := 1) nd rfl (Or.inl rfl)) (fun _ _ _ _ _ => pts_nil)
        (fun _ _ _ _ _ => pe_cmpR op_in_sign (pv 1) (pe_glob (v := .str letters) (by rfl) hL ⟨_, rfl⟩) (by rfl))) pa_nil)))), ?_⟩
    obtain ⟨tv, ty, kt⟩ := hv.ty
    refine ⟨_, rfl, _, _, _, _, _, rfl, .ty _, ty, kt, _, rfl, ?_⟩
    cases o with
    | none =>
      refine ifT rfl ?_
      exact kq H (same_refl H)
    | some z =>
      refine ifF rfl ?_
      obtain ⟨rfl, hz⟩ := hv
      have e : nmB (some z) = (decide (1 ≤ z.length) && decide (z.length ≤ 8) && z.cps.toList.all fun c => decide (c ∈ letters.cps.toList)) := rfl
      refine ⟨_, rfl, z, rfl, big2 (by omega), _, _, rfl, rfl, _, rfl, ?_⟩
      refine ite2 (fun d1 => ?_) (fun d1 => ?_)
      · have d1' : 1 ≤ z.length := by have := of_decide_eq_true d1; omega
        refine ⟨_, _, rfl, rfl, _, rfl, ?_⟩
        refine ite2 (fun d2 => ?_) (fun d2 => ?_)
        · have d2' : ¬ z.length ≤ 8 := fun q => by
            rw [decide_eq_true (show (z.length : Int) ≤ 8 by omega)] at d2
            cases d2
          have k2 := kq H (same_refl H)
          rw [e, decide_eq_false d2', Bool.and_false, Bool.false_and] at k2
          exact k2
        · have d2' : z.length ≤ 8 := by
            refine Classical.byContradiction fun q => d2 ?_
            rw [decide_eq_false (show ¬ (z.length : Int) ≤ 8 by omega)]; rfl
          refine ⟨_, rfl, z, rfl, fun D hD => ?_⟩
          have zs : z.cps.size ≤ 8 := d2'
          refine lc_it walk_str (fun i H' => Same H H' ∧ H' D = some (.lst (((z.cps.toList.take i).map fun c => decide (c ∈ letters.cps.toList)).map V.bl))) ⟨same_new (same_refl H) hD, upd_same⟩ (fun _ _ _ _ => trivial) ?_ ?_
          · rintro i _ H' _ hi ⟨h1, h2⟩ ⟨rfl, c, hc, rfl⟩
            refine ⟨rfl, ?_⟩
            refine yes_kept ?_
            refine ⟨_, rfl, c, letters, rfl, rfl, ?_⟩
            refine ⟨_, h2, (by rw [List.length_map, List.length_map, List.length_take]; exact room2 (by omega)), fun b u e => by rw [upd_ne (ne_of_none e hD)]; exact h1 b u e, ?_⟩
            have hc' : z.cps.toList[i]? = some c := by rw [Array.getElem?_toList]; exact hc
            rw [upd_same, List.take_add_one, hc', List.map_append, List.map_append]; rfl
          · rintro H' ⟨h1, h2⟩
            rw [List.take_of_length_le (by rw [Array.length_toList]; exact Nat.le_refl _)] at h2
            refine ⟨D, _, rfl, SqL.of h2, ?_⟩
            have k2 := kq H' h1
            rw [e, decide_eq_true d1', decide_eq_true d2', Bool.and_self, Bool.true_and] at k2
            rw [List.all_map]
            exact k2
      · have d1' : ¬ 1 ≤ z.length := fun q => d1 (decide_eq_true (by omega))
        refine ⟨_, rfl, ?_⟩
        refine ifT rfl ?_
        have k2 := kq H (same_refl H)
        rw [e, decide_eq_false d1', Bool.false_and, Bool.false_and] at k2
        exact k2
end
end LG

set_option Elab.async false
set_option linter.all false
set_option maxRecDepth 100000
set_option maxHeartbeats 4100000
namespace LG
open PySem L2
abbrev sMade : Stmt := top 21
abbrev sFit : Stmt := top 22
theorem ite_via {c : Bool} {X Y : Prop} (h : c = true → Y → X) (y : Y) : if c = true then X else Y := by
  by_cases e : c = true
  · rw [if_pos e]; exact h e y
  · rw [if_neg e]; exact y
/-! ### words as data: a text; a pair; what is neither -/
inductive Wd where
  | st (z : Str)
  | pr (o : Option Str) (t : Th)
  | no
def WdAt (K : PySem.W.Frag) (H : Hp) : Wd → V → Prop
  | .st z, v => v = .str z ∧ z.length ≤ 1000000
  | .pr o t, v => ∃ a x y, v = .ref a ∧ H a = some (.tup [x, y]) ∧ StAt K H o x ∧ (∃ tx, ThAt K H tx x) ∧ ThAt K H t y ∧ t.size ≤ 10000
  | .no, v => (∃ tv, TyX K H v tv ∧ PySem.W.kitOne K tv (.type "str") = some false) ∧ ∃ t, ThAt K H t v ∧ t.isPr = false
theorem WdAt.same {K : PySem.W.Frag} {H H' : Hp} (s : Same H H') : ∀ {w : Wd} {v : V}, WdAt K H w v → WdAt K H' w v
  | .st _, _, h => h
  | .pr _ _, _, ⟨a, x, y, e, h, h1, ⟨tx, h0⟩, h2, h3⟩ => ⟨a, x, y, e, s _ _ h, h1.same s, ⟨tx, h0.same s⟩, h2.same s, h3⟩
  | .no, _, ⟨⟨tv, a, b⟩, t, h, p⟩ => ⟨⟨tv, tyx_same s a, b⟩, t, h.same s, p⟩
/-- a word as a text asks it -/
def Wd.text : Wd → Option Str
  | .st z => some z
  | _ => none
def Wd.thing : Wd → Bool
  | .pr _ _ => true
  | _ => false
theorem WdAt.st {K : PySem.W.Frag} {H : Hp} {w : Wd} {v : V} (h : WdAt K H w v) : StAt K H w.text v := by
  cases w with
  | st z => exact h
  | pr o t =>
    obtain ⟨a, x, y, rfl, ha, _⟩ := h
    exact ⟨_, .base (.tup ha), kit_ty (r := false) (by decide +kernel)⟩
  | no => exact h.1
theorem WdAt.th {K : PySem.W.Frag} {H : Hp} {w : Wd} {v : V} (h : WdAt K H w v) : ∃ t, ThAt K H t v ∧ t.isPr = w.thing := by
  cases w with
  | st z =>
    obtain ⟨rfl, _⟩ := h
    exact ⟨.non, ⟨_, .base (.str z), kit_ty (r := false) (by decide +kernel), kit_ty (r := false) (by decide +kernel)⟩, rfl⟩
  | pr o t =>
    obtain ⟨a, x, y, rfl, ha, _, ⟨tx, hx⟩, ht, _⟩ := h
    exact ⟨.pr tx t, ⟨a, x, y, rfl, ha, hx, ht⟩, rfl⟩
  | no =>
    obtain ⟨_, t, ht, p⟩ := h
    exact ⟨t, ht, p⟩
theorem WdAt.ty {K : PySem.W.Frag} {H : Hp} {w : Wd} {v : V} (h : WdAt K H w v) : ∃ tv, TyX K H v tv ∧ PySem.W.kitOne K tv (.type "str") = some w.text.isSome := h.st.ty
/-! ### what a word is in a program; how many parts words make, from behind -/
def Wd.use : Wd → Bool
  | .st z => decide (z = "@")
  | _ => false
def Wd.name : Wd → Bool
  | .st z => nameB z
  | _ => false
def Wd.take (fit : Th → Bool) : Wd → Bool
  | .pr (some z) t => nameB z && fit t
  | _ => false
def stepC (fit : Th → Bool) (w : Wd) (m : Nat) : Option Nat := if w.use = true then (if m < 2 then none else some (m - 1)) else if w.name = true then some (m + 1) else if decide (m < 1) || !w.take fit then none else some m
def cntC (fit : Th → Bool) : List Wd → Option Nat
  | [] => some 0
  | w :: r => (cntC fit r).bind (stepC fit w)
def progB (fit : Th → Bool) (ws : List Wd) : Bool := decide (cntC fit ws = some 1)
theorem cnt_le {fit : Th → Bool} : ∀ {ws : List Wd} {m : Nat}, cntC fit ws = some m → m ≤ ws.length
  | [], m, h => by cases h; exact Nat.le_refl _
  | w :: r, m, h => by
    cases e : cntC fit r with
    | none => rw [cntC, e] at h; cases h
    | some k =>
      have := cnt_le e
      rw [cntC, e] at h
      have h : stepC fit w k = some m := h
      rw [List.length_cons]
      unfold stepC at h
      split at h
      · split at h
        · cases h
        · cases h; omega
      · split at h
        · cases h; omega
        · split at h
          · cases h
          · cases h; omega
/-- words, one by one -/
def WdsAt (K : PySem.W.Frag) (H : Hp) (ws : List Wd) (vs : List V) : Prop := vs.length = ws.length ∧ ∀ (i : Nat) w v, ws[i]? = some w → vs[i]? = some v → WdAt K H w v
theorem WdsAt.same {K : PySem.W.Frag} {H H' : Hp} {ws : List Wd} {vs : List V} (h : WdsAt K H ws vs) (s : Same H H') : WdsAt K H' ws vs := ⟨h.1, fun i w v a b => (h.2 i w v a b).same s⟩
/-- a program's words at a tuple -/
def PgAt (K : PySem.W.Frag) (H : Hp) (ws : List Wd) (v : V) : Prop := ∃ a vs, v = .ref a ∧ H a = some (.tup vs) ∧ WdsAt K H ws vs ∧ ws.length ≤ 1000000
theorem PgAt.same {K : PySem.W.Frag} {H H' : Hp} {ws : List Wd} {v : V} (h : PgAt K H ws v) (s : Same H H') : PgAt K H' ws v := by
  obtain ⟨a, vs, e, ha, hw, l⟩ := h
  exact ⟨a, vs, e, s _ _ ha, hw.same s, l⟩
def spIsTake (K : PySem.W.Frag) : Sp := fun vs H Q _ => ∃ (v : V) (w : Wd), vs = [v] ∧ WdAt K H w v ∧ w ≠ .no ∧ Q (.bl w.thing) H
def spFitF (K : PySem.W.Frag) (fit : Th → Bool) : Sp := fun vs H Q _ => ∃ (v : V) (t : Th), vs = [v] ∧ ThAt K H t v ∧ t.size ≤ 10000 ∧ ∀ H', Same H H' → Q (.bl (fit t)) H'
def spFit (K : PySem.W.Frag) (g : Addr) (fit : Th → Bool) : Sp := fun vs H Q _ => ∃ (v : V) (w : Wd), vs = [v, .ref g] ∧ WdAt K H w v ∧ ∀ H', Same H H' → Q (.bl (w.take fit)) H'
def spMade (K : PySem.W.Frag) (g : Addr) (fit : Th → Bool) : Sp := fun vs H Q _ => ∃ (v : V) (ws : List Wd), vs = [v, .ref g] ∧ PgAt K H ws v ∧ ∀ H', Same H H' → Q (.bl (progB fit ws)) H'
section
variable {P : Program} {w : World} {K : PySem.W.Frag} {mg : Str → Option Value} {base : Heap}
theorem scFit : FnScope ["word", "is_fit"] ["word", "is_fit"] (defScope sFit) := ⟨rfl, rfl, rfl, by decide +kernel, rfl, by decide +kernel, by decide +kernel⟩
theorem ok_fit {f fP fN g : Addr} {fd fdP fdN gd : FuncData} {n : Nat} {fit : Th → Bool} (F : Fn K mg "_is_fit_take" sFit ["word", "is_fit"] f fd) (NP : Fn K mg "is_pair" sPair ["thing"] fP fdP) (NN : Fn K mg "is_name" sName ["thing"] fN fdN)
    (GG : FnOk P w K mg base CX0 n g gd ["thing"] (spFitF K fit)) (kG : PySem.W.keepIn K (.ref g) = true) (bG : Binds K gd ["thing"] []) (hn : 1 ≤ n) (T : TxB mg) (T2 : TxK mg) (TN : TxN mg) : FnOk P w K mg base CX0 (n + 1) f fd ["word", "is_fit"] (spFit K g fit) := by
  have GP : FnOk P w K mg base CX0 1 fP fdP ["thing"] (spPair K) := ok_pair NP T T2
  have GN : FnOk P w K mg base CX0 1 fN fdN ["thing"] (spName K) := ok_name NN T T2.toTxD TN
  refine F.F.ok scFit (fun vs H Q E h => ?_) (fun cdv A outer s H vs Q E hr h => ?_)
  · obtain ⟨_, _, rfl, _⟩ := h
    rfl
  · obtain ⟨v, w, rfl, hv, kq⟩ := h
    have hr1 := hr.mono hn
    refine ⟨_, pss_one (ps_ret (pe_and (pe_call GP hr1 (by rfl) NP.m NP.F.kp NP.b .nil pass0 (pa_cons (pv 0) pa_nil)) (pe_and (pe_call GN hr1 (by rfl) NN.m NN.F.kp NN.b .nil pass0 (pa_cons (pe_ix ix_tup (pv 0) pe_int (fun _ _ => rfl)) pa_nil))
      (pe_one (pe_callL (i := 1) GG hr rfl (.inl rfl) kG bG .nil pass0 (pa_cons (pe_ix ix_tup (pv 0) pe_int (fun _ _ => rfl)) pa_nil)))))), ?_⟩
    obtain ⟨t, ht, pt⟩ := hv.th
    refine ⟨_, rfl, v, t, rfl, ht, _, rfl, ?_⟩
    rw [pt]
    have s0 := same_refl H
    cases w with
    | st z => exact iteF (kq H s0)
    | no => exact iteF (kq H s0)
    | pr o tk =>
      refine iteT ?_
      obtain ⟨a, x, y, rfl, ha, hx, _, hy, hz⟩ := hv
      refine ⟨_, rfl, a, _, _, _, rfl, rfl, SqT.of ha, rfl, x, o, rfl, hx, fun H1 s1 => ⟨_, rfl, ?_⟩⟩
      cases o with
      | none => exact iteF (kq H1 s1)
      | some z =>
        have e : (Wd.pr (some z) tk).take fit = (nameB z && fit tk) := rfl
        refine ite2 (fun c => ?_) (fun c => ?_)
        · have c : nameB z = true := c
          rw [e, c, Bool.true_and] at kq
          exact ⟨rfl, _, rfl, a, _, _, _, rfl, rfl, SqT.of (s1 _ _ ha), rfl, y, tk, rfl, hy.same s1, hz, fun H2 s2 => kq H2 (same_trans s1 s2)⟩
        · have c : nameB z = false := Bool.eq_false_iff.mpr c
          rw [e, c, Bool.false_and] at kq
          exact kq H1 s1
theorem scMade : FnScope ["thing", "is_fit", "many", "word"] ["thing", "is_fit"] (defScope sMade) := ⟨rfl, rfl, rfl, by decide +kernel, rfl, by decide +kernel, by decide +kernel⟩
theorem ok_made {f fF fP fN g : Addr} {fd fdF fdP fdN gd : FuncData} {n : Nat} {fit : Th → Bool} (F : Fn K mg "is_made_of_words" sMade ["thing", "is_fit"] f fd) (NF : Fn K mg "_is_fit_take" sFit ["word", "is_fit"] fF fdF) (NP : Fn K mg "is_pair" sPair ["thing"] fP fdP) (NN : Fn K mg "is_name" sName ["thing"] fN fdN)
    (GG : FnOk P w K mg base CX0 n g gd ["thing"] (spFitF K fit)) (kG : PySem.W.keepIn K (.ref g) = true) (bG : Binds K gd ["thing"] []) (hn : 1 ≤ n) (hu : ∃ u, mg "USE" = some (.str "@" u)) (T : TxB mg) (T2 : TxK mg) (TN : TxN mg) : FnOk P w K mg base CX0 (n + 2) f fd ["thing", "is_fit"] (spMade K g fit) := by
  have GF : FnOk P w K mg base CX0 (n + 1) fF fdF ["word", "is_fit"] (spFit K g fit) := ok_fit NF NP NN GG kG bG hn T T2 TN
  have GN : FnOk P w K mg base CX0 1 fN fdN ["thing"] (spName K) := ok_name NN T T2.toTxD TN
  obtain ⟨uU, hU⟩ := hu
  refine F.F.ok scMade (fun vs H Q E h => ?_) (fun cdv A outer s H vs Q E hr h => ?_)
  · obtain ⟨_, _, rfl, _⟩ := h
    rfl
  · obtain ⟨v, ws, rfl, hv, kq⟩ := h
    have nd := scMade.nd
    have hr1 := hr.mono (show 1 ≤ n + 1 by omega)
    refine ⟨_, pss_cons (ps_if (pt_not (pt_val (pe_callB call_isi (by rfl) T.isinstance (by decide +kernel) (pa_cons (pv 0) (pa_cons (pe_bltn (v := .ty "tuple") (by rfl) T2.tuple (by decide +kernel) rfl) pa_nil))))) (pss_one (ps_ret pe_bl)) pss_nil)
      (pss_cons (ps_set (i := 2) nd rfl (Or.inl rfl) pe_int)
      (pss_cons (ps_for PassesOwn.never rfl (RT.pi_revA (by rfl) T2.reversed (pv 0)) (pg_name (i := 3) nd rfl (Or.inl rfl))
        (pss_one (ps_if (PW.pt (pw_and (pt_val (pe_callB call_isi (by rfl) T.isinstance (by decide +kernel) (pa_cons (pv 3) (pa_cons (pe_bltn (v := .ty "str") (by rfl) T2.str (by decide +kernel) rfl) pa_nil)))) (pw_and1 (pt_cmpR op_eq (pv 3) (pe_glob (v := .str "@") (by rfl) hU ⟨_, rfl⟩) (nomark _)))))
          (pss_cons (ps_if (pt_cmpR op_lt (pv 2) pe_int (nomark _)) (pss_one (ps_ret pe_bl)) pss_nil) (pss_one (ps_aug (i := 2) nd rfl (.inl rfl) pe_int ip_sub)))
          (pss_one (ps_if (pt_val (pe_call GN hr1 (by rfl) NN.m NN.F.kp NN.b .nil pass0 (pa_cons (pv 3) pa_nil))) (pss_one (ps_aug (i := 2) nd rfl (.inl rfl) pe_int ip_add))
            (pss_one (ps_if (PW.pt (pw_or (pt_cmpR op_lt (pv 2) pe_int (nomark _)) (pw_or1 (pt_not (pt_val (pe_call GF hr (by rfl) NF.m NF.F.kp NF.b .nil pass0 (pa_cons (pv 3) (pa_cons (pv 1) pa_nil)))))))) (pss_one (ps_ret pe_bl)) pss_nil)))))))
      (pss_one (ps_ret (pe_cmpR op_eq (pv 2) pe_int (nomark _)))))), ?_⟩
    obtain ⟨a, vs, rfl, ha, hw, hl⟩ := hv
    have lv := hw.1
    refine ⟨_, rfl, _, _, _, _, _, rfl, .ty _, .base (.tup ha), kit_ty (r := true) (by decide +kernel), _, rfl, ?_⟩
    refine ifF rfl ?_
    refine ⟨_, rfl, a, _, rfl, .inr ⟨SqT.of ha, ?_⟩⟩
    have walk_revT : Walk (RT.ItvT K a vs.length) vs.length (fun H => SqT K H a vs) (fun i H x H' => H' = H ∧ vs[vs.length - 1 - i]? = some x) :=
      ⟨fun i H hi h => ⟨hi, vs, vs[vs.length - 1 - i], h, List.getElem?_eq_getElem (by omega)⟩, fun H _ => Nat.le_refl _, fun i H x H' _ h y => ⟨y.1, y.2 vs h⟩⟩
    -- none from behind: no program
    have bad : ∀ i, i ≤ ws.length → cntC fit (ws.drop (ws.length - i)) = none → cntC fit ws = none := fun i => by
      intro hi h
      have key : ∀ k, k ≤ ws.length → cntC fit (ws.drop k) = none → cntC fit ws = none := by
        intro k
        induction k with
        | zero => intro _ h; rwa [List.drop_zero] at h
        | succ k ih =>
          intro hk h
          refine ih (by omega) ?_
          rw [List.drop_eq_getElem_cons (by omega), cntC, h]; rfl
      exact key _ (by omega) h
    refine for_it walk_revT (fun i σ H' => ∃ (m : Nat) (t3 : Option V), σ = [some (.ref a), some (.ref g), some (.int (m : Int)), t3] ∧ Same H H' ∧ cntC fit (ws.drop (ws.length - i)) = some m) ⟨0, none, rfl, same_refl H, by rw [Nat.sub_zero, List.drop_length]; rfl⟩ (fun i σ H' _ ⟨_, _, _, s, _⟩ => SqT.of (s _ _ ha)) ?_ ?_
    · rintro i x σ H0 H1 hi ⟨m, t3, rfl, s1, hm⟩ ⟨rfl, hx⟩
      have hj : ws.length - 1 - i < ws.length := by omega
      have hwj : ws[ws.length - 1 - i]? = some ws[ws.length - 1 - i] := List.getElem?_eq_getElem hj
      rw [lv] at hx
      have wd := (hw.2 _ _ _ hwj hx).same s1
      generalize ws[ws.length - 1 - i] = wj at hwj wd
      have nx : cntC fit (ws.drop (ws.length - (i + 1))) = stepC fit wj m := by
        have e1 : ws.length - (i + 1) = ws.length - 1 - i := by omega
        have e2 : ws.length - 1 - i + 1 = ws.length - i := by omega
        rw [e1, List.drop_eq_getElem_cons hj, e2, cntC, hm]
        rw [List.getElem?_eq_getElem hj] at hwj
        rw [Option.some.inj hwj]; rfl
      have ml := cnt_le hm
      rw [List.length_drop] at ml
      have dead : stepC fit wj m = none → progB fit ws = false := fun e => by
        unfold progB
        rw [bad (i + 1) (by omega) (nx.trans e)]
        exact decide_eq_false (fun z => by cases z)
      obtain ⟨tv, ty, kt⟩ := wd.ty
      by_cases hU' : wj.use = true
      · obtain ⟨z, rfl⟩ : ∃ z, wj = .st z := by
          cases wj with
          | st z => exact ⟨z, rfl⟩
          | pr o t => cases hU'
          | no => cases hU'
        obtain rfl : z = "@" := of_decide_eq_true hU'
        obtain ⟨rfl, _⟩ := wd
        refine ⟨_, rfl, _, _, _, _, _, rfl, .ty _, ty, kt, _, rfl, ?_⟩
        refine ifT rfl ?_
        refine ⟨_, rfl, rfl, _, rfl, ?_⟩
        refine ifT (decide_eq_true rfl) ?_
        refine ⟨_, rfl, _, _, rfl, rfl, _, rfl, ?_⟩
        have st : stepC fit (.st "@") m = if m < 2 then none else some (m - 1) := rfl
        refine ite2 (fun c => ?_) (fun c => ?_)
        · have c2 : m < 2 := by have := of_decide_eq_true c; omega
          rw [if_pos c2] at st
          have k2 := kq H1 s1
          rw [dead st] at k2
          exact k2
        · have c2 : ¬ m < 2 := fun q => c (decide_eq_true (by omega))
          rw [if_neg c2] at st
          refine ⟨_, rfl, _, _, rfl, rfl, m - 1, some (.str "@"), ?_, s1, nx.trans st⟩
          show [some (V.ref a), some (V.ref g), some (V.int ((m : Int) - 1)), some (.str "@")] = _
          rw [show (m : Int) - 1 = ((m - 1 : Nat) : Int) by omega]
      · have nu : wj.use = false := Bool.eq_false_iff.mpr hU'
        refine ⟨_, rfl, _, _, _, _, _, rfl, .ty _, ty, kt, _, rfl, ?_⟩
        refine ite_via (fun c y => ?_) ?_
        · cases wj with
          | st z =>
            obtain ⟨rfl, _⟩ := wd
            refine ⟨_, rfl, rfl, _, rfl, ?_⟩
            refine ifF (decide_eq_false fun e => ?_) y
            have : (Wd.st z).use = true := decide_eq_true (V.str.inj e)
            rw [nu] at this; cases this
          | pr o t => cases c
          | no => cases c
        · have st : stepC fit wj m = if wj.name = true then some (m + 1) else if decide (m < 1) || !wj.take fit then none else some m := by
            unfold stepC
            rw [nu, if_neg Bool.false_ne_true]
          refine ⟨_, rfl, x, wj.text, rfl, wd.st, fun H2 s2 => ⟨_, rfl, ?_⟩⟩
          have s12 := same_trans s1 s2
          have en : nmB wj.text = wj.name := by cases wj <;> rfl
          rw [en]
          refine ite2 (fun c => ?_) (fun c => ?_)
          · rw [if_pos c] at st
            exact ⟨_, rfl, _, _, rfl, rfl, m + 1, some x, rfl, s12, nx.trans st⟩
          · rw [if_neg c] at st
            refine ⟨_, rfl, _, _, rfl, rfl, _, rfl, ?_⟩
            refine ite2 (fun d => ?_) (fun d => ?_)
            · have d2 : decide (m < 1) = true := decide_eq_true (by have := of_decide_eq_true d; omega)
              rw [d2, Bool.true_or, if_pos rfl] at st
              have k2 := kq H2 s12
              rw [dead st] at k2
              exact k2
            · have d2 : decide (m < 1) = false := decide_eq_false fun q => d (decide_eq_true (by omega))
              rw [d2, Bool.false_or] at st
              refine ⟨_, rfl, _, rfl, x, wj, rfl, wd.same s2, fun H3 s3 => ⟨_, rfl, ?_⟩⟩
              have s13 := same_trans s12 s3
              refine ite2 (fun e => ?_) (fun e => ?_)
              · rw [if_pos e] at st
                have k2 := kq H3 s13
                rw [dead st] at k2
                exact k2
              · rw [if_neg e] at st
                exact ⟨m, _, rfl, s13, nx.trans st⟩
    · rintro σ H1 ⟨m, t3, rfl, s1, hm⟩
      rw [lv, Nat.sub_self, List.drop_zero] at hm
      refine ⟨_, rfl, rfl, ?_⟩
      have e : progB fit ws = decide (V.int (m : Int) = V.int 1) := by
        unfold progB
        rw [hm, Bool.eq_iff_iff, decide_eq_true_eq, decide_eq_true_eq]
        exact ⟨fun h => by rw [Option.some.inj h]; rfl, fun h => by have := V.int.inj h; congr 1; omega⟩
      have k2 := kq H1 s1
      rw [e] at k2
      exact k2
end
end LG

set_option Elab.async false
set_option linter.all false
set_option maxRecDepth 100000
namespace LG
open PySem L2
/-! ### where parts end: mathematics alone -/
/-- the lengths of the parts that words make, one behind another -/
def pend : List Wd → Option (List Nat)
  | [] => some []
  | w :: r => match pend r with
    | none => none
    | some l => if w.use = true then (match l with
        | a :: b :: l' => some ((a + b + 1) :: l')
        | _ => none)
      else if w.thing = true then (match l with
        | a :: l' => some ((a + 1) :: l')
        | _ => none)
      else some (1 :: l)
theorem pend_use {w : Wd} {r : List Wd} {x : List Nat} (h : pend (w :: r) = some x) (u : w.use = true) : ∃ a b l, pend r = some (a :: b :: l) ∧ x = (a + b + 1) :: l := by
  unfold pend at h
  cases e : pend r with
  | none => (rw [e] at h; cases h)
  | some l =>
    rw [e] at h
    simp only [u, if_true] at h
    match l, h with
    | a :: b :: l', h => cases h; exact ⟨a, b, l', rfl, rfl⟩
theorem pend_take {w : Wd} {r : List Wd} {x : List Nat} (h : pend (w :: r) = some x) (u : w.use = false) (t : w.thing = true) : ∃ a l, pend r = some (a :: l) ∧ x = (a + 1) :: l := by
  unfold pend at h
  cases e : pend r with
  | none => (rw [e] at h; cases h)
  | some l =>
    rw [e] at h
    simp only [u, t, if_true, Bool.false_eq_true, if_false] at h
    match l, h with
    | a :: l', h => cases h; exact ⟨a, l', rfl, rfl⟩
theorem pend_name {w : Wd} {r : List Wd} {x : List Nat} (h : pend (w :: r) = some x) (u : w.use = false) (t : w.thing = false) : ∃ l, pend r = some l ∧ x = 1 :: l := by
  unfold pend at h
  cases e : pend r with
  | none => (rw [e] at h; cases h)
  | some l =>
    rw [e] at h
    simp only [u, t, Bool.false_eq_true, if_false] at h
    cases h; exact ⟨l, rfl, rfl⟩
theorem pend_tail {w : Wd} {r : List Wd} {x : List Nat} (h : pend (w :: r) = some x) : ∃ l, pend r = some l := by
  cases u : w.use with
  | true => obtain ⟨a, b, l, e, _⟩ := pend_use h u; exact ⟨_, e⟩
  | false =>
    cases t : w.thing with
    | true => obtain ⟨a, l, e, _⟩ := pend_take h u t; exact ⟨_, e⟩
    | false => obtain ⟨l, e, _⟩ := pend_name h u t; exact ⟨_, e⟩
theorem use_thing {w : Wd} (h : w.use = true) : w.thing = false := by cases w <;> first | rfl | cases h
theorem name_thing {w : Wd} (h : w.name = true) : w.thing = false := by cases w <;> first | rfl | cases h
theorem take_thing {fit : Th → Bool} {w : Wd} (h : w.take fit = true) : w.thing = true := by cases w <;> first | rfl | cases h
theorem cnt_pend {fit : Th → Bool} : ∀ {ws : List Wd} {m : Nat}, cntC fit ws = some m → ∃ l, pend ws = some l ∧ l.length = m ∧ l.sum = ws.length
  | [], m, h => by cases h; exact ⟨[], rfl, rfl, rfl⟩
  | w :: r, m, h => by
    cases e : cntC fit r with
    | none => rw [cntC, e] at h; cases h
    | some k =>
      obtain ⟨l, e1, e2, e3⟩ := cnt_pend e
      rw [cntC, e] at h
      have h : stepC fit w k = some m := h
      unfold stepC at h
      unfold pend
      rw [e1]
      by_cases u : w.use = true
      · rw [if_pos u] at h
        simp only [u, if_true]
        by_cases k2 : k < 2
        · rw [if_pos k2] at h; cases h
        · rw [if_neg k2] at h
          cases h
          match l, e2, e3 with
          | a :: b :: l', e2, e3 =>
            refine ⟨_, rfl, ?_, ?_⟩
            · simp only [List.length_cons] at e2 ⊢; omega
            · simp only [List.sum_cons, List.length_cons] at e3 ⊢; omega
          | [], e2, _ => simp at e2; omega
          | [a], e2, _ => simp at e2; omega
      · rw [if_neg u] at h
        have u : w.use = false := Bool.eq_false_iff.mpr u
        by_cases nm : w.name = true
        · rw [if_pos nm] at h
          cases h
          simp only [u, name_thing nm, Bool.false_eq_true, if_false]
          exact ⟨_, rfl, by rw [List.length_cons, e2], by rw [List.sum_cons, List.length_cons, e3]; omega⟩
        · rw [if_neg nm] at h
          by_cases bad : (decide (k < 1) || !w.take fit) = true
          · rw [if_pos bad] at h; cases h
          · rw [if_neg bad] at h
            cases h
            have tk : w.take fit = true := by
              cases q : w.take fit with
              | true => rfl
              | false => rw [q] at bad; simp at bad
            have k1 : ¬ m < 1 := fun q => bad (by rw [decide_eq_true q]; rfl)
            simp only [u, take_thing tk, if_true, Bool.false_eq_true, if_false]
            match l, e2, e3 with
            | a :: l', e2, e3 =>
              refine ⟨_, rfl, ?_, ?_⟩
              · simpa using e2
              · simp only [List.sum_cons, List.length_cons] at e3 ⊢; omega
            | [], e2, _ => simp at e2; omega
theorem pend_drop : ∀ {ws : List Wd} {x : List Nat}, pend ws = some x → ∀ i, ∃ l, pend (ws.drop i) = some l
  | ws, x, h, 0 => ⟨x, h⟩
  | [], x, h, i + 1 => ⟨[], rfl⟩
  | w :: r, x, h, i + 1 => by
    obtain ⟨l, e⟩ := pend_tail h
    exact pend_drop e i
theorem pend_sum : ∀ {ws : List Wd} {x : List Nat}, pend ws = some x → x.sum = ws.length
  | [], x, h => by cases h; rfl
  | w :: r, x, h => by
    cases u : w.use with
    | true => obtain ⟨a, b, l, e, rfl⟩ := pend_use h u; have := pend_sum e; simp only [List.sum_cons, List.length_cons] at this ⊢; omega
    | false =>
      cases t : w.thing with
      | true => obtain ⟨a, l, e, rfl⟩ := pend_take h u t; have := pend_sum e; simp only [List.sum_cons, List.length_cons] at this ⊢; omega
      | false => obtain ⟨l, e, rfl⟩ := pend_name h u t; have := pend_sum e; simp only [List.sum_cons, List.length_cons] at this ⊢; omega
theorem pend_pos : ∀ {ws : List Wd} {x : List Nat}, pend ws = some x → ∀ a ∈ x, 0 < a
  | [], x, h, a, ha => by cases h; cases ha
  | w :: r, x, h, a, ha => by
    cases u : w.use with
    | true =>
      obtain ⟨a', b, l, e, rfl⟩ := pend_use h u
      rcases List.mem_cons.mp ha with q | q
      · omega
      · exact pend_pos e a (List.mem_cons_of_mem _ (List.mem_cons_of_mem _ q))
    | false =>
      cases t : w.thing with
      | true =>
        obtain ⟨a', l, e, rfl⟩ := pend_take h u t
        rcases List.mem_cons.mp ha with q | q
        · omega
        · exact pend_pos e a (List.mem_cons_of_mem _ q)
      | false =>
        obtain ⟨l, e, rfl⟩ := pend_name h u t
        rcases List.mem_cons.mp ha with q | q
        · omega
        · exact pend_pos e a q
/-- behind the first part -/
theorem pend_skip : ∀ (n : Nat) {ws : List Wd} {a : Nat} {l : List Nat}, ws.length ≤ n → pend ws = some (a :: l) → pend (ws.drop a) = some l
  | _, [], a, l, _, h => by cases h
  | 0, w :: r, a, l, hn, _ => by simp at hn
  | n + 1, w :: r, a, l, hn, h => by
    rw [List.length_cons] at hn
    cases u : w.use with
    | true =>
      obtain ⟨a', b, l', e, q⟩ := pend_use h u
      cases q
      have h1 := pend_skip n (by omega) e
      have h2 := pend_skip n (by rw [List.length_drop]; omega) h1
      rw [List.drop_drop] at h2
      show pend ((w :: r).drop (a' + b + 1)) = _
      rw [List.drop_succ_cons]
      exact h2
    | false =>
      cases t : w.thing with
      | true =>
        obtain ⟨a', l', e, q⟩ := pend_take h u t
        cases q
        show pend ((w :: r).drop (a' + 1)) = _
        rw [List.drop_succ_cons]
        exact pend_skip n (by omega) e
      | false =>
        obtain ⟨l', e, q⟩ := pend_name h u t
        cases q
        exact e
/-- what begins within the first part ends there -/
theorem pend_nest : ∀ (n : Nat) {ws : List Wd} {a : Nat} {l : List Nat}, ws.length ≤ n → pend ws = some (a :: l) → ∀ j, j < a → ∃ b l', pend (ws.drop j) = some (b :: l') ∧ j + b ≤ a
  | _, [], a, l, _, h => by cases h
  | 0, w :: r, a, l, hn, _ => by simp at hn
  | n + 1, w :: r, a, l, hn, h => by
    intro j hj
    rw [List.length_cons] at hn
    cases j with
    | zero => exact ⟨a, l, h, by omega⟩
    | succ j =>
      rw [List.drop_succ_cons]
      cases u : w.use with
      | true =>
        obtain ⟨a', b, l', e, q⟩ := pend_use h u
        cases q
        by_cases c : j < a'
        · obtain ⟨b', l'', e1, e2⟩ := pend_nest n (by omega) e j c
          exact ⟨b', l'', e1, by omega⟩
        · have h1 := pend_skip n (by omega) e
          obtain ⟨b', l'', e1, e2⟩ := pend_nest n (by rw [List.length_drop]; omega) h1 (j - a') (by omega)
          rw [List.drop_drop, show a' + (j - a') = j by omega] at e1
          exact ⟨b', l'', e1, by omega⟩
      | false =>
        cases t : w.thing with
        | true =>
          obtain ⟨a', l', e, q⟩ := pend_take h u t
          cases q
          obtain ⟨b', l'', e1, e2⟩ := pend_nest n (by omega) e j (by omega)
          exact ⟨b', l'', e1, by omega⟩
        | false =>
          obtain ⟨l', e, q⟩ := pend_name h u t
          cases q
          omega
/-- words that make just one part -/
def Whole (ws : List Wd) : Prop := pend ws = some [ws.length]
theorem whole_of {fit : Th → Bool} {ws : List Wd} (h : progB fit ws = true) : Whole ws := by
  obtain ⟨l, e1, e2, e3⟩ := cnt_pend (of_decide_eq_true h)
  match l, e2, e3 with
  | [a], _, e3 =>
    have : a = ws.length := by simpa using e3
    subst this
    exact e1
/-- the place behind the part at a place -/
def ofE (ws : List Wd) (i : Nat) : Nat := i + ((pend (ws.drop i)).getD []).headD 0
theorem ofE_eq {ws : List Wd} {i a : Nat} {l : List Nat} (h : pend (ws.drop i) = some (a :: l)) : ofE ws i = i + a := by unfold ofE; rw [h]; rfl
section
variable {ws : List Wd}
theorem Whole.at (h : Whole ws) {i : Nat} (hi : i < ws.length) : ∃ a l, pend (ws.drop i) = some (a :: l) ∧ 0 < a ∧ i + a ≤ ws.length ∧ ofE ws i = i + a := by
  obtain ⟨b, l, e, le⟩ := pend_nest _ (Nat.le_refl _) h i hi
  exact ⟨b, l, e, pend_pos e b List.mem_cons_self, le, ofE_eq e⟩
theorem Whole.lt (h : Whole ws) {i : Nat} (hi : i < ws.length) : i < ofE ws i ∧ ofE ws i ≤ ws.length := by
  obtain ⟨a, l, _, a0, le, e⟩ := h.at hi
  omega
theorem Whole.nest (h : Whole ws) {i j : Nat} (hi : i < ws.length) (hij : i ≤ j) (hj : j < ofE ws i) : ofE ws j ≤ ofE ws i := by
  obtain ⟨a, l, e, a0, le, ee⟩ := h.at hi
  obtain ⟨b, l', e1, e2⟩ := pend_nest _ (Nat.le_refl _) e (j - i) (by omega)
  rw [List.drop_drop, show i + (j - i) = j by omega] at e1
  rw [ofE_eq e1, ee]
  omega
theorem Whole.drop_cons (hi : i < ws.length) : ws.drop i = ws[i] :: ws.drop (i + 1) := List.drop_eq_getElem_cons hi
theorem Whole.name (h : Whole ws) {i : Nat} {w : Wd} (hw : ws[i]? = some w) (u : w.use = false) (t : w.thing = false) : ofE ws i = i + 1 := by
  have hi := (List.getElem?_eq_some_iff.mp hw).1
  have ew := (List.getElem?_eq_some_iff.mp hw).2
  obtain ⟨a, l, e, _, _, ee⟩ := h.at hi
  have e' := e
  rw [List.drop_eq_getElem_cons hi, ew] at e'
  obtain ⟨l', _, q⟩ := pend_name e' u t
  cases q
  exact ee
theorem Whole.take (h : Whole ws) {i : Nat} {w : Wd} (hw : ws[i]? = some w) (t : w.thing = true) : i + 1 < ws.length ∧ ofE ws i = ofE ws (i + 1) := by
  have hi := (List.getElem?_eq_some_iff.mp hw).1
  have ew := (List.getElem?_eq_some_iff.mp hw).2
  have u : w.use = false := by cases w <;> first | rfl | cases t
  obtain ⟨a, l, e, _, le, ee⟩ := h.at hi
  have e' := e
  rw [List.drop_eq_getElem_cons hi, ew] at e'
  obtain ⟨a', l', e1, q⟩ := pend_take e' u t
  cases q
  have := pend_pos e1 a' List.mem_cons_self
  rw [ofE_eq e1, ee]
  omega
theorem Whole.use (h : Whole ws) {i : Nat} {w : Wd} (hw : ws[i]? = some w) (u : w.use = true) : i + 1 < ws.length ∧ ofE ws (i + 1) < ws.length ∧ ofE ws i = ofE ws (ofE ws (i + 1)) := by
  have hi := (List.getElem?_eq_some_iff.mp hw).1
  have ew := (List.getElem?_eq_some_iff.mp hw).2
  obtain ⟨a, l, e, _, le, ee⟩ := h.at hi
  have e' := e
  rw [List.drop_eq_getElem_cons hi, ew] at e'
  obtain ⟨a', b, l', e1, q⟩ := pend_use e' u
  cases q
  have p1 := pend_pos e1 a' List.mem_cons_self
  have p2 := pend_pos e1 b (List.mem_cons_of_mem _ List.mem_cons_self)
  have e2 := pend_skip _ (Nat.le_refl _) e1
  rw [List.drop_drop] at e2
  rw [ofE_eq e1, ofE_eq e2, ee]
  omega
end
/-- the ends of the parts that wait, the next one first -/
def stk : Nat → List Nat → List Nat
  | _, [] => []
  | i, a :: l => (i + a) :: stk (i + a) l
end LG

set_option Elab.async false
set_option linter.all false
set_option maxRecDepth 100000
namespace LG
open PySem L2
/-- a text against a text or a tuple -/
def eqW (K : PySem.W.Frag) (x y : V) (H : Hp) (b : Bool) : Prop := (∃ i j, x = .str i ∧ y = .str j ∧ b = decide (V.str i = V.str j)) ∨ (∃ a l j, x = .ref a ∧ SqT K H a l ∧ y = .str j ∧ b = false) ∨ (∃ a l j, y = .ref a ∧ SqT K H a l ∧ x = .str j ∧ b = false)
def rEqW (K : PySem.W.Frag) : R2 := fun x y H Q => ∃ b, eqW K x y H b ∧ Q (.bl b) H
def rNeW (K : PySem.W.Frag) : R2 := fun x y H Q => ∃ b, eqW K x y H b ∧ Q (.bl (!b)) H
section
variable {X : Cx}
theorem op_eqW (hu : X.A.units < cLine) : OpR X (compareOp .Eq) (rEqW X.K) := by
  (intro pins s σ H x y v u Q I rx ry h)
  obtain ⟨b, h, q⟩ := h
  rcases h with ⟨i, j, rfl, rfl, rfl⟩ | ⟨a, l, j, rfl, hs, rfl, rfl⟩ | ⟨a, l, j, rfl, hs, rfl, rfl⟩
  · exact op_eq pins s σ H _ _ v u Q I rx ry ⟨rfl, q⟩
  · (cases (show v = Value.ref a from rx))
    obtain ⟨t', rfl⟩ := ry
    obtain ⟨its, _, p, _⟩ := I.tuple hs
    exact SeqAt.RcAt.tuple_str j t' p hu _ _ _ _ ⟨.bl false, H, I, rfl, q⟩
  · cases (show u = Value.ref a from ry)
    obtain ⟨t', rfl⟩ := rx
    obtain ⟨its, _, p, _⟩ := I.tuple hs
    exact SeqAt.RcAt.str_tuple j t' p hu _ _ _ _ ⟨.bl false, H, I, rfl, q⟩
theorem op_neW (hu : X.A.units < cLine) : OpR X (compareOp .NotEq) (rNeW X.K) := by
  (intro pins s σ H x y v u Q I rx ry h)
  obtain ⟨b, h, q⟩ := h
  rcases h with ⟨i, j, rfl, rfl, rfl⟩ | ⟨a, l, j, rfl, hs, rfl, rfl⟩ | ⟨a, l, j, rfl, hs, rfl, rfl⟩
  · exact op_ne pins s σ H _ _ v u Q I rx ry ⟨rfl, q⟩
  · (cases (show v = Value.ref a from rx))
    obtain ⟨t', rfl⟩ := ry
    obtain ⟨its, _, p, _⟩ := I.tuple hs
    exact SeqAt.RcNeAt.tuple_str j t' p hu _ _ _ _ ⟨.bl true, H, I, rfl, q⟩
  · cases (show u = Value.ref a from ry)
    obtain ⟨t', rfl⟩ := rx
    obtain ⟨its, _, p, _⟩ := I.tuple hs
    exact SeqAt.RcNeAt.str_tuple j t' p hu _ _ _ _ ⟨.bl true, H, I, rfl, q⟩
end
theorem WdAt.eqUse {K : PySem.W.Frag} {H : Hp} {w : Wd} {v : V} (h : WdAt K H w v) (hw : w ≠ .no) : eqW K v (.str "@") H w.use := by
  cases w with
  | st z => obtain ⟨rfl, _⟩ := h; exact .inl ⟨z, _, rfl, rfl, by unfold Wd.use; rw [Bool.eq_iff_iff]; simp⟩
  | pr o t => obtain ⟨a, x, y, rfl, ha, _⟩ := h; exact .inr (.inl ⟨a, _, _, rfl, SqT.of ha, rfl, rfl⟩)
  | no => exact absurd rfl hw
end LG

set_option Elab.async false
set_option linter.all false
set_option maxRecDepth 100000
set_option maxHeartbeats 4100000
namespace LG
open PySem L2
/-- the places behind parts, as far as they are told from behind -/
def enL (ws : List Wd) (k : Nat) : List V := (List.range ws.length).map fun j => V.int (if k ≤ j then (ofE ws j : Int) else 0)
theorem enL_len {ws : List Wd} {k : Nat} : (enL ws k).length = ws.length := by unfold enL; rw [List.length_map, List.length_range]
theorem enL_get {ws : List Wd} {k j : Nat} (h : j < ws.length) (hk : k ≤ j) : (enL ws k)[j]? = some (V.int (ofE ws j : Int)) := by
  unfold enL
  rw [List.getElem?_map, List.getElem?_range h, Option.map_some, if_pos hk]
theorem enL_top {ws : List Wd} : List.replicate ws.length (V.int 0) = enL ws ws.length := by
  unfold enL
  apply List.ext_getElem?
  intro j
  by_cases h : j < ws.length
  · rw [List.getElem?_replicate, if_pos h, List.getElem?_map, List.getElem?_range h, Option.map_some, if_neg (by omega)]
  · rw [List.getElem?_eq_none (by rw [List.length_replicate]; omega), List.getElem?_eq_none (by rw [List.length_map, List.length_range]; omega)]
theorem enL_set {ws : List Wd} {k : Nat} (h : k < ws.length) : (enL ws (k + 1)).set k (V.int (ofE ws k : Int)) = enL ws k := by
  unfold enL
  apply List.ext_getElem?
  intro j
  by_cases hj : j < ws.length
  · rw [List.getElem?_map, List.getElem?_range hj, Option.map_some]
    by_cases e : k = j
    · subst e
      rw [List.getElem?_set_self (by rw [List.length_map, List.length_range]; exact h), if_pos (Nat.le_refl _)]
    · rw [List.getElem?_set_ne e, List.getElem?_map, List.getElem?_range hj, Option.map_some]
      by_cases q : k + 1 ≤ j
      · rw [if_pos q, if_pos (by omega)]
      · rw [if_neg q, if_neg (by omega)]
  · rw [List.getElem?_eq_none (by rw [List.length_set, List.length_map, List.length_range]; omega), List.getElem?_eq_none (by rw [List.length_map, List.length_range]; omega)]
/-- words one of which is none -/
def Wds (ws : List Wd) : Prop := ∀ w ∈ ws, w ≠ .no
theorem words_of {fit : Th → Bool} : ∀ {ws : List Wd} {m : Nat}, cntC fit ws = some m → Wds ws
  | [], _, _ => fun w h => by cases h
  | w :: r, m, h => by
    cases e : cntC fit r with
    | none => rw [cntC, e] at h; cases h
    | some k =>
      rw [cntC, e] at h
      have h : stepC fit w k = some m := h
      intro x hx
      obtain rfl | hx := List.mem_cons.mp hx
      · rintro rfl
        unfold stepC at h
        rw [if_neg (by intro z; cases z), if_neg (by intro z; cases z), if_pos (by show (_ || !false) = true; rw [Bool.not_false, Bool.or_true])] at h
        cases h
      · exact words_of e x hx
def spEnds (K : PySem.W.Frag) : Sp := fun vs H Q _ => ∃ (v : V) (ws : List Wd), vs = [v] ∧ PgAt K H ws v ∧ Wds ws ∧ Whole ws ∧ ∀ l H', H l = none → Same H H' → H' l = some (.lst (enL ws 0)) → Q (.ref l) H'
end LG

set_option Elab.async false
set_option linter.all false
set_option maxRecDepth 100000
namespace LG
open PySem L2
/-! ### to which take a name belongs: mathematics alone -/
/-- a word of a program -/
def Wok : Wd → Prop
  | .st _ => True
  | .pr (some z) _ => z ≠ "@"
  | _ => False
theorem name_at : nameB "@" = false := by decide +kernel
theorem nameB_ne {z : Str} (h : nameB z = true) : z ≠ "@" := by
  rintro rfl
  rw [name_at] at h; cases h
theorem Wok.no {w : Wd} (h : Wok w) : w ≠ .no := by rintro rfl; exact h
def Woks (ws : List Wd) : Prop := ∀ w ∈ ws, Wok w
theorem Woks.wds {ws : List Wd} (h : Woks ws) : Wds ws := fun w hw => (h w hw).no
theorem woks_of {fit : Th → Bool} : ∀ {ws : List Wd} {m : Nat}, cntC fit ws = some m → Woks ws
  | [], _, _ => fun w h => by cases h
  | w :: r, m, h => by
    cases e : cntC fit r with
    | none => rw [cntC, e] at h; cases h
    | some k =>
      rw [cntC, e] at h
      have h : stepC fit w k = some m := h
      intro x hx
      obtain rfl | hx := List.mem_cons.mp hx
      · unfold stepC at h
        by_cases u : x.use = true
        · cases x with
          | st z => trivial
          | pr o t => cases u
          | no => cases u
        · rw [if_neg u] at h
          by_cases n : x.name = true
          · cases x with
            | st z => trivial
            | pr o t => cases n
            | no => cases n
          · rw [if_neg n] at h
            by_cases b : (decide (k < 1) || !x.take fit) = true
            · rw [if_pos b] at h; cases h
            · have tk : x.take fit = true := by
                cases q : x.take fit with
                | true => rfl
                | false => rw [q] at b; simp at b
              cases x with
              | st z => cases tk
              | no => cases tk
              | pr o t =>
                cases o with
                | none => cases tk
                | some z => exact nameB_ne (Bool.and_eq_true_iff.mp tk).1
      · exact woks_of e x hx
def isT (ws : List Wd) (t : Nat) : Bool := match ws[t]? with
  | some w => w.thing
  | none => false
def nmOf (ws : List Wd) (t : Nat) : Option Str := match ws[t]? with
  | some (.pr o _) => o
  | _ => none
/-- the takes in whose bodies a place stands -/
def arnd (ws : List Wd) (p : Nat) : List Nat := (List.range p).filter fun t => isT ws t && decide (p < ofE ws t)
def arPre (ws : List Wd) (p : Nat) : List Nat := (List.range p).filter fun t => isT ws t && decide (p ≤ ofE ws t)
def byNm (ws : List Wd) (z : Str) (L : List Nat) : List Nat := L.filter fun t => decide (nmOf ws t = some z)
/-- the place of the take to which the name at a place belongs -/
def own (ws : List Wd) (p : Nat) : Option Nat := match ws[p]? with
  | some (.st z) => (byNm ws z (arnd ws p)).getLast?
  | _ => none
theorem isT_lt {ws : List Wd} {t : Nat} (h : isT ws t = true) : t < ws.length := by
  unfold isT at h
  cases e : ws[t]? with
  | none => (rw [e] at h; cases h)
  | some w => exact (List.getElem?_eq_some_iff.mp e).1
theorem isT_pr {ws : List Wd} (hk : Woks ws) {t : Nat} (h : isT ws t = true) : ∃ z k, ws[t]? = some (.pr (some z) k) ∧ z ≠ "@" ∧ nmOf ws t = some z := by
  unfold isT at h
  unfold nmOf
  cases e : ws[t]? with
  | none => (rw [e] at h; cases h)
  | some w =>
    rw [e] at h
    have ok := hk w (List.mem_of_getElem? e)
    cases w with
    | st z => cases h
    | no => cases h
    | pr o k =>
      cases o with
      | none => exact absurd ok id
      | some z => exact ⟨z, k, rfl, ok, rfl⟩
theorem arPre_zero {ws : List Wd} : arPre ws 0 = [] := rfl
theorem mem_arPre {ws : List Wd} {p t : Nat} : t ∈ arPre ws p ↔ t < p ∧ isT ws t = true ∧ p ≤ ofE ws t := by
  unfold arPre
  rw [List.mem_filter, List.mem_range, Bool.and_eq_true, decide_eq_true_eq]
theorem mem_arnd {ws : List Wd} {p t : Nat} : t ∈ arnd ws p ↔ t < p ∧ isT ws t = true ∧ p < ofE ws t := by
  unfold arnd
  rw [List.mem_filter, List.mem_range, Bool.and_eq_true, decide_eq_true_eq]
theorem arnd_pre {ws : List Wd} {p : Nat} : arnd ws p = (arPre ws p).filter fun t => decide (p < ofE ws t) := by
  unfold arnd arPre
  rw [List.filter_filter]
  congr 1
  funext t
  rw [Bool.eq_iff_iff]
  (simp only [Bool.and_eq_true, decide_eq_true_eq])
  constructor
  · rintro ⟨a, b⟩; exact ⟨b, a, by omega⟩
  · rintro ⟨a, b, c⟩; exact ⟨b, a⟩
theorem arPre_succ {ws : List Wd} (wh : Whole ws) {p : Nat} (hp : p < ws.length) : arPre ws (p + 1) = if isT ws p = true then arnd ws p ++ [p] else arnd ws p := by
  have e : (List.range p).filter (fun t => isT ws t && decide (p + 1 ≤ ofE ws t)) = arnd ws p := by
    unfold arnd
    rfl
  unfold arPre
  rw [List.range_succ, List.filter_append, e]
  have q := (wh.lt hp).1
  by_cases t : isT ws p = true
  · rw [if_pos t]
    simp [t]
    omega
  · rw [if_neg t]
    simp [t]
theorem arPre_lt {ws : List Wd} {p : Nat} : (arPre ws p).Pairwise (· < ·) := List.Pairwise.sublist List.filter_sublist List.pairwise_lt_range
theorem arnd_lt {ws : List Wd} {p : Nat} : (arnd ws p).Pairwise (· < ·) := List.Pairwise.sublist List.filter_sublist List.pairwise_lt_range
theorem pop_done {ws : List Wd} (wh : Whole ws) {p : Nat} {L S : List Nat} (h : L ++ S = arPre ws p) (hS : ∀ t ∈ S, ofE ws t = p) (hL : ∀ t, L.getLast? = some t → ofE ws t ≠ p) : L = arnd ws p := by
  rw [arnd_pre, ← h, List.filter_append]
  have e1 : S.filter (fun t => decide (p < ofE ws t)) = [] := by
    rw [List.filter_eq_nil_iff]
    intro t ht
    rw [hS t ht]; simp
  have e2 : L.filter (fun t => decide (p < ofE ws t)) = L := by
    rw [List.filter_eq_self]
    intro t ht
    apply decide_eq_true
    have mt := mem_arPre.mp (show t ∈ arPre ws p by rw [← h]; exact List.mem_append_left _ ht)
    rcases nil_or_snoc L with rfl | ⟨L', u, rfl⟩
    · cases ht
    · have hu := hL u (by simp)
      have mu := mem_arPre.mp (show u ∈ arPre ws p by rw [← h]; simp)
      have srt := arPre_lt (ws := ws) (p := p)
      rw [← h] at srt
      have tu : t ≤ u := by
        rcases List.mem_append.mp ht with q | q
        · have := (List.pairwise_append.mp (List.pairwise_append.mp srt).1).2.2 t q u List.mem_cons_self
          omega
        · rw [List.mem_singleton] at q; omega
      by_cases c : ofE ws t = p
      · have := wh.nest (isT_lt mt.2.1) tu (by omega)
        omega
      · omega
  rw [e1, e2, List.append_nil]
theorem byNm_snoc {ws : List Wd} {z : Str} {L : List Nat} {t : Nat} : byNm ws z (L ++ [t]) = if nmOf ws t = some z then byNm ws z L ++ [t] else byNm ws z L := by
  unfold byNm
  rw [List.filter_append]
  by_cases e : nmOf ws t = some z
  · rw [if_pos e]; simp [e]
  · rw [if_neg e]; simp [e]
theorem own_some {ws : List Wd} {p t : Nat} (h : own ws p = some t) : ∃ z, ws[p]? = some (.st z) ∧ nmOf ws t = some z ∧ t < p ∧ isT ws t = true ∧ p < ofE ws t := by
  unfold own at h
  cases e : ws[p]? with
  | none => (rw [e] at h; cases h)
  | some w =>
    rw [e] at h
    cases w with
    | pr o k => cases h
    | no => cases h
    | st z =>
      have h : (byNm ws z (arnd ws p)).getLast? = some t := h
      have m := List.mem_of_getLast? h
      unfold byNm at m
      rw [List.mem_filter, decide_eq_true_eq] at m
      exact ⟨z, rfl, m.2, mem_arnd.mp m.1⟩
theorem own_use {ws : List Wd} (hk : Woks ws) {p : Nat} (h : ws[p]? = some (.st "@")) : own ws p = none := by
  cases e : own ws p with
  | none => rfl
  | some t =>
    obtain ⟨z, e1, e2, _, e3, _⟩ := own_some e
    rw [h] at e1
    cases e1
    obtain ⟨z', k, _, n, e4⟩ := isT_pr hk e3
    rw [e2] at e4
    cases e4
    exact absurd rfl n
end LG

set_option Elab.async false
set_option linter.all false
set_option maxRecDepth 100000
set_option maxHeartbeats 4100000
namespace LG
open PySem L2
/-- words at a tuple that are a program with kinds of any size -/
structure Prog (ws : List Wd) : Prop where
  ok : progB Th.any ws = true
theorem Prog.whole {ws : List Wd} (h : Prog ws) : Whole ws := whole_of h.ok
theorem Prog.woks {ws : List Wd} (h : Prog ws) : Woks ws := woks_of (of_decide_eq_true h.ok)
end LG

set_option Elab.async false
set_option linter.all false
set_option maxRecDepth 100000
set_option maxHeartbeats 4100000
namespace LG
open PySem L2
namespace Th
def depth : Th → Nat
  | .pr l r => max l.depth r.depth + 1
  | _ => 0
/-- the lefts of a thing, and what ends it -/
def lefts : Th → List Th
  | .pr l r => l :: r.lefts
  | _ => []
def fin : Th → Th
  | .pr _ r => r.fin
  | t => t
theorem fin_letter : ∀ {t : Th}, t.any = true → t.fin.letter = true
  | .pr l r, h => by
    have h : (l.any && r.any) = true := h
    rw [Bool.and_eq_true] at h
    exact fin_letter (t := r) h.2
  | .int i, h => h
  | .bl b, h => by cases h
  | .non, h => by cases h
  | .tup, h => by cases h
theorem lefts_any : ∀ {t : Th}, t.any = true → ∀ x ∈ t.lefts, x.any = true
  | .pr l r, h, x, hx => by
    have h : (l.any && r.any) = true := h
    rw [Bool.and_eq_true] at h
    obtain rfl | hx := List.mem_cons.mp hx
    · exact h.1
    · exact lefts_any (t := r) h.2 x hx
theorem lefts_size : ∀ {t : Th} {x : Th}, x ∈ t.lefts → x.size < t.size
  | .pr l r, x, hx => by
    have e : (Th.pr l r).size = l.size + r.size + 1 := rfl
    obtain rfl | hx := List.mem_cons.mp hx
    · omega
    · have := lefts_size hx; omega
theorem lefts_depth : ∀ {t : Th} {x : Th}, x ∈ t.lefts → x.depth < t.depth
  | .pr l r, x, hx => by
    have e : (Th.pr l r).depth = max l.depth r.depth + 1 := rfl
    obtain rfl | hx := List.mem_cons.mp hx
    · omega
    · have := lefts_depth hx; omega
theorem lefts_len : ∀ {t : Th}, t.lefts.length ≤ t.depth
  | .pr l r => by
    have := lefts_len (t := r)
    show r.lefts.length + 1 ≤ max l.depth r.depth + 1
    omega
  | .int _ => Nat.le_refl _
  | .bl _ => Nat.le_refl _
  | .non => Nat.le_refl _
  | .tup => Nat.le_refl _
end Th
/-- what a def hands back that draws: a thing beside the hand -/
def Back (K : PySem.W.Frag) (H : Hp) (p c : Addr) (cells : List Int) (G : Th → Prop) (Q : VK) : Prop := ∀ (t : Th) (v : V) (H' : Hp), HandAt H' p c cells → Same (del H p) (del H' p) → ThAt K (del H' p) t v → G t → Q v H'
abbrev sKd : Stmt := top 40
def spKd (K : PySem.W.Frag) (d : Nat) : Sp := fun vs H Q _ => ∃ (p c : Addr) (cells : List Int), vs = [.ref p, .int (d : Int)] ∧ HandAt H p c cells ∧ Back K H p c cells (fun t => t.any = true ∧ t.depth ≤ d ∧ t.size < 2 ^ (d + 1)) Q
section
variable {P : Program} {w : World} {K : PySem.W.Frag} {mg : Str → Option Value} {base : Heap}
theorem scKd : FnScope ["_law_hand_here", "_law_deep_here"] ["_law_hand_here", "_law_deep_here"] (defScope sKd) := ⟨rfl, rfl, rfl, by decide +kernel, rfl, by decide +kernel, by decide +kernel⟩
theorem letter_small {r : Int} (h0 : 0 ≤ r) (h : r < 3) : (Th.int r).any = true ∧ (Th.int r).depth = 0 ∧ (Th.int r).size = 1 := by
  refine ⟨?_, rfl, rfl⟩
  show (decide (0 ≤ r) && decide (r ≤ 25)) = true
  rw [decide_eq_true h0, decide_eq_true (by omega)]
  rfl
theorem ok_kd {f fD : Addr} {fd fdD : FuncData} (F : Fn K mg "_law_kind" sKd ["_law_hand_here", "_law_deep_here"] f fd) (ND : Fn K mg "_law_draw" sDraw ["_law_hand_here", "_law_many"] fD fdD) (T : TxB mg) : ∀ d : Nat, FnOk P w K mg base CX0 (d + 2) f fd ["_law_hand_here", "_law_deep_here"] (spKd K d) := by
  intro d
  induction d with
  | zero =>
    have GD : FnOk P w K mg base CX0 1 fD fdD ["_law_hand_here", "_law_many"] spDraw := ok_draw ND.F T
    refine F.F.ok scKd (fun vs H Q E h => ?_) (fun cdv A outer s H vs Q E hr h => ?_)
    · obtain ⟨p, c, cells, rfl, _⟩ := h
      rfl
    · obtain ⟨p, c, cells, rfl, hA, k⟩ := h
      refine ⟨_, pss_cons (ps_if (PW.pt (pw_or (pt_cmpR op_eq (pv 1) pe_int (nomark _)) (pw_or1 (pt_cmpR op_eq (pe_call GD hr (by rfl) ND.m ND.F.kp ND.b .nil pass0 (pa_cons (pv 0) (pa_cons pe_int pa_nil))) pe_int (nomark _)))))
          (pss_one (ps_ret (pe_call GD hr (by rfl) ND.m ND.F.kp ND.b .nil pass0 (pa_cons (pv 0) (pa_cons (pe_op op_add pe_int (pe_callTy call_int1 (by rfl) T.int (by decide +kernel) (pa_cons (pe_cmpR op_eq (pe_call GD hr (by rfl) ND.m ND.F.kp ND.b .nil pass0 (pa_cons (pv 0) (pa_cons pe_int pa_nil))) pe_int (nomark _)) pa_nil))) pa_nil))))) pss_nil)
        pss_never, ?_⟩
      refine ⟨_, rfl, rfl, _, rfl, ?_⟩
      refine ifT (by decide) ?_
      refine ifT (by decide) ?_
      refine ⟨_, rfl, _, rfl, p, c, cells, 8, rfl, hA, by decide, by decide, fun r1 H1 z0 z8 hA1 o1 => ?_⟩
      refine ⟨rfl, .inr ⟨_, rfl, _, _, rfl, rfl, ?_⟩⟩
      refine ⟨p, c, cells, _, rfl, hA1, by split <;> decide, by split <;> decide, fun r2 H2 z0' z3 hA2 o2 => ?_⟩
      have r3 : r2 < 3 := by split at z3 <;> omega
      obtain ⟨q1, q2, q3⟩ := letter_small z0' r3
      exact k (.int r2) _ H2 hA2 (del_off fun b hb => (o2 b hb).trans (o1 b hb)) rfl ⟨q1, by rw [q2]; exact Nat.zero_le _, by rw [q3]; decide⟩
  | succ d G =>
    have GD : FnOk P w K mg base CX0 1 fD fdD ["_law_hand_here", "_law_many"] spDraw := ok_draw ND.F T
    refine F.F.ok scKd (fun vs H Q E h => ?_) (fun cdv A outer s H vs Q E hr h => ?_)
    · obtain ⟨p, c, cells, rfl, _⟩ := h
      rfl
    · obtain ⟨p, c, cells, rfl, hA, k⟩ := h
      have hr1 := hr.mono (show 1 ≤ d + 1 + 1 by omega)
      refine ⟨_, pss_cons (ps_if (PW.pt (pw_or (pt_cmpR op_eq (pv 1) pe_int (nomark _)) (pw_or1 (pt_cmpR op_eq (pe_call GD hr1 (by rfl) ND.m ND.F.kp ND.b .nil pass0 (pa_cons (pv 0) (pa_cons pe_int pa_nil))) pe_int (nomark _)))))
          (pss_one (ps_ret (pe_call GD hr1 (by rfl) ND.m ND.F.kp ND.b .nil pass0 (pa_cons (pv 0) (pa_cons (pe_op op_add pe_int (pe_callTy call_int1 (by rfl) T.int (by decide +kernel) (pa_cons (pe_cmpR op_eq (pe_call GD hr1 (by rfl) ND.m ND.F.kp ND.b .nil pass0 (pa_cons (pv 0) (pa_cons pe_int pa_nil))) pe_int (nomark _)) pa_nil))) pa_nil))))) pss_nil)
        (pss_one (ps_ret (pe_tup (pa_cons (pe_call G hr (by rfl) F.m F.F.kp F.b .nil pass0 (pa_cons (pv 0) (pa_cons (pe_op op_sub (pv 1) pe_int) pa_nil))) (pa_cons (pe_call G hr (by rfl) F.m F.F.kp F.b .nil pass0 (pa_cons (pv 0) (pa_cons (pe_op op_sub (pv 1) pe_int) pa_nil))) pa_nil))))), ?_⟩
      have e1 : decide (V.int ((d + 1 : Nat) : Int) = V.int 0) = false := decide_eq_false fun z => by have := V.int.inj z; omega
      have ed : ((d + 1 : Nat) : Int) - 1 = (d : Int) := by omega
      refine ⟨_, rfl, rfl, _, rfl, ?_⟩
      refine ifF e1 ?_
      refine ⟨_, rfl, p, c, cells, 3, rfl, hA, by decide, by decide, fun r0 H0 z0 z3 hA0 o0 => ?_⟩
      refine ⟨rfl, _, rfl, ?_⟩
      refine ite2 (fun _ => ?_) (fun _ => ?_)
      · refine ⟨_, rfl, _, rfl, p, c, cells, 8, rfl, hA0, by decide, by decide, fun r1 H1 z0 z8 hA1 o1 => ?_⟩
        refine ⟨rfl, .inr ⟨_, rfl, _, _, rfl, rfl, ?_⟩⟩
        refine ⟨p, c, cells, _, rfl, hA1, by split <;> decide, by split <;> decide, fun r2 H2 z0' z3 hA2 o2 => ?_⟩
        have r3 : r2 < 3 := by split at z3 <;> omega
        obtain ⟨q1, q2, q3⟩ := letter_small z0' r3
        exact k (.int r2) _ H2 hA2 (del_off fun b hb => ((o2 b hb).trans (o1 b hb)).trans (o0 b hb)) rfl ⟨q1, by rw [q2]; exact Nat.zero_le _, by rw [q3]; exact Nat.one_lt_two_pow (by omega)⟩
      · refine ⟨_, rfl, _, rfl, _, _, rfl, rfl, p, c, cells, (by show [V.ref p, V.int (((d + 1 : Nat) : Int) - 1)] = _; rw [ed]), hA0, fun t1 v1 H1 hA1 s1 th1 g1 => ?_⟩
        refine ⟨_, rfl, _, rfl, _, _, rfl, rfl, p, c, cells, (by show [V.ref p, V.int (((d + 1 : Nat) : Int) - 1)] = _; rw [ed]), hA1, fun t2 v2 H2 hA2 s2 th2 g2 => ?_⟩
        refine ⟨(by show 2 ≤ sizeLine; decide), fun q hq => ?_⟩
        have a1 := same_new (o := .tup [v1, v2]) (same_refl H2) hq
        have hqp := hA2.fresh hq
        refine k (.pr t1 t2) _ _ (hA2.same a1) (same_trans (del_off o0) (same_trans s1 (same_trans s2 (del_same_of a1)))) ⟨q, v1, v2, rfl, by rw [del_ne hqp]; exact upd_same, (th1.same s2).same (del_same_of a1), th2.same (del_same_of a1)⟩ ⟨?_, ?_, ?_⟩
        · show (t1.any && t2.any) = true
          rw [g1.1, g2.1]; rfl
        · show max t1.depth t2.depth + 1 ≤ d + 1
          have := g1.2.1
          have := g2.2.1
          omega
        · show t1.size + t2.size + 1 < 2 ^ (d + 1 + 1)
          have h1 := g1.2.2
          have h2 := g2.2.2
          have e : (2 : Nat) ^ (d + 1 + 1) = 2 ^ (d + 1) + 2 ^ (d + 1) := by rw [Nat.pow_succ]; omega
          omega
abbrev sLEnds : Stmt := top 41
def spLEnds (K : PySem.W.Frag) : Sp := fun vs H Q _ => ∃ (v : V) (t : Th) (G : Hp), vs = [v] ∧ ThAt K G t v ∧ Same G H ∧ t.size ≤ 10000 ∧ t.any = true ∧
  ∀ (ps : List (Th × V)) (e : V) (p q : Addr) (H' : Hp), ps.map (·.1) = t.lefts → (∀ s ∈ ps, ThAt K G s.1 s.2) → ThAt K G t.fin e → Same H H' → H p = none → H q = none → H' p = some (.tup [.ref q, e]) → H' q = some (.lst (ps.map (·.2))) → Q (.ref p) H'
theorem scLEnds : FnScope ["_law_kind_here", "_law_found"] ["_law_kind_here"] (defScope sLEnds) := ⟨rfl, rfl, rfl, by decide +kernel, rfl, by decide +kernel, by decide +kernel⟩
theorem ok_lends {f : Addr} {fd : FuncData} (F : Fn K mg "_law_ends" sLEnds ["_law_kind_here"] f fd) (T : TxB mg) (T2 : TxD mg) : FnOk P w K mg base CX0 1 f fd ["_law_kind_here"] (spLEnds K) := by
  refine F.F.ok scLEnds (fun vs H Q E h => ?_) (fun cdv A outer s H vs Q E hr h => ?_)
  · obtain ⟨v, t, G, rfl, _⟩ := h
    rfl
  · obtain ⟨v, t, G, rfl, hv, sG, hz, ha0, kq⟩ := h
    have nd := scLEnds.nd
    refine ⟨_, pss_cons (ps_set (i := 1) nd rfl (Or.inl rfl) (pe_lst pa_nil))
      (pss_cons (ps_while PassesOwn.never (pt_val (pe_callB call_isi (by rfl) T.isinstance (by decide +kernel) (pa_cons (pv 0) (pa_cons (pe_bltn (v := .ty "tuple") (by rfl) T2.tuple (by decide +kernel) rfl) pa_nil))))
        (pss_cons (ps_expr (pe_bm PySem.F.plainAttrs_list PySem.F.slot_list_append PySem.F.type_list_append mt_append (pv 1) (pa_cons (pe_ix ix_tup (pv 0) pe_int (fun _ _ => rfl)) pa_nil)))
        (pss_one (ps_set (i := 0) nd rfl (Or.inl rfl) (pe_ix ix_tup (pv 0) pe_int (fun _ _ => rfl))))))
      (pss_one (ps_ret (pe_tup (pa_cons (pv 1) (pa_cons (pv 0) pa_nil)))))), ?_⟩
    refine ⟨(by show 0 ≤ sizeLine; decide), fun fl hfl => ?_⟩
    have gfl : G fl = none := same_none sG hfl
    refine ⟨fun m σ H' => ∃ (t' : Th) (v' : V) (ps : List (Th × V)), m = t'.size ∧ σ = [some v', some (.ref fl)] ∧ Same H H' ∧ H' fl = some (.lst (ps.map (·.2))) ∧ ThAt K G t' v' ∧ t'.any = true ∧ ps.map (·.1) ++ t'.lefts = t.lefts ∧ t'.fin = t.fin ∧ (∀ s ∈ ps, ThAt K G s.1 s.2) ∧ ps.length + t'.size ≤ t.size,
      ⟨_, t, v, [], rfl, rfl, same_new (same_refl H) hfl, upd_same, hv, ha0, rfl, rfl, (fun s h => by cases h), by simp⟩, ?_⟩
    rintro m σ H' ⟨t', v', ps, rfl, rfl, hs, hl, hv', ha', e1, e2, h3, h4⟩
    obtain ⟨tv, ty, k1, k2, k3⟩ := ((hv'.same sG).same hs).ty
    refine ⟨_, rfl, _, _, _, _, _, rfl, .ty _, ty, k3, _, rfl, ?_⟩
    have np := t'.size_pos
    refine ite2 (fun cP => ?_) (fun cP => ?_)
    · obtain ⟨l, r, rfl⟩ : ∃ l r, t' = .pr l r := by
        cases t' with
        | pr l r => exact ⟨_, _, rfl⟩
        | int i => cases cP
        | bl b => cases cP
        | non => cases cP
        | tup => cases ha'
      have hr2 : r.any = true := (Bool.and_eq_true_iff.mp (show (l.any && r.any) = true from ha')).2
      obtain ⟨a, x, y, rfl, ha, hx, hy⟩ := hv'
      have ha' := hs _ _ (sG _ _ ha)
      have afl : a ≠ fl := ne_of_none ha gfl
      have sz : (Th.pr l r).size = l.size + r.size + 1 := rfl
      refine ⟨fun σ'' H'' => ∃ m', m' < (Th.pr l r).size ∧ ∃ (t' : Th) (v' : V) (ps : List (Th × V)), m' = t'.size ∧ σ'' = [some v', some (.ref fl)] ∧ Same H H'' ∧ H'' fl = some (.lst (ps.map (·.2))) ∧ ThAt K G t' v' ∧ t'.any = true ∧ ps.map (·.1) ++ t'.lefts = t.lefts ∧ t'.fin = t.fin ∧ (∀ s ∈ ps, ThAt K G s.1 s.2) ∧ ps.length + t'.size ≤ t.size, fun σ'' H'' z => z, ?_⟩
      refine ⟨_, rfl, .inl ⟨rfl, _, SqL.of hl⟩, _, rfl, a, _, _, x, rfl, rfl, SqT.of ha', rfl, fl, _, _, rfl, rfl, hl, (by rw [List.length_map]; exact room2 (by omega)), ?_⟩
      refine ⟨_, rfl, a, _, _, y, rfl, rfl, SqT.of (by rw [upd_ne afl]; exact ha'), rfl, r.size, by omega, r, y, ps ++ [(l, x)], rfl, rfl, fun b o e => by rw [upd_ne (ne_of_none e hfl)]; exact hs b o e, by rw [upd_same, List.map_append]; rfl, hy, hr2, ?_, e2, fun s hs' => ?_, ?_⟩
      · rw [← e1, List.map_append, List.append_assoc]; rfl
      · rcases List.mem_append.mp hs' with q | q
        · exact h3 s q
        · rw [List.mem_singleton] at q
          rw [q]; exact hx
      · have := l.size_pos
        (rw [List.length_append, List.length_singleton])
        omega
    · have el : t'.lefts = [] ∧ t'.fin = t' := by cases t' <;> first | exact ⟨rfl, rfl⟩ | exact absurd rfl cP
      rw [el.1, List.append_nil] at e1
      rw [el.2] at e2
      refine ⟨_, rfl, _, rfl, (by show 2 ≤ sizeLine; decide), fun p hp => ?_⟩
      exact kq ps v' p fl _ e1 h3 (e2 ▸ hv') (same_new hs hp) (same_none hs hp) hfl upd_same (by rw [upd_ne (ne_of_none hl hp)]; exact hl)
end
end LG

set_option Elab.async false
set_option linter.all false
set_option maxRecDepth 100000
set_option maxHeartbeats 4100000
namespace LG
open PySem L2
abbrev sShuf : Stmt := top 37
def spShuf (K : PySem.W.Frag) : Sp := fun vs H Q _ => ∃ (p c m : Addr) (cells : List Int) (M : List V), vs = [.ref p, .ref m] ∧ HandAt H p c cells ∧ SqL K H m M ∧ M.length ≤ 100 ∧
  ∀ M' l H', List.Perm M' M → HandAt H' p c cells → Same (del H p) (del H' p) → H' l = some (.lst M') → l ≠ p → H l = none → Q (.ref l) H'
section
variable {P : Program} {w : World} {K : PySem.W.Frag} {mg : Str → Option Value} {base : Heap}
theorem perm_erase {α : Type} : ∀ (l : List α) (k : Nat) (x : α), l[k]? = some x → (x :: l.eraseIdx k).Perm l
  | [], k, x, h => by simp at h
  | a :: l, 0, x, h => by
    have : a = x := Option.some.inj h
    subst this
    exact List.Perm.refl _
  | a :: l, k + 1, x, h => by
    have ih := perm_erase l k x h
    exact (List.Perm.swap a x _).trans (ih.cons a)
theorem perm_pop {α : Type} {found pool M : List α} {k : Nat} {x : α} (h : (found ++ pool).Perm M) (hk : pool[k]? = some x) : ((found ++ [x]) ++ pool.eraseIdx k).Perm M := by
  refine List.Perm.trans ?_ h
  rw [List.append_assoc]
  refine List.Perm.append_left found ?_
  exact perm_erase pool k x hk
theorem scShuf : FnScope ["_law_hand_here", "_law_things", "_law_pool", "_law_found"] ["_law_hand_here", "_law_things"] (defScope sShuf) := ⟨rfl, rfl, rfl, by decide +kernel, rfl, by decide +kernel, by decide +kernel⟩
theorem ok_shuf {f fD : Addr} {fd fdD : FuncData} (F : Fn K mg "_law_shuffled" sShuf ["_law_hand_here", "_law_things"] f fd) (ND : Fn K mg "_law_draw" sDraw ["_law_hand_here", "_law_many"] fD fdD) (T : TxB mg) (T2 : TxD mg) : FnOk P w K mg base CX0 2 f fd ["_law_hand_here", "_law_things"] (spShuf K) := by
  have GD : FnOk P w K mg base CX0 1 fD fdD ["_law_hand_here", "_law_many"] spDraw := ok_draw ND.F T
  refine F.F.ok scShuf (fun vs H Q E h => ?_) (fun cdv A outer s H vs Q E hr h => ?_)
  · obtain ⟨_, _, _, _, _, rfl, _⟩ := h
    rfl
  · obtain ⟨p, c, m, cells, M, rfl, hA, hm, hM, k⟩ := h
    have nd := scShuf.nd
    have hu := hu_of hr
    refine ⟨_, pss_cons (ps_set (i := 2) nd rfl (Or.inl rfl) (pe_callTy call_list_of (by rfl) T2.list (by decide +kernel) (pa_cons (pv 1) pa_nil)))
      (pss_cons (ps_set (i := 3) nd rfl (Or.inl rfl) (pe_lst pa_nil))
      (pss_cons (ps_while PassesOwn.never (pt_cmpR op_gt (pe_callB call_len (by rfl) T.len PySem.boot_len (pa_cons (pv 2) pa_nil)) pe_int (nomark _))
        (pss_one (ps_expr (pe_bm PySem.F.plainAttrs_list PySem.F.slot_list_append PySem.F.type_list_append mt_append (pv 3) (pa_cons (pe_bm PySem.F.plainAttrs_list PySem.F.slot_list_pop PySem.F.type_list_pop mt_popAt (pv 2)
          (pa_cons (pe_call GD hr (by rfl) ND.m ND.F.kp ND.b .nil pass0 (pa_cons (pv 0) (pa_cons (pe_callB call_len (by rfl) T.len PySem.boot_len (pa_cons (pv 2) pa_nil)) pa_nil))) pa_nil)) pa_nil)))))
      (pss_one (ps_ret (pv 3))))), ?_⟩
    refine ⟨_, rfl, m, _, rfl, .inl hm, fun pl hpl => ?_⟩
    have s1 := same_new (o := .lst M) (same_refl H) hpl
    have f1 : upd H pl (.lst M) pl = some (.lst M) := upd_same
    generalize upd H pl (.lst M) = G1 at *
    refine ⟨(by show 0 ≤ sizeLine; decide), fun fl hfl => ?_⟩
    have s2 := same_new (o := .lst []) s1 hfl
    have plfl : pl ≠ fl := ne_of_none f1 hfl
    have f2 : upd G1 fl (.lst []) pl = some (.lst M) := by rw [upd_ne plfl]; exact f1
    have g2 : upd G1 fl (.lst []) fl = some (.lst []) := upd_same
    have nfl : H fl = none := same_none s1 hfl
    generalize upd G1 fl (.lst []) = G2 at *
    have plp := hA.fresh hpl
    have flp := hA.fresh nfl
    have plc : pl ≠ c := fun z => by rw [z, hA.cl] at hpl; cases hpl
    have flc : fl ≠ c := fun z => by rw [z, hA.cl] at nfl; cases nfl
    have dpl : del H p pl = none := by rw [del_ne plp]; exact hpl
    have dfl : del H p fl = none := by rw [del_ne flp]; exact nfl
    refine ⟨fun n σ H' => ∃ (pool found : List V), n = pool.length ∧ σ = [some (.ref p), some (.ref m), some (.ref pl), some (.ref fl)] ∧ (found ++ pool).Perm M ∧ HandAt H' p c cells ∧ Same (del H p) (del H' p) ∧ H' pl = some (.lst pool) ∧ H' fl = some (.lst found),
      ⟨_, M, [], rfl, rfl, List.Perm.refl _, hA.same s2, del_same_of s2, f2, g2⟩, ?_⟩
    rintro n σ H' ⟨pool, found, rfl, rfl, pm, hA', sd, hp, hf⟩
    refine ⟨_, rfl, _, _, rfl, .inl ⟨_, SqL.of hp, rfl⟩, _, _, rfl, rfl, _, rfl, ?_⟩
    have hlen : found.length + pool.length = M.length := by rw [← List.length_append]; exact pm.length_eq
    refine ite2 (fun d => ?_) (fun d => ?_)
    · have d2 : 0 < pool.length := by have := of_decide_eq_true d; omega
      refine ⟨fun σ'' H'' => ∃ m', m' < pool.length ∧ ∃ (pool found : List V), m' = pool.length ∧ σ'' = [some (.ref p), some (.ref m), some (.ref pl), some (.ref fl)] ∧ (found ++ pool).Perm M ∧ HandAt H'' p c cells ∧ Same (del H p) (del H'' p) ∧ H'' pl = some (.lst pool) ∧ H'' fl = some (.lst found), fun σ'' H'' z => z, ?_⟩
      refine ⟨_, rfl, .inl ⟨rfl, _, SqL.of hf⟩, _, rfl, .inl ⟨rfl, _, SqL.of hp⟩, _, rfl, _, rfl, _, _, rfl, .inl ⟨_, SqL.of hp, rfl⟩, p, c, cells, _, rfl, hA', by omega, by omega, fun r H2 r0 r1 hA2 o2 => ?_⟩
      have hp2 := (o2 pl plp).trans hp
      have hf2 := (o2 fl flp).trans hf
      have lt : r.toNat < pool.length := by omega
      have ek : pool[r.toNat]? = some pool[r.toNat] := List.getElem?_eq_getElem lt
      refine ⟨pl, _, r, r.toNat, pool[r.toNat], rfl, rfl, hp2, by omega, by omega, seqIx r0 r1, ek, ?_⟩
      refine ⟨fl, _, _, rfl, rfl, (by rw [upd_ne plfl.symm]; exact hf2), (room2 (by omega)), ?_⟩
      have sd2 := same_trans sd (del_off o2)
      refine ⟨(pool.eraseIdx r.toNat).length, by rw [List.length_eraseIdx_of_lt lt]; omega, pool.eraseIdx r.toNat, found ++ [pool[r.toNat]], rfl, rfl, perm_pop pm ek, (hA2.upd plp plc).upd flp flc, same_upd (same_upd sd2 dpl) dfl, ?_, ?_⟩
      · rw [upd_ne plfl, upd_same]
      · rw [upd_same]
    · have d2 : pool = [] := List.eq_nil_of_length_eq_zero (by have : ¬ ((pool.length : Nat) : Int) > 0 := fun z => d (decide_eq_true z); omega)
      subst d2
      rw [List.append_nil] at pm
      exact ⟨_, rfl, k found fl H' pm hA' sd hf flp nfl⟩
end
end LG

set_option Elab.async false
set_option linter.all false
set_option maxRecDepth 100000
set_option maxHeartbeats 4100000
namespace LG
open PySem PySem.Spec PyProof.Rows L2
section
variable {X : Cx}
/-- tuple(a list), and no dict of its own -/
def rTupF (K : PySem.W.Frag) : List V → Hp → VK → Prop := fun vs H Q => ∃ p xs, vs = [V.ref p] ∧ SqL K H p xs ∧ ∀ (l : Addr) (o : Obj), H l = none → o.dict = none → Q (.ref l) (upd H l (.frz o (.tup xs)))
theorem cr_tupF : CallR X (.type "tuple") (rTupF X.K) := by
  (intro pins s σ H vs us Q I r h)
  obtain ⟨p, xs, rfl, hs, q⟩ := h
  obtain ⟨u, eu, rx⟩ := vals1 r
  subst eu
  cases rx
  (obtain ⟨its, rv, pl, hz⟩ := I.list hs)
  refine (call_tuple_list pl.isList (fun h' hk => ?_) (by rw [List.size_toArray, ← rv.length]; exact hz))
  have I1 : L2.Inv X pins σ H { s with heap := h' } := I.kept (t' := s.toks) hk
  have new : ObjOk X.prog X.w (upd H h'.objs.size (.frz { cls := .type "tuple", data := .seq its.toArray } (.tup xs))) (h'.push { cls := .type "tuple", data := .seq its.toArray }) h'.objs.size (.frz { cls := .type "tuple", data := .seq its.toArray } (.tup xs)) :=
    ⟨Heap.get?_push_size _ rfl, hz, its, rv, IsTup.new _ _⟩
  exact ⟨.ref h'.objs.size, _, I1.laid (t' := s.toks) (fun b o e => Heap.get?_push_of_some _ e) (Nat.le_refl _) new, rfl, q _ _ (I1.hok.fresh (Nat.le_refl _)) rfl⟩
/-- pairs by their values -/
theorem pairs_val {pins : List (Addr × Obj)} {σ : L2.St} {H : Hp} {s : Shared} (I : L2.Inv X pins σ H s) : ∀ {ps : List Addr} {kvs : List (L2.Key × V)}, Paired (fun p kv => SqT X.K H p [kV kv.1, kv.2]) ps kvs →
    ∃ (prs : List (L2.Key × Value)) (vps : List (Value × Value)), KV kvs prs ∧ prs.length = ps.length ∧ vps.length = ps.length ∧ ∀ (j : Nat) (k v : Value), vps[j]? = some (k, v) → ∃ (b : Addr) (x : L2.Key), ps[j]? = some b ∧ prs[j]? = some (x, v) ∧ s.heap.IsTuple b #[k, v] ∧ (mixKind X.prog X.w).is x k = true
  | _, _, .nil => ⟨[], [], .nil, rfl, rfl, fun j k v e => by simp at e⟩
  | _, _, .cons (a :=
      p) (b := kv) h t => by
    obtain ⟨prs, vps, r, l1, l2, hp⟩ := pairs_val I t
    (obtain ⟨its, rv, ht, _⟩ := I.tuple h)
    obtain ⟨u, y, rfl, ru, ry⟩ := vals2 rv
    refine ⟨(kv.1, y) :: prs, (u, y) :: vps, .cons ⟨rfl, ry⟩ r, by rw [List.length_cons, List.length_cons, l1], by rw [List.length_cons, List.length_cons, l2], fun j k v e => ?_⟩
    cases j with
    | zero => cases e; exact ⟨p, kv.1, rfl, rfl, ht, kV_is (P := X.prog) (w := X.w) ru⟩
    | succ j =>
      obtain ⟨b, x, e1, e2, e3, e4⟩ := hp j k v (by simpa using e)
      exact ⟨b, x, by simpa using e1, by simpa using e2, e3, e4⟩
/-- dict(a tuple of pairs) -/
def rDictF (K : PySem.W.Frag) : List V → Hp → VK → Prop := fun vs H Q => ∃ (a : Addr) (o : Obj) (ps : List Addr) (kvs : List (L2.Key × V)), vs = [V.ref a] ∧ H a = some (.frz o (.tup (ps.map V.ref))) ∧ o.dict = none ∧ Paired (fun p kv => SqT K H p [kV kv.1, kv.2]) ps kvs ∧
  ∀ p, H p = none → Q (.ref p) (upd H p (.dK (mergeK [] kvs)))
theorem cr_dictF (hc : X.calm = true) : CallR X (.type "dict") (rDictF X.K) := by
  (intro pins s σ H vs us Q I r h)
  obtain ⟨a, o, ps, kvs, rfl, ha, od, hp, q⟩ := h
  obtain ⟨u, eu, rx⟩ := vals1 r
  subst eu
  cases rx
  obtain ⟨ho, hz, its, rv, o', ho', hcl, n, hd⟩ := I.hok a _ ha
  rw [ho] at ho'
  cases ho'
  obtain rfl := refs_at rv
  rw [List.length_map] at hz
  obtain ⟨prs, vps, rel, l1, l2, hv⟩ := pairs_val I hp
  refine call_dict_pairs (knd := mixKind X.prog X.w) (kvs := prs) (PairArg.tuple a (ps.map Value.ref).toArray (fun j => ps.getD j 0) vps) (I.ok.hd hc) ⟨⟨o, n, ho, hcl, od, hd⟩, ?_⟩ ⟨by rw [l1, l2], fun j k v e => ?_⟩ (by rw [l2]; exact hz) fun h' tk hd' k => ?_
  · refine ⟨by simp [l2], fun j k v e => ?_⟩
    obtain ⟨b, x, e1, e2, e3, e4⟩ := hv j k v e
    have eb : ps.getD j 0 = b := by rw [List.getD_eq_getElem?_getD, e1]; rfl
    refine ⟨by simp [e1], ?_⟩
    show PySem.PairAt _ (ps.getD j 0) k v
    rw [eb]
    exact .inl e3
  · obtain ⟨b, x, e1, e2, e3, e4⟩ := hv j k v e
    exact ⟨x, e2, e4⟩
  · (have hm : (s.heap.objs.size == sysModules) = false := beq_eq_false_iff_ne.mpr (Nat.ne_of_gt I.big))
    have hlen : (mergeK []
        kvs).length ≤ sizeLine := by
      refine (Nat.le_trans (length_mergeK kvs []) ?_)
      rw [List.length_nil, Nat.zero_add, rel.length, l1]
      exact hz
    exact ⟨.ref s.heap.objs.size, _, I.laid (t' := tk) (fun b o e => k b o (by simp) e) (Nat.le_refl _) (show ObjOk X.prog X.w _ _ _ (.dK (mergeK [] kvs)) from ⟨hlen, hm, merged [] prs, KV.merge rel .nil, hd'⟩), rfl, q _ (I.hok.fresh (Nat.le_refl _))⟩
end
end LG

set_option Elab.async false
set_option linter.all false
set_option maxRecDepth 100000
set_option maxHeartbeats 4100000
namespace LG
open PySem L2
abbrev sKnown : Stmt := top 42
/-- a name with a kind, at a pair -/
def PairAt (K : PySem.W.Frag) (H : Hp) (k : Str × Th) (v : V) : Prop := ∃ a y, v = .ref a ∧ H a = some (.tup [.str k.1, y]) ∧ ThAt K H k.2 y
theorem PairAt.same {K : PySem.W.Frag} {H H' : Hp} {k : Str × Th} {v : V} (h : PairAt K H k v) (s : Same H H') : PairAt K H' k v := by
  obtain ⟨a, y, e, h1, h2⟩ := h
  exact ⟨a, y, e, s _ _ h1, h2.same s⟩
/-- a list is no part of a kind -/
theorem ThAt.off {K : PySem.W.Frag} {H : Hp} {D : Addr} {l : List V} (hD : H D = some (.lst l)) : ∀ {t : Th} {v : V}, t.any = true → ThAt K H t v → ThAt K (del H D) t v
  | .int i, v, _, h => h
  | .pr x y, v, ha, h => by
    obtain ⟨a, u, u', e, hs, h1, h2⟩ := h
    have ha : (x.any && y.any) = true := ha
    rw [Bool.and_eq_true] at ha
    have n : a ≠ D := by rintro rfl; rw [hs] at hD; cases hD
    exact ⟨a, u, u', e, by rw [del_ne n]; exact hs, ThAt.off hD ha.1 h1, ThAt.off hD ha.2 h2⟩
  | .bl b, v, ha, _ => by cases ha
  | .non, v, ha, _ => by cases ha
  | .tup, v, ha, _ => by cases ha
/-- a name that is drawn: any but one -/
def nameQ (z : Str) : Bool := nameB z && decide (z ≠ "qq")
theorem nameQ_B {z : Str} (h : nameQ z = true) : nameB z = true := by
  unfold nameQ at h
  rw [Bool.and_eq_true] at h
  exact h.1
theorem nameQ_q {z : Str} (h : nameQ z = true) : z ≠ "qq" := by
  unfold nameQ at h
  rw [Bool.and_eq_true] at h
  exact of_decide_eq_true h.2
/-- a kind that is drawn: small -/
def KdOk (t : Th) : Prop := t.any = true ∧ t.depth ≤ 2 ∧ t.size < 8
/-- a tuple of names with kinds -/
def KnAt (K : PySem.W.Frag) (H : Hp) (ks : List ((Str × Th) × V)) (v : V) : Prop := ∃ (a : Addr) (o : Obj), v = .ref a ∧ H a = some (.frz o (.tup (ks.map (·.2)))) ∧ o.dict = none ∧ ∀ s ∈ ks, PairAt K H s.1 s.2 ∧ nameQ s.1.1 = true ∧ KdOk s.1.2
theorem KnAt.same {K : PySem.W.Frag} {H H' : Hp} {ks : List ((Str × Th) × V)} {v : V} (h : KnAt K H ks v) (s : Same H H') : KnAt K H' ks v := by
  obtain ⟨a, o, e, h1, od, h2⟩ := h
  exact ⟨a, o, e, s _ _ h1, od, fun x hx => ⟨(h2 x hx).1.same s, (h2 x hx).2⟩⟩
def spKnown (K : PySem.W.Frag) : Sp := fun vs H Q _ => ∃ (p c : Addr) (cells : List Int) (m : Nat), vs = [.ref p, .int (m : Int)] ∧ HandAt H p c cells ∧ m ≤ 9 ∧
  ∀ v H' ks, HandAt H' p c cells → Same (del H p) (del H' p) → KnAt K (del H' p) ks v → ks.length ≤ m → Q v H'
def someNames : List V := [.str "f", .str "g", .str "h", .str "m", .str "n", .str "one", .str "two", .str "three", .str "abcdefgh"]
theorem someNames_ok : ∀ v ∈ someNames, ∃ z : Str, v = .str z ∧ nameQ z = true := by
  intro v hv
  simp only [someNames, List.mem_cons, List.not_mem_nil, or_false] at hv
  rcases hv with rfl | rfl | rfl | rfl | rfl | rfl | rfl | rfl | rfl <;> exact ⟨_, rfl, by decide +kernel⟩
theorem cut_take {xs : List V} {m : Nat} : cutV xs none (some (m : Int)) = xs.take m := by
  unfold cutV HT.sIx
  simp only [show ¬ ((m : Int) < 0) by omega, if_false, List.drop_zero, Nat.sub_zero, Int.toNat_natCast]
  rcases Nat.le_total m xs.length with h | h
  · rw [Nat.min_eq_left h]
  · rw [Nat.min_eq_right h, List.take_of_length_le (Nat.le_refl _), List.take_of_length_le h]
section
variable {P : Program} {w : World} {K : PySem.W.Frag} {mg : Str → Option Value} {base : Heap}
theorem scKnown : FnScope ["_law_hand_here", "_law_many", "_law_names", "_law_name"] ["_law_hand_here", "_law_many"] (defScope sKnown) := ⟨rfl, rfl, rfl, by decide +kernel, rfl, by decide +kernel, by decide +kernel⟩
theorem ok_known {f fS fK fD : Addr} {fd fdS fdK fdD : FuncData} (F : Fn K mg "_law_known" sKnown ["_law_hand_here", "_law_many"] f fd) (NS : Fn K mg "_law_shuffled" sShuf ["_law_hand_here", "_law_things"] fS fdS) (NK : Fn K mg "_law_kind" sKd ["_law_hand_here", "_law_deep_here"] fK fdK)
    (ND : Fn K mg "_law_draw" sDraw ["_law_hand_here", "_law_many"] fD fdD) (T : TxB mg) (T2 : TxD mg) : FnOk P w K mg base CX0 5 f fd ["_law_hand_here", "_law_many"] (spKnown K) := by
  have GS : FnOk P w K mg base CX0 2 fS fdS ["_law_hand_here", "_law_things"] (spShuf K) := ok_shuf NS ND T T2
  have GK : FnOk P w K mg base CX0 4 fK fdK ["_law_hand_here", "_law_deep_here"] (spKd K 2) := ok_kd NK ND T 2
  refine F.F.ok scKnown (fun vs H Q E h => ?_) (fun cdv A outer s H vs Q E hr h => ?_)
  · obtain ⟨_, _, _, _, rfl, _⟩ := h
    rfl
  · obtain ⟨p, c, cells, m, rfl, hA, hm, kq⟩ := h
    have nd := scKnown.nd
    have hr2 := hr.mono (show 2 ≤ 4 by decide)
    refine ⟨_, pss_cons (ps_set (i := 2) nd rfl (Or.inl rfl) (pe_slice sl_list (pe_call GS hr2 (by rfl) NS.m NS.F.kp NS.b .nil pass0 (pa_cons (pv 0) (pa_cons (pe_lst (pa_cons pe_str (pa_cons pe_str (pa_cons pe_str (pa_cons pe_str (pa_cons pe_str (pa_cons pe_str (pa_cons pe_str (pa_cons pe_str (pa_cons pe_str pa_nil)))))))))) pa_nil))) po_none (po_some (pv 1))))
      (pss_one (ps_ret (pe_callTy cr_tupF (by rfl) T2.tuple (by decide +kernel) (pa_cons (pe_lc (own := [("_law_name", 3)]) (g := gName 3) (tt := tYes) rfl nd (pi_list (pv 2))
        (blkOk_by (N := ["_law_hand_here", "_law_many", "_law_names", "_law_name"]) (sc := defScope sKnown) (by decide +kernel)) (fun _ _ _ _ _ => pg_name (i := 3) nd rfl (Or.inl rfl)) (fun _ _ _ _ _ => pts_nil)
        (fun _ _ _ _ _ => pe_tup (pa_cons (pv 3) (pa_cons (pe_call GK hr (by rfl) NK.m NK.F.kp NK.b .nil pass0 (pa_cons (pv 0) (pa_cons pe_int pa_nil))) pa_nil)))) pa_nil)))), ?_⟩
    refine ⟨_, rfl, (by show 9 ≤ sizeLine; decide), fun l0 hl0 => ?_⟩
    have s1 := same_new (o := .lst someNames) (same_refl H) hl0
    refine ⟨p, c, l0, cells, someNames, rfl, hA.same s1, SqL.of upd_same, by decide, fun M l H1 pm hA1 s2 hl nlp fl => ?_⟩
    refine ⟨_, rfl, m, rfl, l, M, rfl, SqL.of hl, fun q hq => ?_⟩
    rw [cut_take]
    have nq1 : H1 q = none := hq
    have nqp : q ≠ p := hA1.fresh hq
    have nqc : q ≠ c := fun z => by rw [z, hA1.cl] at hq; cases hq
    have xok : ∀ v ∈ M.take m, ∃ z : Str, v = .str z ∧ nameQ z = true := fun v hv => someNames_ok v (pm.mem_iff.mp (List.mem_of_mem_take hv))
    have hA2 : HandAt (upd H1 q (.lst (M.take m))) p c cells := hA1.upd nqp nqc
    have q2 : upd H1 q (.lst (M.take m)) q = some (.lst (M.take m)) := upd_same
    have s3 : Same (del H p) (del (upd H1 q (.lst (M.take m))) p) := same_upd (same_trans (del_same_of s1) s2) (by rw [del_ne nqp]; exact same_none (same_trans (same_trans (del_same_of s1) s2) del_le) hq |> fun h => by rw [del_ne nqp] at h; exact h)
    have ml : (M.take m).length ≤ m := by rw [List.length_take]; omega
    generalize upd H1 q (.lst (M.take m)) = H2 at hA2 q2 s3
    generalize M.take m = X at q2 xok ml
    refine ⟨_, rfl, q, rfl, ⟨_, SqL.of q2⟩, fun D hD => ?_⟩
    have nDp : D ≠ p := hA2.fresh hD
    have nDq : q ≠ D := ne_of_none q2 hD
    have nDc : D ≠ c := fun z => by rw [z, hA2.cl] at hD; cases hD
    have dD : del H p D = none := by
      rw [del_ne nDp]
      have := same_none (same_trans s3 del_le) hD
      rwa [del_ne nDp] at this
    refine lc_it walk_list (fun i H' => ∃ ks : List ((Str × Th) × V), ks.length = i ∧ HandAt H' p c cells ∧ Same (del H p) (del H' p) ∧ H' q = some (.lst X) ∧ H' D = some (.lst (ks.map (·.2))) ∧ ∀ s ∈ ks, PairAt K (del (del H' p) D) s.1 s.2 ∧ nameQ s.1.1 = true ∧ KdOk s.1.2) ⟨[], rfl, hA2.upd nDp nDc, same_upd s3 dD, by rw [upd_ne nDq]; exact q2, upd_same, fun s h => by cases h⟩ (fun i H' _ ⟨_, _, _, _, h, _⟩ => SqL.of h) ?_ ?_
    · rintro i y _ H' hi ⟨ks, rfl, h1, h2, h3, h4, h5⟩ ⟨rfl, hy⟩
      obtain ⟨z, rfl, nz⟩ := xok y (List.mem_of_getElem? hy)
      refine ⟨rfl, ?_⟩
      refine yes_kept ?_
      refine ⟨_, rfl, _, rfl, p, c, cells, rfl, h1, fun t v H3 hA3 s4 th g => ?_⟩
      have q3 : H3 q = some (.lst X) := by have := s4 q _ (by rw [del_ne nqp]; exact h3); rwa [del_ne nqp] at this
      have d3 : H3 D = some (.lst (ks.map (·.2))) := by have := s4 D _ (by rw [del_ne nDp]; exact h4); rwa [del_ne nDp] at this
      refine ⟨(by show 2 ≤ sizeLine; decide), fun T hT => ?_⟩
      have nTp : T ≠ p := hA3.fresh hT
      have nDT : D ≠ T := ne_of_none d3 hT
      have nqT : q ≠ T := ne_of_none q3 hT
      have s5 := same_new (o := .tup [.str z, v]) (same_refl H3) hT
      have hA4 := hA3.same s5
      have d4 : upd H3 T (.tup [.str z, v]) D = some (.lst (ks.map (·.2))) := s5 _ _ d3
      have q4 : upd H3 T (.tup [.str z, v]) q = some (.lst X) := s5 _ _ q3
      have t4 : upd H3 T (.tup [.str z, v]) T = some (.tup [.str z, v]) := upd_same
      generalize upd H3 T (.tup [.str z, v]) = H4 at s5 hA4 d4 q4 t4
      have sDD : ∀ {G G' : Hp} {o : HO}, Same G G' → Same (del G D) (del (upd G' D o) D) := fun s b o e => by
        by_cases hb : b = D
        · rw [hb, del_same] at e; cases e
        · rw [del_ne hb] at e ⊢; rw [upd_ne hb]; exact s b o e
      have upp : ∀ {G : Hp} {o : HO}, del (upd G D o) p = upd (del G p) D o := fun {G o} => by
        funext b
        by_cases hb : b = p
        · rw [hb, del_same, upd_ne nDp.symm, del_same]
        · rw [del_ne hb]
          by_cases hd : b = D
          · rw [hd, upd_same, upd_same]
          · rw [upd_ne hd, upd_ne hd, del_ne hb]
      refine ⟨_, d4, (by rw [List.length_map]; exact room2 (by omega)), ks ++ [((z, t), .ref T)], by simp, hA4.upd nDp nDc, same_upd (same_trans h2 (same_trans s4 (del_same_of s5))) dD, by rw [upd_ne nDq]; exact q4, by rw [upd_same, List.map_append]; rfl, fun x hx => ?_⟩
      rw [upp]
      obtain hx | hx := List.mem_append.mp hx
      · exact ⟨(h5 x hx).1.same (sDD (same_trans s4 (del_same_of s5))), (h5 x hx).2⟩
      · rw [List.mem_singleton] at hx
        subst hx
        refine ⟨⟨T, v, rfl, by rw [del_ne nDT.symm, upd_ne nDT.symm, del_ne nTp]; exact t4, ?_⟩, nz, g⟩
        have d3' : del H3 p D = some (.lst (ks.map (·.2))) := by rw [del_ne nDp]; exact d3
        exact (ThAt.off d3' g.1 th).same (sDD (del_same_of s5))
    · rintro H' ⟨ks, hk, h1, h2, h3, h4, h5⟩
      refine ⟨D, _, rfl, SqL.of h4, fun R o hR od => ?_⟩
      have nRp : R ≠ p := h1.fresh hR
      have nRD : D ≠ R := ne_of_none h4 hR
      have s6 := same_new (o := .frz o (.tup (ks.map (·.2)))) (same_refl H') hR
      refine kq _ _ ks (h1.same s6) (same_trans h2 (del_same_of s6)) ⟨R, o, rfl, by rw [del_ne nRp]; exact upd_same, od, fun x hx => ⟨(h5 x hx).1.same (same_trans del_le (del_same_of s6)), (h5 x hx).2⟩⟩ (by omega)
end
end LG

set_option Elab.async false
set_option linter.all false
set_option maxRecDepth 100000
set_option maxHeartbeats 4100000
namespace LG
open PySem L2
abbrev sLoose : Stmt := top 47
/-! ### programs put together -/
theorem step_add {fit : Th → Bool} {w : Wd} {k j m : Nat} (h : stepC fit w k = some j) : stepC fit w (k + m) = some (j + m) := by
  unfold stepC at h ⊢
  by_cases u : w.use = true
  · rw [if_pos u] at h ⊢
    by_cases k2 : k < 2
    · rw [if_pos k2] at h; cases h
    · rw [if_neg k2] at h
      cases h
      rw [if_neg (by omega)]
      congr 1
      omega
  · rw [if_neg u] at h ⊢
    by_cases n : w.name = true
    · rw [if_pos n] at h ⊢
      cases h
      congr 1
      omega
    · rw [if_neg n] at h ⊢
      by_cases b : (decide (k < 1) || !w.take fit) = true
      · rw [if_pos b] at h; cases h
      · rw [if_neg b] at h
        cases h
        have b' : (decide (k < 1) || !w.take fit) = false := Bool.eq_false_iff.mpr b
        rw [Bool.or_eq_false_iff] at b'
        have k1 : ¬ k < 1 := of_decide_eq_false b'.1
        rw [if_neg]
        rw [b'.2, Bool.or_false, decide_eq_true_eq]
        omega
theorem cnt_app {fit : Th → Bool} {b : List Wd} {m : Nat} (hb : cntC fit b = some m) : ∀ {a : List Wd} {k : Nat}, cntC fit a = some k → cntC fit (a ++ b) = some (k + m)
  | [], k, h => by cases h; rw [List.nil_append, hb, Nat.zero_add]
  | w :: r, k, h => by
    cases e : cntC fit r with
    | none => rw [cntC, e] at h; cases h
    | some k' =>
      rw [cntC, e] at h
      have h : stepC fit w k' = some k := h
      rw [List.cons_append, cntC, cnt_app hb e]
      exact step_add h
/-- words that make one program -/
def kdB (t : Th) : Bool := t.any && (decide (t.depth ≤ 1) && decide (t.size < 8))
theorem kdB_of {t : Th} (a : t.any = true) (d : t.depth ≤ 1) (s : t.size < 8) : kdB t = true := by
  unfold kdB
  rw [a, decide_eq_true d, decide_eq_true s]; rfl
theorem kdB_ok {t : Th} (h : kdB t = true) : KdOk t := by
  unfold kdB at h
  rw [Bool.and_eq_true, Bool.and_eq_true, decide_eq_true_eq, decide_eq_true_eq] at h
  exact ⟨h.1, by omega, h.2.2⟩
theorem kdB_one {t : Th} (h : kdB t = true) : t.depth ≤ 1 := by
  unfold kdB at h
  rw [Bool.and_eq_true, Bool.and_eq_true, decide_eq_true_eq, decide_eq_true_eq] at h
  exact h.2.1
theorem cnt_mono {fit fit' : Th → Bool} (h : ∀ t, fit t = true → fit' t = true) : ∀ {ws : List Wd} {m : Nat}, cntC fit ws = some m → cntC fit' ws = some m
  | [], m, e => e
  | w :: r, m, e => by
    cases q : cntC fit r with
    | none => rw [cntC, q] at e; cases e
    | some k =>
      rw [cntC, q] at e
      have e : stepC fit w k = some m := e
      rw [cntC, cnt_mono h q]
      show stepC fit' w k = some m
      rw [← e]
      unfold stepC
      split
      · rfl
      · split
        · rfl
        · by_cases b : (decide (k < 1) || !w.take fit) = true
          · unfold stepC at e
            rename_i u n
            rw [if_neg u, if_neg n, if_pos b] at e; cases e
          · rw [if_neg b, if_neg]
            rw [Bool.or_eq_true, not_or, Bool.not_eq_true', Bool.not_eq_false] at b ⊢
            refine ⟨b.1, ?_⟩
            have b2 := b.2
            cases w with
            | st z => cases b2
            | no => cases b2
            | pr o t =>
              cases o with
              | none => cases b2
              | some z =>
                have b2 : (nameB z && fit t) = true := b2
                rw [Bool.and_eq_true] at b2
                show (nameB z && fit' t) = true
                rw [b2.1, h t b2.2]; rfl
/-- small kinds alone -/
def One (ws : List Wd) : Prop := cntC kdB ws = some 1 ∧ Wd.st "qq" ∉ ws
theorem One.any {ws : List Wd} (h : One ws) : cntC Th.any ws = some 1 := cnt_mono (fun t ht => (kdB_ok ht).1) h.1
theorem One.name {z : Str} (hq : nameQ z = true) : One [.st z] := by
  have h := nameQ_B hq
  have u : (Wd.st z).use = false := decide_eq_false (by rintro rfl; rw [name_at] at h; cases h)
  refine ⟨?_, ?_⟩
  · show stepC kdB (.st z) 0 = some 1
    unfold stepC
    rw [u, if_neg Bool.false_ne_true, if_pos (show (Wd.st z).name = true from h)]
  · intro m
    rw [List.mem_singleton] at m
    injection m with m
    exact nameQ_q hq m.symm
theorem One.use {f a : List Wd} (hf : One f) (ha : One a) : One (.st "@" :: (f ++ a)) := by
  have := cnt_app ha.1 hf.1
  refine ⟨by rw [cntC, this]; rfl, fun m => ?_⟩
  rcases List.mem_cons.mp m with q | q
  · injection q with q
    exact absurd q (by decide +kernel)
  · obtain q | q := List.mem_append.mp q
    · exact hf.2 q
    · exact ha.2 q
theorem One.take {b : List Wd} {z : Str} {t : Th} (hz : nameQ z = true) (ht : kdB t = true) (hb : One b) : One (.pr (some z) t :: b) := by
  refine ⟨?_, fun m => ?_⟩
  · rw [cntC, hb.1]
    show stepC kdB (.pr (some z) t) 1 = some 1
    unfold stepC
    have e : (Wd.pr (some z) t).take kdB = true := by show (nameB z && kdB t) = true; rw [nameQ_B hz, ht]; rfl
    rw [if_neg (by intro z; cases z), if_neg (by intro z; cases z), if_neg (by rw [e]; decide)]
  · rcases List.mem_cons.mp m with q | q
    · cases q
    · exact hb.2 q
theorem One.prog {ws : List Wd} (h : One ws) : Prog ws := ⟨decide_eq_true h.any⟩
/-! ### where they stand -/
theorem nameB_len {z : Str} (h : nameB z = true) : z.length ≤ 8 := by
  unfold nameB at h
  rw [Bool.and_eq_true, Bool.and_eq_true] at h
  exact of_decide_eq_true h.1.2
theorem WdAt.nm {K : PySem.W.Frag} {H : Hp} {z : Str} (h : nameB z = true) : WdAt K H (.st z) (.str z) := ⟨rfl, by have := nameB_len h; omega⟩
theorem WdAt.us {K : PySem.W.Frag} {H : Hp} : WdAt K H (.st "@") (.str "@") := ⟨rfl, by decide⟩
theorem WdAt.tk {K : PySem.W.Frag} {H : Hp} {z : Str} {t : Th} {a : Addr} {y : V} (h : nameB z = true) (ha : H a = some (.tup [.str z, y])) (ht : ThAt K H t y) (hs : t.size ≤ 10000) : WdAt K H (.pr (some z) t) (.ref a) :=
  ⟨a, .str z, y, rfl, ha, ⟨rfl, by have := nameB_len h; omega⟩, ⟨.non, ⟨_, .base (.str z), kit_ty (r := false) (by decide +kernel), kit_ty (r := false) (by decide +kernel)⟩⟩, ht, hs⟩
theorem WdsAt.nil {K : PySem.W.Frag} {H : Hp} : WdsAt K H [] [] := ⟨rfl, fun i w v h => by simp at h⟩
theorem WdsAt.app {K : PySem.W.Frag} {H : Hp} {ws xs : List Wd} {vs ys : List V} (h : WdsAt K H ws vs) (g : WdsAt K H xs ys) : WdsAt K H (ws ++ xs) (vs ++ ys) := by
  refine ⟨by rw [List.length_append, List.length_append, h.1, g.1], fun i w v hw hv => ?_⟩
  by_cases q : i < ws.length
  · rw [List.getElem?_append_left q] at hw
    rw [List.getElem?_append_left (by rw [h.1]; exact q)] at hv
    exact h.2 i w v hw hv
  · rw [List.getElem?_append_right (by omega)] at hw
    rw [List.getElem?_append_right (by rw [h.1]; omega), h.1] at hv
    exact g.2 _ w v hw hv
theorem WdsAt.one {K : PySem.W.Frag} {H : Hp} {w : Wd} {v : V} (h : WdAt K H w v) : WdsAt K H [w] [v] := by
  refine ⟨rfl, fun i w' v' hw hv => ?_⟩
  cases i with
  | zero => cases hw; cases hv; exact h
  | succ i => simp at hw
/-- what a def hands back that draws: a program beside the hand -/
def BackP (K : PySem.W.Frag) (H : Hp) (p c : Addr) (cells : List Int) (m : Nat) (Q : VK) : Prop := ∀ (ws : List Wd) (a : Addr) (vs : List V) (H' : Hp), HandAt H' p c cells → Same (del H p) (del H' p) → H' a = some (.tup vs) → WdsAt K (del H' p) ws vs → One ws → ws.length ≤ m → Q (.ref a) H'
/-- a list of names -/
def NmL (xs : List V) : Prop := ∀ v ∈ xs, ∃ z : Str, v = .str z ∧ nameQ z = true
def szL (d : Nat) : Nat := 2 ^ (d + 1) - 1
def spLoose (K : PySem.W.Frag) (d : Nat) : Sp := fun vs H Q _ => ∃ (p c nm : Addr) (cells : List Int) (xs : List V), vs = [.ref p, .ref nm, .int (d : Int)] ∧ HandAt H p c cells ∧ H nm = some (.lst xs) ∧ nm ≠ p ∧ NmL xs ∧ 0 < xs.length ∧ xs.length < 1000 ∧ BackP K H p c cells (szL d) Q
section
variable {P : Program} {w : World} {K : PySem.W.Frag} {mg : Str → Option Value} {base : Heap}
theorem scLoose : FnScope ["_law_hand_here", "_law_names", "_law_deep_here", "_law_kind_here"] ["_law_hand_here", "_law_names", "_law_deep_here"] (defScope sLoose) := ⟨rfl, rfl, rfl, by decide +kernel, rfl, by decide +kernel, by decide +kernel⟩
theorem One.ne {ws : List Wd} (h : One ws) : ws ≠ [] := by rintro rfl; cases h.1
/-- what stands outside of the hand stays -/
theorem stays {H H' : Hp} {p q : Addr} {o : HO} (s : Same (del H p) (del H' p)) (n : q ≠ p) (h : H q = some o) : H' q = some o := by
  have := s q o (by rw [del_ne n]; exact h)
  rwa [del_ne n] at this
theorem newOff {H H' : Hp} {p q : Addr} {o : HO} (s : Same (del H p) (del H' p)) (hq : H' q = none) : Same (del H p) (del (upd H' q o) p) := same_trans s (del_same_of (same_new (same_refl _) hq))
theorem ok_loose {f fD fS fK : Addr} {fd fdD fdS fdK : FuncData} (F : Fn K mg "_law_loose" sLoose ["_law_hand_here", "_law_names", "_law_deep_here"] f fd) (ND : Fn K mg "_law_draw" sDraw ["_law_hand_here", "_law_many"] fD fdD) (NS : Fn K mg "_law_some" sSome ["_law_hand_here", "_law_things"] fS fdS)
    (NK : Fn K mg "_law_kind" sKd ["_law_hand_here", "_law_deep_here"] fK fdK) (T : TxB mg) : ∀ d : Nat, d ≤ 10 → FnOk P w K mg base CX0 (d + 4) f fd ["_law_hand_here", "_law_names", "_law_deep_here"] (spLoose K d) := by
  have GD : FnOk P w K mg base CX0 1 fD fdD ["_law_hand_here", "_law_many"] spDraw := ok_draw ND.F T
  have GS : FnOk P w K mg base CX0 2 fS fdS ["_law_hand_here", "_law_things"] (spSome K) := ok_some NS.F T ND.F ND.b ND.m
  have GK : FnOk P w K mg base CX0 3 fK fdK ["_law_hand_here", "_law_deep_here"] (spKd K 1) := ok_kd NK ND T 1
  -- one name
  have alone : ∀ {H H1 : Hp} {p c : Addr} {cells : List Int} {m : Nat} {Q : VK} {z : Str}, 1 ≤ m → nameQ z = true → HandAt H1 p c cells → Same (del H p) (del H1 p) → BackP K H p c cells m Q → ∀ q, H1 q = none → Q (.ref q) (upd H1 q (.tup [.str z])) := fun hm hz hA s k q hq =>
    k [.st _] q _ _ (hA.same (same_new (same_refl _) hq)) (newOff s hq) upd_same (WdsAt.one (WdAt.nm (nameQ_B hz))) (One.name hz) hm
  intro d
  induction d with
  | zero =>
    intro _
    refine F.F.ok scLoose (fun vs H Q E h => ?_) (fun cdv A outer s H vs Q E hr h => ?_)
    · obtain ⟨_, _, _, _, _, rfl, _⟩ := h
      rfl
    · obtain ⟨p, c, nm, cells, xs, rfl, hA, hn, np, ok, x0, x1, kq⟩ := h
      have nd := scLoose.nd
      have hr1 := hr.mono (show 1 ≤ 3 by decide)
      have hr2 := hr.mono (show 2 ≤ 3 by decide)
      refine ⟨_, pss_cons (ps_set (i := 3) nd rfl (Or.inl rfl) (pe_ifExp (pt_cmpR op_gt (pv 2) pe_int (nomark _)) (pe_call GD hr1 (by rfl) ND.m ND.F.kp ND.b .nil pass0 (pa_cons (pv 0) (pa_cons pe_int pa_nil))) pe_int))
        (pss_cons (ps_if (pt_cmpR op_eq (pv 3) pe_int (nomark _)) (pss_one (ps_ret (pe_tup (pa_cons (pe_call GS hr2 (by rfl) NS.m NS.F.kp NS.b .nil pass0 (pa_cons (pv 0) (pa_cons (pv 1) pa_nil))) pa_nil)))) pss_nil)
        pss_never), ?_⟩
      refine ⟨_, rfl, _, _, rfl, rfl, _, rfl, ?_⟩
      refine ifF (by decide) ?_
      refine ⟨_, rfl, rfl, _, rfl, ?_⟩
      refine ifT (by decide) ?_
      refine ⟨_, rfl, _, rfl, p, c, nm, cells, xs, rfl, hA, SqL.of hn, np, x0, x1, fun k v H1 hk hA1 o1 => ?_⟩
      obtain ⟨z, rfl, hz⟩ := ok v (List.mem_of_getElem? hk)
      exact ⟨(by show 1 ≤ sizeLine; decide), alone (by decide) hz hA1 (del_off o1) kq⟩
  | succ d G =>
    intro hd
    have G := G (by omega)
    refine F.F.ok scLoose (fun vs H Q E h => ?_) (fun cdv A outer s H vs Q E hr h => ?_)
    · obtain ⟨_, _, _, _, _, rfl, _⟩ := h
      rfl
    · obtain ⟨p, c, nm, cells, xs, rfl, hA, hn, np, ok, x0, x1, kq⟩ := h
      have nd := scLoose.nd
      have hr1 := hr.mono (show 1 ≤ d + 4 by omega)
      have hr2 := hr.mono (show 2 ≤ d + 4 by omega)
      have hr3 := hr.mono (show 3 ≤ d + 4 by omega)
      refine ⟨_, Evl.pss_cut (ps_set (i := 3) nd rfl (Or.inl rfl) (pe_ifExp (pt_cmpR op_gt (pv 2) pe_int (nomark _)) (pe_call GD hr1 (by rfl) ND.m ND.F.kp ND.b .nil pass0 (pa_cons (pv 0) (pa_cons pe_int pa_nil))) pe_int))
        (pss_cons (ps_if (pt_cmpR op_eq (pv 3) pe_int (nomark _)) (pss_one (ps_ret (pe_tup (pa_cons (pe_call GS hr2 (by rfl) NS.m NS.F.kp NS.b .nil pass0 (pa_cons (pv 0) (pa_cons (pv 1) pa_nil))) pa_nil)))) pss_nil)
        (pss_cons (ps_if (pt_cmpR op_lt (pv 3) pe_int (nomark _)) (pss_one (ps_ret (pe_op op_catA (pe_op op_catA (pe_tup (pa_cons pe_str pa_nil)) (pe_call G hr (by rfl) F.m F.F.kp F.b .nil pass0 (pa_cons (pv 0) (pa_cons (pv 1) (pa_cons (pe_op op_sub (pv 2) pe_int) pa_nil)))))
            (pe_call G hr (by rfl) F.m F.F.kp F.b .nil pass0 (pa_cons (pv 0) (pa_cons (pv 1) (pa_cons (pe_op op_sub (pv 2) pe_int) pa_nil))))))) pss_nil)
        (pss_one (ps_ret (pe_op op_catA (pe_tup (pa_cons (pe_tup (pa_cons (pe_call GS hr2 (by rfl) NS.m NS.F.kp NS.b .nil pass0 (pa_cons (pv 0) (pa_cons (pv 1) pa_nil))) (pa_cons (pe_call GK hr3 (by rfl) NK.m NK.F.kp NK.b .nil pass0 (pa_cons (pv 0) (pa_cons pe_int pa_nil))) pa_nil))) pa_nil))
            (pe_call G hr (by rfl) F.m F.F.kp F.b .nil pass0 (pa_cons (pv 0) (pa_cons (pv 1) (pa_cons (pe_op op_sub (pv 2) pe_int) pa_nil))))))))), ?_⟩
      have ed : ((d + 1 : Nat) : Int) - 1 = (d : Int) := by omega
      have sz : szL (d + 1) = szL d + szL d + 1 := by unfold szL; rw [Nat.pow_succ 2 (d + 1)]; have := Nat.one_le_two_pow (n := d + 1); omega
      have sz1 : 1 ≤ szL d := by unfold szL; rw [Nat.pow_succ]; have := Nat.one_le_two_pow (n := d); omega
      have sz2 : szL d ≤ 2047 := by unfold szL; have := Nat.pow_le_pow_right (n := 2) (by decide) (show d + 1 ≤ 11 by omega); omega
      refine ⟨fun σ' H' => ∃ r : Int, σ' = [some (.ref p), some (.ref nm), some (.int ((d + 1 : Nat) : Int)), some (.int r)] ∧ HandAt H' p c cells ∧ Same (del H p) (del H' p), ?_, ?_⟩
      · refine ⟨_, rfl, _, _, rfl, rfl, _, rfl, ?_⟩
        refine ifT (decide_eq_true (by omega)) ?_
        refine ⟨_, rfl, p, c, cells, 4, rfl, hA, by decide, by decide, fun r H1 z0 z4 hA1 o1 => ⟨r, rfl, hA1, del_off o1⟩⟩
      · rintro _ H1 ⟨r, rfl, hA1, s1⟩
        have hn1 := stays s1 np hn
        refine ⟨_, rfl, rfl, _, rfl, ?_⟩
        refine ite2 (fun _ => ?_) (fun _ => ?_)
        · refine ⟨_, rfl, _, rfl, p, c, nm, cells, xs, rfl, hA1, SqL.of hn1, np, x0, x1, fun k v H2 hk hA2 o2 => ?_⟩
          obtain ⟨z, rfl, hz⟩ := ok v (List.mem_of_getElem? hk)
          exact ⟨(by show 1 ≤ sizeLine; decide), alone (by omega) hz hA2 (same_trans s1 (del_off o2)) kq⟩
        · refine ⟨_, rfl, _, _, rfl, rfl, _, rfl, ?_⟩
          refine ite2 (fun _ => ?_) (fun _ => ?_)
          · refine ⟨(by show 1 ≤ sizeLine; decide), fun q1 hq1 => ?_⟩
            have n1 := hA1.fresh hq1
            have hA2 := hA1.same (same_new (o := .tup [.str "@"]) (same_refl _) hq1)
            have s2 := newOff (o := .tup [.str "@"]) s1 hq1
            have f1 : upd H1 q1 (.tup [.str "@"]) q1 = some (.tup [.str "@"]) := upd_same
            generalize upd H1 q1 (.tup [.str "@"]) = H2 at hA2 s2 f1
            refine ⟨_, rfl, _, rfl, _, rfl, _, _, rfl, rfl, p, c, nm, cells, xs, (by show [V.ref p, V.ref nm, V.int (((d + 1 : Nat) : Int) - 1)] = _; rw [ed]), hA2, stays s2 np hn, np, ok, x0, x1, fun ws1 a1 vs1 H3 hA3 s23 ha1 w1 o1 l1 => ?_⟩
            have s3 := same_trans s2 s23
            have na1 : a1 ≠ p := by
              obtain ⟨l, e⟩ := hA3.some
              rintro rfl
              rw [ha1] at e; cases e
            have f3 := stays s23 n1 f1
            have v1 : vs1 ≠ [] := fun z => o1.ne (List.eq_nil_of_length_eq_zero (by rw [← w1.1, z]; rfl))
            refine ⟨q1, a1, _, vs1, rfl, rfl, SqT.of f3, SqT.of ha1, (by rw [w1.1]; show 1 + ws1.length ≤ sizeLine; exact big2 (by omega)), (fun h => by cases h), (fun _ h => absurd h v1), fun _ _ q2 hq2 => ?_⟩
            have n2 := hA3.fresh hq2
            have hA4 := hA3.same (same_new (o := .tup ([.str "@"] ++ vs1)) (same_refl _) hq2)
            have s34 := newOff (o := .tup ([.str "@"] ++ vs1)) (same_refl (del H3 p)) hq2
            have f4 : upd H3 q2 (.tup ([.str "@"] ++ vs1)) q2 = some (.tup ([.str "@"] ++ vs1)) := upd_same
            generalize upd H3 q2 (.tup ([.str "@"] ++ vs1)) = H4 at hA4 s34 f4
            have s4 := same_trans s3 s34
            refine ⟨_, rfl, _, rfl, _, rfl, _, _, rfl, rfl, p, c, nm, cells, xs, (by show [V.ref p, V.ref nm, V.int (((d + 1 : Nat) : Int) - 1)] = _; rw [ed]), hA4, stays s4 np hn, np, ok, x0, x1, fun ws2 a2 vs2 H5 hA5 s45 ha2 w2 o2 l2 => ?_⟩
            have v2 : vs2 ≠ [] := fun z => o2.ne (List.eq_nil_of_length_eq_zero (by rw [← w2.1, z]; rfl))
            have f5 := stays s45 n2 f4
            have ww := ((WdsAt.one WdAt.us).app ((w1.same s34).same s45)).app w2
            refine ⟨q2, a2, _, vs2, rfl, rfl, SqT.of f5, SqT.of ha2, (by rw [List.length_append, w1.1, w2.1]; show 1 + ws1.length + ws2.length ≤ sizeLine; exact big2 (by omega)), (fun h => by cases h), (fun _ h => absurd h v2), fun _ _ q3 hq3 => ?_⟩
            refine kq ([.st "@"] ++ ws1 ++ ws2) q3 _ _ (hA5.same (same_new (same_refl _) hq3)) (newOff (same_trans s4 s45) hq3) upd_same (ww.same (del_same_of (same_new (same_refl _) hq3))) ?_ ?_
            · have := One.use o1 o2
              rwa [List.append_assoc]
            · rw [List.length_append, List.length_append, List.length_singleton]; omega
          · refine ⟨_, rfl, _, rfl, p, c, nm, cells, xs, rfl, hA1, SqL.of hn1, np, x0, x1, fun k v H2 hk hA2 o2 => ?_⟩
            obtain ⟨z, rfl, hz⟩ := ok v (List.mem_of_getElem? hk)
            have s2 := same_trans s1 (del_off o2)
            refine ⟨_, rfl, p, c, cells, rfl, hA2, fun t y H3 hA3 s23 ht g => ?_⟩
            have s3 := same_trans s2 s23
            refine ⟨(by show 2 ≤ sizeLine; decide), fun q0 hq0 => ?_⟩
            have n0 := hA3.fresh hq0
            have hA4 := hA3.same (same_new (o := .tup [.str z, y]) (same_refl _) hq0)
            have s34 := newOff (o := .tup [.str z, y]) (same_refl (del H3 p)) hq0
            have f0 : upd H3 q0 (.tup [.str z, y]) q0 = some (.tup [.str z, y]) := upd_same
            generalize upd H3 q0 (.tup [.str z, y]) = H4 at hA4 s34 f0
            have s4 := same_trans s3 s34
            have w0 : WdAt K (del H4 p) (.pr (some z) t) (.ref q0) := WdAt.tk (nameQ_B hz) (by rw [del_ne n0]; exact f0) (ht.same s34) (by have := g.2.2; have : (2 : Nat) ^ (1 + 1) = 4 := rfl; omega)
            refine ⟨(by show 1 ≤ sizeLine; decide), fun q1 hq1 => ?_⟩
            have n1 := hA4.fresh hq1
            have hA5 := hA4.same (same_new (o := .tup [.ref q0]) (same_refl _) hq1)
            have s45 := newOff (o := .tup [.ref q0]) (same_refl (del H4 p)) hq1
            have f1 : upd H4 q1 (.tup [.ref q0]) q1 = some (.tup [.ref q0]) := upd_same
            generalize upd H4 q1 (.tup [.ref q0]) = H5 at hA5 s45 f1
            have s5 := same_trans s4 s45
            refine ⟨_, rfl, _, rfl, _, rfl, _, _, rfl, rfl, p, c, nm, cells, xs, (by show [V.ref p, V.ref nm, V.int (((d + 1 : Nat) : Int) - 1)] = _; rw [ed]), hA5, stays s5 np hn, np, ok, x0, x1, fun ws2 a2 vs2 H6 hA6 s56 ha2 w2 o2 l2 => ?_⟩
            have v2 : vs2 ≠ [] := fun z => o2.ne (List.eq_nil_of_length_eq_zero (by rw [← w2.1, z]; rfl))
            have ww := (WdsAt.one ((w0.same s45).same s56)).app w2
            refine ⟨q1, a2, _, vs2, rfl, rfl, SqT.of (stays s56 n1 f1), SqT.of ha2, (by rw [w2.1]; show 1 + ws2.length ≤ sizeLine; exact big2 (by omega)), (fun h => by cases h), (fun _ h => absurd h v2), fun _ _ q3 hq3 => ?_⟩
            refine kq ([.pr (some z) t] ++ ws2) q3 _ _ (hA6.same (same_new (same_refl _) hq3)) (newOff (same_trans s5 s56) hq3) upd_same (ww.same (del_same_of (same_new (same_refl _) hq3))) (One.take hz (kdB_of g.1 (by have := g.2.1; omega) (by have := g.2.2; have : (2 : Nat) ^ (1 + 1) = 4 := rfl; omega)) o2) ?_
            (rw [List.length_append, List.length_singleton]; omega)
end
end LG

set_option Elab.async false
set_option linter.all false
set_option maxRecDepth 100000
set_option maxHeartbeats 4100000
namespace LG
open PySem L2
abbrev sSpans : Stmt := top 44
theorem WdAt.tyT {K : PySem.W.Frag} {H : Hp} {w : Wd} {v : V} (hv : WdAt K H w v) (hn : w ≠ .no) : ∃ tv, TyX K H v tv ∧ PySem.W.kitOne K tv (.type "tuple") = some w.thing := by
  cases w with
  | st z =>
    obtain ⟨rfl, _⟩ := hv
    exact ⟨_, .base (.str z), kit_ty (r := false) (by decide +kernel)⟩
  | pr o t =>
    obtain ⟨a, x, y, rfl, ha, _⟩ := hv
    exact ⟨_, .base (.tup ha), kit_ty (r := true) (by decide +kernel)⟩
  | no => exact absurd rfl hn
/-- the ends of the parts that wait behind a place, the next one last -/
def wtL (ws : List Wd) (i : Nat) : List V := ((stk i ((pend (ws.drop i)).getD [])).reverse).map fun t : Nat => V.int (t : Int)
theorem wtL_of {ws : List Wd} {i : Nat} {l : List Nat} (h : pend (ws.drop i) = some l) : wtL ws i = ((stk i l).reverse).map fun t : Nat => V.int (t : Int) := by unfold wtL; rw [h]; rfl
theorem wt_step {ws : List Wd} {i a : Nat} {l : List Nat} (h : pend (ws.drop i) = some (a :: l)) : wtL ws i = ((stk (i + a) l).reverse.map fun t : Nat => V.int (t : Int)) ++ [V.int ((i + a : Nat) : Int)] := by
  rw [wtL_of h]
  show (((i + a) :: stk (i + a) l).reverse.map fun t : Nat => V.int (t : Int)) = _
  rw [List.reverse_cons, List.map_append]; rfl
theorem wt_two {ws : List Wd} {i a b : Nat} {l : List Nat} (h : pend (ws.drop i) = some (a :: b :: l)) : wtL ws i = (((stk (i + a + b) l).reverse.map fun t : Nat => V.int (t : Int)) ++ [V.int ((i + a + b : Nat) : Int)]) ++ [V.int ((i + a : Nat) : Int)] := by
  rw [wt_step h]
  congr 1
  show (((i + a + b) :: stk (i + a + b) l).reverse.map fun t : Nat => V.int (t : Int)) = _
  rw [List.reverse_cons, List.map_append]; rfl
theorem stk_len : ∀ {l : List Nat} {i : Nat}, (stk i l).length = l.length
  | [], _ => rfl
  | a :: l, i => by show (stk (i + a) l).length + 1 = l.length + 1; rw [stk_len]
theorem pend_len : ∀ {ws : List Wd} {l : List Nat}, pend ws = some l → l.length ≤ ws.length
  | [], l, h => by cases h; exact Nat.le_refl _
  | w :: r, l, h => by
    rw [List.length_cons]
    cases u : w.use with
    | true => obtain ⟨a, b, l', e, rfl⟩ := pend_use h u; have := pend_len e; simp only [List.length_cons] at this ⊢; omega
    | false =>
      cases t : w.thing with
      | true => obtain ⟨a, l', e, rfl⟩ := pend_take h u t; have := pend_len e; simp only [List.length_cons] at this ⊢; omega
      | false => obtain ⟨l', e, rfl⟩ := pend_name h u t; have := pend_len e; simp only [List.length_cons] at this ⊢; omega
section
variable {P : Program} {w : World} {K : PySem.W.Frag} {mg : Str → Option Value} {base : Heap}
theorem scSpans : FnScope ["_law_words", "_law_found", "_law_waiting", "_law_place", "_law_last"] ["_law_words"] (defScope sSpans) := ⟨rfl, rfl, rfl, by decide +kernel, rfl, by decide +kernel, by decide +kernel⟩
theorem ok_spans {f : Addr} {fd : FuncData} (F : Fn K mg "_law_spans" sSpans ["_law_words"] f fd) (T : TxB mg) (T2 : TxD mg) : FnOk P w K mg base CX0 1 f fd ["_law_words"] (spEnds K) := by
  refine F.F.ok scSpans (fun vs H Q E h => ?_) (fun cdv A outer s H vs Q E hr h => ?_)
  · obtain ⟨_, _, rfl, _⟩ := h
    rfl
  · obtain ⟨v, ws, rfl, hv, hn, wh, kq⟩ := h
    have nd := scSpans.nd
    refine ⟨_, pss_cons (ps_set (i := 1) nd rfl (Or.inl rfl) (pe_op op_rep (pe_lst (pa_cons pe_int pa_nil)) (pe_callB call_len_seq (by rfl) T.len PySem.boot_len (pa_cons (pv 0) pa_nil))))
      (pss_cons (ps_set (i := 2) nd rfl (Or.inl rfl) (pe_lst pa_nil))
      (pss_cons (ps_for PassesOwn.never rfl (pi_range3 (by rfl) T.range (pa_cons (pe_op op_sub (pe_callB call_len_seq (by rfl) T.len PySem.boot_len (pa_cons (pv 0) pa_nil)) pe_int) (pa_cons (pe_un un_neg pe_int) (pa_cons (pe_un un_neg pe_int) pa_nil)))) (pg_name (i := 3) nd rfl (Or.inl rfl))
        (pss_cons (ps_set (i := 4) nd rfl (Or.inl rfl) (pe_op op_add (pv 3) pe_int))
        (Evl.pss_cut (ps_if (pt_cmpR (op_eqW (Nat.lt_of_le_of_lt (Nat.le_add_right _ 64) hr.units)) (pe_ix ix_tup (pv 0) (pv 3) (fun _ _ => rfl)) pe_str (nomark _))
          (pss_cons (ps_expr (pe_bm0 PySem.F.plainAttrs_list PySem.F.slot_list_pop PySem.F.type_list_pop mt_pop (pv 2))) (pss_one (ps_set (i := 4) nd rfl (Or.inl rfl) (pe_bm0 PySem.F.plainAttrs_list PySem.F.slot_list_pop PySem.F.type_list_pop mt_pop (pv 2)))))
          (pss_one (ps_if (pt_val (pe_callB call_isi (by rfl) T.isinstance (by decide +kernel) (pa_cons (pe_ix ix_tup (pv 0) (pv 3) (fun _ _ => rfl)) (pa_cons (pe_bltn (v := .ty "tuple") (by rfl) T2.tuple (by decide +kernel) rfl) pa_nil))))
            (pss_one (ps_set (i := 4) nd rfl (Or.inl rfl) (pe_bm0 PySem.F.plainAttrs_list PySem.F.slot_list_pop PySem.F.type_list_pop mt_pop (pv 2)))) pss_nil)))
        (pss_cons (ps_asg (pv 4) (pg_sub (pv 1) (pv 3) set_list))
        (pss_one (ps_expr (pe_bm PySem.F.plainAttrs_list PySem.F.slot_list_append PySem.F.type_list_append mt_append (pv 2) (pa_cons (pv 4) pa_nil))))))))
      (pss_one (ps_ret (pv 1))))), ?_⟩
    obtain ⟨a, vs, rfl, ha, hw, hl⟩ := hv
    have lv := hw.1
    refine ⟨(by show 1 ≤ sizeLine; decide), fun p hp => ?_⟩
    have ha1 : upd H p (.lst [V.int 0]) a = some (.tup vs) := by rw [upd_ne (ne_of_none ha hp)]; exact ha
    refine ⟨_, rfl, _, _, rfl, .inr (SqT.of ha1), p, _, _, rfl, rfl, upd_same, by omega, by have := line63; omega, (by show 1 * _ ≤ sizeLine; rw [Nat.one_mul, lv]; exact big2 (by omega)), fun l hl0 => ?_⟩
    refine ⟨(by show 0 ≤ sizeLine; decide), fun wl hwl => ?_⟩
    have e0 : (List.replicate ((vs.length : Int)).toNat [V.int 0]).flatten = enL ws ws.length := by
      rw [← enL_top, lv]
      show (List.replicate ws.length [V.int 0]).flatten = _
      rw [List.flatten_replicate_singleton]
    rw [e0] at hwl ⊢
    have s1 : Same H (upd H p (.lst [V.int 0])) := same_new (same_refl H) hp
    have nl : H l = none := same_none s1 hl0
    have s2 := same_new (o := .lst (enL ws ws.length)) s1 hl0
    have nwl : H wl = none := same_none s2 hwl
    have lw : l ≠ wl := ne_of_none upd_same hwl
    have s3 := same_new (o := .lst []) s2 hwl
    have g1 : upd (upd (upd H p (.lst [V.int 0])) l (.lst (enL ws ws.length))) wl (.lst []) l = some (.lst (enL ws ws.length)) := by rw [upd_ne lw]; exact upd_same
    have g2 : upd (upd (upd H p (.lst [V.int 0])) l (.lst (enL ws ws.length))) wl (.lst []) wl = some (.lst []) := upd_same
    generalize upd (upd (upd H p (.lst [V.int 0])) l (.lst (enL ws ws.length))) wl (.lst []) = G at s3 g1 g2
    refine ⟨_, rfl, _, _, rfl, .inr (SqT.of (s3 _ _ ha)), _, _, rfl, rfl, _, rfl, _, rfl, _, _, _, _, rfl, RgC.neg (by omega) (by omega) (by decide) (by decide), ?_⟩
    have en : ((vs.length : Int) - 1 - -1).toNat = ws.length := by omega
    rw [en]
    refine for_rangeC (fun i σ H' => ∃ t3 t4, σ = [some (.ref a), some (.ref l), some (.ref wl), t3, t4] ∧ Same H H' ∧ H' l = some (.lst (enL ws (ws.length - i))) ∧ H' wl = some (.lst (wtL ws (ws.length - i)))) ⟨none, none, rfl, s3, by rw [Nat.sub_zero]; exact g1, by rw [Nat.sub_zero, wtL_of (l := []) (by rw [List.drop_length]; rfl)]; exact g2⟩ ?_ ?_
    · rintro i σ H1 hi ⟨t3, t4, rfl, s1', hl1, hw1⟩
      have hj : ws.length - 1 - i < ws.length := by omega
      have ep : (vs.length : Int) - 1 + (i : Nat) * (-1) = ((ws.length - 1 - i : Nat) : Int) := by omega
      rw [ep]
      have ek : ws.length - i = ws.length - 1 - i + 1 := by omega
      have ek2 : ws.length - (i + 1) = ws.length - 1 - i := by omega
      rw [ek] at hl1 hw1
      rw [ek2]
      generalize hpl : ws.length - 1 - i = pl at hj hl1 hw1
      obtain ⟨wj, hwj⟩ : ∃ wj, ws[pl]? = some wj := ⟨_, List.getElem?_eq_getElem hj⟩
      obtain ⟨vj, hvj⟩ : ∃ vj, vs[pl]? = some vj := ⟨_, List.getElem?_eq_getElem (by omega)⟩
      have wd := (hw.2 _ _ _ hwj hvj).same s1'
      have nn := hn wj (List.mem_of_getElem? hwj)
      have ha2 := s1' _ _ ha
      obtain ⟨c, L, e, _, _, eo⟩ := wh.at hj
      have e' := e
      rw [List.drop_eq_getElem_cons hj, (List.getElem?_eq_some_iff.mp hwj).2] at e'
      have st := wt_step e
      refine ⟨_, rfl, _, _, rfl, rfl, ?_⟩
      refine ⟨fun σ' H' => ∃ R, σ' = [some (.ref a), some (.ref l), some (.ref wl), some (.int (pl : Int)), some (.int (ofE ws pl : Int))] ∧ Same H H' ∧ H' l = some (.lst (enL ws (pl + 1))) ∧ H' wl = some (.lst R) ∧ R ++ [V.int (ofE ws pl : Int)] = wtL ws pl ∧ R.length ≤ ws.length, ?_, ?_⟩
      · have wlen : (wtL ws (pl + 1)).length ≤ ws.length := by
          obtain ⟨x, hx⟩ := pend_drop wh (pl + 1)
          rw [wtL_of hx, List.length_map, List.length_reverse, stk_len]
          have := pend_len hx
          rw [List.length_drop] at this
          omega
        refine ⟨_, rfl, _, rfl, a, _, _, _, rfl, rfl, SqT.of ha2, atI_nat hvj, wj.use, wd.eqUse nn, _, rfl, ?_⟩
        refine ite2 (fun u => ?_) (fun u => ?_)
        · obtain ⟨x, b, l', e1, q⟩ := pend_use e' u
          cases q
          have w2 := wt_two e1
          rw [w2] at hw1 wlen
          generalize hS : ((stk (pl + 1 + x + b) L).reverse.map fun t : Nat => V.int (t : Int)) = S at hw1 w2 wlen
          refine ⟨_, rfl, .inl ⟨rfl, _, SqL.of hw1⟩, wl, _, _, rfl, rfl, hw1, (by simp; rfl), ?_⟩
          rw [show ((S ++ [V.int ((pl + 1 + x + b : Nat) : Int)]) ++ [V.int ((pl + 1 + x : Nat) : Int)]).dropLast = S ++ [V.int ((pl + 1 + x + b : Nat) : Int)] by simp]
          have g1' : upd H1 wl (.lst (S ++ [V.int ((pl + 1 + x + b : Nat) : Int)])) wl = some (.lst (S ++ [V.int ((pl + 1 + x + b : Nat) : Int)])) := upd_same
          refine ⟨_, rfl, .inl ⟨rfl, _, SqL.of g1'⟩, wl, _, _, rfl, rfl, g1', (by simp; rfl), ?_⟩
          rw [show (S ++ [V.int ((pl + 1 + x + b : Nat) : Int)]).dropLast = S by simp]
          refine ⟨S, ?_, fun b o q => by rw [upd_ne (ne_of_none q nwl), upd_ne (ne_of_none q nwl)]; exact s1' _ _ q, by rw [upd_ne lw, upd_ne lw]; exact hl1, upd_same, ?_, ?_⟩
          · rw [eo]
            show [some (V.ref a), some (.ref l), some (.ref wl), some (.int (pl : Int)), some (.int ((pl + 1 + x + b : Nat) : Int))] = _
            rw [show pl + 1 + x + b = pl + (x + b + 1) by omega]
          · rw [st, eo, ← hS, show pl + 1 + x + b = pl + (x + b + 1) by omega]
          · simp only [List.length_append, List.length_singleton] at wlen; omega
        · have u : wj.use = false := Bool.eq_false_iff.mpr u
          obtain ⟨tv, ty, kt⟩ := wd.tyT nn
          refine ⟨_, rfl, _, rfl, a, _, _, _, rfl, rfl, SqT.of ha2, atI_nat hvj, _, _, _, _, _, rfl, .ty _, ty, kt, _, rfl, ?_⟩
          refine ite2 (fun t => ?_) (fun t => ?_)
          · obtain ⟨x, l', e1, q⟩ := pend_take e' u t
            cases q
            have w2 := wt_step e1
            rw [w2] at hw1 wlen
            generalize hS : ((stk (pl + 1 + x) L).reverse.map fun t : Nat => V.int (t : Int)) = S at hw1 w2 wlen
            refine ⟨_, rfl, .inl ⟨rfl, _, SqL.of hw1⟩, wl, _, _, rfl, rfl, hw1, (by simp; rfl), ?_⟩
            rw [show (S ++ [V.int ((pl + 1 + x : Nat) : Int)]).dropLast = S by simp]
            refine ⟨S, ?_, fun b o q => by rw [upd_ne (ne_of_none q nwl)]; exact s1' _ _ q, by rw [upd_ne lw]; exact hl1, upd_same, ?_, ?_⟩
            · rw [eo]
              show [some (V.ref a), some (.ref l), some (.ref wl), some (.int (pl : Int)), some (.int ((pl + 1 + x : Nat) : Int))] = _
              rw [show pl + 1 + x = pl + (x + 1) by omega]
            · rw [st, eo, ← hS, show pl + 1 + x = pl + (x + 1) by omega]
            · simp only [List.length_append, List.length_singleton] at wlen; omega
          · obtain ⟨l', e1, q⟩ := pend_name e' u (Bool.eq_false_iff.mpr t)
            cases q
            refine ⟨wtL ws (pl + 1), ?_, s1', hl1, hw1, ?_, wlen⟩
            · rw [eo]; rfl
            · rw [st, eo, wtL_of e1]
      · rintro _ H2 ⟨R, rfl, s2', hl2, hw2, eR, lR⟩
        refine ⟨_, rfl, _, rfl, _, rfl, l, _, _, pl, rfl, rfl, hl2, Evl.ixN_nat (by rw [enL_len]; exact hj), ?_⟩
        have g3 : upd H2 l (.lst ((enL ws (pl + 1)).set pl (V.int (ofE ws pl : Int)))) wl = some (.lst R) := by rw [upd_ne lw.symm]; exact hw2
        refine ⟨_, rfl, .inl ⟨rfl, _, SqL.of g3⟩, _, rfl, wl, _, _, rfl, rfl, g3, room2 (by omega), ?_⟩
        refine ⟨_, _, rfl, fun b o q => by rw [upd_ne (ne_of_none q nwl), upd_ne (ne_of_none q nl)]; exact s2' _ _ q, ?_, ?_⟩
        · rw [upd_ne lw, upd_same, enL_set hj]
        · rw [upd_same, eR]
    · rintro σ H1 ⟨t3, t4, rfl, h1, h2, h3⟩
      rw [Nat.sub_self] at h2
      exact ⟨_, rfl, kq l H1 nl h1 h2⟩
end
end LG

set_option Elab.async false
set_option linter.all false
set_option maxRecDepth 100000
set_option maxHeartbeats 4100000
namespace LG
open PySem L2
abbrev sHeads : Stmt := top 45
theorem valV_sm : ∀ {kvs : List (Key × V)} {k : Key} {v : V}, valV kvs k = some v → (k, v) ∈ kvs
  | p :: r, k, v, h => by
    by_cases e : p.1 = k
    · rw [valV_pos e] at h
      cases h
      rw [← e]; exact List.mem_cons_self
    · rw [valV_neg e] at h
      exact List.mem_cons_of_mem _ (valV_sm h)
/-- names with kinds, in a dict -/
structure InD (K : PySem.W.Frag) (G : Hp) (kvs : List (Key × V)) : Prop where
  each : ∀ p ∈ kvs, ∃ z t, p.1 = .inr z ∧ nameQ z = true ∧ ThAt K G t p.2 ∧ KdOk t
theorem InD.same {K : PySem.W.Frag} {G G' : Hp} {kvs : List (Key × V)} (h : InD K G kvs) (s : Same G G') : InD K G' kvs := ⟨fun p hp => by
  obtain ⟨z, t, e, n, ht, k⟩ := h.each p hp
  exact ⟨z, t, e, n, ht.same s, k⟩⟩
theorem InD.put {K : PySem.W.Frag} {G : Hp} {kvs : List (Key × V)} (h : InD K G kvs) {z : Str} {t : Th} {v : V} (n : nameQ z = true) (ht : ThAt K G t v) (k : KdOk t) : InD K G (putK kvs (.inr z) v) := ⟨fun p hp => by
  unfold putK at hp
  split at hp
  · obtain ⟨q, hq, e⟩ := List.mem_map.mp hp
    split at e
    · rename_i e1
      rw [← e]
      exact ⟨z, t, e1, n, ht, k⟩
    · rw [← e]; exact h.each q hq
  · obtain q | q := List.mem_append.mp hp
    · exact h.each p q
    · rw [List.mem_singleton] at q
      rw [q]; exact ⟨z, t, rfl, n, ht, k⟩⟩
theorem InD.names {K : PySem.W.Frag} {G : Hp} {kvs : List (Key × V)} (h : InD K G kvs) : ∃ ks : List Str, kvs.map (·.1) = ks.map Sum.inr ∧ ∀ z ∈ ks, nameQ z = true ∧ ∃ t v, valV kvs (.inr z) = some v ∧ ThAt K G t v ∧ KdOk t := by
  have e : ∀ l : List (Key × V), (∀ p ∈ l, ∃ z, p.1 = Sum.inr z) → ∃ ks : List Str, l.map (·.1) = ks.map Sum.inr := fun l => by
    induction l with
    | nil => (intro _; exact ⟨[], rfl⟩)
    | cons p r ih =>
      intro hl
      obtain ⟨z, ez⟩ := hl p List.mem_cons_self
      obtain ⟨ks, ek⟩ := ih fun q hq => hl q (List.mem_cons_of_mem _ hq)
      exact ⟨z :: ks, by rw [List.map_cons, List.map_cons, ez, ek]⟩
  obtain ⟨ks, ek⟩ := e kvs fun p hp => let ⟨z, _, ez, _⟩ := h.each p hp; ⟨z, ez⟩
  refine ⟨ks, ek, fun z hz => ?_⟩
  have mk : (Sum.inr z : Key) ∈ kvs.map (·.1) := by rw [ek]; exact List.mem_map.mpr ⟨z, hz, rfl⟩
  cases q : valV kvs (.inr z) with
  | none => exact absurd mk (valV_not q)
  | some v =>
    obtain ⟨y, t, ey, n, ht, k⟩ := h.each _ (valV_sm q)
    cases ey
    exact ⟨n, t, v, rfl, ht, k⟩
theorem fin_int {K : PySem.W.Frag} {G : Hp} {t : Th} {e : V} (ha : t.any = true) (h : ThAt K G t.fin e) : ∃ i : Int, e = .int i := by
  have l := Th.fin_letter ha
  cases q : t.fin with
  | int i => rw [q] at h; exact ⟨i, h⟩
  | bl b => rw [q] at l; cases l
  | non => rw [q] at l; cases l
  | tup => rw [q] at l; cases l
  | pr x y => rw [q] at l; cases l
def spHeads (K : PySem.W.Frag) : Sp := fun vs H Q _ => ∃ (d : Addr) (e : Int) (deep : Nat) (kvs : List (Key × V)) (G : Hp), vs = [.ref d, .int e, .int (deep : Int)] ∧ H d = some (.dK kvs) ∧ InD K G kvs ∧ Same G H ∧ kvs.length < 60 ∧
  ∀ l H' (xs : List Str), H l = none → Same H H' → H' l = some (.lst (xs.map V.str)) → xs.length < 60 → (∀ z ∈ xs, nameQ z = true ∧ ∃ t v, valV kvs (.inr z) = some v ∧ ThAt K G t v ∧ KdOk t ∧ (deep = 0 → t.isPr = false)) → Q (.ref l) H'
section
variable {P : Program} {w : World} {K : PySem.W.Frag} {mg : Str → Option Value} {base : Heap}
theorem scHeads : FnScope ["_law_inner", "_law_end", "_law_deep_here", "_law_found", "_law_name"] ["_law_inner", "_law_end", "_law_deep_here"] (defScope sHeads) := ⟨rfl, rfl, rfl, by decide +kernel, rfl, by decide +kernel, by decide +kernel⟩
theorem ok_heads {f fE : Addr} {fd fdE : FuncData} (F : Fn K mg "_law_heads" sHeads ["_law_inner", "_law_end", "_law_deep_here"] f fd) (NE : Fn K mg "_law_ends" sLEnds ["_law_kind_here"] fE fdE) (T : TxB mg) (T2 : TxD mg) : FnOk P w K mg base CX0 2 f fd ["_law_inner", "_law_end", "_law_deep_here"] (spHeads K) := by
  have GE : FnOk P w K mg base CX0 1 fE fdE ["_law_kind_here"] (spLEnds K) := ok_lends NE T T2
  refine F.F.ok scHeads (fun vs H Q E h => ?_) (fun cdv A outer s H vs Q E hr h => ?_)
  · obtain ⟨_, _, _, _, _, rfl, _⟩ := h
    rfl
  · obtain ⟨d, e, deep, kvs, G, rfl, hd, hi, sG, hl, kq⟩ := h
    have nd := scHeads.nd
    have hu := hu_of hr
    refine ⟨_, pss_cons (ps_set (i := 3) nd rfl (Or.inl rfl) (pe_lst pa_nil))
      (pss_cons (ps_for PassesOwn.never rfl (pi_list (pe_callB (call_sortedD rfl) (by rfl) T2.sorted (by decide +kernel) (pa_cons (pv 0) pa_nil))) (pg_name (i := 4) nd rfl (Or.inl rfl))
        (pss_one (ps_if (PW.pt (pw_and (pt_cmpR op_eq (pe_ix ix_tup (pe_call GE hr (by rfl) NE.m NE.F.kp NE.b .nil pass0 (pa_cons (pe_dget hu (pv 0) (pv 4) (fun _ _ => rfl)) pa_nil)) pe_int (fun _ _ => rfl)) (pv 1) (nomark _))
            (pw_and1 (PW.pt (pw_or (pt_cmpR op_gt (pv 2) pe_int (nomark _)) (pw_or1 (pt_not (pt_val (pe_callB call_isi (by rfl) T.isinstance (by decide +kernel) (pa_cons (pe_dget hu (pv 0) (pv 4) (fun _ _ => rfl)) (pa_cons (pe_bltn (v := .ty "tuple") (by rfl) T2.tuple (by decide +kernel) rfl) pa_nil)))))))))))
          (pss_one (ps_expr (pe_bm PySem.F.plainAttrs_list PySem.F.slot_list_append PySem.F.type_list_append mt_append (pv 3) (pa_cons (pv 4) pa_nil)))) pss_nil)))
      (pss_one (ps_ret (pv 3)))), ?_⟩
    refine ⟨(by show 0 ≤ sizeLine; decide), fun fl hfl => ?_⟩
    have ndf : d ≠ fl := ne_of_none hd hfl
    have hd1 : upd H fl (.lst []) d = some (.dK kvs) := by rw [upd_ne ndf]; exact hd
    obtain ⟨ks, ek, hk⟩ := hi.names
    have kl : ks.length < 60 := by have := congrArg List.length ek; rw [List.length_map, List.length_map] at this; omega
    refine ⟨_, rfl, d, kvs, ks, rfl, .inl hd1, ek, by omega, fun ys q pm _ hq => ?_⟩
    have s1 := same_new (o := .lst []) (same_refl H) hfl
    have s2 := same_new (o := .lst (ys.map V.str)) s1 hq
    have nfq : fl ≠ q := ne_of_none upd_same hq
    have f2 : upd (upd H fl (.lst [])) q (.lst (ys.map V.str)) fl = some (.lst []) := by rw [upd_ne nfq]; exact upd_same
    have q2 : upd (upd H fl (.lst [])) q (.lst (ys.map V.str)) q = some (.lst (ys.map V.str)) := upd_same
    have yl : ys.length < 60 := by rw [pm.length_eq]; exact kl
    generalize upd (upd H fl (.lst [])) q (.lst (ys.map V.str)) = H2 at s2 f2 q2
    refine ⟨q, rfl, ⟨_, SqL.of q2⟩, ?_⟩
    refine for_it walk_list (fun i σ H' => ∃ (t4 : Option V) (xs : List Str), σ = [some (.ref d), some (.int e), some (.int (deep : Int)), some (.ref fl), t4] ∧ Same H H' ∧ H' q = some (.lst (ys.map V.str)) ∧ H' fl = some (.lst (xs.map V.str)) ∧ xs.length ≤ i ∧ ∀ z ∈ xs, nameQ z = true ∧ ∃ t v, valV kvs (.inr z) = some v ∧ ThAt K G t v ∧ KdOk t ∧ (deep = 0 → t.isPr = false))
      ⟨none, [], rfl, s2, q2, f2, Nat.le_refl _, (fun z h => by cases h)⟩ (fun i σ H' _ ⟨_, _, _, _, h, _⟩ => SqL.of h) ?_ ?_
    · rintro i y σ H' _ hi' ⟨t4, xs, rfl, h1, h2, h3, h4, h5⟩ ⟨rfl, hy⟩
      rw [List.length_map] at hi'
      obtain ⟨z, hz⟩ : ∃ z, ys[i]? = some z := ⟨_, List.getElem?_eq_getElem hi'⟩
      rw [List.getElem?_map, hz] at hy
      cases hy
      obtain ⟨nz, t, v, hv, ht, ko⟩ := hk z (pm.mem_iff.mp (List.mem_of_getElem? hz))
      have hd' := h1 _ _ hd
      have g : ∀ G' : Hp, G' d = some (.dK kvs) → DGet G' d (kV (.inr z)) (some v) := fun G' q => by rw [← hv]; exact DGet.k q
      have sk : ∀ H3 : Hp, Same H H3 → H3 q = some (.lst (ys.map V.str)) → H3 fl = some (.lst (xs.map V.str)) → ∃ (t4 : Option V) (xs : List Str), [some (V.ref d), some (.int e), some (.int (deep : Int)), some (.ref fl), some (V.str z)] = [some (.ref d), some (.int e), some (.int (deep : Int)), some (.ref fl), t4] ∧ Same H H3 ∧ H3 q = some (.lst (ys.map V.str)) ∧ H3 fl = some (.lst (xs.map V.str)) ∧ xs.length ≤ i + 1 ∧ ∀ z ∈ xs, nameQ z = true ∧ ∃ t v, valV kvs (.inr z) = some v ∧ ThAt K G t v ∧ KdOk t ∧ (deep = 0 → t.isPr = false) :=
        fun H3 a1 a2 a3 => ⟨_, xs, rfl, a1, a2, a3, by omega, h5⟩
      refine ⟨_, rfl, _, rfl, d, _, rfl, g _ hd', v, t, G, rfl, ht, same_trans sG h1, by have := ko.2.2; omega, ko.1, fun ps ev p0 q0 H3 eps hps hev s13 hp0 hq0 gp0 gq0 => ?_⟩
      obtain ⟨e', rfl⟩ := fin_int ko.1 hev
      have a1 := same_trans h1 s13
      refine ⟨p0, _, _, _, rfl, rfl, SqT.of gp0, rfl, _, rfl, rfl, _, rfl, ?_⟩
      refine ite2 (fun c => ?_) (fun c => ?_)
      · have add : (deep = 0 → t.isPr = false) → ∃ (t4 : Option V) (xs' : List Str), [some (V.ref d), some (.int e), some (.int (deep : Int)), some (.ref fl), some (V.str z)] = [some (.ref d), some (.int e), some (.int (deep : Int)), some (.ref fl), t4] ∧ Same H (upd H3 fl (.lst (xs.map V.str ++ [V.str z]))) ∧ upd H3 fl (.lst (xs.map V.str ++ [V.str z])) q = some (.lst (ys.map V.str)) ∧ upd H3 fl (.lst (xs.map V.str ++ [V.str z])) fl = some (.lst (xs'.map V.str)) ∧ xs'.length ≤ i + 1 ∧ ∀ z ∈ xs', nameQ z = true ∧ ∃ t v, valV kvs (.inr z) = some v ∧ ThAt K G t v ∧ KdOk t ∧ (deep = 0 → t.isPr = false) := fun dp =>
          ⟨_, xs ++ [z], rfl, fun b o r => by rw [upd_ne (ne_of_none r hfl)]; exact a1 _ _ r, by rw [upd_ne nfq.symm]; exact s13 _ _ h2, by rw [upd_same, List.map_append]; rfl, by rw [List.length_append, List.length_singleton]; omega, fun x hx => by
            rcases List.mem_append.mp hx with r | r
            · exact h5 x r
            · rw [List.mem_singleton] at r
              rw [r]; exact ⟨nz, t, v, hv, ht, ko, dp⟩⟩
        refine ⟨_, rfl, _, _, rfl, rfl, _, rfl, ?_⟩
        refine ite2 (fun dd => ?_) (fun dd => ?_)
        · have d0 : ¬ deep = 0 := fun r => by have := of_decide_eq_true dd; omega
          refine ifT rfl ?_
          refine ⟨_, rfl, .inl ⟨rfl, _, SqL.of (s13 _ _ h3)⟩, _, rfl, fl, _, _, rfl, rfl, s13 _ _ h3, (by rw [List.length_map]; exact room2 (by omega)), add fun r => absurd r d0⟩
        · have d0 : deep = 0 := Classical.byContradiction fun r => dd (decide_eq_true (by omega))
          obtain ⟨tv, ty, k1, k2, k3⟩ := ((ht.same sG).same a1).ty
          have hd3 := a1 _ _ hd
          refine ⟨_, rfl, _, rfl, d, _, rfl, g _ hd3, _, _, _, _, _, rfl, .ty _, ty, k3, _, rfl, ?_⟩
          cases t with
          | pr x y =>
            refine ifF rfl ?_
            exact sk H3 a1 (s13 _ _ h2) (s13 _ _ h3)
          | int j =>
            refine ifT rfl ?_
            exact ⟨_, rfl, .inl ⟨rfl, _, SqL.of (s13 _ _ h3)⟩, _, rfl, fl, _, _, rfl, rfl, s13 _ _ h3, (by rw [List.length_map]; exact room2 (by omega)), add fun _ => rfl⟩
          | bl b => cases ko.1
          | non => cases ko.1
          | tup => cases ko.1
      · exact sk H3 a1 (s13 _ _ h2) (s13 _ _ h3)
    · rintro σ H3 ⟨t4, xs, rfl, h1, h2, h3, h4, h5⟩
      rw [List.length_map] at h4
      exact ⟨_, rfl, kq fl H3 xs hfl h1 h3 (by omega) h5⟩
end
end LG

set_option Elab.async false
set_option linter.all false
set_option maxRecDepth 100000
set_option maxHeartbeats 8100000
namespace LG
open PySem L2
abbrev sLFit : Stmt := top 46
def sixN : List V := [.str "x", .str "y", .str "z", .str "x", .str "u", .str "v"]
theorem sixN_ok : NmL sixN := by
  intro v hv
  simp only [sixN, List.mem_cons, List.not_mem_nil, or_false] at hv
  rcases hv with rfl | rfl | rfl | rfl | rfl | rfl <;> exact ⟨_, rfl, by decide +kernel⟩
def triN : List V := [.str "x", .str "y", .str "q"]
theorem triN_ok : NmL triN := by
  intro v hv
  simp only [triN, List.mem_cons, List.not_mem_nil, or_false] at hv
  rcases hv with rfl | rfl | rfl <;> exact ⟨_, rfl, by decide +kernel⟩
def szF : Nat → Nat
  | 0 => 3
  | d + 1 => 7 + 4 * szF d
theorem szF_ge : ∀ d, 3 ≤ szF d
  | 0 => Nat.le_refl _
  | d + 1 => by show 3 ≤ 7 + 4 * szF d; omega
def spLFit (K : PySem.W.Frag) (d : Nat) : Sp := fun vs H Q _ => ∃ (p c kd : Addr) (cells : List Int) (kvs : List (Key × V)) (t : Th) (v : V), vs = [.ref p, .ref kd, v, .int (d : Int)] ∧ HandAt H p c cells ∧ H kd = some (.dK kvs) ∧ kd ≠ p ∧ InD K (del H p) kvs ∧ kvs.length + 3 * (d + 1) < 50 ∧ ThAt K (del H p) t v ∧ KdOk t ∧ BackP K H p c cells (szF d) Q
/-- takes alone -/
def Tks (ws : List Wd) : Prop := ∀ w ∈ ws, ∃ z t, w = .pr (some z) t ∧ nameQ z = true ∧ kdB t = true
theorem One.takes : ∀ {ts ws : List Wd}, Tks ts → One ws → One (ts ++ ws)
  | [], ws, _, h => h
  | t :: ts, ws, ht, h => by
    obtain ⟨z, k, rfl, hz, hk⟩ := ht t List.mem_cons_self
    exact One.take hz hk (One.takes (fun w hw => ht w (List.mem_cons_of_mem _ hw)) h)
theorem same_dd {G G' : Hp} {D : Addr} {o : HO} (s : Same G G') : Same (del G D) (del (upd G' D o) D) := fun b u e => by
  by_cases hb : b = D
  · rw [hb, del_same] at e; cases e
  · rw [del_ne hb] at e ⊢; rw [upd_ne hb]; exact s b u e
theorem del_upd {H : Hp} {p D : Addr} {o : HO} (n : D ≠ p) : del (upd H D o) p = upd (del H p) D o := by
  funext b
  by_cases hb : b = p
  · rw [hb, del_same, upd_ne n.symm, del_same]
  · rw [del_ne hb]
    by_cases hd : b = D
    · rw [hd, upd_same, upd_same]
    · rw [upd_ne hd, upd_ne hd, del_ne hb]
theorem KdOk.left {t x : Th} (h : KdOk t) (hx : x ∈ t.lefts) : KdOk x := ⟨Th.lefts_any h.1 x hx, by have := Th.lefts_depth hx; have := h.2.1; omega, by have := Th.lefts_size hx; have := h.2.2; omega⟩
def PgH (K : PySem.W.Frag) (H : Hp) (p a : Addr) (ws : List Wd) : Prop := ∃ vs, H a = some (.tup vs) ∧ WdsAt K (del H p) ws vs
/-- while a program is drawn -/
structure FitI (K : PySem.W.Frag) (H H' : Hp) (p c : Addr) (cells : List Int) (di tk : Addr) (m : Nat) (kvs : List (Key × V)) (tw : List Wd) : Prop where
  hand : HandAt H' p c cells
  same : Same (del H p) (del H' p)
  dOf : H' di = some (.dK kvs)
  dp : di ≠ p
  ind : InD K (del H' p) kvs
  len : kvs.length ≤ m
  tks : PgH K H' p tk tw
  ok : Tks tw
theorem FitI.mono {K : PySem.W.Frag} {H H' H2 : Hp} {p c : Addr} {cells : List Int} {di tk : Addr} {m : Nat} {kvs : List (Key × V)} {tw : List Wd} (h : FitI K H H' p c cells di tk m kvs tw) (hA : HandAt H2 p c cells) (s : Same (del H' p) (del H2 p)) : FitI K H H2 p c cells di tk m kvs tw := by
  obtain ⟨vs, h1, h2⟩ := h.tks
  have ntk : tk ≠ p := by
    obtain ⟨l, e⟩ := h.hand.some
    rintro rfl
    rw [h1] at e; cases e
  exact ⟨hA, same_trans h.same s, stays s h.dp h.dOf, h.dp, h.ind.same s, h.len, ⟨vs, stays s ntk h1, h2.same s⟩, h.ok⟩
section
variable {P : Program} {w : World} {K : PySem.W.Frag} {mg : Str → Option Value} {base : Heap}
theorem scLFit : FnScope ["_law_hand_here", "_law_known_here", "_law_kind_here", "_law_deep_here", "_law_lefts", "_law_end", "_law_inner", "_law_taken", "_law_left", "_law_name", "_law_some_here", "_law_found", "_law_wider", "_law_body"] ["_law_hand_here", "_law_known_here", "_law_kind_here", "_law_deep_here"] (defScope sLFit) := ⟨rfl, rfl, rfl, by decide +kernel, rfl, by decide +kernel, by decide +kernel⟩
theorem ok_lfit1 {f fD fS fK fE fH : Addr} {fd fdD fdS fdK fdE fdH : FuncData} {d n : Nat} {spR : Sp} (F : Fn K mg "_law_fit" sLFit ["_law_hand_here", "_law_known_here", "_law_kind_here", "_law_deep_here"] f fd) (ND : Fn K mg "_law_draw" sDraw ["_law_hand_here", "_law_many"] fD fdD) (NS : Fn K mg "_law_some" sSome ["_law_hand_here", "_law_things"] fS fdS)
    (NK : Fn K mg "_law_kind" sKd ["_law_hand_here", "_law_deep_here"] fK fdK) (NE : Fn K mg "_law_ends" sLEnds ["_law_kind_here"] fE fdE) (NH : Fn K mg "_law_heads" sHeads ["_law_inner", "_law_end", "_law_deep_here"] fH fdH) (T : TxB mg) (T2 : TxD mg)
    (G : FnOk P w K mg base CX0 n f fd ["_law_hand_here", "_law_known_here", "_law_kind_here", "_law_deep_here"] spR) (hG : ∀ d', d = d' + 1 → spR = spLFit K d') (hn : 3 ≤ n) (hd : d ≤ 3) : FnOk P w K mg base CX0 (n + 1) f fd ["_law_hand_here", "_law_known_here", "_law_kind_here", "_law_deep_here"] (spLFit K d) := by
  have GD : FnOk P w K mg base CX0 1 fD fdD ["_law_hand_here", "_law_many"] spDraw := ok_draw ND.F T
  have GS : FnOk P w K mg base CX0 2 fS fdS ["_law_hand_here", "_law_things"] (spSome K) := ok_some NS.F T ND.F ND.b ND.m
  have GK : FnOk P w K mg base CX0 3 fK fdK ["_law_hand_here", "_law_deep_here"] (spKd K 1) := ok_kd NK ND T 1
  have GE : FnOk P w K mg base CX0 1 fE fdE ["_law_kind_here"] (spLEnds K) := ok_lends NE T T2
  have GH : FnOk P w K mg base CX0 2 fH fdH ["_law_inner", "_law_end", "_law_deep_here"] (spHeads K) := ok_heads NH NE T T2
  refine F.F.ok scLFit (fun vs H Q E h => ?_) (fun cdv A outer s H vs Q E hr h => ?_)
  · obtain ⟨_, _, _, _, _, _, _, rfl, _⟩ := h
    rfl
  · obtain ⟨p, c, kd, cells, kvs, t, v, rfl, hA, hkd, nkp, hin, hl, hv, ko, kq⟩ := h
    have nd := scLFit.nd
    have hu := hu_of hr
    have hr1 := hr.mono (show 1 ≤ n by omega)
    have hr2 := hr.mono (show 2 ≤ n by omega)
    have hr3 := hr.mono hn
    refine ⟨_, pss_cons (ps_asg (pe_call GE hr1 (by rfl) NE.m NE.F.kp NE.b .nil pass0 (pa_cons (pv 2) pa_nil)) (pg_tup rfl (pgs_cons (pg_name (i := 4) nd rfl (Or.inl rfl)) (pgs_cons (pg_name (i := 5) nd rfl (Or.inl rfl)) pgs_nil))))
      (pss_cons (ps_set (i := 6) nd rfl (Or.inl rfl) (pe_callTy call_dictD (by rfl) T2.dict (by decide +kernel) (pa_cons (pv 1) pa_nil)))
      (pss_cons (ps_set (i := 7) nd rfl (Or.inl rfl) (pe_tup pa_nil))
      (Evl.pss_cut (ps_for PassesOwn.never rfl (pi_list (pv 4)) (pg_name (i := 8) nd rfl (Or.inl rfl))
        (pss_cons (ps_set (i := 9) nd rfl (Or.inl rfl) (pe_call GS hr2 (by rfl) NS.m NS.F.kp NS.b .nil pass0 (pa_cons (pv 0) (pa_cons (pe_lst (pa_cons pe_str (pa_cons pe_str (pa_cons pe_str (pa_cons pe_str (pa_cons pe_str (pa_cons pe_str pa_nil))))))) pa_nil))))
        (pss_cons (ps_set (i := 7) nd rfl (Or.inl rfl) (pe_op op_catA (pv 7) (pe_tup (pa_cons (pe_tup (pa_cons (pv 9) (pa_cons (pv 8) pa_nil))) pa_nil))))
        (pss_one (ps_dput hu (pv 6) (pv 9) (pv 8) rfl)))))
      (Evl.pss_cut (ps_set (i := 10) nd rfl (Or.inl rfl) (pe_call GH hr2 (by rfl) NH.m NH.F.kp NH.b .nil pass0 (pa_cons (pv 6) (pa_cons (pv 5) (pa_cons (pv 3) pa_nil)))))
      (pss_cons (ps_if (pt_cmpR op_eq (pe_callB call_len_seq (by rfl) T.len PySem.boot_len (pa_cons (pv 10) pa_nil)) pe_int (nomark _))
        (pss_one (ps_ret (pe_op op_catA (pv 7) (pe_tup (pa_cons (pe_call GS hr2 (by rfl) NS.m NS.F.kp NS.b .nil pass0 (pa_cons (pv 0) (pa_cons (pe_op op_cat (pe_callB (call_sortedD rfl) (by rfl) T2.sorted (by decide +kernel) (pa_cons (pv 6) pa_nil)) (pe_lst (pa_cons pe_str pa_nil))) pa_nil))) pa_nil))))) pss_nil)
      (pss_cons (ps_set (i := 9) nd rfl (Or.inl rfl) (pe_call GS hr2 (by rfl) NS.m NS.F.kp NS.b .nil pass0 (pa_cons (pv 0) (pa_cons (pv 10) pa_nil))))
      (pss_cons (ps_set (i := 11) nd rfl (Or.inl rfl) (pe_tup (pa_cons (pv 9) pa_nil)))
      (Evl.pss_cut (ps_for PassesOwn.never rfl (pi_list (pe_ix ix_tup (pe_call GE hr1 (by rfl) NE.m NE.F.kp NE.b .nil pass0 (pa_cons (pe_dget hu (pv 6) (pv 9) (fun _ _ => rfl)) pa_nil)) pe_int (fun _ _ => rfl))) (pg_name (i := 8) nd rfl (Or.inl rfl))
        (pss_one (ps_set (i := 11) nd rfl (Or.inl rfl) (pe_op op_catA (pe_op op_catA (pe_tup (pa_cons pe_str pa_nil)) (pv 11)) (pe_call G hr (by rfl) F.m F.F.kp F.b .nil pass0 (pa_cons (pv 0) (pa_cons (pv 6) (pa_cons (pv 8) (pa_cons (pe_op op_sub (pv 3) pe_int) pa_nil)))))))))
      (Evl.pss_cut (ps_if (PW.pt (pw_and (pt_cmpR op_gt (pv 3) pe_int (nomark _)) (pw_and1 (pt_cmpR op_eq (pe_call GD hr1 (by rfl) ND.m ND.F.kp ND.b .nil pass0 (pa_cons (pv 0) (pa_cons pe_int pa_nil))) pe_int (nomark _)))))
        (pss_cons (ps_par (i := 9) (j := 8) (by rfl) nd rfl rfl (by decide) rfl rfl (pa_cons (pe_call GS hr2 (by rfl) NS.m NS.F.kp NS.b .nil pass0 (pa_cons (pv 0) (pa_cons (pe_lst (pa_cons pe_str (pa_cons pe_str (pa_cons pe_str pa_nil)))) pa_nil))) (pa_cons (pe_call GK hr3 (by rfl) NK.m NK.F.kp NK.b .nil pass0 (pa_cons (pv 0) (pa_cons pe_int pa_nil))) pa_nil)) (by rfl))
        (pss_cons (ps_set (i := 12) nd rfl (Or.inl rfl) (pe_callTy call_dictD (by rfl) T2.dict (by decide +kernel) (pa_cons (pv 6) pa_nil)))
        (pss_cons (ps_dput hu (pv 12) (pv 9) (pv 8) rfl)
        (pss_cons (ps_set (i := 13) nd rfl (Or.inl rfl) (pe_call G hr (by rfl) F.m F.F.kp F.b .nil pass0 (pa_cons (pv 0) (pa_cons (pv 12) (pa_cons (pv 5) (pa_cons (pe_op op_sub (pv 3) pe_int) pa_nil))))))
        (pss_one (ps_set (i := 11) nd rfl (Or.inl rfl) (pe_op op_catA (pe_op op_catA (pe_tup (pa_cons pe_str (pa_cons (pe_tup (pa_cons (pv 9) (pa_cons (pv 8) pa_nil))) pa_nil))) (pv 13)) (pe_call G hr (by rfl) F.m F.F.kp F.b .nil pass0 (pa_cons (pv 0) (pa_cons (pv 6) (pa_cons (pv 8) (pa_cons (pe_op op_sub (pv 3) pe_int) pa_nil)))))))))))) pss_nil)
      (pss_one (ps_ret (pe_op op_catA (pv 7) (pv 11))))))))))))), ?_⟩
    refine ⟨_, rfl, v, t, del H p, rfl, hv, del_le, by have := ko.2.2; omega, ko.1, fun ps ev p0 q0 H1 eps hps hev s1 hp0 hq0 gp0 gq0 => ?_⟩
    obtain ⟨e, rfl⟩ := fin_int ko.1 hev
    have ke : KdOk (.int e) := by
      have l := Th.fin_letter ko.1
      cases q : t.fin with
      | int i =>
        rw [q] at l hev
        have : V.int e = V.int i := hev
        cases this
        exact ⟨l, Nat.zero_le _, (by show 1 < 8; decide)⟩
      | bl b => rw [q] at l; cases l
      | non => rw [q] at l; cases l
      | tup => rw [q] at l; cases l
      | pr x y => rw [q] at l; cases l
    have pl : ps.length ≤ 2 := by have := congrArg List.length eps; rw [List.length_map] at this; have := Th.lefts_len (t := t); have := ko.2.1; omega
    have psd : ∀ s ∈ ps, s.1.depth ≤ 1 := fun s hs => by
      have q := Th.lefts_depth (x := s.1) (by rw [← eps]; exact List.mem_map.mpr ⟨s, hs, rfl⟩)
      have := ko.2.1
      omega
    have psk : ∀ s ∈ ps, KdOk s.1 := fun s hs => ko.left (by rw [← eps]; exact List.mem_map.mpr ⟨s, hs, rfl⟩)
    have hA1 := hA.same s1
    have nq0 : q0 ≠ p := hA.fresh hq0
    refine ⟨p0, _, rfl, SqT.of gp0, rfl, _, _, rfl, _, _, rfl, rfl, ?_⟩
    refine ⟨_, rfl, kd, kvs, rfl, .inl (s1 _ _ hkd), fun di hdi => ?_⟩
    have fdi : H di = none := same_none s1 hdi
    have ndp : di ≠ p := hA.fresh fdi
    have ndc : di ≠ c := fun z => by rw [z, hA.cl] at fdi; cases fdi
    have s2 := same_new (o := .dK kvs) s1 hdi
    have d2 : upd H1 di (.dK kvs) di = some (.dK kvs) := upd_same
    have q2 : upd H1 di (.dK kvs) q0 = some (.lst (ps.map (·.2))) := by rw [upd_ne (ne_of_none gq0 hdi)]; exact gq0
    generalize upd H1 di (.dK kvs) = H2 at s2 d2 q2
    refine ⟨(by show 0 ≤ sizeLine; decide), fun tk htk => ?_⟩
    have ftk : H tk = none := same_none s2 htk
    have s3 := same_new (o := .tup []) s2 htk
    have d3 : upd H2 tk (.tup []) di = some (.dK kvs) := by rw [upd_ne (ne_of_none d2 htk)]; exact d2
    have q3 : upd H2 tk (.tup []) q0 = some (.lst (ps.map (·.2))) := by rw [upd_ne (ne_of_none q2 htk)]; exact q2
    have t3 : upd H2 tk (.tup []) tk = some (.tup []) := upd_same
    have q0d : q0 ≠ di := ne_of q3 d3 (fun z => by cases z)
    generalize upd H2 tk (.tup []) = H3 at s3 d3 q3 t3
    refine ⟨fun σ' H' => ∃ (tk : Addr) (t8 t9 : Option V) (kvs' : List (Key × V)) (tw : List Wd), σ' = [some (.ref p), some (.ref kd), some v, some (.int (d : Int)), some (.ref q0), some (.int e), some (.ref di), some (.ref tk), t8, t9, none, none, none, none] ∧ FitI K H H' p c cells di tk (kvs.length + 2) kvs' tw ∧ tw.length ≤ 2, ?_, ?_⟩
    · refine ⟨_, rfl, q0, rfl, ⟨_, SqL.of q3⟩, ?_⟩
      refine for_it walk_list (fun i σ H' => ∃ (tk : Addr) (t8 t9 : Option V) (kvs' : List (Key × V)) (tw : List Wd) (vs : List V), σ = [some (.ref p), some (.ref kd), some v, some (.int (d : Int)), some (.ref q0), some (.int e), some (.ref di), some (.ref tk), t8, t9, none, none, none, none] ∧ HandAt H' p c cells ∧ Same (del H p) (del H' p) ∧ H' q0 = some (.lst (ps.map (·.2))) ∧ H' di = some (.dK kvs') ∧ InD K (del H p) kvs' ∧ kvs'.length ≤ kvs.length + i ∧ H' tk = some (.tup vs) ∧ WdsAt K (del (del H' p) di) tw vs ∧ Tks tw ∧ tw.length = i)
        ⟨tk, none, none, kvs, [], [], rfl, hA.same s3, del_same_of s3, q3, d3, hin, Nat.le_refl _, t3, WdsAt.nil, (fun w h => by cases h), rfl⟩ (fun i σ H' _ ⟨_, _, _, _, _, _, _, _, _, h, _⟩ => SqL.of h) ?_ ?_
      · rintro i x σ _ H' hi ⟨tk, t8, t9, kvs', tw, vs, rfl, a1, a2, a3, a4, a5, a6, a7, a8, a9, a10⟩ ⟨rfl, hx⟩
        rw [List.length_map] at hi
        obtain ⟨sx, hsx⟩ : ∃ sx, ps[i]? = some sx := ⟨_, List.getElem?_eq_getElem hi⟩
        rw [List.getElem?_map, hsx] at hx
        cases hx
        have hs := List.mem_of_getElem? hsx
        have ddi : del H p di = none := by rw [del_ne ndp]; exact fdi
        refine ⟨_, rfl, (by show 6 ≤ sizeLine; decide), fun l0 hl0 => ?_⟩
        have nl0 := a1.fresh hl0
        refine ⟨p, c, l0, cells, sixN, rfl, a1.same (same_new (same_refl _) hl0), SqL.of upd_same, nl0, by decide, by decide, fun k y H5 hk hA5 o5 => ?_⟩
        obtain ⟨z, rfl, hz⟩ := sixN_ok y (List.mem_of_getElem? hk)
        have s5 : Same (del H' p) (del H5 p) := same_trans (del_same_of (same_new (same_refl _) hl0)) (del_off o5)
        have ntk : tk ≠ p := by
          obtain ⟨l, e⟩ := a1.some
          rintro rfl
          rw [a7] at e; cases e
        refine ⟨_, rfl, _, rfl, _, rfl, (by show 2 ≤ sizeLine; decide), fun x1 hx1 => ?_⟩
        have n1 := hA5.fresh hx1
        have hA6 := hA5.same (same_new (o := .tup [.str z, sx.2]) (same_refl _) hx1)
        have s6 := newOff (o := .tup [.str z, sx.2]) s5 hx1
        have f1 : upd H5 x1 (.tup [.str z, sx.2]) x1 = some (.tup [.str z, sx.2]) := upd_same
        generalize upd H5 x1 (.tup [.str z, sx.2]) = H6 at hA6 s6 f1
        refine ⟨(by show 1 ≤ sizeLine; decide), fun x2 hx2 => ?_⟩
        have n2 := hA6.fresh hx2
        have hA7 := hA6.same (same_new (o := .tup [.ref x1]) (same_refl _) hx2)
        have s7 := newOff (o := .tup [.ref x1]) s6 hx2
        have f2 : upd H6 x2 (.tup [.ref x1]) x2 = some (.tup [.ref x1]) := upd_same
        have f3 : upd H6 x2 (.tup [.ref x1]) x1 = some (.tup [.str z, sx.2]) := by rw [upd_ne (ne_of_none f1 hx2)]; exact f1
        generalize upd H6 x2 (.tup [.ref x1]) = H7 at hA7 s7 f2 f3
        have fin : ∀ (tk2 : Addr) (H8 : Hp), HandAt H8 p c cells → Same (del H7 p) (del H8 p) → H8 tk2 = some (.tup (vs ++ [.ref x1])) → ∃ (u1 : Addr) (u2 u3 : Option V) (u4 : List (Key × V)) (u5 : List Wd) (u6 : List V), [some (V.ref p), some (.ref kd), some v, some (.int (d : Int)), some (.ref q0), some (.int e), some (.ref di), some (.ref tk2), some sx.2, some (.str z), none, none, none, none] = [some (.ref p), some (.ref kd), some v, some (.int (d : Int)), some (.ref q0), some (.int e), some (.ref di), some (.ref u1), u2, u3, none, none, none, none] ∧
            HandAt (upd H8 di (.dK (putK kvs' (.inr z) sx.2))) p c cells ∧ Same (del H p) (del (upd H8 di (.dK (putK kvs' (.inr z) sx.2))) p) ∧ upd H8 di (.dK (putK kvs' (.inr z) sx.2)) q0 = some (.lst (ps.map (·.2))) ∧ upd H8 di (.dK (putK kvs' (.inr z) sx.2)) di = some (.dK u4) ∧ InD K (del H p) u4 ∧ u4.length ≤ kvs.length + (i + 1) ∧ upd H8 di (.dK (putK kvs' (.inr z) sx.2)) u1 = some (.tup u6) ∧ WdsAt K (del (del (upd H8 di (.dK (putK kvs' (.inr z) sx.2))) p) di) u5 u6 ∧ Tks u5 ∧ u5.length = i + 1 := fun tk2 H8 b1 b2 b3 => by
          have s8 : Same (del H' p) (del H8 p) := same_trans s7 b2
          have x1p : H8 x1 = some (.tup [.str z, sx.2]) := stays b2 n1 f3
          have d8 : H8 di = some (.dK kvs') := stays s8 ndp a4
          have ntd : tk2 ≠ di := ne_of b3 d8 (fun z => by cases z)
          have x1d : x1 ≠ di := ne_of x1p d8 (fun z => by cases z)
          have base : Same (del H p) (del (del H8 p) di) := fun b o r => by
            have r2 := (same_trans a2 s8) b o r
            rw [del_ne (ne_of_none r ddi)]; exact r2
          refine ⟨tk2, _, _, putK kvs' (.inr z) sx.2, tw ++ [.pr (some z) sx.1], vs ++ [.ref x1], rfl, b1.upd ndp ndc, same_upd (same_trans a2 s8) ddi, by rw [upd_ne q0d]; exact stays s8 nq0 a3, upd_same, a5.put hz (hps sx hs) (psk sx hs), Nat.le_trans (length_putK _ _ _) (by omega), by rw [upd_ne ntd]; exact b3, ?_, fun y hy => ?_, by rw [List.length_append, List.length_singleton, a10]⟩
          · rw [del_upd ndp]
            have w8 : WdsAt K (del (del H8 p) di) (tw ++ [.pr (some z) sx.1]) (vs ++ [.ref x1]) := (a8.same (del_same_of s8)).app (WdsAt.one (WdAt.tk (nameQ_B hz) (by rw [del_ne x1d, del_ne n1]; exact x1p) ((hps sx hs).same base) (by have := (psk sx hs).2.2; omega)))
            exact w8.same (same_dd (same_refl _))
          · rcases List.mem_append.mp hy with r | r
            · exact a9 y r
            · rw [List.mem_singleton] at r
              rw [r]; exact ⟨z, sx.1, rfl, hz, kdB_of (psk sx hs).1 (psd sx hs) (psk sx hs).2.2⟩
        have t7 : H7 tk = some (.tup vs) := stays s7 ntk a7
        have d7 : H7 di = some (.dK kvs') := stays s7 ndp a4
        have vl : vs.length ≤ 2 := by rw [a8.1]; omega
        have kl : kvs'.length < 3000 := by omega
        refine ⟨tk, x2, vs, _, rfl, rfl, SqT.of t7, SqT.of f2, (by show vs.length + 1 ≤ sizeLine; exact big2 (by omega)), fun hv0 => ?_, (fun _ h => by cases h), fun _ _ x3 hx3 => ?_⟩
        · subst hv0
          exact ⟨_, rfl, _, rfl, _, rfl, di, _, rfl, DPut.k (k := .inr z) d7 (room2 (by omega)), fin x2 H7 hA7 (same_refl _) f2⟩
        · have n3 : di ≠ x3 := ne_of_none d7 hx3
          have hA8 := hA7.same (same_new (o := .tup (vs ++ [.ref x1])) (same_refl _) hx3)
          have s8 := newOff (o := .tup (vs ++ [.ref x1])) (same_refl (del H7 p)) hx3
          have d8 : upd H7 x3 (.tup (vs ++ [.ref x1])) di = some (.dK kvs') := by rw [upd_ne n3]; exact d7
          exact ⟨_, rfl, _, rfl, _, rfl, di, _, rfl, DPut.k (k := .inr z) d8 (room2 (by omega)), fin x3 _ hA8 s8 upd_same⟩
      · rintro σ H' ⟨tk, t8, t9, kvs', tw, vs, rfl, a1, a2, a3, a4, a5, a6, a7, a8, a9, a10⟩
        rw [List.length_map] at a6 a10
        exact ⟨tk, t8, t9, kvs', tw, rfl, ⟨a1, a2, a4, ndp, a5.same a2, by omega, ⟨vs, a7, a8.same del_le⟩, a9⟩, by omega⟩
    · rintro σ H4 ⟨tk, t8, t9, kvs', tw, rfl, I, twl⟩
      have fins : ∀ (H8 : Hp) (fa : Addr) (ws : List Wd) (fvs : List V), HandAt H8 p c cells → Same (del H4 p) (del H8 p) → H8 fa = some (.tup fvs) → WdsAt K (del H8 p) ws fvs → One ws → ws.length + 2 ≤ szF d → rCatA K (.ref tk) (.ref fa) H8 Q := fun H8 fa ws fvs b1 b2 b3 b4 b5 b6 => by
        have J := I.mono b1 b2
        obtain ⟨vs, h1, h2⟩ := J.tks
        have sz3 : szF d ≤ 339 := by
          have : d = 0 ∨ d = 1 ∨ d = 2 ∨ d = 3 := by omega
          rcases this with rfl | rfl | rfl | rfl <;> decide
        have o := One.takes J.ok b5
        have ll : (tw ++ ws).length ≤ szF d := by rw [List.length_append]; omega
        refine ⟨tk, fa, vs, fvs, rfl, rfl, SqT.of h1, SqT.of b3, by rw [h2.1, b4.1]; exact big2 (by omega), fun e0 => ?_, fun _ e0 => ?_, fun _ _ r hr => ?_⟩
        · have e1 : tw = [] := List.eq_nil_of_length_eq_zero (by rw [← h2.1, e0]; rfl)
          rw [e1, List.nil_append] at o
          exact kq ws fa fvs H8 b1 J.same b3 b4 o (by omega)
        · exact absurd (List.eq_nil_of_length_eq_zero (by rw [← b4.1, e0]; rfl)) b5.ne
        · exact kq (tw ++ ws) r _ _ (b1.same (same_new (same_refl _) hr)) (newOff J.same hr) upd_same ((h2.app b4).same (del_same_of (same_new (same_refl _) hr))) o ll
      refine ⟨fun σ' H' => ∃ (sl : Addr) (xs : List Str), σ' = [some (.ref p), some (.ref kd), some v, some (.int (d : Int)), some (.ref q0), some (.int e), some (.ref di), some (.ref tk), t8, t9, some (.ref sl), none, none, none] ∧ Same H4 H' ∧ H' sl = some (.lst (xs.map V.str)) ∧ sl ≠ p ∧ xs.length < 60 ∧ ∀ z ∈ xs, nameQ z = true ∧ ∃ t v, valV kvs' (.inr z) = some v ∧ ThAt K (del H4 p) t v ∧ KdOk t ∧ (d = 0 → t.isPr = false), ?_, ?_⟩
      · refine ⟨_, rfl, _, rfl, _, rfl, di, e, d, kvs', del H4 p, rfl, I.dOf, I.ind, del_le, by have := I.len; omega, fun sl H5 xs hsl s5 sl5 xl xok => ?_⟩
        exact ⟨sl, xs, rfl, s5, sl5, I.hand.fresh hsl, xl, xok⟩
      · rintro σ H5 ⟨sl, xs, rfl, s5, sl5, slp, xl, xok⟩
        have J := I.mono (I.hand.same s5) (del_same_of s5)
        refine ⟨_, rfl, _, _, rfl, .inl (SqL.of sl5), rfl, _, rfl, ?_⟩
        rw [List.length_map]
        refine ite2 (fun cz => ?_) (fun cz => ?_)
        · obtain ⟨ks, ek, hk⟩ := J.ind.names
          have kl : ks.length < 60 := by have := congrArg List.length ek; rw [List.length_map, List.length_map] at this; have := J.len; omega
          refine ⟨_, rfl, _, rfl, _, rfl, di, kvs', ks, rfl, .inl J.dOf, ek, by omega, fun ys q pm _ hq => ?_⟩
          have yl : ys.length < 60 := by rw [pm.length_eq]; exact kl
          have g1 := same_new (o := .lst (ys.map V.str)) (same_refl H5) hq
          refine ⟨(by show 1 ≤ sizeLine; decide), fun l1 hl1 => ?_⟩
          have g2 := same_new (o := .lst [.str "w"]) g1 hl1
          have e1 : upd (upd H5 q (.lst (ys.map V.str))) l1 (.lst [.str "w"]) q = some (.lst (ys.map V.str)) := by rw [upd_ne (ne_of_none upd_same hl1)]; exact upd_same
          have e2 : upd (upd H5 q (.lst (ys.map V.str))) l1 (.lst [.str "w"]) l1 = some (.lst [.str "w"]) := upd_same
          generalize upd (upd H5 q (.lst (ys.map V.str))) l1 (.lst [.str "w"]) = H6 at g2 e1 e2
          refine ⟨q, l1, _, _, rfl, rfl, e1, e2, (by rw [List.length_map]; show ys.length + 1 ≤ sizeLine; exact big2 (by omega)), fun r hr => ?_⟩
          have g3 := same_new (o := .lst (ys.map V.str ++ [.str "w"])) g2 hr
          have hA6 := J.hand.same g3
          have nm : NmL (ys.map V.str ++ [.str "w"]) := fun y hy => by
            rcases List.mem_append.mp hy with m | m
            · obtain ⟨z, mz, rfl⟩ := List.mem_map.mp m
              exact ⟨z, rfl, (hk z (pm.mem_iff.mp mz)).1⟩
            · rw [List.mem_singleton] at m
              exact ⟨_, m, by decide +kernel⟩
          refine ⟨p, c, r, cells, _, rfl, hA6, SqL.of upd_same, J.hand.fresh (same_none g2 hr), (by rw [List.length_append]; show 0 < _ + 1; omega), (by rw [List.length_append, List.length_map]; show ys.length + 1 < 1000; omega), fun k y H7 hk7 hA7 o7 => ?_⟩
          obtain ⟨z, rfl, hz⟩ := nm y (List.mem_of_getElem? hk7)
          refine ⟨(by show 1 ≤ sizeLine; decide), fun a ha => ?_⟩
          have s57 : Same (del H4 p) (del H7 p) := same_trans (del_same_of (same_trans s5 g3)) (del_off o7)
          exact fins _ a [.st z] _ (hA7.same (same_new (same_refl _) ha)) (newOff s57 ha) upd_same (WdsAt.one (WdAt.nm (nameQ_B hz))) (One.name hz) (by have := szF_ge d; show 1 + 2 ≤ szF d; omega)
        · have x0 : 0 < xs.length := by
            rcases Nat.eq_zero_or_pos xs.length with r | r
            · exact absurd (decide_eq_true (by rw [r]; rfl)) cz
            · exact r
          refine ⟨_, rfl, _, rfl, p, c, sl, cells, _, rfl, J.hand, SqL.of sl5, slp, (by rw [List.length_map]; exact x0), (by rw [List.length_map]; omega), fun k y H6 hk6 hA6 o6 => ?_⟩
          obtain ⟨z, mz, rfl⟩ := List.mem_map.mp (List.mem_of_getElem? hk6)
          obtain ⟨nz, th, vh, hvh, tth, koh, hd0⟩ := xok z mz
          have s6 : Same (del H4 p) (del H6 p) := same_trans (del_same_of s5) (del_off o6)
          refine ⟨_, rfl, (by show 1 ≤ sizeLine; decide), fun f0 hf0 => ?_⟩
          have hA7 := hA6.same (same_new (o := .tup [.str z]) (same_refl _) hf0)
          have s7 := newOff (o := .tup [.str z]) s6 hf0
          have g7 : upd H6 f0 (.tup [.str z]) f0 = some (.tup [.str z]) := upd_same
          have f0p := hA6.fresh hf0
          generalize upd H6 f0 (.tup [.str z]) = H7 at hA7 s7 g7
          have J7 := I.mono hA7 s7
          have gd : DGet H7 di (kV (.inr z)) (some vh) := by rw [← hvh]; exact DGet.k J7.dOf
          refine ⟨fun σ' H' => ∃ (t8 : Option V) (fa : Addr) (ws : List Wd) (fvs : List V), σ' = [some (.ref p), some (.ref kd), some v, some (.int (d : Int)), some (.ref q0), some (.int e), some (.ref di), some (.ref tk), t8, some (.str z), some (.ref sl), some (.ref fa), none, none] ∧ HandAt H' p c cells ∧ Same (del H4 p) (del H' p) ∧ H' fa = some (.tup fvs) ∧ WdsAt K (del H' p) ws fvs ∧ One ws ∧ ws.length + 2 ≤ szF d, ?_, ?_⟩
          · refine ⟨_, rfl, _, rfl, di, _, rfl, gd, vh, th, del H4 p, rfl, tth, same_trans s7 del_le, by have := koh.2.2; omega, koh.1, fun ps2 ev2 pp qq H8 eps2 hps2 hev2 s78 hpp hqq gpp gqq => ?_⟩
            have pl2 : ps2.length ≤ 2 := by have := congrArg List.length eps2; rw [List.length_map] at this; have := Th.lefts_len (t := th); have := koh.2.1; omega
            have psk2 : ∀ s ∈ ps2, KdOk s.1 := fun s hs => koh.left (by rw [← eps2]; exact List.mem_map.mpr ⟨s, hs, rfl⟩)
            have qqp := hA7.fresh hqq
            have hA8 := hA7.same s78
            have s8 : Same (del H4 p) (del H8 p) := same_trans s7 (del_same_of s78)
            refine ⟨pp, _, _, _, rfl, rfl, SqT.of gpp, rfl, qq, rfl, ⟨_, SqL.of gqq⟩, ?_⟩
            refine for_it walk_list (fun i σ' H' => ∃ (t8 : Option V) (fa : Addr) (ws : List Wd) (fvs : List V), σ' = [some (.ref p), some (.ref kd), some v, some (.int (d : Int)), some (.ref q0), some (.int e), some (.ref di), some (.ref tk), t8, some (.str z), some (.ref sl), some (.ref fa), none, none] ∧ HandAt H' p c cells ∧ Same (del H4 p) (del H' p) ∧ H' qq = some (.lst (ps2.map (·.2))) ∧ H' fa = some (.tup fvs) ∧ fa ≠ p ∧ WdsAt K (del H' p) ws fvs ∧ One ws ∧ ws.length ≤ 1 + i * (1 + szF (d - 1)))
              ⟨t8, f0, [.st z], _, rfl, hA8, s8, gqq, s78 _ _ g7, f0p, WdsAt.one (WdAt.nm (nameQ_B nz)), One.name nz, by show 1 ≤ 1 + 0 * _; omega⟩ (fun i σ' H' _ ⟨_, _, _, _, _, _, _, h, _⟩ => SqL.of h) ?_ ?_
            · rintro i x σ' Hq H' hi ⟨t8, fa, ws, fvs, rfl, a1, a2, a3, a4, a4p, a5, a6, a7⟩ ⟨rfl, hx⟩
              rw [List.length_map] at hi
              obtain ⟨sx, hsx⟩ : ∃ sx, ps2[i]? = some sx := ⟨_, List.getElem?_eq_getElem hi⟩
              rw [List.getElem?_map, hsx] at hx
              cases hx
              have hs := List.mem_of_getElem? hsx
              obtain ⟨d', rfl⟩ : ∃ d', d = d' + 1 := by
                refine ⟨d - 1, ?_⟩
                have : d ≠ 0 := fun r => by
                  have np := hd0 r
                  have : th.lefts = [] := by cases th <;> first | rfl | cases np
                  rw [this] at eps2
                  have := List.map_eq_nil_iff.mp eps2
                  rw [this] at hi
                  exact (absurd hi (Nat.not_lt_zero _))
                omega
              have eR := hG d' rfl
              subst eR
              have ed : ((d' + 1 : Nat) : Int) - 1 = (d' : Int) := by omega
              have sS : szF d' ≤ 83 := by
                have : d' = 0 ∨ d' = 1 ∨ d' = 2 := by omega
                rcases this with rfl | rfl | rfl <;> decide
              have e2 : d' + 1 - 1 = d' := rfl
              rw [e2] at a7 ⊢
              have i2 : i < 2 := by omega
              have a7' : ws.length ≤ 1 + 1 * (1 + szF d') := Nat.le_trans a7 (Nat.add_le_add_left (Nat.mul_le_mul_right _ (by omega)) 1)
              have f0v : fvs ≠ [] := fun q => a6.ne (List.eq_nil_of_length_eq_zero (by rw [← a5.1, q]; rfl))
              refine ⟨(by show 1 ≤ sizeLine; decide), fun u1 hu1 => ?_⟩
              have n1 := a1.fresh hu1
              have hAa := a1.same (same_new (o := .tup [.str "@"]) (same_refl _) hu1)
              have sa := newOff (o := .tup [.str "@"]) (same_refl (del H' p)) hu1
              have ga : upd H' u1 (.tup [.str "@"]) u1 = some (.tup [.str "@"]) := upd_same
              have fa1 := stays sa a4p a4
              refine ⟨_, rfl, u1, fa, _, fvs, rfl, rfl, SqT.of ga, SqT.of fa1, (by rw [a5.1]; show 1 + ws.length ≤ sizeLine; exact big2 (by omega)), (fun h => by cases h), (fun _ h => absurd h f0v), fun _ _ u2 hu2 => ?_⟩
              have n2 := hAa.fresh hu2
              have hAb := hAa.same (same_new (o := .tup ([.str "@"] ++ fvs)) (same_refl _) hu2)
              have sb := newOff (o := .tup ([.str "@"] ++ fvs)) sa hu2
              have gb : upd (upd H' u1 (.tup [.str "@"])) u2 (.tup ([.str "@"] ++ fvs)) u2 = some (.tup ([.str "@"] ++ fvs)) := upd_same
              have Jb := I.mono hAb (same_trans a2 sb)
              refine ⟨_, rfl, _, rfl, _, rfl, _, rfl, _, _, rfl, rfl, p, c, di, cells, kvs', sx.1, sx.2, (by show [V.ref p, V.ref di, sx.2, V.int (((d' + 1 : Nat) : Int) - 1)] = _; rw [ed]), hAb, Jb.dOf, Jb.dp, Jb.ind, by have := Jb.len; omega, (hps2 sx hs).same (same_trans a2 sb), psk2 sx hs, fun ws2 a2' vs2 Hc hAc sbc hc wc oc lc => ?_⟩
              have v2 : vs2 ≠ [] := fun q => oc.ne (List.eq_nil_of_length_eq_zero (by rw [← wc.1, q]; rfl))
              have ww := ((WdsAt.one WdAt.us).app ((a5.same sb).same sbc)).app wc
              refine ⟨u2, a2', _, vs2, rfl, rfl, SqT.of (stays sbc n2 gb), SqT.of hc, (by rw [List.length_append, a5.1, wc.1]; show 1 + ws.length + ws2.length ≤ sizeLine; exact big2 (by omega)), (fun h => by cases h), (fun _ h => absurd h v2), fun _ _ u3 hu3 => ?_⟩
              have sc := newOff (o := .tup (([.str "@"] ++ fvs) ++ vs2)) (same_trans sb sbc) hu3
              refine ⟨_, u3, [.st "@"] ++ ws ++ ws2, _, rfl, hAc.same (same_new (same_refl _) hu3), same_trans a2 sc, stays sc qqp a3, upd_same, hAc.fresh hu3, ww.same (del_same_of (same_new (same_refl _) hu3)), ?_, ?_⟩
              · have := One.use a6 oc
                rwa [List.append_assoc]
              · rw [List.length_append, List.length_append, List.length_singleton, Nat.succ_mul]
                omega
            · rintro σ' H' ⟨t8, fa, ws, fvs, rfl, a1, a2, a3, a4, a4p, a5, a6, a7⟩
              rw [List.length_map] at a7
              refine ⟨t8, fa, ws, fvs, rfl, a1, a2, a4, a5, a6, ?_⟩
              by_cases r : d = 0
              · have np := hd0 r
                have : th.lefts = [] := by cases th <;> first | rfl | cases np
                rw [this] at eps2
                have := List.map_eq_nil_iff.mp eps2
                rw [this] at a7
                have := szF_ge d
                simp at a7
                omega
              · obtain ⟨d', rfl⟩ : ∃ d', d = d' + 1 := ⟨d - 1, by omega⟩
                have e1 : szF (d' + 1) = 7 + 4 * szF d' := rfl
                have e2 : d' + 1 - 1 = d' := rfl
                rw [e2] at a7
                have : ps2.length * (1 + szF d') ≤ 2 * (1 + szF d') := Nat.mul_le_mul_right _ pl2
                omega
          · rintro σ' H9 ⟨t8, fa, ws, fvs, rfl, a1, a2, a3, a4, a5, a6⟩
            refine ⟨fun σ' H' => ∃ (u8 u9 u12 u13 : Option V) (fa : Addr) (ws : List Wd) (fvs : List V), σ' = [some (.ref p), some (.ref kd), some v, some (.int (d : Int)), some (.ref q0), some (.int e), some (.ref di), some (.ref tk), u8, u9, some (.ref sl), some (.ref fa), u12, u13] ∧ HandAt H' p c cells ∧ Same (del H4 p) (del H' p) ∧ H' fa = some (.tup fvs) ∧ WdsAt K (del H' p) ws fvs ∧ One ws ∧ ws.length + 2 ≤ szF d, ?_, ?_⟩
            · refine ⟨_, rfl, _, _, rfl, rfl, _, rfl, ?_⟩
              refine ite2 (fun cd => ?_) (fun cd => ?_)
              · obtain ⟨d', rfl⟩ : ∃ d', d = d' + 1 := ⟨d - 1, by have := of_decide_eq_true cd; omega⟩
                have eR := hG d' rfl
                subst eR
                have ed : ((d' + 1 : Nat) : Int) - 1 = (d' : Int) := by omega
                have sS : szF d' ≤ 83 := by
                  have : d' = 0 ∨ d' = 1 ∨ d' = 2 := by omega
                  rcases this with rfl | rfl | rfl <;> decide
                have sE : szF (d' + 1) = 7 + 4 * szF d' := rfl
                refine ⟨_, rfl, p, c, cells, 6, rfl, a1, by decide, by decide, fun r1 Ha z0 z6 hAa oa => ?_⟩
                have sa : Same (del H4 p) (del Ha p) := same_trans a2 (del_off oa)
                refine ⟨rfl, _, rfl, ?_⟩
                refine ite2 (fun _ => ?_) (fun _ => ?_)
                · refine ⟨_, rfl, (by show 3 ≤ sizeLine; decide), fun l3 hl3 => ?_⟩
                  refine ⟨p, c, l3, cells, triN, rfl, hAa.same (same_new (same_refl _) hl3), SqL.of upd_same, hAa.fresh hl3, by decide, by decide, fun k y Hb hk3 hAb o3 => ?_⟩
                  obtain ⟨z2, rfl, hz2⟩ := triN_ok y (List.mem_of_getElem? hk3)
                  have sb : Same (del H4 p) (del Hb p) := same_trans sa (same_trans (del_same_of (same_new (same_refl _) hl3)) (del_off o3))
                  refine ⟨_, rfl, p, c, cells, rfl, hAb, fun t2 v2 Hc hAc sbc ht2 g2 => ?_⟩
                  have k2 : KdOk t2 := ⟨g2.1, by have := g2.2.1; omega, by have := g2.2.2; have : (2 : Nat) ^ (1 + 1) = 4 := rfl; omega⟩
                  refine ⟨_, _, rfl, ?_⟩
                  have sc := same_trans sb sbc
                  have Jc := I.mono hAc sc
                  have kl := Jc.len
                  refine ⟨_, rfl, di, kvs', rfl, .inl Jc.dOf, fun wi hwi => ?_⟩
                  have nwp := hAc.fresh hwi
                  have nwc : wi ≠ c := fun q => by rw [q, hAc.cl] at hwi; cases hwi
                  have dW : del Hc p wi = none := by rw [del_ne nwp]; exact hwi
                  refine ⟨_, rfl, _, rfl, _, rfl, wi, _, rfl, DPut.k (k := .inr z2) upd_same (room2 (by omega)), ?_⟩
                  have hAd : HandAt (upd (upd Hc wi (.dK kvs')) wi (.dK (putK kvs' (.inr z2) v2))) p c cells := (hAc.upd nwp nwc).upd nwp nwc
                  have sd : Same (del Hc p) (del (upd (upd Hc wi (.dK kvs')) wi (.dK (putK kvs' (.inr z2) v2))) p) := same_upd (same_upd (same_refl _) dW) dW
                  have dd : upd (upd Hc wi (.dK kvs')) wi (.dK (putK kvs' (.inr z2) v2)) wi = some (.dK (putK kvs' (.inr z2) v2)) := upd_same
                  have wl := length_putK kvs' (.inr z2) v2
                  generalize upd (upd Hc wi (.dK kvs')) wi (.dK (putK kvs' (.inr z2) v2)) = Hd at hAd sd dd
                  refine ⟨_, rfl, _, rfl, _, rfl, _, rfl, _, _, rfl, rfl, p, c, wi, cells, putK kvs' (.inr z2) v2, .int e, .int e, (by show [V.ref p, V.ref wi, V.int e, V.int (((d' + 1 : Nat) : Int) - 1)] = _; rw [ed]), hAd, dd, nwp, (Jc.ind.same sd).put hz2 (ht2.same sd) k2, by omega, rfl, ke, fun wsb ab vsb He hAe sde hb wb ob lb => ?_⟩
                  have abp : ab ≠ p := by
                    obtain ⟨l, q⟩ := hAe.some
                    rintro rfl
                    rw [hb] at q; cases q
                  have vb : vsb ≠ [] := fun q => ob.ne (List.eq_nil_of_length_eq_zero (by rw [← wb.1, q]; rfl))
                  refine ⟨_, rfl, _, rfl, (by show 2 ≤ sizeLine; decide), fun x1 hx1 => ?_⟩
                  have m1 := hAe.fresh hx1
                  have hAf := hAe.same (same_new (o := .tup [.str z2, v2]) (same_refl _) hx1)
                  have sf := newOff (o := .tup [.str z2, v2]) (same_refl (del He p)) hx1
                  have e1 : upd He x1 (.tup [.str z2, v2]) x1 = some (.tup [.str z2, v2]) := upd_same
                  generalize upd He x1 (.tup [.str z2, v2]) = Hf at hAf sf e1
                  refine ⟨(by show 2 ≤ sizeLine; decide), fun x2 hx2 => ?_⟩
                  have m2 := hAf.fresh hx2
                  have hAg := hAf.same (same_new (o := .tup [.str "@", .ref x1]) (same_refl _) hx2)
                  have sg := newOff (o := .tup [.str "@", .ref x1]) (same_refl (del Hf p)) hx2
                  have e2 : upd Hf x2 (.tup [.str "@", .ref x1]) x2 = some (.tup [.str "@", .ref x1]) := upd_same
                  generalize upd Hf x2 (.tup [.str "@", .ref x1]) = Hg at hAg sg e2
                  have sfg := same_trans sf sg
                  have wt : WdAt K (del Hg p) (.pr (some z2) t2) (.ref x1) := WdAt.tk (nameQ_B hz2) (by rw [del_ne m1]; exact stays sg m1 e1) (((ht2.same sd).same sde).same sfg) (by have := k2.2.2; omega)
                  refine ⟨_, rfl, x2, ab, _, vsb, rfl, rfl, SqT.of e2, SqT.of (stays sfg abp hb), (by rw [wb.1]; show 2 + wsb.length ≤ sizeLine; exact big2 (by omega)), (fun h => by cases h), (fun _ h => absurd h vb), fun _ _ x3 hx3 => ?_⟩
                  have m3 := hAg.fresh hx3
                  have hAh := hAg.same (same_new (o := .tup ([.str "@", .ref x1] ++ vsb)) (same_refl _) hx3)
                  have sh := newOff (o := .tup ([.str "@", .ref x1] ++ vsb)) (same_refl (del Hg p)) hx3
                  have e3 : upd Hg x3 (.tup ([.str "@", .ref x1] ++ vsb)) x3 = some (.tup ([.str "@", .ref x1] ++ vsb)) := upd_same
                  generalize upd Hg x3 (.tup ([.str "@", .ref x1] ++ vsb)) = Hh at hAh sh e3
                  have seh := same_trans sfg sh
                  have s4h : Same (del H4 p) (del Hh p) := same_trans sc (same_trans sd (same_trans sde seh))
                  have Jh := I.mono hAh s4h
                  refine ⟨_, rfl, _, rfl, _, rfl, _, rfl, _, _, rfl, rfl, p, c, di, cells, kvs', t2, v2, (by show [V.ref p, V.ref di, v2, V.int (((d' + 1 : Nat) : Int) - 1)] = _; rw [ed]), hAh, Jh.dOf, Jh.dp, Jh.ind, by omega, (((ht2.same sd).same sde).same seh), k2, fun wsc ac vsc Hi hAi shi hc wc oc lc => ?_⟩
                  have vc : vsc ≠ [] := fun q => oc.ne (List.eq_nil_of_length_eq_zero (by rw [← wc.1, q]; rfl))
                  have ww := ((((WdsAt.one WdAt.us).app (WdsAt.one wt)).app (wb.same sfg)).same (same_trans sh shi)).app wc
                  refine ⟨x3, ac, _, vsc, rfl, rfl, SqT.of (stays shi m3 e3), SqT.of hc, (by rw [List.length_append, wb.1, wc.1]; show 2 + wsb.length + wsc.length ≤ sizeLine; exact big2 (by omega)), (fun h => by cases h), (fun _ h => absurd h vc), fun _ _ x5 hx5 => ?_⟩
                  refine ⟨_, _, _, _, x5, ([.st "@"] ++ [.pr (some z2) t2] ++ wsb) ++ wsc, _, rfl, hAi.same (same_new (same_refl _) hx5), newOff (same_trans s4h shi) hx5, upd_same, ww.same (del_same_of (same_new (same_refl _) hx5)), One.use (One.take hz2 (kdB_of g2.1 (by have := g2.2.1; omega) (by have := g2.2.2; have : (2 : Nat) ^ (1 + 1) = 4 := rfl; omega)) ob) oc, ?_⟩
                  (simp only [List.length_append, List.length_singleton])
                  omega
                · have fap : fa ≠ p := by
                    obtain ⟨l, q⟩ := a1.some
                    rintro rfl
                    rw [a3] at q; cases q
                  exact ⟨_, _, _, _, fa, ws, fvs, rfl, hAa, sa, stays (del_off oa) fap a3, a4.same (del_off oa), a5, a6⟩
              · refine ifF rfl ?_
                exact ⟨_, _, _, _, fa, ws, fvs, rfl, a1, a2, a3, a4, a5, a6⟩
            · rintro σ' H10 ⟨u8, u9, u12, u13, fa, ws, fvs, rfl, b1, b2, b3, b4, b5, b6⟩
              exact ⟨_, rfl, _, rfl, fins H10 fa ws fvs b1 b2 b3 b4 b5 b6⟩
end
end LG

set_option Elab.async false
set_option linter.all false
set_option maxRecDepth 100000
set_option maxHeartbeats 4100000
namespace LG
open PySem L2
abbrev sSomeP : Stmt := top 43
def spSomeP (K : PySem.W.Frag) : Sp := fun vs H Q _ => ∃ (p c : Addr) (cells : List Int) (kn : V) (ks : List ((Str × Th) × V)), vs = [.ref p, kn, .int 3] ∧ HandAt H p c cells ∧ KnAt K (del H p) ks kn ∧ ks.length ≤ 9 ∧ BackP K H p c cells 60 Q
theorem mergeK_in {K : PySem.W.Frag} {G : Hp} : ∀ {l : List (Key × V)} {kvs : List (Key × V)}, InD K G kvs → InD K G l → InD K G (mergeK kvs l) ∧ (mergeK kvs l).length ≤ kvs.length + l.length
  | [], kvs, h, _ => ⟨h, Nat.le_refl _⟩
  | q :: l, kvs, h, g => by
    obtain ⟨z, t, e, n, ht, k⟩ := g.each q List.mem_cons_self
    have h' : InD K G (putK kvs q.1 q.2) := by rw [e]; exact h.put n ht k
    obtain ⟨a, b⟩ := mergeK_in h' ⟨fun x hx => g.each x (List.mem_cons_of_mem _ hx)⟩
    refine ⟨a, Nat.le_trans b ?_⟩
    have := length_putK kvs q.1 q.2
    rw [List.length_cons]; omega
theorem InD.nil {K : PySem.W.Frag} {G : Hp} : InD K G [] := ⟨fun p h => by cases h⟩
/-- names with kinds as a dict -/
theorem kn_dict {K : PySem.W.Frag} {G H : Hp} : ∀ {ks : List ((Str × Th) × V)}, Same G H → (∀ s ∈ ks, PairAt K G s.1 s.2 ∧ nameQ s.1.1 = true ∧ KdOk s.1.2) → ∃ (as : List Addr) (kvs : List (Key × V)), ks.map (·.2) = as.map V.ref ∧ Paired (fun p kv => SqT K H p [kV kv.1, kv.2]) as kvs ∧ InD K G kvs ∧ kvs.length = ks.length
  | [], _, _ => ⟨[], [], rfl, .nil, .nil, rfl⟩
  | s :: r, sG, h => by
    obtain ⟨as, kvs, e1, e2, e3, e4⟩ := kn_dict (ks := r) sG fun x hx => h x (List.mem_cons_of_mem _ hx)
    obtain ⟨⟨a, y, ea, ha, hy⟩, n, k⟩ := h s List.mem_cons_self
    refine ⟨a :: as, (.inr s.1.1, y) :: kvs, by rw [List.map_cons, List.map_cons, e1, ea], .cons (SqT.of (sG _ _ ha)) e2, ⟨fun p hp => ?_⟩, by rw [List.length_cons, List.length_cons, e4]⟩
    rcases List.mem_cons.mp hp with q | q
    · rw [q]; exact ⟨s.1.1, s.1.2, rfl, n, hy, k⟩
    · exact e3.each p q
section
variable {P : Program} {w : World} {K : PySem.W.Frag} {mg : Str → Option Value} {base : Heap}
theorem ok_lfit {f fD fS fK fE fH : Addr} {fd fdD fdS fdK fdE fdH : FuncData} (F : Fn K mg "_law_fit" sLFit ["_law_hand_here", "_law_known_here", "_law_kind_here", "_law_deep_here"] f fd) (ND : Fn K mg "_law_draw" sDraw ["_law_hand_here", "_law_many"] fD fdD) (NS : Fn K mg "_law_some" sSome ["_law_hand_here", "_law_things"] fS fdS)
    (NK : Fn K mg "_law_kind" sKd ["_law_hand_here", "_law_deep_here"] fK fdK) (NE : Fn K mg "_law_ends" sLEnds ["_law_kind_here"] fE fdE) (NH : Fn K mg "_law_heads" sHeads ["_law_inner", "_law_end", "_law_deep_here"] fH fdH) (T : TxB mg) (T2 : TxD mg) : ∀ d : Nat, d ≤ 3 → FnOk P w K mg base CX0 (d + 4) f fd ["_law_hand_here", "_law_known_here", "_law_kind_here", "_law_deep_here"] (spLFit K d) := by
  have G0 : FnOk P w K mg base CX0 3 f fd ["_law_hand_here", "_law_known_here", "_law_kind_here", "_law_deep_here"] (fun _ _ _ _ => False) := F.F.ok scLFit (fun vs H Q E h => h.elim) (fun cdv A outer s H vs Q E hr h => h.elim)
  intro d
  induction d with
  | zero => intro _; exact ok_lfit1 F ND NS NK NE NH T T2 G0 (fun d' e => by omega) (by decide) (by decide)
  | succ d ih =>
    intro hd
    refine ok_lfit1 F ND NS NK NE NH T T2 (ih (by omega)) (fun d' e => ?_) (by omega) hd
    have : d' = d := by omega
    rw [this]
theorem scSomeP : FnScope ["_law_hand_here", "_law_known_here", "_law_deep_here", "_law_turn", "_law_found", "_law_name", "_law_kind_here"] ["_law_hand_here", "_law_known_here", "_law_deep_here"] (defScope sSomeP) := ⟨rfl, rfl, rfl, by decide +kernel, rfl, by decide +kernel, by decide +kernel⟩
theorem ok_somep {f fD fS fK fE fH fF fL : Addr} {fd fdD fdS fdK fdE fdH fdF fdL : FuncData} (F : Fn K mg "_law_some_program" sSomeP ["_law_hand_here", "_law_known_here", "_law_deep_here"] f fd) (NF : Fn K mg "_law_fit" sLFit ["_law_hand_here", "_law_known_here", "_law_kind_here", "_law_deep_here"] fF fdF) (NL : Fn K mg "_law_loose" sLoose ["_law_hand_here", "_law_names", "_law_deep_here"] fL fdL)
    (ND : Fn K mg "_law_draw" sDraw ["_law_hand_here", "_law_many"] fD fdD) (NS : Fn K mg "_law_some" sSome ["_law_hand_here", "_law_things"] fS fdS) (NK : Fn K mg "_law_kind" sKd ["_law_hand_here", "_law_deep_here"] fK fdK) (NE : Fn K mg "_law_ends" sLEnds ["_law_kind_here"] fE fdE) (NH : Fn K mg "_law_heads" sHeads ["_law_inner", "_law_end", "_law_deep_here"] fH fdH) (T : TxB mg) (T2 : TxD mg) :
    FnOk P w K mg base CX0 8 f fd ["_law_hand_here", "_law_known_here", "_law_deep_here"] (spSomeP K) := by
  have GD : FnOk P w K mg base CX0 1 fD fdD ["_law_hand_here", "_law_many"] spDraw := ok_draw ND.F T
  have GF : FnOk P w K mg base CX0 7 fF fdF ["_law_hand_here", "_law_known_here", "_law_kind_here", "_law_deep_here"] (spLFit K 3) := ok_lfit NF ND NS NK NE NH T T2 3 (by decide)
  have GL : FnOk P w K mg base CX0 7 fL fdL ["_law_hand_here", "_law_names", "_law_deep_here"] (spLoose K 3) := ok_loose NL ND NS NK T 3 (by decide)
  have GK : FnOk P w K mg base CX0 4 fK fdK ["_law_hand_here", "_law_deep_here"] (spKd K 2) := ok_kd NK ND T 2
  refine F.F.ok scSomeP (fun vs H Q E h => ?_) (fun cdv A outer s H vs Q E hr h => ?_)
  · obtain ⟨_, _, _, _, _, rfl, _⟩ := h
    rfl
  · obtain ⟨p, c, cells, kn, ks, rfl, hA, hk, kl, kq⟩ := h
    have nd := scSomeP.nd
    have hr1 := hr.mono (show 1 ≤ 7 by decide)
    have hr4 := hr.mono (show 4 ≤ 7 by decide)
    refine ⟨_, pss_cons (ps_for PassesOwn.never rfl (pi_range1 (by rfl) T.range (pa_cons pe_int pa_nil)) (pg_name (i := 3) nd rfl (Or.inl rfl))
        (Evl.pss_cut (ps_if (pt_cmpR op_eq (pe_call GD hr1 (by rfl) ND.m ND.F.kp ND.b .nil pass0 (pa_cons (pv 0) (pa_cons pe_int pa_nil))) pe_int (nomark _))
          (pss_one (ps_set (i := 4) nd rfl (Or.inl rfl) (pe_call GL hr (by rfl) NL.m NL.F.kp NL.b .nil pass0 (pa_cons (pv 0) (pa_cons (pe_op op_cat
            (pe_lc (own := [("_law_name", 5), ("_law_kind_here", 6)]) (g := gTup K 2 (gCons (gName 5) (gCons (gName 6) gNil))) (tt := tYes) rfl nd (pi_tup (pv 1))
              (blkOk_by (N := ["_law_hand_here", "_law_known_here", "_law_deep_here", "_law_turn", "_law_found", "_law_name", "_law_kind_here"]) (sc := defScope sSomeP) (by decide +kernel)) (fun _ _ _ _ _ => pg_tup rfl (pgs_cons (pg_name (i := 5) nd rfl (Or.inl rfl)) (pgs_cons (pg_name (i := 6) nd rfl (Or.inl rfl)) pgs_nil))) (fun _ _ _ _ _ => pts_nil)
              (fun _ _ _ _ _ => pv 5)) (pe_lst (pa_cons pe_str (pa_cons pe_str (pa_cons pe_str pa_nil))))) (pa_cons (pv 2) pa_nil))))))
          (pss_one (ps_set (i := 4) nd rfl (Or.inl rfl) (pe_call GF hr (by rfl) NF.m NF.F.kp NF.b .nil pass0 (pa_cons (pv 0) (pa_cons (pe_callTy (cr_dictF rfl) (by rfl) T2.dict (by decide +kernel) (pa_cons (pv 1) pa_nil)) (pa_cons (pe_call GK hr4 (by rfl) NK.m NK.F.kp NK.b .nil pass0 (pa_cons (pv 0) (pa_cons pe_int pa_nil))) (pa_cons (pv 2) pa_nil))))))))
        (pss_one (ps_if (pt_cmpR op_le (pe_callB call_len_seq (by rfl) T.len PySem.boot_len (pa_cons (pv 4) pa_nil)) pe_int (nomark _)) (pss_one (ps_ret (pv 4))) pss_nil))))
      (pss_one (ps_ret (pe_tup (pa_cons (pe_tup (pa_cons pe_str (pa_cons pe_int pa_nil))) (pa_cons pe_str pa_nil))))), ?_⟩
    refine ⟨6, rfl, by decide, by decide, for_range (lo := 0) (n := 6) (fun i σ H' => ∃ (t3 t4 : Option V), σ = [some (.ref p), some kn, some (.int 3), t3, t4, none, none] ∧ HandAt H' p c cells ∧ Same (del H p) (del H' p)) ⟨none, none, rfl, hA, same_refl _⟩ ?_ ?_⟩
    · rintro i σ H1 hi ⟨t3, t4, rfl, hA1, s1⟩
      have hk1 := hk.same s1
      refine ⟨fun σ' H' => ∃ (a : Addr) (ws : List Wd) (vs : List V), σ' = [some (.ref p), some kn, some (.int 3), some (.int (0 + (i : Int))), some (.ref a), none, none] ∧ HandAt H' p c cells ∧ Same (del H p) (del H' p) ∧ H' a = some (.tup vs) ∧ WdsAt K (del H' p) ws vs ∧ One ws ∧ ws.length ≤ 3000, ?_, ?_⟩
      · refine ⟨_, rfl, p, c, cells, 4, rfl, hA1, by decide, by decide, fun r H2 z0 z4 hA2 o2 => ?_⟩
        have s2 := same_trans s1 (del_off o2)
        have hk2 := hk1.same (del_off o2)
        refine ⟨rfl, _, rfl, ?_⟩
        refine ite2 (fun _ => ?_) (fun _ => ?_)
        · obtain ⟨a, o, rfl, ha, od, hp⟩ := hk2
          have anp : a ≠ p := by rintro rfl; rw [del_same] at ha; cases ha
          have ha2 : SqT K H2 a (ks.map (·.2)) := .inl (.inr ⟨o, by rw [del_ne anp] at ha; exact ha⟩)
          have keep : ∀ H', Same H2 H' → SqT K H' a (ks.map (·.2)) := fun H' s => .inl (.inr ⟨o, s _ _ (by rw [del_ne anp] at ha; exact ha)⟩)
          refine ⟨_, rfl, _, rfl, a, rfl, ⟨_, ha2⟩, fun D hD => ?_⟩
          refine lc_it walk_tup (fun i H' => Same H2 H' ∧ H' D = some (.lst ((ks.take i).map fun s => V.str s.1.1))) ⟨same_new (same_refl H2) hD, by rw [List.take_zero]; exact upd_same⟩ (fun i H' _ q => keep H' q.1) ?_ ?_
          · rintro j x _ H' hj ⟨h1, h2⟩ ⟨rfl, hx⟩
            rw [List.length_map] at hj
            obtain ⟨sx, hsx⟩ : ∃ sx, ks[j]? = some sx := ⟨_, List.getElem?_eq_getElem hj⟩
            rw [List.getElem?_map, hsx] at hx
            cases hx
            obtain ⟨⟨b, y, eb, hb, _⟩, nb, _⟩ := hp sx (List.mem_of_getElem? hsx)
            have bnp : b ≠ p := by rintro rfl; rw [del_same] at hb; cases hb
            rw [del_ne bnp] at hb
            refine ⟨b, _, eb, SqT.of (h1 _ _ hb), rfl, _, _, rfl, _, _, rfl, rfl, ?_⟩
            refine ⟨rfl, ?_⟩
            refine yes_kept ?_
            refine ⟨_, rfl, _, h2, (by rw [List.length_map, List.length_take]; exact room2 (by omega)), fun c u q => by rw [upd_ne (ne_of_none q hD)]; exact h1 c u q, ?_⟩
            rw [upd_same, List.take_add_one, hsx, List.map_append]; rfl
          · rintro H3 ⟨h1, h2⟩
            rw [List.length_map, List.take_length] at h2
            refine ⟨(by show 3 ≤ sizeLine; decide), fun l1 hl1 => ?_⟩
            have g1 := same_new (o := .lst [.str "x", .str "y", .str "z"]) h1 hl1
            have e1 : upd H3 l1 (.lst [.str "x", .str "y", .str "z"]) D = some (.lst (ks.map fun s => V.str s.1.1)) := by rw [upd_ne (ne_of_none h2 hl1)]; exact h2
            have e2 : upd H3 l1 (.lst [.str "x", .str "y", .str "z"]) l1 = some (.lst [.str "x", .str "y", .str "z"]) := upd_same
            generalize upd H3 l1 (.lst [.str "x", .str "y", .str "z"]) = H4 at g1 e1 e2
            refine ⟨D, l1, _, _, rfl, rfl, e1, e2, (by rw [List.length_map]; show ks.length + 3 ≤ sizeLine; exact big2 (by omega)), fun r hr => ?_⟩
            have g2 := same_new (o := .lst ((ks.map fun s => V.str s.1.1) ++ [.str "x", .str "y", .str "z"])) g1 hr
            have hA5 := hA2.same g2
            have nm : NmL ((ks.map fun s => V.str s.1.1) ++ [.str "x", .str "y", .str "z"]) := fun v hv => by
              rcases List.mem_append.mp hv with m | m
              · obtain ⟨s, ms, rfl⟩ := List.mem_map.mp m
                exact ⟨_, rfl, (hp s ms).2.1⟩
              · simp only [List.mem_cons, List.not_mem_nil, or_false] at m
                rcases m with rfl | rfl | rfl <;> exact ⟨_, rfl, by decide +kernel⟩
            refine ⟨_, rfl, p, c, r, cells, _, rfl, hA5, upd_same, hA2.fresh (same_none g1 hr), nm, (by rw [List.length_append]; show 0 < _ + 3; omega), (by rw [List.length_append, List.length_map]; show ks.length + 3 < 1000; omega), fun ws b vs H6 hA6 s56 hb wb ob lb => ?_⟩
            exact ⟨b, ws, vs, rfl, hA6, same_trans s2 (same_trans (del_same_of g2) s56), hb, wb, ob, by have : szL 3 = 15 := rfl; omega⟩
        · obtain ⟨a, o, rfl, ha, od, hp⟩ := hk2
          obtain ⟨as, kvs, e1, e2, e3, e4⟩ := kn_dict (H := H2) del_le hp
          have anp : a ≠ p := by rintro rfl; rw [del_same] at ha; cases ha
          have ha2 : H2 a = some (.frz o (.tup (as.map V.ref))) := by rw [del_ne anp] at ha; rw [← e1]; exact ha
          refine ⟨_, rfl, _, rfl, a, o, as, kvs, rfl, ha2, od, e2, fun D hD => ?_⟩
          have nDp := hA2.fresh hD
          obtain ⟨i1, i2⟩ := mergeK_in InD.nil e3
          rw [List.length_nil, Nat.zero_add, e4] at i2
          have hA3 := hA2.same (same_new (o := .dK (mergeK [] kvs)) (same_refl _) hD)
          have s23 := newOff (o := .dK (mergeK [] kvs)) (same_refl (del H2 p)) hD
          have g3 : upd H2 D (.dK (mergeK [] kvs)) D = some (.dK (mergeK [] kvs)) := upd_same
          generalize upd H2 D (.dK (mergeK [] kvs)) = H3 at hA3 s23 g3
          refine ⟨_, rfl, p, c, cells, rfl, hA3, fun t v H4 hA4 s34 ht g => ?_⟩
          have s24 := same_trans s23 s34
          refine ⟨_, rfl, p, c, D, cells, mergeK [] kvs, t, v, rfl, hA4, stays s34 nDp g3, nDp, i1.same s24, by omega, ht, g, fun ws b vs H5 hA5 s45 hb wb ob lb => ?_⟩
          exact ⟨b, ws, vs, rfl, hA5, same_trans s2 (same_trans s24 s45), hb, wb, ob, by have : szF 3 = 339 := rfl; omega⟩
      · rintro σ H2 ⟨a, ws, vs, rfl, b1, b2, b3, b4, b5, b6⟩
        refine ⟨_, rfl, _, _, rfl, .inr (SqT.of b3), _, _, rfl, rfl, _, rfl, ?_⟩
        refine ite2 (fun c => ?_) (fun _ => ?_)
        · have : ws.length ≤ 60 := by have := of_decide_eq_true c; rw [b4.1] at this; omega
          exact ⟨_, rfl, kq ws a vs H2 b1 b2 b3 b4 b5 this⟩
        · exact ⟨_, _, rfl, b1, b2⟩
    · rintro σ H1 ⟨t3, t4, rfl, hA1, s1⟩
      refine ⟨(by show 2 ≤ sizeLine; decide), fun x1 hx1 => ?_⟩
      have n1 := hA1.fresh hx1
      have hA2 := hA1.same (same_new (o := .tup [.str "x", .int 0]) (same_refl _) hx1)
      have s2 := newOff (o := .tup [.str "x", .int 0]) s1 hx1
      have g1 : upd H1 x1 (.tup [.str "x", .int 0]) x1 = some (.tup [.str "x", .int 0]) := upd_same
      generalize upd H1 x1 (.tup [.str "x", .int 0]) = H2 at hA2 s2 g1
      refine ⟨(by show 2 ≤ sizeLine; decide), fun x2 hx2 => ?_⟩
      have nx : nameQ "x" = true := by decide +kernel
      have wt : WdAt K (del H2 p) (.pr (some "x") (.int 0)) (.ref x1) := WdAt.tk (nameQ_B nx) (by rw [del_ne n1]; exact g1) rfl (by decide)
      exact kq ([.pr (some "x") (.int 0)] ++ [.st "x"]) x2 _ _ (hA2.same (same_new (same_refl _) hx2)) (newOff s2 hx2) upd_same (((WdsAt.one wt).app (WdsAt.one (WdAt.nm (nameQ_B nx)))).same (del_same_of (same_new (same_refl _) hx2))) (One.take nx (by decide) (One.name nx)) (by decide)
end
end LG

set_option Elab.async false
set_option linter.all false
set_option maxRecDepth 100000
set_option maxHeartbeats 2000000
/-! Errors with fields that are held as values: made, asked by isinstance, read. -/
namespace L2
open PySem PySem.Spec PyProof.Rows
/-- an error object that is held, of the class cls, its dict at d -/
def errO (a : Addr) (cls : Value) (d : Option Addr) : HO := .ext fun h => ∃ (oe : Obj) (fv : Array Value), h.get? a = some oe ∧ Zc cls d oe ∧ oe.data = .fields fv ∧ fv[1]? = some .none
theorem errO_ok {P : Program} {w : World} {G : Hp} {h : Heap} {a : Addr} {cls : Value} {d : Option Addr} {oe : Obj} {fv : Array Value} (at_ : h.get? a = some oe) (z : Zc cls d oe) (f : oe.data = .fields fv) (f1 : fv[1]? = some .none) : ObjOk P w G h a (errO a cls d) :=
  ⟨⟨oe, fv, at_, z, f, f1⟩, ⟨oe, at_⟩, fun _ _ ⟨o, v, q, r⟩ up => ⟨o, v, up o q, r⟩⟩
theorem errO_at {P : Program} {w : World} {G : Hp} {h : Heap} {a : Addr} {cls : Value} {d : Option Addr} (ok : HOk P w G h) (e : G a = some (errO a cls d)) : ∃ (oe : Obj) (fv : Array Value), h.get? a = some oe ∧ Zc cls d oe ∧ oe.data = .fields fv ∧ fv[1]? = some .none := (ok a _ e).1
/-- what the written part says of an own error class -/
structure ErrC (K : PySem.W.Frag) (D : Addr) : Prop where
  ox : OexC K D
  xf : XfC K D
  cA : PySem.W.findIn K (.ref D) "__class__" = some (some (.builtin "object.__class__"))
  cG : PySem.W.specialIn K (.builtin "object.__class__") "__get__" = some (some (.builtin "getset_descriptor.__get__")) ∧ PySem.W.takesIn K (.builtin "object.__class__") = some true
  cM : PySem.W.mroIn K D (.type "object") = some true
/-- an error of the class at D that is held -/
def ErrAt (G : Hp) (a D : Addr) : Prop := G a = some (errO a (.ref D) none) ∨ ∃ (dx : Addr) (fs : List (Str × V)), G a = some (errO a (.ref D) (some dx)) ∧ G dx = some (.xd fs)
section
variable {X : Cx} {p pos : Pos} {x : Str} {C fI : Addr} {fd : FuncData} {n : Nat} {ps : List Str} {sp : Sp}
/-- C(), C's own __init__ without arguments, as a value -/
def tHeld0 (C : Addr) (sp : Sp) : TE := fun _ H Q => ∀ a, H a = none → sp [.ref a] (upd H a (errO a (.ref C) none)) (fun v G => v = .non ∧ Q (.ref a) G) (fun _ _ _ => False)
theorem pe_held0 {CX : CXT} (T : OexC X.K C) (iC : PySem.W.findIn X.K (.ref C) "__init__" = some (some (.ref fI))) (tI : PySem.W.typeIn X.K (.ref fI) = some (.type "function")) (ini : FnOk X.prog X.w X.K X.mg X.base CX n fI fd ps sp) (room : Room (n + 1) X.A)
    (bd : Binds X.K fd ps []) (out : Passes CX X (fun _ _ _ => False)) (gx : Gl X x) (mx : X.mg x = some (.ref C)) (nd : (x == ("__debug__" : Str)) = false := by decide) : PE X (.Call (.Name x p) [] [] pos) (tHeld0 C sp) := by
  refine ⟨fun pins s σ H Q I k => wpAny_Call_Name_kw (ld_glob I gx mx (PySem.W.callWith_K0 I.kIn T.kC ?_) nd)⟩
  rcases s with ⟨h0, gs, dr, tk, os⟩
  rcases T.cls with ⟨_, _, _, _, tail, _, _, _, _, _, _, _, _, _, _, look, chain⟩
  show wpAny _ _ (call (.ref C) []) _ _ _
  refine wpAny_call (PySem.HandSPX.call_own F.excBase_ValueError (fun B => PySem.HandSPX.refsVE_contains B tail chain) (I.kIn C _ look) (PySem.W.looks_findIn I.kIn iC) (fun v => PySem.W.bind_fn I.kIn v tI) (Nat.zero_le _) ?_)
  have le1 : h0.objs.size ≤ h0.objs.size + 1 := Nat.le_succ h0.objs.size
  have here : ((h0.push (PySem.W.kdv_tup [])).push (PySem.HandSPX.excO C h0.objs.size)).get? (h0.objs.size + 1) = some (PySem.HandSPX.excO C h0.objs.size) := by heap_get
  have J := I.laid (t' := tk) (h' := (h0.push (PySem.W.kdv_tup [])).push (PySem.HandSPX.excO C h0.objs.size)) (fun b o q => Heap.get?_push_of_some _ (Heap.get?_push_of_some _ q)) le1 (errO_ok (cls := .ref C) (d := none) here ⟨rfl, rfl⟩ rfl rfl)
  have want := k _ (I.hok.fresh le1)
  have one : ([.ref (h0.objs.size + 1)] : List Value).length = ps.length := (ini.len _ _ _ _ want)
  refine codeAny_mono (ini.run _ X.stack _ _ _ [.ref (h0.objs.size + 1)] [.ref (h0.objs.size + 1)] _ _ (room.make C [] []) (J.env0.make C [] []) ?_ (.cons rfl .nil) want) fun r s' back => ?_
  · have q := bd _ [.ref (h0.objs.size + 1)] J.kIn (by simpa using one)
    simpa using q
  · match r, back with
    | .error er, back => exact out pins σ _ _ er s' J back
    | .ok (.ret u), back =>
      obtain ⟨v, G, J', rv, ev, q⟩ := J.after back
      subst ev
      exact ⟨rv, .ref (h0.objs.size + 1), G, J', rfl, q⟩
    | .ok .next, back => exact back.elim
    | .ok .brk, back => exact back.elim
    | .ok .cont, back => exact back.elim
/-- raise C(): what the making asks -/
def tRz (X : Cx) (C : Addr) (sp : Sp) : St → Hp → XK → Prop := fun _ H Q => ∀ a, H a = none → sp [.ref a] (upd H a (errO a (.ref C) none)) (fun v G => v = .non ∧ ∃ b, V.ref a = .ref b ∧ H b = none ∧ G = upd H b (errO b (.ref C) none) ∧ Fr0 X.H_0 b ∧ Q (.ref C) none H) (fun _ _ _ => False)
theorem pmk_held0 {CX : CXT} (T : OexC X.K C) (iC : PySem.W.findIn X.K (.ref C) "__init__" = some (some (.ref fI))) (tI : PySem.W.typeIn X.K (.ref fI) = some (.type "function")) (ini : FnOk X.prog X.w X.K X.mg X.base CX n fI fd ps sp) (room : Room (n + 1) X.A)
    (bd : Binds X.K fd ps []) (out : Passes CX X (fun _ _ _ => False)) (gx : Gl X x) (mx : X.mg x = some (.ref C)) (ex0 : X.ex = []) (nd : (x == ("__debug__" : Str)) = false := by decide) : PMk X (.Call (.Name x p) [] [] pos) (tRz X C sp) := by
  intro pins s σ H Q I k
  refine wpAny_mono ((pe_held0 (p := p) (pos := pos) T iC tI ini room bd out gx mx nd).run pins s σ H (fun v G => ∃ b, v = .ref b ∧ H b = none ∧ G = upd H b (errO b (.ref C) none) ∧ Fr0 X.H_0 b ∧ Q (.ref C) none H) I k) (fun u s1 r => ?_) fun _ _ z => z
  obtain ⟨_, _, J, ru, b, rfl, hb, rfl, h0, q⟩ := r
  cases ru
  obtain ⟨oe, fv, here, z, f, f1⟩ := errO_at J.hok upd_same
  obtain ⟨Gh, up, gone, J2⟩ := J.untrack upd_same h0 ex0
  rw [delH_new hb] at J2
  exact ⟨b, oe, fv, { s1 with heap := Gh }, H, .ref C, none, rfl, J2, up, gone, here, z, f, f1, hb, rfl, J.bare, raises_own T.exC T.tyC, q⟩
end
/-- isinstance(e, c), e the error that the suite holds, without a dict -/
def rIsE0 (K : PySem.W.Frag) (cls : Value) (d : Option Addr) (a : Addr) : List V → Hp → VK → Prop := fun vs G Q => ∃ (D : Addr) (c : V) (cv : Value) (b : Bool), vs = [.ref a, c] ∧ cls = .ref D ∧ d = none ∧ ClsV c cv ∧ ErrC K D ∧ PySem.W.kitOne K (.ref D) cv = some b ∧ Q (.bl b) G
theorem ErrC.kit {K : PySem.W.Frag} {D : Addr} (T : ErrC K D) {a : Addr} {ox : Obj} {od : Option Obj} : PySem.W.KitX K (.ref a) (.ref D) (fun h => PySem.W.InstAt h a ox D od) := by
  have some_ : (PySem.W.clsIn K D).isSome = true := by
    rcases T.ox.cls with ⟨_, _, _, _, _, _, _, _, _, _, _, _, _, _, _, look, _⟩
    unfold PySem.W.clsIn
    rw [look] <;> rfl
  exact PySem.W.kitx_exc some_ T.xf.ga T.xf.gg T.xf.exC T.cA T.cG.1 T.cG.2 T.cM
theorem call_isE0 {X : Cx} {a : Addr} {cls : Value} {d : Option Addr} {oe : Obj} {pn : List (Addr × Obj)} (z : Zc cls d oe) (df : ∃ fv, oe.data = .fields fv) : CallR (X.suite a ((a, oe) :: pn)) (.builtin "isinstance") (rIsE0 X.K cls d a) := by
  rintro pins s σ G _ us Q I r ⟨D, c, cv, b, rfl, rfl, rfl, k, T, ans, q⟩
  rcases vals2 r with ⟨v, v', rfl, rfl, rc⟩
  obtain rfl := k.eq rc
  have pin := (I.pin (a, oe) (List.mem_append_left _ List.mem_cons_self)).1
  obtain ⟨fv, f⟩ := df
  have inst : PySem.W.InstAt s.heap a oe D none := ⟨pin, z.1, by unfold PySem.W.notCls; rw [f] <;> rfl, by rw [z.2]; trivial⟩
  exact PySem.W.kia_one (T.kit (ox := oe) (od := none)) I.kIn inst ans (fun z => nomatch z) fun tk => ⟨.bl b, G, I.tok tk, rfl, q⟩
end L2

set_option Elab.async false
set_option linter.all false
set_option maxRecDepth 100000
set_option maxHeartbeats 2000000
namespace L2
open PySem PySem.Spec PyProof.Rows
/-- isinstance(e, c), e the error that the suite holds, with a dict -/
def rIsES (K : PySem.W.Frag) (cls : Value) (d : Option Addr) (a : Addr) : List V → Hp → VK → Prop := fun vs G Q => ∃ (D dd : Addr) (fs : List (Str × V)) (c : V) (cv : Value) (b : Bool), vs = [.ref a, c] ∧ cls = .ref D ∧ d = some dd ∧ G dd = some (.xd fs) ∧ ClsV c cv ∧ ErrC K D ∧ PySem.W.kitOne K (.ref D) cv = some b ∧ Q (.bl b) G
theorem call_isES {X : Cx} {a : Addr} {cls : Value} {d : Option Addr} {oe : Obj} {pn : List (Addr × Obj)} (z : Zc cls d oe) (df : ∃ fv, oe.data = .fields fv) : CallR (X.suite a ((a, oe) :: pn)) (.builtin "isinstance") (rIsES X.K cls d a) := by
  rintro pins s σ G _ us Q I r ⟨D, dd, fs, c, cv, b, rfl, rfl, rfl, ed, k, T, ans, q⟩
  rcases vals2 r with ⟨v, v', rfl, rfl, rc⟩
  obtain rfl := k.eq rc
  have pin := (I.pin (a, oe) (List.mem_append_left _ List.mem_cons_self)).1
  obtain ⟨fv, f⟩ := df
  obtain ⟨mA, ns, _⟩ := (show ObjOk X.prog X.w G s.heap dd (.xd fs) from I.hok dd _ ed)
  obtain ⟨od, hod, _⟩ := lookIn_ns ns
  have inst : PySem.W.InstAt s.heap a oe D (some od) := ⟨pin, z.1, by unfold PySem.W.notCls; rw [f] <;> rfl, by rw [z.2]; exact hod⟩
  exact PySem.W.kia_one (T.kit (ox := oe) (od := some od)) I.kIn inst ans (fun z => nomatch z) fun tk => ⟨.bl b, G, I.tok tk, rfl, q⟩
end L2


set_option Elab.async false
set_option linter.all false
set_option maxRecDepth 100000
set_option maxHeartbeats 2100000
namespace LG
open PySem L2 TL
/-! ### texts of kinds and programs: mathematics alone -/
def mk (l : List Nat) : Str := ⟨l.toArray⟩
theorem tl_mk' {l : List Nat} : tl (mk l) = l := rfl
theorem mk_tl {z : Str} : mk (tl z) = z := ext_tl rfl
theorem mk_inj {a b : List Nat} (h : mk a = mk b) : a = b := congrArg tl h
theorem mk_app {a b : List Nat} : mk a ++ mk b = mk (a ++ b) := ext_tl (tl_append _ _)
theorem mk_len {l : List Nat} : (mk l).length = l.length := by
  show l.toArray.size = l.length
  simp
theorem tl_len {z : Str} : (tl z).length = z.length := by
  show z.cps.toList.length = z.cps.size
  simp
theorem joinL_nil : ∀ {ls : List (List Nat)}, joinL [] ls = ls.flatten
  | [] => rfl
  | [p] => by show p = [p].flatten; simp
  | p :: q :: r => by
    show p ++ ([] ++ joinL [] (q :: r)) = _
    rw [joinL_nil]; simp
theorem join_mk {fs : List Str} : Txt.join "" fs = mk (fs.flatMap tl) := by
  refine ext_tl ?_
  rw [join_eq, tl_join, show tl ("" : Str) = [] from by decide +kernel, joinL_nil, tl_mk']
  rfl
/-- the letters' codes -/
theorem letters_at {i : Nat} (h : i ≤ 25) : letters.cps.toList[i]? = some (97 + i) := by
  have : ∀ j < 26, letters.cps.toList[j]? = some (97 + j) := by decide +kernel
  exact this i (by omega)
/-- the signs of a kind -/
def kL : Th → List Nat
  | .int i => [97 + i.toNat]
  | .pr l r => (if l.isPr = true then 40 :: (kL l ++ [41]) else kL l) ++ 32 :: 62 :: 32 :: kL r
  | _ => []
theorem kL_len : ∀ (t : Th), (kL t).length ≤ 6 * t.size
  | .int i => by show 1 ≤ 6 * 1; omega
  | .pr l r => by
    have a := kL_len l
    have b := kL_len r
    have e : (Th.pr l r).size = l.size + r.size + 1 := rfl
    unfold kL
    rw [e]
    split <;> simp only [List.length_append, List.length_cons, List.length_nil] <;> omega
  | .bl _ => Nat.zero_le _
  | .non => Nat.zero_le _
  | .tup => Nat.zero_le _
/-- a program as a tree -/
inductive Tm where
  | nm (z : Str)
  | us (f a : Tm)
  | tk (z : Str) (t : Th) (b : Tm)
namespace Tm
def ws : Tm → List Wd
  | .nm z => [.st z]
  | .us f a => .st "@" :: (f.ws ++ a.ws)
  | .tk z t b => .pr (some z) t :: b.ws
/-- names are names, kinds kinds -/
def ok : Tm → Prop
  | .nm z => nameB z = true
  | .us f a => f.ok ∧ a.ok
  | .tk z t b => nameB z = true ∧ t.any = true ∧ b.ok
def tx : Tm → List Nat
  | .nm z => tl z
  | .us f a => 40 :: (f.tx ++ 32 :: (a.tx ++ [41]))
  | .tk z t b => 91 :: (tl z ++ 58 :: (kL t ++ 93 :: 32 :: b.tx))
end Tm
/-- words that make m programs, one behind another -/
theorem trees : ∀ {ws : List Wd} {m : Nat}, cntC Th.any ws = some m → ∃ ts : List Tm, ts.length = m ∧ ts.flatMap Tm.ws = ws ∧ ∀ t ∈ ts, t.ok
  | [], m, h => by cases h; exact ⟨[], rfl, rfl, fun t h => by cases h⟩
  | w :: r, m, h => by
    cases e : cntC Th.any r with
    | none => rw [cntC, e] at h; cases h
    | some k =>
      obtain ⟨ts, t1, t2, t3⟩ := trees e
      rw [cntC, e] at h
      have h : stepC Th.any w k = some m := h
      unfold stepC at h
      split at h
      · rename_i u
        split at h
        · cases h
        · rename_i k2
          cases h
          match ts, t1, t2, t3 with
          | [], t1, _, _ => exact absurd t1 (by simp only [List.length_nil]; omega)
          | [_], t1, _, _ => exact absurd t1 (by simp only [List.length_cons, List.length_nil]; omega)
          | f :: a :: l, t1, t2, t3 =>
            refine ⟨.us f a :: l, by simp only [List.length_cons] at t1 ⊢; omega, ?_, fun t ht => ?_⟩
            · have ew : w = .st "@" := by
                cases w with
                | st z => exact congrArg Wd.st (of_decide_eq_true u)
                | pr o t => cases u
                | no => cases u
              rw [← t2, ew]
              simp [List.flatMap_cons, Tm.ws]
            · rcases List.mem_cons.mp ht with q | q
              · rw [q]; exact ⟨t3 f (by simp), t3 a (by simp)⟩
              · exact t3 t (by simp [q])
      · split at h
        · rename_i n
          cases h
          obtain ⟨z, rfl⟩ : ∃ z, w = .st z := by cases w with
            | st z => exact ⟨z, rfl⟩
            | pr o t => cases n
            | no => cases n
          refine ⟨.nm z :: ts, by rw [List.length_cons, t1], by rw [List.flatMap_cons, t2]; rfl, fun t ht => ?_⟩
          rcases List.mem_cons.mp ht with q | q
          · rw [q]; exact n
          · exact t3 t q
        · split at h
          · cases h
          · rename_i c
            cases h
            rw [Bool.or_eq_true, not_or, Bool.not_eq_true', Bool.not_eq_false] at c
            obtain ⟨c1, c2⟩ := c
            have k1 : 1 ≤ ts.length := by
              rw [decide_eq_true_eq] at c1; omega
            match ts, t1, t2, t3, k1 with
            | [], t1, _, _, k1 => exact absurd k1 (by simp)
            | b :: l, t1, t2, t3, _ =>
              cases w with
              | st z => cases c2
              | no => cases c2
              | pr o t =>
                cases o with
                | none => cases c2
                | some z =>
                  have c2 : (nameB z && t.any) = true := c2
                  rw [Bool.and_eq_true] at c2
                  refine ⟨.tk z t b :: l, t1, by rw [← t2]; simp [List.flatMap_cons, Tm.ws], fun x hx => ?_⟩
                  rcases List.mem_cons.mp hx with q | q
                  · rw [q]; exact ⟨c2.1, c2.2, t3 b List.mem_cons_self⟩
                  · exact t3 x (List.mem_cons_of_mem _ q)
theorem tree {ws : List Wd} (h : One ws) : ∃ t : Tm, t.ws = ws ∧ t.ok := by
  obtain ⟨ts, t1, t2, t3⟩ := trees h.any
  match ts, t1, t2, t3 with
  | [t], _, t2, t3 => exact ⟨t, by rw [← t2]; simp [List.flatMap_cons], t3 t List.mem_cons_self⟩
/-! ### where a part begins, it can be read -/
/-- signs behind which no name and no kind goes on -/
def stopL : List Nat → Prop
  | [] => True
  | c :: _ => c ∉ letters.cps.toList ∧ c ≠ 32
def stopN : List Nat → Prop
  | [] => True
  | c :: _ => c ∉ letters.cps.toList
theorem name_signs {z : Str} (h : nameB z = true) : ∀ c ∈ tl z, c ∈ letters.cps.toList := by
  unfold nameB at h
  rw [Bool.and_eq_true] at h
  intro c hc
  exact of_decide_eq_true (List.all_eq_true.mp h.2 c hc)
theorem name_len {z : Str} (h : nameB z = true) : 1 ≤ (tl z).length ∧ (tl z).length ≤ 8 := by
  unfold nameB at h
  rw [Bool.and_eq_true, Bool.and_eq_true, decide_eq_true_eq, decide_eq_true_eq] at h
  rw [tl_len]
  exact h.1
/-- two names ahead of what stops them are one -/
theorem name_split {a b r s : List Nat} (ha : ∀ c ∈ a, c ∈ letters.cps.toList) (hb : ∀ c ∈ b, c ∈ letters.cps.toList) (hr : stopN r) (hs : stopN s) (e : a ++ r = b ++ s) : a = b ∧ r = s := by
  induction a generalizing b with
  | nil =>
    cases b with
    | nil => exact ⟨rfl, e⟩
    | cons y b =>
      exfalso
      have e : r = y :: (b ++ s) := e
      rw [e] at hr
      exact hr (hb y List.mem_cons_self)
  | cons x a ih =>
    cases b with
    | nil =>
      exfalso
      have e : x :: (a ++ r) = s := e
      rw [← e] at hs
      exact hs (ha x List.mem_cons_self)
    | cons y b =>
      have e : x :: (a ++ r) = y :: (b ++ s) := e
      injection e with e1 e2
      obtain ⟨p, q⟩ := ih (fun c h => ha c (List.mem_cons_of_mem _ h)) (fun c h => hb c (List.mem_cons_of_mem _ h)) e2
      exact ⟨by rw [e1, p], q⟩
theorem any_pr {l r : Th} (h : (Th.pr l r).any = true) : l.any = true ∧ r.any = true := by
  have h : (l.any && r.any) = true := h
  rwa [Bool.and_eq_true] at h
theorem any_int {t : Th} (h : t.any = true) (n : t.isPr = false) : ∃ i : Nat, t = .int (i : Int) ∧ i ≤ 25 := by
  cases t with
  | int i =>
    have h : (decide (0 ≤ i) && decide (i ≤ 25)) = true := h
    rw [Bool.and_eq_true, decide_eq_true_eq, decide_eq_true_eq] at h
    exact ⟨i.toNat, by rw [Int.toNat_of_nonneg h.1], by omega⟩
  | pr l r => cases n
  | bl b => cases h
  | non => cases h
  | tup => cases h
theorem pr_of {t : Th} (h : t.isPr = true) : ∃ l r, t = .pr l r := by
  cases t with
  | pr l r => exact ⟨l, r, rfl⟩
  | int i => cases h
  | bl b => cases h
  | non => cases h
  | tup => cases h
/-- the tuples of a heap alone -/
def tups (H : Hp) : Hp := fun b => match H b with
  | some (.tup xs) => some (.tup xs)
  | _ => none
theorem tups_of {H : Hp} {b : Addr} {xs : List V} (h : H b = some (.tup xs)) : tups H b = some (.tup xs) := by unfold tups; rw [h]
theorem tups_some {H : Hp} {b : Addr} {o : HO} (h : tups H b = some o) : ∃ xs, H b = some (.tup xs) ∧ o = .tup xs := by
  unfold tups at h
  cases e : H b with
  | none => (rw [e] at h; cases h)
  | some q =>
    rw [e] at h
    cases q <;> first | (injection h with h; exact ⟨_, rfl, h.symm⟩) | cases h
theorem tups_le {H : Hp} : Same (tups H) H := fun b o h => by
  obtain ⟨xs, e, rfl⟩ := tups_some h
  exact e
theorem tups_mono {H H' : Hp} (s : Same H H') : Same (tups H) (tups H') := fun b o h => by
  obtain ⟨xs, e, rfl⟩ := tups_some h
  exact tups_of (s _ _ e)
/-- what is no tuple may be written -/
theorem tups_upd {H : Hp} {a : Addr} {o : HO} (h : ∀ xs, H a ≠ some (.tup xs)) : Same (tups H) (tups (upd H a o)) := fun b u e => by
  obtain ⟨xs, e1, rfl⟩ := tups_some e
  have n : b ≠ a := by rintro rfl; exact h xs e1
  exact tups_of (by rw [upd_ne n]; exact e1)
theorem tups_del {H H' : Hp} {r : Addr} (s : Same (del H r) (del H' r)) (h : ∀ xs, H r ≠ some (.tup xs)) : Same (tups H) (tups H') := fun b u e => by
  obtain ⟨xs, e1, rfl⟩ := tups_some e
  have n : b ≠ r := by rintro rfl; exact h xs e1
  have := s b (.tup xs) (by rw [del_ne n]; exact e1)
  rw [del_ne n] at this
  exact tups_of this
theorem th_tups {K : PySem.W.Frag} {H : Hp} : ∀ {t : Th} {v : V}, t.any = true → ThAt K H t v → ThAt K (tups H) t v
  | .int i, v, _, h => h
  | .pr l r, v, a, h => by
    obtain ⟨p, x, y, e, hp, h1, h2⟩ := h
    obtain ⟨a1, a2⟩ := any_pr a
    exact ⟨p, x, y, e, tups_of hp, th_tups a1 h1, th_tups a2 h2⟩
  | .bl b, v, a, _ => by cases a
  | .non, v, a, _ => by cases a
  | .tup, v, a, _ => by cases a
theorem cnt_fit {fit : Th → Bool} : ∀ {ws : List Wd} {m : Nat}, cntC fit ws = some m → ∀ w ∈ ws, ∀ o t, w = .pr o t → fit t = true
  | [], m, e, w, h, _, _, _ => by cases h
  | x :: r, m, e, w, h, o, t, ew => by
    cases q : cntC fit r with
    | none => rw [cntC, q] at e; cases e
    | some k =>
      rw [cntC, q] at e
      obtain rfl | h := List.mem_cons.mp h
      · subst ew
        have e : stepC fit (.pr o t) k = some m := e
        unfold stepC at e
        rw [if_neg (by intro z; cases z), if_neg (by intro z; cases z)] at e
        by_cases b : (decide (k < 1) || !(Wd.pr o t).take fit) = true
        · rw [if_pos b] at e; cases e
        · rw [Bool.or_eq_true, not_or, Bool.not_eq_true', Bool.not_eq_false] at b
          have b2 := b.2
          cases o with
          | none => cases b2
          | some z =>
            have b2 : (nameB z && fit t) = true := b2
            rw [Bool.and_eq_true] at b2
            exact b2.2
      · exact cnt_fit q w h o t ew
theorem wd_sizes {K : PySem.W.Frag} {H : Hp} {ws : List Wd} {vs : List V} (h : WdsAt K H ws vs) : ∀ w ∈ ws, ∀ o k, w = .pr o k → k.size ≤ 10000 := by
  intro w hw o k e
  obtain ⟨i, hi, ei⟩ := List.getElem_of_mem hw
  obtain ⟨v, hv⟩ : ∃ v, vs[i]? = some v := ⟨_, List.getElem?_eq_getElem (by rw [h.1]; exact hi)⟩
  have := h.2 i w v (by rw [← ei]; exact List.getElem?_eq_getElem hi) hv
  rw [e] at this
  obtain ⟨_, _, _, _, _, _, _, _, q⟩ := this
  exact q
end LG

set_option Elab.async false
set_option linter.all false
set_option maxRecDepth 100000
set_option maxHeartbeats 4100000
namespace LG
open PySem L2 TL
/-- what waits: a kind, or signs -/
inductive Sg where
  | th (t : Th)
  | tx (l : List Nat)
namespace Sg
def out : Sg → List Nat
  | .th t => kL t
  | .tx l => l
def wt : Sg → Nat
  | .th t => 5 * t.size
  | .tx _ => 1
def ok : Sg → Prop
  | .th t => t.any = true
  | .tx _ => True
end Sg
def SgAt (K : PySem.W.Frag) (H : Hp) : Sg → V → Prop
  | .th t, v => ThAt K H t v
  | .tx l, v => v = .str (mk l)
theorem SgAt.same {K : PySem.W.Frag} {H H' : Hp} (s : Same H H') : ∀ {g : Sg} {v : V}, SgAt K H g v → SgAt K H' g v
  | .th _, _, h => ThAt.same s h
  | .tx _, _, h => h
def isTx : Sg → Bool
  | .tx _ => true
  | .th _ => false
theorem SgAt.ty {K : PySem.W.Frag} {H : Hp} {g : Sg} {v : V} (h : SgAt K H g v) (k : g.ok) : ∃ tv, TyX K H v tv ∧ PySem.W.kitOne K tv (.type "str") = some (isTx g) := by
  cases g with
  | tx l =>
    have e : v = .str (mk l) := h
    subst e
    exact ⟨_, .base (.str _), kit_ty (r := true) (by decide +kernel)⟩
  | th t =>
    cases t with
    | int i =>
      have e : v = .int i := h
      subst e
      exact ⟨_, .base (.int i), kit_ty (r := false) (by decide +kernel)⟩
    | pr l r =>
      obtain ⟨a, x, y, rfl, ha, _⟩ := h
      exact ⟨_, .base (.tup ha), kit_ty (r := false) (by decide +kernel)⟩
    | bl b => cases k
    | non => cases k
    | tup => cases k
def wtS (ss : List (Sg × V)) : Nat := (ss.map (·.1.wt)).sum
def outS (ss : List (Sg × V)) : List Nat := ss.reverse.flatMap (·.1.out)
theorem wt_pos {g : Sg} : 1 ≤ g.wt := by
  cases g with
  | th t => have := t.size_pos; show 1 ≤ 5 * t.size; omega
  | tx l => exact Nat.le_refl _
theorem wtS_len : ∀ ss : List (Sg × V), ss.length ≤ wtS ss
  | [] => Nat.le_refl _
  | s :: ss => by
    have h := wtS_len ss
    have p := wt_pos (g := s.1)
    simp only [wtS, List.map_cons, List.sum_cons, List.length_cons] at *
    omega
theorem wtS_app {a b : List (Sg × V)} : wtS (a ++ b) = wtS a + wtS b := by simp [wtS]
theorem outS_app {a b : List (Sg × V)} : outS (a ++ b) = outS b ++ outS a := by simp [outS]
theorem sum_len {fs : List Str} : (fs.map (·.length)).sum = (fs.flatMap tl).length := by
  induction fs with
  | nil => rfl
  | cons a r ih => rw [List.map_cons, List.sum_cons, List.flatMap_cons, List.length_append, ih, tl_len]
/-- the pieces so far, and what is still to come, are the text -/
structure KtI (K : PySem.W.Frag) (H0 H : Hp) (fl wl : Addr) (fs : List Str) (ss : List (Sg × V)) (t : Th) : Prop where
  same : Same H0 H
  ff : H fl = some (.lst (fs.map V.str))
  ww : H wl = some (.lst (ss.map (·.2)))
  each : ∀ s ∈ ss, SgAt K H0 s.1 s.2 ∧ s.1.ok
  eq : fs.flatMap tl ++ outS ss = kL t
  few : fs.length + wtS ss ≤ 5 * t.size
def spKText (K : PySem.W.Frag) : Sp := fun vs H Q _ => ∃ (v : V) (t : Th), vs = [v] ∧ ThAt K H t v ∧ t.any = true ∧ t.size ≤ 10000 ∧ ∀ H', Same H H' → Q (.str (mk (kL t))) H'
end LG

set_option Elab.async false
set_option linter.all false
set_option maxRecDepth 100000
set_option maxHeartbeats 8100000
namespace LG
open PySem L2 TL
theorem nm_use {z : Str} (h : nameB z = true) : (Wd.st z).use = false := by
  show decide (z = "@") = false
  rw [decide_eq_false_iff_not]
  rintro rfl
  rw [name_at] at h; cases h
theorem nm_ne {z : Str} (h : nameB z = true) : z ≠ "@" := by
  rintro rfl
  rw [name_at] at h; cases h
theorem pend_tree : ∀ {t : Tm} {r : List Wd} {l : List Nat}, t.ok → pend r = some l → pend (t.ws ++ r) = some (t.ws.length :: l)
  | .nm z, r, l, h, e => by
    show pend (.st z :: r) = some (1 :: l)
    unfold pend
    rw [e]
    simp only [nm_use h, Wd.thing, Bool.false_eq_true, if_false]
  | .us f a, r, l, h, e => by
    have h2 := pend_tree h.2 e
    have h1 := pend_tree h.1 h2
    show pend (.st "@" :: ((f.ws ++ a.ws) ++ r)) = some (((f.ws ++ a.ws).length + 1) :: l)
    unfold pend
    rw [List.append_assoc, h1]
    have u : (Wd.st "@").use = true := by decide +kernel
    simp only [u, if_true, List.length_append]
  | .tk z t b, r, l, h, e => by
    have h1 := pend_tree h.2.2 e
    show pend (.pr (some z) t :: (b.ws ++ r)) = some ((b.ws.length + 1) :: l)
    unfold pend
    rw [h1]
    have u : (Wd.pr (some z) t).use = false := rfl
    simp only [u, Wd.thing, if_true, Bool.false_eq_true, if_false]
/-- at a place of words a program begins -/
def SubT (ws : List Wd) (p : Nat) (t : Tm) : Prop := ∃ r, ws.drop p = t.ws ++ r
theorem ws_pos : ∀ t : Tm, 0 < t.ws.length
  | .nm _ => Nat.one_pos
  | .us _ _ => Nat.succ_pos _
  | .tk _ _ _ => Nat.succ_pos _
theorem SubT.lt {ws : List Wd} {p : Nat} {t : Tm} (h : SubT ws p t) : p + t.ws.length ≤ ws.length := by
  obtain ⟨r, e⟩ := h
  have l := congrArg List.length e
  rw [List.length_drop, List.length_append] at l
  have := ws_pos t
  omega
theorem SubT.end {ws : List Wd} {p : Nat} {t : Tm} (h : SubT ws p t) (wh : Whole ws) (k : t.ok) : ofE ws p = p + t.ws.length := by
  obtain ⟨r, e⟩ := id h
  have er : r = ws.drop (p + t.ws.length) := by
    have := congrArg (List.drop t.ws.length) e
    rw [List.drop_drop, List.drop_left] at this
    exact this.symm
  obtain ⟨l, el⟩ := pend_drop wh (p + t.ws.length)
  rw [← er] at el
  have q := pend_tree k el
  rw [← e] at q
  exact ofE_eq q
theorem SubT.at {ws : List Wd} {p : Nat} {w : Wd} {l : List Wd} (h : ws.drop p = w :: l) : ws[p]? = some w ∧ ws.drop (p + 1) = l := by
  constructor
  · have := List.head?_drop (l := ws) (i := p)
    rw [h] at this
    exact this.symm
  · have := congrArg (List.drop 1) h
    rw [List.drop_drop] at this
    exact this
theorem SubT.nm {ws : List Wd} {p : Nat} {z : Str} (h : SubT ws p (.nm z)) : ws[p]? = some (.st z) := by
  obtain ⟨r, e⟩ := h
  exact (SubT.at e).1
theorem SubT.us {ws : List Wd} {p : Nat} {f a : Tm} (h : SubT ws p (.us f a)) : ws[p]? = some (.st "@") ∧ SubT ws (p + 1) f ∧ SubT ws (p + 1 + f.ws.length) a := by
  obtain ⟨r, e⟩ := h
  have e : ws.drop p = .st "@" :: ((f.ws ++ a.ws) ++ r) := e
  obtain ⟨h1, h2⟩ := SubT.at e
  rw [List.append_assoc] at h2
  refine ⟨h1, ⟨_, h2⟩, r, ?_⟩
  rw [← List.drop_drop, h2, List.drop_left]
theorem SubT.tk {ws : List Wd} {p : Nat} {z : Str} {t : Th} {b : Tm} (h : SubT ws p (.tk z t b)) : ws[p]? = some (.pr (some z) t) ∧ SubT ws (p + 1) b := by
  obtain ⟨r, e⟩ := h
  have e : ws.drop p = .pr (some z) t :: (b.ws ++ r) := e
  obtain ⟨h1, h2⟩ := SubT.at e
  exact ⟨h1, _, h2⟩
/-- kinds of at most this size -/
def Tm.fit (n : Nat) : Tm → Prop
  | .nm _ => True
  | .us f a => f.fit n ∧ a.fit n
  | .tk _ t b => t.size ≤ n ∧ b.fit n
theorem fit_of : ∀ {t : Tm} {ws : List Wd} {n : Nat}, (∀ w ∈ ws, ∀ o k, w = .pr o k → k.size ≤ n) → (∀ w ∈ t.ws, w ∈ ws) → t.fit n
  | .nm _, _, _, _, _ => trivial
  | .us f a, ws, n, h, s => ⟨fit_of h fun w hw => s w (by simp [Tm.ws, hw]), fit_of h fun w hw => s w (by simp [Tm.ws, hw])⟩
  | .tk z t b, ws, n, h, s => ⟨h _ (s (.pr (some z) t) (by simp [Tm.ws])) _ _ rfl, fit_of h fun w hw => s w (by simp [Tm.ws, hw])⟩
theorem tx_len : ∀ {t : Tm} {n : Nat}, t.ok → t.fit n → t.tx.length ≤ (6 * n + 20) * t.ws.length
  | .nm z, n, h, _ => by
    have := (name_len h).2
    show (tl z).length ≤ _ * 1
    omega
  | .us f a, n, h, g => by
    have h1 := tx_len h.1 g.1
    have h2 := tx_len h.2 g.2
    show (40 :: (f.tx ++ 32 :: (a.tx ++ [41]))).length ≤ _ * ((f.ws ++ a.ws).length + 1)
    rw [List.length_append, Nat.mul_add, Nat.mul_add]
    simp only [List.length_cons, List.length_append, List.length_nil]
    omega
  | .tk z t b, n, h, g => by
    have h1 := tx_len h.2.2 g.2
    have h2 := (name_len h.1).2
    have h3 := kL_len t
    have h4 := g.1
    show (91 :: (tl z ++ 58 :: (kL t ++ 93 :: 32 :: b.tx))).length ≤ _ * (b.ws.length + 1)
    rw [Nat.mul_add]
    simp only [List.length_cons, List.length_append]
    omega
/-- what waits: a program at a place, or signs -/
inductive Pg where
  | at (p : Nat) (t : Tm)
  | tx (l : List Nat)
namespace Pg
def out : Pg → List Nat
  | .at _ t => t.tx
  | .tx l => l
def wt : Pg → Nat
  | .at _ t => 6 * t.ws.length
  | .tx _ => 1
def val : Pg → V
  | .at p _ => .int (p : Int)
  | .tx l => .str (mk l)
def ok (ws : List Wd) : Pg → Prop
  | .at p t => SubT ws p t ∧ t.ok
  | .tx _ => True
def isTx : Pg → Bool
  | .tx _ => true
  | .at _ _ => false
end Pg
theorem Pg.ty {K : PySem.W.Frag} {H : Hp} (g : Pg) : ∃ tv, TyX K H g.val tv ∧ PySem.W.kitOne K tv (.type "str") = some g.isTx := by
  cases g with
  | tx l => exact ⟨_, .base (.str _), kit_ty (r := true) (by decide +kernel)⟩
  | «at» p t => exact ⟨_, .base (.int _), kit_ty (r := false) (by decide +kernel)⟩
def wtP (ss : List Pg) : Nat := (ss.map Pg.wt).sum
def outP (ss : List Pg) : List Nat := ss.reverse.flatMap Pg.out
theorem wtP_app {a b : List Pg} : wtP (a ++ b) = wtP a + wtP b := by simp [wtP]
theorem outP_app {a b : List Pg} : outP (a ++ b) = outP b ++ outP a := by simp [outP]
theorem pwt_pos {g : Pg} : 1 ≤ g.wt := by
  cases g with
  | «at» p t => have := ws_pos t; show 1 ≤ 6 * t.ws.length; omega
  | tx l => exact Nat.le_refl _
theorem wtP_len : ∀ ss : List Pg, ss.length ≤ wtP ss
  | [] => Nat.le_refl _
  | s :: ss => by
    have h := wtP_len ss
    have p := pwt_pos (g := s)
    simp only [wtP, List.map_cons, List.sum_cons, List.length_cons] at *
    omega
structure PtI (H0 H : Hp) (fl wl : Addr) (fs : List Str) (ss : List Pg) (ws : List Wd) (t : Tm) : Prop where
  same : Same H0 H
  ff : H fl = some (.lst (fs.map V.str))
  ww : H wl = some (.lst (ss.map Pg.val))
  each : ∀ s ∈ ss, s.ok ws
  eq : fs.flatMap tl ++ outP ss = t.tx
  few : fs.length + wtP ss ≤ 6 * ws.length
def spPText (K : PySem.W.Frag) : Sp := fun vs H Q _ => ∃ (v : V) (t : Tm), vs = [v] ∧ PgAt K H t.ws v ∧ t.ok ∧ t.ws.length ≤ 100 ∧ ∀ H', Same H H' → Q (.str (mk t.tx)) H'
theorem tree_one : ∀ {t : Tm} {r : List Wd} {m : Nat}, t.ok → cntC Th.any r = some m → cntC Th.any (t.ws ++ r) = some (m + 1)
  | .nm z, r, m, h, e => by
    show (cntC Th.any r).bind (stepC Th.any (.st z)) = _
    rw [e]
    show stepC Th.any (.st z) m = _
    unfold stepC
    rw [if_neg (by rw [nm_use h]; exact Bool.false_ne_true), if_pos (show (Wd.st z).name = true from h)]
  | .us f a, r, m, h, e => by
    have h2 := tree_one h.2 e
    have h1 := tree_one h.1 h2
    show (cntC Th.any ((f.ws ++ a.ws) ++ r)).bind (stepC Th.any (.st "@")) = _
    rw [List.append_assoc, h1]
    show stepC Th.any (.st "@") (m + 1 + 1) = _
    unfold stepC
    have u : (Wd.st "@").use = true := by decide +kernel
    rw [if_pos u, if_neg (by omega)]
    rfl
  | .tk z t b, r, m, h, e => by
    have h1 := tree_one h.2.2 e
    show (cntC Th.any (b.ws ++ r)).bind (stepC Th.any (.pr (some z) t)) = _
    rw [h1]
    show stepC Th.any (.pr (some z) t) (m + 1) = _
    unfold stepC
    have u : (Wd.pr (some z) t).use = false := rfl
    have n : (Wd.pr (some z) t).name = false := rfl
    have k : (Wd.pr (some z) t).take Th.any = true := by
      show (nameB z && t.any) = true
      rw [h.1, h.2.1]; rfl
    rw [u, n, k, if_neg Bool.false_ne_true, if_neg Bool.false_ne_true, if_neg (by simp)]
theorem Tm.one {t : Tm} (h : t.ok) : Prog t.ws := by
  have := tree_one (r := []) (m := 0) h rfl
  rw [List.append_nil] at this
  exact ⟨decide_eq_true this⟩
end LG

set_option Elab.async false
set_option linter.all false
set_option maxRecDepth 100000
set_option maxHeartbeats 4100000
namespace LG
open PySem L2 TL
abbrev sRGoes : Stmt := inClass (top 32) 1
abbrev sRIsL : Stmt := inClass (top 32) 2
abbrev sRNeed : Stmt := inClass (top 32) 3
abbrev sREnd : Stmt := inClass (top 32) 4
abbrev sRLet : Stmt := inClass (top 32) 5
abbrev sRName : Stmt := inClass (top 32) 6
abbrev sRInit : Stmt := inClass (top 32) 0
structure RdT (K : PySem.W.Frag) (CR : Addr) : Prop where
  cl : Cls K CR
  nT : NoAttr K CR "_text"
  nA : NoAttr K CR "_at"
def rdF (z : Str) (n : Nat) : List (Str × V) := [(("_text" : Str), .str z), (("_at" : Str), .int (n : Int))]
theorem rdF_text {z : Str} {n : Nat} : (rdF z n).lookup ("_text" : Str) = some (.str z) := rfl
theorem rdF_at {z : Str} {n : Nat} : (rdF z n).lookup ("_at" : Str) = some (.int (n : Int)) := rfl
theorem rdF_put {z : Str} {n m : Nat} : putF "_at" (.int (m : Int)) (rdF z n) = rdF z m := by
  have h1 : ¬ (("_text" : Str) = "_at") := by decide +kernel
  simp only [putF, rdF, if_neg h1, if_true]
theorem rdF_make {z : Str} : putF "_at" (.int 0) (putF "_text" (.str z) []) = rdF z 0 := by
  have h1 : ¬ (("_text" : Str) = "_at") := by decide +kernel
  simp only [putF, rdF, if_neg h1]
  rfl
/-- a Reading with the signs that are ahead -/
def RdAt (CR : Addr) (H : Hp) (r : Addr) (l : List Nat) : Prop := ∃ dx z n, H r = some (.ins CR dx (rdF z n)) ∧ (tl z).drop n = l ∧ n ≤ (tl z).length ∧ (tl z).length ≤ 4000000
theorem RdAt.len {CR : Addr} {H : Hp} {r : Addr} {l : List Nat} (h : RdAt CR H r l) : l.length ≤ 4000000 := by
  obtain ⟨dx, z, n, _, e, _, q⟩ := h
  rw [← e, List.length_drop]; omega
theorem RdAt.same {CR : Addr} {H H' : Hp} {r : Addr} {l : List Nat} (h : RdAt CR H r l) (s : Same H H') : RdAt CR H' r l := by
  obtain ⟨dx, z, n, a, q⟩ := h
  exact ⟨dx, z, n, s _ _ a, q⟩
theorem big4 {n : Nat} (h : n ≤ 5000000) : n ≤ sizeLine := Nat.le_trans h (by decide)
theorem drop_at {l : List Nat} {n c : Nat} {r : List Nat} (h : l.drop n = c :: r) : l[n]? = some c ∧ l.drop (n + 1) = r ∧ n < l.length := by
  have lt : n < l.length := by
    rcases Nat.lt_or_ge n l.length with q | q
    · exact q
    · rw [List.drop_eq_nil_of_le q] at h; cases h
  rw [List.drop_eq_getElem_cons lt] at h
  injection h with h1 h2
  exact ⟨by rw [List.getElem?_eq_getElem lt, h1], h2, lt⟩
theorem drop_nil {l : List Nat} {n : Nat} (h : l.drop n = []) (k : n ≤ l.length) : n = l.length := by
  (have := congrArg List.length h)
  rw [List.length_drop, List.length_nil] at this
  omega
/-- one sign on -/
theorem RdAt.step {CR : Addr} {H : Hp} {r dx : Addr} {z : Str} {n c : Nat} {l : List Nat} (h : H r = some (.ins CR dx (rdF z n))) (e : (tl z).drop n = c :: l) (k : (tl z).length ≤ 4000000) :
    RdAt CR (upd H r (.ins CR dx (putF "_at" (.int ((n : Int) + 1)) (rdF z n)))) r l := by
  obtain ⟨_, e2, lt⟩ := drop_at e
  refine ⟨dx, z, n + 1, ?_, e2, lt, k⟩
  rw [upd_same, show ((n : Int) + 1) = ((n + 1 : Nat) : Int) by omega, rdF_put]
theorem del_updR {H : Hp} {r : Addr} {o : HO} : Same (del H r) (del (upd H r o) r) := del_off fun b h => upd_ne h
theorem ip_addS {X : Cx} : PIp X .Add rAddS := fun pins s σ H x y v u Q I rx ry h => iop_add_str pins s σ H x y v u Q I rx ry h
def isLt : List Nat → Bool
  | c :: _ => decide (c ∈ letters.cps.toList)
  | [] => false
def spRGoes (K : PySem.W.Frag) (CR : Addr) : Sp := fun vs H Q _ => ∃ (r : Addr) (l : List Nat) (c : Nat) (y : Str), vs = [.ref r, .str y] ∧ tl y = [c] ∧ RdAt CR H r l ∧ Q (.bl (decide (l.head? = some c))) H
def spRIsL (K : PySem.W.Frag) (CR : Addr) : Sp := fun vs H Q _ => ∃ (r : Addr) (l : List Nat), vs = [.ref r] ∧ RdAt CR H r l ∧ Q (.bl (isLt l)) H
def spRNeed (K : PySem.W.Frag) (CR : Addr) : Sp := fun vs H Q _ => ∃ (r : Addr) (a l : List Nat) (y : Str), vs = [.ref r, .str y] ∧ tl y = a ∧ RdAt CR H r (a ++ l) ∧ ∀ H', RdAt CR H' r l → Same (del H r) (del H' r) → Q .non H'
def spREnd (K : PySem.W.Frag) (CR : Addr) : Sp := fun vs H Q _ => ∃ (r : Addr), vs = [.ref r] ∧ RdAt CR H r [] ∧ Q .non H
def spRLet (K : PySem.W.Frag) (CR : Addr) : Sp := fun vs H Q _ => ∃ (r : Addr) (c : Nat) (l : List Nat), vs = [.ref r] ∧ RdAt CR H r (c :: l) ∧ c ∈ letters.cps.toList ∧ ∀ H', RdAt CR H' r l → Same (del H r) (del H' r) → Q (.str (mk [c])) H'
def spRName (K : PySem.W.Frag) (CR : Addr) : Sp := fun vs H Q _ => ∃ (r : Addr) (z : Str) (l : List Nat), vs = [.ref r] ∧ RdAt CR H r (tl z ++ l) ∧ nameB z = true ∧ stopN l ∧ ∀ H', RdAt CR H' r l → Same (del H r) (del H' r) → Q (.str z) H'
def spRInit (K : PySem.W.Frag) (CR : Addr) : Sp := fun vs H Q _ => ∃ (x dx : Addr) (z : Str), vs = [.ref x, .str z] ∧ H x = some (.ins CR dx []) ∧ (tl z).length ≤ 4000000 ∧ ∀ H', RdAt CR H' x (tl z) → Same (del H x) (del H' x) → Q .non H'
theorem sign_eq {c d : Nat} : decide (V.str (⟨#[c]⟩ : Str) = V.str (mk [d])) = decide (some c = some d) := by
  rw [decide_eq_decide]
  constructor
  · intro h
    have h : (⟨#[c]⟩ : Str) = mk [d] := V.str.inj h
    have h : [c] = [d] := congrArg tl h
    rw [(List.cons.inj h).1]
  · intro h
    rw [Option.some.inj h]; rfl
section
variable {P : Program} {w : World} {K : PySem.W.Frag} {mg : Str → Option Value} {base : Heap} {CR : Addr}
theorem scRGoes : FnScope ["self", "sign"] ["self", "sign"] (defScope sRGoes) := ⟨rfl, rfl, rfl, by decide +kernel, rfl, by decide +kernel, by decide +kernel⟩
theorem ok_rgoes {f : Addr} {fd : FuncData} (F : Fun K "_goes_on" "Reading._goes_on" sRGoes f fd) (T : TxB mg) (R : RdT K CR) : FnOk P w K mg base CX0 1 f fd ["self", "sign"] (spRGoes K CR) := by
  refine F.ok scRGoes (fun vs H Q E h => ?_) (fun cdv A outer s H vs Q E hr h => ?_)
  · obtain ⟨_, _, _, _, rfl, _⟩ := h
    rfl
  · obtain ⟨r, l, c, y, rfl, ey, ⟨dx, z, n, hA, e, hn, hz⟩, kq⟩ := h
    obtain rfl : y = mk [c] := ext_tl ey
    refine ⟨_, pss_one (ps_ret (pe_and (pe_cmpR op_lt (pe_fld (pv 0) rfl) (pe_callB call_len_str (by rfl) T.len PySem.boot_len (pa_cons (pe_fld (pv 0) rfl) pa_nil)) (nomark _)) (pe_one (pe_cmpR op_eq (pe_ix ix_str (pe_fld (pv 0) rfl) (pe_fld (pv 0) rfl) (fun _ _ => rfl)) (pv 1) (nomark _))))), ?_⟩
    have zl : (tl z).length = z.length := tl_len
    refine ⟨_, rfl, r, CR, dx, _, _, rfl, hA, R.cl, R.nA, rdF_at, _, rfl, r, CR, dx, _, _, rfl, hA, R.cl, R.nT, rdF_text, _, rfl, big4 (by omega), _, _, rfl, rfl, _, rfl, ?_⟩
    cases l with
    | nil =>
      have := drop_nil e hn
      refine ifF (decide_eq_false (by omega)) ?_
      have q : decide (([] : List Nat).head? = some c) = false := rfl
      rw [q] at kq
      exact kq
    | cons d l =>
      obtain ⟨h1, _, lt⟩ := drop_at e
      refine ifT (decide_eq_true (by omega)) ?_
      refine ⟨_, rfl, r, CR, dx, _, _, rfl, hA, R.cl, R.nT, rdF_text, _, rfl, r, CR, dx, _, _, rfl, hA, R.cl, R.nA, rdF_at, z, _, d, rfl, rfl, big4 (by omega), atI_nat h1, _, rfl, rfl, ?_⟩
      rw [sign_eq]
      exact kq
theorem scRIsL : FnScope ["self"] ["self"] (defScope sRIsL) := ⟨rfl, rfl, rfl, by decide +kernel, rfl, by decide +kernel, by decide +kernel⟩
theorem ok_risl {f : Addr} {fd : FuncData} (F : Fun K "_is_letter" "Reading._is_letter" sRIsL f fd) (T : TxB mg) (TN : TxN mg) (R : RdT K CR) : FnOk P w K mg base CX0 1 f fd ["self"] (spRIsL K CR) := by
  obtain ⟨uL, hL⟩ := TN.let_
  refine F.ok scRIsL (fun vs H Q E h => ?_) (fun cdv A outer s H vs Q E hr h => ?_)
  · obtain ⟨_, _, rfl, _⟩ := h
    rfl
  · obtain ⟨r, l, rfl, ⟨dx, z, n, hA, e, hn, hz⟩, kq⟩ := h
    refine ⟨_, pss_one (ps_ret (pe_and (pe_cmpR op_lt (pe_fld (pv 0) rfl) (pe_callB call_len_str (by rfl) T.len PySem.boot_len (pa_cons (pe_fld (pv 0) rfl) pa_nil)) (nomark _)) (pe_one (pe_cmpR op_in_sign (pe_ix ix_str (pe_fld (pv 0) rfl) (pe_fld (pv 0) rfl) (fun _ _ => rfl)) (pe_glob (v := .str letters) (by rfl) hL ⟨_, rfl⟩) (by rfl))))), ?_⟩
    have zl : (tl z).length = z.length := tl_len
    refine ⟨_, rfl, r, CR, dx, _, _, rfl, hA, R.cl, R.nA, rdF_at, _, rfl, r, CR, dx, _, _, rfl, hA, R.cl, R.nT, rdF_text, _, rfl, big4 (by omega), _, _, rfl, rfl, _, rfl, ?_⟩
    cases l with
    | nil =>
      have := drop_nil e hn
      refine ifF (decide_eq_false (by omega)) ?_
      exact kq
    | cons d l =>
      obtain ⟨h1, _, lt⟩ := drop_at e
      refine ifT (decide_eq_true (by omega)) ?_
      exact ⟨_, rfl, r, CR, dx, _, _, rfl, hA, R.cl, R.nT, rdF_text, _, rfl, r, CR, dx, _, _, rfl, hA, R.cl, R.nA, rdF_at, z, _, d, rfl, rfl, big4 (by omega), atI_nat h1, d, letters, rfl, rfl, kq⟩
theorem scREnd : FnScope ["self"] ["self"] (defScope sREnd) := ⟨rfl, rfl, rfl, by decide +kernel, rfl, by decide +kernel, by decide +kernel⟩
theorem ok_rend {f : Addr} {fd : FuncData} (F : Fun K "need_end" "Reading.need_end" sREnd f fd) (T : TxB mg) (R : RdT K CR) : FnOk P w K mg base CX0 1 f fd ["self"] (spREnd K CR) := by
  refine F.ok scREnd (fun vs H Q E h => ?_) (fun cdv A outer s H vs Q E hr h => ?_)
  · obtain ⟨_, rfl, _⟩ := h
    rfl
  · obtain ⟨r, rfl, ⟨dx, z, n, hA, e, hn, hz⟩, kq⟩ := h
    refine ⟨_, pss_one (ps_if (pt_cmpR op_lt (pe_fld (pv 0) rfl) (pe_callB call_len_str (by rfl) T.len PySem.boot_len (pa_cons (pe_fld (pv 0) rfl) pa_nil)) (nomark _))
        pss_never
        pss_nil), ?_⟩
    have zl : (tl z).length = z.length := tl_len
    have := drop_nil e hn
    refine ⟨_, rfl, r, CR, dx, _, _, rfl, hA, R.cl, R.nA, rdF_at, _, rfl, r, CR, dx, _, _, rfl, hA, R.cl, R.nT, rdF_text, _, rfl, big4 (by omega), _, _, rfl, rfl, _, rfl, ?_⟩
    refine ifF (decide_eq_false (by omega)) ?_
    exact kq
theorem scRLet : FnScope ["self"] ["self"] (defScope sRLet) := ⟨rfl, rfl, rfl, by decide +kernel, rfl, by decide +kernel, by decide +kernel⟩
theorem ok_rlet {f fL : Addr} {fd fdL : FuncData} (F : Fun K "_letter" "Reading._letter" sRLet f fd) (FL : Fun K "_is_letter" "Reading._is_letter" sRIsL fL fdL) (bL : Binds K fdL ["self"] []) (mL : Meth K CR "_is_letter" fL) (T : TxB mg) (TN : TxN mg) (R : RdT K CR) : FnOk P w K mg base CX0 2 f fd ["self"] (spRLet K CR) := by
  have GL : FnOk P w K mg base CX0 1 fL fdL ["self"] (spRIsL K CR) := ok_risl FL T TN R
  refine F.ok scRLet (fun vs H Q E h => ?_) (fun cdv A outer s H vs Q E hr h => ?_)
  · obtain ⟨_, _, _, rfl, _⟩ := h
    rfl
  · obtain ⟨r, c, l, rfl, hR, hc, kq⟩ := h
    obtain ⟨dx, z, n, hA, e, hn, hz⟩ := id hR
    refine ⟨_, pss_cons (ps_if (pt_not (pt_val (pe_meth0 (pv 0) R.cl mL GL hr bL .nil pass0)))
        pss_never
        pss_nil)
    (pss_cons (ps_fldaug (pv 0) pe_int in_add)
    (pss_one (ps_ret (pe_ix ix_str (pe_fld (pv 0) rfl) (pe_op op_sub (pe_fld (pv 0) rfl) pe_int) (fun _ _ => rfl))))), ?_⟩
    have zl : (tl z).length = z.length := tl_len
    obtain ⟨h1, h2, lt⟩ := drop_at e
    refine ⟨_, rfl, r, dx, _, rfl, hA, rfl, r, c :: l, rfl, hR, _, rfl, ?_⟩
    have ct : isLt (c :: l) = true := decide_eq_true hc
    rw [ct]
    refine ifF rfl ?_
    refine ⟨_, rfl, r, CR, dx, _, _, rfl, hA, R.cl, R.nA, rdF_at, _, _, rfl, rfl, dx, _, hA, (by show 2 < 1000; decide), ?_⟩
    have R2 := RdAt.step (CR := CR) hA e hz
    have s2 : Same (del H r) (del (upd H r (.ins CR dx (putF "_at" (.int ((n : Int) + 1)) (rdF z n)))) r) := del_updR
    have h3 : upd H r (.ins CR dx (putF "_at" (.int ((n : Int) + 1)) (rdF z n))) r = some (.ins CR dx (rdF z (n + 1))) := by
      rw [upd_same, show ((n : Int) + 1) = ((n + 1 : Nat) : Int) by omega, rdF_put]
    generalize upd H r (.ins CR dx (putF "_at" (.int ((n : Int) + 1)) (rdF z n))) = H2 at R2 s2 h3
    refine ⟨_, rfl, r, CR, dx, _, _, rfl, h3, R.cl, R.nT, rdF_text, _, rfl, r, CR, dx, _, _, rfl, h3, R.cl, R.nA, rdF_at, _, _, rfl, rfl, z, _, c, rfl, rfl, big4 (by omega), ?_, kq H2 R2 s2⟩
    have ei : (((n + 1 : Nat) : Int) - 1) = ((n : Nat) : Int) := by omega
    rw [ei]
    exact atI_nat h1
theorem scRNeed : FnScope ["self", "signs", "sign"] ["self", "signs"] (defScope sRNeed) := ⟨rfl, rfl, rfl, by decide +kernel, rfl, by decide +kernel, by decide +kernel⟩
theorem ok_rneed {f fG : Addr} {fd fdG : FuncData} (F : Fun K "_need" "Reading._need" sRNeed f fd) (FG : Fun K "_goes_on" "Reading._goes_on" sRGoes fG fdG) (bG : Binds K fdG ["self", "sign"] []) (mG : Meth K CR "_goes_on" fG) (T : TxB mg) (R : RdT K CR) : FnOk P w K mg base CX0 2 f fd ["self", "signs"] (spRNeed K CR) := by
  have GG : FnOk P w K mg base CX0 1 fG fdG ["self", "sign"] (spRGoes K CR) := ok_rgoes FG T R
  refine F.ok scRNeed (fun vs H Q E h => ?_) (fun cdv A outer s H vs Q E hr h => ?_)
  · obtain ⟨_, _, _, _, rfl, _⟩ := h
    rfl
  · obtain ⟨r, a, l, y, rfl, ey, hR, kq⟩ := h
    obtain rfl : y = mk a := ext_tl ey
    have nd := scRNeed.nd
    refine ⟨_, pss_one (ps_for PassesOwn.never rfl (pi_str (pv 1)) (pg_name (i := 2) nd rfl (Or.inl rfl))
        (pss_cons (ps_if (pt_not (pt_val (pe_meth (pv 0) R.cl mG GG hr bG .nil pass0 (pa_cons (pv 2) pa_nil))))
            pss_never
            pss_nil)
        (pss_one (ps_fldaug (pv 0) pe_int in_add)))), ?_⟩
    refine ⟨_, rfl, _, rfl, ?_⟩
    refine for_it (walk_str (z := mk a)) (fun i σ H' => ∃ t2, σ = [some (.ref r), some (.str (mk a)), t2] ∧ RdAt CR H' r (a.drop i ++ l) ∧ Same (del H r) (del H' r)) ⟨none, rfl, hR, same_refl _⟩ (fun _ _ _ _ _ => trivial) ?_ ?_
    · rintro i y σ Hq H' hi ⟨t2, rfl, h1, h2⟩ ⟨rfl, c, hc, rfl⟩
      have hc' : a[i]? = some c := by
        have := hc
        simpa [mk] using this
      have lt : i < a.length := by
        rcases Nat.lt_or_ge i a.length with q | q
        · exact q
        · rw [List.getElem?_eq_none q] at hc'; cases hc'
      have ed : a.drop i = c :: a.drop (i + 1) := by
        rw [List.drop_eq_getElem_cons lt]
        rw [List.getElem?_eq_getElem lt] at hc'
        rw [Option.some.inj hc']
      rw [ed] at h1
      obtain ⟨dx, z, n, hA, e, hn, hz⟩ := id h1
      refine ⟨_, rfl, r, dx, _, rfl, hA, rfl, _, rfl, r, _, c, _, rfl, rfl, h1, _, rfl, ?_⟩
      refine ifF (by simp) ?_
      refine ⟨_, rfl, r, CR, dx, _, _, rfl, hA, R.cl, R.nA, rdF_at, _, _, rfl, rfl, dx, _, hA, (by show 2 < 1000; decide), ?_⟩
      exact ⟨_, rfl, RdAt.step hA e hz, same_trans h2 del_updR⟩
    · rintro σ H' ⟨t2, rfl, h1, h2⟩
      have el : (mk a).cps.size = a.length := by simp [mk]
      rw [el, List.drop_length] at h1
      exact kq H' h1 h2
theorem scRName : FnScope ["self", "name"] ["self"] (defScope sRName) := ⟨rfl, rfl, rfl, by decide +kernel, rfl, by decide +kernel, by decide +kernel⟩
theorem ok_rname {f fL fI : Addr} {fd fdL fdI : FuncData} (F : Fun K "_name" "Reading._name" sRName f fd) (FL : Fun K "_letter" "Reading._letter" sRLet fL fdL) (bL : Binds K fdL ["self"] []) (mL : Meth K CR "_letter" fL) (FI : Fun K "_is_letter" "Reading._is_letter" sRIsL fI fdI) (bI : Binds K fdI ["self"] []) (mI : Meth K CR "_is_letter" fI)
    (T : TxB mg) (TN : TxN mg) (R : RdT K CR) : FnOk P w K mg base CX0 3 f fd ["self"] (spRName K CR) := by
  have GI : FnOk P w K mg base CX0 1 fI fdI ["self"] (spRIsL K CR) := ok_risl FI T TN R
  have GL : FnOk P w K mg base CX0 2 fL fdL ["self"] (spRLet K CR) := ok_rlet FL FI bI mI T TN R
  obtain ⟨u8, h8⟩ := TN.long
  refine F.ok scRName (fun vs H Q E h => ?_) (fun cdv A outer s H vs Q E hr h => ?_)
  · obtain ⟨_, _, _, rfl, _⟩ := h
    rfl
  · obtain ⟨r, z, l, rfl, hR, hz, hs, kq⟩ := h
    have nd := scRName.nd
    have hr1 := hr.mono (show 1 ≤ 2 by decide)
    refine ⟨_, pss_cons (ps_set (i := 1) nd rfl (Or.inl rfl) (pe_meth0 (pv 0) R.cl mL GL hr bL .nil pass0))
    (pss_cons (ps_while PassesOwn.never (PW.pt (pw_and (pt_val (pe_meth0 (pv 0) R.cl mI GI hr1 bI .nil pass0)) (pw_and1 (pt_cmpR op_lt (pe_callB call_len_str (by rfl) T.len PySem.boot_len (pa_cons (pv 1) pa_nil)) (pe_glob (v := .int 8) (by rfl) h8 ⟨_, rfl⟩) (nomark _)))))
        (pss_one (ps_aug (i := 1) nd rfl (Or.inl rfl) (pe_meth0 (pv 0) R.cl mL GL hr bL .nil pass0) ip_addS)))
    (pss_one (ps_ret (pv 1)))), ?_⟩
    obtain ⟨zl1, zl8⟩ := name_len hz
    have zs := name_signs hz
    obtain ⟨c, z', ez⟩ : ∃ c z', tl z = c :: z' := by
      cases e : tl z with
      | nil => rw [e] at zl1; exact absurd zl1 (by simp)
      | cons c z' => exact ⟨c, z', rfl⟩
    rw [ez] at hR zl8 zs
    obtain ⟨dx, z0, n, hA, _⟩ := id hR
    refine ⟨_, rfl, r, dx, _, rfl, hA, rfl, r, c, z' ++ l, rfl, hR, zs c List.mem_cons_self, fun H1 R1 s1 => ?_⟩
    refine ⟨fun m σ H' => ∃ i, m = z'.length - i ∧ i ≤ z'.length ∧ σ = [some (.ref r), some (.str (mk (c :: z'.take i)))] ∧ RdAt CR H' r (z'.drop i ++ l) ∧ Same (del H r) (del H' r), ⟨_, 0, rfl, Nat.zero_le _, rfl, R1, s1⟩, ?_⟩
    rintro m σ H' ⟨i, rfl, hi, rfl, R2, s2⟩
    have zn : z'.length ≤ 7 := by rw [List.length_cons] at zl8; omega
    obtain ⟨dx2, z2, n2, hA2, _⟩ := id R2
    refine ⟨_, rfl, r, dx2, _, rfl, hA2, rfl, r, _, rfl, R2, _, rfl, ?_⟩
    have tkl : (mk (c :: z'.take i)).length = i + 1 := by rw [mk_len, List.length_cons, List.length_take]; omega
    rcases Nat.lt_or_ge i z'.length with lt | ge
    · have ed : z'.drop i = z'[i] :: z'.drop (i + 1) := List.drop_eq_getElem_cons lt
      have cin := zs z'[i] (List.mem_cons_of_mem _ (List.getElem_mem lt))
      rw [ed] at R2 ⊢
      refine ifT (by show decide (z'[i] ∈ letters.cps.toList) = true; exact decide_eq_true cin) ?_
      refine ⟨_, rfl, _, rfl, big4 (by rw [tkl]; omega), _, _, rfl, rfl, _, rfl, ?_⟩
      rw [tkl]
      refine ifT (decide_eq_true (by omega)) ?_
      refine ⟨fun σ'' H'' => ∃ m', m' < z'.length - i ∧ ∃ i', m' = z'.length - i' ∧ i' ≤ z'.length ∧ σ'' = [some (.ref r), some (.str (mk (c :: z'.take i')))] ∧ RdAt CR H'' r (z'.drop i' ++ l) ∧ Same (del H r) (del H'' r), fun σ'' H'' z => z, ?_⟩
      refine ⟨_, rfl, _, rfl, r, dx2, _, rfl, hA2, rfl, r, z'[i], z'.drop (i + 1) ++ l, rfl, R2, cin, fun H3 R3 s3 => ?_⟩
      refine ⟨_, _, rfl, rfl, big4 (by rw [tkl, mk_len, List.length_singleton]; omega), _, by omega, i + 1, rfl, lt, ?_, R3, same_trans s2 s3⟩
      rw [mk_app, List.take_add_one, List.getElem?_eq_getElem lt]; rfl
    · have ei : i = z'.length := by omega
      have ed : z'.drop i = [] := List.drop_eq_nil_of_le ge
      rw [ed, List.nil_append] at R2 ⊢
      refine ifF ?_ ?_
      · cases l with
        | nil => rfl
        | cons d l => exact decide_eq_false hs
      · have et : mk (c :: z'.take i) = z := by
          rw [ei, List.take_length, ← ez, mk_tl]
        rw [et]
        exact ⟨_, rfl, kq H' R2 s2⟩
end
end LG

set_option Elab.async false
set_option linter.all false
set_option maxRecDepth 100000
set_option maxHeartbeats 4100000
namespace LG
open PySem L2 TL
abbrev sRKind : Stmt := inClass (top 32) 7
/-! ### reading a kind: mathematics -/
/-- a kind with these lefts ahead of another one -/
def bld (L : List Th) (t : Th) : Th := L.foldr Th.pr t
theorem bld_snoc {L : List Th} {a t : Th} : bld (L ++ [a]) t = bld L (.pr a t) := by
  unfold bld
  rw [List.foldr_append]; rfl
/-- what is read, the innermost first: lefts so far, and what is ahead -/
abbrev Frm : Type := List Th × Th
def tailS : List Frm → List Nat
  | [] => []
  | f :: fs => 41 :: 32 :: 62 :: 32 :: (kL f.2 ++ tailS fs)
def valK : List Th → Th → List Frm → Th
  | L, t, [] => bld L t
  | L, t, f :: fs => valK (f.1 ++ [bld L t]) f.2 fs
def noBl (l : List Nat) : Prop := l.head? ≠ some 32
theorem valK_open {L : List Th} {l r : Th} {fs : List Frm} : valK [] l ((L, r) :: fs) = valK L (.pr l r) fs := by
  show valK (L ++ [bld [] l]) r fs = _
  cases fs with
  | nil => exact bld_snoc
  | cons f fs =>
    show valK (f.1 ++ [bld (L ++ [bld [] l]) r]) f.2 fs = valK (f.1 ++ [bld L (.pr l r)]) f.2 fs
    rw [bld_snoc]; rfl
theorem valK_left {L : List Th} {a r : Th} {fs : List Frm} : valK (L ++ [a]) r fs = valK L (.pr a r) fs := by
  cases fs with
  | nil => exact bld_snoc
  | cons f fs =>
    show valK (f.1 ++ [bld (L ++ [a]) r]) f.2 fs = valK (f.1 ++ [bld L (.pr a r)]) f.2 fs
    rw [bld_snoc]
theorem valK_close {L : List Th} {t : Th} {f : Frm} {fs : List Frm} : valK L t (f :: fs) = valK (f.1 ++ [bld L t]) f.2 fs := rfl
theorem bld_any {L : List Th} {t : Th} (h : ∀ a ∈ L, a.any = true) (g : t.any = true) : (bld L t).any = true := by
  induction L with
  | nil => exact g
  | cons a L ih =>
    show (a.any && (bld L t).any) = true
    rw [h a List.mem_cons_self, ih fun b hb => h b (List.mem_cons_of_mem _ hb)]; rfl
/-- a frame's list, at an address -/
structure FrA where
  a : Addr
  L : List (Th × V)
  t : Th
def FrA.frm (f : FrA) : Frm := (f.L.map (·.1), f.t)
def FrOk (K : PySem.W.Frag) (H0 H : Hp) (g : FrA) : Prop := H0 g.a = none ∧ H g.a = some (.lst (g.L.map (·.2))) ∧ (∀ p ∈ g.L, ThAt K (tups H) p.1 p.2 ∧ p.1.any = true) ∧ g.t.any = true
/-- between two turns of kind: the frames, the innermost first -/
structure RkI (K : PySem.W.Frag) (CR : Addr) (H0 H : Hp) (r ar : Addr) (f : FrA) (fs : List FrA) (T : Th) (rest : List Nat) : Prop where
  same : Same (del H0 r) (del H r)
  rd : RdAt CR H r (kL f.t ++ (tailS (fs.map FrA.frm) ++ rest))
  arnew : H0 ar = none
  aro : H ar = some (.lst ((f :: fs).reverse.map fun g => V.ref g.a))
  each : ∀ g ∈ f :: fs, FrOk K H0 H g
  apart : (ar :: (f :: fs).map FrA.a).Nodup
  val : valK (f.L.map (·.1)) f.t (fs.map FrA.frm) = T
  pair : fs ≠ [] → f.L ≠ [] ∨ f.t.isPr = true
  few : ∀ g ∈ f :: fs, g.L.length + (kL f.t ++ (tailS (fs.map FrA.frm) ++ rest)).length ≤ 4000000
theorem idx_at {i : Nat} (h : i ≤ 25) : ∃ q, Builtin.Str.occurrences letters (mk [97 + i]) 0 letters.length 1 = i :: q := by
  have : ∀ j < 26, (Builtin.Str.occurrences letters (mk [97 + j]) 0 letters.length 1).head? = some j := by decide +kernel
  have := this i (by omega)
  cases e : Builtin.Str.occurrences letters (mk [97 + i]) 0 letters.length 1 with
  | nil => rw [e] at this; cases this
  | cons a q => rw [e] at this; cases this; exact ⟨q, rfl⟩
theorem tailS_len : ∀ {fs : List Frm}, 4 * fs.length ≤ (tailS fs).length
  | [] => Nat.le_refl _
  | f :: fs => by
    have := tailS_len (fs := fs)
    show 4 * (fs.length + 1) ≤ (41 :: 32 :: 62 :: 32 :: (kL f.2 ++ tailS fs)).length
    simp only [List.length_cons, List.length_append]
    omega
/-- the methods of Reading that stand in the written part -/
structure RdF (K : PySem.W.Frag) (mg : Str → Option Value) (CR f0 fG fI fN fE fL fM fK fP fT : Addr) (fd0 fdG fdI fdN fdE fdL fdM fdK fdP fdT : FuncData) (sK sP sT : Stmt) : Prop where
  R : RdT K CR
  Mm : Mk K CR f0
  m : mg "Reading" = some (.ref CR)
  F0 : Fun K "__init__" "Reading.__init__" sRInit f0 fd0
  b0 : Binds K fd0 ["self", "text"] []
  FG : Fun K "_goes_on" "Reading._goes_on" sRGoes fG fdG
  bG : Binds K fdG ["self", "sign"] []
  mG : Meth K CR "_goes_on" fG
  FI : Fun K "_is_letter" "Reading._is_letter" sRIsL fI fdI
  bI : Binds K fdI ["self"] []
  mI : Meth K CR "_is_letter" fI
  FN : Fun K "_need" "Reading._need" sRNeed fN fdN
  bN : Binds K fdN ["self", "signs"] []
  mN : Meth K CR "_need" fN
  FE : Fun K "need_end" "Reading.need_end" sREnd fE fdE
  bE : Binds K fdE ["self"] []
  mE : Meth K CR "need_end" fE
  FL : Fun K "_letter" "Reading._letter" sRLet fL fdL
  bL : Binds K fdL ["self"] []
  mL : Meth K CR "_letter" fL
  FM : Fun K "_name" "Reading._name" sRName fM fdM
  bM : Binds K fdM ["self"] []
  mM : Meth K CR "_name" fM
  FK : Fun K "kind" "Reading.kind" sK fK fdK
  bK : Binds K fdK ["self"] []
  mK : Meth K CR "kind" fK
  FP : Fun K "program" "Reading.program" sP fP fdP
  bP : Binds K fdP ["self"] []
  mP : Meth K CR "program" fP
  FT : Fun K "_take" "Reading._take" sT fT fdT
  bT : Binds K fdT ["self"] []
  mT : Meth K CR "_take" fT
theorem RdAt.ins {CR : Addr} {H : Hp} {r : Addr} {l : List Nat} (h : RdAt CR H r l) : ∀ xs, H r ≠ some (.tup xs) := by
  obtain ⟨dx, z, n, e, _⟩ := h
  intro xs q
  rw [e] at q; cases q
/-- what is no Reading stays while one reads on -/
theorem keepR {CR : Addr} {H H' : Hp} {r b : Addr} {l : List Nat} {xs : List V} (h : RdAt CR H r l) (s : Same (del H r) (del H' r)) (e : H b = some (.lst xs)) : H' b = some (.lst xs) := by
  have n : b ≠ r := by
    rintro rfl
    obtain ⟨dx, z, k, q, _⟩ := h
    rw [e] at q; cases q
  have := s b _ (by rw [del_ne n]; exact e)
  rwa [del_ne n] at this
theorem RdAt.put {CR : Addr} {H : Hp} {r b : Addr} {l : List Nat} {xs : List V} {o : HO} (h : RdAt CR H r l) (e : H b = some (.lst xs)) : RdAt CR (upd H b o) r l := by
  obtain ⟨dx, z, n, q, r1⟩ := h
  have ne : r ≠ b := by rintro rfl; rw [e] at q; cases q
  exact ⟨dx, z, n, by rw [upd_ne ne]; exact q, r1⟩
def spRKind (K : PySem.W.Frag) (CR : Addr) : Sp := fun vs H Q _ => ∃ (r : Addr) (t : Th) (rest : List Nat), vs = [.ref r] ∧ RdAt CR H r (kL t ++ rest) ∧ t.any = true ∧ noBl rest ∧ ∀ v H', RdAt CR H' r rest → Same (del H r) (del H' r) → ThAt K (tups H') t v → Q v H'
/-- what is new behind was new ahead -/
theorem newR {CR : Addr} {H H2 : Hp} {r a : Addr} {l : List Nat} (R : RdAt CR H2 r l) (s : Same (del H r) (del H2 r)) (h : H2 a = none) : H a = none := by
  obtain ⟨dx, z, n, q, _⟩ := R
  have ne : a ≠ r := by rintro rfl; rw [h] at q; cases q
  cases e : H a with
  | none => rfl
  | some o =>
    have := s a o (by rw [del_ne ne]; exact e)
    rw [del_ne ne, h] at this; cases this
theorem sameU {G H : Hp} {r a : Addr} {o : HO} (s : Same G (del H r)) (h : G a = none) : Same G (del (upd H a o) r) := fun b u e => by
  have ne : b ≠ a := by rintro rfl; rw [h] at e; cases e
  have q := s b u e
  by_cases hb : b = r
  · rw [hb, del_same] at q; cases q
  · rw [del_ne hb] at q ⊢; rw [upd_ne ne]; exact q
theorem del_none {H : Hp} {r a : Addr} (h : H a = none) : del H r a = none := by
  by_cases e : a = r
  · rw [e, del_same]
  · rw [del_ne e]; exact h
theorem FrOk.carry {K : PySem.W.Frag} {CR : Addr} {H0 H H2 H4 : Hp} {r : Addr} {g : FrA} {l : List Nat} (h : FrOk K H0 H g) (R : RdAt CR H r l) (s : Same (del H r) (del H2 r)) (st : Same (tups H2) (tups H4)) (e : H4 g.a = H2 g.a) : FrOk K H0 H4 g := by
  obtain ⟨a, b, c, d⟩ := h
  refine ⟨a, by rw [e]; exact keepR R s b, fun p hp => ⟨?_, (c p hp).2⟩, d⟩
  exact ((c p hp).1.same (tups_del s R.ins)).same st
def RkW (K : PySem.W.Frag) (CR : Addr) (H0 : Hp) (r ar : Addr) (T : Th) (rest : List Nat) : Nat → St → Hp → Prop := fun m σ H' => ∃ (f : FrA) (fs : List FrA) (t2 t3 t4 : Option V), m = (kL f.t ++ (tailS (fs.map FrA.frm) ++ rest)).length ∧ σ = [some (.ref r), some (.ref ar), t2, t3, t4] ∧ RkI K CR H0 H' r ar f fs T rest
theorem kL_cons : ∀ {t : Th}, t.any = true → ∃ c l, kL t = c :: l ∧ (c = 40 ∨ c ∈ letters.cps.toList)
  | .int i, h => by
    obtain ⟨j, e, hj⟩ := any_int h rfl
    cases e
    exact ⟨97 + j, [], rfl, .inr (List.mem_of_getElem? (letters_at hj))⟩
  | .pr l r, h => by
    unfold kL
    split
    · exact ⟨40, _, rfl, .inl rfl⟩
    · obtain ⟨c, q, e, k⟩ := kL_cons (any_pr h).1
      exact ⟨c, q ++ 32 :: 62 :: 32 :: kL r, by rw [e]; rfl, k⟩
  | .bl b, h => by cases h
  | .non, h => by cases h
  | .tup, h => by cases h
theorem letter_not {i c : Nat} (h : i ≤ 25) (k : c < 97) : ¬ some (97 + i) = some c := fun q => by
  injection q with q; omega
section
variable {P : Program} {w : World} {K : PySem.W.Frag} {mg : Str → Option Value} {base : Heap} {CR f0 fG fI fN fE fL fM fK fP fT : Addr} {fd0 fdG fdI fdN fdE fdL fdM fdK fdP fdT : FuncData} {sP sT : Stmt}
theorem scRKind : FnScope ["self", "around", "kind", "lefts", "left"] ["self"] (defScope sRKind) := ⟨rfl, rfl, rfl, by decide +kernel, rfl, by decide +kernel, by decide +kernel⟩
theorem ok_rkind (RF : RdF K mg CR f0 fG fI fN fE fL fM fK fP fT fd0 fdG fdI fdN fdE fdL fdM fdK fdP fdT sRKind sP sT) (T : TxB mg) (T2 : TxD mg) (TN : TxN mg) : FnOk P w K mg base CX0 3 fK fdK ["self"] (spRKind K CR) := by
  have R := RF.R
  have GG : FnOk P w K mg base CX0 1 fG fdG ["self", "sign"] (spRGoes K CR) := ok_rgoes RF.FG T R
  have GN : FnOk P w K mg base CX0 2 fN fdN ["self", "signs"] (spRNeed K CR) := ok_rneed RF.FN RF.FG RF.bG RF.mG T R
  have GL : FnOk P w K mg base CX0 2 fL fdL ["self"] (spRLet K CR) := ok_rlet RF.FL RF.FI RF.bI RF.mI T TN R
  obtain ⟨uL, hL⟩ := TN.let_
  refine RF.FK.ok scRKind (fun vs H Q E h => ?_) (fun cdv A outer s H vs Q E hr h => ?_)
  · obtain ⟨_, _, _, rfl, _⟩ := h
    rfl
  · obtain ⟨r, t, rest, rfl, hR, ha, hb, kq⟩ := h
    have nd := scRKind.nd
    have hr1 := hr.mono (show 1 ≤ 2 by decide)
    refine ⟨_, pss_cons (ps_set (i := 1) nd rfl (Or.inl rfl) (pe_lst (pa_cons (pe_lst pa_nil) pa_nil)))
    (pss_one (ps_while PassesOwn.never (pt_val pe_bl)
        (pss_cons (ps_if (pt_val (pe_meth (pv 0) R.cl RF.mG GG hr1 RF.bG .nil pass0 (pa_cons pe_str pa_nil)))
            (pss_cons (ps_expr (pe_meth (pv 0) R.cl RF.mN GN hr RF.bN .nil pass0 (pa_cons pe_str pa_nil)))
            (pss_cons (ps_expr (pe_bm PySem.F.plainAttrs_list PySem.F.slot_list_append PySem.F.type_list_append mt_append (pv 1) (pa_cons (pe_lst pa_nil) pa_nil)))
            (pss_one ps_continue)))
            pss_nil)
        (pss_cons (ps_set (i := 2) nd rfl (Or.inl rfl) (pe_bm PySem.F.plainAttrs_str PySem.F.slot_str_index PySem.F.type_str_index mt_sindex (pe_glob (v := .str letters) (by rfl) hL ⟨_, rfl⟩) (pa_cons (pe_meth0 (pv 0) R.cl RF.mL GL hr RF.bL .nil pass0) pa_nil)))
        (Evl.pss_cut (ps_if (PW.pt (pw_or (pt_val (pe_meth (pv 0) R.cl RF.mG GG hr1 RF.bG .nil pass0 (pa_cons pe_str pa_nil))) (pw_or1 (PW.pt (pw_and (pt_cmpR op_gt (pe_callB call_len_seq (by rfl) T.len PySem.boot_len (pa_cons (pv 1) pa_nil)) pe_int (nomark _)) (pw_and1 (pt_not (pt_truth (pe_ix ix_list (pv 1) (pe_un un_neg pe_int) (fun _ _ => rfl)) (by intro _; rfl)))))))))
            (pss_cons (ps_expr (pe_meth (pv 0) R.cl RF.mN GN hr RF.bN .nil pass0 (pa_cons pe_str pa_nil)))
            (pss_cons (ps_expr (pe_bm PySem.F.plainAttrs_list PySem.F.slot_list_append PySem.F.type_list_append mt_append (pe_ix ix_list (pv 1) (pe_un un_neg pe_int) (fun _ _ => rfl)) (pa_cons (pv 2) pa_nil)))
            (pss_one ps_continue)))
            pss_nil)
        (pss_cons (ps_set (i := 3) nd rfl (Or.inl rfl) (pe_bm0 PySem.F.plainAttrs_list PySem.F.slot_list_pop PySem.F.type_list_pop mt_pop (pv 1)))
        (pss_cons (ps_for PassesOwn.never rfl (pi_reversed (by rfl) T2.reversed (pa_cons (pv 3) pa_nil)) (pg_name (i := 4) nd rfl (Or.inl rfl))
            (pss_one (ps_set (i := 2) nd rfl (Or.inl rfl) (pe_tup (pa_cons (pv 4) (pa_cons (pv 2) pa_nil))))))
        (pss_cons (ps_if (pt_not (pt_truth (pv 1) (by intro _; rfl)))
            (pss_one (ps_ret (pv 2)))
            pss_nil)
        (pss_cons (ps_expr (pe_meth (pv 0) R.cl RF.mN GN hr RF.bN .nil pass0 (pa_cons pe_str pa_nil)))
        (pss_one (ps_expr (pe_bm PySem.F.plainAttrs_list PySem.F.slot_list_append PySem.F.type_list_append mt_append (pe_ix ix_list (pv 1) (pe_un un_neg pe_int) (fun _ _ => rfl)) (pa_cons (pv 2) pa_nil))))))))))))), ?_⟩
    refine ⟨(by show 0 ≤ sizeLine; decide), fun l0 n0 => ?_⟩
    have s0 := same_new (o := .lst []) (same_refl H) n0
    refine ⟨(by show 1 ≤ sizeLine; decide), fun ar nar => ?_⟩
    have l0ar : l0 ≠ ar := ne_of_none upd_same nar
    have nar0 : H ar = none := same_none s0 nar
    have s1 := same_new (o := .lst [.ref l0]) s0 nar
    have e0 : upd (upd H l0 (.lst [])) ar (.lst [.ref l0]) l0 = some (.lst []) := by rw [upd_ne l0ar]; exact upd_same
    have e1 : upd (upd H l0 (.lst [])) ar (.lst [.ref l0]) ar = some (.lst [.ref l0]) := upd_same
    generalize upd (upd H l0 (.lst [])) ar (.lst [.ref l0]) = H1 at s1 e0 e1
    refine ⟨RkW K CR H r ar t rest, ⟨_, ⟨l0, [], t⟩, [], none, none, none, rfl, rfl, ?_⟩, ?_⟩
    · have hlen := hR.len
      refine ⟨del_same_of s1, hR.same s1, nar0, e1, fun g hg => ?_, ?_, rfl, fun h => absurd rfl h, fun g hg => ?_⟩
      · rw [List.mem_singleton] at hg
        subst hg
        exact ⟨n0, e0, (fun p hp => by cases hp), ha⟩
      · simp [l0ar.symm]
      · rw [List.mem_singleton] at hg
        subst hg
        simpa [tailS] using hlen
    · rintro m σ H' ⟨f, fs, t2, t3, t4, rfl, rfl, I⟩
      refine ⟨_, rfl, ?_⟩
      refine ifT rfl ?_
      obtain ⟨fa, fL, ft⟩ := f
      refine ⟨fun σ'' H'' => ∃ m', m' < (kL ft ++ (tailS (fs.map FrA.frm) ++ rest)).length ∧ RkW K CR H r ar t rest m' σ'' H'', fun σ'' H'' z => z, ?_⟩
      have fok := I.each ⟨fa, fL, ft⟩ List.mem_cons_self
      obtain ⟨fnew, fat, fvals, fany⟩ := id fok
      have fnew : H fa = none := fnew
      have fat : H' fa = some (.lst (fL.map (·.2))) := fat
      have fany : ft.any = true := fany
      have fvals : ∀ p ∈ fL, ThAt K (tups H') p.1 p.2 ∧ p.1.any = true := fvals
      have ird : RdAt CR H' r (kL ft ++ (tailS (fs.map FrA.frm) ++ rest)) := I.rd
      have ival : valK (fL.map (·.1)) ft (fs.map FrA.frm) = t := I.val
      have few0 : fL.length + (kL ft ++ (tailS (fs.map FrA.frm) ++ rest)).length ≤ 4000000 := I.few ⟨fa, fL, ft⟩ List.mem_cons_self
      have ipair : fs ≠ [] → fL ≠ [] ∨ ft.isPr = true := I.pair
      have apart := I.apart
      rw [List.nodup_cons, List.map_cons, List.nodup_cons] at apart
      obtain ⟨ap1, ap2, ap3⟩ := apart
      have ap2 : fa ∉ fs.map FrA.a := ap2
      have arfa : ar ≠ fa := fun q => ap1 (by rw [q]; exact List.mem_cons_self)
      have arfs : ar ∉ fs.map FrA.a := fun q => ap1 (List.mem_cons_of_mem _ q)
      obtain ⟨dx, z0, n0', hA, _⟩ := id ird
      have lens := ird.len
      have tl4 := tailS_len (fs := fs.map FrA.frm)
      rw [List.length_map] at tl4
      have fsl : fs.length ≤ 1000000 := by
        have := lens
        simp only [List.length_append] at this
        omega
      have each2 : ∀ g ∈ fs, FrOk K H H' g := fun g hg => I.each g (List.mem_cons_of_mem _ hg)
      have few2 : ∀ g ∈ fs, g.L.length + (kL ft ++ (tailS (fs.map FrA.frm) ++ rest)).length ≤ 4000000 := fun g hg => I.few g (List.mem_cons_of_mem _ hg)
      have aro : H' ar = some (.lst (fs.reverse.map (fun g => V.ref g.a) ++ [.ref fa])) := by
        have := I.aro
        rw [List.reverse_cons, List.map_append] at this
        exact this
      have ntup : ∀ {G : Hp} {b : Addr} {ys : List V}, G b = some (.lst ys) → ∀ xs, G b ≠ some (.tup xs) := fun e xs q => by rw [e] at q; cases q
      by_cases open_ : ∃ l r', ft = .pr l r' ∧ l.isPr = true
      · obtain ⟨l, r', rfl, lp⟩ := open_
        obtain ⟨al, ar'⟩ := any_pr fany
        have ek : kL (.pr l r') ++ (tailS (fs.map FrA.frm) ++ rest) = [40] ++ (kL l ++ (tailS ((FrA.mk fa fL r' :: fs).map FrA.frm) ++ rest)) := by
          show (if l.isPr = true then 40 :: (kL l ++ [41]) else kL l) ++ 32 :: 62 :: 32 :: kL r' ++ (tailS (fs.map FrA.frm) ++ rest) = _
          rw [if_pos lp]
          simp [tailS, FrA.frm]
        rw [ek] at ird few0 few2 lens ⊢
        refine ⟨_, rfl, r, dx, _, rfl, hA, rfl, r, _, 40, _, rfl, (by decide +kernel), ird, _, rfl, ?_⟩
        refine ifT rfl ?_
        refine ⟨_, rfl, r, dx, _, rfl, hA, rfl, r, [40], _, _, rfl, (by decide +kernel), ird, fun H2 R2 s2 => ?_⟩
        have ar2 := keepR ird s2 aro
        have fa2 := keepR ird s2 fat
        refine ⟨_, rfl, .inl ⟨rfl, _, SqL.of ar2⟩, (by show 0 ≤ sizeLine; decide), fun nl nnl => ?_⟩
        have nlnew := newR R2 (same_trans I.same s2) nnl
        have nlar : ar ≠ nl := ne_of_none ar2 nnl
        have nlfa : fa ≠ nl := ne_of_none fa2 nnl
        have k3 := same_new (o := .lst []) (same_refl H2) nnl
        have ar3 := k3 _ _ ar2
        refine ⟨ar, _, _, rfl, rfl, ar3, (by rw [List.length_append, List.length_map, List.length_reverse]; show fs.length + 1 < sizeLine; exact room2 (by omega)), ?_⟩
        have st : Same (tups H2) (tups (upd (upd H2 nl (.lst [])) ar (.lst (fs.reverse.map (fun g => V.ref g.a) ++ [.ref fa] ++ [.ref nl])))) := same_trans (tups_mono k3) (tups_upd (ntup ar3))
        have off : ∀ b ys, H2 b = some (.lst ys) → b ≠ ar → upd (upd H2 nl (.lst [])) ar (.lst (fs.reverse.map (fun g => V.ref g.a) ++ [.ref fa] ++ [.ref nl])) b = H2 b := fun b ys e n => by rw [upd_ne n, upd_ne (ne_of_none e nnl)]
        have hlen : (kL l ++ (tailS ((FrA.mk fa fL r' :: fs).map FrA.frm) ++ rest)).length < ([40] ++ (kL l ++ (tailS ((FrA.mk fa fL r' :: fs).map FrA.frm) ++ rest))).length := by
          exact Nat.lt_succ_self _
        refine ⟨_, hlen, ⟨nl, [], l⟩, ⟨fa, fL, r'⟩ :: fs, _, _, _, rfl, rfl, ?_⟩
        refine ⟨sameU (sameU (same_trans I.same s2) (del_none nlnew)) (del_none I.arnew), (R2.same k3).put ar3, I.arnew, ?_, fun g hg => ?_, ?_, valK_open.trans ival, fun _ => .inr lp, fun g hg => ?_⟩
        · rw [upd_same]; simp
        · rcases List.mem_cons.mp hg with rfl | hg
          · exact ⟨nlnew, by show upd _ ar _ nl = _; rw [upd_ne nlar.symm, upd_same]; rfl, fun p hp => (by cases hp), al⟩
          · rcases List.mem_cons.mp hg with rfl | hg
            · refine FrOk.carry (g := ⟨fa, fL, r'⟩) ⟨fnew, fat, fvals, ar'⟩ ird s2 st (off _ _ fa2 arfa.symm)
            · exact (each2 g hg).carry ird s2 st (off _ _ (keepR ird s2 (each2 g hg).2.1) fun q => arfs (by rw [← q]; exact List.mem_map_of_mem hg))
        · have nin : nl ∉ fs.map FrA.a := fun q => by
            obtain ⟨g, hg, e⟩ := List.mem_map.mp q
            have := keepR ird s2 (each2 g hg).2.1
            rw [e, nnl] at this; cases this
          simp only [List.map_cons, List.nodup_cons, List.mem_cons, not_or]
          exact ⟨⟨nlar, arfa, arfs⟩, ⟨nlfa.symm, nin⟩, ap2, ap3⟩
        · have hh := hlen
          obtain rfl | hg := List.mem_cons.mp hg
          · show 0 + (kL l ++ (tailS ((FrA.mk fa fL r' :: fs).map FrA.frm) ++ rest)).length ≤ _; omega
          · rcases List.mem_cons.mp hg with rfl | hg
            · show fL.length + (kL l ++ (tailS ((FrA.mk fa fL r' :: fs).map FrA.frm) ++ rest)).length ≤ _; omega
            · have := few2 g hg
              show g.L.length + (kL l ++ (tailS ((FrA.mk fa fL r' :: fs).map FrA.frm) ++ rest)).length ≤ _; omega
      · -- a letter is next
        have lett : ∃ (i : Nat) (l2 : List Nat), (ft = .int (i : Int) ∧ i ≤ 25 ∧ l2 = tailS (fs.map FrA.frm) ++ rest ∧ kL ft ++ (tailS (fs.map FrA.frm) ++ rest) = (97 + i) :: l2) ∨ (∃ r', ft = .pr (.int (i : Int)) r' ∧ i ≤ 25 ∧ r'.any = true ∧ l2 = [32, 62, 32] ++ (kL r' ++ (tailS (fs.map FrA.frm) ++ rest)) ∧ kL ft ++ (tailS (fs.map FrA.frm) ++ rest) = (97 + i) :: l2) := by
          cases hp : ft.isPr with
          | false =>
            obtain ⟨i, rfl, hi⟩ := any_int fany hp
            exact ⟨i, _, .inl ⟨rfl, hi, rfl, by show [97 + (i : Int).toNat] ++ _ = _; rw [Int.toNat_natCast]; rfl⟩⟩
          | true =>
            obtain ⟨l, r', rfl⟩ := pr_of hp
            obtain ⟨al, ar'⟩ := any_pr fany
            cases hl : l.isPr with
            | true => exact absurd ⟨l, r', rfl, hl⟩ open_
            | false =>
              obtain ⟨i, rfl, hi⟩ := any_int al hl
              refine ⟨i, _, .inr ⟨r', rfl, hi, ar', rfl, ?_⟩⟩
              show ([97 + (i : Int).toNat] ++ 32 :: 62 :: 32 :: kL r') ++ _ = _
              rw [Int.toNat_natCast]
              simp
        obtain ⟨i, l2, lett⟩ := lett
        have hi : i ≤ 25 := by rcases lett with ⟨_, h, _⟩ | ⟨_, _, h, _⟩ <;> exact h
        have el2 : kL ft ++ (tailS (fs.map FrA.frm) ++ rest) = (97 + i) :: l2 := by rcases lett with ⟨_, _, _, h⟩ | ⟨_, _, _, _, _, h⟩ <;> exact h
        rw [el2] at ird few0 few2 lens ⊢
        rw [List.length_cons] at few0 few2 lens ⊢
        refine ⟨_, rfl, r, dx, _, rfl, hA, rfl, r, _, 40, _, rfl, (by decide +kernel), ird, _, rfl, ?_⟩
        refine ifF (decide_eq_false (letter_not hi (by decide))) ?_
        have cin : 97 + i ∈ letters.cps.toList := List.mem_of_getElem? (letters_at hi)
        obtain ⟨oc, hoc⟩ := idx_at hi
        refine ⟨rfl, _, rfl, r, dx, _, rfl, hA, rfl, r, 97 + i, l2, rfl, ird, cin, fun H2 R2 s2 => ⟨letters, _, i, oc, rfl, rfl, hoc, ?_⟩⟩
        have ar2 := keepR ird s2 aro
        have fa2 := keepR ird s2 fat
        have s12 := same_trans I.same s2
        obtain ⟨dx2, z2, n2', hA2, _⟩ := id R2
        have l2len : l2.length ≤ 4000000 := by omega
        refine ⟨fun σ' H'' => σ' = [some (.ref r), some (.ref ar), some (.int (i : Int)), t3, t4] ∧ H'' = H2 ∧ ft = .int (i : Int) ∧ l2 = tailS (fs.map FrA.frm) ++ rest, ?_, ?_⟩
        · rcases lett with ⟨eft, _, el, _⟩ | ⟨r', eft, _, ar', el, _⟩
          · have hne : ¬ l2.head? = some 32 := by
              rw [el]
              cases fs with
              | nil => exact hb
              | cons g gs => intro q; injection q with q; cases q
            refine ⟨_, rfl, r, dx2, _, rfl, hA2, rfl, r, _, 32, _, rfl, (by decide +kernel), R2, _, rfl, ?_⟩
            refine ifF (decide_eq_false hne) ?_
            refine ⟨_, rfl, _, _, rfl, .inl (SqL.of ar2), _, _, rfl, rfl, _, rfl, ?_⟩
            cases fs with
            | nil =>
              refine ifF (by simp) ?_
              refine ifF rfl ?_
              exact ⟨rfl, rfl, eft, el⟩
            | cons g gs =>
              refine ifT (by simp; omega) ?_
              have fne : fL ≠ [] := by
                rcases ipair (by simp) with q | q
                · exact q
                · rw [eft] at q; cases q
              have fb : (fL.map fun p : Th × V => p.2).isEmpty = false := by
                cases fL with
                | nil => exact absurd rfl fne
                | cons p q => rfl
              refine ⟨_, rfl, _, rfl, ar, _, _, _, rfl, rfl, SqL.of ar2, atI_last _ _, _, .inl ⟨_, SqL.of fa2, rfl⟩, ?_⟩
              rw [fb]
              refine ifF rfl ?_
              exact ⟨rfl, rfl, eft, el⟩
          · subst eft
            subst el
            refine ⟨_, rfl, r, dx2, _, rfl, hA2, rfl, r, _, 32, _, rfl, (by decide +kernel), R2, _, rfl, ?_⟩
            refine ifT rfl ?_
            refine ifT rfl ?_
            refine ⟨_, rfl, r, dx2, _, rfl, hA2, rfl, r, [32, 62, 32], _, _, rfl, (by decide +kernel), R2, fun H3 R3 s3 => ?_⟩
            have ar3 := keepR R2 s3 ar2
            have fa3 := keepR R2 s3 fa2
            have s23 := same_trans s2 s3
            refine ⟨_, rfl, _, rfl, ar, _, _, _, rfl, rfl, SqL.of ar3, atI_last _ _, .inl ⟨rfl, _, SqL.of fa3⟩, _, rfl, fa, _, _, rfl, rfl, fa3, (by rw [List.length_map]; exact Nat.lt_of_le_of_lt (m := 4000000) (by omega) (by decide)), ?_⟩
            have st : Same (tups H3) (tups (upd H3 fa (.lst (fL.map (·.2) ++ [.int (i : Int)])))) := tups_upd (ntup fa3)
            have hlen : (kL r' ++ (tailS (fs.map FrA.frm) ++ rest)).length + 3 = ([32, 62, 32] ++ (kL r' ++ (tailS (fs.map FrA.frm) ++ rest))).length := by
              rw [List.length_append (as := [32, 62, 32])]
              show _ + 3 = 3 + _
              omega
            refine ⟨_, (by rw [← hlen]; omega : (kL r' ++ (tailS (fs.map FrA.frm) ++ rest)).length < _), ⟨fa, fL ++ [(.int (i : Int), .int (i : Int))], r'⟩, fs, _, _, _, rfl, rfl, ?_⟩
            refine ⟨sameU (same_trans s12 s3) (del_none fnew), R3.put fa3, I.arnew, ?_, fun g hg => ?_, I.apart, ?_, fun _ => .inl (by simp), fun g hg => ?_⟩
            · rw [upd_ne arfa, ar3]; simp
            · rcases List.mem_cons.mp hg with rfl | hg
              · refine ⟨fnew, by rw [upd_same, List.map_append]; rfl, fun p hp => ?_, ar'⟩
                obtain q | q := List.mem_append.mp hp
                · exact ⟨((fvals p q).1.same (tups_del s23 ird.ins)).same st, (fvals p q).2⟩
                · rw [List.mem_singleton] at q
                  subst q
                  refine ⟨rfl, ?_⟩
                  show (decide (0 ≤ (i : Int)) && decide ((i : Int) ≤ 25)) = true
                  rw [decide_eq_true (by omega), decide_eq_true (by omega)]; rfl
              · have gne : g.a ≠ fa := fun q => ap2 (List.mem_map.mpr ⟨g, hg, q⟩)
                exact (each2 g hg).carry ird s23 st (upd_ne gne)
            · show valK ((fL ++ [(Th.int (i : Int), V.int (i : Int))]).map (·.1)) r' (fs.map FrA.frm) = t
              rw [List.map_append]
              exact valK_left.trans ival
            · rcases List.mem_cons.mp hg with rfl | hg
              · show (fL ++ [_]).length + (kL r' ++ (tailS (fs.map FrA.frm) ++ rest)).length ≤ _
                (rw [List.length_append, List.length_singleton]; omega)
              · have := few2 g hg
                show g.L.length + (kL r' ++ (tailS (fs.map FrA.frm) ++ rest)).length ≤ _
                omega
        · rintro _ H9 ⟨rfl, e9, eft, el⟩
          rw [e9]
          clear e9 H9
          subst eft
          subst el
          clear lett open_
          refine ⟨_, rfl, .inl ⟨rfl, _, SqL.of ar2⟩, ar, _, .ref fa, rfl, rfl, ar2, (by simp), ?_⟩
          rw [List.dropLast_concat]
          have R3 := R2.put (o := .lst (fs.reverse.map fun g => V.ref g.a)) ar2
          have ar3 : upd H2 ar (.lst (fs.reverse.map fun g => V.ref g.a)) ar = some (.lst (fs.reverse.map fun g => V.ref g.a)) := upd_same
          have fa3 : upd H2 ar (.lst (fs.reverse.map fun g => V.ref g.a)) fa = some (.lst (fL.map (·.2))) := by rw [upd_ne arfa.symm]; exact fa2
          have s3 := sameU (o := .lst (fs.reverse.map fun g => V.ref g.a)) s12 (del_none I.arnew)
          have st3 : Same (tups H2) (tups (upd H2 ar (.lst (fs.reverse.map fun g => V.ref g.a)))) := tups_upd (ntup ar2)
          have off3 : ∀ b, b ≠ ar → upd H2 ar (.lst (fs.reverse.map fun g => V.ref g.a)) b = H2 b := fun b n => upd_ne n
          generalize upd H2 ar (.lst (fs.reverse.map fun g => V.ref g.a)) = H3 at R3 ar3 fa3 s3 st3 off3
          refine ⟨_, rfl, fa, _, rfl, SqL.of fa3, ?_⟩
          have tv : ∀ p ∈ fL, ThAt K (tups H3) p.1 p.2 := fun p hp => ((fvals p hp).1.same (tups_del s2 ird.ins)).same st3
          refine for_it walk_rev (fun j σ H'' => ∃ kv t4, σ = [some (.ref r), some (.ref ar), some kv, some (.ref fa), t4] ∧ Same H3 H'' ∧ ThAt K (tups H'') (bld ((fL.map (·.1)).drop (fL.length - j)) (.int (i : Int))) kv) ⟨_, _, rfl, same_refl _, ?_⟩ (fun j σ H'' _ ⟨_, _, _, q, _⟩ => SqL.of (q _ _ fa3)) ?_ ?_
          · rw [Nat.sub_zero, List.drop_of_length_le (by rw [List.length_map]; exact Nat.le_refl _)]; rfl
          · rintro j x σ _ H'' hj ⟨kv, t4', rfl, h1, h2⟩ ⟨rfl, hx⟩
            rw [List.length_map] at hj hx
            obtain ⟨p0, hp0⟩ : ∃ p0, fL[fL.length - 1 - j]? = some p0 := ⟨_, List.getElem?_eq_getElem (by omega)⟩
            rw [List.getElem?_map, hp0] at hx
            cases hx
            refine ⟨_, rfl, _, rfl, (by show 2 ≤ sizeLine; decide), fun q nq => ?_⟩
            have k5 := same_new (o := .tup [p0.2, kv]) (same_refl H'') nq
            refine ⟨_, _, rfl, same_trans h1 k5, ?_⟩
            have ed : (fL.map (·.1)).drop (fL.length - (j + 1)) = p0.1 :: (fL.map (·.1)).drop (fL.length - j) := by
              have lt : fL.length - (j + 1) < (fL.map (·.1)).length := by rw [List.length_map]; omega
              rw [List.drop_eq_getElem_cons lt]
              have e1 : fL.length - (j + 1) + 1 = fL.length - j := by omega
              have e2 : (fL.map (·.1))[fL.length - (j + 1)]? = some p0.1 := by
                rw [List.getElem?_map, show fL.length - (j + 1) = fL.length - 1 - j by omega, hp0]; rfl
              rw [List.getElem?_eq_getElem lt] at e2
              rw [Option.some.inj e2, e1]
            rw [ed]
            refine ⟨q, _, _, rfl, tups_of upd_same, ?_, h2.same (tups_mono k5)⟩
            exact ((tv p0 (List.mem_of_getElem? hp0)).same (tups_mono h1)).same (tups_mono k5)
          · rintro σ H4 ⟨kv, t4', rfl, h1, h2⟩
            rw [List.length_map, Nat.sub_self, List.drop_zero] at h2
            have ar4 := h1 _ _ ar3
            have R4 := R3.same h1
            have s4 := same_trans s3 (del_same_of h1)
            have st4 := same_trans st3 (tups_mono h1)
            have bany : (bld (fL.map (·.1)) (.int (i : Int))).any = true := bld_any (fun a ha => by
              obtain ⟨p, hp, rfl⟩ := List.mem_map.mp ha
              exact (fvals p hp).2) fany
            refine ⟨_, rfl, _, .inl ⟨_, SqL.of ar4, rfl⟩, ?_⟩
            cases fs with
            | nil =>
              refine ifT rfl ?_
              have e : bld (fL.map (·.1)) (.int (i : Int)) = t := ival
              rw [e] at h2
              exact ⟨_, rfl, kq kv H4 R4 s4 h2⟩
            | cons g gs =>
              have eg : (g :: gs).reverse.map (fun g => V.ref g.a) = gs.reverse.map (fun g => V.ref g.a) ++ [.ref g.a] := by simp
              rw [eg] at ar4 ⊢
              refine ifF (by simp) ?_
              obtain ⟨dx4, z4, n4, hA4, _⟩ := id R4
              have R4' : RdAt CR H4 r ([41, 32, 62, 32] ++ (kL g.t ++ (tailS (gs.map FrA.frm) ++ rest))) := by
                have : tailS ((g :: gs).map FrA.frm) ++ rest = [41, 32, 62, 32] ++ (kL g.t ++ (tailS (gs.map FrA.frm) ++ rest)) := by simp [tailS, FrA.frm]
                rw [← this]; exact R4
              refine ⟨_, rfl, r, dx4, _, rfl, hA4, rfl, r, [41, 32, 62, 32], _, _, rfl, (by decide +kernel), R4', fun H5 R5 s5 => ?_⟩
              have ar5 := keepR R4 s5 ar4
              obtain ⟨gnew, gat, gvals, gany⟩ := each2 g List.mem_cons_self
              have gar : g.a ≠ ar := fun q => arfs (by rw [← q]; exact List.mem_cons_self)
              have ga2 := keepR ird s2 gat
              have ga4 : H4 g.a = some (.lst (g.L.map (·.2))) := h1 _ _ (by rw [off3 _ gar]; exact ga2)
              have ga5 := keepR R4 s5 ga4
              have fg := few2 g List.mem_cons_self
              refine ⟨_, rfl, _, rfl, ar, _, _, _, rfl, rfl, SqL.of ar5, atI_last _ _, .inl ⟨rfl, _, SqL.of ga5⟩, _, rfl, g.a, _, _, rfl, rfl, ga5, (by rw [List.length_map]; exact Nat.lt_of_le_of_lt (m := 4000000) (by omega) (by decide)), ?_⟩
              have st5 := tups_del s5 R4.ins
              have st6 : Same (tups H5) (tups (upd H5 g.a (.lst (g.L.map (·.2) ++ [kv])))) := tups_upd (ntup ga5)
              have hlen : (kL g.t ++ (tailS (gs.map FrA.frm) ++ rest)).length + 4 = (tailS ((g :: gs).map FrA.frm) ++ rest).length := by
                show _ = (41 :: 32 :: 62 :: 32 :: (kL g.t ++ tailS (gs.map FrA.frm)) ++ rest).length
                simp only [List.length_cons, List.length_append]
                omega
              refine ⟨_, (by omega : (kL g.t ++ (tailS (gs.map FrA.frm) ++ rest)).length < _), ⟨g.a, g.L ++ [(bld (fL.map (·.1)) (.int (i : Int)), kv)], g.t⟩, gs, _, _, _, rfl, rfl, ?_⟩
              have ap4 := ap3
              rw [List.map_cons, List.nodup_cons] at ap4
              refine ⟨sameU (same_trans s4 s5) (del_none gnew), R5.put ga5, I.arnew, ?_, fun g' hg => ?_, ?_, ?_, fun _ => .inl (by simp), fun g' hg => ?_⟩
              · rw [upd_ne gar.symm, ar5]; simp
              · rcases List.mem_cons.mp hg with rfl | hg
                · refine ⟨gnew, by rw [upd_same, List.map_append]; rfl, fun p hp => ?_, gany⟩
                  obtain q | q := List.mem_append.mp hp
                  · exact ⟨((((gvals p q).1.same (tups_del s2 ird.ins)).same st4).same st5).same st6, (gvals p q).2⟩
                  · rw [List.mem_singleton] at q
                    subst q
                    exact ⟨(h2.same st5).same st6, bany⟩
                · have gne : g'.a ≠ g.a := fun q => ap4.1 (List.mem_map.mpr ⟨g', hg, q⟩)
                  have gar' : g'.a ≠ ar := fun q => arfs (List.mem_cons_of_mem _ (List.mem_map.mpr ⟨g', hg, q⟩))
                  have fo := each2 g' (List.mem_cons_of_mem _ hg)
                  have f2 : FrOk K H H2 g' := fo.carry ird s2 (same_refl _) rfl
                  have f4 : FrOk K H H4 g' := ⟨f2.1, h1 _ _ (by rw [off3 _ gar']; exact f2.2.1), fun p hp => ⟨(f2.2.2.1 p hp).1.same st4, (f2.2.2.1 p hp).2⟩, f2.2.2.2⟩
                  exact f4.carry R4 s5 st6 (upd_ne gne)
              · simp only [List.map_cons, List.nodup_cons, List.mem_cons, not_or]
                exact ⟨⟨gar.symm, fun q => arfs (List.mem_cons_of_mem _ q)⟩, ap4.1, ap4.2⟩
              · show valK ((g.L ++ [(bld (fL.map (·.1)) (.int (i : Int)), kv)]).map (·.1)) g.t (gs.map FrA.frm) = t
                rw [List.map_append]
                exact ival
              · rcases List.mem_cons.mp hg with rfl | hg
                · show (g.L ++ [_]).length + (kL g.t ++ (tailS (gs.map FrA.frm) ++ rest)).length ≤ _
                  (rw [List.length_append, List.length_singleton]; omega)
                · have := few2 g' (List.mem_cons_of_mem _ hg)
                  show g'.L.length + (kL g.t ++ (tailS (gs.map FrA.frm) ++ rest)).length ≤ _
                  omega
end
end LG

set_option Elab.async false
set_option linter.all false
set_option maxRecDepth 100000
set_option maxHeartbeats 4100000
namespace LG
open PySem L2
abbrev sKind : Stmt := top 14
/-- how great a kind may be -/
structure TxKK (mg : Str → Option Value) : Prop where
  most : ∃ u, mg "MOST_LETTERS" = some (.int 60 u)
  deep : ∃ u, mg "MOST_DEEP" = some (.int 30 u)
/-- what waits: the thing, how deep, its tuple, its value -/
structure Wt where
  t : Th
  d : Nat
  a : Addr
  v : V
def wsz (ws : List Wt) : Nat := (ws.map (·.t.size)).sum
def WtAt (K : PySem.W.Frag) (H H' : Hp) (s : Wt) : Prop := H' s.a = some (.tup [s.v, .int (s.d : Int)]) ∧ ThAt K H s.t s.v
def jws (c : Nat) (ws : List Wt) : Bool := jud c (ws.map fun s => (s.t, s.d))
def spKind (K : PySem.W.Frag) : Sp := fun vs H Q _ => ∃ (v : V) (t : Th), vs = [v] ∧ ThAt K H t v ∧ t.size ≤ 10000 ∧ ∀ H', Same H H' → Q (.bl t.isKind) H'
def fa (s : Wt) : V := .ref s.a
/-- between two turns of is_kind -/
def KW (K : PySem.W.Frag) (H : Hp) (t : Th) (v : V) (wl : Addr) : Nat → St → Hp → Prop := fun m σ H' => ∃ (ws : List Wt) (c : Nat) (p3 p4 : Option V), m = wsz ws ∧ σ = [some v, some (.int (c : Int)), some (.ref wl), p3, p4] ∧ Same H H' ∧
  H' wl = some (.lst (ws.map fa)) ∧ (∀ s ∈ ws, WtAt K H H' s) ∧ jws c ws = t.isKind ∧ wsz ws ≤ t.size
theorem wsz_snoc (ws : List Wt) (s : Wt) : wsz (ws ++ [s]) = wsz ws + s.t.size := by simp [wsz]
theorem jws_snoc (c : Nat) (ws : List Wt) (s : Wt) : jws c (ws ++ [s]) = jud c ((ws.map fun s => (s.t, s.d)) ++ [(s.t, s.d)]) := by simp [jws]
theorem len_wsz : ∀ ws : List Wt, ws.length ≤ wsz ws
  | [] => Nat.le_refl _
  | s :: ws => by
    have h := len_wsz ws
    have p := s.t.size_pos
    simp only [wsz, List.map_cons, List.sum_cons, List.length_cons] at *
    omega
section
variable {P : Program} {w : World} {K : PySem.W.Frag} {mg : Str → Option Value} {base : Heap}
theorem scKind : FnScope ["thing", "letters", "waiting", "part", "deep"] ["thing"] (defScope sKind) := ⟨rfl, rfl, rfl, by decide +kernel, rfl, by decide +kernel, by decide +kernel⟩
theorem ok_kind {f fL f1 f2 fP : Addr} {fd fdL fd1 fd2 fdP : FuncData} (F : Fn K mg "is_kind" sKind ["thing"] f fd) (NL : Fn K mg "is_letter" sLetter ["thing"] fL fdL) (N2 : Fn K mg "is_integer_within" sWithin ["low", "high", "thing"] f2 fd2) (N1 : Fn K mg "is_integer" sInteger ["thing"] f1 fd1)
    (NP : Fn K mg "is_pair" sPair ["thing"] fP fdP) (T : TxB mg) (T2 : TxK mg) (T3 : TxKK mg) : FnOk P w K mg base CX0 4 f fd ["thing"] (spKind K) := by
  have GL : FnOk P w K mg base CX0 3 fL fdL ["thing"] (spLetter K) := ok_letter NL N2 N1 T T2
  have GP : FnOk P w K mg base CX0 1 fP fdP ["thing"] (spPair K) := ok_pair NP T T2
  obtain ⟨um, hm⟩ := T3.most
  obtain ⟨ud, hd⟩ := T3.deep
  refine F.F.ok scKind (fun vs H Q E h => ?_) (fun cdv A outer s H vs Q E hr h => ?_)
  · obtain ⟨v, t, rfl, _⟩ := h
    rfl
  · obtain ⟨v, t, rfl, hv, hz, k⟩ := h
    have nd := scKind.nd
    have hr1 := hr.mono (show 1 ≤ 3 by decide)
    refine ⟨_, pss_cons (ps_set (i := 1) nd rfl (Or.inl rfl) pe_int)
      (pss_cons (ps_set (i := 2) nd rfl (Or.inl rfl) (pe_lst (pa_cons (pe_tup (pa_cons (pv 0) (pa_cons pe_int pa_nil))) pa_nil)))
      (pss_cons (ps_while PassesOwn.never (PW.pt (pw_and (pt_truth (pv 2) (by intro _; rfl)) (pw_and1 (pt_cmpR op_le (pv 1) (pe_glob (v := .int 60) (by rfl) hm ⟨_, rfl⟩) (nomark _)))))
        (pss_cons (ps_asg (pe_bm0 PySem.F.plainAttrs_list PySem.F.slot_list_pop PySem.F.type_list_pop mt_pop (pv 2)) (pg_tup rfl (pgs_cons (pg_name (i := 3) nd rfl (Or.inl rfl)) (pgs_cons (pg_name (i := 4) nd rfl (Or.inl rfl)) pgs_nil))))
        (pss_one (ps_if (pt_val (pe_call GL hr (by rfl) NL.m NL.F.kp NL.b .nil pass0 (pa_cons (pv 3) pa_nil)))
          (pss_one (ps_aug (i := 1) nd rfl (.inl rfl) pe_int ip_add))
          (pss_one (ps_if (PW.pt (pw_and (pt_val (pe_call GP hr1 (by rfl) NP.m NP.F.kp NP.b .nil pass0 (pa_cons (pv 3) pa_nil))) (pw_and1 (pt_cmpR op_lt (pv 4) (pe_glob (v := .int 30) (by rfl) hd ⟨_, rfl⟩) (nomark _)))))
            (pss_one (ps_expr (pe_bm PySem.F.plainAttrs_list PySem.F.slot_list_extend PySem.F.type_list_extend mt_extend (pv 2) (pa_cons (pe_lst (pa_cons (pe_tup (pa_cons (pe_ix ix_tup (pv 3) pe_int (fun _ _ => rfl)) (pa_cons (pe_op op_add (pv 4) pe_int) pa_nil)))
              (pa_cons (pe_tup (pa_cons (pe_ix ix_tup (pv 3) pe_int (fun _ _ => rfl)) (pa_cons (pe_op op_add (pv 4) pe_int) pa_nil))) pa_nil))) pa_nil))))
            (pss_one (ps_ret pe_bl))))))))
      (pss_one (ps_ret (pe_cmpR op_le (pv 1) (pe_glob (v := .int 60) (by rfl) hm ⟨_, rfl⟩) (nomark _)))))), ?_⟩
    refine ⟨_, rfl, (by show 2 ≤ sizeLine; decide), fun a0 h0 => ?_⟩
    refine ⟨(by show 1 ≤ sizeLine; decide), fun wl hw => ?_⟩
    have hw0 : H wl = none := same_none (same_new (same_refl H) h0) hw
    refine ⟨KW K H t v wl, ⟨_, [⟨t, 0, a0, v⟩], 0, none, none, rfl, rfl, same_new (same_new (same_refl H) h0) hw, upd_same, fun s hs => ?_, jud_one, (by simp [wsz])⟩, ?_⟩
    · rw [List.mem_singleton] at hs
      subst hs
      exact ⟨by rw [upd_ne (ne_of_none upd_same hw)]; exact upd_same, hv⟩
    · rintro m σ H' ⟨ws, c, p3, p4, rfl, rfl, hs, hwl, hws, hj, hz'⟩
      have fin : ∀ b : Bool, jws c ws = b → t.isKind = b := fun b e => hj.symm.trans e
      refine ⟨_, rfl, _, .inl ⟨_, SqL.of hwl, rfl⟩, ?_⟩
      rcases nil_or_snoc ws with rfl | ⟨ws', s1, rfl⟩
      · refine ifF rfl ?_
        refine ifF rfl ?_
        refine ⟨_, rfl, _, _, rfl, rfl, ?_⟩
        have e := k H' hs
        rw [fin _ jud_nil] at e
        have q : decide (c ≤ 60) = decide ((c : Int) ≤ 60) := by simp only [decide_eq_decide]; omega
        rw [q] at e
        exact e
      · rw [List.map_append] at hwl
        have e1 : (!(List.map fa (ws' ++ [s1])).isEmpty) = true := by simp
        refine ifT e1 ?_
        refine ⟨_, rfl, _, _, rfl, rfl, _, rfl, ?_⟩
        refine ite2 (fun c60 => ?_) (fun c60 => ?_)
        · have hmem : s1 ∈ ws' ++ [s1] := List.mem_append_right _ List.mem_cons_self
          obtain ⟨t1, t2⟩ := hws s1 hmem
          have hne : s1.a ≠ wl := ne_of t1 hwl (fun z => by cases z)
          refine ⟨fun σ'' H'' => ∃ m', m' < wsz (ws' ++ [s1]) ∧ KW K H t v wl m' σ'' H'', fun σ'' H'' z => z, ?_⟩
          refine ⟨_, rfl, .inl ⟨rfl, _, SqL.of hwl⟩, wl, _, .ref s1.a, rfl, rfl, hwl, (by simp [fa]), ?_⟩
          refine ⟨s1.a, _, rfl, SqT.of (by rw [upd_ne hne]; exact t1), rfl, _, _, rfl, _, _, rfl, rfl, ?_⟩
          have dl : (List.map fa ws' ++ List.map fa [s1]).dropLast = List.map fa ws' := by simp
          rw [dl]
          generalize hG : upd H' wl (.lst (List.map fa ws')) = H1
          have g1 : H1 wl = some (.lst (List.map fa ws')) := by rw [← hG]; exact upd_same
          have g2 : ∀ b, b ≠ wl → H1 b = H' b := fun b hb => by rw [← hG]; exact upd_ne hb
          have g3 : Same H H1 := fun b o e => by rw [g2 b (ne_of_none e hw0)]; exact hs b o e
          have g4 : ∀ s ∈ ws', WtAt K H H1 s := fun s h => by
            obtain ⟨q1, q2⟩ := hws s (List.mem_append_left _ h)
            exact ⟨by rw [g2 _ (ne_of q1 hwl (fun z => by cases z))]; exact q1, q2⟩
          have hsz := wsz_snoc ws' s1
          have hp := s1.t.size_pos
          rw [jws_snoc] at hj
          clear hG
          refine ⟨_, rfl, s1.v, s1.t, rfl, t2.same g3, _, rfl, ?_⟩
          refine ite2 (fun cL => ?_) (fun cL => ?_)
          · rw [jud_letter cL] at hj
            exact ⟨_, rfl, _, _, rfl, rfl, wsz ws', by omega, ws', c + 1, _, _, rfl, rfl, g3, g1, g4, hj, by omega⟩
          · refine ⟨_, rfl, s1.v, s1.t, rfl, t2.same g3, _, rfl, ?_⟩
            have bad : (∀ l r, s1.t = .pr l r → ¬ s1.d < 30) → Q (.bl false) H1 := fun h => by
              rw [jud_bad (Bool.eq_false_iff.mpr cL) h] at hj
              have e := k H1 g3
              rw [← hj] at e
              exact e
            refine ite2 (fun cP => ?_) (fun cP => ?_)
            · refine ⟨_, rfl, _, _, rfl, rfl, _, rfl, ?_⟩
              refine ite2 (fun cD => ?_) (fun cD => ?_)
              · obtain ⟨l, r, et⟩ : ∃ l r, s1.t = .pr l r := by
                  cases e : s1.t <;> rw [e] at cP <;> first | exact ⟨_, _, rfl⟩ | cases cP
                have d30 : s1.d < 30 := by have := of_decide_eq_true cD; omega
                rw [et] at t2 hj hsz
                rw [jud_pair d30] at hj
                obtain ⟨pa, x, y, ev, hpa, tl, tr⟩ := t2
                have hp1 := g3 _ _ hpa
                refine ⟨_, rfl, .inl ⟨rfl, _, SqL.of g1⟩, ?_⟩
                refine ⟨_, rfl, pa, _, _, x, ev, rfl, SqT.of hp1, rfl, _, rfl, _, _, rfl, rfl, (by show 2 ≤ sizeLine; decide), fun q1 hq1 => ?_⟩
                have a1 := same_new (o := .tup [x, .int ((s1.d : Int) + 1)]) (same_refl H1) hq1
                refine ⟨_, rfl, pa, _, _, y, ev, rfl, SqT.of (a1 _ _ hp1), rfl, _, rfl, _, _, rfl, rfl, (by show 2 ≤ sizeLine; decide), fun q2 hq2 => ?_⟩
                have a2 := same_new (o := .tup [y, .int ((s1.d : Int) + 1)]) a1 hq2
                have b2 := same_new (o := .tup [y, .int ((s1.d : Int) + 1)]) (same_refl _) hq2
                refine ⟨(by show 2 ≤ sizeLine; decide), fun l2 hl2 => ?_⟩
                have a3 := same_new (o := .lst [.ref q1, .ref q2]) a2 hl2
                have b3 := same_new (o := .lst [.ref q1, .ref q2]) (same_refl _) hl2
                have lw := len_wsz ws'
                have e1 : (Th.pr l r).size = l.size + r.size + 1 := rfl
                refine ⟨wl, l2, _, _, rfl, rfl, a3 _ _ g1, upd_same, (by rw [List.length_map]; show ws'.length + 2 ≤ sizeLine; exact Nat.le_of_lt (Nat.lt_of_le_of_lt (m := 20000) (by omega) (by decide))), ?_⟩
                have q1w : q1 ≠ wl := fun z => by rw [z, g1] at hq1; cases hq1
                have q2w : q2 ≠ wl := fun z => by rw [z, a1 _ _ g1] at hq2; cases hq2
                refine ⟨wsz ws' + (l.size + r.size), by omega, ws' ++ [⟨l, s1.d + 1, q1, x⟩, ⟨r, s1.d + 1, q2, y⟩], c, _, _, by simp [wsz], rfl, fun b o e => ?_, ?_, fun s hs' => ?_, ?_, by simp only [wsz, List.map_append, List.map_cons, List.map_nil, List.sum_append, List.sum_cons, List.sum_nil] at *; omega⟩
                · rw [upd_ne (ne_of_none e hw0)]; exact a3 _ _ (g3 _ _ e)
                · rw [upd_same]; simp [fa]
                · rcases List.mem_append.mp hs' with hs' | hs'
                  · obtain ⟨z1, z2⟩ := g4 s hs'
                    exact ⟨by rw [upd_ne (ne_of z1 g1 (fun z => by cases z))]; exact a3 _ _ z1, z2⟩
                  · simp only [List.mem_cons, List.not_mem_nil, or_false] at hs'
                    rcases hs' with rfl | rfl
                    · exact ⟨by show upd _ wl _ q1 = _; rw [upd_ne q1w]; exact b3 _ _ (b2 _ _ upd_same), tl⟩
                    · exact ⟨by show upd _ wl _ q2 = _; rw [upd_ne q2w]; exact b3 _ _ upd_same, tr⟩
                · show jud c _ = _
                  rw [List.map_append]
                  exact hj
              · exact bad fun _ _ _ z => cD (decide_eq_true (by omega))
            · exact bad fun l r e => absurd (by rw [e]; rfl) cP
        · refine ⟨_, rfl, _, _, rfl, rfl, ?_⟩
          have n60 : ¬ c ≤ 60 := fun z => c60 (decide_eq_true (by omega))
          have e := k H' hs
          rw [fin false (by rw [jws_snoc]; exact jud_many n60)] at e
          have q : decide ((c : Int) ≤ 60) = false := decide_eq_false (by omega)
          show Q (.bl (decide ((c : Int) ≤ 60))) H'
          rw [q]
          exact e
end
end LG

set_option Elab.async false
set_option linter.all false
set_option maxRecDepth 100000
set_option maxHeartbeats 4100000
namespace LG
open PySem L2 TL
/-! ### what a reading of any text comes to: mathematics -/
/-- read, and what is ahead then; or the place (what is ahead there) of the first wrong sign -/
inductive Ot (α : Type) : Type
  | ok : α → List Nat → Ot α
  | err : List Nat → Ot α
/-- these signs are needed -/
def ndd : List Nat → List Nat → Bool × List Nat
  | [], l => (true, l)
  | _ :: _, [] => (false, [])
  | s :: a, c :: l => if c = s then ndd a l else (false, c :: l)
theorem ndd_app : ∀ (a b l : List Nat), ndd (a ++ b) l = if (ndd a l).1 then ndd b (ndd a l).2 else (false, (ndd a l).2)
  | [], b, l => rfl
  | s :: a, b, [] => rfl
  | s :: a, b, c :: l => by
    show (if c = s then ndd (a ++ b) l else _) = if (if c = s then ndd a l else (false, c :: l)).1 then ndd b (if c = s then ndd a l else (false, c :: l)).2 else (false, (if c = s then ndd a l else (false, c :: l)).2)
    by_cases h : c = s
    · rw [if_pos h, if_pos h]; exact ndd_app a b l
    · rw [if_neg h, if_neg h]; rfl
theorem ndd_suf : ∀ (a l : List Nat), ∃ p, l = p ++ (ndd a l).2 ∧ ((ndd a l).1 = true → p = a)
  | [], l => ⟨[], rfl, fun _ => rfl⟩
  | s :: a, [] => ⟨[], rfl, fun h => by cases h⟩
  | s :: a, c :: l => by
    unfold ndd
    by_cases h : c = s
    · rw [if_pos h]
      obtain ⟨p, e, k⟩ := ndd_suf a l
      refine ⟨c :: p, by rw [List.cons_append, ← e], fun q => by rw [k q, h]⟩
    · rw [if_neg h]
      exact ⟨[], rfl, fun q => by cases q⟩
theorem ndd_ok {a l l2 : List Nat} (h : ndd a l = (true, l2)) : l = a ++ l2 := by
  obtain ⟨p, e, k⟩ := ndd_suf a l
  rw [h] at e k
  rw [e, k rfl]
theorem ndd_self (a l : List Nat) : ndd a (a ++ l) = (true, l) := by
  induction a with
  | nil => rfl
  | cons s a ih =>
    show (if s = s then ndd a (a ++ l) else _) = _
    rw [if_pos rfl, ih]
abbrev ar3 : List Nat := [32, 62, 32]
abbrev cl4 : List Nat := [41, 32, 62, 32]
inductive Rd : Bool → List Nat → Ot Th → Prop
  | bad {l} : isLt l = false → l.head? ≠ some 40 → Rd true l (.err l)
  | lt {i l} : i ≤ 25 → Rd true ((97 + i) :: l) (.ok (.int (i : Nat)) l)
  | g1 {l e} : Rd true l (.err e) → Rd true (40 :: l) (.err e)
  | g2 {l a l1 e} : Rd true l (.ok a l1) → ndd ar3 l1 = (false, e) → Rd true (40 :: l) (.err e)
  | g3 {l a l1 l2 e} : Rd true l (.ok a l1) → ndd ar3 l1 = (true, l2) → Rd false l2 (.err e) → Rd true (40 :: l) (.err e)
  | g4 {l a l1 l2 b l3 e} : Rd true l (.ok a l1) → ndd ar3 l1 = (true, l2) → Rd false l2 (.ok b l3) → ndd [41] l3 = (false, e) → Rd true (40 :: l) (.err e)
  | g5 {l a l1 l2 b l3 l4} : Rd true l (.ok a l1) → ndd ar3 l1 = (true, l2) → Rd false l2 (.ok b l3) → ndd [41] l3 = (true, l4) → Rd true (40 :: l) (.ok (.pr a b) l4)
  | k1 {l e} : Rd true l (.err e) → Rd false l (.err e)
  | k2 {l a l1} : Rd true l (.ok a l1) → l.head? ≠ some 40 → l1.head? ≠ some 32 → Rd false l (.ok a l1)
  | k3 {l a l1 e} : Rd true l (.ok a l1) → (l.head? = some 40 ∨ l1.head? = some 32) → ndd ar3 l1 = (false, e) → Rd false l (.err e)
  | k4 {l a l1 l2 e} : Rd true l (.ok a l1) → (l.head? = some 40 ∨ l1.head? = some 32) → ndd ar3 l1 = (true, l2) → Rd false l2 (.err e) → Rd false l (.err e)
  | k5 {l a l1 l2 b l3} : Rd true l (.ok a l1) → (l.head? = some 40 ∨ l1.head? = some 32) → ndd ar3 l1 = (true, l2) → Rd false l2 (.ok b l3) → Rd false l (.ok (.pr a b) l3)
/-- turn by turn, as the program reads: lefts of the parts around, the innermost first -/
inductive MK : List (List Th) → List Nat → Ot Th → Prop
  | op {st l O} : MK ([] :: st) l O → MK st (40 :: l) O
  | bad {st l} : isLt l = false → l.head? ≠ some 40 → MK st l (.err l)
  | mu {L R i l l2 O} : i ≤ 25 → (l.head? = some 32 ∨ (R ≠ [] ∧ L = [])) → ndd ar3 l = (true, l2) → MK ((L ++ [.int (i : Nat)]) :: R) l2 O → MK (L :: R) ((97 + i) :: l) O
  | mb {L R i l e} : i ≤ 25 → (l.head? = some 32 ∨ (R ≠ [] ∧ L = [])) → ndd ar3 l = (false, e) → MK (L :: R) ((97 + i) :: l) (.err e)
  | en {L i l} : i ≤ 25 → l.head? ≠ some 32 → MK [L] ((97 + i) :: l) (.ok (bld L (.int (i : Nat))) l)
  | cl {L T R i l l2 O} : i ≤ 25 → l.head? ≠ some 32 → L ≠ [] → ndd cl4 l = (true, l2) → MK ((T ++ [bld L (.int (i : Nat))]) :: R) l2 O → MK (L :: T :: R) ((97 + i) :: l) O
  | cb {L T R i l e} : i ≤ 25 → l.head? ≠ some 32 → L ≠ [] → ndd cl4 l = (false, e) → MK (L :: T :: R) ((97 + i) :: l) (.err e)
/-- what comes when a part is read -/
def ClsM (L : List Th) (k : Th) : List (List Th) → List Nat → Ot Th → Prop
  | [], l, O => O = .ok (bld L k) l
  | T :: R, l, O => (∀ e, ndd cl4 l = (false, e) → O = .err e) ∧ ∀ l2, ndd cl4 l = (true, l2) → MK ((T ++ [bld L k]) :: R) l2 O
theorem rd_mk {b : Bool} {l : List Nat} {o : Ot Th} (h : Rd b l o) :
    (b = true → (∀ e, o = .err e → ∀ L R, MK (L :: R) l (.err e)) ∧
      (∀ a l1, o = .ok a l1 → ∀ L R O, (l.head? = some 40 ∨ l1.head? = some 32 ∨ (R ≠ [] ∧ L = [])) → (∀ e, ndd ar3 l1 = (false, e) → O = .err e) → (∀ l2, ndd ar3 l1 = (true, l2) → MK ((L ++ [a]) :: R) l2 O) → MK (L :: R) l O)) ∧
    (b = false → (∀ e, o = .err e → ∀ L R, (R ≠ [] → L ≠ []) → MK (L :: R) l (.err e)) ∧
      (∀ k l1, o = .ok k l1 → ∀ L R O, (R ≠ [] → L ≠ []) → ClsM L k R l1 O → MK (L :: R) l O)) := by
  induction h with
  | bad h1 h2 => exact ⟨fun _ => ⟨fun e q L R => by cases q; exact .bad h1 h2, fun _ _ q => by cases q⟩, fun q => by cases q⟩
  | @lt i l hi =>
    refine ⟨fun _ => ⟨fun e q => (by cases q), fun a l1 q L R O c ke ko => ?_⟩, fun q => by cases q⟩
    cases q
    have c' : l.head? = some 32 ∨ (R ≠ [] ∧ L = []) := by
      rcases c with c | c
      · exact absurd (Option.some.inj c) (by omega)
      · exact c
    rcases e : ndd ar3 l with ⟨_ | _, l2⟩
    · rw [ke _ e]; exact .mb hi c' e
    · exact .mu hi c' e (ko _ e)
  | g1 _ ih => exact ⟨fun _ => ⟨fun e q L R => by cases q; exact .op ((ih.1 rfl).1 _ rfl _ _), fun _ _ q => by cases q⟩, fun q => by cases q⟩
  | g2 _ h2 ih => exact ⟨fun _ => ⟨fun e q L R => by
      cases q
      refine .op ((ih.1 rfl).2 _ _ rfl _ _ _ (.inr (.inr ⟨by simp, rfl⟩)) (fun e q => ?_) fun l2 q => ?_)
      · rw [h2] at q; cases q; rfl
      · rw [h2] at q; (cases q), fun _ _ q => by cases q⟩, fun q => by cases q⟩
  | g3 _ h2 _ ih ih2 => exact ⟨fun _ => ⟨fun e q L R => by
      cases q
      refine .op ((ih.1 rfl).2 _ _ rfl _ _ _ (.inr (.inr ⟨by simp, rfl⟩)) (fun e q => ?_) fun l2 q => ?_)
      · rw [h2] at q; cases q
      · rw [h2] at q; cases q
        exact (ih2.2 rfl).1 _ rfl _ _ (fun _ => by simp), fun _ _ q => by cases q⟩, fun q => by cases q⟩
  | @g4 l a l1 l2 b l3 e _ h2 _ h4 ih ih2 => exact ⟨fun _ => ⟨fun e q L R => by
      cases q
      refine .op ((ih.1 rfl).2 _ _ rfl _ _ _ (.inr (.inr ⟨by simp, rfl⟩)) (fun e q => ?_) fun l2 q => ?_)
      · rw [h2] at q; cases q
      · rw [h2] at q; cases q
        refine (ih2.2 rfl).2 _ _ rfl _ _ _ (fun _ => by simp) ⟨fun e' q => ?_, fun l2 q => ?_⟩
        · rw [show cl4 = [41] ++ ar3 from rfl, ndd_app, h4] at q
          cases q; rfl
        · rw [show cl4 = [41] ++ ar3 from rfl, ndd_app, h4] at q
          (cases q), fun _ _ q => by cases q⟩, fun q => by cases q⟩
  | @g5 l a l1 l2 b l3 l4 _ h2 _ h4 ih ih2 =>
    refine ⟨fun _ => ⟨fun e q => (by cases q), fun a' l1' q L R O c ke ko => ?_⟩, fun q => by cases q⟩
    cases q
    refine .op ((ih.1 rfl).2 _ _ rfl _ _ _ (.inr (.inr ⟨by simp, rfl⟩)) (fun e q => ?_) fun l2' q => ?_)
    · rw [h2] at q; cases q
    · rw [h2] at q; cases q
      refine (ih2.2 rfl).2 _ _ rfl _ _ _ (fun _ => by simp) ⟨fun e' q => ?_, fun l2 q => ?_⟩
      · rw [show cl4 = [41] ++ ar3 from rfl, ndd_app, h4] at q
        exact ke _ q
      · rw [show cl4 = [41] ++ ar3 from rfl, ndd_app, h4] at q
        exact ko _ q
  | k1 _ ih => exact ⟨fun q => (by cases q), fun _ => ⟨fun e q L R _ => by cases q; exact (ih.1 rfl).1 _ rfl _ _, fun _ _ q => by cases q⟩⟩
  | @k2 l a l1 h1 h2 h3 ih =>
    refine ⟨fun q => (by cases q), fun _ => ⟨fun e q => (by cases q), fun k l1' q L R O c kc => ?_⟩⟩
    obtain ⟨rfl, rfl⟩ : a = k ∧ l1 = l1' := by cases q; exact ⟨rfl, rfl⟩
    cases h1 with
    | lt hi =>
      cases R with
      | nil => obtain rfl : O = _ := kc; exact .en hi h3
      | cons T R =>
        obtain ⟨ke, ko⟩ := kc
        rcases e : ndd cl4 l1 with ⟨_ | _, l2⟩
        · rw [ke _ e]; exact .cb hi h3 (c (by simp)) e
        · exact .cl hi h3 (c (by simp)) e (ko _ e)
    | g5 => exact absurd rfl h2
  | k3 _ h2 h3 ih => exact ⟨fun q => (by cases q), fun _ => ⟨fun e q L R _ => by
      cases q
      refine (ih.1 rfl).2 _ _ rfl _ _ _ (h2.imp id .inl) (fun e q => ?_) fun l2 q => ?_
      · rw [h3] at q; cases q; rfl
      · rw [h3] at q; (cases q), fun _ _ q => by cases q⟩⟩
  | k4 _ h2 h3 _ ih ih2 => exact ⟨fun q => (by cases q), fun _ => ⟨fun e q L R _ => by
      cases q
      refine (ih.1 rfl).2 _ _ rfl _ _ _ (h2.imp id .inl) (fun e q => ?_) fun l2 q => ?_
      · rw [h3] at q; cases q
      · rw [h3] at q; cases q
        exact (ih2.2 rfl).1 _ rfl _ _ (fun _ => by simp), fun _ _ q => by cases q⟩⟩
  | k5 _ h2 h3 _ ih ih2 =>
    refine ⟨fun q => (by cases q), fun _ => ⟨fun e q => (by cases q), fun k l1' q L R O c kc => ?_⟩⟩
    cases q
    refine (ih.1 rfl).2 _ _ rfl _ _ _ (h2.imp id .inl) (fun e q => ?_) fun l2 q => ?_
    · rw [h3] at q; cases q
    · rw [h3] at q; cases q
      refine (ih2.2 rfl).2 _ _ rfl _ _ _ (fun _ => by simp) ?_
      cases R with
      | nil => show _ = _; rw [bld_snoc]; exact kc
      | cons T R =>
        show (∀ e, _ → _) ∧ ∀ l2, _ → _
        rw [bld_snoc]; exact kc
theorem Rd.mk {l : List Nat} {o : Ot Th} (h : Rd false l o) : MK [[]] l o := by
  cases o with
  | ok k l1 => exact ((rd_mk h).2 rfl).2 _ _ rfl _ _ _ (fun q => absurd rfl q) rfl
  | err e => exact ((rd_mk h).2 rfl).1 _ rfl _ _ (fun q => absurd rfl q)
/-! words -/
def isC (c : Nat) : Bool := decide (c ∈ letters.cps.toList)
def nmT (l : List Nat) : List Nat := (l.take 8).takeWhile isC
def rdN (l : List Nat) : Ot Str := if isLt l = true then .ok (mk (nmT l)) (l.drop (nmT l).length) else .err l
inductive Rt : List Nat → Ot (Str × Th) → Prop
  | n {l e} : rdN l = .err e → Rt l (.err e)
  | c {l z l1 e} : rdN l = .ok z l1 → ndd [58] l1 = (false, e) → Rt l (.err e)
  | k {l z l1 l2 e} : rdN l = .ok z l1 → ndd [58] l1 = (true, l2) → Rd false l2 (.err e) → Rt l (.err e)
  | b {l z l1 l2 t l3 e} : rdN l = .ok z l1 → ndd [58] l1 = (true, l2) → Rd false l2 (.ok t l3) → ndd [93, 32] l3 = (false, e) → Rt l (.err e)
  | o {l z l1 l2 t l3 l4} : rdN l = .ok z l1 → ndd [58] l1 = (true, l2) → Rd false l2 (.ok t l3) → ndd [93, 32] l3 = (true, l4) → Rt l (.ok (z, t) l4)
inductive Rp : List Nat → Ot (List Wd) → Prop
  | t1 {l e} : Rt l (.err e) → Rp (91 :: l) (.err e)
  | t2 {l z t l1 e} : Rt l (.ok (z, t) l1) → Rp l1 (.err e) → Rp (91 :: l) (.err e)
  | t3 {l z t l1 b l2} : Rt l (.ok (z, t) l1) → Rp l1 (.ok b l2) → Rp (91 :: l) (.ok (.pr (some z) t :: b) l2)
  | n1 {l e} : l.head? ≠ some 91 → l.head? ≠ some 40 → rdN l = .err e → Rp l (.err e)
  | n2 {l z l1} : l.head? ≠ some 91 → l.head? ≠ some 40 → rdN l = .ok z l1 → Rp l (.ok [.st z] l1)
  | u1 {l e} : Rp l (.err e) → Rp (40 :: l) (.err e)
  | u2 {l a l1 e} : Rp l (.ok a l1) → ndd [32] l1 = (false, e) → Rp (40 :: l) (.err e)
  | u3 {l a l1 l2 e} : Rp l (.ok a l1) → ndd [32] l1 = (true, l2) → Rp l2 (.err e) → Rp (40 :: l) (.err e)
  | u4 {l a l1 l2 b l3 e} : Rp l (.ok a l1) → ndd [32] l1 = (true, l2) → Rp l2 (.ok b l3) → ndd [41] l3 = (false, e) → Rp (40 :: l) (.err e)
  | u5 {l a l1 l2 b l3 l4} : Rp l (.ok a l1) → ndd [32] l1 = (true, l2) → Rp l2 (.ok b l3) → ndd [41] l3 = (true, l4) → Rp (40 :: l) (.ok (.st "@" :: (a ++ b)) l4)
/-- turn by turn: false at the head of a turn, true behind a part; behind: true for a mark that closes -/
inductive MP : Bool → List Wd → List Bool → List Nat → Ot (List Wd) → Prop
  | us {ws bh l O} : MP false (ws ++ [.st "@"]) (false :: bh) l O → MP false ws bh (40 :: l) O
  | te {ws bh l e} : Rt l (.err e) → MP false ws bh (91 :: l) (.err e)
  | tk {ws bh l z t l1 O} : Rt l (.ok (z, t) l1) → MP false (ws ++ [.pr (some z) t]) bh l1 O → MP false ws bh (91 :: l) O
  | ne {ws bh l e} : l.head? ≠ some 91 → l.head? ≠ some 40 → rdN l = .err e → MP false ws bh l (.err e)
  | nm {ws bh l z l1 O} : l.head? ≠ some 91 → l.head? ≠ some 40 → rdN l = .ok z l1 → MP true (ws ++ [.st z]) bh l1 O → MP false ws bh l O
  | ce {ws bh l e} : ndd [41] l = (false, e) → MP true ws (true :: bh) l (.err e)
  | cl {ws bh l l1 O} : ndd [41] l = (true, l1) → MP true ws bh l1 O → MP true ws (true :: bh) l O
  | en {ws l} : MP true ws [] l (.ok ws l)
  | se {ws bh l e} : ndd [32] l = (false, e) → MP true ws (false :: bh) l (.err e)
  | sp {ws bh l l1 O} : ndd [32] l = (true, l1) → MP false ws (true :: bh) l1 O → MP true ws (false :: bh) l O
theorem rp_mp {l : List Nat} {o : Ot (List Wd)} (h : Rp l o) : (∀ e, o = .err e → ∀ ws bh, MP false ws bh l (.err e)) ∧
    (∀ vs l1, o = .ok vs l1 → ∀ ws bh O, MP true (ws ++ vs) bh l1 O → MP false ws bh l O) := by
  induction h with
  | t1 h => exact ⟨fun e q ws bh => by cases q; exact .te h, fun _ _ q => by cases q⟩
  | t2 h _ ih => exact ⟨fun e q ws bh => by cases q; exact .tk h (ih.1 _ rfl _ _), fun _ _ q => by cases q⟩
  | t3 h _ ih => exact ⟨fun _ q => (by cases q), fun vs l1 q ws bh O k => by
      cases q
      exact .tk h (ih.2 _ _ rfl _ _ _ (by rw [List.append_assoc]; exact k))⟩
  | n1 h1 h2 h3 => exact ⟨fun e q ws bh => by cases q; exact .ne h1 h2 h3, fun _ _ q => by cases q⟩
  | n2 h1 h2 h3 => exact ⟨fun _ q => (by cases q), fun vs l1 q ws bh O k => by cases q; exact .nm h1 h2 h3 k⟩
  | u1 _ ih => exact ⟨fun e q ws bh => by cases q; exact .us (ih.1 _ rfl _ _), fun _ _ q => by cases q⟩
  | u2 _ h2 ih => exact ⟨fun e q ws bh => by cases q; exact .us (ih.2 _ _ rfl _ _ _ (.se h2)), fun _ _ q => by cases q⟩
  | u3 _ h2 _ ih ih2 => exact ⟨fun e q ws bh => by cases q; exact .us (ih.2 _ _ rfl _ _ _ (.sp h2 (ih2.1 _ rfl _ _))), fun _ _ q => by cases q⟩
  | u4 _ h2 _ h4 ih ih2 => exact ⟨fun e q ws bh => by cases q; exact .us (ih.2 _ _ rfl _ _ _ (.sp h2 (ih2.2 _ _ rfl _ _ _ (.ce h4)))), fun _ _ q => by cases q⟩
  | u5 _ h2 _ h4 ih ih2 => exact ⟨fun _ q => (by cases q), fun vs l1 q ws bh O k => by
      cases q
      refine .us (ih.2 _ _ rfl _ _ _ (.sp h2 (ih2.2 _ _ rfl _ _ _ (.cl h4 ?_))))
      simpa using k⟩
theorem Rp.mp {l : List Nat} {o : Ot (List Wd)} (h : Rp l o) : MP false [] [] l o := by
  cases o with
  | ok k l1 => exact (rp_mp h).2 _ _ rfl _ _ _ .en
  | err e => exact (rp_mp h).1 _ rfl _ _
end LG

set_option Elab.async false
set_option linter.all false
set_option maxRecDepth 100000
set_option maxHeartbeats 4100000
namespace LG
open PySem L2 TL
abbrev sBtInit : Stmt := inClass (top 2) 0
/-! ### Reading of any text: BadText is raised at the first wrong sign -/
def spBt (K : PySem.W.Frag) (C : Addr) : Sp := fun vs H Q _ => ∃ (a : Addr) (y : V), vs = [.ref a, y] ∧ H a = some (exo a C none) ∧ ∀ dx, H dx = none → dx ≠ a → Q .non (upd (upd H dx (exd dx [(("index" : Str), y)])) a (exo a C (some dx)))
structure BtT (K : PySem.W.Frag) (mg : Str → Option Value) (CF fF : Addr) (fdF : FuncData) : Prop where
  err : ErrC K CF
  no : PySem.W.findIn K (.ref CF) "index" = some none
  m : mg "BadText" = some (.ref CF)
  F : Fun K "__init__" "BadText.__init__" sBtInit fF fdF
  b : Binds K fdF ["self", "index"] []
  i : PySem.W.findIn K (.ref CF) "__init__" = some (some (.ref fF))
  t : PySem.W.typeIn K (.ref fF) = some (.type "function")
theorem bt_left {H : Hp} {a d CB : Addr} {y : V} (ha : H a = none) (hd : H d = none) (hda : d ≠ a) : Same H (upd (del (upd (upd (upd H a (exo a CB none)) d (exd d [(("index" : Str), y)])) a (exo a CB (some d))) a) d (.xd [(("index" : Str), y)])) := fun b o e => by
  have h1 : b ≠ a := ne_of_none e ha
  have h2 : b ≠ d := ne_of_none e hd
  rw [upd_ne h2, del_ne h1, upd_ne h1, upd_ne h2, upd_ne h1]
  exact e
/-- a Reading of this text with these signs ahead -/
def RzAt (CR : Addr) (H : Hp) (r : Addr) (z : Str) (l : List Nat) : Prop := ∃ dx n, H r = some (.ins CR dx (rdF z n)) ∧ (tl z).drop n = l ∧ n ≤ (tl z).length ∧ (tl z).length ≤ 4000000
theorem RzAt.rd {CR : Addr} {H : Hp} {r : Addr} {z : Str} {l : List Nat} (h : RzAt CR H r z l) : RdAt CR H r l := by
  obtain ⟨dx, n, a⟩ := h
  exact ⟨dx, z, n, a⟩
theorem RzAt.same {CR : Addr} {H H' : Hp} {r : Addr} {z : Str} {l : List Nat} (h : RzAt CR H r z l) (s : Same H H') : RzAt CR H' r z l := by
  obtain ⟨dx, n, a, q⟩ := h
  exact ⟨dx, n, s _ _ a, q⟩
theorem RzAt.step {CR : Addr} {H : Hp} {r dx : Addr} {z : Str} {n c : Nat} {l : List Nat} (h : H r = some (.ins CR dx (rdF z n))) (e : (tl z).drop n = c :: l) (k : (tl z).length ≤ 4000000) :
    RzAt CR (upd H r (.ins CR dx (putF "_at" (.int ((n : Int) + 1)) (rdF z n)))) r z l := by
  obtain ⟨_, e2, lt⟩ := drop_at e
  refine ⟨dx, n + 1, ?_, e2, lt, k⟩
  rw [upd_same, show ((n : Int) + 1) = ((n + 1 : Nat) : Int) by omega, rdF_put]
theorem RzAt.put {CR : Addr} {H : Hp} {r b : Addr} {z : Str} {l : List Nat} {xs : List V} {o : HO} (h : RzAt CR H r z l) (e : H b = some (.lst xs)) : RzAt CR (upd H b o) r z l := by
  obtain ⟨dx, n, q, r1⟩ := h
  have ne : r ≠ b := by rintro rfl; rw [e] at q; cases q
  exact ⟨dx, n, by rw [upd_ne ne]; exact q, r1⟩
theorem RzAt.some {CR : Addr} {H : Hp} {r : Addr} {z : Str} {l : List Nat} (h : RzAt CR H r z l) : H r ≠ none := by
  obtain ⟨dx, n, q, _⟩ := h
  rw [q]; simp
/-- BadText with the place where these signs are ahead -/
def EbAt (E : XK) (CF : Addr) (H : Hp) (r : Addr) (z : Str) (e : List Nat) : Prop := ∀ d H', H d = none → H' d = some (.xd [(("index" : Str), V.int (((tl z).length : Int) - (e.length : Int)))]) → Same (del H r) (del H' r) → E (.ref CF) (some d) H'
theorem EbAt.on {E : XK} {CF : Addr} {H H2 : Hp} {r : Addr} {z : Str} {e l : List Nat} {CR : Addr} (h : EbAt E CF H r z e) (R : RzAt CR H2 r z l) (s : Same (del H r) (del H2 r)) : EbAt E CF H2 r z e := fun d H' hd hx s2 => h d H' (newR R.rd s hd) hx (same_trans s s2)
def spRNeedX (CR CF : Addr) : Sp := fun vs H Q E => ∃ (r : Addr) (z : Str) (a l : List Nat) (y : Str), vs = [.ref r, .str y] ∧ tl y = a ∧ RzAt CR H r z l ∧
  (∀ l2, ndd a l = (true, l2) → ∀ H', RzAt CR H' r z l2 → Same (del H r) (del H' r) → Q .non H') ∧ (∀ e, ndd a l = (false, e) → EbAt E CF H r z e)
def spREndX (CR CF : Addr) : Sp := fun vs H Q E => ∃ (r : Addr) (z : Str) (l : List Nat), vs = [.ref r] ∧ RzAt CR H r z l ∧ (l = [] → Q .non H) ∧ (l ≠ [] → EbAt E CF H r z l)
def spRLetX (CR CF : Addr) : Sp := fun vs H Q E => ∃ (r : Addr) (z : Str) (l : List Nat), vs = [.ref r] ∧ RzAt CR H r z l ∧
  (∀ c l1, l = c :: l1 → c ∈ letters.cps.toList → ∀ H', RzAt CR H' r z l1 → Same (del H r) (del H' r) → Q (.str (mk [c])) H') ∧ (isLt l = false → EbAt E CF H r z l)
def spRNameX (CR CF : Addr) : Sp := fun vs H Q E => ∃ (r : Addr) (z : Str) (l : List Nat), vs = [.ref r] ∧ RzAt CR H r z l ∧
  (∀ y l1, rdN l = .ok y l1 → ∀ H', RzAt CR H' r z l1 → Same (del H r) (del H' r) → Q (.str y) H') ∧ (∀ e, rdN l = .err e → EbAt E CF H r z e)
def spRInitX (K : PySem.W.Frag) (CR CF : Addr) : Sp := fun vs H Q E => ∃ (x dx : Addr) (v : V), vs = [.ref x, v] ∧ H x = some (.ins CR dx []) ∧
  ((∃ z, v = .str z ∧ (tl z).length ≤ 4000000 ∧ ∀ H', RzAt CR H' x z (tl z) → Same (del H x) (del H' x) → Q .non H') ∨
   ((∃ tv, TyX K H v tv ∧ PySem.W.kitOne K tv (.type "str") = some false) ∧ ∀ d H', H d = none → H' d = some (.xd [(("index" : Str), V.int (-1))]) → Same (del H x) (del H' x) → E (.ref CF) (some d) H'))
theorem isLt_iff {l : List Nat} : isLt l = true ↔ ∃ c q, l = c :: q ∧ c ∈ letters.cps.toList := by
  cases l with
  | nil => exact ⟨fun h => (by cases h), fun ⟨_, _, h, _⟩ => (by cases h)⟩
  | cons c q => exact ⟨fun h => ⟨c, q, rfl, of_decide_eq_true h⟩, fun ⟨_, _, h, k⟩ => by cases h; exact decide_eq_true k⟩
theorem isC_lt {c : Nat} {q : List Nat} : isLt (c :: q) = isC c := rfl
/-- i letters are read -/
theorem nmT_of {l : List Nat} {i : Nat} (hi : i ≤ 8) (h : ∀ c ∈ l.take i, isC c = true) (il : i ≤ l.length) (st : i = 8 ∨ isLt (l.drop i) = false) : nmT l = l.take i := by
  unfold nmT
  have e : l.take 8 = l.take i ++ (l.drop i).take (8 - i) := by
    rw [show (8 : Nat) = i + (8 - i) by omega, List.take_add]
    simp
  rw [e, List.takeWhile_append_of_pos h]
  have e2 : ((l.drop i).take (8 - i)).takeWhile isC = [] := by
    rcases st with rfl | st
    · rw [Nat.sub_self, List.take_zero]; rfl
    · cases e3 : l.drop i with
      | nil => rw [List.take_nil]; rfl
      | cons c q =>
        rw [e3, isC_lt] at st
        cases e4 : 8 - i with
        | zero => rfl
        | succ m => rw [List.take_succ_cons, List.takeWhile_cons, st]; rfl
  rw [e2, List.append_nil]
section
variable {P : Program} {w : World} {K : PySem.W.Frag} {mg : Str → Option Value} {base : Heap} {CR CF fF : Addr} {fdF : FuncData}
theorem scBt : FnScope ["self", "index"] ["self", "index"] (defScope sBtInit) := ⟨rfl, rfl, rfl, by decide +kernel, rfl, by decide +kernel, by decide +kernel⟩
theorem ok_bt {f C : Addr} {fd : FuncData} (F : Fun K "__init__" "BadText.__init__" sBtInit f fd) (T : OexC K C) (hno : PySem.W.findIn K (.ref C) "index" = some none) : FnOk P w K mg base CX0 1 f fd ["self", "index"] (spBt K C) := by
  refine F.ok scBt (fun vs H Q E h => ?_) (fun cdv A outer s H vs Q E hr h => ?_)
  · obtain ⟨a, y, rfl, _⟩ := h
    rfl
  · obtain ⟨a, y, rfl, ha, k⟩ := h
    refine ⟨_, pss_one (ps_ost (pv 0) (pv 1)), ?_⟩
    exact ⟨_, rfl, _, rfl, a, C, rfl, T, hno, .inl ⟨ha, k⟩⟩
/-- what the raise asks, from what is promised -/
theorem bt_do {E : XK} {H : Hp} {x : Addr} {y : V} (ke : ∀ d H', H d = none → H' d = some (.xd [(("index" : Str), y)]) → Same H H' → E (.ref CF) (some d) H') : ∀ a, H a = none → spBt K CF [.ref a, y] (upd H a (exo a CF none)) (fun v H2 => v = .non ∧ ∃ (d : Addr) (fs : List (Str × V)), H2 a = some (exo a CF (some d)) ∧ H2 d = some (exd d fs) ∧ H d = none ∧ E (.ref CF) (some d) (upd (del H2 a) d (.xd fs))) (fun _ _ _ => False) := by
  intro a ha
  refine ⟨a, _, rfl, upd_same, fun d hd hda => ⟨rfl, d, _, upd_same, (by rw [upd_ne hda, upd_same]), ?_, ?_⟩⟩
  · rw [upd_ne hda] at hd; exact hd
  · rw [upd_ne hda] at hd
    exact ke d _ hd upd_same (bt_left ha hd hda)
theorem eb_do {E : XK} {H : Hp} {r dx : Addr} {z : Str} {n : Nat} {e : List Nat} (k : EbAt E CF H r z e) (ed : (tl z).drop n = e) (hn : n ≤ (tl z).length) : ∀ d H', H d = none → H' d = some (.xd [(("index" : Str), V.int (n : Int))]) → Same H H' → E (.ref CF) (some d) H' := by
  intro d H' hd hx s
  refine k d H' hd ?_ (del_same_of s)
  have : e.length = (tl z).length - n := by rw [← ed, List.length_drop]
  rw [show (((tl z).length : Int) - (e.length : Int)) = (n : Int) by omega]
  exact hx
theorem ok_rneedX {f fG : Addr} {fd fdG : FuncData} (B : BtT K mg CF fF fdF) (F : Fun K "_need" "Reading._need" sRNeed f fd) (FG : Fun K "_goes_on" "Reading._goes_on" sRGoes fG fdG) (bG : Binds K fdG ["self", "sign"] []) (mG : Meth K CR "_goes_on" fG) (T : TxB mg) (R : RdT K CR) : FnOk P w K mg base (L2.CX P w) 3 f fd ["self", "signs"] (spRNeedX CR CF) := by
  have GG : FnOk P w K mg base CX0 1 fG fdG ["self", "sign"] (spRGoes K CR) := ok_rgoes FG T R
  refine F.okX scRNeed (fun vs H Q E h => ?_) (fun cdv A outer s H vs Q E hr h => ?_)
  · obtain ⟨_, _, _, _, _, rfl, _⟩ := h
    rfl
  · obtain ⟨r, z, a, l, y, rfl, ey, hR, kq, ke⟩ := h
    obtain rfl : y = mk a := ext_tl ey
    have nd := scRNeed.nd
    have hr1 := hr.mono (show 1 ≤ 2 by decide)
    refine ⟨_, pss_one (ps_for (passes_of rfl) rfl (pi_str (pv 1)) (pg_name (i := 2) nd rfl (Or.inl rfl))
        (pss_cons (ps_if (pt_not (pt_val (pe_meth (pv 0) R.cl mG GG hr1 bG .nil pass0 (pa_cons (pv 2) pa_nil))))
            (pss_one (ps_raise rfl (takes_of rfl rfl rfl rfl) (pmk_oex B.err.ox B.i B.t (ok_bt B.F B.err.ox B.no) hr B.b .nil pass0 (by rfl) B.m (pa_cons (pe_fld (pv 0) rfl) pa_nil))))
            pss_nil)
        (pss_one (ps_fldaug (pv 0) pe_int in_add)))), ?_⟩
    refine ⟨_, rfl, _, rfl, ?_⟩
    refine for_it (walk_str (z := mk a)) (fun i σ H' => ∃ t2 l', σ = [some (.ref r), some (.str (mk a)), t2] ∧ RzAt CR H' r z l' ∧ ndd a l = ndd (a.drop i) l' ∧ Same (del H r) (del H' r)) ⟨none, l, rfl, hR, rfl, same_refl _⟩ (fun _ _ _ _ _ => trivial) ?_ ?_
    · rintro i y σ Hq H' hi ⟨t2, l', rfl, h1, hn, h2⟩ ⟨rfl, c, hc, rfl⟩
      have hc' : a[i]? = some c := by
        have := hc
        simpa [mk] using this
      have lt : i < a.length := by
        rcases Nat.lt_or_ge i a.length with q | q
        · exact q
        · rw [List.getElem?_eq_none q] at hc'; cases hc'
      have ed : a.drop i = c :: a.drop (i + 1) := by
        rw [List.drop_eq_getElem_cons lt]
        rw [List.getElem?_eq_getElem lt] at hc'
        rw [Option.some.inj hc']
      rw [ed] at hn
      obtain ⟨dx, n, hA, e, hnl, hz⟩ := id h1
      refine ⟨_, rfl, r, dx, _, rfl, hA, rfl, _, rfl, r, _, c, _, rfl, rfl, h1.rd, _, rfl, ?_⟩
      by_cases hd : l'.head? = some c
      · refine ifF (by simp [hd]) ?_
        cases l' with
        | nil => cases hd
        | cons c' l2 =>
          cases hd
          refine ⟨_, rfl, r, CR, dx, _, _, rfl, hA, R.cl, R.nA, rdF_at, _, _, rfl, rfl, dx, _, hA, (by show 2 < 1000; decide), ?_⟩
          refine ⟨_, l2, rfl, RzAt.step hA e hz, ?_, same_trans h2 del_updR⟩
          rw [hn]
          show (if c = c then _ else _) = _
          rw [if_pos rfl]
      · refine ifT (by simp [hd]) ?_
        have ef : ndd a l = (false, l') := by
          rw [hn]
          cases l' with
          | nil => rfl
          | cons c' l2 =>
            show (if c' = c then _ else _) = _
            rw [if_neg fun q => hd (by rw [q]; rfl)]
        refine ⟨_, rfl, r, CR, dx, _, _, rfl, hA, R.cl, R.nA, rdF_at, (by show 1 ≤ 1000; decide), ?_⟩
        exact bt_do (x := r) (eb_do (dx := dx) ((ke _ ef).on h1 h2) e hnl)
    · rintro σ H' ⟨t2, l', rfl, h1, hn, h2⟩
      have el : (mk a).cps.size = a.length := by simp [mk]
      rw [el, List.drop_length] at hn
      exact kq l' hn H' h1 h2
theorem ok_rendX {f : Addr} {fd : FuncData} (B : BtT K mg CF fF fdF) (F : Fun K "need_end" "Reading.need_end" sREnd f fd) (T : TxB mg) (R : RdT K CR) : FnOk P w K mg base (L2.CX P w) 3 f fd ["self"] (spREndX CR CF) := by
  refine F.okX scREnd (fun vs H Q E h => ?_) (fun cdv A outer s H vs Q E hr h => ?_)
  · obtain ⟨r, z, l, rfl, _⟩ := h
    rfl
  · obtain ⟨r, z, l, rfl, hR, kq, ke⟩ := h
    obtain ⟨dx, n, hA, e, hn, hz⟩ := id hR
    refine ⟨_, pss_one (ps_if (pt_cmpR op_lt (pe_fld (pv 0) rfl) (pe_callB call_len_str (by rfl) T.len PySem.boot_len (pa_cons (pe_fld (pv 0) rfl) pa_nil)) (nomark _))
        (pss_one (ps_raise rfl (takes_of rfl rfl rfl rfl) (pmk_oex B.err.ox B.i B.t (ok_bt B.F B.err.ox B.no) hr B.b .nil pass0 (by rfl) B.m (pa_cons (pe_fld (pv 0) rfl) pa_nil))))
        pss_nil), ?_⟩
    have zl : (tl z).length = z.length := tl_len
    refine ⟨_, rfl, r, CR, dx, _, _, rfl, hA, R.cl, R.nA, rdF_at, _, rfl, r, CR, dx, _, _, rfl, hA, R.cl, R.nT, rdF_text, _, rfl, big4 (by omega), _, _, rfl, rfl, _, rfl, ?_⟩
    cases l with
    | nil =>
      have := drop_nil e hn
      refine ifF (decide_eq_false (by omega)) ?_
      exact kq rfl
    | cons c q =>
      obtain ⟨_, _, lt⟩ := drop_at e
      refine ifT (decide_eq_true (by omega)) ?_
      refine ⟨_, rfl, r, CR, dx, _, _, rfl, hA, R.cl, R.nA, rdF_at, (by show 1 ≤ 1000; decide), ?_⟩
      exact bt_do (x := r) (eb_do (dx := dx) (ke (by simp)) e hn)
theorem ok_rletX {f fL : Addr} {fd fdL : FuncData} (B : BtT K mg CF fF fdF) (F : Fun K "_letter" "Reading._letter" sRLet f fd) (FL : Fun K "_is_letter" "Reading._is_letter" sRIsL fL fdL) (bL : Binds K fdL ["self"] []) (mL : Meth K CR "_is_letter" fL) (T : TxB mg) (TN : TxN mg) (R : RdT K CR) : FnOk P w K mg base (L2.CX P w) 3 f fd ["self"] (spRLetX CR CF) := by
  have GL : FnOk P w K mg base CX0 1 fL fdL ["self"] (spRIsL K CR) := ok_risl FL T TN R
  refine F.okX scRLet (fun vs H Q E h => ?_) (fun cdv A outer s H vs Q E hr h => ?_)
  · obtain ⟨r, z, l, rfl, _⟩ := h
    rfl
  · obtain ⟨r, z, l, rfl, hR, kq, ke⟩ := h
    obtain ⟨dx, n, hA, e, hn, hz⟩ := id hR
    have hr1 := hr.mono (show 1 ≤ 2 by decide)
    refine ⟨_, pss_cons (ps_if (pt_not (pt_val (pe_meth0 (pv 0) R.cl mL GL hr1 bL .nil pass0)))
        (pss_one (ps_raise rfl (takes_of rfl rfl rfl rfl) (pmk_oex B.err.ox B.i B.t (ok_bt B.F B.err.ox B.no) hr B.b .nil pass0 (by rfl) B.m (pa_cons (pe_fld (pv 0) rfl) pa_nil))))
        pss_nil)
    (pss_cons (ps_fldaug (pv 0) pe_int in_add)
    (pss_one (ps_ret (pe_ix ix_str (pe_fld (pv 0) rfl) (pe_op op_sub (pe_fld (pv 0) rfl) pe_int) (fun _ _ => rfl))))), ?_⟩
    have zl : (tl z).length = z.length := tl_len
    refine ⟨_, rfl, r, dx, _, rfl, hA, rfl, r, l, rfl, hR.rd, _, rfl, ?_⟩
    cases il : isLt l with
    | false =>
      refine ifT rfl ?_
      refine ⟨_, rfl, r, CR, dx, _, _, rfl, hA, R.cl, R.nA, rdF_at, (by show 1 ≤ 1000; decide), ?_⟩
      exact bt_do (x := r) (eb_do (dx := dx) (ke il) e hn)
    | true =>
      obtain ⟨c, l1, rfl, hc⟩ := isLt_iff.mp il
      obtain ⟨h1, h2, lt⟩ := drop_at e
      refine ifF rfl ?_
      refine ⟨_, rfl, r, CR, dx, _, _, rfl, hA, R.cl, R.nA, rdF_at, _, _, rfl, rfl, dx, _, hA, (by show 2 < 1000; decide), ?_⟩
      have R2 := RzAt.step (CR := CR) hA e hz
      have s2 : Same (del H r) (del (upd H r (.ins CR dx (putF "_at" (.int ((n : Int) + 1)) (rdF z n)))) r) := del_updR
      have h3 : upd H r (.ins CR dx (putF "_at" (.int ((n : Int) + 1)) (rdF z n))) r = some (.ins CR dx (rdF z (n + 1))) := by
        rw [upd_same, show ((n : Int) + 1) = ((n + 1 : Nat) : Int) by omega, rdF_put]
      generalize upd H r (.ins CR dx (putF "_at" (.int ((n : Int) + 1)) (rdF z n))) = H2 at R2 s2 h3
      refine ⟨_, rfl, r, CR, dx, _, _, rfl, h3, R.cl, R.nT, rdF_text, _, rfl, r, CR, dx, _, _, rfl, h3, R.cl, R.nA, rdF_at, _, _, rfl, rfl, z, _, c, rfl, rfl, big4 (by omega), ?_, kq c l1 rfl hc H2 R2 s2⟩
      have ei : (((n + 1 : Nat) : Int) - 1) = ((n : Nat) : Int) := by omega
      rw [ei]
      exact atI_nat h1
theorem ok_rnameX {f fL fI : Addr} {fd fdL fdI : FuncData} (B : BtT K mg CF fF fdF) (F : Fun K "_name" "Reading._name" sRName f fd) (FL : Fun K "_letter" "Reading._letter" sRLet fL fdL) (bL : Binds K fdL ["self"] []) (mL : Meth K CR "_letter" fL) (FI : Fun K "_is_letter" "Reading._is_letter" sRIsL fI fdI) (bI : Binds K fdI ["self"] []) (mI : Meth K CR "_is_letter" fI)
    (T : TxB mg) (TN : TxN mg) (R : RdT K CR) : FnOk P w K mg base (L2.CX P w) 4 f fd ["self"] (spRNameX CR CF) := by
  have GI : FnOk P w K mg base CX0 1 fI fdI ["self"] (spRIsL K CR) := ok_risl FI T TN R
  have GL : FnOk P w K mg base (L2.CX P w) 3 fL fdL ["self"] (spRLetX CR CF) := ok_rletX B FL FI bI mI T TN R
  obtain ⟨u8, h8⟩ := TN.long
  refine F.okX scRName (fun vs H Q E h => ?_) (fun cdv A outer s H vs Q E hr h => ?_)
  · obtain ⟨r, z, l, rfl, _⟩ := h
    rfl
  · obtain ⟨r, z, l, rfl, hR, kq, ke⟩ := h
    have nd := scRName.nd
    have hr1 := hr.mono (show 1 ≤ 3 by decide)
    refine ⟨_, pss_cons (ps_set (i := 1) nd rfl (Or.inl rfl) (pe_meth0 (pv 0) R.cl mL GL hr bL .nil (passes_call (takes_of rfl rfl rfl rfl) fun _ _ _ _ h => h)))
    (pss_cons (ps_while (passes_of rfl) (PW.pt (pw_and (pt_val (pe_meth0 (pv 0) R.cl mI GI hr1 bI .nil pass0)) (pw_and1 (pt_cmpR op_lt (pe_callB call_len_str (by rfl) T.len PySem.boot_len (pa_cons (pv 1) pa_nil)) (pe_glob (v := .int 8) (by rfl) h8 ⟨_, rfl⟩) (nomark _)))))
        (pss_one (ps_aug (i := 1) nd rfl (Or.inl rfl) (pe_meth0 (pv 0) R.cl mL GL hr bL .nil (passes_call (takes_of rfl rfl rfl rfl) fun _ _ _ _ h => h)) ip_addS)))
    (pss_one (ps_ret (pv 1)))), ?_⟩
    obtain ⟨dx, n, hA, _⟩ := id hR
    refine ⟨_, rfl, r, dx, _, rfl, hA, rfl, r, z, l, rfl, hR, fun c l1 el hc H1 R1 s1 => ?_, fun il => ke l (by unfold rdN; rw [il]; rfl)⟩
    subst el
    have il : isLt (c :: l1) = true := decide_eq_true hc
    refine ⟨fun m σ H' => ∃ i, m = 8 - i ∧ 1 ≤ i ∧ i ≤ 8 ∧ i ≤ (c :: l1).length ∧ (∀ d ∈ (c :: l1).take i, isC d = true) ∧ σ = [some (.ref r), some (.str (mk ((c :: l1).take i)))] ∧ RzAt CR H' r z ((c :: l1).drop i) ∧ Same (del H r) (del H' r), ⟨_, 1, rfl, Nat.le_refl _, by decide, by simp, ?_, rfl, R1, s1⟩, ?_⟩
    · intro d hd
      simp only [List.take_succ_cons, List.take_zero, List.mem_singleton] at hd
      subst hd
      exact decide_eq_true hc
    generalize eL : c :: l1 = L at kq il ⊢
    rintro m σ H' ⟨i, rfl, i1, i8, il', hl, rfl, R2, s2⟩
    obtain ⟨dx2, n2, hA2, _⟩ := id R2
    refine ⟨_, rfl, r, dx2, _, rfl, hA2, rfl, r, _, rfl, R2.rd, _, rfl, ?_⟩
    have tkl : (mk (L.take i)).length = i := by rw [mk_len, List.length_take]; omega
    have fin : (i = 8 ∨ isLt (L.drop i) = false) → Q (.str (mk (L.take i))) H' := fun st => by
      have e := nmT_of i8 hl il' st
      refine kq _ (L.drop i) ?_ H' R2 s2
      unfold rdN
      rw [il, if_pos rfl, e, List.length_take, Nat.min_eq_left il']
    cases i2 : isLt (L.drop i) with
    | true =>
      refine ifT rfl ?_
      refine ⟨_, rfl, _, rfl, big4 (by rw [tkl]; omega), _, _, rfl, rfl, _, rfl, ?_⟩
      rw [tkl]
      obtain ⟨c2, q2, e2, hc2⟩ := isLt_iff.mp i2
      by_cases lt : i < 8
      · refine ifT (decide_eq_true (by omega)) ?_
        refine ⟨fun σ'' H'' => ∃ m', m' < 8 - i ∧ ∃ i', m' = 8 - i' ∧ 1 ≤ i' ∧ i' ≤ 8 ∧ i' ≤ L.length ∧ (∀ d ∈ L.take i', isC d = true) ∧ σ'' = [some (.ref r), some (.str (mk (L.take i')))] ∧ RzAt CR H'' r z (L.drop i') ∧ Same (del H r) (del H'' r), fun σ'' H'' z => z, ?_⟩
        have lt2 : i < L.length := by
          rcases Nat.lt_or_ge i L.length with q | q
          · exact q
          · rw [List.drop_eq_nil_of_le q] at e2; cases e2
        have e3 : L.drop (i + 1) = q2 := by
          have := List.drop_eq_getElem_cons lt2
          rw [e2] at this
          exact (List.cons.inj this).2.symm
        have e4 : L.take (i + 1) = L.take i ++ [c2] := by
          have := List.drop_eq_getElem_cons lt2
          rw [e2] at this
          rw [(List.cons.inj this).1, List.take_append_getElem lt2]
        refine ⟨_, rfl, _, rfl, r, dx2, _, rfl, hA2, rfl, r, z, _, rfl, R2, fun c3 l3 e5 hc3 H3 R3 s3 => ?_, fun q => by rw [i2] at q; cases q⟩
        rw [e2] at e5
        obtain ⟨rfl, rfl⟩ := List.cons.inj e5
        refine ⟨_, _, rfl, rfl, big4 (by rw [tkl, mk_len, List.length_singleton]; omega), _, (by omega : 8 - (i + 1) < _), i + 1, rfl, by omega, lt, lt2, ?_, ?_, by rw [e3]; exact R3, same_trans s2 s3⟩
        · intro d hd
          rw [e4] at hd
          rcases List.mem_append.mp hd with q | q
          · exact hl d q
          · rw [List.mem_singleton] at q
            subst q
            exact decide_eq_true hc3
        · rw [mk_app, e4]; rfl
      · refine ifF (decide_eq_false (by omega)) ?_
        exact ⟨_, rfl, fin (.inl (by omega))⟩
    | false =>
      refine ifF rfl ?_
      exact ⟨_, rfl, fin (.inr i2)⟩
theorem scRInitX : FnScope ["self", "text"] ["self", "text"] (defScope sRInit) := ⟨rfl, rfl, rfl, by decide +kernel, rfl, by decide +kernel, by decide +kernel⟩
theorem ok_rinitX {f : Addr} {fd : FuncData} (B : BtT K mg CF fF fdF) (hs : ∃ u, mg "NO_STRING" = some (.int (-1) u)) (F : Fun K "__init__" "Reading.__init__" sRInit f fd) (T : TxB mg) (T2 : TxD mg) (R : RdT K CR) : FnOk P w K mg base (L2.CX P w) 3 f fd ["self", "text"] (spRInitX K CR CF) := by
  obtain ⟨uN, hN⟩ := hs
  refine F.okX scRInitX (fun vs H Q E h => ?_) (fun cdv A outer s H vs Q E hr h => ?_)
  · obtain ⟨_, _, _, rfl, _⟩ := h
    rfl
  · obtain ⟨x, dx, v, rfl, hx, cs⟩ := h
    refine ⟨_, pss_cons (ps_if (pt_not (pt_val (pe_callB call_isi (by rfl) T.isinstance (by decide +kernel) (pa_cons (pv 1) (pa_cons (pe_bltn (v := .ty "str") (by rfl) T2.str (by decide +kernel) rfl) pa_nil)))))
        (pss_one (ps_raise rfl (takes_of rfl rfl rfl rfl) (pmk_oex B.err.ox B.i B.t (ok_bt B.F B.err.ox B.no) hr B.b .nil pass0 (by rfl) B.m (pa_cons (pe_glob (v := .int (-1)) (by rfl) hN ⟨_, rfl⟩) pa_nil))))
        pss_nil)
    (pss_cons (ps_fld (pv 0) (pv 1) rfl)
    (pss_one (ps_fld (pv 0) pe_int rfl))), ?_⟩
    rcases cs with ⟨z, rfl, hz, kq⟩ | ⟨⟨tv, ty, kt⟩, ke⟩
    · refine ⟨_, rfl, _, _, _, _, _, rfl, .ty _, .base (.str z), kit_ty (r := true) (by decide +kernel), _, rfl, ?_⟩
      refine ifF rfl ?_
      refine ⟨_, rfl, _, rfl, x, CR, dx, _, rfl, hx, R.cl, R.nT, (by show 0 < 1000; decide), ?_⟩
      refine ⟨_, rfl, x, CR, dx, _, rfl, upd_same, R.cl, R.nA, (by show 1 < 1000; decide), ?_⟩
      refine kq _ ⟨dx, 0, by rw [upd_same, rdF_make], by rw [List.drop_zero], Nat.zero_le _, hz⟩ (same_trans del_updR del_updR)
    · refine ⟨_, rfl, _, _, _, _, _, rfl, .ty _, ty, kt, _, rfl, ?_⟩
      refine ifT rfl ?_
      refine ⟨(by show 1 ≤ 1000; decide), ?_⟩
      exact bt_do (x := x) fun d H' hd hx s2 => ke d H' hd hx (del_same_of s2)
end
end LG

set_option Elab.async false
set_option linter.all false
set_option maxRecDepth 100000
set_option maxHeartbeats 8100000
set_option pp.maxSteps 300
namespace LG
open PySem L2 TL
theorem MK.inv {st : List (List Th)} {l : List Nat} {O : Ot Th} (h : MK st l O) :
    (∃ l', l = 40 :: l' ∧ MK ([] :: st) l' O) ∨ (isLt l = false ∧ l.head? ≠ some 40 ∧ O = .err l) ∨
    ∃ (L : List Th) (R : List (List Th)) (i : Nat) (l' : List Nat), st = L :: R ∧ l = (97 + i) :: l' ∧ i ≤ 25 ∧
      (((l'.head? = some 32 ∨ (R ≠ [] ∧ L = [])) ∧ (∀ l2, ndd ar3 l' = (true, l2) → MK ((L ++ [.int (i : Nat)]) :: R) l2 O) ∧ (∀ e, ndd ar3 l' = (false, e) → O = .err e)) ∨
       (l'.head? ≠ some 32 ∧ (R = [] → O = .ok (bld L (.int (i : Nat))) l') ∧ ∀ T R', R = T :: R' → L ≠ [] ∧ (∀ l2, ndd cl4 l' = (true, l2) → MK ((T ++ [bld L (.int (i : Nat))]) :: R') l2 O) ∧ ∀ e, ndd cl4 l' = (false, e) → O = .err e)) := by
  cases h with
  | op h => exact .inl ⟨_, rfl, h⟩
  | bad h1 h2 => exact .inr (.inl ⟨h1, h2, rfl⟩)
  | mu h1 h2 h3 h4 => exact .inr (.inr ⟨_, _, _, _, rfl, rfl, h1, .inl ⟨h2, fun l2 q => by rw [h3] at q; cases q; exact h4, fun e q => by rw [h3] at q; cases q⟩⟩)
  | mb h1 h2 h3 => exact .inr (.inr ⟨_, _, _, _, rfl, rfl, h1, .inl ⟨h2, fun l2 q => (by rw [h3] at q; cases q), fun e q => by rw [h3] at q; cases q; rfl⟩⟩)
  | en h1 h2 => exact .inr (.inr ⟨_, _, _, _, rfl, rfl, h1, .inr ⟨h2, fun _ => rfl, fun _ _ q => by cases q⟩⟩)
  | cl h1 h2 h3 h4 h5 => exact .inr (.inr ⟨_, _, _, _, rfl, rfl, h1, .inr ⟨h2, fun q => (by cases q), fun _ _ q => by
      cases q
      exact ⟨h3, fun l2 q => by rw [h4] at q; cases q; exact h5, fun e q => by rw [h4] at q; cases q⟩⟩⟩)
  | cb h1 h2 h3 h4 => exact .inr (.inr ⟨_, _, _, _, rfl, rfl, h1, .inr ⟨h2, fun q => (by cases q), fun _ _ q => by
      cases q
      exact ⟨h3, fun l2 q => (by rw [h4] at q; cases q), fun e q => by rw [h4] at q; cases q; rfl⟩⟩⟩)
structure FrX where
  a : Addr
  L : List (Th × V)
def FrX.stk (f : FrX) : List Th := f.L.map (·.1)
def FxOk (K : PySem.W.Frag) (H0 H : Hp) (g : FrX) : Prop := H0 g.a = none ∧ H g.a = some (.lst (g.L.map (·.2))) ∧ ∀ p ∈ g.L, ThAt K (tups H) p.1 p.2
theorem FxOk.carry {K : PySem.W.Frag} {CR : Addr} {H0 H H2 H4 : Hp} {r : Addr} {g : FrX} {l : List Nat} (h : FxOk K H0 H g) (R : RdAt CR H r l) (s : Same (del H r) (del H2 r)) (st : Same (tups H2) (tups H4)) (e : H4 g.a = H2 g.a) : FxOk K H0 H4 g := by
  obtain ⟨a, b, c⟩ := h
  refine ⟨a, by rw [e]; exact keepR R s b, fun p hp => ?_⟩
  exact ((c p hp).same (tups_del s R.ins)).same st
structure RkX (K : PySem.W.Frag) (CR : Addr) (H0 H : Hp) (r ar : Addr) (f : FrX) (fs : List FrX) (z : Str) (l : List Nat) (O : Ot Th) : Prop where
  same : Same (del H0 r) (del H r)
  rd : RzAt CR H r z l
  arnew : H0 ar = none
  aro : H ar = some (.lst ((f :: fs).reverse.map fun g => V.ref g.a))
  each : ∀ g ∈ f :: fs, FxOk K H0 H g
  apart : (ar :: (f :: fs).map FrX.a).Nodup
  run : MK (f.stk :: fs.map FrX.stk) l O
  few : ∀ g ∈ f :: fs, g.L.length + l.length ≤ 4000000
  fw : fs.length + l.length ≤ 4000000
def spRKindX (K : PySem.W.Frag) (CR CF : Addr) : Sp := fun vs H Q E => ∃ (r : Addr) (z : Str) (l : List Nat) (O : Ot Th), vs = [.ref r] ∧ RzAt CR H r z l ∧ Rd false l O ∧
  (∀ k l1, O = .ok k l1 → ∀ v H', RzAt CR H' r z l1 → Same (del H r) (del H' r) → ThAt K (tups H') k v → Q v H') ∧ (∀ e, O = .err e → EbAt E CF H r z e)
def RkV (K : PySem.W.Frag) (CR : Addr) (H0 : Hp) (r ar : Addr) (z : Str) (O : Ot Th) : Nat → St → Hp → Prop := fun m σ H' => ∃ (f : FrX) (fs : List FrX) (l : List Nat) (t2 t3 t4 : Option V), m = l.length ∧ σ = [some (.ref r), some (.ref ar), t2, t3, t4] ∧ RkX K CR H0 H' r ar f fs z l O
/-- Reading's own methods, with what is raised -/
structure RdX (K : PySem.W.Frag) (mg : Str → Option Value) (CR CF f0 fG fI fN fE fL fM fK fP fT fF : Addr) (fd0 fdG fdI fdN fdE fdL fdM fdK fdP fdT fdF : FuncData) (sK sP sT : Stmt) : Prop where
  F : RdF K mg CR f0 fG fI fN fE fL fM fK fP fT fd0 fdG fdI fdN fdE fdL fdM fdK fdP fdT sK sP sT
  B : BtT K mg CF fF fdF
section
variable {P : Program} {w : World} {K : PySem.W.Frag} {mg : Str → Option Value} {base : Heap} {CR CF f0 fG fI fN fE fL fM fK fP fT fF : Addr} {fd0 fdG fdI fdN fdE fdL fdM fdK fdP fdT fdF : FuncData} {sP sT : Stmt}
theorem scRKindX : FnScope ["self", "around", "kind", "lefts", "left"] ["self"] (defScope sRKind) := ⟨rfl, rfl, rfl, by decide +kernel, rfl, by decide +kernel, by decide +kernel⟩
theorem ok_rkindX (RX : RdX K mg CR CF f0 fG fI fN fE fL fM fK fP fT fF fd0 fdG fdI fdN fdE fdL fdM fdK fdP fdT fdF sRKind sP sT) (T : TxB mg) (T2 : TxD mg) (TN : TxN mg) : FnOk P w K mg base (L2.CX P w) 4 fK fdK ["self"] (spRKindX K CR CF) := by
  have RF := RX.F
  have R := RF.R
  have GG : FnOk P w K mg base CX0 1 fG fdG ["self", "sign"] (spRGoes K CR) := ok_rgoes RF.FG T R
  have GN : FnOk P w K mg base (L2.CX P w) 3 fN fdN ["self", "signs"] (spRNeedX CR CF) := ok_rneedX RX.B RF.FN RF.FG RF.bG RF.mG T R
  have GL : FnOk P w K mg base (L2.CX P w) 3 fL fdL ["self"] (spRLetX CR CF) := ok_rletX RX.B RF.FL RF.FI RF.bI RF.mI T TN R
  obtain ⟨uL, hL⟩ := TN.let_
  refine RF.FK.okX scRKindX (fun vs H Q E h => ?_) (fun cdv A outer s H vs Q E hr h => ?_)
  · obtain ⟨_, _, _, _, rfl, _⟩ := h
    rfl
  · obtain ⟨r, z, l, O, rfl, hR, hd, kq, ke⟩ := h
    have nd := scRKindX.nd
    have hr1 := hr.mono (show 1 ≤ 3 by decide)
    refine ⟨_, pss_cons (ps_set (i := 1) nd rfl (Or.inl rfl) (pe_lst (pa_cons (pe_lst pa_nil) pa_nil)))
    (pss_one (ps_while (passes_of rfl) (pt_val pe_bl)
        (pss_cons (ps_if (pt_val (pe_meth (pv 0) R.cl RF.mG GG hr1 RF.bG .nil pass0 (pa_cons pe_str pa_nil)))
            (pss_cons (ps_expr (pe_meth (pv 0) R.cl RF.mN GN hr RF.bN .nil (passes_call (takes_of rfl rfl rfl rfl) fun _ _ _ _ h => h) (pa_cons pe_str pa_nil)))
            (pss_cons (ps_expr (pe_bm PySem.F.plainAttrs_list PySem.F.slot_list_append PySem.F.type_list_append mt_append (pv 1) (pa_cons (pe_lst pa_nil) pa_nil)))
            (pss_one ps_continue)))
            pss_nil)
        (pss_cons (ps_set (i := 2) nd rfl (Or.inl rfl) (pe_bm PySem.F.plainAttrs_str PySem.F.slot_str_index PySem.F.type_str_index mt_sindex (pe_glob (v := .str letters) (by rfl) hL ⟨_, rfl⟩) (pa_cons (pe_meth0 (pv 0) R.cl RF.mL GL hr RF.bL .nil (passes_call (takes_of rfl rfl rfl rfl) fun _ _ _ _ h => h)) pa_nil)))
        (Evl.pss_cut (ps_if (PW.pt (pw_or (pt_val (pe_meth (pv 0) R.cl RF.mG GG hr1 RF.bG .nil pass0 (pa_cons pe_str pa_nil))) (pw_or1 (PW.pt (pw_and (pt_cmpR op_gt (pe_callB call_len_seq (by rfl) T.len PySem.boot_len (pa_cons (pv 1) pa_nil)) pe_int (nomark _)) (pw_and1 (pt_not (pt_truth (pe_ix ix_list (pv 1) (pe_un un_neg pe_int) (fun _ _ => rfl)) (by intro _; rfl)))))))))
            (pss_cons (ps_expr (pe_meth (pv 0) R.cl RF.mN GN hr RF.bN .nil (passes_call (takes_of rfl rfl rfl rfl) fun _ _ _ _ h => h) (pa_cons pe_str pa_nil)))
            (pss_cons (ps_expr (pe_bm PySem.F.plainAttrs_list PySem.F.slot_list_append PySem.F.type_list_append mt_append (pe_ix ix_list (pv 1) (pe_un un_neg pe_int) (fun _ _ => rfl)) (pa_cons (pv 2) pa_nil)))
            (pss_one ps_continue)))
            pss_nil)
        (pss_cons (ps_set (i := 3) nd rfl (Or.inl rfl) (pe_bm0 PySem.F.plainAttrs_list PySem.F.slot_list_pop PySem.F.type_list_pop mt_pop (pv 1)))
        (pss_cons (ps_for (passes_of rfl) rfl (pi_reversed (by rfl) T2.reversed (pa_cons (pv 3) pa_nil)) (pg_name (i := 4) nd rfl (Or.inl rfl))
            (pss_one (ps_set (i := 2) nd rfl (Or.inl rfl) (pe_tup (pa_cons (pv 4) (pa_cons (pv 2) pa_nil))))))
        (pss_cons (ps_if (pt_not (pt_truth (pv 1) (by intro _; rfl)))
            (pss_one (ps_ret (pv 2)))
            pss_nil)
        (pss_cons (ps_expr (pe_meth (pv 0) R.cl RF.mN GN hr RF.bN .nil (passes_call (takes_of rfl rfl rfl rfl) fun _ _ _ _ h => h) (pa_cons pe_str pa_nil)))
        (pss_one (ps_expr (pe_bm PySem.F.plainAttrs_list PySem.F.slot_list_append PySem.F.type_list_append mt_append (pe_ix ix_list (pv 1) (pe_un un_neg pe_int) (fun _ _ => rfl)) (pa_cons (pv 2) pa_nil))))))))))))), ?_⟩
    refine ⟨(by show 0 ≤ sizeLine; decide), fun l0 n0 => ?_⟩
    have s0 := same_new (o := .lst []) (same_refl H) n0
    refine ⟨(by show 1 ≤ sizeLine; decide), fun ar nar => ?_⟩
    have l0ar : l0 ≠ ar := ne_of_none upd_same nar
    have nar0 : H ar = none := same_none s0 nar
    have s1 := same_new (o := .lst [.ref l0]) s0 nar
    have e0 : upd (upd H l0 (.lst [])) ar (.lst [.ref l0]) l0 = some (.lst []) := by rw [upd_ne l0ar]; exact upd_same
    have e1 : upd (upd H l0 (.lst [])) ar (.lst [.ref l0]) ar = some (.lst [.ref l0]) := upd_same
    generalize upd (upd H l0 (.lst [])) ar (.lst [.ref l0]) = H1 at s1 e0 e1
    refine ⟨RkV K CR H r ar z O, ⟨_, ⟨l0, []⟩, [], l, none, none, none, rfl, rfl, ?_⟩, ?_⟩
    · have hlen := hR.rd.len
      refine ⟨del_same_of s1, hR.same s1, nar0, e1, fun g hg => ?_, ?_, hd.mk, fun g hg => ?_, by simpa using hlen⟩
      · rw [List.mem_singleton] at hg
        subst hg
        exact ⟨n0, e0, fun p hp => by cases hp⟩
      · simp [l0ar.symm]
      · rw [List.mem_singleton] at hg
        subst hg
        simpa using hlen
    · rintro m σ H' ⟨f, fs, l, t2, t3, t4, rfl, rfl, I⟩
      refine ⟨_, rfl, ?_⟩
      refine ifT rfl ?_
      obtain ⟨fa, fL⟩ := f
      refine ⟨fun σ'' H'' => ∃ m', m' < l.length ∧ RkV K CR H r ar z O m' σ'' H'', fun σ'' H'' z => z, ?_⟩
      have fok := I.each ⟨fa, fL⟩ List.mem_cons_self
      obtain ⟨fnew, fat, fvals⟩ := id fok
      have fnew : H fa = none := fnew
      have fat : H' fa = some (.lst (fL.map (·.2))) := fat
      have fvals : ∀ p ∈ fL, ThAt K (tups H') p.1 p.2 := fvals
      have ird : RzAt CR H' r z l := I.rd
      have irun : MK (fL.map (·.1) :: fs.map FrX.stk) l O := I.run
      have few0 : fL.length + l.length ≤ 4000000 := I.few ⟨fa, fL⟩ List.mem_cons_self
      have apart := I.apart
      rw [List.nodup_cons, List.map_cons, List.nodup_cons] at apart
      obtain ⟨ap1, ap2, ap3⟩ := apart
      have ap2 : fa ∉ fs.map FrX.a := ap2
      have arfa : ar ≠ fa := fun q => ap1 (by rw [q]; exact List.mem_cons_self)
      have arfs : ar ∉ fs.map FrX.a := fun q => ap1 (List.mem_cons_of_mem _ q)
      obtain ⟨dx, n0', hA, _⟩ := id ird
      have lens := ird.rd.len
      have fwl := I.fw
      have each2 : ∀ g ∈ fs, FxOk K H H' g := fun g hg => I.each g (List.mem_cons_of_mem _ hg)
      have few2 : ∀ g ∈ fs, g.L.length + l.length ≤ 4000000 := fun g hg => I.few g (List.mem_cons_of_mem _ hg)
      have aro : H' ar = some (.lst (fs.reverse.map (fun g => V.ref g.a) ++ [.ref fa])) := by
        have := I.aro
        rw [List.reverse_cons, List.map_append] at this
        exact this
      have ntup : ∀ {G : Hp} {b : Addr} {ys : List V}, G b = some (.lst ys) → ∀ xs, G b ≠ some (.tup xs) := fun e xs q => by rw [e] at q; cases q
      have same0 := I.same
      have arnew := I.arnew
      have Iap := I.apart
      rcases irun.inv with ⟨lq, rfl, run2⟩ | ⟨il, h40, eO⟩ | ⟨L', R', i, l2, eS, rfl, hi, more⟩
      · -- a part opens
        rw [List.length_cons] at few0 few2 fwl ⊢
        refine ⟨_, rfl, r, dx, _, rfl, hA, rfl, r, _, 40, _, rfl, (by decide +kernel), ird.rd, _, rfl, ?_⟩
        refine ifT rfl ?_
        refine ⟨_, rfl, r, dx, _, rfl, hA, rfl, r, z, [40], _, _, rfl, (by decide +kernel), ird, fun lx ex H2 R2 s2 => ?_, fun ex q => (by cases q)⟩
        obtain rfl : lq = lx := by cases ex; rfl
        have ar2 := keepR ird.rd s2 aro
        have fa2 := keepR ird.rd s2 fat
        refine ⟨_, rfl, .inl ⟨rfl, _, SqL.of ar2⟩, (by show 0 ≤ sizeLine; decide), fun nl nnl => ?_⟩
        have nlnew := newR R2.rd (same_trans same0 s2) nnl
        have nlar : ar ≠ nl := ne_of_none ar2 nnl
        have nlfa : fa ≠ nl := ne_of_none fa2 nnl
        have k3 := same_new (o := .lst []) (same_refl H2) nnl
        have ar3' := k3 _ _ ar2
        refine ⟨ar, _, _, rfl, rfl, ar3', (by rw [List.length_append, List.length_map, List.length_reverse]; exact Nat.lt_of_le_of_lt (m := 4000001) (by show fs.length + 1 ≤ 4000001; omega) (by decide)), ?_⟩
        have st : Same (tups H2) (tups (upd (upd H2 nl (.lst [])) ar (.lst (fs.reverse.map (fun g => V.ref g.a) ++ [.ref fa] ++ [.ref nl])))) := same_trans (tups_mono k3) (tups_upd (ntup ar3'))
        have off : ∀ b ys, H2 b = some (.lst ys) → b ≠ ar → upd (upd H2 nl (.lst [])) ar (.lst (fs.reverse.map (fun g => V.ref g.a) ++ [.ref fa] ++ [.ref nl])) b = H2 b := fun b ys e n => by rw [upd_ne n, upd_ne (ne_of_none e nnl)]
        refine ⟨_, (Nat.lt_succ_self _ : lq.length < _), ⟨nl, []⟩, ⟨fa, fL⟩ :: fs, lq, _, _, _, rfl, rfl, ?_⟩
        refine ⟨sameU (sameU (same_trans same0 s2) (del_none nlnew)) (del_none arnew), (R2.same k3).put ar3', arnew, ?_, fun g hg => ?_, ?_, run2, fun g hg => ?_, by rw [List.length_cons]; omega⟩
        · rw [upd_same]; simp
        · rcases List.mem_cons.mp hg with rfl | hg
          · exact ⟨nlnew, by show upd _ ar _ nl = _; rw [upd_ne nlar.symm, upd_same]; rfl, fun p hp => (by cases hp)⟩
          · rcases List.mem_cons.mp hg with rfl | hg
            · refine FxOk.carry (g := ⟨fa, fL⟩) ⟨fnew, fat, fvals⟩ ird.rd s2 st (off _ _ fa2 arfa.symm)
            · exact (each2 g hg).carry ird.rd s2 st (off _ _ (keepR ird.rd s2 (each2 g hg).2.1) fun q => arfs (by rw [← q]; exact List.mem_map_of_mem hg))
        · have nin : nl ∉ fs.map FrX.a := fun q => by
            obtain ⟨g, hg, e⟩ := List.mem_map.mp q
            have := keepR ird.rd s2 (each2 g hg).2.1
            rw [e, nnl] at this; cases this
          simp only [List.map_cons, List.nodup_cons, List.mem_cons, not_or]
          exact ⟨⟨nlar, arfa, arfs⟩, ⟨nlfa.symm, nin⟩, ap2, ap3⟩
        · rcases List.mem_cons.mp hg with rfl | hg
          · show 0 + _ ≤ _; omega
          · rcases List.mem_cons.mp hg with rfl | hg
            · show fL.length + _ ≤ _; omega
            · have := few2 g hg
              omega
      · -- no letter
        refine ⟨_, rfl, r, dx, _, rfl, hA, rfl, r, _, 40, _, rfl, (by decide +kernel), ird.rd, _, rfl, ?_⟩
        refine ifF (decide_eq_false h40) ?_
        refine ⟨rfl, _, rfl, r, dx, _, rfl, hA, rfl, r, z, _, rfl, ird, fun c l1 el hc => ?_, fun _ => (ke _ eO).on ird same0⟩
        rw [el] at il
        rw [show isLt (c :: l1) = true from decide_eq_true hc] at il
        cases il
      · -- a letter
        obtain ⟨eL', eR'⟩ := List.cons.inj eS
        rw [List.length_cons] at few0 few2 fwl lens ⊢
        refine ⟨_, rfl, r, dx, _, rfl, hA, rfl, r, _, 40, _, rfl, (by decide +kernel), ird.rd, _, rfl, ?_⟩
        refine ifF (decide_eq_false (letter_not hi (by decide))) ?_
        have cin : 97 + i ∈ letters.cps.toList := List.mem_of_getElem? (letters_at hi)
        obtain ⟨oc, hoc⟩ := idx_at hi
        refine ⟨rfl, _, rfl, r, dx, _, rfl, hA, rfl, r, z, _, rfl, ird, fun cx lx ex _ H2 R2 s2 => ?_, fun q => (by rw [show isLt ((97 + i) :: l2) = true from decide_eq_true cin] at q; cases q)⟩
        (obtain ⟨rfl, rfl⟩ := List.cons.inj ex)
        refine ⟨letters, _, i, oc, rfl, rfl, hoc, ?_⟩
        have ar2 := keepR ird.rd s2 aro
        have fa2 := keepR ird.rd s2 fat
        have s12 := same_trans same0 s2
        obtain ⟨dx2, n2', hA2, _⟩ := id R2
        have l2len : l2.length ≤ 4000000 := by omega
        refine ⟨fun σ' H'' => σ' = [some (.ref r), some (.ref ar), some (.int (i : Int)), t3, t4] ∧ H'' = H2 ∧ (R' = [] → O = .ok (bld L' (.int (i : Nat))) l2) ∧ ∀ T Rx, R' = T :: Rx → L' ≠ [] ∧ (∀ l3, ndd cl4 l2 = (true, l3) → MK ((T ++ [bld L' (.int (i : Nat))]) :: Rx) l3 O) ∧ ∀ e, ndd cl4 l2 = (false, e) → O = .err e, ?_, ?_⟩
        · -- which way
          refine ⟨_, rfl, r, dx2, _, rfl, hA2, rfl, r, _, 32, _, rfl, (by decide +kernel), R2.rd, _, rfl, ?_⟩
          by_cases c : l2.head? = some 32 ∨ (R' ≠ [] ∧ L' = [])
          · obtain ⟨_, mo, me⟩ : (l2.head? = some 32 ∨ (R' ≠ [] ∧ L' = [])) ∧ (∀ l3, ndd ar3 l2 = (true, l3) → MK ((L' ++ [.int (i : Nat)]) :: R') l3 O) ∧ (∀ e, ndd ar3 l2 = (false, e) → O = .err e) := by
              rcases more with q | ⟨q1, _, q3⟩
              · exact q
              · rcases c with c | ⟨c1, c2⟩
                · exact absurd c q1
                · cases R' with
                  | nil => exact absurd rfl c1
                  | cons T Rx => exact absurd c2 (q3 _ _ rfl).1
            by_cases h32 : l2.head? = some 32
            refine ifT (decide_eq_true h32) ?_
            rotate_left
            refine ifF (decide_eq_false h32) ?_
            obtain ⟨c1, c2⟩ := c.resolve_left h32
            refine ⟨_, rfl, _, _, rfl, .inl (SqL.of ar2), _, _, rfl, rfl, _, rfl, ?_⟩
            have fne : fs ≠ [] := fun q => c1 (by rw [← eR', q]; rfl)
            have f1 : 0 < fs.length := by
              cases fs with
              | nil => exact absurd rfl fne
              | cons a b => exact Nat.succ_pos _
            refine ifT (by simp; omega) ?_
            refine ⟨_, rfl, _, rfl, ar, _, _, _, rfl, rfl, SqL.of ar2, atI_last _ _, _, .inl ⟨_, SqL.of fa2, rfl⟩, ?_⟩
            have fe : fL = [] := by
              cases fL with
              | nil => rfl
              | cons a b => rw [← eL'] at c2; cases c2
            rw [show (fL.map fun p : Th × V => p.2).isEmpty = true by rw [fe]; rfl]
            all_goals
              refine ifT rfl ?_
              refine ⟨_, rfl, r, dx2, _, rfl, hA2, rfl, r, z, [32, 62, 32], _, _, rfl, (by decide +kernel), R2, fun l3 e3 H3 R3 s3 => ?_, fun e q => (ke _ (me _ q)).on R2 s12⟩
              have ar3' := keepR R2.rd s3 ar2
              have fa3 := keepR R2.rd s3 fa2
              have s23 := same_trans s2 s3
              have l3len : l3.length + 3 = l2.length := by rw [ndd_ok e3]; simp [ar3]
              refine ⟨_, rfl, _, rfl, ar, _, _, _, rfl, rfl, SqL.of ar3', atI_last _ _, .inl ⟨rfl, _, SqL.of fa3⟩, _, rfl, fa, _, _, rfl, rfl, fa3, (by rw [List.length_map]; exact Nat.lt_of_le_of_lt (m := 4000000) (by omega) (by decide)), ?_⟩
              have st : Same (tups H3) (tups (upd H3 fa (.lst (fL.map (·.2) ++ [.int (i : Int)])))) := tups_upd (ntup fa3)
              refine ⟨_, (by omega : l3.length < _), ⟨fa, fL ++ [(.int (i : Int), .int (i : Int))]⟩, fs, l3, _, _, _, rfl, rfl, ?_⟩
              refine ⟨sameU (same_trans s12 s3) (del_none fnew), R3.put fa3, arnew, ?_, fun g hg => ?_, Iap, ?_, fun g hg => ?_, by omega⟩
              · rw [upd_ne arfa, ar3']; simp
              · rcases List.mem_cons.mp hg with rfl | hg
                · refine ⟨fnew, by rw [upd_same, List.map_append]; rfl, fun p hp => ?_⟩
                  obtain q | q := List.mem_append.mp hp
                  · exact ((fvals p q).same (tups_del s23 ird.rd.ins)).same st
                  · rw [List.mem_singleton] at q
                    subst q
                    exact rfl
                · have gne : g.a ≠ fa := fun q => ap2 (List.mem_map.mpr ⟨g, hg, q⟩)
                  exact (each2 g hg).carry ird.rd s23 st (upd_ne gne)
              · show MK ((fL ++ [(Th.int (i : Int), V.int (i : Int))]).map (·.1) :: fs.map FrX.stk) l3 O
                rw [List.map_append, eL', eR']
                exact mo l3 e3
              · rcases List.mem_cons.mp hg with rfl | hg
                · show (fL ++ [_]).length + l3.length ≤ _
                  (rw [List.length_append, List.length_singleton]; omega)
                · have := few2 g hg
                  omega
          · obtain ⟨c1, c2⟩ := not_or.mp c
            obtain ⟨_, m1, m2⟩ : l2.head? ≠ some 32 ∧ (R' = [] → O = .ok (bld L' (.int (i : Nat))) l2) ∧ ∀ T Rx, R' = T :: Rx → L' ≠ [] ∧ (∀ l3, ndd cl4 l2 = (true, l3) → MK ((T ++ [bld L' (.int (i : Nat))]) :: Rx) l3 O) ∧ ∀ e, ndd cl4 l2 = (false, e) → O = .err e := by
              rcases more with ⟨q, _⟩ | q
              · exact absurd q c
              · exact q
            refine ifF (decide_eq_false c1) ?_
            refine ⟨_, rfl, _, _, rfl, .inl (SqL.of ar2), _, _, rfl, rfl, _, rfl, ?_⟩
            by_cases fe : fs = []
            · refine ifF (by rw [fe]; simp) ?_
              refine ifF rfl ?_
              exact ⟨rfl, rfl, m1, m2⟩
            · have f1 : 0 < fs.length := by
                cases fs with
                | nil => exact absurd rfl fe
                | cons a b => exact Nat.succ_pos _
              refine ifT (by simp; omega) ?_
              refine ⟨_, rfl, _, rfl, ar, _, _, _, rfl, rfl, SqL.of ar2, atI_last _ _, _, .inl ⟨_, SqL.of fa2, rfl⟩, ?_⟩
              have fne : (fL.map fun p : Th × V => p.2).isEmpty = false := by
                cases fL with
                | nil => exact absurd ⟨fun q => fe (by rw [← eR'] at q; exact List.map_eq_nil_iff.mp q), eL'.symm⟩ c2
                | cons p q => rfl
              rw [fne]
              refine ifF rfl ?_
              exact ⟨rfl, rfl, m1, m2⟩
        · rintro _ H9 ⟨rfl, e9, m1, m2⟩
          rw [e9]
          clear e9 H9 more
          refine ⟨_, rfl, .inl ⟨rfl, _, SqL.of ar2⟩, ar, _, .ref fa, rfl, rfl, ar2, (by simp), ?_⟩
          rw [List.dropLast_concat]
          have R3 := R2.put (o := .lst (fs.reverse.map fun g => V.ref g.a)) ar2
          have ar3' : upd H2 ar (.lst (fs.reverse.map fun g => V.ref g.a)) ar = some (.lst (fs.reverse.map fun g => V.ref g.a)) := upd_same
          have fa3 : upd H2 ar (.lst (fs.reverse.map fun g => V.ref g.a)) fa = some (.lst (fL.map (·.2))) := by rw [upd_ne arfa.symm]; exact fa2
          have s3 := sameU (o := .lst (fs.reverse.map fun g => V.ref g.a)) s12 (del_none arnew)
          have st3 : Same (tups H2) (tups (upd H2 ar (.lst (fs.reverse.map fun g => V.ref g.a)))) := tups_upd (ntup ar2)
          have off3 : ∀ b, b ≠ ar → upd H2 ar (.lst (fs.reverse.map fun g => V.ref g.a)) b = H2 b := fun b n => upd_ne n
          generalize upd H2 ar (.lst (fs.reverse.map fun g => V.ref g.a)) = H3 at R3 ar3' fa3 s3 st3 off3
          refine ⟨_, rfl, fa, _, rfl, SqL.of fa3, ?_⟩
          have tv : ∀ p ∈ fL, ThAt K (tups H3) p.1 p.2 := fun p hp => ((fvals p hp).same (tups_del s2 ird.rd.ins)).same st3
          refine for_it walk_rev (fun j σ H'' => ∃ kv t4, σ = [some (.ref r), some (.ref ar), some kv, some (.ref fa), t4] ∧ Same H3 H'' ∧ ThAt K (tups H'') (bld ((fL.map (·.1)).drop (fL.length - j)) (.int (i : Int))) kv) ⟨_, _, rfl, same_refl _, ?_⟩ (fun j σ H'' _ ⟨_, _, _, q, _⟩ => SqL.of (q _ _ fa3)) ?_ ?_
          · rw [Nat.sub_zero, List.drop_of_length_le (by rw [List.length_map]; exact Nat.le_refl _)]; rfl
          · rintro j x σ _ H'' hj ⟨kv, t4', rfl, h1, h2⟩ ⟨rfl, hx⟩
            rw [List.length_map] at hj hx
            obtain ⟨p0, hp0⟩ : ∃ p0, fL[fL.length - 1 - j]? = some p0 := ⟨_, List.getElem?_eq_getElem (by omega)⟩
            rw [List.getElem?_map, hp0] at hx
            cases hx
            refine ⟨_, rfl, _, rfl, (by show 2 ≤ sizeLine; decide), fun q nq => ?_⟩
            have k5 := same_new (o := .tup [p0.2, kv]) (same_refl H'') nq
            refine ⟨_, _, rfl, same_trans h1 k5, ?_⟩
            have ed : (fL.map (·.1)).drop (fL.length - (j + 1)) = p0.1 :: (fL.map (·.1)).drop (fL.length - j) := by
              have lt : fL.length - (j + 1) < (fL.map (·.1)).length := by rw [List.length_map]; omega
              rw [List.drop_eq_getElem_cons lt]
              have e1 : fL.length - (j + 1) + 1 = fL.length - j := by omega
              have e2 : (fL.map (·.1))[fL.length - (j + 1)]? = some p0.1 := by
                rw [List.getElem?_map, show fL.length - (j + 1) = fL.length - 1 - j by omega, hp0]; rfl
              rw [List.getElem?_eq_getElem lt] at e2
              rw [Option.some.inj e2, e1]
            rw [ed]
            refine ⟨q, _, _, rfl, tups_of upd_same, ?_, h2.same (tups_mono k5)⟩
            exact ((tv p0 (List.mem_of_getElem? hp0)).same (tups_mono h1)).same (tups_mono k5)
          · rintro σ H4 ⟨kv, t4', rfl, h1, h2⟩
            rw [List.length_map, Nat.sub_self, List.drop_zero, eL'] at h2
            have ar4 := h1 _ _ ar3'
            have R4 := R3.same h1
            have s4 := same_trans s3 (del_same_of h1)
            have st4 := same_trans st3 (tups_mono h1)
            refine ⟨_, rfl, _, .inl ⟨_, SqL.of ar4, rfl⟩, ?_⟩
            cases fs with
            | nil =>
              refine ifT rfl ?_
              exact ⟨_, rfl, kq _ _ (m1 eR'.symm) kv H4 R4 s4 h2⟩
            | cons g gs =>
              obtain ⟨_, mo, me⟩ := m2 _ _ eR'.symm
              have eg : (g :: gs).reverse.map (fun g => V.ref g.a) = gs.reverse.map (fun g => V.ref g.a) ++ [.ref g.a] := by simp
              rw [eg] at ar4 ⊢
              refine ifF (by simp) ?_
              obtain ⟨dx4, n4, hA4, _⟩ := id R4
              refine ⟨_, rfl, r, dx4, _, rfl, hA4, rfl, r, z, [41, 32, 62, 32], _, _, rfl, (by decide +kernel), R4, fun l3 e3 H5 R5 s5 => ?_, fun e q => (ke _ (me _ q)).on R4 s4⟩
              have l3len : l3.length + 4 = l2.length := by rw [ndd_ok e3]; simp [cl4]
              have ar5 := keepR R4.rd s5 ar4
              obtain ⟨gnew, gat, gvals⟩ := each2 g List.mem_cons_self
              have gar : g.a ≠ ar := fun q => arfs (by rw [← q]; exact List.mem_cons_self)
              have ga2 := keepR ird.rd s2 gat
              have ga4 : H4 g.a = some (.lst (g.L.map (·.2))) := h1 _ _ (by rw [off3 _ gar]; exact ga2)
              have ga5 := keepR R4.rd s5 ga4
              have fg := few2 g List.mem_cons_self
              refine ⟨_, rfl, _, rfl, ar, _, _, _, rfl, rfl, SqL.of ar5, atI_last _ _, .inl ⟨rfl, _, SqL.of ga5⟩, _, rfl, g.a, _, _, rfl, rfl, ga5, (by rw [List.length_map]; exact Nat.lt_of_le_of_lt (m := 4000000) (by omega) (by decide)), ?_⟩
              have st5 := tups_del s5 R4.rd.ins
              have st6 : Same (tups H5) (tups (upd H5 g.a (.lst (g.L.map (·.2) ++ [kv])))) := tups_upd (ntup ga5)
              refine ⟨_, (by omega : l3.length < _), ⟨g.a, g.L ++ [(bld L' (.int (i : Int)), kv)]⟩, gs, l3, _, _, _, rfl, rfl, ?_⟩
              have ap4 := ap3
              rw [List.map_cons, List.nodup_cons] at ap4
              refine ⟨sameU (same_trans s4 s5) (del_none gnew), R5.put ga5, arnew, ?_, fun g' hg => ?_, ?_, ?_, fun g' hg => ?_, by rw [List.length_cons] at fwl; omega⟩
              · rw [upd_ne gar.symm, ar5]; simp
              · rcases List.mem_cons.mp hg with rfl | hg
                · refine ⟨gnew, by rw [upd_same, List.map_append]; rfl, fun p hp => ?_⟩
                  obtain q | q := List.mem_append.mp hp
                  · exact ((((gvals p q).same (tups_del s2 ird.rd.ins)).same st4).same st5).same st6
                  · rw [List.mem_singleton] at q
                    subst q
                    exact (h2.same st5).same st6
                · have gne : g'.a ≠ g.a := fun q => ap4.1 (List.mem_map.mpr ⟨g', hg, q⟩)
                  have gar' : g'.a ≠ ar := fun q => arfs (List.mem_cons_of_mem _ (List.mem_map.mpr ⟨g', hg, q⟩))
                  have fo := each2 g' (List.mem_cons_of_mem _ hg)
                  have f2 : FxOk K H H2 g' := fo.carry ird.rd s2 (same_refl _) rfl
                  have f4 : FxOk K H H4 g' := ⟨f2.1, h1 _ _ (by rw [off3 _ gar']; exact f2.2.1), fun p hp => (f2.2.2 p hp).same st4⟩
                  exact f4.carry R4.rd s5 st6 (upd_ne gne)
              · simp only [List.map_cons, List.nodup_cons, List.mem_cons, not_or]
                exact ⟨⟨gar.symm, fun q => arfs (List.mem_cons_of_mem _ q)⟩, ap4.1, ap4.2⟩
              · show MK ((g.L ++ [(bld L' (.int (i : Int)), kv)]).map (·.1) :: gs.map FrX.stk) l3 O
                rw [List.map_append]
                exact mo l3 e3
              · rcases List.mem_cons.mp hg with rfl | hg
                · show (g.L ++ [_]).length + l3.length ≤ _
                  (rw [List.length_append, List.length_singleton]; omega)
                · have := few2 g' (List.mem_cons_of_mem _ hg)
                  omega
end
end LG

set_option Elab.async false
set_option linter.all false
set_option maxRecDepth 100000
set_option maxHeartbeats 8100000
set_option pp.maxSteps 300
namespace LG
open PySem L2 TL
abbrev sRTake : Stmt := inClass (top 32) 9
abbrev sRProg : Stmt := inClass (top 32) 8
theorem Rt.inv {l : List Nat} {O : Ot (Str × Th)} (h : Rt l O) : (∀ e, rdN l = .err e → O = .err e) ∧ ∀ y l1, rdN l = .ok y l1 → (∀ e, ndd [58] l1 = (false, e) → O = .err e) ∧ ∀ l2, ndd [58] l1 = (true, l2) →
    ∃ O2, Rd false l2 O2 ∧ (∀ e, O2 = .err e → O = .err e) ∧ ∀ t l3, O2 = .ok t l3 → (∀ e, ndd [93, 32] l3 = (false, e) → O = .err e) ∧ ∀ l4, ndd [93, 32] l3 = (true, l4) → O = .ok (y, t) l4 := by
  cases h with
  | n h => exact ⟨fun e q => (by rw [h] at q; cases q; rfl), fun y l1 q => by rw [h] at q; cases q⟩
  | c h1 h2 => exact ⟨fun e q => (by rw [h1] at q; cases q), fun y l1 q => by
      rw [h1] at q; cases q
      exact ⟨fun e q => (by rw [h2] at q; cases q; rfl), fun l2 q => by rw [h2] at q; cases q⟩⟩
  | k h1 h2 h3 => exact ⟨fun e q => (by rw [h1] at q; cases q), fun y l1 q => by
      rw [h1] at q; cases q
      exact ⟨fun e q => (by rw [h2] at q; cases q), fun l2 q => by
        rw [h2] at q; cases q
        exact ⟨_, h3, fun e q => (by cases q; rfl), fun t l3 q => by cases q⟩⟩⟩
  | b h1 h2 h3 h4 => exact ⟨fun e q => (by rw [h1] at q; cases q), fun y l1 q => by
      rw [h1] at q; cases q
      exact ⟨fun e q => (by rw [h2] at q; cases q), fun l2 q => by
        rw [h2] at q; cases q
        exact ⟨_, h3, fun e q => (by cases q), fun t l3 q => by
          cases q
          exact ⟨fun e q => (by rw [h4] at q; cases q; rfl), fun l4 q => by rw [h4] at q; cases q⟩⟩⟩⟩
  | o h1 h2 h3 h4 => exact ⟨fun e q => (by rw [h1] at q; cases q), fun y l1 q => by
      rw [h1] at q; cases q
      exact ⟨fun e q => (by rw [h2] at q; cases q), fun l2 q => by
        rw [h2] at q; cases q
        exact ⟨_, h3, fun e q => (by cases q), fun t l3 q => by
          cases q
          exact ⟨fun e q => (by rw [h4] at q; cases q), fun l4 q => by rw [h4] at q; cases q; rfl⟩⟩⟩⟩
theorem Rt.kind {l l1 : List Nat} {y : Str} {t : Th} (h : Rt l (.ok (y, t) l1)) : rdN l = .ok y (l.drop (nmT l).length) ∧ ∃ p l2 l3, l = p ++ l2 ∧ Rd false l2 (.ok t l3) := by
  cases h with
  | o h1 h2 h3 h4 =>
    have e1 := h1
    unfold rdN at h1
    split at h1
    · cases h1
      refine ⟨e1, l.take (nmT l).length ++ [58], _, _, ?_, h3⟩
      rw [List.append_assoc, ← ndd_ok h2, List.take_append_drop]
    · cases h1
theorem mem_tw {p : Nat → Bool} : ∀ {l : List Nat} {d : Nat}, d ∈ l.takeWhile p → p d = true
  | c :: l, d, h => by
    rw [List.takeWhile_cons] at h
    split at h
    · rename_i q
      obtain rfl | h := List.mem_cons.mp h
      · exact q
      · exact mem_tw h
    · cases h
theorem rdN_name {l l1 : List Nat} {y : Str} (h : rdN l = .ok y l1) : nameB y = true := by
  unfold rdN at h
  split at h
  · rename_i il
    cases h
    obtain ⟨c, q, rfl, hc⟩ := isLt_iff.mp il
    have hcc : isC c = true := decide_eq_true hc
    have le : (nmT (c :: q)).length ≤ 8 := by
      unfold nmT
      exact Nat.le_trans (List.takeWhile_prefix _).length_le (by rw [List.length_take]; omega)
    have ne : nmT (c :: q) = c :: (q.take 7).takeWhile isC := by
      unfold nmT
      rw [show (8 : Nat) = 7 + 1 from rfl, List.take_succ_cons, List.takeWhile_cons, if_pos hcc]
    have al : ∀ d ∈ nmT (c :: q), isC d = true := fun d hd => by
      unfold nmT at hd
      exact mem_tw hd
    unfold nameB
    rw [Bool.and_eq_true]
    refine ⟨?_, List.all_eq_true.mpr fun d hd => ?_⟩
    · have : (mk (nmT (c :: q))).length = (nmT (c :: q)).length := mk_len
      rw [ne] at this le ⊢
      rw [List.length_cons] at this le
      simp [this]
      omega
    · have hd : d ∈ tl (mk (nmT (c :: q))) := hd
      rw [show tl (mk (nmT (c :: q))) = nmT (c :: q) from tl_mk _] at hd
      exact al d hd
  · cases h
theorem MP.inv0 {ws : List Wd} {bh : List Bool} {l : List Nat} {O : Ot (List Wd)} (h : MP false ws bh l O) :
    (∃ l', l = 40 :: l' ∧ MP false (ws ++ [.st "@"]) (false :: bh) l' O) ∨
    (∃ l' O2, l = 91 :: l' ∧ Rt l' O2 ∧ (∀ e, O2 = .err e → O = .err e) ∧ ∀ y t l1, O2 = .ok (y, t) l1 → MP false (ws ++ [.pr (some y) t]) bh l1 O) ∨
    (l.head? ≠ some 91 ∧ l.head? ≠ some 40 ∧ (∀ e, rdN l = .err e → O = .err e) ∧ ∀ y l1, rdN l = .ok y l1 → MP true (ws ++ [.st y]) bh l1 O) := by
  cases h with
  | us h => exact .inl ⟨_, rfl, h⟩
  | te h => exact .inr (.inl ⟨_, _, rfl, h, fun e q => (by cases q; rfl), fun _ _ _ q => by cases q⟩)
  | tk h k => exact .inr (.inl ⟨_, _, rfl, h, fun e q => (by cases q), fun _ _ _ q => by cases q; exact k⟩)
  | ne h1 h2 h3 => exact .inr (.inr ⟨h1, h2, fun e q => (by rw [h3] at q; cases q; rfl), fun _ _ q => by rw [h3] at q; cases q⟩)
  | nm h1 h2 h3 h4 => exact .inr (.inr ⟨h1, h2, fun e q => (by rw [h3] at q; cases q), fun _ _ q => by rw [h3] at q; cases q; exact h4⟩)
theorem MP.inv1 {ws : List Wd} {bh : List Bool} {l : List Nat} {O : Ot (List Wd)} (h : MP true ws bh l O) :
    (bh = [] → O = .ok ws l) ∧ (∀ b, bh = true :: b → (∀ e, ndd [41] l = (false, e) → O = .err e) ∧ ∀ l1, ndd [41] l = (true, l1) → MP true ws b l1 O) ∧
    (∀ b, bh = false :: b → (∀ e, ndd [32] l = (false, e) → O = .err e) ∧ ∀ l1, ndd [32] l = (true, l1) → MP false ws (true :: b) l1 O) := by
  cases h with
  | ce h => exact ⟨fun q => (by cases q), fun b q => (by cases q; exact ⟨fun e q => (by rw [h] at q; cases q; rfl), fun l1 q => by rw [h] at q; cases q⟩), fun b q => by cases q⟩
  | cl h k => exact ⟨fun q => (by cases q), fun b q => (by cases q; exact ⟨fun e q => (by rw [h] at q; cases q), fun l1 q => by rw [h] at q; cases q; exact k⟩), fun b q => by cases q⟩
  | en => exact ⟨fun _ => rfl, fun b q => (by cases q), fun b q => by cases q⟩
  | se h => exact ⟨fun q => (by cases q), fun b q => (by cases q), fun b q => (by cases q; exact ⟨fun e q => (by rw [h] at q; cases q; rfl), fun l1 q => by rw [h] at q; cases q⟩)⟩
  | sp h k => exact ⟨fun q => (by cases q), fun b q => (by cases q), fun b q => (by cases q; exact ⟨fun e q => (by rw [h] at q; cases q), fun l1 q => by rw [h] at q; cases q; exact k⟩)⟩
theorem rdN_len {l l1 : List Nat} {y : Str} (h : rdN l = .ok y l1) : l1.length < l.length := by
  have nb := rdN_name h
  unfold rdN at h
  split at h
  · cases h
    have := (name_len nb).1
    rw [show tl (mk (nmT l)) = nmT l from tl_mk _] at this
    have le : (nmT l).length ≤ l.length := Nat.le_trans (List.takeWhile_prefix _).length_le (by rw [List.length_take]; omega)
    rw [List.length_drop]; omega
  · cases h
theorem ndd_len {a l l2 : List Nat} (h : ndd a l = (true, l2)) : l.length = a.length + l2.length := by rw [ndd_ok h, List.length_append]
theorem rd_len {b : Bool} {l : List Nat} {o : Ot Th} (h : Rd b l o) : ∀ k l1, o = .ok k l1 → l1.length < l.length := by
  induction h with
  | lt hi => intro k l1 q; cases q; exact Nat.lt_succ_self _
  | g5 _ h2 _ h4 ih ih2 =>
    intro k l1 q; cases q
    have := ih _ _ rfl; have := ih2 _ _ rfl; have := ndd_len h2; have := ndd_len h4
    simp only [List.length_cons, List.length_nil] at *
    omega
  | k2 _ _ _ ih => exact ih
  | k5 _ _ h3 _ ih ih2 =>
    intro k l1 q; cases q
    have := ih _ _ rfl; have := ih2 _ _ rfl; have := ndd_len h3
    simp only [List.length_cons, List.length_nil] at *
    omega
  | _ => intro k l1 q; cases q
theorem rt_len {l l1 : List Nat} {x : Str × Th} (h : Rt l (.ok x l1)) : l1.length ≤ l.length := by
  cases h with
  | o h1 h2 h3 h4 =>
    have := rdN_len h1; have := ndd_len h2; have := rd_len h3 _ _ rfl; have := ndd_len h4
    simp only [List.length_cons, List.length_nil] at *
    omega
def spRTakeX (K : PySem.W.Frag) (CR CF : Addr) : Sp := fun vs H Q E => ∃ (r : Addr) (z : Str) (l : List Nat) (O : Ot (Str × Th)), vs = [.ref r] ∧ RzAt CR H r z (91 :: l) ∧ Rt l O ∧
  (∀ y t l1, O = .ok (y, t) l1 → ∀ a v H', RzAt CR H' r z l1 → Same (del H r) (del H' r) → H' a = some (.tup [.str y, v]) → ThAt K (tups H') t v → Q (.ref a) H') ∧ (∀ e, O = .err e → EbAt E CF H r z e)
def bv : Bool → V
  | true => .str ")"
  | false => .str " "
structure RqI (K : PySem.W.Frag) (CR : Addr) (H0 H : Hp) (r wl bl : Addr) (z : Str) (us : List V) (done : List Wd) (B : List Bool) (sg : List Nat) : Prop where
  same : Same (del H0 r) (del H r)
  rd : RzAt CR H r z sg
  wnew : H0 wl = none
  bnew : H0 bl = none
  wb : wl ≠ bl
  wo : H wl = some (.lst us)
  bo : H bl = some (.lst (B.reverse.map bv))
  wds : WdsAt K (tups H) done us
/-- the kinds that stand in the text are small -/
def SmK (z : Str) : Prop := ∀ p l2 t l3, tl z = p ++ l2 → Rd false l2 (.ok t l3) → t.size ≤ 10000
def spRProgX (K : PySem.W.Frag) (CR CF : Addr) : Sp := fun vs H Q E => ∃ (r : Addr) (z : Str) (O : Ot (List Wd)), vs = [.ref r] ∧ RzAt CR H r z (tl z) ∧ SmK z ∧ Rp (tl z) O ∧
  (∀ ws l1, O = .ok ws l1 → ∀ a us H', RzAt CR H' r z l1 → Same (del H r) (del H' r) → H' a = some (.tup us) → WdsAt K (tups H') ws us → Q (.ref a) H') ∧ (∀ e, O = .err e → EbAt E CF H r z e)
theorem WdsAt.snoc {K : PySem.W.Frag} {H : Hp} {ws : List Wd} {vs : List V} {w : Wd} {v : V} (h : WdsAt K H ws vs) (k : WdAt K H w v) : WdsAt K H (ws ++ [w]) (vs ++ [v]) := h.app (WdsAt.one k)
section
variable {K : PySem.W.Frag} {CR : Addr} {H0 H : Hp} {r wl bl : Addr} {z : Str} {us : List V} {done : List Wd} {B : List Bool} {sg : List Nat}
theorem ntupL {G : Hp} {b : Addr} {ys : List V} (e : G b = some (.lst ys)) : ∀ xs, G b ≠ some (.tup xs) := fun xs q => by rw [e] at q; cases q
theorem RqI.read (I : RqI K CR H0 H r wl bl z us done B sg) {H2 : Hp} {sg2 : List Nat} (s : Same (del H r) (del H2 r)) (R : RzAt CR H2 r z sg2) : RqI K CR H0 H2 r wl bl z us done B sg2 :=
  ⟨same_trans I.same s, R, I.wnew, I.bnew, I.wb, keepR I.rd.rd s I.wo, keepR I.rd.rd s I.bo, I.wds.same (tups_del s I.rd.rd.ins)⟩
theorem RqI.word (I : RqI K CR H0 H r wl bl z us done B sg) {w : Wd} {v : V} (h : WdAt K (tups H) w v) : RqI K CR H0 (upd H wl (.lst (us ++ [v]))) r wl bl z (us ++ [v]) (done ++ [w]) B sg :=
  ⟨sameU I.same (del_none I.wnew), I.rd.put I.wo, I.wnew, I.bnew, I.wb, upd_same, by rw [upd_ne I.wb.symm]; exact I.bo, (I.wds.snoc h).same (tups_upd (ntupL I.wo))⟩
theorem RqI.push (I : RqI K CR H0 H r wl bl z us done B sg) (b : Bool) : RqI K CR H0 (upd H bl (.lst (B.reverse.map bv ++ [bv b]))) r wl bl z us done (b :: B) sg :=
  ⟨sameU I.same (del_none I.bnew), I.rd.put I.bo, I.wnew, I.bnew, I.wb, by rw [upd_ne I.wb]; exact I.wo, by rw [upd_same, List.reverse_cons, List.map_append]; rfl, I.wds.same (tups_upd (ntupL I.bo))⟩
theorem RqI.pop {b : Bool} (I : RqI K CR H0 H r wl bl z us done (b :: B) sg) : RqI K CR H0 (upd H bl (.lst (B.reverse.map bv))) r wl bl z us done B sg :=
  ⟨sameU I.same (del_none I.bnew), I.rd.put I.bo, I.wnew, I.bnew, I.wb, by rw [upd_ne I.wb]; exact I.wo, upd_same, I.wds.same (tups_upd (ntupL I.bo))⟩
end
def RqW (K : PySem.W.Frag) (CR : Addr) (H0 : Hp) (r wl bl : Addr) (z : Str) (O : Ot (List Wd)) : Nat → St → Hp → Prop := fun m σ H' => ∃ (us : List V) (done : List Wd) (B : List Bool) (l : List Nat), m = l.length ∧ σ = [some (.ref r), some (.ref wl), some (.ref bl)] ∧ RqI K CR H0 H' r wl bl z us done B l ∧ MP false done B l O ∧ done.length + l.length ≤ 4000000 ∧ B.length + l.length ≤ 4000000
section
variable {P : Program} {w : World} {K : PySem.W.Frag} {mg : Str → Option Value} {base : Heap} {CR CF f0 fG fI fN fE fL fM fK fP fT fF : Addr} {fd0 fdG fdI fdN fdE fdL fdM fdK fdP fdT fdF : FuncData} {sP sT : Stmt}
theorem scRTake : FnScope ["self", "name", "kind"] ["self"] (defScope sRTake) := ⟨rfl, rfl, rfl, by decide +kernel, rfl, by decide +kernel, by decide +kernel⟩
theorem ok_rtakeX (RX : RdX K mg CR CF f0 fG fI fN fE fL fM fK fP fT fF fd0 fdG fdI fdN fdE fdL fdM fdK fdP fdT fdF sRKind sP sRTake) (T : TxB mg) (T2 : TxD mg) (TN : TxN mg) : FnOk P w K mg base (L2.CX P w) 5 fT fdT ["self"] (spRTakeX K CR CF) := by
  have RF := RX.F
  have R := RF.R
  have GN : FnOk P w K mg base (L2.CX P w) 3 fN fdN ["self", "signs"] (spRNeedX CR CF) := ok_rneedX RX.B RF.FN RF.FG RF.bG RF.mG T R
  have GM : FnOk P w K mg base (L2.CX P w) 4 fM fdM ["self"] (spRNameX CR CF) := ok_rnameX RX.B RF.FM RF.FL RF.bL RF.mL RF.FI RF.bI RF.mI T TN R
  have GK : FnOk P w K mg base (L2.CX P w) 4 fK fdK ["self"] (spRKindX K CR CF) := ok_rkindX RX T T2 TN
  refine RF.FT.okX scRTake (fun vs H Q E h => ?_) (fun cdv A outer s H vs Q E hr h => ?_)
  · obtain ⟨_, _, _, _, rfl, _⟩ := h
    rfl
  · obtain ⟨r, z, l, O, rfl, hR, hd, kq, ke⟩ := h
    have nd := scRTake.nd
    have hr3 := hr.mono (show 3 ≤ 4 by decide)
    refine ⟨_, pss_cons (ps_expr (pe_meth (pv 0) R.cl RF.mN GN hr3 RF.bN .nil (passes_call (takes_of rfl rfl rfl rfl) fun _ _ _ _ h => h) (pa_cons pe_str pa_nil)))
    (pss_cons (ps_set (i := 1) nd rfl (Or.inl rfl) (pe_meth0 (pv 0) R.cl RF.mM GM hr RF.bM .nil (passes_call (takes_of rfl rfl rfl rfl) fun _ _ _ _ h => h)))
    (pss_cons (ps_expr (pe_meth (pv 0) R.cl RF.mN GN hr3 RF.bN .nil (passes_call (takes_of rfl rfl rfl rfl) fun _ _ _ _ h => h) (pa_cons pe_str pa_nil)))
    (pss_cons (ps_set (i := 2) nd rfl (Or.inl rfl) (pe_meth0 (pv 0) R.cl RF.mK GK hr RF.bK .nil (passes_call (takes_of rfl rfl rfl rfl) fun _ _ _ _ h => h)))
    (pss_cons (ps_expr (pe_meth (pv 0) R.cl RF.mN GN hr3 RF.bN .nil (passes_call (takes_of rfl rfl rfl rfl) fun _ _ _ _ h => h) (pa_cons pe_str pa_nil)))
    (pss_one (ps_ret (pe_tup (pa_cons (pv 1) (pa_cons (pv 2) pa_nil))))))))), ?_⟩
    obtain ⟨v1, v2⟩ := hd.inv
    obtain ⟨dx, n0, hA, _⟩ := id hR
    refine ⟨_, rfl, r, dx, _, rfl, hA, rfl, r, z, [91], _, _, rfl, (by decide +kernel), hR, fun lx ex H1 R1 s1 => ?_, fun ex q => (by cases q)⟩
    obtain rfl : l = lx := by cases ex; rfl
    obtain ⟨dx1, n1, hA1, _⟩ := id R1
    refine ⟨_, rfl, r, dx1, _, rfl, hA1, rfl, r, z, l, rfl, R1, fun y l1 e1 H2 R2 s2 => ?_, fun e q => (ke _ (v1 _ q)).on R1 s1⟩
    obtain ⟨v3, v4⟩ := v2 _ _ e1
    have s12 := same_trans s1 s2
    obtain ⟨dx2, n2, hA2, _⟩ := id R2
    refine ⟨_, rfl, r, dx2, _, rfl, hA2, rfl, r, z, [58], _, _, rfl, (by decide +kernel), R2, fun l2 e2 H3 R3 s3 => ?_, fun e q => (ke _ (v3 _ q)).on R2 s12⟩
    obtain ⟨O2, rd2, v5, v6⟩ := v4 _ e2
    have s13 := same_trans s12 s3
    obtain ⟨dx3, n3, hA3, _⟩ := id R3
    refine ⟨_, rfl, r, dx3, _, rfl, hA3, rfl, r, z, l2, O2, rfl, R3, rd2, fun t l3 e3 v H4 R4 s4 tv => ?_, fun e q => (ke _ (v5 _ q)).on R3 s13⟩
    obtain ⟨v7, v8⟩ := v6 _ _ e3
    have s14 := same_trans s13 s4
    obtain ⟨dx4, n4, hA4, _⟩ := id R4
    refine ⟨_, rfl, r, dx4, _, rfl, hA4, rfl, r, z, [93, 32], _, _, rfl, (by decide +kernel), R4, fun l4 e4 H5 R5 s5 => ?_, fun e q => (ke _ (v7 _ q)).on R4 s14⟩
    refine ⟨_, rfl, _, rfl, (by show 2 ≤ sizeLine; decide), fun p np => ?_⟩
    have k6 := same_new (o := .tup [.str y, v]) (same_refl H5) np
    exact kq y t l4 (v8 _ e4) p v _ (R5.same k6) (same_trans (same_trans s14 s5) (del_same_of k6)) upd_same ((tv.same (tups_del s5 R4.rd.ins)).same (tups_mono k6))
theorem scRProg : FnScope ["self", "words", "behind"] ["self"] (defScope sRProg) := ⟨rfl, rfl, rfl, by decide +kernel, rfl, by decide +kernel, by decide +kernel⟩
theorem ok_rprogX (RX : RdX K mg CR CF f0 fG fI fN fE fL fM fK fP fT fF fd0 fdG fdI fdN fdE fdL fdM fdK fdP fdT fdF sRKind sRProg sRTake) (hu : ∃ u, mg "USE" = some (.str "@" u)) (T : TxB mg) (T2 : TxD mg) (TN : TxN mg) : FnOk P w K mg base (L2.CX P w) 6 fP fdP ["self"] (spRProgX K CR CF) := by
  have RF := RX.F
  have R := RF.R
  have GG : FnOk P w K mg base CX0 1 fG fdG ["self", "sign"] (spRGoes K CR) := ok_rgoes RF.FG T R
  have GN : FnOk P w K mg base (L2.CX P w) 3 fN fdN ["self", "signs"] (spRNeedX CR CF) := ok_rneedX RX.B RF.FN RF.FG RF.bG RF.mG T R
  have GM : FnOk P w K mg base (L2.CX P w) 4 fM fdM ["self"] (spRNameX CR CF) := ok_rnameX RX.B RF.FM RF.FL RF.bL RF.mL RF.FI RF.bI RF.mI T TN R
  have GT : FnOk P w K mg base (L2.CX P w) 5 fT fdT ["self"] (spRTakeX K CR CF) := ok_rtakeX RX T T2 TN
  obtain ⟨uU, hU⟩ := hu
  refine RF.FP.okX scRProg (fun vs H Q E h => ?_) (fun cdv A outer s H vs Q E hr h => ?_)
  · obtain ⟨_, _, _, rfl, _⟩ := h
    rfl
  · obtain ⟨r, z, O, rfl, hR, hS, hd, kq, ke⟩ := h
    have nd := scRProg.nd
    have hr1 := hr.mono (show 1 ≤ 5 by decide)
    have hr3 := hr.mono (show 3 ≤ 5 by decide)
    have hr4 := hr.mono (show 4 ≤ 5 by decide)
    refine ⟨_, pss_cons (ps_set (i := 1) nd rfl (Or.inl rfl) (pe_lst pa_nil))
    (pss_cons (ps_set (i := 2) nd rfl (Or.inl rfl) (pe_lst pa_nil))
    (pss_one (ps_while (passes_of rfl) (pt_val pe_bl)
        (pss_cons (ps_if (pt_val (pe_meth (pv 0) R.cl RF.mG GG hr1 RF.bG .nil pass0 (pa_cons pe_str pa_nil)))
            (pss_cons (ps_expr (pe_meth (pv 0) R.cl RF.mN GN hr3 RF.bN .nil (passes_call (takes_of rfl rfl rfl rfl) fun _ _ _ _ h => h) (pa_cons pe_str pa_nil)))
            (pss_cons (ps_expr (pe_bm PySem.F.plainAttrs_list PySem.F.slot_list_append PySem.F.type_list_append mt_append (pv 1) (pa_cons (pe_glob (v := .str "@") (by rfl) hU ⟨_, rfl⟩) pa_nil)))
            (pss_cons (ps_expr (pe_bm PySem.F.plainAttrs_list PySem.F.slot_list_append PySem.F.type_list_append mt_append (pv 2) (pa_cons pe_str pa_nil)))
            (pss_one ps_continue))))
            pss_nil)
        (pss_cons (ps_if (pt_val (pe_meth (pv 0) R.cl RF.mG GG hr1 RF.bG .nil pass0 (pa_cons pe_str pa_nil)))
            (pss_cons (ps_expr (pe_bm PySem.F.plainAttrs_list PySem.F.slot_list_append PySem.F.type_list_append mt_append (pv 1) (pa_cons (pe_meth0 (pv 0) R.cl RF.mT GT hr RF.bT .nil (passes_call (takes_of rfl rfl rfl rfl) fun _ _ _ _ h => h)) pa_nil)))
            (pss_one ps_continue))
            pss_nil)
        (pss_cons (ps_expr (pe_bm PySem.F.plainAttrs_list PySem.F.slot_list_append PySem.F.type_list_append mt_append (pv 1) (pa_cons (pe_meth0 (pv 0) R.cl RF.mM GM hr4 RF.bM .nil (passes_call (takes_of rfl rfl rfl rfl) fun _ _ _ _ h => h)) pa_nil)))
        (Evl.pss_cut (ps_while (passes_of rfl) (PW.pt (pw_and (pt_truth (pv 2) (by intro _; rfl)) (pw_and1 (pt_cmpR op_eq (pe_ix ix_list (pv 2) (pe_un un_neg pe_int) (fun _ _ => rfl)) pe_str (nomark _)))))
            (pss_one (ps_expr (pe_meth (pv 0) R.cl RF.mN GN hr3 RF.bN .nil (passes_call (takes_of rfl rfl rfl rfl) fun _ _ _ _ h => h) (pa_cons (pe_bm0 PySem.F.plainAttrs_list PySem.F.slot_list_pop PySem.F.type_list_pop mt_pop (pv 2)) pa_nil)))))
        (pss_cons (ps_if (pt_not (pt_truth (pv 2) (by intro _; rfl)))
            (pss_one (ps_ret (pe_callTy call_tuple_of (by rfl) T2.tuple (by decide +kernel) (pa_cons (pv 1) pa_nil))))
            pss_nil)
        (pss_cons (ps_expr (pe_meth (pv 0) R.cl RF.mN GN hr3 RF.bN .nil (passes_call (takes_of rfl rfl rfl rfl) fun _ _ _ _ h => h) (pa_cons (pe_bm0 PySem.F.plainAttrs_list PySem.F.slot_list_pop PySem.F.type_list_pop mt_pop (pv 2)) pa_nil)))
        (pss_one (ps_expr (pe_bm PySem.F.plainAttrs_list PySem.F.slot_list_append PySem.F.type_list_append mt_append (pv 2) (pa_cons pe_str pa_nil))))))))))))), ?_⟩
    refine ⟨(by show 0 ≤ sizeLine; decide), fun wl nwl => ?_⟩
    have s0 := same_new (o := .lst []) (same_refl H) nwl
    refine ⟨(by show 0 ≤ sizeLine; decide), fun bl nbl => ?_⟩
    have wb : wl ≠ bl := ne_of_none upd_same nbl
    have nbl0 : H bl = none := same_none s0 nbl
    have s1 := same_new (o := .lst []) s0 nbl
    have e0 : upd (upd H wl (.lst [])) bl (.lst []) wl = some (.lst []) := by rw [upd_ne wb]; exact upd_same
    have e1 : upd (upd H wl (.lst [])) bl (.lst []) bl = some (.lst []) := upd_same
    generalize upd (upd H wl (.lst [])) bl (.lst []) = H1 at s1 e0 e1
    have rlen := hR.rd.len
    refine ⟨RqW K CR H r wl bl z O, ⟨_, [], [], [], _, rfl, rfl, ⟨del_same_of s1, hR.same s1, nwl, nbl0, wb, e0, e1, WdsAt.nil⟩, hd.mp, by simpa using rlen, by simpa using rlen⟩, ?_⟩
    rintro m σ H' ⟨us, done, B, l, rfl, rfl, I, run, dlen, blen2⟩
    refine ⟨_, rfl, ?_⟩
    refine ifT rfl ?_
    refine ⟨fun σ'' H'' => ∃ m', m' < l.length ∧ RqW K CR H r wl bl z O m' σ'' H'', fun σ'' H'' z => z, ?_⟩
    have ird := I.rd
    have same0 := I.same
    obtain ⟨dx, n0, hA, edrop, _⟩ := id ird
    have lens := ird.rd.len
    have ulen : us.length = done.length := I.wds.1
    have room : us.length < sizeLine := Nat.lt_of_le_of_lt (m := 4000000) (by omega) (by decide)
    have broom : (B.reverse.map bv).length < sizeLine := by rw [List.length_map, List.length_reverse]; exact Nat.lt_of_le_of_lt (m := 4000000) (by omega) (by decide)
    rcases run.inv0 with ⟨l', rfl, run2⟩ | ⟨l', O2, rfl, rt, te, tk⟩ | ⟨h91, h40, ne, nm⟩
    · rw [List.length_cons] at dlen blen2 ⊢
      refine ⟨_, rfl, r, dx, _, rfl, hA, rfl, r, _, 40, _, rfl, (by decide +kernel), ird.rd, _, rfl, ?_⟩
      refine ifT rfl ?_
      refine ⟨_, rfl, r, dx, _, rfl, hA, rfl, r, z, [40], _, _, rfl, (by decide +kernel), ird, fun lx ex H2 R2 s2 => ?_, fun ex q => (by cases q)⟩
      obtain rfl : l' = lx := by cases ex; rfl
      have I2 := I.read s2 R2
      refine ⟨_, rfl, .inl ⟨rfl, _, SqL.of I2.wo⟩, wl, _, _, rfl, rfl, I2.wo, room, ?_⟩
      have I3 := I2.word (w := .st "@") (v := .str "@") WdAt.us
      refine ⟨_, rfl, .inl ⟨rfl, _, SqL.of I3.bo⟩, bl, _, _, rfl, rfl, I3.bo, broom, ?_⟩
      have I4 := I3.push false
      exact ⟨_, Nat.lt_succ_self _, us ++ [V.str "@"], done ++ [Wd.st "@"], false :: B, _, rfl, rfl, I4, run2, by rw [List.length_append, List.length_singleton]; omega, by rw [List.length_cons]; omega⟩
    · rw [List.length_cons] at dlen blen2 ⊢
      refine ⟨_, rfl, r, dx, _, rfl, hA, rfl, r, _, 40, _, rfl, (by decide +kernel), ird.rd, _, rfl, ?_⟩
      refine ifF rfl ?_
      refine ⟨_, rfl, r, dx, _, rfl, hA, rfl, r, _, 91, _, rfl, (by decide +kernel), ird.rd, _, rfl, ?_⟩
      refine ifT rfl ?_
      refine ⟨_, rfl, .inl ⟨rfl, _, SqL.of I.wo⟩, _, rfl, r, dx, _, rfl, hA, rfl, r, z, l', O2, rfl, ird, rt, fun y t l1 e1 p v H2 R2 s2 hp hy => ?_, fun e q => (ke _ (te _ q)).on ird same0⟩
      have I2 := I.read s2 R2
      refine ⟨wl, _, _, rfl, rfl, I2.wo, room, ?_⟩
      rw [e1] at rt
      obtain ⟨en, pp, l2, l3, el, rk⟩ := rt.kind
      have sz : t.size ≤ 10000 := hS ((tl z).take n0 ++ 91 :: pp) l2 t l3 (by
        have := List.take_append_drop n0 (tl z)
        rw [edrop, el] at this
        exact this.symm.trans (by simp)) rk
      have I3 := I2.word (w := .pr (some y) t) (v := .ref p) (WdAt.tk (rdN_name en) (tups_of hp) hy sz)
      have l1len : l1.length ≤ l'.length := rt_len rt
      exact ⟨_, (by omega : l1.length < _), us ++ [.ref p], done ++ [.pr (some y) t], B, l1, rfl, rfl, I3, tk _ _ _ e1, by rw [List.length_append, List.length_singleton]; omega, by omega⟩
    · refine ⟨_, rfl, r, dx, _, rfl, hA, rfl, r, _, 40, _, rfl, (by decide +kernel), ird.rd, _, rfl, ?_⟩
      refine ifF (decide_eq_false h40) ?_
      refine ⟨_, rfl, r, dx, _, rfl, hA, rfl, r, _, 91, _, rfl, (by decide +kernel), ird.rd, _, rfl, ?_⟩
      refine ifF (decide_eq_false h91) ?_
      refine ⟨_, rfl, .inl ⟨rfl, _, SqL.of I.wo⟩, _, rfl, r, dx, _, rfl, hA, rfl, r, z, _, rfl, ird, fun y l1 e1 H2 R2 s2 => ?_, fun e q => (ke _ (ne _ q)).on ird same0⟩
      have I2 := I.read s2 R2
      refine ⟨wl, _, _, rfl, rfl, I2.wo, room, ?_⟩
      have I3 := I2.word (w := .st y) (v := .str y) (WdAt.nm (rdN_name e1))
      have run3 := nm _ _ e1
      have l1len : l1.length < l.length := rdN_len e1
      have dlen3 : (done ++ [Wd.st y]).length + l1.length ≤ 4000000 := by rw [List.length_append, List.length_singleton]; omega
      generalize upd H2 wl (.lst (us ++ [.str y])) = H3 at I3
      generalize us ++ [V.str y] = us3 at I3
      generalize done ++ [Wd.st y] = done3 at I3 run3 dlen3
      -- all brackets that close here
      refine ⟨fun σ'' H'' => ∃ B2 l2, σ'' = [some (.ref r), some (.ref wl), some (.ref bl)] ∧ RqI K CR H H'' r wl bl z us3 done3 B2 l2 ∧ MP true done3 B2 l2 O ∧ l2.length ≤ l1.length ∧ B2.length ≤ B.length ∧ (B2 = [] ∨ ∃ B3, B2 = false :: B3), ?_, ?_⟩
      · refine ⟨fun m σ'' H'' => ∃ B2 l2, m = B2.length ∧ σ'' = [some (.ref r), some (.ref wl), some (.ref bl)] ∧ RqI K CR H H'' r wl bl z us3 done3 B2 l2 ∧ MP true done3 B2 l2 O ∧ l2.length ≤ l1.length ∧ B2.length ≤ B.length, ⟨_, B, l1, rfl, rfl, I3, run3, Nat.le_refl _, Nat.le_refl _⟩, ?_⟩
        rintro m σ H4 ⟨B2, l2, rfl, rfl, I4, run4, ll4, bl4⟩
        refine ⟨_, rfl, _, .inl ⟨_, SqL.of I4.bo, rfl⟩, ?_⟩
        cases B2 with
        | nil =>
          refine ifF rfl ?_
          refine ifF rfl ?_
          exact ⟨[], l2, rfl, I4, run4, ll4, Nat.zero_le _, .inl rfl⟩
        | cons b B3 =>
          have bo4 := I4.bo
          rw [List.reverse_cons, List.map_append] at bo4
          refine ifT (by simp) ?_
          cases b with
          | false =>
            refine ⟨_, rfl, _, rfl, bl, _, _, V.str " ", rfl, rfl, SqL.of bo4, atI_last _ _, rfl, _, rfl, ?_⟩
            refine ifF (by decide +kernel) ?_
            exact ⟨false :: B3, l2, rfl, I4, run4, ll4, bl4, .inr ⟨B3, rfl⟩⟩
          | true =>
            refine ⟨_, rfl, _, rfl, bl, _, _, V.str ")", rfl, rfl, SqL.of bo4, atI_last _ _, rfl, _, rfl, ?_⟩
            refine ifT (by decide +kernel) ?_
            refine ⟨fun σ'' H'' => ∃ m', m' < B3.length + 1 ∧ ∃ B2 l2, m' = B2.length ∧ σ'' = [some (.ref r), some (.ref wl), some (.ref bl)] ∧ RqI K CR H H'' r wl bl z us3 done3 B2 l2 ∧ MP true done3 B2 l2 O ∧ l2.length ≤ l1.length ∧ B2.length ≤ B.length, fun σ'' H'' z => z, ?_⟩
            obtain ⟨dx4, n4, hA4, _⟩ := id I4.rd
            have I5 := I4.pop
            obtain ⟨ce, cl⟩ := run4.inv1.2.1 B3 rfl
            refine ⟨_, rfl, r, dx4, _, rfl, hA4, rfl, _, rfl, .inl ⟨rfl, _, SqL.of bo4⟩, bl, _, .str ")", rfl, rfl, bo4, (by simp [bv]), ?_⟩
            rw [show List.map bv [true] = [V.str ")"] from rfl, List.dropLast_concat]
            refine ⟨r, z, [41], _, _, rfl, (by decide +kernel), I5.rd, fun l6 e6 H6 R6 s6 => ?_, fun e q => (ke _ (ce _ q)).on I5.rd I5.same⟩
            have ll6 : l6.length + 1 = l2.length := by rw [ndd_ok e6]; simp
            refine ⟨_, Nat.lt_succ_self _, B3, l6, rfl, rfl, I5.read s6 R6, cl _ e6, by omega, ?_⟩
            rw [List.length_cons] at bl4
            omega
      · rintro _ H4 ⟨B2, l2, rfl, I4, run4, ll4, bl4, q⟩
        rcases q with rfl | ⟨B3, rfl⟩
        · refine ⟨_, rfl, _, .inl ⟨_, SqL.of I4.bo, rfl⟩, ?_⟩
          refine ifT rfl ?_
          refine ⟨_, rfl, wl, _, rfl, .inl ⟨SqL.of I4.wo, fun p np => ?_⟩⟩
          have k5 := same_new (o := .tup us3) (same_refl H4) np
          exact kq _ _ (run4.inv1.1 rfl) p us3 _ (I4.rd.same k5) (same_trans I4.same (del_same_of k5)) upd_same (I4.wds.same (tups_mono k5))
        · have bo4 := I4.bo
          rw [List.reverse_cons, List.map_append] at bo4
          refine ⟨_, rfl, _, .inl ⟨_, SqL.of bo4, rfl⟩, ?_⟩
          refine ifF (by simp) ?_
          obtain ⟨dx4, n4, hA4, _⟩ := id I4.rd
          obtain ⟨se, sp⟩ := run4.inv1.2.2 B3 rfl
          have I5 := I4.pop
          refine ⟨_, rfl, r, dx4, _, rfl, hA4, rfl, _, rfl, .inl ⟨rfl, _, SqL.of bo4⟩, bl, _, .str " ", rfl, rfl, bo4, (by simp [bv]), ?_⟩
          rw [show List.map bv [false] = [V.str " "] from rfl, List.dropLast_concat]
          refine ⟨r, z, [32], _, _, rfl, (by decide +kernel), I5.rd, fun l6 e6 H6 R6 s6 => ?_, fun e q => (ke _ (se _ q)).on I5.rd I5.same⟩
          have ll6 : l6.length + 1 = l2.length := by rw [ndd_ok e6]; simp
          rw [List.length_cons] at bl4
          have I6 := I5.read s6 R6
          refine ⟨_, rfl, .inl ⟨rfl, _, SqL.of I6.bo⟩, bl, _, _, rfl, rfl, I6.bo, (by rw [List.length_map, List.length_reverse]; exact Nat.lt_of_le_of_lt (m := 4000000) (by omega) (by decide)), ?_⟩
          have I7 := I6.push true
          exact ⟨_, (by omega : l6.length < l.length), us3, done3, true :: B3, l6, rfl, rfl, I7, sp _ e6, by omega, by rw [List.length_cons]; omega⟩
end
end LG

set_option Elab.async false
set_option linter.all false
set_option maxRecDepth 100000
set_option maxHeartbeats 8100000
set_option pp.maxSteps 300
namespace LG
open PySem L2 TL
abbrev sKOf : Stmt := top 30
abbrev sPOf : Stmt := top 31
abbrev sRdK : Stmt := top 28
abbrev sRdP : Stmt := top 29
abbrev sIsProg : Stmt := top 25
theorem upd_del2 {H G : Hp} {x : Addr} {o : HO} (s : Same G (del H x)) : Same G (del (upd H x o) x) := fun b u e => by
  have q := s b u e
  by_cases hb : b = x
  · rw [hb, del_same] at q; cases q
  · rw [del_ne hb] at q ⊢; rw [upd_ne hb]; exact q
/-- what a text comes to: a thing, or the place of the first wrong sign -/
def fin {α : Type} (z : Str) : Ot α → α ⊕ Int
  | .ok a [] => .inl a
  | .ok _ (c :: q) => .inr (((tl z).length : Int) - ((c :: q).length : Int))
  | .err e => .inr (((tl z).length : Int) - (e.length : Int))
def NoSt (K : PySem.W.Frag) (H : Hp) (v : V) : Prop := ∃ tv, TyX K H v tv ∧ PySem.W.kitOne K tv (.type "str") = some false
def Ebx (E : XK) (CF : Addr) (H : Hp) (i : Int) : Prop := ∀ d H', H d = none → H' d = some (.xd [(("index" : Str), V.int i)]) → Same H H' → E (.ref CF) (some d) H'
def KIn (K : PySem.W.Frag) (H : Hp) (v : V) (F : Th ⊕ Int) : Prop := (∃ z O, v = .str z ∧ (tl z).length ≤ 4000000 ∧ Rd false (tl z) O ∧ F = fin z O) ∨ (NoSt K H v ∧ F = .inr (-1))
def PIn (K : PySem.W.Frag) (H : Hp) (v : V) (F : List Wd ⊕ Int) : Prop := (∃ z O, v = .str z ∧ (tl z).length ≤ 4000000 ∧ SmK z ∧ Rp (tl z) O ∧ F = fin z O) ∨ (NoSt K H v ∧ F = .inr (-1))
def spKOfX (K : PySem.W.Frag) (CF : Addr) : Sp := fun vs H Q E => ∃ (v : V) (F : Th ⊕ Int), vs = [v] ∧ KIn K H v F ∧ (∀ k, F = .inl k → ∀ u H', Same H H' → ThAt K (tups H') k u → Q u H') ∧ (∀ i, F = .inr i → Ebx E CF H i)
def spPOfX (K : PySem.W.Frag) (CF : Addr) : Sp := fun vs H Q E => ∃ (v : V) (F : List Wd ⊕ Int), vs = [v] ∧ PIn K H v F ∧ (∀ ws, F = .inl ws → ∀ a us H', Same H H' → H' a = some (.tup us) → WdsAt K (tups H') ws us → Q (.ref a) H') ∧ (∀ i, F = .inr i → Ebx E CF H i)
def spRdKX (K : PySem.W.Frag) (CF : Addr) : Sp := fun vs H Q E => ∃ (v : V) (F : Th ⊕ Int), vs = [v] ∧ KIn K H v F ∧ (∀ k, F = .inl k → k.isKind = true ∧ k.size ≤ 10000) ∧ (∀ k, F = .inl k → ∀ u H', Same H H' → ThAt K (tups H') k u → Q u H') ∧ (∀ i, F = .inr i → Ebx E CF H i)
def spRdPX (K : PySem.W.Frag) (CF : Addr) : Sp := fun vs H Q E => ∃ (v : V) (F : List Wd ⊕ Int), vs = [v] ∧ PIn K H v F ∧ (∀ ws, F = .inl ws → progB Th.isKind ws = true ∧ ws.length ≤ 400) ∧ (∀ ws, F = .inl ws → ∀ a us H', Same H H' → H' a = some (.tup us) → WdsAt K (tups H') ws us → Q (.ref a) H') ∧ (∀ i, F = .inr i → Ebx E CF H i)
def spIsProg (K : PySem.W.Frag) : Sp := fun vs H Q _ => ∃ (v : V) (ws : List Wd), vs = [v] ∧ PgAt K H ws v ∧ ws.length ≤ 400 ∧ ∀ H', Same H H' → Q (.bl (progB Th.isKind ws)) H'
theorem ebx_at {E : XK} {CF CR : Addr} {H H1 : Hp} {x : Addr} {z : Str} {e l : List Nat} (R : RzAt CR H1 x z l) (sA : Same H (del H1 x)) (k : Ebx E CF H (((tl z).length : Int) - (e.length : Int))) : EbAt E CF H1 x z e := fun d H' hd hx s => by
  have dx : d ≠ x := fun q => R.some (by rw [← q]; exact hd)
  refine k d H' ?_ hx (same_trans sA (same_trans s del_le))
  cases e2 : H d with
  | none => rfl
  | some o =>
    have := sA d o e2
    rw [del_ne dx, hd] at this
    cases this
section
variable {P : Program} {w : World} {K : PySem.W.Frag} {mg : Str → Option Value} {base : Heap} {CR CF f0 fG fI fN fE fL fM fK fP fT fF : Addr} {fd0 fdG fdI fdN fdE fdL fdM fdK fdP fdT fdF : FuncData}
theorem scKOf : FnScope ["text", "reading", "kind"] ["text"] (defScope sKOf) := ⟨rfl, rfl, rfl, by decide +kernel, rfl, by decide +kernel, by decide +kernel⟩
theorem ok_kofX {f : Addr} {fd : FuncData} (F : Fn K mg "kind_of_text" sKOf ["text"] f fd) (RX : RdX K mg CR CF f0 fG fI fN fE fL fM fK fP fT fF fd0 fdG fdI fdN fdE fdL fdM fdK fdP fdT fdF sRKind sRProg sRTake) (hs : ∃ u, mg "NO_STRING" = some (.int (-1) u)) (T : TxB mg) (T2 : TxD mg) (TN : TxN mg) : FnOk P w K mg base (L2.CX P w) 5 f fd ["text"] (spKOfX K CF) := by
  have RF := RX.F
  have R := RF.R
  have G0 : FnOk P w K mg base (L2.CX P w) 3 f0 fd0 ["self", "text"] (spRInitX K CR CF) := ok_rinitX RX.B hs RF.F0 T T2 R
  have GE : FnOk P w K mg base (L2.CX P w) 3 fE fdE ["self"] (spREndX CR CF) := ok_rendX RX.B RF.FE T R
  have GK : FnOk P w K mg base (L2.CX P w) 4 fK fdK ["self"] (spRKindX K CR CF) := ok_rkindX RX T T2 TN
  refine F.F.okX scKOf (fun vs H Q E h => ?_) (fun cdv A outer s H vs Q E hr h => ?_)
  · obtain ⟨_, _, rfl, _⟩ := h
    rfl
  · obtain ⟨v, FF, rfl, hin, kq, ke⟩ := h
    have nd := scKOf.nd
    have hr3 := hr.mono (show 3 ≤ 4 by decide)
    refine ⟨_, pss_cons (ps_set (i := 1) nd rfl (Or.inl rfl) (pe_make RF.Mm G0 hr (by rfl) RF.m RF.b0 .nil (passes_call (takes_of rfl rfl rfl rfl) fun _ _ _ _ h => h) (pa_cons (pv 0) pa_nil)))
    (pss_cons (ps_set (i := 2) nd rfl (Or.inl rfl) (pe_meth0 (pv 1) R.cl RF.mK GK hr RF.bK .nil (passes_call (takes_of rfl rfl rfl rfl) fun _ _ _ _ h => h)))
    (pss_cons (ps_expr (pe_meth0 (pv 1) R.cl RF.mE GE hr3 RF.bE .nil (passes_call (takes_of rfl rfl rfl rfl) fun _ _ _ _ h => h)))
    (pss_one (ps_ret (pv 2))))), ?_⟩
    refine ⟨_, rfl, fun x dx hx hdx nd' => ?_⟩
    have s0 : Same H (del (upd (upd H dx (.own x)) x (.ins CR dx [])) x) := upd_del2 (fun b o e => by rw [del_ne (ne_of_none e hx), upd_ne (ne_of_none e hdx)]; exact e)
    have sH : Same H (upd (upd H dx (.own x)) x (.ins CR dx [])) := same_trans s0 del_le
    refine ⟨x, dx, v, rfl, upd_same, ?_⟩
    rcases hin with ⟨z, O, rfl, hl, hd, eF⟩ | ⟨⟨tv, ty, kt⟩, eF⟩
    · refine .inl ⟨z, rfl, hl, fun H1 R1 s1 => ⟨rfl, ?_⟩⟩
      obtain ⟨dx1, n1, hA1, _⟩ := id R1
      have sA := same_trans s0 s1
      refine ⟨_, rfl, x, dx1, _, rfl, hA1, rfl, x, z, _, O, rfl, R1, hd, fun k l1 eO u H2 R2 s2 tv => ?_, fun e eO => ebx_at R1 sA (ke _ (by rw [eF, eO]; rfl))⟩
      obtain ⟨dx2, n2, hA2, _⟩ := id R2
      have sB := same_trans sA s2
      refine ⟨_, rfl, x, dx2, _, rfl, hA2, rfl, x, z, l1, rfl, R2, fun e1 => ?_, fun ne => ebx_at R2 sB (ke _ ?_)⟩
      · exact ⟨_, rfl, kq k (by rw [eF, eO, e1]; rfl) u H2 (same_trans sB del_le) tv⟩
      · rw [eF, eO]
        cases l1 with
        | nil => exact absurd rfl ne
        | cons c q => rfl
    · refine .inr ⟨⟨tv, tyx_same sH ty, kt⟩, fun d H' hd hx' s => ?_⟩
      exact ke _ eF d H' (same_none sH hd) hx' (same_trans s0 (same_trans s del_le))
theorem scPOf : FnScope ["text", "reading", "program"] ["text"] (defScope sPOf) := ⟨rfl, rfl, rfl, by decide +kernel, rfl, by decide +kernel, by decide +kernel⟩
theorem ok_pofX {f : Addr} {fd : FuncData} (F : Fn K mg "program_of_text" sPOf ["text"] f fd) (RX : RdX K mg CR CF f0 fG fI fN fE fL fM fK fP fT fF fd0 fdG fdI fdN fdE fdL fdM fdK fdP fdT fdF sRKind sRProg sRTake) (hs : ∃ u, mg "NO_STRING" = some (.int (-1) u)) (hu : ∃ u, mg "USE" = some (.str "@" u)) (T : TxB mg) (T2 : TxD mg) (TN : TxN mg) : FnOk P w K mg base (L2.CX P w) 7 f fd ["text"] (spPOfX K CF) := by
  have RF := RX.F
  have R := RF.R
  have G0 : FnOk P w K mg base (L2.CX P w) 3 f0 fd0 ["self", "text"] (spRInitX K CR CF) := ok_rinitX RX.B hs RF.F0 T T2 R
  have GE : FnOk P w K mg base (L2.CX P w) 3 fE fdE ["self"] (spREndX CR CF) := ok_rendX RX.B RF.FE T R
  have GK : FnOk P w K mg base (L2.CX P w) 6 fP fdP ["self"] (spRProgX K CR CF) := ok_rprogX RX hu T T2 TN
  refine F.F.okX scPOf (fun vs H Q E h => ?_) (fun cdv A outer s H vs Q E hr h => ?_)
  · obtain ⟨_, _, rfl, _⟩ := h
    rfl
  · obtain ⟨v, FF, rfl, hin, kq, ke⟩ := h
    have nd := scPOf.nd
    have hr3 := hr.mono (show 3 ≤ 6 by decide)
    have hr4 := hr.mono (show 4 ≤ 6 by decide)
    refine ⟨_, pss_cons (ps_set (i := 1) nd rfl (Or.inl rfl) (pe_make RF.Mm G0 hr4 (by rfl) RF.m RF.b0 .nil (passes_call (takes_of rfl rfl rfl rfl) fun _ _ _ _ h => h) (pa_cons (pv 0) pa_nil)))
    (pss_cons (ps_set (i := 2) nd rfl (Or.inl rfl) (pe_meth0 (pv 1) R.cl RF.mP GK hr RF.bP .nil (passes_call (takes_of rfl rfl rfl rfl) fun _ _ _ _ h => h)))
    (pss_cons (ps_expr (pe_meth0 (pv 1) R.cl RF.mE GE hr3 RF.bE .nil (passes_call (takes_of rfl rfl rfl rfl) fun _ _ _ _ h => h)))
    (pss_one (ps_ret (pv 2))))), ?_⟩
    refine ⟨_, rfl, fun x dx hx hdx nd' => ?_⟩
    have s0 : Same H (del (upd (upd H dx (.own x)) x (.ins CR dx [])) x) := upd_del2 (fun b o e => by rw [del_ne (ne_of_none e hx), upd_ne (ne_of_none e hdx)]; exact e)
    have sH : Same H (upd (upd H dx (.own x)) x (.ins CR dx [])) := same_trans s0 del_le
    refine ⟨x, dx, v, rfl, upd_same, ?_⟩
    rcases hin with ⟨z, O, rfl, hl, hS, hd, eF⟩ | ⟨⟨tv, ty, kt⟩, eF⟩
    · refine .inl ⟨z, rfl, hl, fun H1 R1 s1 => ⟨rfl, ?_⟩⟩
      obtain ⟨dx1, n1, hA1, _⟩ := id R1
      have sA := same_trans s0 s1
      refine ⟨_, rfl, x, dx1, _, rfl, hA1, rfl, x, z, O, rfl, R1, hS, hd, fun ws l1 eO a us H2 R2 s2 ha hw => ?_, fun e eO => ebx_at R1 sA (ke _ (by rw [eF, eO]; rfl))⟩
      obtain ⟨dx2, n2, hA2, _⟩ := id R2
      have sB := same_trans sA s2
      refine ⟨_, rfl, x, dx2, _, rfl, hA2, rfl, x, z, l1, rfl, R2, fun e1 => ?_, fun ne => ebx_at R2 sB (ke _ ?_)⟩
      · exact ⟨_, rfl, kq ws (by rw [eF, eO, e1]; rfl) a us H2 (same_trans sB del_le) ha hw⟩
      · rw [eF, eO]
        cases l1 with
        | nil => exact absurd rfl ne
        | cons c q => rfl
    · refine .inr ⟨⟨tv, tyx_same sH ty, kt⟩, fun d H' hd hx' s => ?_⟩
      exact ke _ eF d H' (same_none sH hd) hx' (same_trans s0 (same_trans s del_le))
theorem scRdK : FnScope ["text", "kind"] ["text"] (defScope sRdK) := ⟨rfl, rfl, rfl, by decide +kernel, rfl, by decide +kernel, by decide +kernel⟩
theorem ok_rdkX {f fO fL f1 f2 fQ fX : Addr} {fd fdO fd1 fd2 fdQ fdX : FuncData} (F : Fn K mg "read_kind" sRdK ["text"] f fd) (NO : Fn K mg "kind_of_text" sKOf ["text"] fO fdO) (GO : FnOk P w K mg base (L2.CX P w) 5 fO fdO ["text"] (spKOfX K CF))
    (NX : Fn K mg "is_kind" sKind ["thing"] fX fdX) {gL : Addr} {gdL : FuncData} (NL : Fn K mg "is_letter" sLetter ["thing"] gL gdL) (N2 : Fn K mg "is_integer_within" sWithin ["low", "high", "thing"] f2 fd2) (N1 : Fn K mg "is_integer" sInteger ["thing"] f1 fd1) (NP : Fn K mg "is_pair" sPair ["thing"] fQ fdQ)
    (T : TxB mg) (T2 : TxK mg) (T3 : TxKK mg) : FnOk P w K mg base (L2.CX P w) 6 f fd ["text"] (spRdKX K CF) := by
  have GX : FnOk P w K mg base CX0 4 fX fdX ["thing"] (spKind K) := ok_kind NX NL N2 N1 NP T T2 T3
  refine F.F.okX scRdK (fun vs H Q E h => ?_) (fun cdv A outer s H vs Q E hr h => ?_)
  · obtain ⟨_, _, rfl, _⟩ := h
    rfl
  · obtain ⟨v, FF, rfl, hin, hk, kq, ke⟩ := h
    have nd := scRdK.nd
    have hr4 := hr.mono (show 4 ≤ 5 by decide)
    refine ⟨_, pss_cons (ps_set (i := 1) nd rfl (Or.inl rfl) (pe_callS GO hr (by rfl) NO.m NO.F.kp NO.b (fun σ => passAt (takes_of rfl rfl rfl rfl) σ) (pa_cons (pv 0) pa_nil)))
    (pss_cons (ps_if (pt_not (pt_val (pe_call GX hr4 (by rfl) NX.m NX.F.kp NX.b .nil pass0 (pa_cons (pv 1) pa_nil))))
        pss_never
        pss_nil)
    (pss_one (ps_ret (pv 1)))), ?_⟩
    refine ⟨_, rfl, v, FF, rfl, hin, fun k e u H1 s1 tv => ?_, fun i e => ke i e⟩
    obtain ⟨ik, hz⟩ := hk k e
    refine ⟨_, rfl, u, k, rfl, tv.same tups_le, hz, fun H2 s2 => ⟨_, rfl, ?_⟩⟩
    rw [ik]
    refine ifF rfl ?_
    exact ⟨_, rfl, kq k e u H2 (same_trans s1 s2) (tv.same (tups_mono s2))⟩
theorem scIsProg : FnScope ["thing"] ["thing"] (defScope sIsProg) := ⟨rfl, rfl, rfl, by decide +kernel, rfl, by decide +kernel, by decide +kernel⟩
theorem ok_isprog {f fA fF fQ fNm gM f1 f2 gL : Addr} {fd fdA fdF fdQ fdNm gdM fd1 fd2 gdL : FuncData} (F : Fn K mg "is_program" sIsProg ["thing"] f fd) (NM : Fn K mg "is_made_of_words" sMade ["thing", "is_fit"] gM gdM) (NF : Fn K mg "_is_fit_take" sFit ["word", "is_fit"] fF fdF) (NP : Fn K mg "is_pair" sPair ["thing"] fQ fdQ) (NN : Fn K mg "is_name" sName ["thing"] fNm fdNm)
    (NX : Fn K mg "is_kind" sKind ["thing"] fA fdA) (NL : Fn K mg "is_letter" sLetter ["thing"] gL gdL) (N2 : Fn K mg "is_integer_within" sWithin ["low", "high", "thing"] f2 fd2) (N1 : Fn K mg "is_integer" sInteger ["thing"] f1 fd1)
    (hm : ∃ u, mg "MOST_WORDS" = some (.int 400 u)) (hu : ∃ u, mg "USE" = some (.str "@" u)) (T : TxB mg) (T2 : TxK mg) (T3 : TxKK mg) (TN : TxN mg) : FnOk P w K mg base CX0 7 f fd ["thing"] (spIsProg K) := by
  have GA : FnOk P w K mg base CX0 4 fA fdA ["thing"] (spFitF K Th.isKind) := ok_kind NX NL N2 N1 NP T T2 T3
  have GM : FnOk P w K mg base CX0 6 gM gdM ["thing", "is_fit"] (spMade K fA Th.isKind) := ok_made NM NF NP NN GA NX.F.kp NX.b (by decide) hu T T2 TN
  obtain ⟨u4, h4⟩ := hm
  refine F.F.ok scIsProg (fun vs H Q E h => ?_) (fun cdv A outer s H vs Q E hr h => ?_)
  · obtain ⟨_, _, rfl, _⟩ := h
    rfl
  · obtain ⟨v, ws, rfl, hv, hl, kq⟩ := h
    obtain ⟨a, us, rfl, ha, hw, _⟩ := id hv
    refine ⟨_, pss_cons (ps_if (PW.pt (pw_or (pt_not (pt_val (pe_callB call_isi (by rfl) T.isinstance (by decide +kernel) (pa_cons (pv 0) (pa_cons (pe_bltn (v := .ty "tuple") (by rfl) T2.tuple (by decide +kernel) rfl) pa_nil))))) (pw_or1 (pt_cmpR op_gt (pe_callB call_len_seq (by rfl) T.len PySem.boot_len (pa_cons (pv 0) pa_nil)) (pe_glob (v := .int 400) (by rfl) h4 ⟨_, rfl⟩) (nomark _)))))
        (pss_one (ps_ret pe_bl))
        pss_nil)
    (pss_one (ps_ret (pe_call GM hr (by rfl) NM.m NM.F.kp NM.b .nil pass0 (pa_cons (pv 0) (pa_cons (pe_glob (v := .ref fA) (by rfl) NX.m rfl) pa_nil))))), ?_⟩
    refine ⟨_, rfl, _, _, _, _, _, rfl, .ty _, .base (.tup ha), kit_ty (r := true) (by decide +kernel), _, rfl, ?_⟩
    refine ifF rfl ?_
    refine ⟨_, rfl, _, _, rfl, .inr (SqT.of ha), _, _, rfl, rfl, _, rfl, ?_⟩
    refine ifF (decide_eq_false (by rw [hw.1]; omega)) ?_
    exact ⟨_, rfl, _, ws, rfl, hv, kq⟩
theorem scRdP : FnScope ["text", "program"] ["text"] (defScope sRdP) := ⟨rfl, rfl, rfl, by decide +kernel, rfl, by decide +kernel, by decide +kernel⟩
theorem ok_rdpX {f fO fX : Addr} {fd fdO fdX : FuncData} (F : Fn K mg "read_program" sRdP ["text"] f fd) (NO : Fn K mg "program_of_text" sPOf ["text"] fO fdO) (GO : FnOk P w K mg base (L2.CX P w) 7 fO fdO ["text"] (spPOfX K CF)) (NX : Fn K mg "is_program" sIsProg ["thing"] fX fdX) (GX : FnOk P w K mg base CX0 7 fX fdX ["thing"] (spIsProg K)) : FnOk P w K mg base (L2.CX P w) 8 f fd ["text"] (spRdPX K CF) := by
  refine F.F.okX scRdP (fun vs H Q E h => ?_) (fun cdv A outer s H vs Q E hr h => ?_)
  · obtain ⟨_, _, rfl, _⟩ := h
    rfl
  · obtain ⟨v, FF, rfl, hin, hk, kq, ke⟩ := h
    have nd := scRdP.nd
    refine ⟨_, pss_cons (ps_set (i := 1) nd rfl (Or.inl rfl) (pe_callS GO hr (by rfl) NO.m NO.F.kp NO.b (fun σ => passAt (takes_of rfl rfl rfl rfl) σ) (pa_cons (pv 0) pa_nil)))
    (pss_cons (ps_if (pt_not (pt_val (pe_call GX hr (by rfl) NX.m NX.F.kp NX.b .nil pass0 (pa_cons (pv 1) pa_nil))))
        pss_never
        pss_nil)
    (pss_one (ps_ret (pv 1)))), ?_⟩
    refine ⟨_, rfl, v, FF, rfl, hin, fun ws e a us H1 s1 ha hw => ?_, fun i e => ke i e⟩
    obtain ⟨pk, h4⟩ := hk ws e
    refine ⟨_, rfl, _, ws, rfl, ⟨a, us, rfl, ha, hw.same tups_le, by omega⟩, h4, fun H2 s2 => ⟨_, rfl, ?_⟩⟩
    rw [pk]
    refine ifF rfl ?_
    exact ⟨_, rfl, kq ws e a us H2 (same_trans s1 s2) (s2 _ _ ha) (hw.same (tups_mono s2))⟩
end
end LG

set_option Elab.async false
set_option linter.all false
set_option maxRecDepth 100000
set_option maxHeartbeats 4100000
namespace LG
open PySem L2 TL
abbrev sLKT : Stmt := top 48
abbrev sLTx : Stmt := top 49
theorem letters_size : ∀ t : Th, t.letters ≤ t.size
  | .int _ => Nat.le_refl _
  | .pr l r => by
    have a := letters_size l
    have b := letters_size r
    show l.letters + r.letters ≤ l.size + r.size + 1
    omega
  | .bl _ => Nat.zero_le _
  | .non => Nat.zero_le _
  | .tup => Nat.zero_le _
theorem ok_deep : ∀ {t : Th} {m : Nat}, t.any = true → t.depth ≤ m → t.ok m = true
  | .int i, m, a, _ => (Th.ok_of_letter (m := m) a).1
  | .pr l r, 0, _, d => by
    have d : max l.depth r.depth + 1 ≤ 0 := d
    omega
  | .pr l r, m + 1, a, d => by
    obtain ⟨a1, a2⟩ := any_pr a
    have d : max l.depth r.depth + 1 ≤ m + 1 := d
    rw [Th.ok_pr, ok_deep a1 (by omega), ok_deep a2 (by omega)]; rfl
  | .bl _, _, a, _ => by cases a
  | .non, _, a, _ => by cases a
  | .tup, _, a, _ => by cases a
theorem isKind_of {t : Th} (a : t.any = true) (d : t.depth ≤ 30) (l : t.letters ≤ 60) : t.isKind = true := by
  unfold Th.isKind
  rw [ok_deep a d, decide_eq_true l]; rfl
/-- a kind's type: a tuple just if it is a pair -/
theorem th_tup {K : PySem.W.Frag} {H : Hp} {t : Th} {v : V} (a : t.any = true) (h : ThAt K H t v) : ∃ tv, TyX K H v tv ∧ PySem.W.kitOne K tv (.type "tuple") = some t.isPr := by
  cases t with
  | int i =>
    have e : v = .int i := h
    subst e
    exact ⟨_, .base (.int i), kit_ty (r := false) (by decide +kernel)⟩
  | pr l r =>
    obtain ⟨p, x, y, rfl, hp, _⟩ := h
    exact ⟨_, .base (.tup hp), kit_ty (r := true) (by decide +kernel)⟩
  | bl b => cases a
  | non => cases a
  | tup => cases a
def spLKT (K : PySem.W.Frag) (d : Nat) : Sp := fun vs H Q _ => ∃ (v : V) (t : Th), vs = [v] ∧ ThAt K H t v ∧ t.any = true ∧ t.depth ≤ d ∧ t.size ≤ 10000 ∧ Q (.str (mk (kL t))) H
theorem str_app {a b : Str} {l m : List Nat} (ha : tl a = l) (hb : tl b = m) : tl (a ++ b) = l ++ m := by rw [tl_append, ha, hb]
theorem str_len {a : Str} {l : List Nat} (h : tl a = l) : a.length = l.length := by rw [← tl_len, h]
section
variable {P : Program} {w : World} {K : PySem.W.Frag} {mg : Str → Option Value} {base : Heap}
theorem scLKT : FnScope ["_law_kind_here", "_law_left"] ["_law_kind_here"] (defScope sLKT) := ⟨rfl, rfl, rfl, by decide +kernel, rfl, by decide +kernel, by decide +kernel⟩
theorem ok_lkt1 {f : Addr} {fd : FuncData} {n d : Nat} {spR : Sp} (F : Fn K mg "_law_kind_text" sLKT ["_law_kind_here"] f fd) (G : FnOk P w K mg base CX0 n f fd ["_law_kind_here"] spR) (hG : ∀ d', d = d' + 1 → spR = spLKT K d') (T : TxB mg) (T2 : TxD mg) : FnOk P w K mg base CX0 (n + 1) f fd ["_law_kind_here"] (spLKT K d) := by
  refine F.F.ok scLKT (fun vs H Q E h => ?_) (fun cdv A outer s H vs Q E hr h => ?_)
  · obtain ⟨_, _, rfl, _⟩ := h
    rfl
  · obtain ⟨v, t, rfl, hv, ha, hd, hz, kq⟩ := h
    have nd := scLKT.nd
    refine ⟨_, pss_cons (ps_if (pt_not (pt_val (pe_callB call_isi (by rfl) T.isinstance (by decide +kernel) (pa_cons (pv 0) (pa_cons (pe_bltn (v := .ty "tuple") (by rfl) T2.tuple (by decide +kernel) rfl) pa_nil)))))
        (pss_one (ps_ret (pe_ix ix_str pe_str (pv 0) (fun _ _ => rfl))))
        pss_nil)
    (pss_cons (ps_set (i := 1) nd rfl (Or.inl rfl) (pe_call G hr (by rfl) F.m F.F.kp F.b .nil pass0 (pa_cons (pe_ix ix_tup (pv 0) pe_int (fun _ _ => rfl)) pa_nil)))
    (Evl.pss_cut (ps_if (pt_val (pe_callB call_isi (by rfl) T.isinstance (by decide +kernel) (pa_cons (pe_ix ix_tup (pv 0) pe_int (fun _ _ => rfl)) (pa_cons (pe_bltn (v := .ty "tuple") (by rfl) T2.tuple (by decide +kernel) rfl) pa_nil))))
        (pss_one (ps_set (i := 1) nd rfl (Or.inl rfl) (pe_op op_add_str (pe_op op_add_str pe_str (pv 1)) pe_str)))
        pss_nil)
    (pss_one (ps_ret (pe_op op_add_str (pe_op op_add_str (pv 1) pe_str) (pe_call G hr (by rfl) F.m F.F.kp F.b .nil pass0 (pa_cons (pe_ix ix_tup (pv 0) pe_int (fun _ _ => rfl)) pa_nil))))))), ?_⟩
    obtain ⟨tv, ty, kt⟩ := th_tup ha hv
    refine ⟨_, rfl, _, _, _, _, _, rfl, .ty _, ty, kt, _, rfl, ?_⟩
    cases hp : t.isPr with
    | false =>
      refine ifT rfl ?_
      obtain ⟨i, rfl, hi⟩ := any_int ha hp
      have e : v = .int (i : Int) := hv
      subst e
      refine ⟨_, rfl, letters, _, 97 + i, rfl, rfl, (by show 26 ≤ sizeLine; decide), atI_nat (letters_at hi), ?_⟩
      have := kq
      rw [show kL (.int (i : Int)) = [97 + i] from by show [97 + (i : Int).toNat] = _; rw [Int.toNat_natCast]] at this
      exact this
    | true =>
      refine ifF rfl ?_
      obtain ⟨l, r, rfl⟩ := pr_of hp
      obtain ⟨al, ar⟩ := any_pr ha
      obtain ⟨pa, x, y, rfl, hpa, tx, ty'⟩ := id hv
      have hd : max l.depth r.depth + 1 ≤ d := hd
      have hz : l.size + r.size + 1 ≤ 10000 := hz
      obtain ⟨d', rfl⟩ : ∃ d', d = d' + 1 := ⟨d - 1, by omega⟩
      refine ⟨_, rfl, pa, _, _, x, rfl, rfl, SqT.of hpa, rfl, ?_⟩
      have sp : spR = spLKT K d' := hG d' rfl
      rw [sp]
      refine ⟨x, l, rfl, tx, al, by omega, by omega, ?_⟩
      have ll := kL_len l
      have lr := kL_len r
      refine ⟨fun σ' H' => ∃ y : Str, σ' = [some (.ref pa), some (.str y)] ∧ tl y = (if l.isPr = true then 40 :: (kL l ++ [41]) else kL l) ∧ H' = H, ?_, ?_⟩
      · obtain ⟨tv2, ty2, kt2⟩ := th_tup al tx
        refine ⟨_, rfl, pa, _, _, x, rfl, rfl, SqT.of hpa, rfl, _, _, _, _, _, rfl, .ty _, ty2, kt2, _, rfl, ?_⟩
        cases hl : l.isPr with
        | true =>
          refine ifT rfl ?_
          have l1 : (("(" : Str)).length = 1 := by decide +kernel
          have l2 : ((")" : Str)).length = 1 := by decide +kernel
          have e1 : tl ("(" : Str) = [40] := by decide +kernel
          have e2 : tl (")" : Str) = [41] := by decide +kernel
          refine ⟨_, rfl, _, _, rfl, rfl, big2 (by rw [l1, mk_len]; omega), _, _, rfl, rfl, big2 (by rw [str_len (str_app e1 tl_mk'), l2, List.length_append]; show 1 + _ + 1 ≤ _; omega), _, rfl, ?_, rfl⟩
          rw [str_app (str_app e1 tl_mk') e2, if_pos rfl]; rfl
        | false =>
          refine ifF rfl ?_
          exact ⟨_, rfl, by rw [if_neg Bool.false_ne_true]; rfl, rfl⟩
      · rintro _ H9 ⟨y', rfl, ey, eH⟩
        rw [eH]
        have e3 : tl (" > " : Str) = [32, 62, 32] := by decide +kernel
        have yl : y'.length ≤ 60010 := by
          rw [str_len ey]
          split
          · simp only [List.length_cons, List.length_append, List.length_nil]; omega
          · omega
        have l3 : ((" > " : Str)).length = 3 := by decide +kernel
        refine ⟨_, rfl, _, _, rfl, rfl, big2 (by omega), _, rfl, pa, _, _, y, rfl, rfl, SqT.of hpa, rfl, ?_⟩
        refine ⟨y, r, rfl, ty', ar, by omega, by omega, _, _, rfl, rfl, big2 (by rw [str_len (str_app ey e3), mk_len, List.length_append, ← ey, tl_len]; show y'.length + 3 + _ ≤ _; omega), ?_⟩
        have e4 : y' ++ (" > " : Str) ++ mk (kL r) = mk (kL (.pr l r)) := by
          refine ext_tl ?_
          rw [str_app (str_app ey e3) tl_mk', tl_mk', List.append_assoc]
          rfl
        rw [e4]
        exact kq
theorem ok_lkt {f : Addr} {fd : FuncData} (F : Fn K mg "_law_kind_text" sLKT ["_law_kind_here"] f fd) (T : TxB mg) (T2 : TxD mg) : ∀ d : Nat, FnOk P w K mg base CX0 (d + 2) f fd ["_law_kind_here"] (spLKT K d) := by
  have G0 : FnOk P w K mg base CX0 1 f fd ["_law_kind_here"] (fun _ _ _ _ => False) := F.F.ok scLKT (fun vs H Q E h => False.elim h) (fun cdv A outer s H vs Q E hr h => False.elim h)
  intro d
  induction d with
  | zero => exact ok_lkt1 F G0 (fun d' e => by omega) T T2
  | succ d ih =>
    refine ok_lkt1 F ih (fun d' e => ?_) T T2
    have q : d' = d := by omega
    rw [q]
end
end LG

set_option Elab.async false
set_option linter.all false
set_option maxRecDepth 100000
set_option maxHeartbeats 4100000
namespace LG
open PySem L2 TL
/-- a program in one -/
inductive Part : Tm → Tm → Prop where
  | me (t) : Part t t
  | ofF {f a x} : Part x f → Part x (.us f a)
  | ofA {f a x} : Part x a → Part x (.us f a)
  | ofB {z t b x} : Part x b → Part x (.tk z t b)
theorem Part.ok : ∀ {x t : Tm}, Part x t → t.ok → x.ok
  | _, _, .me t, h => h
  | _, _, .ofF p, h => p.ok h.1
  | _, _, .ofA p, h => p.ok h.2
  | _, _, .ofB p, h => p.ok h.2.2
theorem Part.fit {n : Nat} : ∀ {x t : Tm}, Part x t → t.fit n → x.fit n
  | _, _, .me t, h => h
  | _, _, .ofF p, h => p.fit h.1
  | _, _, .ofA p, h => p.fit h.2
  | _, _, .ofB p, h => p.fit h.2
theorem subs : ∀ {t : Tm} {p : Nat}, p < t.ws.length → ∃ x, SubT t.ws p x ∧ Part x t
  | .nm z, p, h => by
    have : p = 0 := by have h : p < 1 := h; omega
    subst this
    exact ⟨.nm z, ⟨[], rfl⟩, .me _⟩
  | .us f a, p, h => by
    have h : p < (f.ws ++ a.ws).length + 1 := h
    cases p with
    | zero => exact ⟨.us f a, ⟨[], by rw [List.append_nil]; rfl⟩, .me _⟩
    | succ p =>
      rw [List.length_append] at h
      rcases Nat.lt_or_ge p f.ws.length with lt | ge
      · obtain ⟨x, ⟨r, e⟩, q⟩ := subs (t := f) lt
        refine ⟨x, ⟨r ++ a.ws, ?_⟩, .ofF q⟩
        show (f.ws ++ a.ws).drop p = _
        rw [List.drop_append_of_le_length (Nat.le_of_lt lt), e, List.append_assoc]
      · obtain ⟨x, ⟨r, e⟩, q⟩ := subs (t := a) (p := p - f.ws.length) (by omega)
        refine ⟨x, ⟨r, ?_⟩, .ofA q⟩
        show (f.ws ++ a.ws).drop p = _
        rw [List.drop_append, List.drop_eq_nil_of_le ge, List.nil_append, e]
  | .tk z t b, p, h => by
    have h : p < b.ws.length + 1 := h
    cases p with
    | zero => exact ⟨.tk z t b, ⟨[], by rw [List.append_nil]; rfl⟩, .me _⟩
    | succ p =>
      obtain ⟨x, ⟨r, e⟩, q⟩ := subs (t := b) (p := p) (by omega)
      exact ⟨x, ⟨r, e⟩, .ofB q⟩
/-- kinds nested at most so deep -/
def Tm.dep (d : Nat) : Tm → Prop
  | .nm _ => True
  | .us f a => f.dep d ∧ a.dep d
  | .tk _ t b => t.depth ≤ d ∧ b.dep d
theorem Part.dep {n : Nat} : ∀ {x t : Tm}, Part x t → t.dep n → x.dep n
  | _, _, .me t, h => h
  | _, _, .ofF p, h => p.dep h.1
  | _, _, .ofA p, h => p.dep h.2
  | _, _, .ofB p, h => p.dep h.2
theorem Part.len : ∀ {x t : Tm}, Part x t → x.ws.length ≤ t.ws.length
  | _, _, .me t => Nat.le_refl _
  | _, .us f a, .ofF p => by
    have := p.len
    show _ ≤ (f.ws ++ a.ws).length + 1
    rw [List.length_append]; omega
  | _, .us f a, .ofA p => by
    have := p.len
    show _ ≤ (f.ws ++ a.ws).length + 1
    rw [List.length_append]; omega
  | _, .tk _ _ b, .ofB p => by
    have := p.len
    show _ ≤ b.ws.length + 1
    omega
theorem Part.trans : ∀ {x y t : Tm}, Part x y → Part y t → Part x t
  | _, _, _, p, .me _ => p
  | _, _, _, p, .ofF q => .ofF (p.trans q)
  | _, _, _, p, .ofA q => .ofA (p.trans q)
  | _, _, _, p, .ofB q => .ofB (p.trans q)
/-- one text at a place has one program -/
theorem SubT.one {ws : List Wd} {p : Nat} {x y : Tm} (hx : SubT ws p x) (hy : SubT ws p y) (kx : x.ok) (ky : y.ok) : x = y := by
  obtain ⟨r, e⟩ := hx
  obtain ⟨q, e2⟩ := hy
  rw [e] at e2
  clear e ws p
  induction x generalizing y r q with
  | nm z =>
    cases y with
    | nm z' => have e2 : Wd.st z :: r = Wd.st z' :: q := e2
               injection e2 with e2 _; injection e2 with e2; rw [e2]
    | us f a => have e2 : Wd.st z :: r = Wd.st "@" :: ((f.ws ++ a.ws) ++ q) := e2
                injection e2 with e2 _; injection e2 with e2; exact absurd e2 (nm_ne kx)
    | tk z' t b => have e2 : Wd.st z :: r = Wd.pr (some z') t :: (b.ws ++ q) := e2
                   injection e2 with e2 _; cases e2
  | us f a ihf iha =>
    cases y with
    | nm z => have e2 : Wd.st "@" :: ((f.ws ++ a.ws) ++ r) = Wd.st z :: q := e2
              injection e2 with e2 _; injection e2 with e2; exact absurd e2.symm (nm_ne ky)
    | us f' a' =>
      have e2 : Wd.st "@" :: ((f.ws ++ a.ws) ++ r) = Wd.st "@" :: ((f'.ws ++ a'.ws) ++ q) := e2
      injection e2 with _ e2
      rw [List.append_assoc, List.append_assoc] at e2
      have ef := ihf kx.1 ky.1 _ _ e2
      subst ef
      have e3 := List.append_cancel_left e2
      have ea := iha kx.2 ky.2 _ _ e3
      rw [ea]
    | tk z' t b => have e2 : Wd.st "@" :: ((f.ws ++ a.ws) ++ r) = Wd.pr (some z') t :: (b.ws ++ q) := e2
                   injection e2 with e2 _; cases e2
  | tk z t b ih =>
    cases y with
    | nm z' => have e2 : Wd.pr (some z) t :: (b.ws ++ r) = Wd.st z' :: q := e2
               injection e2 with e2 _; cases e2
    | us f a => have e2 : Wd.pr (some z) t :: (b.ws ++ r) = Wd.st "@" :: ((f.ws ++ a.ws) ++ q) := e2
                injection e2 with e2 _; cases e2
    | tk z' t' b' =>
      have e2 : Wd.pr (some z) t :: (b.ws ++ r) = Wd.pr (some z') t' :: (b'.ws ++ q) := e2
      injection e2 with e1 e2
      injection e1 with e0 e1
      injection e0 with e0
      rw [e0, e1, ih kx.2.2 ky.2.2 _ _ e2]
def spLTx (K : PySem.W.Frag) (d : Nat) : Sp := fun vs H Q _ => ∃ (v : V) (t : Tm), vs = [v] ∧ PgAt K H t.ws v ∧ t.ok ∧ t.dep d ∧ t.ws.length ≤ 60 ∧ ∀ H', Same H H' → Q (.str (mk t.tx)) H'
/-- texts told from behind -/
def TxF (ws : List Wd) (t : Tm) (k : Nat) (xs : List Str) : Prop := xs.length = ws.length ∧ ∀ j x, k ≤ j → SubT ws j x → Part x t → xs[j]? = some (mk x.tx)
section
variable {P : Program} {w : World} {K : PySem.W.Frag} {mg : Str → Option Value} {base : Heap}
theorem scLTx : FnScope ["_law_words", "_law_spans_here", "_law_texts", "_law_place", "_law_word"] ["_law_words"] (defScope sLTx) := ⟨rfl, rfl, rfl, by decide +kernel, rfl, by decide +kernel, by decide +kernel⟩
theorem ok_ltx {f fS fX : Addr} {fd fdS fdX : FuncData} {d : Nat} (F : Fn K mg "_law_text" sLTx ["_law_words"] f fd) (NS : Fn K mg "_law_spans" sSpans ["_law_words"] fS fdS) (NX : Fn K mg "_law_kind_text" sLKT ["_law_kind_here"] fX fdX) (T : TxB mg) (T2 : TxD mg) : FnOk P w K mg base CX0 (d + 3) f fd ["_law_words"] (spLTx K d) := by
  have GS : FnOk P w K mg base CX0 1 fS fdS ["_law_words"] (spEnds K) := ok_spans NS T T2
  have GX : FnOk P w K mg base CX0 (d + 2) fX fdX ["_law_kind_here"] (spLKT K d) := ok_lkt NX T T2 d
  refine F.F.ok scLTx (fun vs H Q E h => ?_) (fun cdv A outer s H vs Q E hr h => ?_)
  · obtain ⟨_, _, rfl, _⟩ := h
    rfl
  · obtain ⟨v, t, rfl, hv, tk, td, hl, kq⟩ := h
    have nd := scLTx.nd
    have hr1 := hr.mono (show 1 ≤ d + 2 by omega)
    have hone := Tm.one tk
    have wh := hone.whole
    have wk := hone.woks
    refine ⟨_, pss_cons (ps_set (i := 1) nd rfl (Or.inl rfl) (pe_call GS hr1 (by rfl) NS.m NS.F.kp NS.b .nil pass0 (pa_cons (pv 0) pa_nil)))
    (pss_cons (ps_set (i := 2) nd rfl (Or.inl rfl) (pe_op op_rep (pe_lst (pa_cons pe_str pa_nil)) (pe_callB call_len_seq (by rfl) T.len PySem.boot_len (pa_cons (pv 0) pa_nil))))
    (pss_cons (ps_for PassesOwn.never rfl (pi_range3 (by rfl) T.range (pa_cons (pe_op op_sub (pe_callB call_len_seq (by rfl) T.len PySem.boot_len (pa_cons (pv 0) pa_nil)) pe_int) (pa_cons (pe_un un_neg pe_int) (pa_cons (pe_un un_neg pe_int) pa_nil)))) (pg_name (i := 3) nd rfl (Or.inl rfl))
        (pss_cons (ps_set (i := 4) nd rfl (Or.inl rfl) (pe_ix ix_tup (pv 0) (pv 3) (fun _ _ => rfl)))
        (pss_one (ps_if (pt_val (pe_callB call_isi (by rfl) T.isinstance (by decide +kernel) (pa_cons (pv 4) (pa_cons (pe_bltn (v := .ty "tuple") (by rfl) T2.tuple (by decide +kernel) rfl) pa_nil))))
            (pss_one (ps_asg (pe_op op_add_str (pe_op op_add_str (pe_op op_add_str (pe_op op_add_str (pe_op op_add_str pe_str (pe_ix ix_tup (pv 4) pe_int (fun _ _ => rfl))) pe_str) (pe_call GX hr (by rfl) NX.m NX.F.kp NX.b .nil pass0 (pa_cons (pe_ix ix_tup (pv 4) pe_int (fun _ _ => rfl)) pa_nil))) pe_str) (pe_ix ix_list (pv 2) (pe_op op_add (pv 3) pe_int) (fun _ _ => rfl))) (pg_sub (pv 2) (pv 3) set_list)))
            (pss_one (ps_if (pt_cmpR (op_eqW (Nat.lt_of_le_of_lt (Nat.le_add_right _ 64) hr.units)) (pv 4) pe_str (nomark _))
                (pss_one (ps_asg (pe_op op_add_str (pe_op op_add_str (pe_op op_add_str (pe_op op_add_str pe_str (pe_ix ix_list (pv 2) (pe_op op_add (pv 3) pe_int) (fun _ _ => rfl))) pe_str) (pe_ix ix_list (pv 2) (pe_ix ix_list (pv 1) (pe_op op_add (pv 3) pe_int) (fun _ _ => rfl)) (fun _ _ => rfl))) pe_str) (pg_sub (pv 2) (pv 3) set_list)))
                (pss_one (ps_asg (pv 4) (pg_sub (pv 2) (pv 3) set_list)))))))))
    (pss_one (ps_ret (pe_ix ix_list (pv 2) pe_int (fun _ _ => rfl)))))), ?_⟩
    obtain ⟨a, vs, rfl, ha, hw, _⟩ := id hv
    have lv := hw.1
    have fitT : t.fit 10000 := fit_of (wd_sizes hw) fun w h => h
    have few : ∀ {x : Tm}, Part x t → x.tx.length ≤ 3700000 := fun {x} q => by
      have h1 := tx_len (q.ok tk) (q.fit fitT)
      have h2 := Nat.mul_le_mul_left (6 * 10000 + 20) (show x.ws.length ≤ 60 from Nat.le_trans q.len hl)
      omega
    refine ⟨_, rfl, _, t.ws, rfl, hv, wk.wds, wh, fun sp H1 hsp s1 e1 => ?_⟩
    have ha1 := s1 _ _ ha
    refine ⟨(by show 1 ≤ sizeLine; decide), fun p0 hp0 => ?_⟩
    have s2 := same_new (o := .lst [.str ""]) s1 hp0
    have e2 : upd H1 p0 (.lst [.str ""]) sp = some (.lst (enL t.ws 0)) := by rw [upd_ne (ne_of_none e1 hp0)]; exact e1
    have f2 : upd H1 p0 (.lst [.str ""]) p0 = some (.lst [.str ""]) := upd_same
    generalize upd H1 p0 (.lst [.str ""]) = H2 at s2 e2 f2
    refine ⟨_, rfl, _, _, rfl, .inr (SqT.of (s2 _ _ ha)), p0, _, _, rfl, rfl, f2, by omega, by have := line63; omega, (by show 1 * _ ≤ sizeLine; rw [Nat.one_mul, lv]; exact big2 (by omega)), fun l hl0 => ?_⟩
    have er : (List.replicate ((vs.length : Int)).toNat [V.str ""]).flatten = (List.replicate t.ws.length ("" : Str)).map V.str := by
      rw [lv]
      show (List.replicate t.ws.length [V.str ""]).flatten = _
      rw [List.flatten_replicate_singleton, List.map_replicate]
    rw [er]
    have nl : H l = none := same_none s2 hl0
    have spl : sp ≠ l := ne_of_none e2 hl0
    have s3 := same_new (o := .lst ((List.replicate t.ws.length ("" : Str)).map V.str)) s2 hl0
    have e3 : upd H2 l (.lst ((List.replicate t.ws.length ("" : Str)).map V.str)) sp = some (.lst (enL t.ws 0)) := by rw [upd_ne spl]; exact e2
    have g3 : upd H2 l (.lst ((List.replicate t.ws.length ("" : Str)).map V.str)) l = some (.lst ((List.replicate t.ws.length ("" : Str)).map V.str)) := upd_same
    generalize upd H2 l (.lst ((List.replicate t.ws.length ("" : Str)).map V.str)) = H3 at s3 e3 g3
    refine ⟨_, rfl, _, _, rfl, .inr (SqT.of (s3 _ _ ha)), _, _, rfl, rfl, _, rfl, _, rfl, _, _, _, _, rfl, RgC.neg (by omega) (by omega) (by decide) (by decide), ?_⟩
    have en : ((vs.length : Int) - 1 - -1).toNat = t.ws.length := by omega
    rw [en]
    refine for_rangeC (fun i σ H' => ∃ t3 t4, σ = [some (.ref a), some (.ref sp), some (.ref l), t3, t4] ∧ Same H H' ∧ H' sp = some (.lst (enL t.ws 0)) ∧ ∃ xs : List Str, H' l = some (.lst (xs.map V.str)) ∧ TxF t.ws t (t.ws.length - i) xs) ⟨none, none, rfl, s3, e3, _, g3, by rw [List.length_replicate], fun j x hj hx _ => by
      have := hx.lt
      have := ws_pos x
      omega⟩ ?_ ?_
    · rintro i σ H4 hi ⟨t3, t4, rfl, k1, k2, xs, k3, kl, kf⟩
      have hj : t.ws.length - 1 - i < t.ws.length := by omega
      have ep : (vs.length : Int) - 1 + (i : Nat) * (-1) = ((t.ws.length - 1 - i : Nat) : Int) := by omega
      rw [ep]
      have ek : t.ws.length - i = t.ws.length - 1 - i + 1 := by omega
      have ek2 : t.ws.length - (i + 1) = t.ws.length - 1 - i := by omega
      rw [ek] at kf
      rw [ek2]
      generalize hpl : t.ws.length - 1 - i = pl at hj kf
      obtain ⟨x, sx, px⟩ := subs hj
      have xok := px.ok tk
      obtain ⟨vp, hvp⟩ : ∃ vp, vs[pl]? = some vp := ⟨_, List.getElem?_eq_getElem (by omega)⟩
      have ha4 := k1 _ _ ha
      -- this place is told
      have fin : ∀ t4', ∃ t3 t4'', [some (V.ref a), some (.ref sp), some (.ref l), some (.int (pl : Int)), some t4'] = [some (.ref a), some (.ref sp), some (.ref l), t3, t4''] ∧ Same H (upd H4 l (.lst ((xs.map V.str).set pl (.str (mk x.tx))))) ∧ upd H4 l (.lst ((xs.map V.str).set pl (.str (mk x.tx)))) sp = some (.lst (enL t.ws 0)) ∧ ∃ xs' : List Str, upd H4 l (.lst ((xs.map V.str).set pl (.str (mk x.tx)))) l = some (.lst (xs'.map V.str)) ∧ TxF t.ws t pl xs' := fun t4' => by
        refine ⟨_, _, rfl, fun b o q => by rw [upd_ne (ne_of_none q nl)]; exact k1 b o q, by rw [upd_ne spl]; exact k2, xs.set pl (mk x.tx), by rw [upd_same, List.map_set], by rw [List.length_set]; exact kl, fun j y hjy sy py => ?_⟩
        by_cases e : j = pl
        · subst e
          rw [List.getElem?_set_self (by omega), SubT.one sy sx (py.ok tk) xok]
        · rw [List.getElem?_set_ne (fun q => e q.symm)]
          exact kf j y (by omega) sy py
      have at_ : ∀ {j : Nat} {y : Tm}, pl + 1 ≤ j → SubT t.ws j y → Part y x → atI (xs.map V.str) ((j : Nat) : Int) = some (.str (mk y.tx)) := fun hjj sy py => atI_nat (by rw [List.getElem?_map, kf _ _ hjj sy (py.trans px)]; rfl)
      have ep1 : ((pl : Int) + 1) = ((pl + 1 : Nat) : Int) := by omega
      have la : ∀ a b : Str, (a ++ b).length = a.length + b.length := fun a b => by
        rw [← tl_len, ← tl_len, ← tl_len, tl_append, List.length_append]
      cases x with
      | nm z =>
        have hw4 := sx.nm
        have wd := (hw.2 _ _ _ hw4 hvp).same k1
        obtain ⟨tv, ty, kt⟩ := wd.tyT (by intro q; cases q)
        refine ⟨_, rfl, _, rfl, a, _, _, _, rfl, rfl, SqT.of ha4, atI_nat hvp, _, rfl, _, _, _, _, _, rfl, .ty _, ty, kt, _, rfl, ?_⟩
        refine ifF rfl ?_
        refine ⟨_, rfl, _, wd.eqUse (by intro z; cases z), _, rfl, ?_⟩
        refine ifF (nm_use xok) ?_
        obtain ⟨rfl, _⟩ := id wd
        refine ⟨_, rfl, _, rfl, _, rfl, l, _, _, pl, rfl, rfl, k3, Evl.ixN_nat (by rw [List.length_map]; omega), ?_⟩
        have := fin (.str z)
        rw [show mk (Tm.nm z).tx = z from mk_tl] at this
        exact this
      | us f b =>
        obtain ⟨hw4, sf, sb⟩ := sx.us
        have wd := (hw.2 _ _ _ hw4 hvp).same k1
        obtain ⟨tv, ty, kt⟩ := wd.tyT (by intro q; cases q)
        refine ⟨_, rfl, _, rfl, a, _, _, _, rfl, rfl, SqT.of ha4, atI_nat hvp, _, rfl, _, _, _, _, _, rfl, .ty _, ty, kt, _, rfl, ?_⟩
        refine ifF rfl ?_
        refine ⟨_, rfl, _, wd.eqUse (by intro z; cases z), _, rfl, ?_⟩
        refine ifT (by decide +kernel) ?_
        have ef := sf.end wh xok.1
        have lf := sf.lt
        have lb := sb.lt
        have wf := ws_pos f
        have wb := ws_pos b
        have l1 : (("(" : Str)).length = 1 := by decide +kernel
        have l2 : ((" " : Str)).length = 1 := by decide +kernel
        have l3 : ((")" : Str)).length = 1 := by decide +kernel
        have ff := few ((Part.ofF (.me f)).trans px)
        have fb := few ((Part.ofA (.me b)).trans px)
        have a1 : atI (xs.map V.str) ((pl : Int) + 1) = some (.str (mk f.tx)) := by rw [ep1]; exact at_ (Nat.le_refl _) sf (.ofF (.me f))
        have a2 : atI (enL t.ws 0) ((pl : Int) + 1) = some (.int ((pl + 1 + f.ws.length : Nat) : Int)) := by
          rw [ep1]
          exact atI_nat (by rw [enL_get (by omega) (Nat.zero_le _), ef])
        have a3 := at_ (j := pl + 1 + f.ws.length) (by omega) sb (.ofA (.me b))
        refine ⟨_, rfl, _, rfl, _, _, rfl, rfl, l, _, _, _, rfl, rfl, SqL.of k3, a1, _, _, rfl, rfl, Nat.le_trans (by rw [l1, mk_len]; exact Nat.le_refl _) (big4 (by omega)), _, _, rfl, rfl, Nat.le_trans (by rw [la, l1, l2, mk_len]; exact Nat.le_refl _) (big4 (by omega)), ?_⟩
        refine ⟨_, rfl, _, rfl, _, rfl, _, _, rfl, rfl, sp, _, _, _, rfl, rfl, SqL.of k2, a2, l, _, _, _, rfl, rfl, SqL.of k3, a3, _, _, rfl, rfl, ?_, _, _, rfl, rfl, ?_, ?_⟩
        · rw [la, la, l1, l2, mk_len, mk_len]; exact Nat.le_trans (m := 8000000) (by omega) (by decide)
        · rw [la, la, la, l1, l2, l3, mk_len, mk_len]; exact Nat.le_trans (m := 8000000) (by omega) (by decide)
        refine ⟨_, rfl, _, rfl, l, _, _, pl, rfl, rfl, k3, Evl.ixN_nat (by rw [List.length_map]; omega), ?_⟩
        have e5 : ("(" : Str) ++ mk f.tx ++ " " ++ mk b.tx ++ ")" = mk (Tm.us f b).tx := by
          refine ext_tl ?_
          rw [tl_append, tl_append, tl_append, tl_append, show tl ("(" : Str) = [40] from by decide +kernel, show tl (" " : Str) = [32] from by decide +kernel, show tl (")" : Str) = [41] from by decide +kernel, tl_mk', tl_mk', tl_mk']
          show _ = 40 :: (f.tx ++ 32 :: (b.tx ++ [41]))
          simp
        rw [e5]
        exact fin _
      | tk z k b =>
        obtain ⟨hw4, sb⟩ := sx.tk
        have wd := (hw.2 _ _ _ hw4 hvp).same k1
        obtain ⟨tv, ty, kt⟩ := wd.tyT (by intro q; cases q)
        refine ⟨_, rfl, _, rfl, a, _, _, _, rfl, rfl, SqT.of ha4, atI_nat hvp, _, rfl, _, _, _, _, _, rfl, .ty _, ty, kt, _, rfl, ?_⟩
        refine ifT rfl ?_
        obtain ⟨qa, x', y, rfl, hqa, ⟨ex, _⟩, _, hy, ysz⟩ := id wd
        subst ex
        have zl := name_len xok.1
        rw [tl_len] at zl
        have kl2 := kL_len k
        have fb := few ((Part.ofB (.me b)).trans px)
        have l1 : (("[" : Str)).length = 1 := by decide +kernel
        have l2 : ((":" : Str)).length = 1 := by decide +kernel
        have l3 : (("] " : Str)).length = 2 := by decide +kernel
        have a1 : atI (xs.map V.str) ((pl : Int) + 1) = some (.str (mk b.tx)) := by rw [ep1]; exact at_ (Nat.le_refl _) sb (.ofB (.me b))
        have dk := (px.dep td).1
        refine ⟨_, rfl, qa, _, _, _, rfl, rfl, SqT.of hqa, rfl, _, _, rfl, rfl, big2 (by rw [l1]; omega), _, _, rfl, rfl, big2 (by rw [la, l1, l2]; omega), ?_⟩
        refine ⟨_, rfl, qa, _, _, _, rfl, rfl, SqT.of hqa, rfl, y, k, rfl, hy, xok.2.1, dk, ysz, ?_⟩
        refine ⟨_, _, rfl, rfl, big2 (by rw [la, la, l1, l2, mk_len]; omega), _, _, rfl, rfl, big2 (by rw [la, la, la, l1, l2, l3, mk_len]; omega), ?_⟩
        refine ⟨_, rfl, _, rfl, _, _, rfl, rfl, l, _, _, _, rfl, rfl, SqL.of k3, a1, _, _, rfl, rfl, Nat.le_trans (by rw [la, la, la, la, l1, l2, l3, mk_len, mk_len]; exact Nat.le_refl _) (big4 (by omega)), ?_⟩
        refine ⟨_, rfl, _, rfl, l, _, _, pl, rfl, rfl, k3, Evl.ixN_nat (by rw [List.length_map]; omega), ?_⟩
        have e5 : ("[" : Str) ++ z ++ ":" ++ mk (kL k) ++ "] " ++ mk b.tx = mk (Tm.tk z k b).tx := by
          refine ext_tl ?_
          rw [tl_append, tl_append, tl_append, tl_append, tl_append, show tl ("[" : Str) = [91] from by decide +kernel, show tl (":" : Str) = [58] from by decide +kernel, show tl ("] " : Str) = [93, 32] from by decide +kernel, tl_mk', tl_mk', tl_mk']
          show _ = 91 :: (tl z ++ 58 :: (kL k ++ 93 :: 32 :: b.tx))
          simp
        rw [e5]
        exact fin _
    · rintro σ H4 ⟨t3, t4, rfl, k1, k2, xs, k3, kl, kf⟩
      rw [Nat.sub_self] at kf
      have q := kf 0 t (Nat.le_refl _) ⟨[], by rw [List.drop_zero, List.append_nil]⟩ (.me t)
      refine ⟨_, rfl, l, _, _, _, rfl, rfl, SqL.of k3, (atI_nat (by rw [List.getElem?_map, q]; rfl) : atI (xs.map V.str) (((0 : Nat)) : Int) = some (.str (mk t.tx))), kq H4 k1⟩
end
end LG

set_option Elab.async false
set_option linter.all false
set_option maxRecDepth 100000
set_option maxHeartbeats 4100000
namespace LG
open PySem L2 TL
abbrev sLIsT : Stmt := top 38
/-- the same data twice, nested at most so deep: texts, ints, tuples -/
def Twin (H : Hp) : Nat → V → V → Prop
  | 0, v, v' => (∃ z, v = .str z ∧ v' = .str z) ∨ ∃ i, v = .int i ∧ v' = .int i
  | n + 1, v, v' => Twin H n v v' ∨ ∃ a b xs ys, v = .ref a ∧ v' = .ref b ∧ H a = some (.tup xs) ∧ H b = some (.tup ys) ∧ xs.length = ys.length ∧ xs.length ≤ 3000 ∧ ∀ (k : Nat) (x y : V), xs[k]? = some x → ys[k]? = some y → Twin H n x y
theorem Twin.same {H H' : Hp} (s : Same H H') : ∀ {n : Nat} {v v' : V}, Twin H n v v' → Twin H' n v v'
  | 0, _, _, h => h
  | n + 1, _, _, .inl h => .inl (Twin.same s h)
  | n + 1, _, _, .inr ⟨a, b, xs, ys, e1, e2, ha, hb, l, m, e⟩ => .inr ⟨a, b, xs, ys, e1, e2, s _ _ ha, s _ _ hb, l, m, fun k x y p q => Twin.same s (e k x y p q)⟩
theorem Twin.up {H : Hp} {v v' : V} : ∀ {m n : Nat}, n ≤ m → Twin H n v v' → Twin H m v v'
  | 0, n, h, t => by
    have : n = 0 := by omega
    subst this; exact t
  | m + 1, n, h, t => by
    rcases Nat.lt_or_ge n (m + 1) with q | q
    · exact .inl (Twin.up (by omega) t)
    · have : n = m + 1 := by omega
      subst this; exact t
/-- scalars, or tuples all the way -/
theorem Twin.cases {H : Hp} : ∀ {n : Nat} {v v' : V}, Twin H n v v' → ((∃ z, v = .str z ∧ v' = .str z) ∨ ∃ i, v = .int i ∧ v' = .int i) ∨ ∃ m a b xs ys, n = m + 1 ∧ v = .ref a ∧ v' = .ref b ∧ H a = some (.tup xs) ∧ H b = some (.tup ys) ∧ xs.length = ys.length ∧ xs.length ≤ 3000 ∧ ∀ (k : Nat) (x y : V), xs[k]? = some x → ys[k]? = some y → Twin H m x y
  | 0, _, _, h => .inl h
  | n + 1, _, _, .inl h => by
    rcases Twin.cases h with q | ⟨m, a, b, xs, ys, rfl, e1, e2, ha, hb, l, m3, e⟩
    · exact .inl q
    · exact .inr ⟨m + 1, a, b, xs, ys, rfl, e1, e2, ha, hb, l, m3, fun k x y p q => .inl (e k x y p q)⟩
  | n + 1, _, _, .inr ⟨a, b, xs, ys, e1, e2, ha, hb, l, m, e⟩ => .inr ⟨n, a, b, xs, ys, rfl, e1, e2, ha, hb, l, m, e⟩
theorem th_twin {K : PySem.W.Frag} {H : Hp} : ∀ {t : Th} {v v' : V} {d : Nat}, t.any = true → t.depth ≤ d → ThAt K H t v → ThAt K H t v' → Twin H d v v'
  | .int i, v, v', d, _, _, h, h' => Twin.up (Nat.zero_le _) (.inr ⟨i, h, h'⟩)
  | .pr l r, v, v', 0, _, hd, _, _ => by
    have hd : max l.depth r.depth + 1 ≤ 0 := hd
    omega
  | .pr l r, v, v', d + 1, a, hd, h, h' => by
    obtain ⟨p, x, y, e, hp, h1, h2⟩ := h
    obtain ⟨p', x', y', e', hp', h1', h2'⟩ := h'
    obtain ⟨a1, a2⟩ := any_pr a
    have hd : max l.depth r.depth + 1 ≤ d + 1 := hd
    refine .inr ⟨p, p', _, _, e, e', hp, hp', rfl, (by show 2 ≤ 3000; decide), fun k u u' q q' => ?_⟩
    match k, q, q' with
    | 0, q, q' => cases q; cases q'; exact th_twin a1 (by omega) h1 h1'
    | 1, q, q' => cases q; cases q'; exact th_twin a2 (by omega) h2 h2'
    | k + 2, q, q' => simp at q
  | .bl _, _, _, _, a, _, _, _ => by cases a
  | .non, _, _, _, a, _, _, _ => by cases a
  | .tup, _, _, _, a, _, _, _ => by cases a
def spLIsT (n : Nat) : Sp := fun vs H Q _ => ∃ (v v' : V), vs = [v, v'] ∧ Twin H n v v' ∧ ∀ H', Same H H' → Q (.bl true) H'
section
variable {P : Program} {w : World} {K : PySem.W.Frag} {mg : Str → Option Value} {base : Heap}
theorem scLIsT : FnScope ["_law_told_here", "_law_due_here", "_law_k", "_law_key"] ["_law_told_here", "_law_due_here"] (defScope sLIsT) := ⟨rfl, rfl, rfl, by decide +kernel, rfl, by decide +kernel, by decide +kernel⟩
theorem ok_lisT1 {f : Addr} {fd : FuncData} {n d : Nat} {spR : Sp} (F : Fn K mg "_law_is" sLIsT ["_law_told_here", "_law_due_here"] f fd) (G : FnOk P w K mg base CX0 n f fd ["_law_told_here", "_law_due_here"] spR) (hG : ∀ d', d = d' + 1 → spR = spLIsT d') (T : TxB mg) (T2 : TxD mg) : FnOk P w K mg base CX0 (n + 1) f fd ["_law_told_here", "_law_due_here"] (spLIsT d) := by
  refine F.F.ok scLIsT (fun vs H Q E h => ?_) (fun cdv A outer s H vs Q E hr h => ?_)
  · obtain ⟨_, _, rfl, _⟩ := h
    rfl
  · obtain ⟨v, v', rfl, ht, kq⟩ := h
    have nd := scLIsT.nd
    refine ⟨_, pss_cons (ps_if (pt_val (pe_callB call_isiT (by rfl) T.isinstance (by decide +kernel) (pa_cons (pv 1) (pa_cons (pe_tup (pa_cons (pe_bltn (v := .ty "tuple") (by rfl) T2.tuple (by decide +kernel) rfl) (pa_cons (pe_bltn (v := .ty "list") (by rfl) T2.list (by decide +kernel) rfl) pa_nil))) pa_nil))))
        (pss_cons (ps_if (PW.pt (pw_or (pt_cmpR op_ne (pe_callB call_isi (by rfl) T.isinstance (by decide +kernel) (pa_cons (pv 0) (pa_cons (pe_bltn (v := .ty "tuple") (by rfl) T2.tuple (by decide +kernel) rfl) pa_nil))) (pe_callB call_isi (by rfl) T.isinstance (by decide +kernel) (pa_cons (pv 1) (pa_cons (pe_bltn (v := .ty "tuple") (by rfl) T2.tuple (by decide +kernel) rfl) pa_nil))) (nomark _)) (pw_or1 (pt_cmpR op_ne (pe_callB call_isi (by rfl) T.isinstance (by decide +kernel) (pa_cons (pv 0) (pa_cons (pe_bltn (v := .ty "list") (by rfl) T2.list (by decide +kernel) rfl) pa_nil))) (pe_callB call_isi (by rfl) T.isinstance (by decide +kernel) (pa_cons (pv 1) (pa_cons (pe_bltn (v := .ty "list") (by rfl) T2.list (by decide +kernel) rfl) pa_nil))) (nomark _)))))
            pss_never
            pss_nil)
        (pss_one (ps_ret (pe_and (pe_cmpR op_eq (pe_callB call_len_seq (by rfl) T.len PySem.boot_len (pa_cons (pv 0) pa_nil)) (pe_callB call_len_seq (by rfl) T.len PySem.boot_len (pa_cons (pv 1) pa_nil)) (nomark _)) (pe_one (pe_callB (cr_all rfl) (by rfl) T.all (by decide +kernel) (pa_cons (pe_lc (own := [("_law_k", 2)]) (g := gName 2) (tt := tYes) rfl nd (pi_range1 (by rfl) T.range (pa_cons (pe_callB call_len_seq (by rfl) T.len PySem.boot_len (pa_cons (pv 1) pa_nil)) pa_nil)) (blkOk_by (N := ["_law_told_here", "_law_due_here", "_law_k", "_law_key"]) (sc := defScope sLIsT) (by decide +kernel)) (fun _ _ _ _ _ => pg_name (i := 2) nd rfl (Or.inl rfl)) (fun _ _ _ _ _ => pts_nil) (fun _ _ _ _ _ => pe_call G hr (by rfl) F.m F.F.kp F.b .nil pass0 (pa_cons (pe_ix (ix_tup : IxR _ (rIxT K)) (pv 0) (pv 2) (fun _ _ => rfl)) (pa_cons (pe_ix (ix_tup : IxR _ (rIxT K)) (pv 1) (pv 2) (fun _ _ => rfl)) pa_nil)))) pa_nil)))))))
        pss_nil)
    (pss_cons (ps_if (pt_val (pe_callB call_isi (by rfl) T.isinstance (by decide +kernel) (pa_cons (pv 1) (pa_cons (pe_bltn (v := .ty "dict") (by rfl) T2.dict (by decide +kernel) rfl) pa_nil))))
        pss_never
        pss_nil)
    (pss_one (ps_ret (pe_and (pe_cmpR op_eq (pe_callB call_isi (by rfl) T.isinstance (by decide +kernel) (pa_cons (pv 0) (pa_cons (pe_bltn (v := .ty "bool") (by rfl) T2.bool (by decide +kernel) rfl) pa_nil))) (pe_callB call_isi (by rfl) T.isinstance (by decide +kernel) (pa_cons (pv 1) (pa_cons (pe_bltn (v := .ty "bool") (by rfl) T2.bool (by decide +kernel) rfl) pa_nil))) (nomark _)) (pe_one (pe_cmpR op_eq (pv 0) (pv 1) (nomark _))))))), ?_⟩
    rcases ht.cases with q | ⟨m, a, b, xs, ys, rfl, rfl, rfl, ha, hb, el, sm, ee⟩
    · have sc : ∃ t1, TyX K H v' (.type t1) ∧ TyX K H v (.type t1) ∧ kitB t1 "tuple" = some false ∧ kitB t1 "list" = some false ∧ kitB t1 "dict" = some false ∧ kitB t1 "bool" = some false := by
        rcases q with ⟨z, rfl, rfl⟩ | ⟨i, rfl, rfl⟩
        · exact ⟨"str", .base (.str z), .base (.str z), by decide +kernel, by decide +kernel, by decide +kernel, by decide +kernel⟩
        · exact ⟨"int", .base (.int i), .base (.int i), by decide +kernel, by decide +kernel, by decide +kernel, by decide +kernel⟩
      obtain ⟨t1, ty', ty, k1, k2, k3, k4⟩ := sc
      refine ⟨_, rfl, (by show 2 ≤ sizeLine; decide), fun tp htp => ?_⟩
      have s1 := same_new (o := .tup [.ty "tuple", .ty "list"]) (same_refl H) htp
      refine ⟨_, _, _, _, _, _, rfl, upd_same, .cons (.ty _) (.cons (.ty _) .nil), tyx_same s1 ty', (kitAny_cons (kit_ty k1) (fun _ => kitAny_cons (kit_ty k2) (fun _ => kitAny_nil) (fun z => nomatch z)) (fun z => nomatch z)), _, rfl, ?_⟩
      refine ifF rfl ?_
      refine ⟨_, rfl, _, _, _, _, _, rfl, .ty _, tyx_same s1 ty', kit_ty k3, _, rfl, ?_⟩
      refine ifF rfl ?_
      refine ⟨_, rfl, _, _, _, _, _, rfl, .ty _, tyx_same s1 ty, kit_ty k4, _, rfl, _, _, _, _, _, rfl, .ty _, tyx_same s1 ty', kit_ty k4, rfl, _, rfl, ?_⟩
      refine ifT (by decide) ?_
      rcases q with ⟨z, rfl, rfl⟩ | ⟨i, rfl, rfl⟩
      · refine ⟨_, rfl, _, rfl, rfl, ?_⟩
        rw [decide_eq_true rfl]
        exact kq _ s1
      · refine ⟨_, rfl, _, rfl, rfl, ?_⟩
        rw [decide_eq_true rfl]
        exact kq _ s1
    · have sp : spR = spLIsT m := hG m rfl
      refine ⟨_, rfl, (by show 2 ≤ sizeLine; decide), fun tp htp => ?_⟩
      have s1 := same_new (o := .tup [.ty "tuple", .ty "list"]) (same_refl H) htp
      have ha1 := s1 _ _ ha
      have hb1 := s1 _ _ hb
      have f1 : upd H tp (.tup [.ty "tuple", .ty "list"]) tp = some (.tup [.ty "tuple", .ty "list"]) := upd_same
      generalize upd H tp (.tup [.ty "tuple", .ty "list"]) = H1 at s1 ha1 hb1 f1
      refine ⟨_, _, _, _, _, _, rfl, f1, .cons (.ty _) (.cons (.ty _) .nil), .base (.tup hb1), (kitAny_cons (kit_ty (a := "tuple") (r := true) (by decide +kernel)) (fun z => nomatch z) (fun _ => rfl)), _, rfl, ?_⟩
      refine ifT rfl ?_
      refine ⟨_, rfl, _, _, _, _, _, rfl, .ty _, .base (.tup ha1), kit_ty (r := true) (by decide +kernel), _, rfl, _, _, _, _, _, rfl, .ty _, .base (.tup hb1), kit_ty (r := true) (by decide +kernel), rfl, _, rfl, ?_⟩
      refine ifF (by decide) ?_
      refine ⟨_, rfl, _, _, _, _, _, rfl, .ty _, .base (.tup ha1), kit_ty (r := false) (by decide +kernel), _, rfl, _, _, _, _, _, rfl, .ty _, .base (.tup hb1), kit_ty (r := false) (by decide +kernel), rfl, _, rfl, ?_⟩
      refine ifF (by decide) ?_
      refine ⟨_, rfl, _, _, rfl, .inr (SqT.of ha1), _, rfl, _, _, rfl, .inr (SqT.of hb1), rfl, _, rfl, ?_⟩
      refine ifT (decide_eq_true (by rw [el])) ?_
      refine ⟨_, rfl, _, _, rfl, .inr (SqT.of hb1), _, rfl, by omega, by have := line63; omega, fun D hD => ?_⟩
      rw [show ((ys.length : Int)).toNat = ys.length by omega]
      refine lc_range (lo := 0) (n := ys.length) (fun i H' => Same H1 H' ∧ H' D = some (.lst ((List.replicate i true).map V.bl))) ⟨same_new (same_refl H1) hD, upd_same⟩ ?_ ?_
      · rintro i H' hi ⟨h1, h2⟩
        refine ⟨rfl, ?_⟩
        refine yes_kept ?_
        rw [Int.zero_add]
        obtain ⟨x, hx⟩ : ∃ x, xs[i]? = some x := ⟨_, List.getElem?_eq_getElem (by omega)⟩
        obtain ⟨y, hy⟩ : ∃ y, ys[i]? = some y := ⟨_, List.getElem?_eq_getElem hi⟩
        refine ⟨_, rfl, _, rfl, a, _, _, x, rfl, rfl, SqT.of (h1 _ _ ha1), atI_nat hx, _, rfl, _, rfl, b, _, _, y, rfl, rfl, SqT.of (h1 _ _ hb1), atI_nat hy, ?_⟩
        rw [sp]
        refine ⟨x, y, rfl, (ee i x y hx hy).same (same_trans s1 h1), fun H2 s2 => ?_⟩
        refine ⟨_, s2 _ _ h2, (by rw [List.length_map, List.length_replicate]; exact room2 (by omega)), fun c o q => by rw [upd_ne (ne_of_none q hD)]; exact s2 _ _ (h1 c o q), ?_⟩
        rw [upd_same, List.replicate_succ', List.map_append]; rfl
      · rintro H' ⟨h1, h2⟩
        refine ⟨D, _, rfl, SqL.of h2, ?_⟩
        have : (List.replicate ys.length true).all id = true := by simp
        rw [this]
        exact kq _ (same_trans s1 h1)
theorem ok_lisT {f : Addr} {fd : FuncData} (F : Fn K mg "_law_is" sLIsT ["_law_told_here", "_law_due_here"] f fd) (T : TxB mg) (T2 : TxD mg) : ∀ d : Nat, FnOk P w K mg base CX0 (d + 2) f fd ["_law_told_here", "_law_due_here"] (spLIsT d) := by
  have G0 : FnOk P w K mg base CX0 1 f fd ["_law_told_here", "_law_due_here"] (fun _ _ _ _ => False) := F.F.ok scLIsT (fun vs H Q E h => False.elim h) (fun cdv A outer s H vs Q E hr h => False.elim h)
  intro d
  induction d with
  | zero => exact ok_lisT1 F G0 (fun d' e => by omega) T T2
  | succ d ih =>
    refine ok_lisT1 F ih (fun d' e => ?_) T T2
    have q : d' = d := by omega
    rw [q]
end
end LG

set_option Elab.async false
set_option linter.all false
set_option maxRecDepth 100000
set_option maxHeartbeats 8100000
namespace LG
open PySem L2 TL
def spSomeD (K : PySem.W.Frag) : Sp := fun vs H Q _ => ∃ (p c : Addr) (cells : List Int) (kn : V) (ks : List ((Str × Th) × V)) (d : Nat), d ≤ 3 ∧ vs = [.ref p, kn, .int (d : Int)] ∧ HandAt H p c cells ∧ KnAt K (del H p) ks kn ∧ ks.length ≤ 9 ∧ BackP K H p c cells 60 Q
theorem szL_3 {d : Nat} (h : d ≤ 3) : szL d ≤ 15 := by
  match d, h with
  | 0, _ => decide
  | 1, _ => decide
  | 2, _ => decide
  | 3, _ => decide
theorem szF_3 {d : Nat} (h : d ≤ 3) : szF d ≤ 339 := by
  match d, h with
  | 0, _ => decide
  | 1, _ => decide
  | 2, _ => decide
  | 3, _ => decide
section
variable {P : Program} {w : World} {K : PySem.W.Frag} {mg : Str → Option Value} {base : Heap}
theorem ok_somepD {f fD fS fK fE fH fF fL : Addr} {fd fdD fdS fdK fdE fdH fdF fdL : FuncData} (F : Fn K mg "_law_some_program" sSomeP ["_law_hand_here", "_law_known_here", "_law_deep_here"] f fd) (NF : Fn K mg "_law_fit" sLFit ["_law_hand_here", "_law_known_here", "_law_kind_here", "_law_deep_here"] fF fdF) (NL : Fn K mg "_law_loose" sLoose ["_law_hand_here", "_law_names", "_law_deep_here"] fL fdL)
    (ND : Fn K mg "_law_draw" sDraw ["_law_hand_here", "_law_many"] fD fdD) (NS : Fn K mg "_law_some" sSome ["_law_hand_here", "_law_things"] fS fdS) (NK : Fn K mg "_law_kind" sKd ["_law_hand_here", "_law_deep_here"] fK fdK) (NE : Fn K mg "_law_ends" sLEnds ["_law_kind_here"] fE fdE) (NH : Fn K mg "_law_heads" sHeads ["_law_inner", "_law_end", "_law_deep_here"] fH fdH) (T : TxB mg) (T2 : TxD mg) :
    FnOk P w K mg base CX0 8 f fd ["_law_hand_here", "_law_known_here", "_law_deep_here"] (spSomeD K) := by
  have GD : FnOk P w K mg base CX0 1 fD fdD ["_law_hand_here", "_law_many"] spDraw := ok_draw ND.F T
  have GK : FnOk P w K mg base CX0 4 fK fdK ["_law_hand_here", "_law_deep_here"] (spKd K 2) := ok_kd NK ND T 2
  refine F.F.ok scSomeP (fun vs H Q E h => ?_) (fun cdv A outer s H vs Q E hr h => ?_)
  · obtain ⟨_, _, _, _, _, _, _, rfl, _⟩ := h
    rfl
  · obtain ⟨p, c, cells, kn, ks, d, d3, rfl, hA, hk, kl, kq⟩ := h
    have GF : FnOk P w K mg base CX0 7 fF fdF ["_law_hand_here", "_law_known_here", "_law_kind_here", "_law_deep_here"] (spLFit K d) := (ok_lfit NF ND NS NK NE NH T T2 d d3).mono (show d + 4 ≤ 7 by omega)
    have GL : FnOk P w K mg base CX0 7 fL fdL ["_law_hand_here", "_law_names", "_law_deep_here"] (spLoose K d) := (ok_loose NL ND NS NK T d (by omega)).mono (show d + 4 ≤ 7 by omega)
    have nd := scSomeP.nd
    have hr1 := hr.mono (show 1 ≤ 7 by decide)
    have hr4 := hr.mono (show 4 ≤ 7 by decide)
    refine ⟨_, pss_cons (ps_for PassesOwn.never rfl (pi_range1 (by rfl) T.range (pa_cons pe_int pa_nil)) (pg_name (i := 3) nd rfl (Or.inl rfl))
        (Evl.pss_cut (ps_if (pt_cmpR op_eq (pe_call GD hr1 (by rfl) ND.m ND.F.kp ND.b .nil pass0 (pa_cons (pv 0) (pa_cons pe_int pa_nil))) pe_int (nomark _))
          (pss_one (ps_set (i := 4) nd rfl (Or.inl rfl) (pe_call GL hr (by rfl) NL.m NL.F.kp NL.b .nil pass0 (pa_cons (pv 0) (pa_cons (pe_op op_cat
            (pe_lc (own := [("_law_name", 5), ("_law_kind_here", 6)]) (g := gTup K 2 (gCons (gName 5) (gCons (gName 6) gNil))) (tt := tYes) rfl nd (pi_tup (pv 1))
              (blkOk_by (N := ["_law_hand_here", "_law_known_here", "_law_deep_here", "_law_turn", "_law_found", "_law_name", "_law_kind_here"]) (sc := defScope sSomeP) (by decide +kernel)) (fun _ _ _ _ _ => pg_tup rfl (pgs_cons (pg_name (i := 5) nd rfl (Or.inl rfl)) (pgs_cons (pg_name (i := 6) nd rfl (Or.inl rfl)) pgs_nil))) (fun _ _ _ _ _ => pts_nil)
              (fun _ _ _ _ _ => pv 5)) (pe_lst (pa_cons pe_str (pa_cons pe_str (pa_cons pe_str pa_nil))))) (pa_cons (pv 2) pa_nil))))))
          (pss_one (ps_set (i := 4) nd rfl (Or.inl rfl) (pe_call GF hr (by rfl) NF.m NF.F.kp NF.b .nil pass0 (pa_cons (pv 0) (pa_cons (pe_callTy (cr_dictF rfl) (by rfl) T2.dict (by decide +kernel) (pa_cons (pv 1) pa_nil)) (pa_cons (pe_call GK hr4 (by rfl) NK.m NK.F.kp NK.b .nil pass0 (pa_cons (pv 0) (pa_cons pe_int pa_nil))) (pa_cons (pv 2) pa_nil))))))))
        (pss_one (ps_if (pt_cmpR op_le (pe_callB call_len_seq (by rfl) T.len PySem.boot_len (pa_cons (pv 4) pa_nil)) pe_int (nomark _)) (pss_one (ps_ret (pv 4))) pss_nil))))
      (pss_one (ps_ret (pe_tup (pa_cons (pe_tup (pa_cons pe_str (pa_cons pe_int pa_nil))) (pa_cons pe_str pa_nil))))), ?_⟩
    refine ⟨6, rfl, by decide, by decide, for_range (lo := 0) (n := 6) (fun i σ H' => ∃ (t3 t4 : Option V), σ = [some (.ref p), some kn, some (.int (d : Int)), t3, t4, none, none] ∧ HandAt H' p c cells ∧ Same (del H p) (del H' p)) ⟨none, none, rfl, hA, same_refl _⟩ ?_ ?_⟩
    · rintro i σ H1 hi ⟨t3, t4, rfl, hA1, s1⟩
      have hk1 := hk.same s1
      refine ⟨fun σ' H' => ∃ (a : Addr) (ws : List Wd) (vs : List V), σ' = [some (.ref p), some kn, some (.int (d : Int)), some (.int (0 + (i : Int))), some (.ref a), none, none] ∧ HandAt H' p c cells ∧ Same (del H p) (del H' p) ∧ H' a = some (.tup vs) ∧ WdsAt K (del H' p) ws vs ∧ One ws ∧ ws.length ≤ 3000, ?_, ?_⟩
      · refine ⟨_, rfl, p, c, cells, 4, rfl, hA1, by decide, by decide, fun r H2 z0 z4 hA2 o2 => ?_⟩
        have s2 := same_trans s1 (del_off o2)
        have hk2 := hk1.same (del_off o2)
        refine ⟨rfl, _, rfl, ?_⟩
        refine ite2 (fun _ => ?_) (fun _ => ?_)
        · obtain ⟨a, o, rfl, ha, od, hp⟩ := hk2
          have anp : a ≠ p := by rintro rfl; rw [del_same] at ha; cases ha
          have ha2 : SqT K H2 a (ks.map (·.2)) := .inl (.inr ⟨o, by rw [del_ne anp] at ha; exact ha⟩)
          have keep : ∀ H', Same H2 H' → SqT K H' a (ks.map (·.2)) := fun H' s => .inl (.inr ⟨o, s _ _ (by rw [del_ne anp] at ha; exact ha)⟩)
          refine ⟨_, rfl, _, rfl, a, rfl, ⟨_, ha2⟩, fun D hD => ?_⟩
          refine lc_it walk_tup (fun i H' => Same H2 H' ∧ H' D = some (.lst ((ks.take i).map fun s => V.str s.1.1))) ⟨same_new (same_refl H2) hD, by rw [List.take_zero]; exact upd_same⟩ (fun i H' _ q => keep H' q.1) ?_ ?_
          · rintro j x _ H' hj ⟨h1, h2⟩ ⟨rfl, hx⟩
            rw [List.length_map] at hj
            obtain ⟨sx, hsx⟩ : ∃ sx, ks[j]? = some sx := ⟨_, List.getElem?_eq_getElem hj⟩
            rw [List.getElem?_map, hsx] at hx
            cases hx
            obtain ⟨⟨b, y, eb, hb, _⟩, nb, _⟩ := hp sx (List.mem_of_getElem? hsx)
            have bnp : b ≠ p := by rintro rfl; rw [del_same] at hb; cases hb
            rw [del_ne bnp] at hb
            refine ⟨b, _, eb, SqT.of (h1 _ _ hb), rfl, _, _, rfl, _, _, rfl, rfl, ?_⟩
            refine ⟨rfl, ?_⟩
            refine yes_kept ?_
            refine ⟨_, rfl, _, h2, (by rw [List.length_map, List.length_take]; exact room2 (by omega)), fun c u q => by rw [upd_ne (ne_of_none q hD)]; exact h1 c u q, ?_⟩
            rw [upd_same, List.take_add_one, hsx, List.map_append]; rfl
          · rintro H3 ⟨h1, h2⟩
            rw [List.length_map, List.take_length] at h2
            refine ⟨(by show 3 ≤ sizeLine; decide), fun l1 hl1 => ?_⟩
            have g1 := same_new (o := .lst [.str "x", .str "y", .str "z"]) h1 hl1
            have e1 : upd H3 l1 (.lst [.str "x", .str "y", .str "z"]) D = some (.lst (ks.map fun s => V.str s.1.1)) := by rw [upd_ne (ne_of_none h2 hl1)]; exact h2
            have e2 : upd H3 l1 (.lst [.str "x", .str "y", .str "z"]) l1 = some (.lst [.str "x", .str "y", .str "z"]) := upd_same
            generalize upd H3 l1 (.lst [.str "x", .str "y", .str "z"]) = H4 at g1 e1 e2
            refine ⟨D, l1, _, _, rfl, rfl, e1, e2, (by rw [List.length_map]; show ks.length + 3 ≤ sizeLine; exact big2 (by omega)), fun r hr => ?_⟩
            have g2 := same_new (o := .lst ((ks.map fun s => V.str s.1.1) ++ [.str "x", .str "y", .str "z"])) g1 hr
            have hA5 := hA2.same g2
            have nm : NmL ((ks.map fun s => V.str s.1.1) ++ [.str "x", .str "y", .str "z"]) := fun v hv => by
              rcases List.mem_append.mp hv with m | m
              · obtain ⟨s, ms, rfl⟩ := List.mem_map.mp m
                exact ⟨_, rfl, (hp s ms).2.1⟩
              · simp only [List.mem_cons, List.not_mem_nil, or_false] at m
                rcases m with rfl | rfl | rfl <;> exact ⟨_, rfl, by decide +kernel⟩
            refine ⟨_, rfl, p, c, r, cells, _, rfl, hA5, upd_same, hA2.fresh (same_none g1 hr), nm, (by rw [List.length_append]; show 0 < _ + 3; omega), (by rw [List.length_append, List.length_map]; show ks.length + 3 < 1000; omega), fun ws b vs H6 hA6 s56 hb wb ob lb => ?_⟩
            exact ⟨b, ws, vs, rfl, hA6, same_trans s2 (same_trans (del_same_of g2) s56), hb, wb, ob, by have := szL_3 d3; omega⟩
        · obtain ⟨a, o, rfl, ha, od, hp⟩ := hk2
          obtain ⟨as, kvs, e1, e2, e3, e4⟩ := kn_dict (H := H2) del_le hp
          have anp : a ≠ p := by rintro rfl; rw [del_same] at ha; cases ha
          have ha2 : H2 a = some (.frz o (.tup (as.map V.ref))) := by rw [del_ne anp] at ha; rw [← e1]; exact ha
          refine ⟨_, rfl, _, rfl, a, o, as, kvs, rfl, ha2, od, e2, fun D hD => ?_⟩
          have nDp := hA2.fresh hD
          obtain ⟨i1, i2⟩ := mergeK_in InD.nil e3
          rw [List.length_nil, Nat.zero_add, e4] at i2
          have hA3 := hA2.same (same_new (o := .dK (mergeK [] kvs)) (same_refl _) hD)
          have s23 := newOff (o := .dK (mergeK [] kvs)) (same_refl (del H2 p)) hD
          have g3 : upd H2 D (.dK (mergeK [] kvs)) D = some (.dK (mergeK [] kvs)) := upd_same
          generalize upd H2 D (.dK (mergeK [] kvs)) = H3 at hA3 s23 g3
          refine ⟨_, rfl, p, c, cells, rfl, hA3, fun t v H4 hA4 s34 ht g => ?_⟩
          have s24 := same_trans s23 s34
          refine ⟨_, rfl, p, c, D, cells, mergeK [] kvs, t, v, rfl, hA4, stays s34 nDp g3, nDp, i1.same s24, by omega, ht, g, fun ws b vs H5 hA5 s45 hb wb ob lb => ?_⟩
          exact ⟨b, ws, vs, rfl, hA5, same_trans s2 (same_trans s24 s45), hb, wb, ob, by have := szF_3 d3; omega⟩
      · rintro σ H2 ⟨a, ws, vs, rfl, b1, b2, b3, b4, b5, b6⟩
        refine ⟨_, rfl, _, _, rfl, .inr (SqT.of b3), _, _, rfl, rfl, _, rfl, ?_⟩
        refine ite2 (fun c => ?_) (fun _ => ?_)
        · have : ws.length ≤ 60 := by have := of_decide_eq_true c; rw [b4.1] at this; omega
          exact ⟨_, rfl, kq ws a vs H2 b1 b2 b3 b4 b5 this⟩
        · exact ⟨_, _, rfl, b1, b2⟩
    · rintro σ H1 ⟨t3, t4, rfl, hA1, s1⟩
      refine ⟨(by show 2 ≤ sizeLine; decide), fun x1 hx1 => ?_⟩
      have n1 := hA1.fresh hx1
      have hA2 := hA1.same (same_new (o := .tup [.str "x", .int 0]) (same_refl _) hx1)
      have s2 := newOff (o := .tup [.str "x", .int 0]) s1 hx1
      have g1 : upd H1 x1 (.tup [.str "x", .int 0]) x1 = some (.tup [.str "x", .int 0]) := upd_same
      generalize upd H1 x1 (.tup [.str "x", .int 0]) = H2 at hA2 s2 g1
      refine ⟨(by show 2 ≤ sizeLine; decide), fun x2 hx2 => ?_⟩
      have nx : nameQ "x" = true := by decide +kernel
      have wt : WdAt K (del H2 p) (.pr (some "x") (.int 0)) (.ref x1) := WdAt.tk (nameQ_B nx) (by rw [del_ne n1]; exact g1) rfl (by decide)
      exact kq ([.pr (some "x") (.int 0)] ++ [.st "x"]) x2 _ _ (hA2.same (same_new (same_refl _) hx2)) (newOff s2 hx2) upd_same (((WdsAt.one wt).app (WdsAt.one (WdAt.nm (nameQ_B nx)))).same (del_same_of (same_new (same_refl _) hx2))) (One.take nx (by decide) (One.name nx)) (by decide)
end
end LG

set_option Elab.async false
set_option linter.all false
set_option maxRecDepth 100000
set_option maxHeartbeats 4100000
namespace LG
open PySem PySem.Spec PyProof.Rows L2
/-- list(a text) -/
def signL (z : Str) : List V := z.cps.toList.map fun c => V.str ⟨#[c]⟩
def rListS : List V → Hp → VK → Prop := fun vs H Q => ∃ z : Str, vs = [.str z] ∧ z.length ≤ sizeLine ∧ ∀ q, H q = none → Q (.ref q) (upd H q (.lst (signL z)))
theorem cr_listS {X : Cx} (hc : X.calm = true) : CallR X (.type "list") rListS := by
  rintro pins s σ H vs us Q I r ⟨z, rfl, hz, q⟩
  (obtain ⟨u, rfl, rx⟩ := vals1 r)
  obtain ⟨t, rfl⟩ := rx
  refine call_list_str (I.ok.hd hc) z t (fun h' tk acc c' hk e' hi => ?_) hz
  have e : acc.toList.length = z.cps.size := by rw [Array.length_toList]; exact hi.1
  have vs : Vals (signL z) acc.toList := by
    refine vals_of_idx _ _ (by unfold signL; rw [List.length_map, e, Array.length_toList]) fun j u hj => ?_
    have hs := hi.2 j u (by rw [← hj, Array.getElem?_toList])
    obtain ⟨c, u', hc', rfl⟩ := hs
    exact ⟨.str ⟨#[c]⟩, by unfold signL; rw [List.getElem?_map, Array.getElem?_toList, hc']; rfl, ⟨u', rfl⟩⟩
  refine ⟨.ref s.heap.objs.size, upd H s.heap.objs.size (.lst (signL z)), I.laid hk (Nat.le_refl _) (show ObjOk X.prog X.w _ _ _ (.lst _) from ⟨?_, acc.toList, c', vs, ?_⟩), rfl, q _ (I.hok.fresh (Nat.le_refl _))⟩
  · unfold signL; rw [List.length_map, Array.length_toList]; exact hz
  · (rw [Array.toArray_toList]; exact e')
end LG

set_option Elab.async false
set_option linter.all false
set_option maxRecDepth 100000
set_option maxHeartbeats 8100000
set_option pp.maxSteps 400
namespace LG
open PySem L2 TL
abbrev sLSig : Stmt := top 50
abbrev sLAtm : Stmt := top 51
abbrev sLKnd : Stmt := top 52
/-! ### the law's own reader -/
def ps (z : Str) (l : List Nat) : Int := ((tl z).length : Int) - (l.length : Int)
def bad (z : Str) (l : List Nat) : Int := 0 - ps z l - 1
def At (z : Str) (l : List Nat) : Prop := ∃ p, tl z = p ++ l
theorem At.nat {z : Str} {l : List Nat} (h : At z l) : ∃ n : Nat, ps z l = (n : Int) ∧ (tl z).drop n = l ∧ n ≤ (tl z).length := by
  obtain ⟨p, e⟩ := h
  refine ⟨p.length, ?_, by rw [e, List.drop_left], by rw [e, List.length_append]; omega⟩
  unfold ps
  rw [e, List.length_append]
  omega
theorem At.suf {z : Str} {l m p : List Nat} (h : At z l) (e : l = p ++ m) : At z m := by
  obtain ⟨q, eq⟩ := h
  exact ⟨q ++ p, by rw [eq, e, List.append_assoc]⟩
theorem At.ndd {z : Str} {a l l2 : List Nat} (h : At z l) (e : ndd a l = (true, l2)) : At z l2 := h.suf (ndd_ok e)
theorem ps_cons {z : Str} {c : Nat} {l : List Nat} : ps z (c :: l) + 1 = ps z l := by
  unfold ps
  rw [List.length_cons]; omega
theorem ps_ge {z : Str} {l : List Nat} (h : At z l) : 0 ≤ ps z l := by
  obtain ⟨n, e, _⟩ := h.nat
  omega
theorem bad_lt {z : Str} {l : List Nat} (h : At z l) : bad z l < 0 := by
  have := ps_ge h
  unfold bad; omega
theorem slice1 {z : Str} {l : List Nat} (h : At z l) : Txt.slice z (some (ps z l)) (some (ps z l + 1)) = mk (l.take 1) := by
  obtain ⟨n, e, ed, hn⟩ := h.nat
  rw [← C8.cutS_slice, e]
  refine ext_tl ?_
  have zl : z.length = (tl z).length := tl_len.symm
  show (((z.cps.toList.drop (HT.sIx z.length 0 (some (n : Int)))).take (HT.sIx z.length z.length (some ((n : Int) + 1)) - HT.sIx z.length 0 (some (n : Int)))).toArray).toList = (mk (l.take 1)).cps.toList
  have hn2 : n ≤ z.length := by rw [zl]; exact hn
  rw [show ((n : Int) + 1) = ((n + 1 : Nat) : Int) by omega, HT.sIx_nat, HT.sIx_nat, Nat.min_eq_left hn2, show z.cps.toList.drop n = l from ed]
  show l.take _ = l.take 1
  have ll : l.length = (tl z).length - n := by rw [← ed, List.length_drop]
  rcases Nat.lt_or_ge n (tl z).length with q | q
  · rw [Nat.min_eq_left (by omega)]
    congr 1
    omega
  · rw [List.eq_nil_of_length_eq_zero (show l.length = 0 by omega)]
    simp
theorem t1_eq {l : List Nat} {c : Nat} : decide (V.str (mk (l.take 1)) = V.str (mk [c])) = decide (l.head? = some c) := by
  rw [decide_eq_decide]
  cases l with
  | nil =>
    refine ⟨fun h => ?_, fun h => by cases h⟩
    have h : mk [] = mk [c] := V.str.inj h
    have h : ([] : List Nat) = [c] := congrArg tl h
    cases h
  | cons d l =>
    refine ⟨fun h => ?_, fun h => ?_⟩
    · have h : mk [d] = mk [c] := V.str.inj h
      have h : [d] = [c] := congrArg tl h
      rw [(List.cons.inj h).1]; rfl
    · rw [Option.some.inj h]; rfl
theorem ps_app {z : Str} {p l : List Nat} : ps z (p ++ l) + (p.length : Int) = ps z l := by
  unfold ps
  rw [List.length_append]; omega
def spLSig : Sp := fun vs H Q _ => ∃ (z : Str) (l a : List Nat) (y : Str), vs = [.str z, .int (ps z l), .str y] ∧ tl y = a ∧ At z l ∧ (tl z).length ≤ 4000000 ∧
  (∀ l2, ndd a l = (true, l2) → Q (.int (ps z l2)) H) ∧ (∀ e, ndd a l = (false, e) → At z e → Q (.int (bad z e)) H)
/-- what a reader of the law hands back -/
def Ret {α : Type} (R : α → V → Prop) (z : Str) (x : V) (i : Int) : Ot α → Prop
  | .ok a l => R a x ∧ i = ps z l ∧ At z l
  | .err e => x = .non ∧ i = bad z e ∧ At z e
def gt : List Nat → Nat
  | [] => 0
  | c :: l => if c = 93 then 0 else if c = 62 then gt l + 1 else gt l
/-- behind a letter or ")" no part opens -/
def stp (c : Nat) : Prop := c = 41 ∨ (97 ≤ c ∧ c ≤ 122)
instance (c : Nat) : Decidable (stp c) := inferInstanceAs (Decidable (_ ∨ _))
def noOp (l : List Nat) : Prop := l.head? ≠ some 40 ∧ l.head? ≠ some 91
instance (l : List Nat) : Decidable (noOp l) := inferInstanceAs (Decidable (_ ∧ _))
/-- how many parts can open one in another from here on -/
def sw : List Nat → Nat
  | [] => 0
  | c :: l => (if c = 40 ∨ c = 91 then 1 else 0) + (if stp c ∧ ¬ noOp l then 0 else sw l)
theorem sw_c {c : Nat} {l : List Nat} (h1 : ¬ (c = 40 ∨ c = 91)) (h2 : ¬ stp c ∨ noOp l) : sw (c :: l) = sw l := by
  show (if c = 40 ∨ c = 91 then 1 else 0) + (if stp c ∧ ¬ noOp l then 0 else sw l) = sw l
  rw [if_neg h1, if_neg (fun q => h2.elim (fun a => a q.1) fun a => q.2 a)]; omega
theorem sw_op {c : Nat} {l : List Nat} (h1 : c = 40 ∨ c = 91) : sw (c :: l) = sw l + 1 := by
  show (if c = 40 ∨ c = 91 then 1 else 0) + (if stp c ∧ ¬ noOp l then 0 else sw l) = sw l + 1
  rw [if_pos h1, if_neg (fun q => by unfold stp at q; omega)]; omega
theorem noOp_c {c : Nat} {l : List Nat} (h1 : ¬ (c = 40 ∨ c = 91)) : noOp (c :: l) := ⟨fun q => h1 (.inl (Option.some.inj q)), fun q => h1 (.inr (Option.some.inj q))⟩
def kap (l : List Nat) : Nat := sw l + gt l
theorem kap_open {l : List Nat} : kap (40 :: l) = kap l + 1 := by
  unfold kap
  rw [sw_op (.inl rfl)]
  show sw l + 1 + (if (40 : Nat) = 93 then 0 else if (40 : Nat) = 62 then _ else gt l) = _
  rw [if_neg (by decide), if_neg (by decide)]; omega
theorem sw_ar (l : List Nat) : sw (ar3 ++ l) = sw l := by
  show sw (32 :: 62 :: 32 :: l) = sw l
  rw [sw_c (by decide) (.inl (by decide)), sw_c (by decide) (.inl (by decide)), sw_c (by decide) (.inl (by decide))]
theorem nop_ar {l l2 : List Nat} (h : ndd ar3 l = (true, l2)) : noOp l := by
  rw [ndd_ok h]
  exact noOp_c (by decide)
theorem kap_ar {l l2 : List Nat} (h : ndd ar3 l = (true, l2)) : kap l = kap l2 + 1 := by
  rw [ndd_ok h]
  unfold kap
  rw [sw_ar]
  have c7 : gt (ar3 ++ l2) = gt l2 + 1 := rfl
  rw [c7]; omega
theorem kap_cl {l l2 : List Nat} (h : ndd [41] l = (true, l2)) (n : noOp l2) : kap l = kap l2 ∧ noOp l := by
  rw [ndd_ok h]
  refine ⟨?_, noOp_c (by decide)⟩
  unfold kap
  show sw (41 :: l2) + gt (41 :: l2) = _
  rw [sw_c (by decide) (.inr n)]
  rfl
theorem kap_lt {i : Nat} {l : List Nat} (hi : i ≤ 25) (n : noOp l) : kap ((97 + i) :: l) = kap l := by
  unfold kap
  rw [sw_c (by omega) (.inr n)]
  show sw l + (if 97 + i = 93 then 0 else if 97 + i = 62 then _ else gt l) = _
  (rw [if_neg (by omega), if_neg (by omega)])
theorem rd_kap {b : Bool} {l : List Nat} {o : Ot Th} (h : Rd b l o) : ∀ k l1, o = .ok k l1 → noOp l1 → kap l1 ≤ kap l ∧ sw l1 ≤ sw l := by
  induction h with
  | lt hi =>
    intro k l1 q n; cases q
    rw [kap_lt hi n, sw_c (by omega) (.inr n)]; exact ⟨Nat.le_refl _, Nat.le_refl _⟩
  | @g5 l a l1 l2 b l3 l4 _ h2 _ h4 ih ih2 =>
    intro k l1' q n; cases q
    obtain ⟨e4, n3⟩ := kap_cl h4 n
    obtain ⟨a1, a2⟩ := ih _ _ rfl (nop_ar h2)
    obtain ⟨b1, b2⟩ := ih2 _ _ rfl n3
    have := kap_ar h2
    have e1 := ndd_ok h2
    have e5 := ndd_ok h4
    have s1 : sw l1 = sw l2 := by rw [e1]; exact sw_ar l2
    have s3 : sw l3 = sw l4 := by rw [e5]; exact sw_c (by decide) (.inr n)
    rw [kap_open, sw_op (.inl rfl)]; omega
  | k2 _ _ _ ih => exact ih
  | @k5 l a l1 l2 b l3 _ _ h3 _ ih ih2 =>
    intro k l1' q n; cases q
    obtain ⟨a1, a2⟩ := ih _ _ rfl (nop_ar h3)
    obtain ⟨b1, b2⟩ := ih2 _ _ rfl n
    have := kap_ar h3
    have e1 := ndd_ok h3
    have s1 : sw l1 = sw l2 := by rw [e1]; exact sw_ar l2
    omega
  | _ => intro k l1 q; cases q
theorem rd_any {b : Bool} {l : List Nat} {o : Ot Th} (h : Rd b l o) : ∀ k l1, o = .ok k l1 → k.any = true := by
  induction h with
  | @lt i l hi =>
    intro k l1 q; cases q
    show (decide (0 ≤ (i : Int)) && decide ((i : Int) ≤ 25)) = true
    rw [decide_eq_true (by omega), decide_eq_true (by omega)]; rfl
  | g5 _ h2 _ h4 ih ih2 =>
    intro k l1 q; cases q
    show (Th.any _ && Th.any _) = true
    rw [ih _ _ rfl, ih2 _ _ rfl]; rfl
  | k2 _ _ _ ih => exact ih
  | k5 _ _ h3 _ ih ih2 =>
    intro k l1 q; cases q
    show (Th.any _ && Th.any _) = true
    rw [ih _ _ rfl, ih2 _ _ rfl]; rfl
  | _ => intro k l1 q; cases q
theorem th_nn {K : PySem.W.Frag} {H : Hp} {t : Th} {v : V} (a : t.any = true) (h : ThAt K H t v) : v ≠ .non := by
  cases t with
  | int i =>
    have e : v = .int i := h
    rw [e]; intro q; cases q
  | pr l r =>
    obtain ⟨p, x, y, rfl, _⟩ := h
    intro q; cases q
  | bl b => cases a
  | non => cases a
  | tup => cases a
theorem inV_let {l : List Nat} : inV (.str (mk (l.take 1))) (signL letters) = isLt l := by
  cases l with
  | nil => decide +kernel
  | cons c l =>
    show ((letters.cps.toList.map fun d => V.str ⟨#[d]⟩).any fun y => eqV y (.str (mk [c]))) = decide (c ∈ letters.cps.toList)
    rw [List.any_map]
    generalize letters.cps.toList = L
    induction L with
    | nil => rfl
    | cons d L ih =>
      rw [List.any_cons, ih]
      show (eqV (.str ⟨#[d]⟩) (.str (mk [c])) || _) = _
      rw [Bool.eq_iff_iff, Bool.or_eq_true, decide_eq_true_eq, decide_eq_true_eq, List.mem_cons]
      refine or_congr ⟨fun h => ?_, fun h => ?_⟩ Iff.rfl
      · have h : (⟨#[d]⟩ : Str) = mk [c] := by simpa [eqV] using h
        have h : [d] = [c] := congrArg tl h
        exact (List.cons.inj h).1.symm
      · subst h
        simp [eqV, mk]
def spLAtm (K : PySem.W.Frag) (b : Bool) (m : Nat) : Sp := fun vs H Q _ => ∃ (z : Str) (l : List Nat), vs = [.str z, .int (ps z l)] ∧ At z l ∧ (tl z).length ≤ 4000000 ∧ kap l ≤ m ∧ ∀ O, Rd b l O → ∀ r x i H', Same H H' → H' r = some (.tup [x, .int i]) → Ret (ThAt K H') z x i O → Q (.ref r) H'
section
variable {P : Program} {w : World} {K : PySem.W.Frag} {mg : Str → Option Value} {base : Heap}
theorem scLSig : FnScope ["_law_text_here", "_law_at", "_law_signs_here", "_law_sign"] ["_law_text_here", "_law_at", "_law_signs_here"] (defScope sLSig) := ⟨rfl, rfl, rfl, by decide +kernel, rfl, by decide +kernel, by decide +kernel⟩
theorem ok_lsig {f : Addr} {fd : FuncData} (F : Fn K mg "_law_signs" sLSig ["_law_text_here", "_law_at", "_law_signs_here"] f fd) : FnOk P w K mg base CX0 1 f fd ["_law_text_here", "_law_at", "_law_signs_here"] spLSig := by
  refine F.F.ok scLSig (fun vs H Q E h => ?_) (fun cdv A outer s H vs Q E hr h => ?_)
  · obtain ⟨_, _, _, _, rfl, _⟩ := h
    rfl
  · obtain ⟨z, l, a, y, rfl, ey, hat, hz, kq, ke⟩ := h
    obtain rfl : y = mk a := ext_tl ey
    have nd := scLSig.nd
    refine ⟨_, pss_cons (ps_for PassesOwn.never rfl (pi_str (pv 2)) (pg_name (i := 3) nd rfl (Or.inl rfl))
        (pss_cons (ps_if (pt_cmpR op_ne (pe_slice C8.sl_txt (pv 0) (po_some (pv 1)) (po_some (pe_op op_add (pv 1) pe_int))) (pv 3) (nomark _))
            (pss_one (ps_ret (pe_op op_sub (pe_op op_sub pe_int (pv 1)) pe_int)))
            pss_nil)
        (pss_one (ps_set (i := 1) nd rfl (Or.inl rfl) (pe_op op_add (pv 1) pe_int)))))
    (pss_one (ps_ret (pv 1))), ?_⟩
    have zl : (tl z).length = z.length := tl_len
    refine ⟨_, rfl, _, rfl, ?_⟩
    refine for_it (walk_str (z := mk a)) (fun i σ H' => ∃ l' t, σ = [some (.str z), some (.int (ps z l')), some (.str (mk a)), t] ∧ H' = H ∧ At z l' ∧ ndd a l = ndd (a.drop i) l') ⟨l, none, rfl, rfl, hat, rfl⟩ (fun _ _ _ _ _ => trivial) ?_ ?_
    · rintro i y σ Hq H' hi ⟨l', t, rfl, rfl, h1, hn⟩ ⟨rfl, c, hc, rfl⟩
      have hc' : a[i]? = some c := by
        have := hc
        simpa [mk] using this
      have lt : i < a.length := by
        rcases Nat.lt_or_ge i a.length with q | q
        · exact q
        · rw [List.getElem?_eq_none q] at hc'; cases hc'
      have ed : a.drop i = c :: a.drop (i + 1) := by
        rw [List.drop_eq_getElem_cons lt]
        rw [List.getElem?_eq_getElem lt] at hc'
        rw [Option.some.inj hc']
      rw [ed] at hn
      refine ⟨_, rfl, _, rfl, _, rfl, _, rfl, _, _, rfl, rfl, _, rfl, z, rfl, big4 (by omega), _, rfl, rfl, ?_⟩
      rw [slice1 h1, show (V.str (⟨#[c]⟩ : Str)) = V.str (mk [c]) from rfl, t1_eq]
      by_cases hd : l'.head? = some c
      · rw [decide_eq_true hd]
        refine ⟨_, rfl, ?_⟩
        refine ifF rfl ?_
        cases l' with
        | nil => cases hd
        | cons c' l2 =>
          cases hd
          refine ⟨_, rfl, _, _, rfl, rfl, ?_⟩
          refine ⟨l2, _, by rw [← ps_cons (z := z) (c := c) (l := l2)]; rfl, rfl, h1.suf (p := [c]) rfl, ?_⟩
          rw [hn]
          show (if c = c then _ else _) = _
          rw [if_pos rfl]
      · rw [decide_eq_false hd]
        refine ⟨_, rfl, ?_⟩
        refine ifT rfl ?_
        have ef : ndd a l = (false, l') := by
          rw [hn]
          cases l' with
          | nil => rfl
          | cons c' l2 =>
            show (if c' = c then _ else _) = _
            rw [if_neg fun q => hd (by rw [q]; rfl)]
        exact ⟨_, rfl, _, _, rfl, rfl, _, _, rfl, rfl, ke _ ef h1⟩
    · rintro σ H' ⟨l', t, rfl, rfl, h1, hn⟩
      have el : (mk a).cps.size = a.length := by simp [mk]
      rw [el, List.drop_length] at hn
      exact ⟨_, rfl, kq l' hn⟩
end
end LG

set_option Elab.async false
set_option linter.all false
set_option maxRecDepth 100000
set_option maxHeartbeats 8100000
set_option pp.maxSteps 400
namespace LG
open PySem L2 TL
theorem Ret.mono {α : Type} {R R' : α → V → Prop} {z : Str} {x : V} {i : Int} {O : Ot α} (h : Ret R z x i O) (f : ∀ a v, R a v → R' a v) : Ret R' z x i O := by
  cases O with
  | ok a l => exact ⟨f _ _ h.1, h.2⟩
  | err e => exact h
theorem head40 {l : List Nat} (h : l.head? = some 40) : ∃ l', l = 40 :: l' := by
  cases l with
  | nil => cases h
  | cons c l => cases h; exact ⟨l, rfl⟩
theorem let_idx {c : Nat} (h : c ∈ letters.cps.toList) : ∃ i, i ≤ 25 ∧ c = 97 + i := by
  have all : ∀ d ∈ letters.cps.toList, 97 ≤ d ∧ d ≤ 122 := by decide +kernel
  have := all c h
  exact ⟨c - 97, by omega, by omega⟩
theorem At.one {z : Str} {c : Nat} {l : List Nat} (h : At z (c :: l)) : At z l := h.suf (p := [c]) rfl
theorem int_ge {z : Str} {l : List Nat} (h : At z l) : decide (ps z l < 0) = false := decide_eq_false (by have := ps_ge h; omega)
theorem int_lt {z : Str} {l : List Nat} (h : At z l) : decide (bad z l < 0) = true := decide_eq_true (bad_lt h)
section
variable {P : Program} {w : World} {K : PySem.W.Frag} {mg : Str → Option Value} {base : Heap}
theorem scLAtm : FnScope ["_law_text_here", "_law_at", "_law_left", "_law_behind", "_law_right"] ["_law_text_here", "_law_at"] (defScope sLAtm) := ⟨rfl, rfl, rfl, by decide +kernel, rfl, by decide +kernel, by decide +kernel⟩
theorem scLKnd : FnScope ["_law_text_here", "_law_at", "_law_first", "_law_left", "_law_behind", "_law_right"] ["_law_text_here", "_law_at"] (defScope sLKnd) := ⟨rfl, rfl, rfl, by decide +kernel, rfl, by decide +kernel, by decide +kernel⟩
theorem ok_latm {f fS fK : Addr} {fd fdS fdK : FuncData} {n m : Nat} {spA spK : Sp} (NA : Fn K mg "_law_read_atom" sLAtm ["_law_text_here", "_law_at"] f fd) (NS : Fn K mg "_law_signs" sLSig ["_law_text_here", "_law_at", "_law_signs_here"] fS fdS) (NK : Fn K mg "_law_read_kind" sLKnd ["_law_text_here", "_law_at"] fK fdK)
    (GA : FnOk P w K mg base CX0 n f fd ["_law_text_here", "_law_at"] spA) (GK : FnOk P w K mg base CX0 n fK fdK ["_law_text_here", "_law_at"] spK) (hn : 1 ≤ n) (hA : ∀ m', m = m' + 1 → spA = spLAtm K true m') (hK : ∀ m', m = m' + 2 → spK = spLAtm K false m') (T : TxB mg) (T2 : TxD mg) (T3 : TxK mg) : FnOk P w K mg base CX0 (n + 1) f fd ["_law_text_here", "_law_at"] (spLAtm K true m) := by
  have GS : FnOk P w K mg base CX0 1 fS fdS ["_law_text_here", "_law_at", "_law_signs_here"] spLSig := ok_lsig NS
  refine NA.F.ok scLAtm (fun vs H Q E h => ?_) (fun cdv A outer s H vs Q E hr h => ?_)
  · obtain ⟨_, _, rfl, _⟩ := h
    rfl
  · obtain ⟨z, l, rfl, hat, hz, hk, kq⟩ := h
    have nd := scLAtm.nd
    have hr1 := hr.mono hn
    have hrA := hr
    have hrK := hr
    have zl : (tl z).length = z.length := tl_len
    have out : ∀ O, Rd true l O → ∀ x i H1, Same H H1 → Ret (ThAt K H1) z x i O → ∀ q, H1 q = none → Q (.ref q) (upd H1 q (.tup [x, .int i])) := fun O h x i H1 s1 hr q hq =>
      have s2 := same_new (o := .tup [x, V.int i]) (same_refl H1) hq
      kq O h q x i _ (same_trans s1 s2) upd_same (hr.mono fun _ _ h => h.same s2)
    refine ⟨_, pss_cons (ps_if (pt_cmpR op_ne (pe_slice C8.sl_txt (pv 0) (po_some (pv 1)) (po_some (pe_op op_add (pv 1) pe_int))) pe_str (nomark _))
        (pss_cons (ps_if (pt_cmpR op_in_seq (pe_slice C8.sl_txt (pv 0) (po_some (pv 1)) (po_some (pe_op op_add (pv 1) pe_int))) (pe_callTy (cr_listS rfl) (by rfl) T2.list (by decide +kernel) (pa_cons pe_str pa_nil)) (by rfl))
            (pss_one (ps_ret (pe_tup (pa_cons (pe_bm PySem.F.plainAttrs_str PySem.F.slot_str_index PySem.F.type_str_index mt_sindex pe_str (pa_cons (pe_ix ix_str (pv 0) (pv 1) (fun _ _ => rfl)) pa_nil)) (pa_cons (pe_op op_add (pv 1) pe_int) pa_nil)))))
            pss_nil)
        (pss_one (ps_ret (pe_tup (pa_cons pe_non (pa_cons (pe_op op_sub (pe_op op_sub pe_int (pv 1)) pe_int) pa_nil))))))
        pss_nil)
    (pss_cons (ps_asg (pe_call GA hrA (by rfl) NA.m NA.F.kp NA.b .nil pass0 (pa_cons (pv 0) (pa_cons (pe_op op_add (pv 1) pe_int) pa_nil))) (pg_tup rfl (pgs_cons (pg_name (i := 2) nd rfl (Or.inl rfl)) (pgs_cons (pg_name (i := 3) nd rfl (Or.inl rfl)) pgs_nil))))
    (pss_cons (ps_if (pt_cmpR op_isN (pv 2) pe_non (nomark _))
        (pss_one (ps_ret (pe_tup (pa_cons pe_non (pa_cons (pv 3) pa_nil)))))
        pss_nil)
    (pss_cons (ps_set (i := 3) nd rfl (Or.inl rfl) (pe_call GS hr1 (by rfl) NS.m NS.F.kp NS.b .nil pass0 (pa_cons (pv 0) (pa_cons (pv 3) (pa_cons pe_str pa_nil)))))
    (pss_cons (ps_if (pt_cmpR op_lt (pv 3) pe_int (nomark _))
        (pss_one (ps_ret (pe_tup (pa_cons pe_non (pa_cons (pv 3) pa_nil)))))
        pss_nil)
    (pss_cons (ps_asg (pe_call GK hrK (by rfl) NK.m NK.F.kp NK.b .nil pass0 (pa_cons (pv 0) (pa_cons (pv 3) pa_nil))) (pg_tup rfl (pgs_cons (pg_name (i := 4) nd rfl (Or.inl rfl)) (pgs_cons (pg_name (i := 3) nd rfl (Or.inl rfl)) pgs_nil))))
    (pss_cons (ps_if (pt_cmpR op_isN (pv 4) pe_non (nomark _))
        (pss_one (ps_ret (pe_tup (pa_cons pe_non (pa_cons (pv 3) pa_nil)))))
        pss_nil)
    (pss_cons (ps_set (i := 3) nd rfl (Or.inl rfl) (pe_call GS hr1 (by rfl) NS.m NS.F.kp NS.b .nil pass0 (pa_cons (pv 0) (pa_cons (pv 3) (pa_cons pe_str pa_nil)))))
    (pss_one (ps_ret (pe_ifExp (pt_cmpR op_lt (pv 3) pe_int (nomark _)) (pe_tup (pa_cons pe_non (pa_cons (pv 3) pa_nil))) (pe_tup (pa_cons (pe_tup (pa_cons (pv 2) (pa_cons (pv 4) pa_nil))) (pa_cons (pv 3) pa_nil))))))))))))), ?_⟩
    refine ⟨_, rfl, _, rfl, _, rfl, _, rfl, _, _, rfl, rfl, _, rfl, z, rfl, big4 (by omega), rfl, ?_⟩
    rw [slice1 hat, show (V.str ("(" : Str)) = V.str (mk [40]) from rfl, t1_eq]
    refine ⟨_, rfl, ?_⟩
    by_cases h40 : l.head? = some 40
    · rw [decide_eq_true h40]
      refine ifF rfl ?_
      obtain ⟨l', rfl⟩ := head40 h40
      have k1 := kap_open (l := l')
      obtain ⟨m1, rfl⟩ : ∃ m1, m = m1 + 1 := ⟨m - 1, by omega⟩
      obtain rfl := hA m1 rfl
      refine ⟨_, rfl, _, rfl, _, _, rfl, rfl, z, l', (by rw [← ps_cons (z := z) (c := 40) (l := l')]; rfl), hat.one, hz, by omega, fun O hO r x i H1 s1 hr1' hR => ?_⟩
      refine ⟨r, _, rfl, SqT.of hr1', rfl, _, _, rfl, _, _, rfl, rfl, ?_⟩
      cases O with
      | err e =>
        obtain ⟨rfl, rfl, ate⟩ := hR
        refine ⟨_, rfl, rfl, _, rfl, ?_⟩
        refine ifT rfl ?_
        exact ⟨_, rfl, (by show 2 ≤ sizeLine; decide), fun q hq => out _ (.g1 hO) _ _ H1 s1 ⟨rfl, rfl, ate⟩ q hq⟩
      | ok a l1 =>
        obtain ⟨ha, rfl, at1⟩ := hR
        have nn := th_nn (rd_any hO _ _ rfl) ha
        refine ⟨_, rfl, rfl, _, rfl, ?_⟩
        refine ifF (decide_eq_false nn) ?_
        refine ⟨_, rfl, _, rfl, z, l1, ar3, _, rfl, (by decide +kernel), at1, hz, fun l2 e2 => ?_, fun e e2 ate => ?_⟩
        · refine ⟨_, rfl, _, _, rfl, rfl, _, rfl, ?_⟩
          refine ifF (int_ge (at1.ndd e2)) ?_
          have k3 := kap_ar e2
          have k2 := (rd_kap hO _ _ rfl (nop_ar e2)).1
          obtain ⟨m2, rfl⟩ : ∃ m2, m1 = m2 + 1 := ⟨m1 - 1, by omega⟩
          obtain rfl := hK m2 rfl
          refine ⟨_, rfl, _, rfl, z, l2, rfl, at1.ndd e2, hz, by omega, fun O2 hO2 r2 x2 i2 H2 s2 hr2 hR2 => ?_⟩
          have s12 := same_trans s1 s2
          refine ⟨r2, _, rfl, SqT.of hr2, rfl, _, _, rfl, _, _, rfl, rfl, ?_⟩
          cases O2 with
          | err e =>
            obtain ⟨rfl, rfl, ate⟩ := hR2
            refine ⟨_, rfl, rfl, _, rfl, ?_⟩
            refine ifT rfl ?_
            exact ⟨_, rfl, (by show 2 ≤ sizeLine; decide), fun q hq => out _ (.g3 hO e2 hO2) _ _ H2 s12 ⟨rfl, rfl, ate⟩ q hq⟩
          | ok b l3 =>
            obtain ⟨hb, rfl, at3⟩ := hR2
            have nn2 := th_nn (rd_any hO2 _ _ rfl) hb
            refine ⟨_, rfl, rfl, _, rfl, ?_⟩
            refine ifF (decide_eq_false nn2) ?_
            refine ⟨_, rfl, _, rfl, z, l3, [41], _, rfl, (by decide +kernel), at3, hz, fun l4 e4 => ?_, fun e e4 ate => ?_⟩
            · refine ⟨_, rfl, _, _, rfl, rfl, _, rfl, ?_⟩
              refine ifF (int_ge (at3.ndd e4)) ?_
              refine ⟨_, rfl, _, rfl, (by show 2 ≤ sizeLine; decide), fun q hq => ⟨_, rfl, (by show 2 ≤ sizeLine; decide), fun q2 hq2 => ?_⟩⟩
              have s3 := same_new (o := .tup [x, x2]) (same_refl H2) hq
              exact out _ (.g5 hO e2 hO2 e4) _ _ _ (same_trans s12 s3) ⟨⟨q, _, _, rfl, upd_same, (ha.same s2).same s3, hb.same s3⟩, rfl, at3.ndd e4⟩ q2 hq2
            · refine ⟨_, rfl, _, _, rfl, rfl, _, rfl, ?_⟩
              refine ifT (int_lt ate) ?_
              exact ⟨_, rfl, (by show 2 ≤ sizeLine; decide), fun q hq => out _ (.g4 hO e2 hO2 e4) _ _ H2 s12 ⟨rfl, rfl, ate⟩ q hq⟩
        · refine ⟨_, rfl, _, _, rfl, rfl, _, rfl, ?_⟩
          refine ifT (int_lt ate) ?_
          exact ⟨_, rfl, (by show 2 ≤ sizeLine; decide), fun q hq => out _ (.g2 hO e2) _ _ H1 s1 ⟨rfl, rfl, ate⟩ q hq⟩
    · rw [decide_eq_false h40]
      refine ifT rfl ?_
      refine ⟨_, rfl, _, rfl, _, rfl, _, rfl, _, _, rfl, rfl, _, rfl, z, rfl, big4 (by omega), _, rfl, (by decide +kernel), fun q hq => ?_⟩
      have s1 := same_new (o := .lst (signL letters)) (same_refl H) hq
      refine ⟨q, _, rfl, .inl (SqL.of upd_same), rfl, (by decide +kernel), ?_⟩
      refine ⟨_, rfl, ?_⟩
      cases il : isLt l with
      | true =>
        refine ifT (by show inV _ (signL letters) = true; rw [slice1 hat, inV_let, il]) ?_
        obtain ⟨c, l1, rfl, hc⟩ := isLt_iff.mp il
        obtain ⟨i, hi, rfl⟩ : ∃ i, i ≤ 25 ∧ c = 97 + i := let_idx hc
        obtain ⟨oc, hoc⟩ := idx_at hi
        obtain ⟨n0, en, ed, hn0⟩ := hat.nat
        obtain ⟨g1, _, lt⟩ := drop_at ed
        refine ⟨rfl, _, rfl, _, rfl, z, _, 97 + i, rfl, rfl, big4 (by omega), (by rw [en]; exact atI_nat g1), letters, _, i, oc, rfl, rfl, hoc, _, rfl, _, _, rfl, rfl, (by show 2 ≤ sizeLine; decide), fun q2 hq2 => ?_⟩
        exact out _ (.lt hi) _ _ _ s1 ⟨rfl, ps_cons, hat.one⟩ q2 hq2
      | false =>
        refine ifF (by show inV _ (signL letters) = false; rw [slice1 hat, inV_let, il]) ?_
        exact ⟨_, rfl, _, _, rfl, rfl, _, _, rfl, rfl, (by show 2 ≤ sizeLine; decide), fun q2 hq2 => out _ (.bad il h40) _ _ _ s1 ⟨rfl, rfl, hat⟩ q2 hq2⟩
end
end LG

set_option Elab.async false
set_option linter.all false
set_option maxRecDepth 100000
set_option maxHeartbeats 8100000
set_option pp.maxSteps 400
namespace LG
open PySem L2 TL
section
variable {P : Program} {w : World} {K : PySem.W.Frag} {mg : Str → Option Value} {base : Heap}
theorem ok_lknd1 {f fS fA : Addr} {fd fdS fdA : FuncData} {n m : Nat} {spK : Sp} (NK : Fn K mg "_law_read_kind" sLKnd ["_law_text_here", "_law_at"] f fd) (NS : Fn K mg "_law_signs" sLSig ["_law_text_here", "_law_at", "_law_signs_here"] fS fdS) (NA : Fn K mg "_law_read_atom" sLAtm ["_law_text_here", "_law_at"] fA fdA)
    (GA : FnOk P w K mg base CX0 n fA fdA ["_law_text_here", "_law_at"] (spLAtm K true m)) (GK : FnOk P w K mg base CX0 n f fd ["_law_text_here", "_law_at"] spK) (hn : 1 ≤ n) (hK : ∀ m', m = m' + 1 → spK = spLAtm K false m') : FnOk P w K mg base CX0 (n + 1) f fd ["_law_text_here", "_law_at"] (spLAtm K false m) := by
  have GS : FnOk P w K mg base CX0 1 fS fdS ["_law_text_here", "_law_at", "_law_signs_here"] spLSig := ok_lsig NS
  refine NK.F.ok scLKnd (fun vs H Q E h => ?_) (fun cdv A outer s H vs Q E hr h => ?_)
  · obtain ⟨_, _, rfl, _⟩ := h
    rfl
  · obtain ⟨z, l, rfl, hat, hz, hk, kq⟩ := h
    have nd := scLKnd.nd
    have hr1 := hr.mono hn
    have hrA := hr
    have hrK := hr
    have zl : (tl z).length = z.length := tl_len
    have out : ∀ O, Rd false l O → ∀ x i H1, Same H H1 → Ret (ThAt K H1) z x i O → ∀ q, H1 q = none → Q (.ref q) (upd H1 q (.tup [x, .int i])) := fun O h x i H1 s1 hr q hq =>
      have s2 := same_new (o := .tup [x, V.int i]) (same_refl H1) hq
      kq O h q x i _ (same_trans s1 s2) upd_same (hr.mono fun _ _ h => h.same s2)
    refine ⟨_, pss_cons (ps_set (i := 2) nd rfl (Or.inl rfl) (pe_slice C8.sl_txt (pv 0) (po_some (pv 1)) (po_some (pe_op op_add (pv 1) pe_int))))
    (pss_cons (ps_asg (pe_call GA hrA (by rfl) NA.m NA.F.kp NA.b .nil pass0 (pa_cons (pv 0) (pa_cons (pv 1) pa_nil))) (pg_tup rfl (pgs_cons (pg_name (i := 3) nd rfl (Or.inl rfl)) (pgs_cons (pg_name (i := 4) nd rfl (Or.inl rfl)) pgs_nil))))
    (pss_cons (ps_if (pt_cmpR op_isN (pv 3) pe_non (nomark _))
        (pss_one (ps_ret (pe_tup (pa_cons pe_non (pa_cons (pv 4) pa_nil)))))
        pss_nil)
    (pss_cons (ps_if (PW.pt (pw_and (pt_cmpR op_ne (pe_slice C8.sl_txt (pv 0) (po_some (pv 4)) (po_some (pe_op op_add (pv 4) pe_int))) pe_str (nomark _)) (pw_and1 (pt_cmpR op_ne (pv 2) pe_str (nomark _)))))
        (pss_one (ps_ret (pe_tup (pa_cons (pv 3) (pa_cons (pv 4) pa_nil)))))
        pss_nil)
    (pss_cons (ps_set (i := 4) nd rfl (Or.inl rfl) (pe_call GS hr1 (by rfl) NS.m NS.F.kp NS.b .nil pass0 (pa_cons (pv 0) (pa_cons (pv 4) (pa_cons pe_str pa_nil)))))
    (pss_cons (ps_if (pt_cmpR op_lt (pv 4) pe_int (nomark _))
        (pss_one (ps_ret (pe_tup (pa_cons pe_non (pa_cons (pv 4) pa_nil)))))
        pss_nil)
    (pss_cons (ps_asg (pe_call GK hrK (by rfl) NK.m NK.F.kp NK.b .nil pass0 (pa_cons (pv 0) (pa_cons (pv 4) pa_nil))) (pg_tup rfl (pgs_cons (pg_name (i := 5) nd rfl (Or.inl rfl)) (pgs_cons (pg_name (i := 4) nd rfl (Or.inl rfl)) pgs_nil))))
    (pss_one (ps_ret (pe_ifExp (pt_cmpR op_isN (pv 5) pe_non (nomark _)) (pe_tup (pa_cons pe_non (pa_cons (pv 4) pa_nil))) (pe_tup (pa_cons (pe_tup (pa_cons (pv 3) (pa_cons (pv 5) pa_nil))) (pa_cons (pv 4) pa_nil)))))))))))), ?_⟩
    refine ⟨_, rfl, _, rfl, _, rfl, _, rfl, _, _, rfl, rfl, _, rfl, z, rfl, big4 (by omega), ?_⟩
    rw [slice1 hat]
    refine ⟨_, rfl, _, rfl, z, l, rfl, hat, hz, hk, fun O hO r x i H1 s1 hr1' hR => ?_⟩
    refine ⟨r, _, rfl, SqT.of hr1', rfl, _, _, rfl, _, _, rfl, rfl, ?_⟩
    cases O with
    | err e =>
      obtain ⟨rfl, rfl, ate⟩ := hR
      refine ⟨_, rfl, rfl, _, rfl, ?_⟩
      refine ifT rfl ?_
      exact ⟨_, rfl, (by show 2 ≤ sizeLine; decide), fun q hq => out _ (.k1 hO) _ _ H1 s1 ⟨rfl, rfl, ate⟩ q hq⟩
    | ok a l1 =>
      obtain ⟨ha, rfl, at1⟩ := hR
      have nn := th_nn (rd_any hO _ _ rfl) ha
      refine ⟨_, rfl, rfl, _, rfl, ?_⟩
      refine ifF (decide_eq_false nn) ?_
      refine ⟨_, rfl, _, rfl, _, rfl, _, rfl, _, _, rfl, rfl, _, rfl, z, rfl, big4 (by omega), rfl, ?_⟩
      rw [slice1 at1, show (V.str (" " : Str)) = V.str (mk [32]) from rfl, t1_eq]
      refine ⟨_, rfl, ?_⟩
      by_cases c : l.head? = some 40 ∨ l1.head? = some 32
      · by_cases h32 : l1.head? = some 32
        · rw [decide_eq_true h32]
          refine ifF rfl ?_
          refine ifF rfl ?_
          refine ⟨_, rfl, _, rfl, z, l1, ar3, _, rfl, (by decide +kernel), at1, hz, fun l2 e2 => ?_, fun e e2 ate => ?_⟩
          · refine ⟨_, rfl, _, _, rfl, rfl, _, rfl, ?_⟩
            refine ifF (int_ge (at1.ndd e2)) ?_
            have k3 := kap_ar e2
            have k2 := (rd_kap hO _ _ rfl (nop_ar e2)).1
            obtain ⟨m2, rfl⟩ : ∃ m2, m = m2 + 1 := ⟨m - 1, by omega⟩
            obtain rfl := hK m2 rfl
            refine ⟨_, rfl, _, rfl, z, l2, rfl, at1.ndd e2, hz, by omega, fun O2 hO2 r2 x2 i2 H2 s2 hr2 hR2 => ?_⟩
            have s12 := same_trans s1 s2
            refine ⟨r2, _, rfl, SqT.of hr2, rfl, _, _, rfl, _, _, rfl, rfl, ?_⟩
            cases O2 with
            | err e =>
              obtain ⟨rfl, rfl, ate⟩ := hR2
              refine ⟨_, rfl, rfl, _, rfl, ?_⟩
              refine ifT rfl ?_
              exact ⟨_, rfl, (by show 2 ≤ sizeLine; decide), fun q hq => out _ (.k4 hO c e2 hO2) _ _ H2 s12 ⟨rfl, rfl, ate⟩ q hq⟩
            | ok b l3 =>
              obtain ⟨hb, rfl, at3⟩ := hR2
              have nn2 := th_nn (rd_any hO2 _ _ rfl) hb
              refine ⟨_, rfl, rfl, _, rfl, ?_⟩
              refine ifF (decide_eq_false nn2) ?_
              refine ⟨_, rfl, _, rfl, (by show 2 ≤ sizeLine; decide), fun q hq => ⟨_, rfl, (by show 2 ≤ sizeLine; decide), fun q2 hq2 => ?_⟩⟩
              have s3 := same_new (o := .tup [x, x2]) (same_refl H2) hq
              exact out _ (.k5 hO c e2 hO2) _ _ _ (same_trans s12 s3) ⟨⟨q, _, _, rfl, upd_same, (ha.same s2).same s3, hb.same s3⟩, rfl, at3⟩ q2 hq2
          · refine ⟨_, rfl, _, _, rfl, rfl, _, rfl, ?_⟩
            refine ifT (int_lt ate) ?_
            exact ⟨_, rfl, (by show 2 ≤ sizeLine; decide), fun q hq => out _ (.k3 hO c e2) _ _ H1 s1 ⟨rfl, rfl, ate⟩ q hq⟩
        · rw [decide_eq_false h32]
          refine ifT rfl ?_
          refine ⟨_, rfl, rfl, ?_⟩
          rw [show (V.str ("(" : Str)) = V.str (mk [40]) from rfl, t1_eq, decide_eq_true (c.resolve_right h32)]
          refine ⟨_, rfl, ?_⟩
          refine ifF rfl ?_
          refine ⟨_, rfl, _, rfl, z, l1, ar3, _, rfl, (by decide +kernel), at1, hz, fun l2 e2 => ?_, fun e e2 ate => ?_⟩
          · refine ⟨_, rfl, _, _, rfl, rfl, _, rfl, ?_⟩
            refine ifF (int_ge (at1.ndd e2)) ?_
            have k3 := kap_ar e2
            have k2 := (rd_kap hO _ _ rfl (nop_ar e2)).1
            obtain ⟨m2, rfl⟩ : ∃ m2, m = m2 + 1 := ⟨m - 1, by omega⟩
            obtain rfl := hK m2 rfl
            refine ⟨_, rfl, _, rfl, z, l2, rfl, at1.ndd e2, hz, by omega, fun O2 hO2 r2 x2 i2 H2 s2 hr2 hR2 => ?_⟩
            have s12 := same_trans s1 s2
            refine ⟨r2, _, rfl, SqT.of hr2, rfl, _, _, rfl, _, _, rfl, rfl, ?_⟩
            cases O2 with
            | err e =>
              obtain ⟨rfl, rfl, ate⟩ := hR2
              refine ⟨_, rfl, rfl, _, rfl, ?_⟩
              refine ifT rfl ?_
              exact ⟨_, rfl, (by show 2 ≤ sizeLine; decide), fun q hq => out _ (.k4 hO c e2 hO2) _ _ H2 s12 ⟨rfl, rfl, ate⟩ q hq⟩
            | ok b l3 =>
              obtain ⟨hb, rfl, at3⟩ := hR2
              have nn2 := th_nn (rd_any hO2 _ _ rfl) hb
              refine ⟨_, rfl, rfl, _, rfl, ?_⟩
              refine ifF (decide_eq_false nn2) ?_
              refine ⟨_, rfl, _, rfl, (by show 2 ≤ sizeLine; decide), fun q hq => ⟨_, rfl, (by show 2 ≤ sizeLine; decide), fun q2 hq2 => ?_⟩⟩
              have s3 := same_new (o := .tup [x, x2]) (same_refl H2) hq
              exact out _ (.k5 hO c e2 hO2) _ _ _ (same_trans s12 s3) ⟨⟨q, _, _, rfl, upd_same, (ha.same s2).same s3, hb.same s3⟩, rfl, at3⟩ q2 hq2
          · refine ⟨_, rfl, _, _, rfl, rfl, _, rfl, ?_⟩
            refine ifT (int_lt ate) ?_
            exact ⟨_, rfl, (by show 2 ≤ sizeLine; decide), fun q hq => out _ (.k3 hO c e2) _ _ H1 s1 ⟨rfl, rfl, ate⟩ q hq⟩
      · obtain ⟨c1, c2⟩ := not_or.mp c
        rw [decide_eq_false c2]
        refine ifT rfl ?_
        refine ⟨_, rfl, rfl, ?_⟩
        rw [show (V.str ("(" : Str)) = V.str (mk [40]) from rfl, t1_eq, decide_eq_false c1]
        refine ⟨_, rfl, ?_⟩
        refine ifT rfl ?_
        exact ⟨_, rfl, _, rfl, (by show 2 ≤ sizeLine; decide), fun q hq => out _ (.k2 hO c1 c2) _ _ H1 s1 ⟨ha, rfl, at1⟩ q hq⟩
theorem ok_lrec {fA fK fS : Addr} {fdA fdK fdS : FuncData} (NA : Fn K mg "_law_read_atom" sLAtm ["_law_text_here", "_law_at"] fA fdA) (NK : Fn K mg "_law_read_kind" sLKnd ["_law_text_here", "_law_at"] fK fdK) (NS : Fn K mg "_law_signs" sLSig ["_law_text_here", "_law_at", "_law_signs_here"] fS fdS) (T : TxB mg) (T2 : TxD mg) (T3 : TxK mg) :
    ∀ m, FnOk P w K mg base CX0 (m + 2) fA fdA ["_law_text_here", "_law_at"] (spLAtm K true m) ∧ FnOk P w K mg base CX0 (m + 3) fK fdK ["_law_text_here", "_law_at"] (spLAtm K false m) := by
  have A0 : FnOk P w K mg base CX0 1 fA fdA ["_law_text_here", "_law_at"] (fun _ _ _ _ => False) := NA.F.ok scLAtm (fun vs H Q E h => False.elim h) (fun cdv A outer s H vs Q E hr h => False.elim h)
  have K0 : ∀ n, FnOk P w K mg base CX0 (n + 1) fK fdK ["_law_text_here", "_law_at"] (fun _ _ _ _ => False) := fun n => NK.F.ok scLKnd (fun vs H Q E h => False.elim h) (fun cdv A outer s H vs Q E hr h => False.elim h)
  intro m
  induction m using
      Nat.strongRecOn with
  | _ m ih =>
    have at_ : FnOk P w K mg base CX0 (m + 2) fA fdA ["_law_text_here", "_law_at"] (spLAtm K true m) := by
      match m, ih with
      | 0, _ => exact ok_latm NA NS NK A0 (K0 0) (Nat.le_refl _) (fun m' e => by omega) (fun m' e => by omega) T T2 T3
      | 1, ih => exact ok_latm NA NS NK (ih 0 (by omega)).1 (K0 1) (by omega) (fun m' e => by rw [show m' = 0 from by omega]) (fun m' e => by omega) T T2 T3
      | m + 2, ih => exact ok_latm NA NS NK (ih (m + 1) (by omega)).1 (ih m (by omega)).2 (by omega) (fun m' e => by rw [show m' = m + 1 from by omega]) (fun m' e => by rw [show m' = m from by omega]) T T2 T3
    refine ⟨at_, ?_⟩
    match m, ih, at_ with
    | 0, _, at_ => exact ok_lknd1 NK NS NA at_ (K0 1) (by omega) (fun m' e => by omega)
    | m + 1, ih, at_ => exact ok_lknd1 NK NS NA at_ (ih m (by omega)).2 (by omega) (fun m' e => by rw [show m' = m from by omega])
end
end LG

set_option Elab.async false
set_option linter.all false
set_option maxRecDepth 100000
set_option maxHeartbeats 8100000
set_option pp.maxSteps 400
namespace LG
open PySem L2 TL
abbrev sLNam : Stmt := top 53
abbrev sLTak : Stmt := top 54
abbrev sLWds : Stmt := top 55
theorem sliceN {z : Str} {l : List Nat} {i : Nat} (h : At z l) (hi : i ≤ l.length) : Txt.slice z (some (ps z l)) (some (ps z l + (i : Int))) = mk (l.take i) := by
  obtain ⟨n, e, ed, hn⟩ := h.nat
  rw [← C8.cutS_slice, e]
  refine ext_tl ?_
  have zl : z.length = (tl z).length := tl_len.symm
  show (((z.cps.toList.drop (HT.sIx z.length 0 (some (n : Int)))).take (HT.sIx z.length z.length (some ((n : Int) + (i : Int))) - HT.sIx z.length 0 (some (n : Int)))).toArray).toList = (mk (l.take i)).cps.toList
  have hn2 : n ≤ z.length := by rw [zl]; exact hn
  have ll : l.length = (tl z).length - n := by rw [← ed, List.length_drop]
  rw [show ((n : Int) + (i : Int)) = ((n + i : Nat) : Int) by omega, HT.sIx_nat, HT.sIx_nat, Nat.min_eq_left hn2, Nat.min_eq_left (show n + i ≤ z.length by omega), show z.cps.toList.drop n = l from ed]
  show l.take _ = l.take i
  congr 1
  omega
theorem ps_drop {z : Str} {l : List Nat} {i : Nat} (hi : i ≤ l.length) : ps z (l.drop i) = ps z l + (i : Int) := by
  unfold ps
  rw [List.length_drop]; omega
theorem At.drop {z : Str} {l : List Nat} (h : At z l) (i : Nat) : At z (l.drop i) := h.suf (p := l.take i) (List.take_append_drop i l).symm
/-- no part of the text holds more than R signs ">" ahead of the next "]" -/
def GtB (z : Str) (R : Nat) : Prop := ∀ p m, tl z = p ++ m → gt m ≤ R
theorem rp_len {l : List Nat} {o : Ot (List Wd)} (h : Rp l o) : ∀ ws l1, o = .ok ws l1 → ws.length + l1.length ≤ l.length ∧ ws ≠ [] := by
  induction h with
  | t3 h1 _ ih =>
    intro ws l1 q; cases q
    have := ih _ _ rfl; have := rt_len h1
    refine ⟨?_, by simp⟩
    simp only [List.length_cons]
    omega
  | n2 _ _ h3 =>
    intro ws l1 q; cases q
    have := rdN_len h3
    refine ⟨?_, by simp⟩
    (simp only [List.length_cons, List.length_nil])
    omega
  | u5 _ h2 _ h4 ih ih2 =>
    intro ws l1 q; cases q
    have := ih _ _ rfl; have := ih2 _ _ rfl; have := ndd_len h2; have := ndd_len h4
    refine ⟨?_, by simp⟩
    simp only [List.length_cons, List.length_nil, List.length_append] at *
    omega
  | _ => intro ws l1 q; cases q
theorem rdN_at {z : Str} {l l1 : List Nat} {y : Str} (h : rdN l = .ok y l1) : ∃ p, l = p ++ l1 := by
  unfold rdN at h
  split at h
  · cases h
    exact ⟨l.take (nmT l).length, (List.take_append_drop _ _).symm⟩
  · cases h
theorem sw_name : ∀ (p l : List Nat), (∀ d ∈ p, isC d = true) → noOp l → sw (p ++ l) = sw l
  | [], l, _, _ => rfl
  | c :: p, l, h, n => by
    have hc : c ∈ letters.cps.toList := of_decide_eq_true (h c List.mem_cons_self)
    obtain ⟨i, hi, rfl⟩ := let_idx hc
    have ih := sw_name p l (fun d hd => h d (List.mem_cons_of_mem _ hd)) n
    have np : noOp (p ++ l) := by
      cases p with
      | nil => exact n
      | cons d q =>
        have hd : d ∈ letters.cps.toList := of_decide_eq_true (h d (List.mem_cons_of_mem _ List.mem_cons_self))
        obtain ⟨j, hj, rfl⟩ := let_idx hd
        exact noOp_c (by omega)
    show sw ((97 + i) :: (p ++ l)) = sw l
    rw [sw_c (by omega) (.inr np), ih]
theorem rdN_sw {l l1 : List Nat} {y : Str} (h : rdN l = .ok y l1) (n : noOp l1) : sw l1 ≤ sw l := by
  unfold rdN at h
  split at h
  · cases h
    have h1 : nmT l <+: l := List.IsPrefix.trans (List.takeWhile_prefix _) (List.take_prefix _ _)
    have e : nmT l ++ l.drop (nmT l).length = l := List.prefix_iff_eq_append.mp h1
    have := sw_name (nmT l) (l.drop (nmT l).length) (fun d hd => by unfold nmT at hd; exact mem_tw hd) n
    rw [e] at this
    omega
  · cases h
def spLNam : Sp := fun vs H Q _ => ∃ (z : Str) (l : List Nat), vs = [.str z, .int (ps z l)] ∧ At z l ∧ (tl z).length ≤ 4000000 ∧ ∀ r x i H', Same H H' → H' r = some (.tup [x, .int i]) → Ret (fun y v => v = .str y) z x i (rdN l) → Q (.ref r) H'
def TkAt (K : PySem.W.Frag) (H : Hp) (p : Str × Th) (v : V) : Prop := ∃ a y, v = .ref a ∧ H a = some (.tup [.str p.1, y]) ∧ ThAt K H p.2 y
def WsAt (K : PySem.W.Frag) (H : Hp) (ws : List Wd) (v : V) : Prop := ∃ a us, v = .ref a ∧ H a = some (.tup us) ∧ WdsAt K H ws us
def spLTak (K : PySem.W.Frag) (R n : Nat) : Sp := fun vs H Q _ => ∃ (z : Str) (l : List Nat), vs = [.str z, .int (ps z l)] ∧ At z l ∧ (tl z).length ≤ 4000000 ∧ GtB z R ∧ sw l ≤ n ∧ ∀ O, Rt l O → ∀ r x i H', Same H H' → H' r = some (.tup [x, .int i]) → Ret (TkAt K H') z x i O → Q (.ref r) H'
def spLWds (K : PySem.W.Frag) (R n : Nat) : Sp := fun vs H Q _ => ∃ (z : Str) (l : List Nat), vs = [.str z, .int (ps z l)] ∧ At z l ∧ (tl z).length ≤ 4000000 ∧ GtB z R ∧ SmK z ∧ sw l ≤ n ∧ ∀ O, Rp l O → ∀ r x i H', Same H H' → H' r = some (.tup [x, .int i]) → Ret (WsAt K H') z x i O → Q (.ref r) H'
section
variable {P : Program} {w : World} {K : PySem.W.Frag} {mg : Str → Option Value} {base : Heap}
theorem scLNam : FnScope ["_law_text_here", "_law_at", "_law_behind"] ["_law_text_here", "_law_at"] (defScope sLNam) := ⟨rfl, rfl, rfl, by decide +kernel, rfl, by decide +kernel, by decide +kernel⟩
theorem ok_lnam {f : Addr} {fd : FuncData} (F : Fn K mg "_law_read_name" sLNam ["_law_text_here", "_law_at"] f fd) (T : TxB mg) (T2 : TxK mg) : FnOk P w K mg base CX0 1 f fd ["_law_text_here", "_law_at"] spLNam := by
  refine F.F.ok scLNam (fun vs H Q E h => ?_) (fun cdv A outer s H vs Q E hr h => ?_)
  · obtain ⟨_, _, rfl, _⟩ := h
    rfl
  · obtain ⟨z, l, rfl, hat, hz, kq⟩ := h
    have nd := scLNam.nd
    have zl : (tl z).length = z.length := tl_len
    refine ⟨_, pss_cons (ps_set (i := 2) nd rfl (Or.inl rfl) (pv 1))
    (Evl.pss_cut (ps_while PassesOwn.never (PW.pt (pw_and (pt_cmpR op_lt (pv 2) (pe_op op_add (pv 1) pe_int) (nomark _)) (pw_and1 (pt_cmpR op_in_seq (pe_slice C8.sl_txt (pv 0) (po_some (pv 2)) (po_some (pe_op op_add (pv 2) pe_int))) (pe_callTy (cr_listS rfl) (by rfl) T2.list (by decide +kernel) (pa_cons pe_str pa_nil)) (by rfl)))))
        (pss_one (ps_set (i := 2) nd rfl (Or.inl rfl) (pe_op op_add (pv 2) pe_int))))
    (pss_one (ps_ret (pe_ifExp (pt_cmpR op_gt (pv 2) (pv 1) (nomark _)) (pe_tup (pa_cons (pe_slice C8.sl_txt (pv 0) (po_some (pv 1)) (po_some (pv 2))) (pa_cons (pv 2) pa_nil))) (pe_tup (pa_cons pe_non (pa_cons (pe_op op_sub (pe_op op_sub pe_int (pv 1)) pe_int) pa_nil))))))), ?_⟩
    refine ⟨_, rfl, ?_⟩
    refine ⟨fun σ H' => ∃ i, i ≤ 8 ∧ i ≤ l.length ∧ (∀ d ∈ l.take i, isC d = true) ∧ σ = [some (.str z), some (.int (ps z l)), some (.int (ps z l + (i : Int)))] ∧ Same H H' ∧ (i = 8 ∨ isLt (l.drop i) = false), ?_, ?_⟩
    refine ⟨fun m σ H' => ∃ i, m = 8 - i ∧ i ≤ 8 ∧ i ≤ l.length ∧ (∀ d ∈ l.take i, isC d = true) ∧ σ = [some (.str z), some (.int (ps z l)), some (.int (ps z l + (i : Int)))] ∧ Same H H', ⟨_, 0, rfl, by decide, Nat.zero_le _, (fun d hd => by rw [List.take_zero] at hd; cases hd), by rw [show ps z l + ((0 : Nat) : Int) = ps z l by omega]; rfl, same_refl _⟩, ?_⟩
    rintro m σ H' ⟨i, rfl, i8, il, hl, rfl, s1⟩
    have e1 := slice1 (hat.drop i)
    rw [ps_drop il] at e1
    refine ⟨_, rfl, _, rfl, _, _, rfl, rfl, _, _, rfl, rfl, _, rfl, ?_⟩
    by_cases lt8 : i < 8
    · refine ifT (decide_eq_true (by omega)) ?_
      refine ⟨_, rfl, _, rfl, _, rfl, _, rfl, _, _, rfl, rfl, _, rfl, z, rfl, big4 (by omega), _, rfl, (by decide +kernel), fun q hq => ?_⟩
      have s2 := same_trans s1 (same_new (o := .lst (signL letters)) (same_refl H') hq)
      refine ⟨q, _, rfl, .inl (SqL.of upd_same), rfl, (by decide +kernel), ?_⟩
      refine ⟨_, rfl, ?_⟩
      cases i2 : isLt (l.drop i) with
      | true =>
        refine ifT (by show inV _ (signL letters) = true; rw [e1, inV_let, i2]) ?_
        refine ⟨fun σ'' H'' => ∃ m', m' < 8 - i ∧ ∃ i, m' = 8 - i ∧ i ≤ 8 ∧ i ≤ l.length ∧ (∀ d ∈ l.take i, isC d = true) ∧ σ'' = [some (.str z), some (.int (ps z l)), some (.int (ps z l + (i : Int)))] ∧ Same H H'', fun σ'' H'' z => z, ?_⟩
        obtain ⟨c2, q2, e2, hc2⟩ := isLt_iff.mp i2
        have lt2 : i < l.length := by
          rcases Nat.lt_or_ge i l.length with q | q
          · exact q
          · rw [List.drop_eq_nil_of_le q] at e2; cases e2
        have e4 : l.take (i + 1) = l.take i ++ [c2] := by
          have := List.drop_eq_getElem_cons lt2
          rw [e2] at this
          rw [(List.cons.inj this).1, List.take_append_getElem lt2]
        refine ⟨_, rfl, _, _, rfl, rfl, _, (by omega : 8 - (i + 1) < _), i + 1, rfl, lt8, lt2, ?_, ?_, s2⟩
        · intro d hd
          rw [e4] at hd
          rcases List.mem_append.mp hd with q | q
          · exact hl d q
          · rw [List.mem_singleton] at q
            subst q
            exact decide_eq_true hc2
        · show [_, _, some (V.int _)] = [_, _, some (V.int _)]
          rw [show ps z l + (i : Int) + 1 = ps z l + ((i + 1 : Nat) : Int) by omega]
      | false =>
        refine ifF (by show inV _ (signL letters) = false; rw [e1, inV_let, i2]) ?_
        exact ⟨i, i8, il, hl, rfl, s2, .inr i2⟩
    · refine ifF (decide_eq_false (by omega)) ?_
      refine ifF rfl ?_
      exact ⟨i, i8, il, hl, rfl, s1, .inl (by omega)⟩
    rintro _ H2 ⟨i, i8, il, hl, rfl, s1, st⟩
    have en := nmT_of i8 hl il st
    refine ⟨_, rfl, _, rfl, _, _, rfl, rfl, _, rfl, ?_⟩
    by_cases i0 : 0 < i
    · refine ifT (decide_eq_true (by omega)) ?_
      refine ⟨_, rfl, _, rfl, _, rfl, _, rfl, _, rfl, z, rfl, big4 (by omega), _, rfl, (by show 2 ≤ sizeLine; decide), fun q hq => ?_⟩
      rw [sliceN hat il]
      have il2 : isLt l = true := by
        cases l with
        | nil => rw [List.length_nil] at il; omega
        | cons c l =>
          obtain ⟨i', rfl⟩ : ∃ i', i = i' + 1 := ⟨i - 1, by omega⟩
          exact hl c (by rw [List.take_succ_cons]; exact List.mem_cons_self)
      refine kq q _ _ _ (same_trans s1 (same_new (same_refl H2) hq)) upd_same ?_
      unfold rdN
      rw [if_pos il2, en, List.length_take, Nat.min_eq_left il]
      exact ⟨rfl, (ps_drop il).symm, hat.drop i⟩
    · refine ifF (decide_eq_false (by omega)) ?_
      refine ⟨_, rfl, _, _, rfl, rfl, _, _, rfl, rfl, (by show 2 ≤ sizeLine; decide), fun q hq => ?_⟩
      have il2 : isLt l = false := by
        rcases st with st | st
        · omega
        · rw [show i = 0 by omega, List.drop_zero] at st; exact st
      refine kq q _ _ _ (same_trans s1 (same_new (same_refl H2) hq)) upd_same ?_
      unfold rdN
      rw [il2]
      exact ⟨rfl, rfl, hat⟩
end
end LG

set_option Elab.async false
set_option linter.all false
set_option maxRecDepth 100000
set_option maxHeartbeats 8100000
set_option pp.maxSteps 400
namespace LG
open PySem L2 TL
theorem rd_at {b : Bool} {l : List Nat} {o : Ot Th} (h : Rd b l o) : ∀ k l1, o = .ok k l1 → ∃ p, l = p ++ l1 := by
  induction h with
  | @lt i l hi => intro k l1 q; cases q; exact ⟨[97 + i], rfl⟩
  | @g5 l a l1 l2 b l3 l4 _ h2 _ h4 ih ih2 =>
    intro k l1' q; cases q
    obtain ⟨p, e⟩ := ih _ _ rfl
    obtain ⟨p2, e2⟩ := ih2 _ _ rfl
    have e1 := ndd_ok h2
    have e4 := ndd_ok h4
    refine ⟨40 :: (p ++ (ar3 ++ (p2 ++ [41]))), ?_⟩
    rw [e, e1, e2, e4]; simp
  | k2 _ _ _ ih => exact ih
  | @k5 l a l1 l2 b l3 _ _ h3 _ ih ih2 =>
    intro k l1' q; cases q
    obtain ⟨p, e⟩ := ih _ _ rfl
    obtain ⟨p2, e2⟩ := ih2 _ _ rfl
    have e1 := ndd_ok h3
    refine ⟨p ++ (ar3 ++ p2), ?_⟩
    rw [e, e1, e2]; simp
  | _ => intro k l1 q; cases q
theorem rt_at {l l1 : List Nat} {x : Str × Th} (h : Rt l (.ok x l1)) : ∃ p, l = p ++ l1 := by
  cases h with
  | o h1 h2 h3 h4 =>
    obtain ⟨p, e⟩ := rdN_at (z := ("" : Str)) h1
    obtain ⟨p2, e2⟩ := rd_at h3 _ _ rfl
    have a := ndd_ok h2
    have b := ndd_ok h4
    refine ⟨p ++ ([58] ++ (p2 ++ [93, 32])), ?_⟩
    rw [e, a, e2, b]; simp
theorem rp_at {l : List Nat} {o : Ot (List Wd)} (h : Rp l o) : ∀ ws l1, o = .ok ws l1 → ∃ p, l = p ++ l1 := by
  induction h with
  | t3 h1 _ ih =>
    intro ws l1 q; cases q
    obtain ⟨p, e⟩ := ih _ _ rfl
    obtain ⟨p2, e2⟩ := rt_at h1
    refine ⟨91 :: (p2 ++ p), ?_⟩
    rw [e2, e]; simp
  | n2 _ _ h3 => intro ws l1 q; cases q; exact rdN_at (z := ("" : Str)) h3
  | @u5 l a l1 l2 b l3 l4 _ h2 _ h4 ih ih2 =>
    intro ws l1' q; cases q
    obtain ⟨p, e⟩ := ih _ _ rfl
    obtain ⟨p2, e2⟩ := ih2 _ _ rfl
    have e1 := ndd_ok h2
    have e4 := ndd_ok h4
    refine ⟨40 :: (p ++ ([32] ++ (p2 ++ [41]))), ?_⟩
    rw [e, e1, e2, e4]; simp
  | _ => intro ws l1 q; cases q
theorem nop_of {c : Nat} {l m : List Nat} (e : l = c :: m) (h : ¬ (c = 40 ∨ c = 91)) : noOp l := by rw [e]; exact noOp_c h
theorem rt_sw {l l1 : List Nat} {x : Str × Th} (h : Rt l (.ok x l1)) : sw l1 ≤ sw l := by
  cases h with
  | o h1 h2 h3 h4 =>
    have e2 := ndd_ok h2
    have e4 := ndd_ok h4
    have n1 := nop_of (c := 58) e2 (by decide)
    have n3 := nop_of (c := 93) e4 (by decide)
    have a := rdN_sw h1 n1
    have b := (rd_kap h3 _ _ rfl n3).2
    have c := (congrArg sw e2).trans (sw_c (by decide) (.inl (by decide)))
    have d := (congrArg sw e4).trans ((sw_c (c := 93) (by decide) (.inl (by decide))).trans (sw_c (c := 32) (by decide) (.inl (by decide))))
    exact Nat.le_trans (Nat.le_of_eq d.symm) (Nat.le_trans b (Nat.le_trans (Nat.le_of_eq c.symm) a))
theorem rp_sw {l : List Nat} {o : Ot (List Wd)} (h : Rp l o) : ∀ ws l1, o = .ok ws l1 → noOp l1 → sw l1 ≤ sw l := by
  induction h with
  | t3 h1 _ ih =>
    intro ws l1 q n; cases q
    have := ih _ _ rfl n
    have := rt_sw h1
    rw [sw_op (.inr rfl)]; omega
  | n2 _ _ h3 => intro ws l1 q n; cases q; exact rdN_sw h3 n
  | @u5 l a l1 l2 b l3 l4 _ h2 _ h4 ih ih2 =>
    intro ws l1' q n; cases q
    have e2 := ndd_ok h2
    have e4 := ndd_ok h4
    have n1 : noOp l1 := by rw [e2]; exact noOp_c (by decide)
    have n3 : noOp l3 := by rw [e4]; exact noOp_c (by decide)
    have a1 := ih _ _ rfl n1
    have a2 := ih2 _ _ rfl n3
    have c : sw l1 = sw l2 := by rw [e2]; exact sw_c (by decide) (.inl (by decide))
    have d : sw l3 = sw l4 := by rw [e4]; exact sw_c (by decide) (.inr n)
    rw [sw_op (.inl rfl)]; omega
  | _ => intro ws l1 q; cases q
section
variable {P : Program} {w : World} {K : PySem.W.Frag} {mg : Str → Option Value} {base : Heap}
theorem scLTak : FnScope ["_law_text_here", "_law_at", "_law_name", "_law_behind", "_law_kind_here"] ["_law_text_here", "_law_at"] (defScope sLTak) := ⟨rfl, rfl, rfl, by decide +kernel, rfl, by decide +kernel, by decide +kernel⟩
theorem ok_ltak {f fN fS fK : Addr} {fd fdN fdS fdK : FuncData} {R m : Nat} (F : Fn K mg "_law_read_take" sLTak ["_law_text_here", "_law_at"] f fd) (NN : Fn K mg "_law_read_name" sLNam ["_law_text_here", "_law_at"] fN fdN) (NS : Fn K mg "_law_signs" sLSig ["_law_text_here", "_law_at", "_law_signs_here"] fS fdS) (NK : Fn K mg "_law_read_kind" sLKnd ["_law_text_here", "_law_at"] fK fdK)
    (GK : FnOk P w K mg base CX0 (m + R + 3) fK fdK ["_law_text_here", "_law_at"] (spLAtm K false (m + R))) (T : TxB mg) (T2 : TxK mg) : FnOk P w K mg base CX0 (m + R + 4) f fd ["_law_text_here", "_law_at"] (spLTak K R m) := by
  have GS : FnOk P w K mg base CX0 1 fS fdS ["_law_text_here", "_law_at", "_law_signs_here"] spLSig := ok_lsig NS
  have GN : FnOk P w K mg base CX0 1 fN fdN ["_law_text_here", "_law_at"] spLNam := ok_lnam NN T T2
  refine F.F.ok scLTak (fun vs H Q E h => ?_) (fun cdv A outer s H vs Q E hr h => ?_)
  · obtain ⟨_, _, rfl, _⟩ := h
    rfl
  · obtain ⟨z, l, rfl, hat, hz, hG, hk, kq⟩ := h
    have nd := scLTak.nd
    have hr1 := hr.mono (show 1 ≤ m + R + 3 by omega)
    have hrN := hr1
    have hrK := hr
    have out : ∀ O, Rt l O → ∀ x i H1, Same H H1 → Ret (TkAt K H1) z x i O → ∀ q, H1 q = none → Q (.ref q) (upd H1 q (.tup [x, .int i])) := fun O h x i H1 s1 hr q hq => by
      have s2 := same_new (o := .tup [x, V.int i]) (same_refl H1) hq
      exact kq O h q x i _ (same_trans s1 s2) upd_same (hr.mono fun _ _ ⟨a, y, e, h1, h2⟩ => ⟨a, y, e, s2 _ _ h1, h2.same s2⟩)
    refine ⟨_, pss_cons (ps_asg (pe_call GN hrN (by rfl) NN.m NN.F.kp NN.b .nil pass0 (pa_cons (pv 0) (pa_cons (pv 1) pa_nil))) (pg_tup rfl (pgs_cons (pg_name (i := 2) nd rfl (Or.inl rfl)) (pgs_cons (pg_name (i := 3) nd rfl (Or.inl rfl)) pgs_nil))))
    (pss_cons (ps_if (pt_cmpR op_isN (pv 2) pe_non (nomark _))
        (pss_one (ps_ret (pe_tup (pa_cons pe_non (pa_cons (pv 3) pa_nil)))))
        pss_nil)
    (pss_cons (ps_set (i := 3) nd rfl (Or.inl rfl) (pe_call GS hr1 (by rfl) NS.m NS.F.kp NS.b .nil pass0 (pa_cons (pv 0) (pa_cons (pv 3) (pa_cons pe_str pa_nil)))))
    (pss_cons (ps_if (pt_cmpR op_lt (pv 3) pe_int (nomark _))
        (pss_one (ps_ret (pe_tup (pa_cons pe_non (pa_cons (pv 3) pa_nil)))))
        pss_nil)
    (pss_cons (ps_asg (pe_call GK hrK (by rfl) NK.m NK.F.kp NK.b .nil pass0 (pa_cons (pv 0) (pa_cons (pv 3) pa_nil))) (pg_tup rfl (pgs_cons (pg_name (i := 4) nd rfl (Or.inl rfl)) (pgs_cons (pg_name (i := 3) nd rfl (Or.inl rfl)) pgs_nil))))
    (pss_cons (ps_if (pt_cmpR op_isN (pv 4) pe_non (nomark _))
        (pss_one (ps_ret (pe_tup (pa_cons pe_non (pa_cons (pv 3) pa_nil)))))
        pss_nil)
    (pss_cons (ps_set (i := 3) nd rfl (Or.inl rfl) (pe_call GS hr1 (by rfl) NS.m NS.F.kp NS.b .nil pass0 (pa_cons (pv 0) (pa_cons (pv 3) (pa_cons pe_str pa_nil)))))
    (pss_one (ps_ret (pe_ifExp (pt_cmpR op_lt (pv 3) pe_int (nomark _)) (pe_tup (pa_cons pe_non (pa_cons (pv 3) pa_nil))) (pe_tup (pa_cons (pe_tup (pa_cons (pv 2) (pa_cons (pv 4) pa_nil))) (pa_cons (pv 3) pa_nil)))))))))))), ?_⟩
    refine ⟨_, rfl, _, rfl, z, l, rfl, hat, hz, fun r x i H1 s1 hr1' hR => ?_⟩
    refine ⟨r, _, rfl, SqT.of hr1', rfl, _, _, rfl, _, _, rfl, rfl, ?_⟩
    cases eO : rdN l with
    | err e =>
      rw [eO] at hR
      obtain ⟨rfl, rfl, ate⟩ := hR
      refine ⟨_, rfl, rfl, _, rfl, ?_⟩
      refine ifT rfl ?_
      exact ⟨_, rfl, (by show 2 ≤ sizeLine; decide), fun q hq => out _ (.n eO) _ _ H1 s1 ⟨rfl, rfl, ate⟩ q hq⟩
    | ok y l1 =>
      rw [eO] at hR
      obtain ⟨rfl, rfl, at1⟩ := hR
      obtain ⟨p1, ep1⟩ := rdN_at (z := z) eO
      refine ⟨_, rfl, rfl, _, rfl, ?_⟩
      refine ifF (decide_eq_false (by simp)) ?_
      refine ⟨_, rfl, _, rfl, z, l1, [58], _, rfl, (by decide +kernel), at1, hz, fun l2 e2 => ?_, fun e e2 ate => ?_⟩
      · refine ⟨_, rfl, _, _, rfl, rfl, _, rfl, ?_⟩
        refine ifF (int_ge (at1.ndd e2)) ?_
        have at2 := at1.ndd e2
        have kp : kap l2 ≤ m + R := by
          obtain ⟨p, e⟩ := at2
          have g := hG p l2 e
          have n1 : noOp l1 := by rw [ndd_ok e2]; exact noOp_c (by decide)
          have c1 := rdN_sw eO n1
          have c2 : sw l1 = sw l2 := by rw [ndd_ok e2]; exact sw_c (by decide) (.inl (by decide))
          unfold kap
          omega
        refine ⟨_, rfl, _, rfl, z, l2, rfl, at2, hz, kp, fun O2 hO2 r2 x2 i2 H2 s2 hr2 hR2 => ?_⟩
        have s12 := same_trans s1 s2
        refine ⟨r2, _, rfl, SqT.of hr2, rfl, _, _, rfl, _, _, rfl, rfl, ?_⟩
        cases O2 with
        | err e =>
          obtain ⟨rfl, rfl, ate⟩ := hR2
          refine ⟨_, rfl, rfl, _, rfl, ?_⟩
          refine ifT rfl ?_
          exact ⟨_, rfl, (by show 2 ≤ sizeLine; decide), fun q hq => out _ (.k eO e2 hO2) _ _ H2 s12 ⟨rfl, rfl, ate⟩ q hq⟩
        | ok b l3 =>
          obtain ⟨hb, rfl, at3⟩ := hR2
          have nn2 := th_nn (rd_any hO2 _ _ rfl) hb
          refine ⟨_, rfl, rfl, _, rfl, ?_⟩
          refine ifF (decide_eq_false nn2) ?_
          refine ⟨_, rfl, _, rfl, z, l3, [93, 32], _, rfl, (by decide +kernel), at3, hz, fun l4 e4 => ?_, fun e e4 ate => ?_⟩
          · refine ⟨_, rfl, _, _, rfl, rfl, _, rfl, ?_⟩
            refine ifF (int_ge (at3.ndd e4)) ?_
            refine ⟨_, rfl, _, rfl, (by show 2 ≤ sizeLine; decide), fun q hq => ⟨_, rfl, (by show 2 ≤ sizeLine; decide), fun q2 hq2 => ?_⟩⟩
            have s3 := same_new (o := .tup [.str y, x2]) (same_refl H2) hq
            exact out _ (.o eO e2 hO2 e4) _ _ _ (same_trans s12 s3) ⟨⟨q, _, rfl, upd_same, hb.same s3⟩, rfl, at3.ndd e4⟩ q2 hq2
          · refine ⟨_, rfl, _, _, rfl, rfl, _, rfl, ?_⟩
            refine ifT (int_lt ate) ?_
            exact ⟨_, rfl, (by show 2 ≤ sizeLine; decide), fun q hq => out _ (.b eO e2 hO2 e4) _ _ H2 s12 ⟨rfl, rfl, ate⟩ q hq⟩
      · refine ⟨_, rfl, _, _, rfl, rfl, _, rfl, ?_⟩
        refine ifT (int_lt ate) ?_
        exact ⟨_, rfl, (by show 2 ≤ sizeLine; decide), fun q hq => out _ (.c eO e2) _ _ H1 s1 ⟨rfl, rfl, ate⟩ q hq⟩
theorem scLWds : FnScope ["_law_text_here", "_law_at", "_law_take", "_law_behind", "_law_body", "_law_name", "_law_one", "_law_other"] ["_law_text_here", "_law_at"] (defScope sLWds) := ⟨rfl, rfl, rfl, by decide +kernel, rfl, by decide +kernel, by decide +kernel⟩
theorem ok_lwds1 {f fN fS fT : Addr} {fd fdN fdS fdT : FuncData} {R n m : Nat} {spW : Sp} (NW : Fn K mg "_law_read_words" sLWds ["_law_text_here", "_law_at"] f fd) (NN : Fn K mg "_law_read_name" sLNam ["_law_text_here", "_law_at"] fN fdN) (NS : Fn K mg "_law_signs" sLSig ["_law_text_here", "_law_at", "_law_signs_here"] fS fdS) (NT : Fn K mg "_law_read_take" sLTak ["_law_text_here", "_law_at"] fT fdT)
    (GT : FnOk P w K mg base CX0 n fT fdT ["_law_text_here", "_law_at"] (spLTak K R m)) (GW : FnOk P w K mg base CX0 n f fd ["_law_text_here", "_law_at"] spW) (hn : 1 ≤ n) (hW : ∀ m', m = m' + 1 → spW = spLWds K R m') (T : TxB mg) (T2 : TxK mg) : FnOk P w K mg base CX0 (n + 1) f fd ["_law_text_here", "_law_at"] (spLWds K R m) := by
  have GS : FnOk P w K mg base CX0 1 fS fdS ["_law_text_here", "_law_at", "_law_signs_here"] spLSig := ok_lsig NS
  have GN : FnOk P w K mg base CX0 1 fN fdN ["_law_text_here", "_law_at"] spLNam := ok_lnam NN T T2
  refine NW.F.ok scLWds (fun vs H Q E h => ?_) (fun cdv A outer s H vs Q E hr h => ?_)
  · obtain ⟨_, _, rfl, _⟩ := h
    rfl
  · obtain ⟨z, l, rfl, hat, hz, hG, hS, hk, kq⟩ := h
    have nd := scLWds.nd
    have hr1 := hr.mono hn
    have hrN := hr1
    have hrT := hr
    have hrW := hr
    have zl : (tl z).length = z.length := tl_len
    have out : ∀ O, Rp l O → ∀ x i H1, Same H H1 → Ret (WsAt K H1) z x i O → ∀ q, H1 q = none → Q (.ref q) (upd H1 q (.tup [x, .int i])) := fun O h x i H1 s1 hr q hq => by
      have s2 := same_new (o := .tup [x, V.int i]) (same_refl H1) hq
      exact kq O h q x i _ (same_trans s1 s2) upd_same (hr.mono fun _ _ ⟨a, y, e, h1, h2⟩ => ⟨a, y, e, s2 _ _ h1, h2.same s2⟩)
    refine ⟨_, pss_cons (ps_if (pt_cmpR op_eq (pe_slice C8.sl_txt (pv 0) (po_some (pv 1)) (po_some (pe_op op_add (pv 1) pe_int))) pe_str (nomark _))
        (pss_cons (ps_asg (pe_call GT hrT (by rfl) NT.m NT.F.kp NT.b .nil pass0 (pa_cons (pv 0) (pa_cons (pe_op op_add (pv 1) pe_int) pa_nil))) (pg_tup rfl (pgs_cons (pg_name (i := 2) nd rfl (Or.inl rfl)) (pgs_cons (pg_name (i := 3) nd rfl (Or.inl rfl)) pgs_nil))))
        (pss_cons (ps_if (pt_cmpR op_isN (pv 2) pe_non (nomark _))
            (pss_one (ps_ret (pe_tup (pa_cons pe_non (pa_cons (pv 3) pa_nil)))))
            pss_nil)
        (pss_cons (ps_asg (pe_call GW hrW (by rfl) NW.m NW.F.kp NW.b .nil pass0 (pa_cons (pv 0) (pa_cons (pv 3) pa_nil))) (pg_tup rfl (pgs_cons (pg_name (i := 4) nd rfl (Or.inl rfl)) (pgs_cons (pg_name (i := 3) nd rfl (Or.inl rfl)) pgs_nil))))
        (pss_one (ps_ret (pe_ifExp (pt_cmpR op_isN (pv 4) pe_non (nomark _)) (pe_tup (pa_cons pe_non (pa_cons (pv 3) pa_nil))) (pe_tup (pa_cons (pe_op op_catA (pe_tup (pa_cons (pv 2) pa_nil)) (pv 4)) (pa_cons (pv 3) pa_nil)))))))))
        pss_nil)
    (pss_cons (ps_if (pt_cmpR op_ne (pe_slice C8.sl_txt (pv 0) (po_some (pv 1)) (po_some (pe_op op_add (pv 1) pe_int))) pe_str (nomark _))
        (pss_cons (ps_asg (pe_call GN hrN (by rfl) NN.m NN.F.kp NN.b .nil pass0 (pa_cons (pv 0) (pa_cons (pv 1) pa_nil))) (pg_tup rfl (pgs_cons (pg_name (i := 5) nd rfl (Or.inl rfl)) (pgs_cons (pg_name (i := 3) nd rfl (Or.inl rfl)) pgs_nil))))
        (pss_one (ps_ret (pe_ifExp (pt_cmpR op_isN (pv 5) pe_non (nomark _)) (pe_tup (pa_cons pe_non (pa_cons (pv 3) pa_nil))) (pe_tup (pa_cons (pe_tup (pa_cons (pv 5) pa_nil)) (pa_cons (pv 3) pa_nil)))))))
        pss_nil)
    (pss_cons (ps_asg (pe_call GW hrW (by rfl) NW.m NW.F.kp NW.b .nil pass0 (pa_cons (pv 0) (pa_cons (pe_op op_add (pv 1) pe_int) pa_nil))) (pg_tup rfl (pgs_cons (pg_name (i := 6) nd rfl (Or.inl rfl)) (pgs_cons (pg_name (i := 3) nd rfl (Or.inl rfl)) pgs_nil))))
    (pss_cons (ps_if (pt_cmpR op_isN (pv 6) pe_non (nomark _))
        (pss_one (ps_ret (pe_tup (pa_cons pe_non (pa_cons (pv 3) pa_nil)))))
        pss_nil)
    (pss_cons (ps_set (i := 3) nd rfl (Or.inl rfl) (pe_call GS hr1 (by rfl) NS.m NS.F.kp NS.b .nil pass0 (pa_cons (pv 0) (pa_cons (pv 3) (pa_cons pe_str pa_nil)))))
    (pss_cons (ps_if (pt_cmpR op_lt (pv 3) pe_int (nomark _))
        (pss_one (ps_ret (pe_tup (pa_cons pe_non (pa_cons (pv 3) pa_nil)))))
        pss_nil)
    (pss_cons (ps_asg (pe_call GW hrW (by rfl) NW.m NW.F.kp NW.b .nil pass0 (pa_cons (pv 0) (pa_cons (pv 3) pa_nil))) (pg_tup rfl (pgs_cons (pg_name (i := 7) nd rfl (Or.inl rfl)) (pgs_cons (pg_name (i := 3) nd rfl (Or.inl rfl)) pgs_nil))))
    (pss_cons (ps_if (pt_cmpR op_isN (pv 7) pe_non (nomark _))
        (pss_one (ps_ret (pe_tup (pa_cons pe_non (pa_cons (pv 3) pa_nil)))))
        pss_nil)
    (pss_cons (ps_set (i := 3) nd rfl (Or.inl rfl) (pe_call GS hr1 (by rfl) NS.m NS.F.kp NS.b .nil pass0 (pa_cons (pv 0) (pa_cons (pv 3) (pa_cons pe_str pa_nil)))))
    (pss_one (ps_ret (pe_ifExp (pt_cmpR op_lt (pv 3) pe_int (nomark _)) (pe_tup (pa_cons pe_non (pa_cons (pv 3) pa_nil))) (pe_tup (pa_cons (pe_op op_catA (pe_op op_catA (pe_tup (pa_cons pe_str pa_nil)) (pv 6)) (pv 7)) (pa_cons (pv 3) pa_nil)))))))))))))), ?_⟩
    refine ⟨_, rfl, _, rfl, _, rfl, _, rfl, _, _, rfl, rfl, _, rfl, z, rfl, big4 (by omega), rfl, ?_⟩
    rw [slice1 hat, show (V.str ("[" : Str)) = V.str (mk [91]) from rfl, t1_eq]
    refine ⟨_, rfl, ?_⟩
    by_cases h91 : l.head? = some 91
    · rw [decide_eq_true h91]
      refine ifT rfl ?_
      obtain ⟨l', rfl⟩ : ∃ l', l = 91 :: l' := by
        cases l with
        | nil => cases h91
        | cons c l => cases h91; exact ⟨l, rfl⟩
      have k1 : sw (91 :: l') = sw l' + 1 := sw_op (.inr rfl)
      refine ⟨_, rfl, _, rfl, _, _, rfl, rfl, z, l', (by rw [← ps_cons (z := z) (c := 91) (l := l')]; rfl), hat.one, hz, hG, by omega, fun O hO r x i H1 s1 hr1' hR => ?_⟩
      refine ⟨r, _, rfl, SqT.of hr1', rfl, _, _, rfl, _, _, rfl, rfl, ?_⟩
      cases O with
      | err e =>
        obtain ⟨rfl, rfl, ate⟩ := hR
        refine ⟨_, rfl, rfl, _, rfl, ?_⟩
        refine ifT rfl ?_
        exact ⟨_, rfl, (by show 2 ≤ sizeLine; decide), fun q hq => out _ (.t1 hO) _ _ H1 s1 ⟨rfl, rfl, ate⟩ q hq⟩
      | ok yt l1 =>
        obtain ⟨⟨ta, tv, rfl, hta, htv⟩, rfl, at1⟩ := hR
        obtain ⟨y, t⟩ := yt
        refine ⟨_, rfl, rfl, _, rfl, ?_⟩
        refine ifF (by simp) ?_
        have k3 := rt_sw hO
        obtain ⟨m1, rfl⟩ : ∃ m1, m = m1 + 1 := ⟨m - 1, by omega⟩
        obtain rfl := hW m1 rfl
        refine ⟨_, rfl, _, rfl, z, l1, rfl, at1, hz, hG, hS, by omega, fun O2 hO2 r2 x2 i2 H2 s2 hr2 hR2 => ?_⟩
        have s12 := same_trans s1 s2
        refine ⟨r2, _, rfl, SqT.of hr2, rfl, _, _, rfl, _, _, rfl, rfl, ?_⟩
        cases O2 with
        | err e =>
          obtain ⟨rfl, rfl, ate⟩ := hR2
          refine ⟨_, rfl, rfl, _, rfl, ?_⟩
          refine ifT rfl ?_
          exact ⟨_, rfl, (by show 2 ≤ sizeLine; decide), fun q hq => out _ (.t2 hO hO2) _ _ H2 s12 ⟨rfl, rfl, ate⟩ q hq⟩
        | ok b l2 =>
          obtain ⟨⟨a, us, rfl, ha, hw⟩, rfl, at2⟩ := hR2
          obtain ⟨bl, bne⟩ := rp_len hO2 _ _ rfl
          have usn : us ≠ [] := fun q => bne (List.eq_nil_of_length_eq_zero (by rw [← hw.1, q]; rfl))
          have l1l : l1.length ≤ (tl z).length := by
            obtain ⟨p, e⟩ := at1
            rw [e, List.length_append]; omega
          obtain ⟨rn, pp, lk2, lk3, elk, rk⟩ := hO.kind
          have sz : t.size ≤ 10000 := by
            obtain ⟨p, e⟩ := hat
            exact hS (p ++ 91 :: pp) lk2 t lk3 (by rw [e, elk]; simp) rk
          refine ⟨_, rfl, rfl, _, rfl, ?_⟩
          refine ifF (by simp) ?_
          refine ⟨_, rfl, (by show 1 ≤ sizeLine; decide), fun x1 hx1 => ?_⟩
          have s3 := same_new (o := .tup [.ref ta]) (same_refl H2) hx1
          refine ⟨_, rfl, x1, a, _, us, rfl, rfl, SqT.of upd_same, SqT.of (s3 _ _ ha), (by rw [hw.1]; show 1 + b.length ≤ sizeLine; exact big4 (by omega)), (fun h => by cases h), (fun _ h => absurd h usn), fun _ _ x5 hx5 => ?_⟩
          have s4 := same_new (o := .tup ([.ref ta] ++ us)) s3 hx5
          refine ⟨_, rfl, (by show 2 ≤ sizeLine; decide), fun q hq => ?_⟩
          exact out _ (.t3 hO hO2) _ _ _ (same_trans s12 s4) ⟨⟨x5, _, rfl, upd_same, (WdsAt.one (WdAt.tk (rdN_name rn) (s4 _ _ (s2 _ _ hta)) ((htv.same s2).same s4) sz)).app (hw.same s4)⟩, rfl, at2⟩ q hq
    · rw [decide_eq_false h91]
      refine ifF rfl ?_
      refine ⟨_, rfl, _, rfl, _, rfl, _, rfl, _, _, rfl, rfl, _, rfl, z, rfl, big4 (by omega), rfl, ?_⟩
      rw [slice1 hat, show (V.str ("(" : Str)) = V.str (mk [40]) from rfl, t1_eq]
      refine ⟨_, rfl, ?_⟩
      by_cases h40 : l.head? = some 40
      · rw [decide_eq_true h40]
        refine ifF rfl ?_
        obtain ⟨l', rfl⟩ := head40 h40
        have k1 : sw (40 :: l') = sw l' + 1 := sw_op (.inl rfl)
        obtain ⟨m1, rfl⟩ : ∃ m1, m = m1 + 1 := ⟨m - 1, by omega⟩
        obtain rfl := hW m1 rfl
        refine ⟨_, rfl, _, rfl, _, _, rfl, rfl, z, l', (by rw [← ps_cons (z := z) (c := 40) (l := l')]; rfl), hat.one, hz, hG, hS, by omega, fun O hO r x i H1 s1 hr1' hR => ?_⟩
        refine ⟨r, _, rfl, SqT.of hr1', rfl, _, _, rfl, _, _, rfl, rfl, ?_⟩
        cases O with
        | err e =>
          obtain ⟨rfl, rfl, ate⟩ := hR
          refine ⟨_, rfl, rfl, _, rfl, ?_⟩
          refine ifT rfl ?_
          exact ⟨_, rfl, (by show 2 ≤ sizeLine; decide), fun q hq => out _ (.u1 hO) _ _ H1 s1 ⟨rfl, rfl, ate⟩ q hq⟩
        | ok fw l1 =>
          obtain ⟨⟨fa, fus, rfl, hfa, hfw⟩, rfl, at1⟩ := hR
          refine ⟨_, rfl, rfl, _, rfl, ?_⟩
          refine ifF (by simp) ?_
          refine ⟨_, rfl, _, rfl, z, l1, [32], _, rfl, (by decide +kernel), at1, hz, fun l2 e2 => ?_, fun e e2 ate => ?_⟩
          · refine ⟨_, rfl, _, _, rfl, rfl, _, rfl, ?_⟩
            refine ifF (int_ge (at1.ndd e2)) ?_
            have at2 := at1.ndd e2
            have n1 : noOp l1 := by rw [ndd_ok e2]; exact noOp_c (by decide)
            have k4 := rp_sw hO _ _ rfl n1
            have k3 : sw l1 = sw l2 := by rw [ndd_ok e2]; exact sw_c (by decide) (.inl (by decide))
            refine ⟨_, rfl, _, rfl, z, l2, rfl, at2, hz, hG, hS, by omega, fun O2 hO2 r2 x2 i2 H2 s2 hr2 hR2 => ?_⟩
            have s12 := same_trans s1 s2
            refine ⟨r2, _, rfl, SqT.of hr2, rfl, _, _, rfl, _, _, rfl, rfl, ?_⟩
            cases O2 with
            | err e =>
              obtain ⟨rfl, rfl, ate⟩ := hR2
              refine ⟨_, rfl, rfl, _, rfl, ?_⟩
              refine ifT rfl ?_
              exact ⟨_, rfl, (by show 2 ≤ sizeLine; decide), fun q hq => out _ (.u3 hO e2 hO2) _ _ H2 s12 ⟨rfl, rfl, ate⟩ q hq⟩
            | ok b l3 =>
              obtain ⟨⟨a, us, rfl, ha, hw⟩, rfl, at3⟩ := hR2
              obtain ⟨fl, fne⟩ := rp_len hO _ _ rfl
              obtain ⟨bl, bne⟩ := rp_len hO2 _ _ rfl
              have usn : us ≠ [] := fun q => bne (List.eq_nil_of_length_eq_zero (by rw [← hw.1, q]; rfl))
              have fusn : fus ≠ [] := fun q => fne (List.eq_nil_of_length_eq_zero (by rw [← hfw.1, q]; rfl))
              have ll : (40 :: l').length ≤ (tl z).length := by
                obtain ⟨p, e⟩ := hat
                rw [e, List.length_append]; omega
              rw [List.length_cons] at ll
              have l12 : l2.length ≤ l1.length := by rw [ndd_len e2]; omega
              refine ⟨_, rfl, rfl, _, rfl, ?_⟩
              refine ifF (by simp) ?_
              refine ⟨_, rfl, _, rfl, z, l3, [41], _, rfl, (by decide +kernel), at3, hz, fun l4 e4 => ?_, fun e e4 ate => ?_⟩
              · refine ⟨_, rfl, _, _, rfl, rfl, _, rfl, ?_⟩
                refine ifF (int_ge (at3.ndd e4)) ?_
                refine ⟨(by show 1 ≤ sizeLine; decide), fun x1 hx1 => ?_⟩
                have s3 := same_new (o := .tup [.str "@"]) (same_refl H2) hx1
                have wf := hfw.same (same_trans s2 s3)
                refine ⟨_, rfl, x1, fa, _, fus, rfl, rfl, SqT.of upd_same, SqT.of (s3 _ _ (s2 _ _ hfa)), (by rw [hfw.1]; show 1 + fw.length ≤ sizeLine; exact big4 (by omega)), (fun h => by cases h), (fun _ h => absurd h fusn), fun _ _ x5 hx5 => ?_⟩
                have s4 := same_new (o := .tup ([.str "@"] ++ fus)) s3 hx5
                refine ⟨_, rfl, x5, a, _, us, rfl, rfl, SqT.of upd_same, SqT.of (s4 _ _ ha), (by rw [List.length_append, hfw.1, hw.1]; show 1 + fw.length + b.length ≤ sizeLine; exact big4 (by omega)), (fun h => by cases h), (fun _ h => absurd h usn), fun _ _ x6 hx6 => ?_⟩
                have s5 := same_new (o := .tup ([.str "@"] ++ fus ++ us)) s4 hx6
                refine ⟨_, rfl, (by show 2 ≤ sizeLine; decide), fun q hq => ?_⟩
                exact out _ (.u5 hO e2 hO2 e4) _ _ _ (same_trans s12 s5) ⟨⟨x6, _, rfl, upd_same, ((WdsAt.one WdAt.us).app (hfw.same (same_trans s2 s5))).app (hw.same s5)⟩, rfl, at3.ndd e4⟩ q hq
              · refine ⟨_, rfl, _, _, rfl, rfl, _, rfl, ?_⟩
                refine ifT (int_lt ate) ?_
                exact ⟨_, rfl, (by show 2 ≤ sizeLine; decide), fun q hq => out _ (.u4 hO e2 hO2 e4) _ _ H2 s12 ⟨rfl, rfl, ate⟩ q hq⟩
          · refine ⟨_, rfl, _, _, rfl, rfl, _, rfl, ?_⟩
            refine ifT (int_lt ate) ?_
            exact ⟨_, rfl, (by show 2 ≤ sizeLine; decide), fun q hq => out _ (.u2 hO e2) _ _ H1 s1 ⟨rfl, rfl, ate⟩ q hq⟩
      · rw [decide_eq_false h40]
        refine ifT rfl ?_
        refine ⟨_, rfl, _, rfl, z, l, rfl, hat, hz, fun r x i H1 s1 hr1' hR => ?_⟩
        refine ⟨r, _, rfl, SqT.of hr1', rfl, _, _, rfl, _, _, rfl, rfl, ?_⟩
        cases eO : rdN l with
        | err e =>
          rw [eO] at hR
          obtain ⟨rfl, rfl, ate⟩ := hR
          refine ⟨_, rfl, rfl, _, rfl, ?_⟩
          refine ifT rfl ?_
          exact ⟨_, rfl, (by show 2 ≤ sizeLine; decide), fun q hq => out _ (.n1 h91 h40 eO) _ _ H1 s1 ⟨rfl, rfl, ate⟩ q hq⟩
        | ok y l1 =>
          rw [eO] at hR
          obtain ⟨rfl, rfl, at1⟩ := hR
          refine ⟨_, rfl, rfl, _, rfl, ?_⟩
          refine ifF (decide_eq_false (by simp)) ?_
          refine ⟨_, rfl, (by show 1 ≤ sizeLine; decide), fun x5 hx5 => ?_⟩
          have s4 := same_new (o := .tup [.str y]) (same_refl H1) hx5
          refine ⟨_, rfl, (by show 2 ≤ sizeLine; decide), fun q hq => ?_⟩
          exact out _ (.n2 h91 h40 eO) _ _ _ (same_trans s1 s4) ⟨⟨x5, _, rfl, upd_same, WdsAt.one (WdAt.nm (rdN_name eO))⟩, rfl, at1⟩ q hq
theorem ok_lwds {fA fK fS fN fT f : Addr} {fdA fdK fdS fdN fdT fd : FuncData} {R : Nat} (NW : Fn K mg "_law_read_words" sLWds ["_law_text_here", "_law_at"] f fd) (NT : Fn K mg "_law_read_take" sLTak ["_law_text_here", "_law_at"] fT fdT) (NN : Fn K mg "_law_read_name" sLNam ["_law_text_here", "_law_at"] fN fdN) (NA : Fn K mg "_law_read_atom" sLAtm ["_law_text_here", "_law_at"] fA fdA) (NK : Fn K mg "_law_read_kind" sLKnd ["_law_text_here", "_law_at"] fK fdK) (NS : Fn K mg "_law_signs" sLSig ["_law_text_here", "_law_at", "_law_signs_here"] fS fdS) (T : TxB mg) (T2 : TxK mg) :
    ∀ m, FnOk P w K mg base CX0 (m + R + 5) f fd ["_law_text_here", "_law_at"] (spLWds K R m) := by
  have W0 : ∀ n, FnOk P w K mg base CX0 (n + 1) f fd ["_law_text_here", "_law_at"] (fun _ _ _ _ => False) := fun n => NW.F.ok scLWds (fun vs H Q E h => False.elim h) (fun cdv A outer s H vs Q E hr h => False.elim h)
  have GT : ∀ m, FnOk P w K mg base CX0 (m + R + 4) fT fdT ["_law_text_here", "_law_at"] (spLTak K R m) := fun m => ok_ltak NT NN NS NK (ok_lrec NA NK NS T T2.toTxD T2 (m + R)).2 T T2
  intro m
  induction m with
  | zero => exact ok_lwds1 NW NN NS NT (GT 0) (W0 _) (by omega) (fun m' e => by omega) T T2
  | succ m ih =>
    have e : m + 1 + R + 4 = m + R + 5 := by omega
    have g := GT (m + 1)
    rw [show m + 1 + R + 5 = (m + R + 5) + 1 by omega]
    rw [e] at g
    exact ok_lwds1 NW NN NS NT g ih (by omega) (fun m' e => by rw [show m' = m from by omega]) T T2
end
end LG

set_option Elab.async false
set_option linter.all false
set_option maxRecDepth 100000
set_option maxHeartbeats 8100000
set_option pp.maxSteps 400
namespace LG
open PySem L2 TL
/-! ### every text is read in just one way -/
abbrev eE {α β : Type} (O1 : Ot α) (O : Ot β) : Prop := ∀ e, O1 = .err e → O = .err e
theorem Rd.invT {l : List Nat} {O : Ot Th} (h : Rd true l O) : (l.head? ≠ some 40 ∧ isLt l = false ∧ O = .err l) ∨ (∃ i l', i ≤ 25 ∧ l = (97 + i) :: l' ∧ O = .ok (.int (i : Nat)) l') ∨
    (∃ l' O1, l = 40 :: l' ∧ Rd true l' O1 ∧ eE O1 O ∧ ∀ a l1, O1 = .ok a l1 → (∀ e, ndd ar3 l1 = (false, e) → O = .err e) ∧ ∀ l2, ndd ar3 l1 = (true, l2) → ∃ O2, Rd false l2 O2 ∧ eE O2 O ∧ ∀ b l3, O2 = .ok b l3 → (∀ e, ndd [41] l3 = (false, e) → O = .err e) ∧ ∀ l4, ndd [41] l3 = (true, l4) → O = .ok (.pr a b) l4) := by
  cases h with
  | bad h1 h2 => exact .inl ⟨h2, h1, rfl⟩
  | lt hi => exact .inr (.inl ⟨_, _, hi, rfl, rfl⟩)
  | g1 h => exact .inr (.inr ⟨_, _, rfl, h, fun e q => (by cases q; rfl), fun a l1 q => by cases q⟩)
  | g2 h h2 => exact .inr (.inr ⟨_, _, rfl, h, fun e q => (by cases q), fun a l1 q => by
      cases q
      exact ⟨fun e q => (by rw [h2] at q; cases q; rfl), fun l2 q => by rw [h2] at q; cases q⟩⟩)
  | g3 h h2 h3 => exact .inr (.inr ⟨_, _, rfl, h, fun e q => (by cases q), fun a l1 q => by
      cases q
      exact ⟨fun e q => (by rw [h2] at q; cases q), fun l2 q => by
        rw [h2] at q; cases q
        exact ⟨_, h3, fun e q => (by cases q; rfl), fun b l3 q => by cases q⟩⟩⟩)
  | g4 h h2 h3 h4 => exact .inr (.inr ⟨_, _, rfl, h, fun e q => (by cases q), fun a l1 q => by
      cases q
      exact ⟨fun e q => (by rw [h2] at q; cases q), fun l2 q => by
        rw [h2] at q; cases q
        exact ⟨_, h3, fun e q => (by cases q), fun b l3 q => by
          cases q
          exact ⟨fun e q => (by rw [h4] at q; cases q; rfl), fun l4 q => by rw [h4] at q; cases q⟩⟩⟩⟩)
  | g5 h h2 h3 h4 => exact .inr (.inr ⟨_, _, rfl, h, fun e q => (by cases q), fun a l1 q => by
      cases q
      exact ⟨fun e q => (by rw [h2] at q; cases q), fun l2 q => by
        rw [h2] at q; cases q
        exact ⟨_, h3, fun e q => (by cases q), fun b l3 q => by
          cases q
          exact ⟨fun e q => (by rw [h4] at q; cases q), fun l4 q => by rw [h4] at q; cases q; rfl⟩⟩⟩⟩)
theorem Rd.invF {l : List Nat} {O : Ot Th} (h : Rd false l O) : ∃ O1, Rd true l O1 ∧ eE O1 O ∧ ∀ a l1, O1 = .ok a l1 → (¬ (l.head? = some 40 ∨ l1.head? = some 32) → O = .ok a l1) ∧ ((l.head? = some 40 ∨ l1.head? = some 32) →
    (∀ e, ndd ar3 l1 = (false, e) → O = .err e) ∧ ∀ l2, ndd ar3 l1 = (true, l2) → ∃ O2, Rd false l2 O2 ∧ eE O2 O ∧ ∀ b l3, O2 = .ok b l3 → O = .ok (.pr a b) l3) := by
  cases h with
  | k1 h => exact ⟨_, h, fun e q => (by cases q; rfl), fun a l1 q => by cases q⟩
  | k2 h h1 h2 => exact ⟨_, h, fun e q => (by cases q), fun a l1 q => by
      cases q
      exact ⟨fun _ => rfl, fun c => absurd c (not_or.mpr ⟨h1, h2⟩)⟩⟩
  | k3 h c h2 => exact ⟨_, h, fun e q => (by cases q), fun a l1 q => by
      cases q
      exact ⟨fun n => absurd c n, fun _ => ⟨fun e q => (by rw [h2] at q; cases q; rfl), fun l2 q => by rw [h2] at q; cases q⟩⟩⟩
  | k4 h c h2 h3 => exact ⟨_, h, fun e q => (by cases q), fun a l1 q => by
      cases q
      exact ⟨fun n => absurd c n, fun _ => ⟨fun e q => (by rw [h2] at q; cases q), fun l2 q => by
        rw [h2] at q; cases q
        exact ⟨_, h3, fun e q => (by cases q; rfl), fun b l3 q => by cases q⟩⟩⟩⟩
  | k5 h c h2 h3 => exact ⟨_, h, fun e q => (by cases q), fun a l1 q => by
      cases q
      exact ⟨fun n => absurd c n, fun _ => ⟨fun e q => (by rw [h2] at q; cases q), fun l2 q => by
        rw [h2] at q; cases q
        exact ⟨_, h3, fun e q => (by cases q), fun b l3 q => by cases q; rfl⟩⟩⟩⟩
theorem rd_det : ∀ (n : Nat) (b : Bool) (l : List Nat) (O O' : Ot Th), 2 * l.length + (if b = true then 0 else 1) < n → Rd b l O → Rd b l O' → O = O'
  | 0, _, _, _, _, h, _, _ => by omega
  | n + 1, true, l, O, O', hn, h, h' => by
    rw [if_pos rfl] at hn
    rcases h.invT with ⟨a1, a2, a3⟩ | ⟨i, l', hi, a2, a3⟩ | ⟨l', O1, a1, a2, a3, a4⟩
    · rcases h'.invT with ⟨b1, b2, b3⟩ | ⟨j, l2, hj, b2, b3⟩ | ⟨l2, O2, b1, b2, b3, b4⟩
      · rw [a3, b3]
      · rw [b2] at a2
        rw [show isLt ((97 + j) :: l2) = true from decide_eq_true (List.mem_of_getElem? (letters_at hj))] at a2
        cases a2
      · rw [b1] at a1; exact absurd rfl a1
    · rcases h'.invT with ⟨b1, b2, b3⟩ | ⟨j, l2, hj, b2, b3⟩ | ⟨l2, O2, b1, b2, b3, b4⟩
      · rw [a2] at b2
        rw [show isLt ((97 + i) :: l') = true from decide_eq_true (List.mem_of_getElem? (letters_at hi))] at b2
        cases b2
      · rw [a2] at b2
        injection b2 with e1 e2
        obtain rfl : i = j := by omega
        rw [a3, b3, e2]
      · rw [a2] at b1
        injection b1 with e1 e2
        omega
    · rcases h'.invT with ⟨b1, b2, b3⟩ | ⟨j, l2, hj, b2, b3⟩ | ⟨l2, O2, b1, b2, b3, b4⟩
      · rw [a1] at b1; exact absurd rfl b1
      · rw [a1] at b2
        injection b2 with e1 e2
        omega
      · rw [a1] at b1
        injection b1 with _ e
        subst e
        subst a1
        rw [List.length_cons] at hn
        have e1 := rd_det n true l' O1 O2 (by rw [if_pos rfl]; omega) a2 b2
        subst e1
        cases O1 with
        | err e => rw [a3 e rfl, b3 e rfl]
        | ok a l1 =>
          obtain ⟨c1, c2⟩ := a4 _ _ rfl
          obtain ⟨d1, d2⟩ := b4 _ _ rfl
          have := rd_len a2 _ _ rfl
          rcases e : ndd ar3 l1 with ⟨_ | _, l3⟩
          · rw [c1 _ e, d1 _ e]
          · obtain ⟨P, p1, p2, p3⟩ := c2 _ e
            obtain ⟨P', q1, q2, q3⟩ := d2 _ e
            have := ndd_len e
            have e2 := rd_det n false l3 P P' (by rw [if_neg (by decide)]; simp only [List.length_cons] at *; omega) p1 q1
            subst e2
            cases P with
            | err e => rw [p2 e rfl, q2 e rfl]
            | ok b l4 =>
              obtain ⟨r1, r2⟩ := p3 _ _ rfl
              obtain ⟨s1, s2⟩ := q3 _ _ rfl
              rcases e5 : ndd [41] l4 with ⟨_ | _, l5⟩
              · rw [r1 _ e5, s1 _ e5]
              · rw [r2 _ e5, s2 _ e5]
  | n + 1, false, l, O, O', hn, h, h' => by
    rw [if_neg (by decide)] at hn
    obtain ⟨O1, a2, a3, a4⟩ := h.invF
    obtain ⟨O2, b2, b3, b4⟩ := h'.invF
    have e1 := rd_det n true l O1 O2 (by rw [if_pos rfl]; omega) a2 b2
    subst e1
    cases O1 with
    | err e => rw [a3 e rfl, b3 e rfl]
    | ok a l1 =>
      obtain ⟨c1, c2⟩ := a4 _ _ rfl
      obtain ⟨d1, d2⟩ := b4 _ _ rfl
      have := rd_len a2 _ _ rfl
      by_cases c : l.head? = some 40 ∨ l1.head? = some 32
      · obtain ⟨c3, c4⟩ := c2 c
        obtain ⟨d3, d4⟩ := d2 c
        rcases e : ndd ar3 l1 with ⟨_ | _, l3⟩
        · rw [c3 _ e, d3 _ e]
        · obtain ⟨P, p1, p2, p3⟩ := c4 _ e
          obtain ⟨P', q1, q2, q3⟩ := d4 _ e
          have := ndd_len e
          have e2 := rd_det n false l3 P P' (by rw [if_neg (by decide)]; simp only [List.length_cons] at *; omega) p1 q1
          subst e2
          cases P with
          | err e => rw [p2 e rfl, q2 e rfl]
          | ok b l4 => rw [p3 _ _ rfl, q3 _ _ rfl]
      · rw [c1 c, d1 c]
theorem rd_ex : ∀ (n : Nat) (b : Bool) (l : List Nat), 2 * l.length + (if b = true then 0 else 1) < n → ∃ O, Rd b l O
  | 0, _, _, h => by omega
  | n + 1, true, l, hn => by
    rw [if_pos rfl] at hn
    by_cases h40 : l.head? = some 40
    · obtain ⟨l', rfl⟩ := head40 h40
      rw [List.length_cons] at hn
      obtain ⟨O1, h1⟩ := rd_ex n true l' (by rw [if_pos rfl]; omega)
      cases O1 with
      | err e => exact ⟨_, .g1 h1⟩
      | ok a l1 =>
        have := rd_len h1 _ _ rfl
        rcases e : ndd ar3 l1 with ⟨_ | _, l3⟩
        · exact ⟨_, .g2 h1 e⟩
        · have := ndd_len e
          obtain ⟨O2, h2⟩ := rd_ex n false l3 (by rw [if_neg (by decide)]; simp only [List.length_cons] at *; omega)
          cases O2 with
          | err _ => exact ⟨_, .g3 h1 e h2⟩
          | ok b l4 =>
            rcases e5 : ndd [41] l4 with ⟨_ | _, l5⟩
            · exact ⟨_, .g4 h1 e h2 e5⟩
            · exact ⟨_, .g5 h1 e h2 e5⟩
    · cases il : isLt l with
      | false => exact ⟨_, .bad il h40⟩
      | true =>
        obtain ⟨c, q, rfl, hc⟩ := isLt_iff.mp il
        obtain ⟨i, hi, rfl⟩ := let_idx hc
        exact ⟨_, .lt hi⟩
  | n + 1, false, l, hn => by
    rw [if_neg (by decide)] at hn
    obtain ⟨O1, h1⟩ := rd_ex n true l (by rw [if_pos rfl]; omega)
    cases O1 with
    | err e => exact ⟨_, .k1 h1⟩
    | ok a l1 =>
      have := rd_len h1 _ _ rfl
      by_cases c : l.head? = some 40 ∨ l1.head? = some 32
      · rcases e : ndd ar3 l1 with ⟨_ | _, l3⟩
        · exact ⟨_, .k3 h1 c e⟩
        · have := ndd_len e
          obtain ⟨O2, h2⟩ := rd_ex n false l3 (by rw [if_neg (by decide)]; simp only [List.length_cons] at *; omega)
          cases O2 with
          | err _ => exact ⟨_, .k4 h1 c e h2⟩
          | ok b l4 => exact ⟨_, .k5 h1 c e h2⟩
      · exact ⟨_, .k2 h1 (not_or.mp c).1 (not_or.mp c).2⟩
theorem rd_all (b : Bool) (l : List Nat) : ∃ O, Rd b l O := rd_ex _ b l (Nat.lt_succ_self _)
theorem rd_one {b : Bool} {l : List Nat} {O O' : Ot Th} (h : Rd b l O) (h' : Rd b l O') : O = O' := rd_det _ b l O O' (Nat.lt_succ_self _) h h'
theorem rt_all (l : List Nat) : ∃ O, Rt l O := by
  cases e : rdN l with
  | err _ => exact ⟨_, .n e⟩
  | ok y l1 =>
    rcases e1 : ndd [58] l1 with ⟨_ | _, l2⟩
    · exact ⟨_, .c e e1⟩
    · obtain ⟨O2, h2⟩ := rd_all false l2
      cases O2 with
      | err _ => exact ⟨_, .k e e1 h2⟩
      | ok t l3 =>
        rcases e3 : ndd [93, 32] l3 with ⟨_ | _, l4⟩
        · exact ⟨_, .b e e1 h2 e3⟩
        · exact ⟨_, .o e e1 h2 e3⟩
theorem rt_one {l : List Nat} {O O' : Ot (Str × Th)} (h : Rt l O) (h' : Rt l O') : O = O' := by
  obtain ⟨a1, a2⟩ := h.inv
  obtain ⟨b1, b2⟩ := h'.inv
  cases e : rdN l with
  | err _ => rw [a1 _ e, b1 _ e]
  | ok y l1 =>
    obtain ⟨a3, a4⟩ := a2 _ _ e
    obtain ⟨b3, b4⟩ := b2 _ _ e
    rcases e1 : ndd [58] l1 with ⟨_ | _, l2⟩
    · rw [a3 _ e1, b3 _ e1]
    · obtain ⟨P, p1, p2, p3⟩ := a4 _ e1
      obtain ⟨P', q1, q2, q3⟩ := b4 _ e1
      have := rd_one p1 q1
      subst this
      cases P with
      | err e => rw [p2 e rfl, q2 e rfl]
      | ok t l3 =>
        obtain ⟨r1, r2⟩ := p3 _ _ rfl
        obtain ⟨s1, s2⟩ := q3 _ _ rfl
        rcases e5 : ndd [93, 32] l3 with ⟨_ | _, l5⟩
        · rw [r1 _ e5, s1 _ e5]
        · rw [r2 _ e5, s2 _ e5]
theorem Rp.inv {l : List Nat} {O : Ot (List Wd)} (h : Rp l O) : (∃ l' O1, l = 91 :: l' ∧ Rt l' O1 ∧ eE O1 O ∧ ∀ y t l1, O1 = .ok (y, t) l1 → ∃ O2, Rp l1 O2 ∧ eE O2 O ∧ ∀ b l2, O2 = .ok b l2 → O = .ok (.pr (some y) t :: b) l2) ∨
    (l.head? ≠ some 91 ∧ l.head? ≠ some 40 ∧ (∀ e, rdN l = .err e → O = .err e) ∧ ∀ y l1, rdN l = .ok y l1 → O = .ok [.st y] l1) ∨
    (∃ l' O1, l = 40 :: l' ∧ Rp l' O1 ∧ eE O1 O ∧ ∀ a l1, O1 = .ok a l1 → (∀ e, ndd [32] l1 = (false, e) → O = .err e) ∧ ∀ l2, ndd [32] l1 = (true, l2) → ∃ O2, Rp l2 O2 ∧ eE O2 O ∧ ∀ b l3, O2 = .ok b l3 → (∀ e, ndd [41] l3 = (false, e) → O = .err e) ∧ ∀ l4, ndd [41] l3 = (true, l4) → O = .ok (.st "@" :: (a ++ b)) l4) := by
  cases h with
  | t1 h => exact .inl ⟨_, _, rfl, h, fun e q => (by cases q; rfl), fun y t l1 q => by cases q⟩
  | t2 h h2 => exact .inl ⟨_, _, rfl, h, fun e q => (by cases q), fun y t l1 q => by
      cases q
      exact ⟨_, h2, fun e q => (by cases q; rfl), fun b l2 q => by cases q⟩⟩
  | t3 h h2 => exact .inl ⟨_, _, rfl, h, fun e q => (by cases q), fun y t l1 q => by
      cases q
      exact ⟨_, h2, fun e q => (by cases q), fun b l2 q => by cases q; rfl⟩⟩
  | n1 h1 h2 h3 => exact .inr (.inl ⟨h1, h2, fun e q => (by rw [h3] at q; cases q; rfl), fun y l1 q => by rw [h3] at q; cases q⟩)
  | n2 h1 h2 h3 => exact .inr (.inl ⟨h1, h2, fun e q => (by rw [h3] at q; cases q), fun y l1 q => by rw [h3] at q; cases q; rfl⟩)
  | u1 h => exact .inr (.inr ⟨_, _, rfl, h, fun e q => (by cases q; rfl), fun a l1 q => by cases q⟩)
  | u2 h h2 => exact .inr (.inr ⟨_, _, rfl, h, fun e q => (by cases q), fun a l1 q => by
      cases q
      exact ⟨fun e q => (by rw [h2] at q; cases q; rfl), fun l2 q => by rw [h2] at q; cases q⟩⟩)
  | u3 h h2 h3 => exact .inr (.inr ⟨_, _, rfl, h, fun e q => (by cases q), fun a l1 q => by
      cases q
      exact ⟨fun e q => (by rw [h2] at q; cases q), fun l2 q => by
        rw [h2] at q; cases q
        exact ⟨_, h3, fun e q => (by cases q; rfl), fun b l3 q => by cases q⟩⟩⟩)
  | u4 h h2 h3 h4 => exact .inr (.inr ⟨_, _, rfl, h, fun e q => (by cases q), fun a l1 q => by
      cases q
      exact ⟨fun e q => (by rw [h2] at q; cases q), fun l2 q => by
        rw [h2] at q; cases q
        exact ⟨_, h3, fun e q => (by cases q), fun b l3 q => by
          cases q
          exact ⟨fun e q => (by rw [h4] at q; cases q; rfl), fun l4 q => by rw [h4] at q; cases q⟩⟩⟩⟩)
  | u5 h h2 h3 h4 => exact .inr (.inr ⟨_, _, rfl, h, fun e q => (by cases q), fun a l1 q => by
      cases q
      exact ⟨fun e q => (by rw [h2] at q; cases q), fun l2 q => by
        rw [h2] at q; cases q
        exact ⟨_, h3, fun e q => (by cases q), fun b l3 q => by
          cases q
          exact ⟨fun e q => (by rw [h4] at q; cases q), fun l4 q => by rw [h4] at q; cases q; rfl⟩⟩⟩⟩)
theorem rp_det : ∀ (n : Nat) (l : List Nat) (O O' : Ot (List Wd)), l.length < n → Rp l O → Rp l O' → O = O'
  | 0, _, _, _, h, _, _ => by omega
  | n + 1, l, O, O', hn, h, h' => by
    rcases h.inv with ⟨l', O1, a1, a2, a3, a4⟩ | ⟨a1, a2, a3, a4⟩ | ⟨l', O1, a1, a2, a3, a4⟩
    · rcases h'.inv with ⟨m', P1, b1, b2, b3, b4⟩ | ⟨b1, b2, b3, b4⟩ | ⟨m', P1, b1, b2, b3, b4⟩
      · rw [a1] at b1
        injection b1 with _ e
        subst e
        subst a1
        rw [List.length_cons] at hn
        have e1 := rt_one a2 b2
        subst e1
        cases O1 with
        | err e => rw [a3 e rfl, b3 e rfl]
        | ok yt l1 =>
          obtain ⟨y, t⟩ := yt
          obtain ⟨P, p1, p2, p3⟩ := a4 _ _ _ rfl
          obtain ⟨P', q1, q2, q3⟩ := b4 _ _ _ rfl
          have := rt_len a2
          have e2 := rp_det n l1 P P' (by omega) p1 q1
          subst e2
          cases P with
          | err e => rw [p2 e rfl, q2 e rfl]
          | ok b l4 => rw [p3 _ _ rfl, q3 _ _ rfl]
      · rw [a1] at b1; exact absurd rfl b1
      · rw [a1] at b1; injection b1 with e _; exact absurd e (by decide)
    · rcases h'.inv with ⟨m', P1, b1, b2, b3, b4⟩ | ⟨b1, b2, b3, b4⟩ | ⟨m', P1, b1, b2, b3, b4⟩
      · rw [b1] at a1; exact absurd rfl a1
      · cases e : rdN l with
        | err _ => rw [a3 _ e, b3 _ e]
        | ok y l1 => rw [a4 _ _ e, b4 _ _ e]
      · rw [b1] at a2; exact absurd rfl a2
    · rcases h'.inv with ⟨m', P1, b1, b2, b3, b4⟩ | ⟨b1, b2, b3, b4⟩ | ⟨m', P1, b1, b2, b3, b4⟩
      · rw [a1] at b1; injection b1 with e _; exact absurd e (by decide)
      · rw [a1] at b2; exact absurd rfl b2
      · rw [a1] at b1
        injection b1 with _ e
        subst e
        subst a1
        rw [List.length_cons] at hn
        have e1 := rp_det n l' O1 P1 (by omega) a2 b2
        subst e1
        cases O1 with
        | err e => rw [a3 e rfl, b3 e rfl]
        | ok a l1 =>
          obtain ⟨c1, c2⟩ := a4 _ _ rfl
          obtain ⟨d1, d2⟩ := b4 _ _ rfl
          have := (rp_len a2 _ _ rfl).1
          rcases e : ndd [32] l1 with ⟨_ | _, l3⟩
          · rw [c1 _ e, d1 _ e]
          · obtain ⟨P, p1, p2, p3⟩ := c2 _ e
            obtain ⟨P', q1, q2, q3⟩ := d2 _ e
            have := ndd_len e
            have e2 := rp_det n l3 P P' (by omega) p1 q1
            subst e2
            cases P with
            | err e => rw [p2 e rfl, q2 e rfl]
            | ok b l4 =>
              obtain ⟨r1, r2⟩ := p3 _ _ rfl
              obtain ⟨s1, s2⟩ := q3 _ _ rfl
              rcases e5 : ndd [41] l4 with ⟨_ | _, l5⟩
              · rw [r1 _ e5, s1 _ e5]
              · rw [r2 _ e5, s2 _ e5]
theorem rp_ex : ∀ (n : Nat) (l : List Nat), l.length < n → ∃ O, Rp l O
  | 0, _, h => by omega
  | n + 1, l, hn => by
    by_cases h91 : l.head? = some 91
    · obtain ⟨l', rfl⟩ : ∃ l', l = 91 :: l' := by
        cases l with
        | nil => cases h91
        | cons c l => cases h91; exact ⟨l, rfl⟩
      rw [List.length_cons] at hn
      obtain ⟨O1, h1⟩ := rt_all l'
      cases O1 with
      | err e => exact ⟨_, .t1 h1⟩
      | ok yt l1 =>
        have := rt_len h1
        obtain ⟨O2, h2⟩ := rp_ex n l1 (by omega)
        obtain ⟨y, t⟩ := yt
        cases O2 with
        | err e => exact ⟨_, .t2 h1 h2⟩
        | ok b l2 => exact ⟨_, .t3 h1 h2⟩
    · by_cases h40 : l.head? = some 40
      · obtain ⟨l', rfl⟩ := head40 h40
        rw [List.length_cons] at hn
        obtain ⟨O1, h1⟩ := rp_ex n l' (by omega)
        cases O1 with
        | err e => exact ⟨_, .u1 h1⟩
        | ok a l1 =>
          have := (rp_len h1 _ _ rfl).1
          rcases e : ndd [32] l1 with ⟨_ | _, l3⟩
          · exact ⟨_, .u2 h1 e⟩
          · have := ndd_len e
            obtain ⟨O2, h2⟩ := rp_ex n l3 (by omega)
            cases O2 with
            | err _ => exact ⟨_, .u3 h1 e h2⟩
            | ok b l4 =>
              rcases e5 : ndd [41] l4 with ⟨_ | _, l5⟩
              · exact ⟨_, .u4 h1 e h2 e5⟩
              · exact ⟨_, .u5 h1 e h2 e5⟩
      · cases e : rdN l with
        | err _ => exact ⟨_, .n1 h91 h40 e⟩
        | ok y l1 => exact ⟨_, .n2 h91 h40 e⟩
theorem rp_all (l : List Nat) : ∃ O, Rp l O := rp_ex _ l (Nat.lt_succ_self _)
theorem rp_one {l : List Nat} {O O' : Ot (List Wd)} (h : Rp l O) (h' : Rp l O') : O = O' := rp_det _ l O O' (Nat.lt_succ_self _) h h'
end LG

set_option Elab.async false
set_option linter.all false
set_option maxRecDepth 100000
set_option maxHeartbeats 8100000
set_option pp.maxSteps 400
namespace LG
open PySem L2 TL
abbrev sLDue : Stmt := top 56
abbrev sLTold : Stmt := top 57
/-- ("told", x) or ("text", place) -/
def OcAt {α : Type} (R : α → V → Prop) (H : Hp) (r : Addr) : α ⊕ Int → Prop
  | .inl a => ∃ x, H r = some (.tup [.str "told", x]) ∧ R a x
  | .inr i => H r = some (.tup [.str "text", .int i])
theorem ps_all {z : Str} : ps z (tl z) = 0 := by unfold ps; omega
theorem At.all {z : Str} : At z (tl z) := ⟨[], rfl⟩
theorem bad_back {z : Str} {e : List Nat} : 0 - bad z e - 1 = ps z e := by unfold bad; omega
theorem fin_err {α : Type} {z : Str} {e : List Nat} : fin z (.err e : Ot α) = .inr (ps z e) := rfl
theorem fin_nil {α : Type} {z : Str} {a : α} : fin z (.ok a []) = .inl a := rfl
theorem fin_ne {α : Type} {z : Str} {a : α} {l : List Nat} (h : l ≠ []) : fin z (.ok a l) = .inr (ps z l) := by
  cases l with
  | nil => exact absurd rfl h
  | cons c q => rfl
theorem ps_end {z : Str} {l : List Nat} (h : At z l) : decide (V.int (ps z l) = V.int ((z.length : Nat) : Int)) = decide (l = []) := by
  have zl : (tl z).length = z.length := tl_len
  rw [decide_eq_decide]
  constructor
  · intro q
    have q : ps z l = ((z.length : Nat) : Int) := V.int.inj q
    unfold ps at q
    exact List.eq_nil_of_length_eq_zero (by omega)
  · rintro rfl
    unfold ps
    rw [zl]
    simp
def spLDue (K : PySem.W.Frag) (n m R : Nat) : Sp := fun vs H Q _ => ∃ (v : V) (b : Bool), vs = [v, .bl b] ∧
  ((b = true ∧ ∃ F, KIn K H v F ∧ (∀ z, v = .str z → kap (tl z) ≤ n) ∧ ∀ r H', Same H H' → OcAt (ThAt K H') H' r F → Q (.ref r) H') ∨
   (b = false ∧ ∃ F, PIn K H v F ∧ (∀ z, v = .str z → GtB z R ∧ sw (tl z) ≤ m) ∧ ∀ r H', Same H H' → OcAt (WsAt K H') H' r F → Q (.ref r) H'))
def spLTold (K : PySem.W.Frag) : Sp := fun vs H Q _ => ∃ (v : V) (b : Bool), vs = [v, .bl b] ∧
  ((b = true ∧ ∃ F, KIn K H v F ∧ (∀ k, F = .inl k → k.isKind = true ∧ k.size ≤ 10000) ∧ ∀ r H', Same H H' → OcAt (ThAt K H') H' r F → Q (.ref r) H') ∨
   (b = false ∧ ∃ F, PIn K H v F ∧ (∀ ws, F = .inl ws → progB Th.isKind ws = true ∧ ws.length ≤ 400) ∧ ∀ r H', Same H H' → OcAt (WsAt K H') H' r F → Q (.ref r) H'))
/-- what the law's own try asks of the error classes -/
structure BtE (K : PySem.W.Frag) (mg : Str → Option Value) (CF CE : Addr) : Prop where
  gE : mg "CountsError" = some (.ref CE)
  exm : PySem.W.exmOne K (.ref CF) (.ref CE) = some true
  k1 : PySem.W.kitOne K (.ref CF) (.ref CF) = some true
  k2 : PySem.W.kitOne K (.ref CF) (.type "ValueError") = some true
  vE : mg "ValueError" = none
theorem NoSt.same {K : PySem.W.Frag} {H H' : Hp} {v : V} (h : NoSt K H v) (s : Same H H') : NoSt K H' v := by
  obtain ⟨tv, a, b⟩ := h
  exact ⟨tv, tyx_same s a, b⟩
theorem KIn.same {K : PySem.W.Frag} {H H' : Hp} {v : V} {F : Th ⊕ Int} (h : KIn K H v F) (s : Same H H') : KIn K H' v F := h.imp id fun ⟨a, b⟩ => ⟨a.same s, b⟩
theorem PIn.same {K : PySem.W.Frag} {H H' : Hp} {v : V} {F : List Wd ⊕ Int} (h : PIn K H v F) (s : Same H H') : PIn K H' v F := h.imp id fun ⟨a, b⟩ => ⟨a.same s, b⟩
section
variable {P : Program} {w : World} {K : PySem.W.Frag} {mg : Str → Option Value} {base : Heap} {CF CE fF : Addr} {fdF : FuncData}
theorem scLDue : FnScope ["_law_text_here", "_law_is_kind", "_law_found", "_law_behind"] ["_law_text_here", "_law_is_kind"] (defScope sLDue) := ⟨rfl, rfl, rfl, by decide +kernel, rfl, by decide +kernel, by decide +kernel⟩
theorem ok_ldue {f fK fW : Addr} {fd fdK fdW : FuncData} {n m R L : Nat} (F : Fn K mg "_law_due" sLDue ["_law_text_here", "_law_is_kind"] f fd) (NK : Fn K mg "_law_read_kind" sLKnd ["_law_text_here", "_law_at"] fK fdK) (NW : Fn K mg "_law_read_words" sLWds ["_law_text_here", "_law_at"] fW fdW)
    (GK : FnOk P w K mg base CX0 (n + 3) fK fdK ["_law_text_here", "_law_at"] (spLAtm K false n)) (GW : FnOk P w K mg base CX0 (m + R + 5) fW fdW ["_law_text_here", "_law_at"] (spLWds K R m)) (h1 : n + 3 ≤ L) (h2 : m + R + 5 ≤ L) (T : TxB mg) (T2 : TxK mg) : FnOk P w K mg base CX0 (L + 1) f fd ["_law_text_here", "_law_is_kind"] (spLDue K n m R) := by
  refine F.F.ok scLDue (fun vs H Q E h => ?_) (fun cdv A outer s H vs Q E hr h => ?_)
  · obtain ⟨_, _, rfl, _⟩ := h
    rfl
  · obtain ⟨v, b, rfl, cs⟩ := h
    have nd := scLDue.nd
    have hrK := hr.mono h1
    have hrW := hr.mono h2
    refine ⟨_, pss_cons (ps_if (pt_not (pt_val (pe_callB call_isi (by rfl) T.isinstance (by decide +kernel) (pa_cons (pv 0) (pa_cons (pe_bltn (v := .ty "str") (by rfl) T2.str (by decide +kernel) rfl) pa_nil)))))
        (pss_one (ps_ret (pe_tup (pa_cons pe_str (pa_cons (pe_un un_neg pe_int) pa_nil)))))
        pss_nil)
    (pss_cons (ps_asg (pe_ifExp (pt_val (pv 1)) (pe_call GK hrK (by rfl) NK.m NK.F.kp NK.b .nil pass0 (pa_cons (pv 0) (pa_cons pe_int pa_nil))) (pe_call GW hrW (by rfl) NW.m NW.F.kp NW.b .nil pass0 (pa_cons (pv 0) (pa_cons pe_int pa_nil)))) (pg_tup rfl (pgs_cons (pg_name (i := 2) nd rfl (Or.inl rfl)) (pgs_cons (pg_name (i := 3) nd rfl (Or.inl rfl)) pgs_nil))))
    (pss_cons (ps_if (pt_cmpR op_isN (pv 2) pe_non (nomark _))
        (pss_one (ps_ret (pe_tup (pa_cons pe_str (pa_cons (pe_op op_sub (pe_op op_sub pe_int (pv 3)) pe_int) pa_nil)))))
        pss_nil)
    (pss_one (ps_ret (pe_ifExp (pt_cmpR op_eq (pv 3) (pe_callB call_len_str (by rfl) T.len PySem.boot_len (pa_cons (pv 0) pa_nil)) (nomark _)) (pe_tup (pa_cons pe_str (pa_cons (pv 2) pa_nil))) (pe_tup (pa_cons pe_str (pa_cons (pv 3) pa_nil)))))))), ?_⟩
    have other : ∀ {α : Type} {Rl : α → V → Prop} (q : Addr) (i : Int), (H q = none) → OcAt Rl (upd H q (.tup [.str "text", .int i])) q (.inr i) := fun q i _ => upd_same
    rcases cs with ⟨rfl, FF, hin, hk, kq⟩ | ⟨rfl, FF, hin, hk, kq⟩
    · rcases hin with ⟨z, O, rfl, hz, hd, eF⟩ | ⟨⟨tv, ty, kt⟩, eF⟩
      · have zl : (tl z).length = z.length := tl_len
        refine ⟨_, rfl, _, _, _, _, _, rfl, .ty _, .base (.str z), kit_ty (r := true) (by decide +kernel), _, rfl, ?_⟩
        refine ifF rfl ?_
        refine ⟨_, rfl, _, rfl, ?_⟩
        refine ifT rfl ?_
        refine ⟨_, rfl, z, tl z, by rw [ps_all]; rfl, At.all, hz, hk z rfl, fun O' hO r x i H1 s1 hr1 hR => ?_⟩
        have := rd_one hd hO
        subst this
        refine ⟨r, _, rfl, SqT.of hr1, rfl, _, _, rfl, _, _, rfl, rfl, ?_⟩
        cases O with
        | err e =>
          obtain ⟨rfl, rfl, ate⟩ := hR
          refine ⟨_, rfl, rfl, _, rfl, ?_⟩
          refine ifT rfl ?_
          refine ⟨_, rfl, _, _, rfl, rfl, _, _, rfl, rfl, (by show 2 ≤ sizeLine; decide), fun q hq => ?_⟩
          refine kq q _ (same_trans s1 (same_new (same_refl H1) hq)) ?_
          rw [eF, fin_err, ← bad_back]
          exact upd_same
        | ok k l1 =>
          obtain ⟨hx, rfl, at1⟩ := hR
          refine ⟨_, rfl, rfl, _, rfl, ?_⟩
          refine ifF (decide_eq_false (th_nn (rd_any hd _ _ rfl) hx)) ?_
          refine ⟨_, rfl, _, rfl, _, rfl, big4 (by omega), rfl, ?_⟩
          refine ⟨_, rfl, ?_⟩
          rw [ps_end at1]
          by_cases e1 : l1 = []
          · refine ifT (decide_eq_true e1) ?_
            refine ⟨_, rfl, (by show 2 ≤ sizeLine; decide), fun q hq => ?_⟩
            have s2 := same_new (o := .tup [.str "told", x]) (same_refl H1) hq
            refine kq q _ (same_trans s1 s2) ?_
            rw [eF, e1, fin_nil]
            exact ⟨x, upd_same, hx.same s2⟩
          · refine ifF (decide_eq_false e1) ?_
            refine ⟨_, rfl, (by show 2 ≤ sizeLine; decide), fun q hq => ?_⟩
            refine kq q _ (same_trans s1 (same_new (same_refl H1) hq)) ?_
            rw [eF, fin_ne e1]
            exact upd_same
      · refine ⟨_, rfl, _, _, _, _, _, rfl, .ty _, ty, kt, _, rfl, ?_⟩
        refine ifT rfl ?_
        refine ⟨_, rfl, (by show 2 ≤ sizeLine; decide), fun q hq => ?_⟩
        refine kq q _ (same_new (same_refl H) hq) ?_
        rw [eF]
        exact upd_same
    · rcases hin with ⟨z, O, rfl, hz, hS, hd, eF⟩ | ⟨⟨tv, ty, kt⟩, eF⟩
      · have zl : (tl z).length = z.length := tl_len
        obtain ⟨hG, hc⟩ := hk z rfl
        refine ⟨_, rfl, _, _, _, _, _, rfl, .ty _, .base (.str z), kit_ty (r := true) (by decide +kernel), _, rfl, ?_⟩
        refine ifF rfl ?_
        refine ⟨_, rfl, _, rfl, ?_⟩
        refine ifF rfl ?_
        refine ⟨_, rfl, z, tl z, by rw [ps_all]; rfl, At.all, hz, hG, hS, hc, fun O' hO r x i H1 s1 hr1 hR => ?_⟩
        have := rp_one hd hO
        subst this
        refine ⟨r, _, rfl, SqT.of hr1, rfl, _, _, rfl, _, _, rfl, rfl, ?_⟩
        cases O with
        | err e =>
          obtain ⟨rfl, rfl, ate⟩ := hR
          refine ⟨_, rfl, rfl, _, rfl, ?_⟩
          refine ifT rfl ?_
          refine ⟨_, rfl, _, _, rfl, rfl, _, _, rfl, rfl, (by show 2 ≤ sizeLine; decide), fun q hq => ?_⟩
          refine kq q _ (same_trans s1 (same_new (same_refl H1) hq)) ?_
          rw [eF, fin_err, ← bad_back]
          exact upd_same
        | ok k l1 =>
          obtain ⟨hx, rfl, at1⟩ := hR
          obtain ⟨xa, us, rfl, hxa, hxw⟩ := hx
          refine ⟨_, rfl, rfl, _, rfl, ?_⟩
          refine ifF (by simp) ?_
          refine ⟨_, rfl, _, rfl, _, rfl, big4 (by omega), rfl, ?_⟩
          refine ⟨_, rfl, ?_⟩
          rw [ps_end at1]
          by_cases e1 : l1 = []
          · refine ifT (decide_eq_true e1) ?_
            refine ⟨_, rfl, (by show 2 ≤ sizeLine; decide), fun q hq => ?_⟩
            have s2 := same_new (o := .tup [.str "told", .ref xa]) (same_refl H1) hq
            refine kq q _ (same_trans s1 s2) ?_
            rw [eF, e1, fin_nil]
            exact ⟨.ref xa, upd_same, xa, us, rfl, s2 _ _ hxa, hxw.same s2⟩
          · refine ifF (decide_eq_false e1) ?_
            refine ⟨_, rfl, (by show 2 ≤ sizeLine; decide), fun q hq => ?_⟩
            refine kq q _ (same_trans s1 (same_new (same_refl H1) hq)) ?_
            rw [eF, fin_ne e1]
            exact upd_same
      · refine ⟨_, rfl, _, _, _, _, _, rfl, .ty _, ty, kt, _, rfl, ?_⟩
        refine ifT rfl ?_
        refine ⟨_, rfl, (by show 2 ≤ sizeLine; decide), fun q hq => ?_⟩
        refine kq q _ (same_new (same_refl H) hq) ?_
        rw [eF]
        exact upd_same
theorem scLTold : FnScope ["_law_text_here", "_law_is_kind", "_law_found", "e"] ["_law_text_here", "_law_is_kind"] (defScope sLTold) := ⟨rfl, rfl, rfl, by decide +kernel, rfl, by decide +kernel, by decide +kernel⟩
theorem ok_ltold {f fK fW : Addr} {fd fdK fdW : FuncData} (F : Fn K mg "_law_told" sLTold ["_law_text_here", "_law_is_kind"] f fd) (NK : Fn K mg "read_kind" sRdK ["text"] fK fdK) (GK : FnOk P w K mg base (L2.CX P w) 6 fK fdK ["text"] (spRdKX K CF)) (NW : Fn K mg "read_program" sRdP ["text"] fW fdW) (GW : FnOk P w K mg base (L2.CX P w) 8 fW fdW ["text"] (spRdPX K CF))
    (B : BtT K mg CF fF fdF) (TT : BtE K mg CF CE) (T : TxB mg) : FnOk P w K mg base CX0 9 f fd ["_law_text_here", "_law_is_kind"] (spLTold K) := by
  refine F.F.ok scLTold (fun vs H Q E h => ?_) (fun cdv A_ outer s H vs Q E hr h => ?_)
  · obtain ⟨_, _, rfl, _⟩ := h
    rfl
  · obtain ⟨v, b, rfl, cs⟩ := h
    have nd := scLTold.nd
    have hr6 := hr.mono (show 6 ≤ 8 by decide)
    refine ⟨_, pss_cons (ps_set (i := 2) nd rfl (Or.inl rfl) (pe_tup (pa_cons pe_str (pa_cons pe_non pa_nil))))
      (pss_cons (ps_try_as (i := 3) (Wout := fun _ _ _ _ => False) rfl rfl nd rfl rfl ⟨rfl, by decide, Or.inl TT.gE⟩ takes0
        (fun W pn xe tk _ => pss_one (ps_set (i := 2) nd rfl (Or.inl rfl) (pe_tup (pa_cons pe_str (pa_cons (pe_ifExp (pt_val (pv 1)) (pe_callS GK hr6 (by rfl) NK.m NK.F.kp NK.b (fun σ => passAt tk σ) (pa_cons (pv 0) pa_nil)) (pe_callS GW hr (by rfl) NW.m NW.F.kp NW.b (fun σ => passAt tk σ) (pa_cons (pv 0) pa_nil))) pa_nil)))))
        (fun a oe cls d pn hz hf => pss_one (ps_if (PW.pt (pw_and (pt_val (pe_callB (call_isES hz hf) (by rfl) T.isinstance (by decide +kernel) (pa_cons (pv 3) (pa_cons (pe_glob (v := .ref CF) (by rfl) B.m rfl) pa_nil)))) (pw_and1 (pt_val (pe_callB (call_isES hz hf) (by rfl) T.isinstance (by decide +kernel) (pa_cons (pv 3) (pa_cons (pe_bltn (v := .ty "ValueError") (by rfl) TT.vE (by decide +kernel) rfl) pa_nil)))))))
            (pss_one (ps_set (i := 2) nd rfl (Or.inl rfl) (pe_tup (pa_cons pe_str (pa_cons (pe_xf B.err.xf B.no hz hf (pv 3)) pa_nil)))))
            pss_nil)))
      (pss_one (ps_ret (pv 2)))), ?_⟩
    refine ⟨(by show 2 ≤ sizeLine; decide), fun q0 hq0 => ?_⟩
    have s0 := same_new (o := .tup [.str "other", V.non]) (same_refl H) hq0
    generalize upd H q0 (.tup [.str "other", V.non]) = H0 at s0
    rcases cs with ⟨rfl, FF, hin, hk, kq⟩ | ⟨rfl, FF, hin, hk, kq⟩
    · refine ⟨_, rfl, _, rfl, ?_⟩
      refine ifT rfl ?_
      refine ⟨_, rfl, v, FF, rfl, hin.same s0, hk, fun k e u H1 s1 hu => ?_, fun i e d H1 hd hx s1 => ?_⟩
      · refine ⟨(by show 2 ≤ sizeLine; decide), fun q hq => ?_⟩
        have s2 := same_new (o := .tup [.str "told", u]) (same_refl H1) hq
        have := kq q _ (same_trans s0 (same_trans s1 s2)) (by rw [e]; exact ⟨u, upd_same, (hu.same tups_le).same s2⟩)
        exact ⟨_, rfl, this⟩
      · refine ⟨true, TT.exm, fun _ a0 ha0 => ?_, fun z => nomatch z⟩
        refine ⟨_, rfl, CF, d, _, .ref CF, .ref CF, _, rfl, rfl, rfl, hx, .own _, B.err, TT.k1, _, rfl, ?_⟩
        refine ifT rfl ?_
        refine ⟨_, rfl, CF, d, _, .ty "ValueError", .type "ValueError", _, rfl, rfl, rfl, hx, .ty _, B.err, TT.k2, _, rfl, ?_⟩
        refine ifT rfl ?_
        refine ⟨_, rfl, rfl, rfl, d, _, .int i, rfl, hx, rfl, (by show 2 ≤ sizeLine; decide), fun q hq => ?_⟩
        have s2 := same_new (o := .tup [.str "text", .int i]) (same_refl H1) hq
        have := kq q _ (same_trans s0 (same_trans s1 s2)) (by rw [e]; exact upd_same)
        exact ⟨_, rfl, this⟩
    · refine ⟨_, rfl, _, rfl, ?_⟩
      refine ifF rfl ?_
      refine ⟨_, rfl, v, FF, rfl, hin.same s0, hk, fun ws e a us H1 s1 ha hw => ?_, fun i e d H1 hd hx s1 => ?_⟩
      · refine ⟨(by show 2 ≤ sizeLine; decide), fun q hq => ?_⟩
        have s2 := same_new (o := .tup [.str "told", .ref a]) (same_refl H1) hq
        have := kq q _ (same_trans s0 (same_trans s1 s2)) (by rw [e]; exact ⟨.ref a, upd_same, a, us, rfl, s2 _ _ ha, (hw.same tups_le).same s2⟩)
        exact ⟨_, rfl, this⟩
      · refine ⟨true, TT.exm, fun _ a0 ha0 => ?_, fun z => nomatch z⟩
        refine ⟨_, rfl, CF, d, _, .ref CF, .ref CF, _, rfl, rfl, rfl, hx, .own _, B.err, TT.k1, _, rfl, ?_⟩
        refine ifT rfl ?_
        refine ⟨_, rfl, CF, d, _, .ty "ValueError", .type "ValueError", _, rfl, rfl, rfl, hx, .ty _, B.err, TT.k2, _, rfl, ?_⟩
        refine ifT rfl ?_
        refine ⟨_, rfl, rfl, rfl, d, _, .int i, rfl, hx, rfl, (by show 2 ≤ sizeLine; decide), fun q hq => ?_⟩
        have s2 := same_new (o := .tup [.str "text", .int i]) (same_refl H1) hq
        have := kq q _ (same_trans s0 (same_trans s1 s2)) (by rw [e]; exact upd_same)
        exact ⟨_, rfl, this⟩
end
end LG

set_option Elab.async false
set_option linter.all false
set_option maxRecDepth 100000
set_option maxHeartbeats 8100000
set_option pp.maxSteps 400
namespace LG
open PySem L2 TL
/-! ### measures of texts -/
def cnt (f : Nat → Nat) : List Nat → Nat
  | [] => 0
  | c :: l => f c + cnt f l
theorem cnt_ap (f : Nat → Nat) : ∀ (a b : List Nat), cnt f (a ++ b) = cnt f a + cnt f b
  | [], b => by show cnt f b = 0 + cnt f b; omega
  | c :: a, b => by
    show f c + cnt f (a ++ b) = f c + cnt f a + cnt f b
    rw [cnt_ap f a b]; omega
theorem cnt_two {f g : Nat → Nat} (h : ∀ c, f c ≤ 2 * g c) : ∀ l, cnt f l ≤ 2 * cnt g l
  | [] => Nat.le_refl _
  | c :: l => by
    have := h c
    have := cnt_two h l
    show f c + cnt f l ≤ 2 * (g c + cnt g l)
    omega
def fG (c : Nat) : Nat := if c = 62 then 1 else 0
def fP (c : Nat) : Nat := if c = 40 then 2 else if c = 91 then 1 else 0
def fL (c : Nat) : Nat := if 97 ≤ c ∧ c ≤ 122 then 1 else 0
def fW (c : Nat) : Nat := if c = 62 ∨ c = 40 ∨ c = 91 then 1 else 0
theorem fG_W (c : Nat) : fG c ≤ fW c := by
  unfold fG fW
  by_cases h : c = 62
  · rw [if_pos h, if_pos (.inl h)]; exact Nat.le_refl _
  · (rw [if_neg h]; exact Nat.zero_le _)
theorem fP_W (c : Nat) : fP c ≤ 2 * fW c := by
  unfold fP fW
  by_cases h : c = 40
  · rw [if_pos h, if_pos (.inr (.inl h))]; omega
  · rw [if_neg h]
    by_cases h2 : c = 91
    · rw [if_pos h2, if_pos (.inr (.inr h2))]; omega
    · rw [if_neg h2]; omega
theorem gt_cnt : ∀ l, gt l ≤ cnt fG l
  | [] => Nat.le_refl _
  | c :: l => by
    have := gt_cnt l
    show (if c = 93 then 0 else if c = 62 then gt l + 1 else gt l) ≤ (if c = 62 then 1 else 0) + cnt fG l
    by_cases h : c = 93
    · rw [if_pos h]; omega
    · rw [if_neg h]
      by_cases h2 : c = 62
      · rw [if_pos h2, if_pos h2]; omega
      · rw [if_neg h2, if_neg h2]; omega
def fC (c : Nat) : Nat := if c = 40 ∨ c = 91 then 1 else 0
theorem sw_cntC : ∀ l, sw l ≤ cnt fC l
  | [] => Nat.le_refl _
  | c :: l => by
    have := sw_cntC l
    show (if c = 40 ∨ c = 91 then 1 else 0) + (if stp c ∧ ¬ noOp l then 0 else sw l) ≤ (if c = 40 ∨ c = 91 then 1 else 0) + cnt fC l
    split <;> split <;> omega
theorem fC_P : ∀ l, cnt fC l ≤ cnt fP l
  | [] => Nat.le_refl _
  | c :: l => by
    have := fC_P l
    show (if c = 40 ∨ c = 91 then 1 else 0) + cnt fC l ≤ (if c = 40 then 2 else if c = 91 then 1 else 0) + cnt fP l
    by_cases h : c = 40
    · rw [if_pos (.inl h), if_pos h]; omega
    · rw [if_neg h]
      by_cases h2 : c = 91
      · rw [if_pos (.inr h2), if_pos h2]; omega
      · rw [if_neg (by omega), if_neg h2]; omega
theorem kap_cnt (l : List Nat) : kap l ≤ cnt fP l + cnt fG l := Nat.add_le_add (Nat.le_trans (sw_cntC l) (fC_P l)) (gt_cnt l)
/-- a text that opens at once and ends in a letter or ")", put ahead of what opens: nothing more opens -/
theorem sw_edge : ∀ (p : List Nat) {c : Nat} {r : List Nat}, stp c → ¬ noOp r → sw (p ++ ([c] ++ r)) ≤ cnt fC (p ++ [c])
  | [], c, r, h, n => by
    show (if c = 40 ∨ c = 91 then 1 else 0) + (if stp c ∧ ¬ noOp r then 0 else sw r) ≤ (if c = 40 ∨ c = 91 then 1 else 0) + 0
    have e : (if stp c ∧ ¬ noOp r then 0 else sw r) = 0 := if_pos ⟨h, n⟩
    rw [e]; exact Nat.le_refl _
  | x :: p, c, r, h, n => by
    have := sw_edge p h n
    show (if x = 40 ∨ x = 91 then 1 else 0) + (if stp x ∧ ¬ noOp (p ++ ([c] ++ r)) then 0 else sw (p ++ ([c] ++ r))) ≤ (if x = 40 ∨ x = 91 then 1 else 0) + cnt fC (p ++ [c])
    split <;> split <;> omega
/-- how deep a kind can lie that is read from here -/
def hh : List Nat → Nat
  | [] => 0
  | c :: l => if c = 41 then hh l - 2 else if c = 40 ∨ c = 62 then hh l + 1 else hh l
theorem hh_mono {e : Nat} {y y' : List Nat} (h : hh y ≤ hh y' + e) : ∀ p : List Nat, hh (p ++ y) ≤ hh (p ++ y') + e
  | [] => h
  | c :: p => by
    have := hh_mono h p
    show (if c = 41 then hh (p ++ y) - 2 else if c = 40 ∨ c = 62 then hh (p ++ y) + 1 else hh (p ++ y)) ≤ (if c = 41 then hh (p ++ y') - 2 else if c = 40 ∨ c = 62 then hh (p ++ y') + 1 else hh (p ++ y')) + e
    split
    · omega
    · split <;> omega
theorem hh_W : ∀ (p y : List Nat), hh (p ++ y) ≤ hh y + cnt fW p
  | [], y => Nat.le_refl _
  | c :: p, y => by
    have := hh_W p y
    show (if c = 41 then hh (p ++ y) - 2 else if c = 40 ∨ c = 62 then hh (p ++ y) + 1 else hh (p ++ y)) ≤ hh y + ((if c = 62 ∨ c = 40 ∨ c = 91 then 1 else 0) + cnt fW p)
    split
    · omega
    · split
      · rename_i h
        rw [if_pos (by omega)]; omega
      · omega
theorem hh_pre (p y : List Nat) : hh p ≤ hh (p ++ y) := by
  have := hh_mono (e := 0) (y := []) (y' := y) (Nat.zero_le _) p
  rwa [List.append_nil] at this
theorem hh_one {m y : List Nat} (h : m.length ≤ 1) : hh y ≤ hh (m ++ y) + 2 := by
  cases m with
  | nil => show hh y ≤ hh y + 2; omega
  | cons c m =>
    obtain rfl : m = [] := List.eq_nil_of_length_eq_zero (by rw [List.length_cons] at h; omega)
    show hh y ≤ (if c = 41 then hh y - 2 else if c = 40 ∨ c = 62 then hh y + 1 else hh y) + 2
    split
    · omega
    · split <;> omega
theorem hh_ar (l : List Nat) : hh (ar3 ++ l) = hh l + 1 := rfl
/-! what a kind that is read tells of its text -/
theorem rd_count {b : Bool} {l : List Nat} {o : Ot Th} (h : Rd b l o) : ∀ k l1, o = .ok k l1 → 1 ≤ k.letters ∧ cnt fL l = cnt fL l1 + k.letters ∧ cnt fG l + 1 = cnt fG l1 + k.letters ∧ gt l1 + k.letters ≤ gt l + 1 := by
  induction h with
  | @lt i l hi =>
    intro k l1 q; cases q
    refine ⟨Nat.le_refl _, ?_, ?_, ?_⟩
    · show (if 97 ≤ 97 + i ∧ 97 + i ≤ 122 then 1 else 0) + _ = _ + 1
      rw [if_pos (by omega)]; omega
    · show (if 97 + i = 62 then 1 else 0) + _ + 1 = _ + 1
      rw [if_neg (by omega)]; omega
    · show gt l + 1 ≤ (if 97 + i = 93 then 0 else if 97 + i = 62 then _ else gt l) + 1
      rw [if_neg (by omega), if_neg (by omega)]; exact Nat.le_refl _
  | @g5 l a l1 l2 b l3 l4 _ h2 _ h4 ih ih2 =>
    intro k l1' q; cases q
    obtain ⟨a1, a2, a3, a4⟩ := ih _ _ rfl
    obtain ⟨b1, b2, b3, b4⟩ := ih2 _ _ rfl
    have e1 := ndd_ok h2
    have e4 := ndd_ok h4
    subst e1
    subst e4
    rw [cnt_ap] at a2 a3 b2 b3
    have c1 : cnt fL ar3 = 0 := rfl
    have c2 : cnt fG ar3 = 1 := rfl
    have c3 : cnt fL [41] = 0 := rfl
    have c4 : cnt fG [41] = 0 := rfl
    have c5 : cnt fL (40 :: l) = cnt fL l := by show fL 40 + _ = _; rw [show fL 40 = 0 from rfl]; omega
    have c6 : cnt fG (40 :: l) = cnt fG l := by show fG 40 + _ = _; rw [show fG 40 = 0 from rfl]; omega
    have c7 : gt (ar3 ++ l2) = gt l2 + 1 := rfl
    have c8 : gt ([41] ++ l4) = gt l4 := rfl
    have c9 : gt (40 :: l) = gt l := rfl
    rw [c7] at a4
    rw [c8] at b4
    refine ⟨?_, ?_, ?_, ?_⟩
    · show 1 ≤ a.letters + b.letters; omega
    · show _ = _ + (a.letters + b.letters); omega
    · show _ = _ + (a.letters + b.letters); omega
    · show _ + (a.letters + b.letters) ≤ _; omega
  | k2 _ _ _ ih => exact ih
  | @k5 l a l1 l2 b l3 _ _ h3 _ ih ih2 =>
    intro k l1' q; cases q
    obtain ⟨a1, a2, a3, a4⟩ := ih _ _ rfl
    obtain ⟨b1, b2, b3, b4⟩ := ih2 _ _ rfl
    have e1 := ndd_ok h3
    subst e1
    rw [cnt_ap] at a2 a3
    have c1 : cnt fL ar3 = 0 := rfl
    have c2 : cnt fG ar3 = 1 := rfl
    have c7 : gt (ar3 ++ l2) = gt l2 + 1 := rfl
    rw [c7] at a4
    refine ⟨?_, ?_, ?_, ?_⟩
    · show 1 ≤ a.letters + b.letters; omega
    · show _ = _ + (a.letters + b.letters); omega
    · show _ = _ + (a.letters + b.letters); omega
    · show _ + (a.letters + b.letters) ≤ _; omega
  | _ => intro k l1 q; cases q
theorem rd_hh {b : Bool} {l : List Nat} {o : Ot Th} (h : Rd b l o) : ∀ k l1, o = .ok k l1 → hh l1 ≤ hh l ∧ (b = true → 1 ≤ hh l1 → k.depth + 1 ≤ hh l) ∧ (b = true → l.head? ≠ some 40 → k.depth = 0) ∧ (b = false → k.depth ≤ hh l) := by
  induction h with
  | @lt i l hi =>
    intro k l1 q; cases q
    have e : hh ((97 + i) :: l) = hh l := by
      show (if 97 + i = 41 then _ else if 97 + i = 40 ∨ 97 + i = 62 then _ else hh l) = hh l
      (rw [if_neg (by omega), if_neg (by omega)])
    rw [e]
    exact ⟨Nat.le_refl _, fun _ h => h, fun _ _ => rfl, fun h => by cases h⟩
  | @g5 l a l1 l2 b l3 l4 _ h2 _ h4 ih ih2 =>
    intro k l1' q; cases q
    obtain ⟨a1, a2, _, _⟩ := ih _ _ rfl
    obtain ⟨b1, _, _, b4⟩ := ih2 _ _ rfl
    have e1 := ndd_ok h2
    have e4 := ndd_ok h4
    subst e1
    subst e4
    rw [hh_ar] at a1 a2
    have a2 := a2 rfl (by omega)
    have b4 := b4 rfl
    have c8 : hh ([41] ++ l4) = hh l4 - 2 := rfl
    have c9 : hh (40 :: l) = hh l + 1 := rfl
    rw [c8] at b1
    rw [c9]
    refine ⟨by omega, fun _ _ => ?_, fun _ n => absurd rfl n, fun h => by cases h⟩
    show max a.depth b.depth + 1 + 1 ≤ _
    omega
  | @k2 l a l1 h1 h40 _ ih =>
    intro k l1' q; cases q
    obtain ⟨a1, _, a3, _⟩ := ih _ _ rfl
    refine ⟨a1, fun h => (by cases h), fun h => (by cases h), fun _ => ?_⟩
    rw [a3 rfl h40]; exact Nat.zero_le _
  | @k5 l a l1 l2 b l3 _ _ h3 _ ih ih2 =>
    intro k l1' q; cases q
    obtain ⟨a1, a2, _, _⟩ := ih _ _ rfl
    obtain ⟨b1, _, _, b4⟩ := ih2 _ _ rfl
    have e1 := ndd_ok h3
    subst e1
    rw [hh_ar] at a1 a2
    have a2 := a2 rfl (by omega)
    have b4 := b4 rfl
    refine ⟨by omega, fun h => (by cases h), fun h => (by cases h), fun _ => ?_⟩
    show max a.depth b.depth + 1 ≤ _
    omega
  | _ => intro k l1 q; cases q
/-- a text that is twice another one is no kind's -/
theorem rd_twice {t : List Nat} {k : Th} (h : Rd false (t ++ t) (.ok k [])) : False := by
  obtain ⟨_, a, b, _⟩ := rd_count h _ _ rfl
  rw [cnt_ap] at a b
  have c : cnt fL [] = 0 := rfl
  have d : cnt fG [] = 0 := rfl
  omega
theorem size_let : ∀ {t : Th}, t.any = true → t.size + 1 = 2 * t.letters ∧ t.depth + 1 ≤ t.letters
  | .int i, _ => ⟨rfl, Nat.le_refl _⟩
  | .pr l r, a => by
    obtain ⟨a1, a2⟩ := any_pr a
    have := size_let a1
    have := size_let a2
    refine ⟨?_, ?_⟩
    · show l.size + r.size + 1 + 1 = 2 * (l.letters + r.letters); omega
    · show max l.depth r.depth + 1 + 1 ≤ l.letters + r.letters; omega
  | .bl b, h => by cases h
  | .non, h => by cases h
  | .tup, h => by cases h
/-! what a program that is read tells of its text -/
theorem rt_fP {l l1 : List Nat} {x : Str × Th} (h : Rt l (.ok x l1)) : cnt fP l1 ≤ cnt fP l ∧ x.2.any = true ∧ ∃ p l2, l = p ++ l2 ∧ x.2.letters ≤ gt l2 + 1 := by
  obtain ⟨p, e⟩ := rt_at h
  refine ⟨by rw [e, cnt_ap]; omega, ?_⟩
  obtain ⟨y, t⟩ := x
  obtain ⟨_, pp, l2, l3, el, rk⟩ := h.kind
  have := (rd_count rk _ _ rfl).2.2.2
  exact ⟨rd_any rk _ _ rfl, pp, l2, el, by show t.letters ≤ _; omega⟩
theorem rp_fP {l : List Nat} {o : Ot (List Wd)} (h : Rp l o) : ∀ ws l1, o = .ok ws l1 → ws.length + cnt fP l1 ≤ cnt fP l + 1 := by
  induction h with
  | @t3 l z t l1 b l2 h1 _ ih =>
    intro ws l1' q; cases q
    have := ih _ _ rfl
    have := (rt_fP h1).1
    have e : cnt fP (91 :: l) = 1 + cnt fP l := rfl
    rw [e, List.length_cons]; omega
  | @n2 l z l1 _ _ h3 =>
    intro ws l1' q; cases q
    obtain ⟨p, e⟩ := rdN_at (z := ("" : Str)) h3
    rw [e, cnt_ap]
    show 1 + _ ≤ _; omega
  | @u5 l a l1 l2 b l3 l4 _ h2 _ h4 ih ih2 =>
    intro ws l1' q; cases q
    have a1 := ih _ _ rfl
    have a2 := ih2 _ _ rfl
    have e1 := ndd_ok h2
    have e4 := ndd_ok h4
    subst e1
    subst e4
    rw [cnt_ap] at a1 a2
    have e : cnt fP (40 :: l) = 2 + cnt fP l := rfl
    have c1 : cnt fP [32] = 0 := rfl
    have c2 : cnt fP [41] = 0 := rfl
    rw [e, List.length_cons, List.length_append]; omega
  | _ => intro ws l1 q; cases q
/-- a program that is read is one, its kinds small -/
theorem rp_cnt {l : List Nat} {o : Ot (List Wd)} (h : Rp l o) {R : Nat} (hR : R ≤ 20) : (∀ p m, l = p ++ m → gt m ≤ R) → ∀ ws l1, o = .ok ws l1 → ∀ r n, cntC Th.isKind r = some n → cntC Th.isKind (ws ++ r) = some (n + 1) := by
  induction h with
  | @t3 l z t l1 b l2 h1 _ ih =>
    intro hg ws l1' q r n e; cases q
    obtain ⟨_, ta, pp, lk, el, tl_⟩ := rt_fP h1
    obtain ⟨p1, e1⟩ := rt_at h1
    have i1 := ih (fun p m em => hg (91 :: (p1 ++ p)) m (by rw [e1, em]; simp)) _ _ rfl r n e
    have g := hg (91 :: pp) lk (by rw [el]; rfl)
    have tl_ : t.letters ≤ gt lk + 1 := tl_
    have ta : t.any = true := ta
    have sd := size_let ta
    have tk : t.isKind = true := isKind_of ta (by omega) (by omega)
    show (cntC Th.isKind (b ++ r)).bind (stepC Th.isKind (.pr (some z) t)) = _
    rw [i1]
    show stepC Th.isKind (.pr (some z) t) (n + 1) = _
    unfold stepC
    have u : (Wd.pr (some z) t).use = false := rfl
    have nn : (Wd.pr (some z) t).name = false := rfl
    have k : (Wd.pr (some z) t).take Th.isKind = true := by
      show (nameB z && t.isKind) = true
      rw [rdN_name h1.kind.1, tk]; rfl
    rw [u, nn, k, if_neg Bool.false_ne_true, if_neg Bool.false_ne_true, if_neg (by simp)]
  | @n2 l z l1 _ _ h3 =>
    intro hg ws l1' q r n e; cases q
    have h := rdN_name h3
    show (cntC Th.isKind r).bind (stepC Th.isKind (.st z)) = _
    rw [e]
    show stepC Th.isKind (.st z) n = _
    unfold stepC
    rw [if_neg (by rw [nm_use h]; exact Bool.false_ne_true), if_pos (show (Wd.st z).name = true from h)]
  | @u5 l a l1 l2 b l3 l4 h1 h2 _ h4 ih ih2 =>
    intro hg ws l1' q r n e; cases q
    obtain ⟨p1, e1⟩ := rp_at h1 _ _ rfl
    have e2 := ndd_ok h2
    have i2 := ih2 (fun p m em => hg (40 :: (p1 ++ ([32] ++ p))) m (by rw [e1, e2, em]; simp)) _ _ rfl r n e
    have i1 := ih (fun p m em => hg (40 :: p) m (by rw [em]; rfl)) _ _ rfl _ _ i2
    show (cntC Th.isKind ((a ++ b) ++ r)).bind (stepC Th.isKind (.st "@")) = _
    rw [List.append_assoc, i1]
    show stepC Th.isKind (.st "@") (n + 1 + 1) = _
    unfold stepC
    have u : (Wd.st "@").use = true := by decide +kernel
    rw [if_pos u, if_neg (by omega)]
    rfl
  | _ => intro hg ws l1 q; cases q
end LG

set_option Elab.async false
set_option linter.all false
set_option maxRecDepth 100000
set_option maxHeartbeats 8100000
set_option pp.maxSteps 400
namespace LG
open PySem L2 TL
/-! ### texts that are bent: measures -/
theorem suf_app {A B p m : List Nat} (h : A ++ B = p ++ m) : (∃ A1 A2, A = A1 ++ A2 ∧ m = A2 ++ B) ∨ (∃ B1, B = B1 ++ m) := by
  rcases List.append_eq_append_iff.mp h with ⟨q, _, e2⟩ | ⟨q, e1, e2⟩
  · exact .inr ⟨q, e2⟩
  · exact .inl ⟨p, q, e1, e2⟩
theorem gt_add : ∀ p r : List Nat, gt (p ++ r) ≤ gt p + gt r
  | [], r => by show gt r ≤ 0 + gt r; omega
  | c :: p, r => by
    have := gt_add p r
    show (if c = 93 then 0 else if c = 62 then gt (p ++ r) + 1 else gt (p ++ r)) ≤ (if c = 93 then 0 else if c = 62 then gt p + 1 else gt p) + gt r
    split
    · omega
    · split <;> omega
theorem gt_pre : ∀ p r : List Nat, gt p ≤ gt (p ++ r)
  | [], r => Nat.zero_le _
  | c :: p, r => by
    have := gt_pre p r
    show (if c = 93 then 0 else if c = 62 then gt p + 1 else gt p) ≤ (if c = 93 then 0 else if c = 62 then gt (p ++ r) + 1 else gt (p ++ r))
    split
    · omega
    · split <;> omega
theorem cnt_suf {f : Nat → Nat} {l p m : List Nat} (h : l = p ++ m) : cnt f m ≤ cnt f l := by rw [h, cnt_ap]; omega
def GtL (l : List Nat) (R : Nat) : Prop := ∀ p m, l = p ++ m → gt m ≤ R
def SgL (l : List Nat) (B : Nat) : Prop := ∀ p m, l = p ++ m → hh m ≤ B
/-- bent, but not put twice -/
def Nd (l l' : List Nat) : Prop := ∃ x a m b y s u, l = x ++ (a ++ (m ++ (b ++ y))) ∧ l' = u ++ (a ++ (s ++ b)) ∧ m.length ≤ 1 ∧ cnt fW s ≤ 1 ∧ s.length ≤ 4 ∧ cnt fW u = 0 ∧ u.length ≤ 9
def Bnt (l l' : List Nat) : Prop := Nd l l' ∨ l' = l ++ l
theorem Nd.cnt {f : Nat → Nat} {k : Nat} {l l' : List Nat} (h : Nd l l') (hf : ∀ p, LG.cnt f p ≤ k * LG.cnt fW p) : LG.cnt f l' ≤ LG.cnt f l + k := by
  obtain ⟨x, a, m, b, y, s, u, rfl, rfl, _, hs, _, hu, _⟩ := h
  have h1 := hf s
  have h2 := hf u
  rw [hu, Nat.mul_zero] at h2
  have h3 : k * LG.cnt fW s ≤ k * 1 := Nat.mul_le_mul_left k hs
  simp only [cnt_ap]
  omega
theorem Nd.len {l l' : List Nat} (h : Nd l l') : l'.length ≤ l.length + 13 := by
  obtain ⟨x, a, m, b, y, s, u, rfl, rfl, _, _, hs, _, hu⟩ := h
  simp only [List.length_append]
  omega
theorem gtW (p : List Nat) : gt p ≤ cnt fW p := Nat.le_trans (gt_cnt p) (by
  have := cnt_two (f := fG) (g := fW) (fun c => by have := fG_W c; omega) p
  induction p with
  | nil => exact Nat.le_refl _
  | cons c p ih =>
    have := ih (cnt_two (f := fG) (g := fW) (fun c => by have := fG_W c; omega) p)
    exact Nat.add_le_add (fG_W c) this)
theorem fG_le (p : List Nat) : cnt fG p ≤ 1 * cnt fW p := by
  induction p with
  | nil => exact Nat.le_refl _
  | cons c p ih =>
    have := fG_W c
    show fG c + cnt fG p ≤ 1 * (fW c + cnt fW p)
    omega
theorem fP_le (p : List Nat) : cnt fP p ≤ 2 * cnt fW p := cnt_two fP_W p
theorem Nd.gt {R : Nat} {l l' : List Nat} (h : Nd l l') (g : GtL l R) : GtL l' (2 * R + 1) := by
  obtain ⟨x, a, m, b, y, s, u, rfl, rfl, _, hs, _, hu, _⟩ := h
  have gb : ∀ b1 b2, b = b1 ++ b2 → LG.gt b2 ≤ R := fun b1 b2 e => Nat.le_trans (gt_pre b2 y) (g (x ++ (a ++ (m ++ b1))) _ (by rw [e]; simp))
  have ga : ∀ a1 a2, a = a1 ++ a2 → LG.gt a2 ≤ R := fun a1 a2 e => Nat.le_trans (gt_pre a2 _) (g (x ++ a1) (a2 ++ (m ++ (b ++ y))) (by rw [e]; simp))
  have b0 := gb [] b rfl
  have a0 := ga [] a rfl
  have s0 := Nat.le_trans (gtW s) hs
  intro p q e
  rcases suf_app e with ⟨A1, A2, e1, rfl⟩ | ⟨B1, e⟩
  · have := gt_add A2 (a ++ (s ++ b))
    have := gt_add a (s ++ b)
    have := gt_add s b
    have := gtW A2
    have := cnt_suf (f := fW) e1
    omega
  · rcases suf_app e with ⟨A1, A2, e1, rfl⟩ | ⟨B2, e⟩
    · have := gt_add A2 (s ++ b)
      have := gt_add s b
      have := ga _ _ e1
      omega
    · rcases suf_app e with ⟨A1, A2, e1, rfl⟩ | ⟨B3, e⟩
      · have := gt_add A2 b
        have := gtW A2
        have := cnt_suf (f := fW) e1
        omega
      · have := gb _ _ e
        omega
theorem twice_gt {R : Nat} {l : List Nat} (g : GtL l R) : GtL (l ++ l) (2 * R) := by
  intro p q e
  rcases suf_app e with ⟨A1, A2, e1, rfl⟩ | ⟨B1, e⟩
  · have := gt_add A2 l
    have := g _ _ e1
    have := g [] l rfl
    omega
  · have := g _ _ e
    omega
theorem Nd.sg {B : Nat} {l l' : List Nat} (h : Nd l l') (g : SgL l B) : SgL l' (B + 3) := by
  obtain ⟨x, a, m, b, y, s, u, rfl, rfl, hm, hs, _, hu, _⟩ := h
  have gb : ∀ b1 b2, b = b1 ++ b2 → hh b2 ≤ B := fun b1 b2 e => Nat.le_trans (hh_pre b2 y) (g (x ++ (a ++ (m ++ b1))) _ (by rw [e]; simp))
  have b0 := hh_pre b y
  have m0 := hh_one (y := b ++ y) hm
  have s0 := hh_W s b
  have sa : ∀ a1 a2, a = a1 ++ a2 → hh (a2 ++ (s ++ b)) ≤ B + 3 := fun a1 a2 e => by
    have h1 := hh_mono (e := 3) (y := s ++ b) (y' := m ++ (b ++ y)) (by omega) a2
    have h2 := g (x ++ a1) (a2 ++ (m ++ (b ++ y))) (by rw [e]; simp)
    omega
  intro p q e
  rcases suf_app e with ⟨A1, A2, e1, rfl⟩ | ⟨B1, e⟩
  · have := hh_W A2 (a ++ (s ++ b))
    have := sa [] a rfl
    have := cnt_suf (f := fW) e1
    omega
  · rcases suf_app e with ⟨A1, A2, e1, rfl⟩ | ⟨B2, e⟩
    · exact sa _ _ e1
    · rcases suf_app e with ⟨A1, A2, e1, rfl⟩ | ⟨B3, e⟩
      · have := hh_W A2 b
        have := gb [] b rfl
        have := cnt_suf (f := fW) e1
        omega
      · have := gb _ _ e
        omega
theorem twice_sg {B : Nat} {l : List Nat} (g : SgL l B) : SgL (l ++ l) (2 * B) := by
  intro p q e
  rcases suf_app e with ⟨A1, A2, e1, rfl⟩ | ⟨B1, e⟩
  · have h1 := hh_mono (e := hh l) (y := l) (y' := []) (by omega) A2
    rw [List.append_nil] at h1
    have := g _ _ e1
    have := g [] l rfl
    omega
  · have := g _ _ e
    omega
/-! the texts of kinds, bent at most twice -/
def KP : Nat → List Nat → Prop
  | 0, l => cnt fG l ≤ 15 ∧ cnt fP l ≤ 30 ∧ SgL l 8 ∧ l.length ≤ 1000
  | 1, l => cnt fG l ≤ 30 ∧ cnt fP l ≤ 62 ∧ SgL l 16 ∧ l.length ≤ 3000
  | _, l => cnt fG l ≤ 61 ∧ cnt fP l ≤ 126 ∧ l.length ≤ 7000 ∧ ((cnt fG l ≤ 31 ∧ SgL l 19) ∨ ∃ t, l = t ++ t)
theorem SgL.le {l : List Nat} {B C : Nat} (h : SgL l B) (c : B ≤ C) : SgL l C := fun p m e => Nat.le_trans (h p m e) c
theorem KP.two {i : Nat} {l : List Nat} (h : KP i l) : KP 2 l := by
  match i, h with
  | 0, h => exact ⟨by have := h.1; omega, by have := h.2.1; omega, by have := h.2.2.2; omega, .inl ⟨by have := h.1; omega, h.2.2.1.le (by decide)⟩⟩
  | 1, h => exact ⟨by have := h.1; omega, by have := h.2.1; omega, by have := h.2.2.2; omega, .inl ⟨by have := h.1; omega, h.2.2.1.le (by decide)⟩⟩
  | i + 2, h => exact h
theorem KP.bent {i : Nat} {l l' : List Nat} (h : KP i l) (hi : i < 2) (b : Bnt l l') : KP (i + 1) l' := by
  rcases b with b | rfl
  · have g := b.cnt fG_le
    have p := b.cnt fP_le
    have n := b.len
    match i, h, hi with
    | 0, h, _ => exact ⟨by have := h.1; omega, by have := h.2.1; omega, (b.sg h.2.2.1).le (by decide), by have := h.2.2.2; omega⟩
    | 1, h, _ => exact ⟨by have := h.1; omega, by have := h.2.1; omega, by have := h.2.2.2; omega, .inl ⟨by have := h.1; omega, (b.sg h.2.2.1).le (by decide)⟩⟩
  · have g := cnt_ap fG l l
    have p := cnt_ap fP l l
    have n : (l ++ l).length = l.length + l.length := List.length_append
    match i, h, hi with
    | 0, h, _ => exact ⟨by have := h.1; omega, by have := h.2.1; omega, (twice_sg h.2.2.1).le (by decide), by have := h.2.2.2; omega⟩
    | 1, h, _ => exact ⟨by have := h.1; omega, by have := h.2.1; omega, by have := h.2.2.2; omega, .inr ⟨l, rfl⟩⟩
theorem KP.kap {l : List Nat} (h : KP 2 l) : kap l ≤ 187 := by
  have := kap_cnt l
  have := h.1
  have := h.2.1
  omega
theorem KP.fine {l : List Nat} {k : Th} (h : KP 2 l) (r : Rd false l (.ok k [])) : k.isKind = true ∧ k.size ≤ 10000 := by
  have a := rd_any r _ _ rfl
  obtain ⟨_, _, c, _⟩ := rd_count r _ _ rfl
  have e : cnt fG [] = 0 := rfl
  have d := (rd_hh r _ _ rfl).2.2.2 rfl
  have s := size_let a
  rcases h.2.2.2 with ⟨g, sg⟩ | ⟨t, rfl⟩
  · have := sg [] l rfl
    exact ⟨isKind_of a (by omega) (by omega), by omega⟩
  · exact (rd_twice r).elim
def sD : Nat → Nat
  | 0 => 0
  | 1 => 1
  | d + 2 => 2 * sD (d + 1)
theorem sD_pos : ∀ d, 1 ≤ sD (d + 1)
  | 0 => Nat.le_refl _
  | d + 1 => by have := sD_pos d; show 1 ≤ 2 * sD (d + 1); omega
theorem sD_up : ∀ d, sD d + 1 ≤ sD (d + 1)
  | 0 => Nat.le_refl _
  | d + 1 => by have := sD_pos d; show sD (d + 1) + 1 ≤ 2 * sD (d + 1); omega
theorem kL_sg : ∀ {t : Th} {d : Nat}, t.any = true → t.depth ≤ d → ∀ A m r, kL t = A ++ m → hh (m ++ r) ≤ hh r + sD d
  | .int i, d, a, _, A, m, r, e => by
    obtain ⟨j, ej, hj⟩ := any_int a rfl
    cases ej
    have e : [97 + j] = A ++ m := by
      have q : kL (.int (j : Int)) = [97 + j] := by show [97 + (j : Int).toNat] = _; rw [Int.toNat_natCast]
      rw [← q]; exact e
    have w : cnt fW [97 + j] = 0 := by
      show (if 97 + j = 62 ∨ 97 + j = 40 ∨ 97 + j = 91 then 1 else 0) + 0 = 0
      rw [if_neg (by omega)]
    have := cnt_suf (f := fW) e
    have := hh_W m r
    omega
  | .pr l q, 0, _, d, _, _, _, _ => by
    have d : max l.depth q.depth + 1 ≤ 0 := d
    omega
  | .pr l q, d + 1, a, hd, A, m, r, e => by
    obtain ⟨a1, a2⟩ := any_pr a
    have hd : max l.depth q.depth + 1 ≤ d + 1 := hd
    have up := sD_up d
    have i2 := kL_sg a2 (d := d) (by omega)
    have whole := i2 [] (kL q) r rfl
    have e : (if l.isPr = true then 40 :: (kL l ++ [41]) else kL l) ++ (ar3 ++ kL q) = A ++ m := e
    have X : hh (ar3 ++ (kL q ++ r)) ≤ hh r + sD d + 1 := by rw [hh_ar]; omega
    rcases suf_app e with ⟨T1, T2, e1, rfl⟩ | ⟨B1, e⟩
    · rw [List.append_assoc, List.append_assoc]
      cases hp : l.isPr with
      | false =>
        rw [hp, if_neg Bool.false_ne_true] at e1
        obtain ⟨j, rfl, hj⟩ := any_int a1 hp
        have := kL_sg a1 (d := 0) (Nat.le_refl 0) T1 T2 (ar3 ++ (kL q ++ r)) e1
        have z : sD 0 = 0 := rfl
        omega
      | true =>
        rw [hp, if_pos rfl] at e1
        obtain ⟨x, y, rfl⟩ := pr_of hp
        have hx : (Th.pr x y).depth ≤ d := by omega
        have d1 : ∃ d', d = d' + 1 := by
          have : 1 ≤ (Th.pr x y).depth := by show 1 ≤ max x.depth y.depth + 1; omega
          exact ⟨d - 1, by omega⟩
        obtain ⟨d', rfl⟩ := d1
        have pos := sD_pos d'
        have dbl : sD (d' + 1 + 1) = 2 * sD (d' + 1) := rfl
        have i1 := kL_sg a1 (d := d' + 1) hx
        have c : hh ([41] ++ (ar3 ++ (kL q ++ r))) = hh (ar3 ++ (kL q ++ r)) - 2 := rfl
        have w1 := i1 [] (kL (.pr x y)) ([41] ++ (ar3 ++ (kL q ++ r))) rfl
        have e1 : [40] ++ (kL (.pr x y) ++ [41]) = T1 ++ T2 := e1
        rcases suf_app e1 with ⟨U1, U2, e2, rfl⟩ | ⟨U1, e2⟩
        · have := hh_W U2 (kL (.pr x y) ++ ([41] ++ (ar3 ++ (kL q ++ r))))
          have := cnt_suf (f := fW) e2
          have w : cnt fW [40] = 1 := rfl
          (rw [List.append_assoc, List.append_assoc])
          omega
        · rcases suf_app e2 with ⟨V1, V2, e3, rfl⟩ | ⟨V1, e3⟩
          · have := i1 V1 V2 ([41] ++ (ar3 ++ (kL q ++ r))) e3
            rw [List.append_assoc]
            omega
          · have := hh_W T2 (ar3 ++ (kL q ++ r))
            have := cnt_suf (f := fW) e3
            have w : cnt fW [41] = 0 := rfl
            omega
    · rcases suf_app e with ⟨V1, V2, e3, rfl⟩ | ⟨V1, e3⟩
      · have := hh_W V2 (kL q ++ r)
        have := cnt_suf (f := fW) e3
        have w : cnt fW ar3 = 1 := rfl
        rw [List.append_assoc]
        omega
      · have := i2 V1 m r e3
        omega
  | .bl b, _, h, _, _, _, _, _ => by cases h
  | .non, _, h, _, _, _, _, _ => by cases h
  | .tup, _, h, _, _, _, _, _ => by cases h
theorem kL_cnt : ∀ {t : Th}, t.any = true → cnt fG (kL t) + 1 = t.letters ∧ cnt fP (kL t) + 2 ≤ 2 * t.letters
  | .int i, a => by
    obtain ⟨j, ej, hj⟩ := any_int a rfl
    cases ej
    have q : kL (.int (j : Int)) = [97 + j] := by show [97 + (j : Int).toNat] = _; rw [Int.toNat_natCast]
    rw [q]
    refine ⟨?_, ?_⟩
    · show (if 97 + j = 62 then 1 else 0) + 0 + 1 = 1
      rw [if_neg (by omega)]
    · show (if 97 + j = 40 then 2 else if 97 + j = 91 then 1 else 0) + 0 + 2 ≤ 2 * 1
      rw [if_neg (by omega), if_neg (by omega)]; omega
  | .pr l q, a => by
    obtain ⟨a1, a2⟩ := any_pr a
    obtain ⟨b1, b2⟩ := kL_cnt a1
    obtain ⟨c1, c2⟩ := kL_cnt a2
    show cnt fG ((if l.isPr = true then 40 :: (kL l ++ [41]) else kL l) ++ (ar3 ++ kL q)) + 1 = l.letters + q.letters ∧ cnt fP ((if l.isPr = true then 40 :: (kL l ++ [41]) else kL l) ++ (ar3 ++ kL q)) + 2 ≤ 2 * (l.letters + q.letters)
    have x1 : cnt fG ar3 = 1 := rfl
    have x2 : cnt fP ar3 = 0 := rfl
    have y1 : cnt fG [40] = 0 := rfl
    have y2 : cnt fP [40] = 2 := rfl
    have z1 : cnt fG [41] = 0 := rfl
    have z2 : cnt fP [41] = 0 := rfl
    cases hp : l.isPr with
    | false =>
      (rw [if_neg Bool.false_ne_true])
      simp only [cnt_ap]
      omega
    | true =>
      rw [if_pos rfl, show 40 :: (kL l ++ [41]) = [40] ++ (kL l ++ [41]) from rfl]
      simp only [cnt_ap]
      omega
  | .bl b, h => by cases h
  | .non, h => by cases h
  | .tup, h => by cases h
theorem kp_of {t : Th} (a : t.any = true) (d : t.depth ≤ 4) (s : t.size < 32) : KP 0 (kL t) := by
  obtain ⟨c1, c2⟩ := kL_cnt a
  have e := size_let a
  have n := kL_len t
  refine ⟨by omega, by omega, fun p m em => ?_, by omega⟩
  have := kL_sg a d p m [] em
  rw [List.append_nil] at this
  exact this
/-! the texts of programs -/
def Edg (l : List Nat) : Prop := cnt fC l = 0 ∨ (¬ noOp l ∧ ∃ p c, l = p ++ [c] ∧ stp c)
def PP : Nat → List Nat → Prop
  | 0, l => GtL l 1 ∧ cnt fP l ≤ 60 ∧ l.length ≤ 5000 ∧ Edg l ∧ cnt fC l ≤ 60
  | 1, l => GtL l 3 ∧ cnt fP l ≤ 122 ∧ l.length ≤ 12000 ∧ (cnt fC l ≤ 61 ∨ ∃ t, l = t ++ t ∧ Edg t ∧ cnt fC t ≤ 60)
  | _, l => GtL l 7 ∧ cnt fP l ≤ 246 ∧ l.length ≤ 30000 ∧ sw l ≤ 125
theorem GtL.le {l : List Nat} {B C : Nat} (h : GtL l B) (c : B ≤ C) : GtL l C := fun p m e => Nat.le_trans (h p m e) c
theorem fC_le (p : List Nat) : cnt fC p ≤ 1 * cnt fW p := by
  induction p with
  | nil => exact Nat.le_refl _
  | cons c p ih =>
    show (if c = 40 ∨ c = 91 then 1 else 0) + cnt fC p ≤ 1 * ((if c = 62 ∨ c = 40 ∨ c = 91 then 1 else 0) + cnt fW p)
    split
    · rename_i h
      rw [if_pos (.inr h)]; omega
    · split <;> omega
theorem pp1_c {l : List Nat} (h : cnt fC l ≤ 61 ∨ ∃ t, l = t ++ t ∧ Edg t ∧ cnt fC t ≤ 60) : cnt fC l ≤ 120 := by
  rcases h with h | ⟨t, rfl, _, h⟩
  · omega
  · rw [cnt_ap]; omega
theorem noOp_app {t r : List Nat} (h : ¬ noOp t) : ¬ noOp (t ++ r) := by
  cases t with
  | nil => exact absurd ⟨fun q => (by cases q), fun q => (by cases q)⟩ h
  | cons c q => exact h
theorem four_sw {t : List Nat} (h : Edg t) (c : cnt fC t ≤ 60) : sw ((t ++ t) ++ (t ++ t)) ≤ 125 := by
  rcases h with h | ⟨n, p, x, e, st⟩
  · have := sw_cntC ((t ++ t) ++ (t ++ t))
    rw [cnt_ap, cnt_ap] at this
    omega
  · have := sw_edge p (c := x) (r := t ++ (t ++ t)) st (noOp_app n)
    rw [← List.append_assoc, ← e] at this
    rw [List.append_assoc]
    omega
theorem PP.two {i : Nat} {l : List Nat} (h : PP i l) : PP 2 l := by
  have := sw_cntC l
  match i, h with
  | 0, h => exact ⟨h.1.le (by decide), by have := h.2.1; omega, by have := h.2.2.1; omega, by have := h.2.2.2.2; omega⟩
  | 1, h => exact ⟨h.1.le (by decide), by have := h.2.1; omega, by have := h.2.2.1; omega, by have := pp1_c h.2.2.2; omega⟩
  | i + 2, h => exact h
theorem PP.bent {i : Nat} {l l' : List Nat} (h : PP i l) (hi : i < 2) (b : Bnt l l') : PP (i + 1) l' := by
  have w := sw_cntC l'
  rcases b with b | rfl
  · have p := b.cnt fP_le
    have q := b.cnt fC_le
    have n := b.len
    match i, h, hi with
    | 0, h, _ => exact ⟨b.gt h.1, by have := h.2.1; omega, by have := h.2.2.1; omega, .inl (by have := h.2.2.2.2; omega)⟩
    | 1, h, _ => exact ⟨b.gt h.1, by have := h.2.1; omega, by have := h.2.2.1; omega, by have := pp1_c h.2.2.2; omega⟩
  · have p := cnt_ap fP l l
    have q := cnt_ap fC l l
    have n : (l ++ l).length = l.length + l.length := List.length_append
    match i, h, hi with
    | 0, h, _ => exact ⟨(twice_gt h.1).le (by decide), by have := h.2.1; omega, by have := h.2.2.1; omega, .inr ⟨l, rfl, h.2.2.2⟩⟩
    | 1, h, _ =>
      refine ⟨(twice_gt h.1).le (by decide), by have := h.2.1; omega, by have := h.2.2.1; omega, ?_⟩
      rcases h.2.2.2 with c | ⟨t, rfl, e, c⟩
      · omega
      · exact four_sw e c
theorem PP.smk {z : Str} (h : PP 2 (tl z)) : SmK z := fun p l2 t l3 e r => by
  have g := h.1 p l2 e
  have := (rd_count r _ _ rfl).2.2.2
  have := size_let (rd_any r _ _ rfl)
  omega
theorem PP.fine {l : List Nat} {ws : List Wd} (h : PP 2 l) (r : Rp l (.ok ws [])) : progB Th.isKind ws = true ∧ ws.length ≤ 400 := by
  have c := rp_cnt r (R := 7) (by decide) h.1 _ _ rfl [] 0 rfl
  rw [List.append_nil] at c
  have := rp_fP r _ _ rfl
  have := h.2.1
  exact ⟨decide_eq_true c, by omega⟩
theorem name_cnt {z : Str} (h : nameB z = true) {f : Nat → Nat} (hf : ∀ j, j ≤ 25 → f (97 + j) = 0) : cnt f (tl z) = 0 := by
  have zs := name_signs h
  generalize tl z = L at zs
  induction L with
  | nil => rfl
  | cons c L ih =>
    obtain ⟨i, hi, rfl⟩ := let_idx (zs c List.mem_cons_self)
    show f (97 + i) + cnt f L = 0
    rw [hf i hi, ih fun d hd => zs d (List.mem_cons_of_mem _ hd)]
theorem tx_fP : ∀ {t : Tm}, t.ok → t.dep 1 → cnt fP t.tx + 1 ≤ t.ws.length
  | .nm z, h, _ => by
    have : cnt fP (tl z) = 0 := name_cnt h fun j hj => by unfold fP; rw [if_neg (by omega), if_neg (by omega)]
    show cnt fP (tl z) + 1 ≤ 1
    omega
  | .us f a, h, d => by
    have h1 := tx_fP h.1 d.1
    have h2 := tx_fP h.2 d.2
    show cnt fP ([40] ++ (f.tx ++ ([32] ++ (a.tx ++ [41])))) + 1 ≤ (f.ws ++ a.ws).length + 1
    have x1 : cnt fP [40] = 2 := rfl
    have x2 : cnt fP [32] = 0 := rfl
    have x3 : cnt fP [41] = 0 := rfl
    simp only [cnt_ap, List.length_append]
    omega
  | .tk z t b, h, d => by
    have h1 := tx_fP h.2.2 d.2
    have n : cnt fP (tl z) = 0 := name_cnt h.1 fun j hj => by unfold fP; rw [if_neg (by omega), if_neg (by omega)]
    have k : cnt fP (kL t) = 0 := by
      have a := h.2.1
      cases t with
      | int i =>
        have := (kL_cnt a).2
        have e : (Th.int i).letters = 1 := rfl
        omega
      | pr x y =>
        have d1 : max x.depth y.depth + 1 ≤ 1 := d.1
        obtain ⟨a1, a2⟩ := any_pr a
        have hx : x.isPr = false := by
          cases x with
          | pr u v => have : max u.depth v.depth + 1 ≤ 0 := by have e : (Th.pr u v).depth = max u.depth v.depth + 1 := rfl; omega
                      omega
          | _ => rfl
        have hy : y.isPr = false := by
          cases y with
          | pr u v => have : max u.depth v.depth + 1 ≤ 0 := by have e : (Th.pr u v).depth = max u.depth v.depth + 1 := rfl; omega
                      omega
          | _ => rfl
        obtain ⟨i, rfl, hi⟩ := any_int a1 hx
        obtain ⟨j, rfl, hj⟩ := any_int a2 hy
        have c1 := (kL_cnt a1).2
        have c2 := (kL_cnt a2).2
        have e1 : (Th.int (i : Int)).letters = 1 := rfl
        have e2 : (Th.int (j : Int)).letters = 1 := rfl
        show cnt fP (kL (.int (i : Int)) ++ (ar3 ++ kL (.int (j : Int)))) = 0
        have x2 : cnt fP ar3 = 0 := rfl
        simp only [cnt_ap]
        omega
      | bl b => cases a
      | non => cases a
      | tup => cases a
    show cnt fP ([91] ++ (tl z ++ ([58] ++ (kL t ++ ([93, 32] ++ b.tx))))) + 1 ≤ b.ws.length + 1
    have x1 : cnt fP [91] = 1 := rfl
    have x2 : cnt fP [58] = 0 := rfl
    have x3 : cnt fP [93, 32] = 0 := rfl
    simp only [cnt_ap]
    omega
theorem gt_zero {p r : List Nat} (h : cnt fG p = 0) : gt (p ++ r) ≤ gt r := by
  have := gt_add p r
  have := gt_cnt p
  omega
theorem tx_gt : ∀ {t : Tm}, t.ok → t.dep 1 → ∀ A m r, t.tx = A ++ m → gt r ≤ 1 → gt (m ++ r) ≤ 1
  | .nm z, h, _, A, m, r, e, hr => by
    have n : cnt fG (tl z) = 0 := name_cnt h fun j hj => by unfold fG; rw [if_neg (by omega)]
    have := cnt_suf (f := fG) (show tl z = A ++ m from e)
    exact Nat.le_trans (gt_zero (by omega)) hr
  | .us f a, h, d, A, m, r, e, hr => by
    have i1 := tx_gt h.1 d.1
    have i2 := tx_gt h.2 d.2
    have c : gt ([41] ++ r) ≤ 1 := hr
    have w2 := i2 [] a.tx ([41] ++ r) rfl c
    have w3 : gt ([32] ++ (a.tx ++ ([41] ++ r))) ≤ 1 := w2
    have w1 := i1 [] f.tx _ rfl w3
    have e : [40] ++ (f.tx ++ ([32] ++ (a.tx ++ [41]))) = A ++ m := e
    rcases suf_app e with ⟨U1, U2, e2, rfl⟩ | ⟨U1, e2⟩
    · have := cnt_suf (f := fG) e2
      have x : cnt fG [40] = 0 := rfl
      simp only [List.append_assoc]
      exact Nat.le_trans (gt_zero (by omega)) w1
    · rcases suf_app e2 with ⟨V1, V2, e3, rfl⟩ | ⟨V1, e3⟩
      · simp only [List.append_assoc]
        exact i1 V1 V2 _ e3 w3
      · rcases suf_app e3 with ⟨W1, W2, e4, rfl⟩ | ⟨W1, e4⟩
        · have := cnt_suf (f := fG) e4
          have x : cnt fG [32] = 0 := rfl
          simp only [List.append_assoc]
          exact Nat.le_trans (gt_zero (by omega)) w2
        · rcases suf_app e4 with ⟨X1, X2, e5, rfl⟩ | ⟨X1, e5⟩
          · simp only [List.append_assoc]
            exact i2 X1 X2 _ e5 c
          · have := cnt_suf (f := fG) e5
            have x : cnt fG [41] = 0 := rfl
            exact Nat.le_trans (gt_zero (by omega)) hr
  | .tk z t b, h, d, A, m, r, e, hr => by
    have i1 := tx_gt h.2.2 d.2
    have n : cnt fG (tl z) = 0 := name_cnt h.1 fun j hj => by unfold fG; rw [if_neg (by omega)]
    have kc : cnt fG (kL t) ≤ 1 := by
      have a := h.2.1
      have c := (kL_cnt a).1
      have d1 : t.depth ≤ 1 := d.1
      cases t with
      | int i =>
        have e : (Th.int i).letters = 1 := rfl
        omega
      | pr x y =>
        have d1 : max x.depth y.depth + 1 ≤ 1 := d.1
        obtain ⟨a1, a2⟩ := any_pr a
        have hx : x.letters ≤ 1 := by
          cases x with
          | pr u v => have e : (Th.pr u v).depth = max u.depth v.depth + 1 := rfl
                      omega
          | int i => exact Nat.le_refl _
          | _ => exact Nat.zero_le _
        have hy : y.letters ≤ 1 := by
          cases y with
          | pr u v => have e : (Th.pr u v).depth = max u.depth v.depth + 1 := rfl
                      omega
          | int i => exact Nat.le_refl _
          | _ => exact Nat.zero_le _
        have e : (Th.pr x y).letters = x.letters + y.letters := rfl
        omega
      | bl b => cases a
      | non => cases a
      | tup => cases a
    have w5 := i1 [] b.tx r rfl hr
    have w4 : ∀ p2, (∃ p1, kL t = p1 ++ p2) → gt (p2 ++ ([93, 32] ++ (b.tx ++ r))) ≤ 1 := fun p2 ⟨p1, ep⟩ => by
      have := gt_add p2 ([93, 32] ++ (b.tx ++ r))
      have z : gt ([93, 32] ++ (b.tx ++ r)) = 0 := rfl
      have := gt_cnt p2
      have := cnt_suf (f := fG) ep
      omega
    have wk := w4 (kL t) ⟨[], rfl⟩
    have w3 : gt ([58] ++ (kL t ++ ([93, 32] ++ (b.tx ++ r)))) ≤ 1 := wk
    have w2 : gt (tl z ++ ([58] ++ (kL t ++ ([93, 32] ++ (b.tx ++ r))))) ≤ 1 := Nat.le_trans (gt_zero n) w3
    have e : [91] ++ (tl z ++ ([58] ++ (kL t ++ ([93, 32] ++ b.tx)))) = A ++ m := e
    rcases suf_app e with ⟨U1, U2, e2, rfl⟩ | ⟨U1, e2⟩
    · have := cnt_suf (f := fG) e2
      have x : cnt fG [91] = 0 := rfl
      simp only [List.append_assoc]
      exact Nat.le_trans (gt_zero (by omega)) w2
    · rcases suf_app e2 with ⟨V1, V2, e3, rfl⟩ | ⟨V1, e3⟩
      · have := cnt_suf (f := fG) e3
        simp only [List.append_assoc]
        exact Nat.le_trans (gt_zero (by omega)) w3
      · rcases suf_app e3 with ⟨W1, W2, e4, rfl⟩ | ⟨W1, e4⟩
        · have := cnt_suf (f := fG) e4
          have x : cnt fG [58] = 0 := rfl
          simp only [List.append_assoc]
          exact Nat.le_trans (gt_zero (by omega)) wk
        · rcases suf_app e4 with ⟨X1, X2, e5, rfl⟩ | ⟨X1, e5⟩
          · simp only [List.append_assoc]
            exact w4 X2 ⟨X1, e5⟩
          · rcases suf_app e5 with ⟨Y1, Y2, e6, rfl⟩ | ⟨Y1, e6⟩
            · have := cnt_suf (f := fG) e6
              have x : cnt fG [93, 32] = 0 := rfl
              simp only [List.append_assoc]
              exact Nat.le_trans (gt_zero (by omega)) w5
            · exact i1 Y1 m r e6 hr
theorem tx_end : ∀ {t : Tm}, t.ok → ∃ p c, t.tx = p ++ [c] ∧ stp c
  | .nm z, h => by
    have zl := (name_len h).1
    have zs := name_signs h
    have ne : tl z ≠ [] := fun e => by rw [e] at zl; exact absurd zl (by simp)
    refine ⟨(tl z).dropLast, (tl z).getLast ne, (List.dropLast_concat_getLast ne).symm, ?_⟩
    obtain ⟨i, hi, e⟩ := let_idx (zs _ (List.getLast_mem ne))
    rw [e]
    exact .inr ⟨by omega, by omega⟩
  | .us f a, _ => ⟨40 :: (f.tx ++ 32 :: a.tx), 41, by show 40 :: (f.tx ++ 32 :: (a.tx ++ [41])) = _; simp, .inl rfl⟩
  | .tk z t b, h => by
    obtain ⟨p, c, e, s⟩ := tx_end h.2.2
    refine ⟨91 :: (tl z ++ 58 :: (kL t ++ 93 :: 32 :: p)), c, ?_, s⟩
    show 91 :: (tl z ++ 58 :: (kL t ++ 93 :: 32 :: b.tx)) = _
    rw [e]; simp
theorem tx_edg {t : Tm} (h : t.ok) : Edg t.tx := by
  cases t with
  | nm z => exact .inl (name_cnt h fun j hj => by unfold fC; rw [if_neg (by omega)])
  | us f a => exact .inr ⟨fun n => n.1 rfl, tx_end h⟩
  | tk z t b => exact .inr ⟨fun n => n.2 rfl, tx_end h⟩
theorem pp_of {t : Tm} (h : t.ok) (d : t.dep 1) (n : t.ws.length ≤ 61) (f : t.tx.length ≤ 5000) : PP 0 t.tx := by
  have := tx_fP h d
  have := fC_P t.tx
  refine ⟨fun p m e => ?_, by omega, f, tx_edg h, by omega⟩
  have := tx_gt h d p m [] e (Nat.zero_le _)
  rwa [List.append_nil] at this
end LG

set_option Elab.async false
set_option linter.all false
set_option maxRecDepth 100000
set_option maxHeartbeats 8100000
set_option pp.maxSteps 600
namespace LG
open PySem L2 TL
abbrev sLBent : Stmt := top 58
def SS : List (List Nat) := [[97], [98], [122], [62], [40], [41], [32], [91], [58], [93], [65], [48], [10], [64], [32, 62, 32], [40], [32]]
theorem SS_ok : ∀ s ∈ SS, cnt fW s ≤ 1 ∧ s.length ≤ 4 := by decide +kernel
theorem nd_mk (L a m b y s x u : List Nat) (e : L = x ++ (a ++ (m ++ (b ++ y)))) (hm : m.length ≤ 1) (hs : cnt fW s ≤ 1) (h4 : s.length ≤ 4) (hu : cnt fW u = 0) (h9 : u.length ≤ 9) : Bnt L (u ++ (a ++ (s ++ b))) := .inl ⟨x, a, m, b, y, s, u, e, rfl, hm, hs, h4, hu, h9⟩
theorem drop_one (L : List Nat) (n : Nat) : L.drop n = (L.drop n).take 1 ++ L.drop (n + 1) := by
  have := (List.take_append_drop 1 (L.drop n)).symm
  rwa [List.drop_drop] at this
theorem bn_ins {L s : List Nat} {n : Nat} (h : cnt fW s ≤ 1 ∧ s.length ≤ 4) : Bnt L (L.take n ++ s ++ L.drop n) := by
  have := nd_mk L (L.take n) [] (L.drop n) [] s [] [] (by simp) (by decide) h.1 h.2 rfl (by decide)
  simpa using this
theorem bn_rep {L s : List Nat} {n : Nat} (h : cnt fW s ≤ 1 ∧ s.length ≤ 4) : Bnt L (L.take n ++ s ++ L.drop (n + 1)) := by
  have := nd_mk L (L.take n) ((L.drop n).take 1) (L.drop (n + 1)) [] s [] [] (by rw [List.append_nil, ← drop_one]; simp) (by rw [List.length_take]; omega) h.1 h.2 rfl (by decide)
  simpa using this
theorem bn_del {L : List Nat} {n : Nat} : Bnt L (L.take n ++ L.drop (n + 1)) := by
  have := nd_mk L (L.take n) ((L.drop n).take 1) (L.drop (n + 1)) [] [] [] [] (by rw [List.append_nil, ← drop_one]; simp) (by rw [List.length_take]; omega) (by decide) (by decide) rfl (by decide)
  simpa using this
theorem bn_pre {L : List Nat} {n : Nat} : Bnt L (L.take n) := by
  have := nd_mk L (L.take n) [] [] (L.drop n) [] [] [] (by simp) (by decide) (by decide) (by decide) rfl (by decide)
  simpa using this
theorem bn_suf {L : List Nat} {n : Nat} : Bnt L (L.drop n) := by
  have := nd_mk L [] [] (L.drop n) [] [] (L.take n) [] (by simp) (by decide) (by decide) (by decide) rfl (by decide)
  simpa using this
theorem bn_end {L s : List Nat} (h : cnt fW s ≤ 1 ∧ s.length ≤ 4) : Bnt L (L ++ s) := by
  have := nd_mk L L [] [] [] s [] [] (by simp) (by decide) h.1 h.2 rfl (by decide)
  simpa using this
theorem bn_hd {L : List Nat} : Bnt L ([97, 98, 99, 100, 101, 102, 103, 104, 105] ++ L) := by
  have := nd_mk L L [] [] [] [] [] [97, 98, 99, 100, 101, 102, 103, 104, 105] (by simp) (by decide) (by decide) (by decide) (by decide) (by decide)
  simpa using this
def spLBent (K : PySem.W.Frag) : Sp := fun vs H Q _ => ∃ (p c : Addr) (cells : List Int) (L : List Nat), vs = [.ref p, .str (mk L)] ∧ HandAt H p c cells ∧ L.length ≤ 900000 ∧ ∀ L' H', Bnt L L' → HandAt H' p c cells → Same (del H p) (del H' p) → Q (.str (mk L')) H'
section
variable {P : Program} {w : World} {K : PySem.W.Frag} {mg : Str → Option Value} {base : Heap}
theorem scLBent : FnScope ["_law_hand_here", "_law_text_here", "_law_at", "_law_sign", "_law_things"] ["_law_hand_here", "_law_text_here"] (defScope sLBent) := ⟨rfl, rfl, rfl, by decide +kernel, rfl, by decide +kernel, by decide +kernel⟩
theorem ok_lbent {f fD fO : Addr} {fd fdD fdO : FuncData} (F : Fn K mg "_law_bent" sLBent ["_law_hand_here", "_law_text_here"] f fd) (ND : Fn K mg "_law_draw" sDraw ["_law_hand_here", "_law_many"] fD fdD) (NO : Fn K mg "_law_some" sSome ["_law_hand_here", "_law_things"] fO fdO) (T : TxB mg) (T2 : TxK mg) : FnOk P w K mg base CX0 3 f fd ["_law_hand_here", "_law_text_here"] (spLBent K) := by
  have GD : FnOk P w K mg base CX0 1 fD fdD ["_law_hand_here", "_law_many"] spDraw := ok_draw ND.F T
  have GO : FnOk P w K mg base CX0 2 fO fdO ["_law_hand_here", "_law_things"] (spSome K) := ok_some NO.F T ND.F ND.b ND.m
  refine F.F.ok scLBent (fun vs H Q E h => ?_) (fun cdv A outer s H vs Q E hr h => ?_)
  · obtain ⟨_, _, _, _, rfl, _⟩ := h
    rfl
  · obtain ⟨p, c, cells, L, rfl, hA, hz, kq⟩ := h
    have nd := scLBent.nd
    have hr1 := hr.mono (show 1 ≤ 2 by decide)
    have hr2 := hr
    have len : (mk L).length = L.length := mk_len
    refine ⟨_, pss_cons (ps_set (i := 2) nd rfl (Or.inl rfl) (pe_call GD hr1 (by rfl) ND.m ND.F.kp ND.b .nil pass0 (pa_cons (pv 0) (pa_cons (pe_op op_add (pe_callB call_len_str (by rfl) T.len PySem.boot_len (pa_cons (pv 1) pa_nil)) pe_int) pa_nil))))
    (pss_cons (ps_set (i := 3) nd rfl (Or.inl rfl) (pe_call GO hr2 (by rfl) NO.m NO.F.kp NO.b .nil pass0 (pa_cons (pv 0) (pa_cons (pe_op op_cat (pe_callTy (cr_listS rfl) (by rfl) T2.list (by decide +kernel) (pa_cons pe_str pa_nil)) (pe_lst (pa_cons pe_str (pa_cons pe_str (pa_cons pe_str pa_nil))))) pa_nil))))
    (pss_cons (ps_set (i := 4) nd rfl (Or.inl rfl) (pe_op op_rep (pe_lst (pa_cons (pe_op op_add_str (pe_op op_add_str (pe_slice C8.sl_txt (pv 1) po_none (po_some (pv 2))) (pv 3)) (pe_slice C8.sl_txt (pv 1) (po_some (pv 2)) po_none)) (pa_cons (pe_op op_add_str (pe_op op_add_str (pe_slice C8.sl_txt (pv 1) po_none (po_some (pv 2))) (pv 3)) (pe_slice C8.sl_txt (pv 1) (po_some (pe_op op_add (pv 2) pe_int)) po_none)) (pa_cons (pe_op op_add_str (pe_slice C8.sl_txt (pv 1) po_none (po_some (pv 2))) (pe_slice C8.sl_txt (pv 1) (po_some (pe_op op_add (pv 2) pe_int)) po_none)) pa_nil)))) pe_int))
    (pss_one (ps_ret (pe_call GO hr2 (by rfl) NO.m NO.F.kp NO.b .nil pass0 (pa_cons (pv 0) (pa_cons (pe_op op_cat (pv 4) (pe_lst (pa_cons (pe_slice C8.sl_txt (pv 1) po_none (po_some (pv 2))) (pa_cons (pe_op op_add_str (pv 1) (pv 3)) (pa_cons (pe_slice C8.sl_txt (pv 1) (po_some (pv 2)) po_none) (pa_cons (pe_op op_add_str (pv 1) (pv 1)) (pa_cons (pe_op op_add_str (pv 1) pe_str) (pa_cons (pe_op op_add_str pe_str (pv 1)) pa_nil)))))))) pa_nil))))))), ?_⟩
    refine ⟨_, rfl, _, rfl, _, rfl, big4 (by omega), _, _, rfl, rfl, p, c, cells, _, rfl, hA, (by show (0 : Int) < _ + 1; omega), (by show _ + (1 : Int) < 1000000; rw [len]; omega), fun r H1 r0 r1 hA1 o1 => ?_⟩
    obtain ⟨n, rfl⟩ : ∃ n : Nat, r = (n : Int) := ⟨r.toNat, by omega⟩
    have s1 : Same (del H p) (del H1 p) := del_off o1
    refine ⟨_, rfl, _, rfl, (by decide +kernel), fun q1 hq1 => ⟨(by show 3 ≤ sizeLine; decide), fun q2 hq2 => ?_⟩⟩
    have t1 := same_new (o := .lst (signL "abz>() [:]A0\n@")) (same_refl H1) hq1
    have e1 : upd H1 q1 (.lst (signL "abz>() [:]A0\n@")) q1 = some (.lst (signL "abz>() [:]A0\n@")) := upd_same
    generalize upd H1 q1 (.lst (signL "abz>() [:]A0\n@")) = G1 at t1 e1 hq2 ⊢
    have t2 := same_new (o := .lst [.str " > ", .str "(", .str " "]) t1 hq2
    have e2 : upd G1 q2 (.lst [.str " > ", .str "(", .str " "]) q2 = some (.lst [.str " > ", .str "(", .str " "]) := upd_same
    have e1' := same_new (o := .lst [.str " > ", .str "(", .str " "]) (same_refl G1) hq2 _ _ e1
    generalize upd G1 q2 (.lst [.str " > ", .str "(", .str " "]) = G2 at t2 e2 e1' ⊢
    refine ⟨q1, q2, _, _, rfl, rfl, e1', e2, (by decide +kernel), fun q3 hq3 => ?_⟩
    have eS : signL "abz>() [:]A0\n@" ++ [.str " > ", .str "(", .str " "] = SS.map fun s => V.str (mk s) := by decide +kernel
    rw [eS]
    have t3 := same_new (o := .lst (SS.map fun s => V.str (mk s))) t2 hq3
    have hA3 := hA1.same t3
    have q3p : q3 ≠ p := (hA1.same t2).fresh hq3
    refine ⟨p, c, q3, cells, _, rfl, hA3, SqL.of upd_same, q3p, (by decide), (by decide), fun k v H2 hk hA2 o2 => ?_⟩
    obtain ⟨sg, hsg, rfl⟩ : ∃ sg ∈ SS, v = .str (mk sg) := by
      have := List.mem_of_getElem? hk
      obtain ⟨sg, h1, h2⟩ := List.mem_map.mp this
      exact ⟨sg, h1, h2.symm⟩
    have sk := SS_ok sg hsg
    have s2 : Same (del H p) (del H2 p) := same_trans s1 (same_trans (del_same_of t3) (del_off o2))
    clear hk t1 t2 t3 e1 e2 e1' eS o2 hA3
    have slT : Txt.slice (mk L) none (some (n : Int)) = mk (L.take n) := by
      have := SX.slice_to (a := L) (i := (n : Int)) (by omega)
      rwa [Int.toNat_natCast] at this
    have slD : ∀ k : Nat, Txt.slice (mk L) (some (k : Int)) none = mk (L.drop k) := fun k => by
      have := SX.slice_from (a := L) (i := (k : Int)) (by omega)
      rwa [Int.toNat_natCast] at this
    have lT : (mk (L.take n)).length ≤ 900000 := by rw [mk_len, List.length_take]; omega
    have lD : ∀ k : Nat, (mk (L.drop k)).length ≤ 900000 := fun k => by rw [mk_len, List.length_drop]; omega
    have lS : (mk sg).length ≤ 4 := by rw [mk_len]; exact sk.2
    dsimp only [tNoPart]
    refine ⟨_, rfl, _, rfl, _, rfl, _, rfl, big4 (by omega), ?_⟩
    rw [slT]
    have lTS : (mk (L.take n) ++ mk sg).length ≤ 900004 := by rw [mk_app, mk_len, List.length_append]; rw [mk_len] at lT lS; omega
    refine ⟨_, rfl, _, _, rfl, rfl, big4 (by omega), ?_⟩
    refine ⟨_, rfl, _, rfl, _, rfl, _, rfl, big4 (by omega), ?_⟩
    rw [slD n]
    have := lD n
    have := lD (n + 1)
    refine ⟨_, _, rfl, rfl, big4 (by omega), ?_⟩
    refine ⟨_, rfl, _, rfl, _, rfl, _, rfl, big4 (by omega), ?_⟩
    rw [slT]
    refine ⟨_, rfl, _, _, rfl, rfl, big4 (by omega), ?_⟩
    refine ⟨_, rfl, _, rfl, _, _, rfl, rfl, _, rfl, _, rfl, big4 (by omega), ?_⟩
    rw [show ((n : Int) + 1) = ((n + 1 : Nat) : Int) by omega, slD (n + 1)]
    refine ⟨_, _, rfl, rfl, big4 (by omega), ?_⟩
    refine ⟨_, rfl, _, rfl, _, rfl, _, rfl, big4 (by omega), ?_⟩
    rw [slT]
    refine ⟨_, rfl, _, rfl, _, _, rfl, rfl, _, rfl, _, rfl, big4 (by omega), ?_⟩
    rw [show ((n : Int) + 1) = ((n + 1 : Nat) : Int) by omega, slD (n + 1)]
    refine ⟨_, _, rfl, rfl, big4 (by omega), ?_⟩
    refine ⟨(by show 3 ≤ sizeLine; decide), fun q4 hq4 => ?_⟩
    have u4 := same_new (o := .lst [V.str (mk (L.take n) ++ mk sg ++ mk (L.drop n)), .str (mk (L.take n) ++ mk sg ++ mk (L.drop (n + 1))), .str (mk (L.take n) ++ mk (L.drop (n + 1)))]) (same_refl H2) hq4
    refine ⟨_, _, _, rfl, rfl, upd_same, (by decide), (by decide), (by show 3 * 3 ≤ sizeLine; decide), fun q5 hq5 => ?_⟩
    have u5 := same_new (o := .lst (List.replicate (3 : Int).toNat [V.str (mk (L.take n) ++ mk sg ++ mk (L.drop n)), .str (mk (L.take n) ++ mk sg ++ mk (L.drop (n + 1))), .str (mk (L.take n) ++ mk (L.drop (n + 1)))]).flatten) u4 hq5
    refine ⟨_, rfl, _, rfl, _, rfl, _, rfl, _, rfl, _, rfl, big4 (by omega), ?_⟩
    rw [slT]
    refine ⟨_, rfl, _, rfl, _, _, rfl, rfl, big4 (by omega), ?_⟩
    refine ⟨_, rfl, _, rfl, _, rfl, _, rfl, big4 (by omega), ?_⟩
    rw [slD n]
    refine ⟨_, rfl, _, rfl, _, _, rfl, rfl, big4 (by omega), ?_⟩
    refine ⟨_, rfl, _, _, rfl, rfl, (by rw [len]; exact big4 (by show L.length + 4 ≤ 5000000; omega)), ?_⟩
    refine ⟨_, rfl, _, _, rfl, rfl, (by rw [len]; exact big4 (by show 9 + L.length ≤ 5000000; omega)), ?_⟩
    refine ⟨(by show 6 ≤ sizeLine; decide), fun q6 hq6 => ?_⟩
    have u6 := same_new (o := .lst [V.str (mk (L.take n)), .str (mk L ++ mk sg), .str (mk (L.drop n)), .str (mk L ++ mk L), .str (mk L ++ " > a"), .str ("abcdefghi" ++ mk L)]) u5 hq6
    refine ⟨q5, q6, _, _, rfl, rfl, (same_new (same_refl _) hq6 _ _ upd_same), upd_same, (by show 15 ≤ sizeLine; decide), fun q7 hq7 => ?_⟩
    have u7 := same_new (o := .lst ((List.replicate (3 : Int).toNat [V.str (mk (L.take n) ++ mk sg ++ mk (L.drop n)), .str (mk (L.take n) ++ mk sg ++ mk (L.drop (n + 1))), .str (mk (L.take n) ++ mk (L.drop (n + 1)))]).flatten ++ [V.str (mk (L.take n)), .str (mk L ++ mk sg), .str (mk (L.drop n)), .str (mk L ++ mk L), .str (mk L ++ " > a"), .str ("abcdefghi" ++ mk L)])) u6 hq7
    have hA7 := hA2.same u7
    refine ⟨p, c, q7, cells, _, rfl, hA7, SqL.of upd_same, (hA2.same u6).fresh hq7, (by show 0 < 15; decide), (by show 15 < 1000; decide), fun k v H3 hk hA3 o3 => ?_⟩
    have s3 : Same (del H p) (del H3 p) := same_trans s2 (same_trans (del_same_of u7) (del_off o3))
    have kk : ∀ L', Bnt L L' → Q (.str (mk L')) H3 := fun L' b => kq L' H3 b hA3 s3
    rcases List.mem_append.mp (List.mem_of_getElem? hk) with hm | hm
    · obtain ⟨l3, h3, hv⟩ := List.mem_flatten.mp hm
      rw [List.eq_of_mem_replicate h3] at hv
      simp only [List.mem_cons, List.not_mem_nil, or_false] at hv
      rcases hv with rfl | rfl | rfl
      · rw [mk_app, mk_app]; exact kk _ (bn_ins sk)
      · rw [mk_app, mk_app]; exact kk _ (bn_rep sk)
      · rw [mk_app]; exact kk _ bn_del
    · simp only [List.mem_cons, List.not_mem_nil, or_false] at hm
      rcases hm with rfl | rfl | rfl | rfl | rfl | rfl
      · exact kk _ bn_pre
      · rw [mk_app]; exact kk _ (bn_end sk)
      · exact kk _ bn_suf
      · rw [mk_app]; exact kk _ (.inr rfl)
      · rw [show (" > a" : Str) = mk [32, 62, 32, 97] from rfl, mk_app]; exact kk _ (bn_end (by decide))
      · rw [show ("abcdefghi" : Str) = mk [97, 98, 99, 100, 101, 102, 103, 104, 105] from rfl, mk_app]; exact kk _ bn_hd
end
end LG

set_option Elab.async false
set_option linter.all false
set_option maxRecDepth 100000
set_option maxHeartbeats 8100000
set_option pp.maxSteps 400
namespace LG
open PySem L2 TL
abbrev sDeep : Stmt := top 39
/-! ### the same twice -/
theorem ok_back : ∀ {t : Th} {m : Nat}, t.ok m = true → t.any = true ∧ t.depth ≤ m
  | .int i, 0, h => ⟨h, Nat.le_refl _⟩
  | .int i, m + 1, h => ⟨h, Nat.zero_le _⟩
  | .pr l r, 0, h => by cases h
  | .pr l r, m + 1, h => by
    rw [Th.ok_pr, Bool.and_eq_true] at h
    obtain ⟨a1, d1⟩ := ok_back h.1
    obtain ⟨a2, d2⟩ := ok_back h.2
    refine ⟨?_, ?_⟩
    · show (l.any && r.any) = true
      rw [a1, a2]; rfl
    · show max l.depth r.depth + 1 ≤ m + 1
      omega
  | .bl _, 0, h => by cases h
  | .bl _, m + 1, h => by cases h
  | .non, 0, h => by cases h
  | .non, m + 1, h => by cases h
  | .tup, 0, h => by cases h
  | .tup, m + 1, h => by cases h
theorem isKind_back {t : Th} (h : t.isKind = true) : t.any = true ∧ t.depth ≤ 30 := by
  unfold Th.isKind at h
  rw [Bool.and_eq_true] at h
  exact ok_back h.1
theorem cnt_words {fit : Th → Bool} : ∀ {ws : List Wd} {m : Nat}, cntC fit ws = some m → ∀ w ∈ ws, w.use = true ∨ w.name = true ∨ w.take fit = true
  | [], _, _, w, h => by cases h
  | x :: r, m, e, w, h => by
    have e : (cntC fit r).bind (stepC fit x) = some m := e
    cases er : cntC fit r with
    | none => rw [er] at e; cases e
    | some k =>
      rw [er] at e
      obtain rfl | h := List.mem_cons.mp h
      · have e : stepC fit w k = some m := e
        unfold stepC at e
        by_cases u : w.use = true
        · exact .inl u
        · rw [if_neg u] at e
          by_cases n : w.name = true
          · exact .inr (.inl n)
          · rw [if_neg n] at e
            by_cases t : w.take fit = true
            · exact .inr (.inr t)
            · rw [if_pos (by simp [t])] at e
              cases e
      · exact cnt_words er w h
theorem wd_twin {K : PySem.W.Frag} {H : Hp} {w : Wd} {v v' : V} (hw : w.use = true ∨ w.name = true ∨ w.take Th.isKind = true) (h : WdAt K H w v) (h' : WdAt K H w v') : Twin H 31 v v' := by
  cases w with
  | st z => exact Twin.up (Nat.zero_le _) (.inl ⟨z, h.1, h'.1⟩)
  | no =>
    rcases hw with q | q | q <;> cases q
  | pr o t =>
    have tk : (Wd.pr o t).take Th.isKind = true := by
      rcases hw with q | q | q
      · cases q
      · cases q
      · exact q
    cases o with
    | none => cases tk
    | some z =>
      have tk : (nameB z && t.isKind) = true := tk
      rw [Bool.and_eq_true] at tk
      obtain ⟨ta, td⟩ := isKind_back tk.2
      obtain ⟨a, x, y, rfl, ha, hx, _, hy, _⟩ := h
      obtain ⟨a', x', y', rfl, ha', hx', _, hy', _⟩ := h'
      refine .inr ⟨a, a', _, _, rfl, rfl, ha, ha', rfl, (by show 2 ≤ 3000; decide), fun k u u' q q' => ?_⟩
      match k, q, q' with
      | 0, q, q' => cases q; cases q'; exact Twin.up (Nat.zero_le _) (.inl ⟨z, hx.1, hx'.1⟩)
      | 1, q, q' => cases q; cases q'; exact th_twin ta td hy hy'
      | k + 2, q, q' => simp at q
theorem ws_twin {K : PySem.W.Frag} {H : Hp} {ws : List Wd} {v v' : V} (p : progB Th.isKind ws = true) (l : ws.length ≤ 3000) (h : WsAt K H ws v) (h' : WsAt K H ws v') : Twin H 32 v v' := by
  obtain ⟨a, us, rfl, ha, hw⟩ := h
  obtain ⟨b, us', rfl, hb, hw'⟩ := h'
  have cw := cnt_words (of_decide_eq_true p)
  refine .inr ⟨a, b, us, us', rfl, rfl, ha, hb, by rw [hw.1, hw'.1], by rw [hw.1]; exact l, fun k x y q q' => ?_⟩
  have lt : k < ws.length := by
    rw [← hw.1]; exact (List.getElem?_eq_some_iff.mp q).1
  have e : ws[k]? = some ws[k] := List.getElem?_eq_getElem lt
  exact wd_twin (cw _ (List.getElem_mem lt)) (hw.2 k _ x e q) (hw'.2 k _ y e q')
theorem oc_twin {α : Type} {R : α → V → Prop} {H : Hp} {r r' : Addr} {F : α ⊕ Int} (hR : ∀ a v v', F = .inl a → R a v → R a v' → Twin H 32 v v') (h : OcAt R H r F) (h' : OcAt R H r' F) : Twin H 33 (.ref r) (.ref r') := by
  cases F with
  | inl a =>
    obtain ⟨x, e, hx⟩ := h
    obtain ⟨x', e', hx'⟩ := h'
    refine .inr ⟨r, r', _, _, rfl, rfl, e, e', rfl, (by show 2 ≤ 3000; decide), fun k u u' q q' => ?_⟩
    match k, q, q' with
    | 0, q, q' => cases q; cases q'; exact Twin.up (Nat.zero_le _) (.inl ⟨_, rfl, rfl⟩)
    | 1, q, q' => cases q; cases q'; exact hR a _ _ rfl hx hx'
    | k + 2, q, q' => simp at q
  | inr i =>
    refine .inr ⟨r, r', _, _, rfl, rfl, h, h', rfl, (by show 2 ≤ 3000; decide), fun k u u' q q' => ?_⟩
    match k, q, q' with
    | 0, q, q' => cases q; cases q'; exact Twin.up (Nat.zero_le _) (.inl ⟨_, rfl, rfl⟩)
    | 1, q, q' => cases q; cases q'; exact Twin.up (Nat.zero_le _) (.inr ⟨_, rfl, rfl⟩)
    | k + 2, q, q' => simp at q
theorem OcAt.same {α : Type} {R R' : α → V → Prop} {H H' : Hp} {r : Addr} {F : α ⊕ Int} (h : OcAt R H r F) (s : Same H H') (f : ∀ a v, R a v → R' a v) : OcAt R' H' r F := by
  cases F with
  | inl a =>
    obtain ⟨x, e, hx⟩ := h
    exact ⟨x, s _ _ e, f _ _ hx⟩
  | inr i => exact s _ _ h
theorem WsAt.same {K : PySem.W.Frag} {H H' : Hp} {ws : List Wd} {v : V} (h : WsAt K H ws v) (s : Same H H') : WsAt K H' ws v := by
  obtain ⟨a, us, e, ha, hw⟩ := h
  exact ⟨a, us, e, s _ _ ha, hw.same s⟩
theorem fin_inl {α : Type} {z : Str} {O : Ot α} {a : α} (h : fin z O = .inl a) : O = .ok a [] := by
  cases O with
  | err e => cases h
  | ok b l =>
    cases l with
    | nil => cases h; rfl
    | cons c q => cases h
def spDeep : Sp := fun vs H Q _ => ∃ k : Int, vs = [.int k] ∧ ∀ (a : Addr) (x : V) (H' : Hp), Same H H' → H a = none → (k = 0 → H' a = some (.lst [x])) → Q (.ref a) H'
section
variable {P : Program} {w : World} {K : PySem.W.Frag} {mg : Str → Option Value} {base : Heap}
theorem scDp : FnScope ["_law_kind_here", "_law_found", "_law_turn"] ["_law_kind_here"] (defScope sDeep) := ⟨rfl, rfl, rfl, by decide +kernel, rfl, by decide +kernel, by decide +kernel⟩
theorem ok_deepL {f : Addr} {fd : FuncData} (F : Fn K mg "_law_deep" sDeep ["_law_kind_here"] f fd) (T : TxB mg) : FnOk P w K mg base CX0 1 f fd ["_law_kind_here"] spDeep := by
  refine F.F.ok scDp (fun vs H Q E h => ?_) (fun cdv A outer s H vs Q E hr h => ?_)
  · obtain ⟨k, rfl, _⟩ := h
    rfl
  · obtain ⟨k, rfl, kq⟩ := h
    have nd := scDp.nd
    refine ⟨_, pss_cons (ps_set (i := 1) nd rfl (Or.inl rfl) pe_non)
      (pss_cons (ps_for PassesOwn.never rfl (pi_range1 (by rfl) T.range (pa_cons pe_int pa_nil)) (pg_name (i := 2) nd rfl (Or.inl rfl))
        (pss_one (ps_set (i := 1) nd rfl (Or.inl rfl) (pe_ifExp (pt_cmpR op_eq (pv 0) pe_int (nomark _)) (pe_lst (pa_cons (pv 1) pa_nil)) (pe_tup (pa_cons (pv 1) pa_nil))))))
      (pss_one (ps_ret (pv 1)))), ?_⟩
    refine ⟨36, rfl, by decide, by decide, for_range (lo := 0) (n := 36) (fun i σ H' => ∃ (v : V) (t : Option V), σ = [some (.int k), some v, t] ∧ Same H H' ∧ (0 < i → ∃ a x, v = .ref a ∧ H a = none ∧ (k = 0 → H' a = some (.lst [x])))) ⟨_, _, rfl, same_refl _, fun z => absurd z (by decide)⟩ ?_ ?_⟩
    · rintro i σ H' hi ⟨v, t, rfl, h1, h2⟩
      refine ⟨_, rfl, rfl, _, rfl, ?_⟩
      refine ite2 (fun c => ?_) (fun c => ?_)
      · refine ⟨_, rfl, (by show 1 ≤ sizeLine; decide), fun p hp => ?_⟩
        exact ⟨_, _, rfl, same_new h1 hp, fun _ => ⟨p, v, rfl, same_none h1 hp, fun _ => upd_same⟩⟩
      · have k0 : k ≠ 0 := fun z => c (decide_eq_true (by rw [z]))
        refine ⟨_, rfl, (by show 1 ≤ sizeLine; decide), fun p hp => ?_⟩
        exact ⟨_, _, rfl, same_new h1 hp, fun _ => ⟨p, v, rfl, same_none h1 hp, fun z => absurd z k0⟩⟩
    · rintro σ H' ⟨v, t, rfl, h1, h2⟩
      obtain ⟨a, x, rfl, h3, h4⟩ := h2 (by decide)
      exact ⟨_, rfl, kq a x H' h1 h3 h4⟩
end
end LG

set_option Elab.async false
set_option linter.all false
set_option maxRecDepth 100000
set_option maxHeartbeats 8100000
set_option pp.maxSteps 400
namespace LG
open PySem L2 TL
abbrev sLaw : Stmt := top 59
def spLaw (K : PySem.W.Frag) : Sp := fun vs H Q _ => ∃ (a : Addr) (ns : List Int), vs = [.ref a] ∧ SqL K H a (ns.map V.int) ∧ ns.length ≤ 63 ∧ ∀ H', Q (.bl true) H'
theorem dep_of {d : Nat} : ∀ {t : Tm} {ws : List Wd}, (∀ w ∈ ws, ∀ o k, w = .pr o k → k.depth ≤ d) → (∀ w ∈ t.ws, w ∈ ws) → t.dep d
  | .nm _, _, _, _ => trivial
  | .us f a, ws, h, s => ⟨dep_of h fun w hw => s w (by simp [Tm.ws, hw]), dep_of h fun w hw => s w (by simp [Tm.ws, hw])⟩
  | .tk z t b, ws, h, s => ⟨h _ (s (.pr (some z) t) (by simp [Tm.ws])) _ _ rfl, dep_of h fun w hw => s w (by simp [Tm.ws, hw])⟩
theorem dep_up {d e : Nat} (h : d ≤ e) : ∀ {t : Tm}, t.dep d → t.dep e
  | .nm _, _ => trivial
  | .us f a, g => ⟨dep_up h g.1, dep_up h g.2⟩
  | .tk z t b, g => ⟨Nat.le_trans g.1 h, dep_up h g.2⟩
theorem tlm {L : List Nat} : tl (mk L) = L := tl_mk L
theorem kin_of {K : PySem.W.Frag} {H : Hp} {L : List Nat} (h : KP 2 L) : ∃ F, KIn K H (.str (mk L)) F ∧ (∀ k, F = .inl k → k.isKind = true ∧ k.size ≤ 10000) ∧ ∀ z, V.str (mk L) = .str z → kap (tl z) ≤ 187 := by
  obtain ⟨O, hO⟩ := rd_all false L
  refine ⟨fin (mk L) O, .inl ⟨mk L, O, rfl, by rw [tlm]; have := h.2.2.1; omega, by rw [tlm]; exact hO, rfl⟩, fun k e => ?_, fun z e => ?_⟩
  · rw [fin_inl e] at hO
    exact h.fine hO
  · obtain rfl : mk L = z := V.str.inj e
    rw [tlm]; exact h.kap
theorem pin_of {K : PySem.W.Frag} {H : Hp} {L : List Nat} (h : PP 2 L) : ∃ F, PIn K H (.str (mk L)) F ∧ (∀ ws, F = .inl ws → progB Th.isKind ws = true ∧ ws.length ≤ 400) ∧ ∀ z, V.str (mk L) = .str z → GtB z 7 ∧ sw (tl z) ≤ 125 := by
  obtain ⟨O, hO⟩ := rp_all L
  refine ⟨fin (mk L) O, .inl ⟨mk L, O, rfl, by rw [tlm]; have := h.2.2.1; omega, PP.smk (by rw [tlm]; exact h), by rw [tlm]; exact hO, rfl⟩, fun k e => ?_, fun z e => ?_⟩
  · rw [fin_inl e] at hO
    exact h.fine hO
  · obtain rfl : mk L = z := V.str.inj e
    refine ⟨fun p m em => ?_, ?_⟩
    · rw [tlm] at em; exact h.1 p m em
    · rw [tlm]; exact h.2.2.2
theorem neg_same : SeqAt.shaped (.tuple [.str "text", .int (-1)]) = true ∧ (!PyData.eqv (.tuple [.str "text", .int (-1)]) (.tuple [.str "text", .int (-1)])) = false := by decide +kernel
section
variable {P : Program} {w : World} {K : PySem.W.Frag} {mg : Str → Option Value} {base : Heap}
theorem scLaw : FnScope ["_law_script", "_law_hand_here", "_law_turn", "_law_words", "_law_is_kind", "_law_text_here", "_law_change", "_law_odd"] ["_law_script"] (defScope sLaw) := ⟨rfl, rfl, rfl, by decide +kernel, rfl, by decide +kernel, by decide +kernel⟩
theorem ok_law {f : Addr} {fd : FuncData} (F : Fn K mg "law" sLaw ["_law_script"] f fd)
    {fNH : Addr} {fdNH : FuncData} (NH : Fn K mg "_law_hand" sHand ["_law_script"] fNH fdNH) (GH : FnOk P w K mg base CX0 1 fNH fdNH ["_law_script"] (spHand K))
    {fNSP : Addr} {fdNSP : FuncData} (NSP : Fn K mg "_law_some_program" sSomeP ["_law_hand_here", "_law_known_here", "_law_deep_here"] fNSP fdNSP) (GSP : FnOk P w K mg base CX0 8 fNSP fdNSP ["_law_hand_here", "_law_known_here", "_law_deep_here"] (spSomeD K))
    {fNKN : Addr} {fdNKN : FuncData} (NKN : Fn K mg "_law_known" sKnown ["_law_hand_here", "_law_many"] fNKN fdNKN) (GKN : FnOk P w K mg base CX0 5 fNKN fdNKN ["_law_hand_here", "_law_many"] (spKnown K))
    {fNLK : Addr} {fdNLK : FuncData} (NLK : Fn K mg "_law_kind_text" sLKT ["_law_kind_here"] fNLK fdNLK) (GLK : FnOk P w K mg base CX0 6 fNLK fdNLK ["_law_kind_here"] (spLKT K 4))
    {fNKD : Addr} {fdNKD : FuncData} (NKD : Fn K mg "_law_kind" sKd ["_law_hand_here", "_law_deep_here"] fNKD fdNKD) (GKD : FnOk P w K mg base CX0 6 fNKD fdNKD ["_law_hand_here", "_law_deep_here"] (spKd K 4))
    {fNLT : Addr} {fdNLT : FuncData} (NLT : Fn K mg "_law_text" sLTx ["_law_words"] fNLT fdNLT) (GLT : FnOk P w K mg base CX0 5 fNLT fdNLT ["_law_words"] (spLTx K 2))
    {fND : Addr} {fdND : FuncData} (ND : Fn K mg "_law_draw" sDraw ["_law_hand_here", "_law_many"] fND fdND) (GD : FnOk P w K mg base CX0 1 fND fdND ["_law_hand_here", "_law_many"] (spDraw))
    {fNB : Addr} {fdNB : FuncData} (NB : Fn K mg "_law_bent" sLBent ["_law_hand_here", "_law_text_here"] fNB fdNB) (GB : FnOk P w K mg base CX0 3 fNB fdNB ["_law_hand_here", "_law_text_here"] (spLBent K))
    {fNI : Addr} {fdNI : FuncData} (NI : Fn K mg "_law_is" sLIsT ["_law_told_here", "_law_due_here"] fNI fdNI) (GI : FnOk P w K mg base CX0 35 fNI fdNI ["_law_told_here", "_law_due_here"] (spLIsT 33))
    {fNTO : Addr} {fdNTO : FuncData} (NTO : Fn K mg "_law_told" sLTold ["_law_text_here", "_law_is_kind"] fNTO fdNTO) (GTO : FnOk P w K mg base CX0 9 fNTO fdNTO ["_law_text_here", "_law_is_kind"] (spLTold K))
    {fNDU : Addr} {fdNDU : FuncData} (NDU : Fn K mg "_law_due" sLDue ["_law_text_here", "_law_is_kind"] fNDU fdNDU) (GDU : FnOk P w K mg base CX0 191 fNDU fdNDU ["_law_text_here", "_law_is_kind"] (spLDue K 187 125 7))
    {fNO : Addr} {fdNO : FuncData} (NO : Fn K mg "_law_some" sSome ["_law_hand_here", "_law_things"] fNO fdNO) (GO : FnOk P w K mg base CX0 2 fNO fdNO ["_law_hand_here", "_law_things"] (spSome K))
    {fNDP : Addr} {fdNDP : FuncData} (NDP : Fn K mg "_law_deep" sDeep ["_law_kind_here"] fNDP fdNDP) (GDP : FnOk P w K mg base CX0 1 fNDP fdNDP ["_law_kind_here"] (spDeep))
    (T : TxB mg) (T2 : TxK mg) : FnOk P w K mg base CX0 192 f fd ["_law_script"] (spLaw K) := by
  refine F.F.ok scLaw (fun vs H Q E h => ?_) (fun cdv A outer s H vs Q E hr h => ?_)
  · obtain ⟨_, _, rfl, _⟩ := h
    rfl
  · obtain ⟨a0, ns, rfl, hs, hl, kq⟩ := h
    have nd := scLaw.nd
    have hr1 := hr.mono (show 1 ≤ 191 by decide)
    have hr2 := hr.mono (show 2 ≤ 191 by decide)
    have hr3 := hr.mono (show 3 ≤ 191 by decide)
    have hr5 := hr.mono (show 5 ≤ 191 by decide)
    have hr6 := hr.mono (show 6 ≤ 191 by decide)
    have hr8 := hr.mono (show 8 ≤ 191 by decide)
    have hr9 := hr.mono (show 9 ≤ 191 by decide)
    have hrI := hr.mono (show 35 ≤ 191 by decide)
    refine ⟨_, pss_cons (ps_set (i := 1) nd rfl (Or.inl rfl) (pe_call GH hr1 (by rfl) NH.m NH.F.kp NH.b .nil pass0 (pa_cons (pv 0) pa_nil)))
    (pss_cons (ps_for PassesOwn.never rfl (pi_range1 (by rfl) T.range (pa_cons pe_int pa_nil)) (pg_name (i := 2) nd rfl (Or.inl rfl))
        (pss_cons (ps_set (i := 3) nd rfl (Or.inl rfl) (pe_call GSP hr8 (by rfl) NSP.m NSP.F.kp NSP.b .nil pass0 (pa_cons (pv 1) (pa_cons (pe_call GKN hr5 (by rfl) NKN.m NKN.F.kp NKN.b .nil pass0 (pa_cons (pv 1) (pa_cons pe_int pa_nil))) (pa_cons pe_int pa_nil)))))
        (pss_cons (ps_for PassesOwn.never rfl (pi_list (pe_lst (pa_cons pe_bl (pa_cons pe_bl pa_nil)))) (pg_name (i := 4) nd rfl (Or.inl rfl))
            (pss_cons (ps_set (i := 5) nd rfl (Or.inl rfl) (pe_ifExp (pt_val (pv 4)) (pe_call GLK hr6 (by rfl) NLK.m NLK.F.kp NLK.b .nil pass0 (pa_cons (pe_call GKD hr6 (by rfl) NKD.m NKD.F.kp NKD.b .nil pass0 (pa_cons (pv 1) (pa_cons pe_int pa_nil))) pa_nil)) (pe_call GLT hr5 (by rfl) NLT.m NLT.F.kp NLT.b .nil pass0 (pa_cons (pv 3) pa_nil))))
            (pss_cons (ps_for PassesOwn.never rfl (pi_range1 (by rfl) T.range (pa_cons (pe_op op_add pe_int (pe_call GD hr1 (by rfl) ND.m ND.F.kp ND.b .nil pass0 (pa_cons (pv 1) (pa_cons pe_int pa_nil)))) pa_nil)) (pg_name (i := 6) nd rfl (Or.inl rfl))
                (pss_one (ps_set (i := 5) nd rfl (Or.inl rfl) (pe_call GB hr3 (by rfl) NB.m NB.F.kp NB.b .nil pass0 (pa_cons (pv 1) (pa_cons (pv 5) pa_nil))))))
            (pss_one (ps_if (pt_not (pt_val (pe_call GI hrI (by rfl) NI.m NI.F.kp NI.b .nil pass0 (pa_cons (pe_call GTO hr9 (by rfl) NTO.m NTO.F.kp NTO.b .nil pass0 (pa_cons (pv 5) (pa_cons (pv 4) pa_nil))) (pa_cons (pe_call GDU hr (by rfl) NDU.m NDU.F.kp NDU.b .nil pass0 (pa_cons (pv 5) (pa_cons (pv 4) pa_nil))) pa_nil)))))
                pss_never
                pss_nil)))))
        (pss_cons (ps_set (i := 7) nd rfl (Or.inl rfl) (pe_call GO hr2 (by rfl) NO.m NO.F.kp NO.b .nil pass0 (pa_cons (pv 1) (pa_cons (pe_lst (pa_cons pe_non (pa_cons pe_int (pa_cons pe_bl (pa_cons (pe_lst (pa_cons pe_str pa_nil)) (pa_cons (pe_tup (pa_cons pe_str pa_nil)) (pa_cons pe_dnewK (pa_cons (pe_tup pa_nil) (pa_cons (pe_call GDP hr1 (by rfl) NDP.m NDP.F.kp NDP.b .nil pass0 (pa_cons pe_int pa_nil)) (pa_cons (pe_op op_pow pe_int pe_int) pa_nil)))))))))) pa_nil))))
        (pss_one (ps_if (PW.pt (pw_or (pt_cmpR (op_neD hr.units) (pe_call GTO hr9 (by rfl) NTO.m NTO.F.kp NTO.b .nil pass0 (pa_cons (pv 7) (pa_cons pe_bl pa_nil))) (pe_tup (pa_cons pe_str (pa_cons (pe_un un_neg pe_int) pa_nil))) (nomark _)) (pw_or1 (pt_cmpR (op_neD hr.units) (pe_call GTO hr9 (by rfl) NTO.m NTO.F.kp NTO.b .nil pass0 (pa_cons (pv 7) (pa_cons pe_bl pa_nil))) (pe_tup (pa_cons pe_str (pa_cons (pe_un un_neg pe_int) pa_nil))) (nomark _)))))
            pss_never
            pss_nil))))))
    (pss_one (ps_ret pe_bl))), ?_⟩
    refine ⟨_, rfl, a0, ns, rfl, hs, by omega, fun p c cells H1 s1 np hA => ?_⟩
    refine ⟨4, rfl, by decide, by decide, for_range (lo := 0) (n := 4) (fun i σ H' => ∃ (t2 t3 t4 t5 t6 t7 : Option V), σ = [some (.ref a0), some (.ref p), t2, t3, t4, t5, t6, t7] ∧ HandAt H' p c cells) ⟨_, _, _, _, _, _, rfl, hA⟩ ?_ ?_⟩
    · rintro i σ H2 hi ⟨t2, t3, t4, t5, t6, t7, rfl, hA2⟩
      refine ⟨_, rfl, _, rfl, p, c, cells, 3, rfl, hA2, by decide, fun kn H3 ks hA3 s3 hk kl => ?_⟩
      refine ⟨p, c, cells, kn, ks, 2, by decide, rfl, hA3, hk, by omega, fun ws a vs H4 hA4 s4 ha hw ho hl60 => ?_⟩
      obtain ⟨tw, ew, ok⟩ := tree ho
      subst ew
      have kd1 : tw.dep 1 := dep_of (ws := tw.ws) (fun w hw o k e => kdB_one (cnt_fit ho.1 w hw o k e)) fun w h => h
      have fit8 : tw.fit 8 := fit_of (ws := tw.ws) (fun w hw o k e => by have := (kdB_ok (cnt_fit ho.1 w hw o k e)).2.2; omega) fun w h => h
      have txl := tx_len ok fit8
      have txl2 := Nat.mul_le_mul_left (6 * 8 + 20) hl60
      have pp0 : PP 0 tw.tx := pp_of ok kd1 (by omega) (by omega)
      have pa : a ≠ p := fun z => by
        obtain ⟨l, e⟩ := hA4.some
        rw [z, e] at ha; cases ha
      refine ⟨(by show 2 ≤ sizeLine; decide), fun L hL => ?_⟩
      have n5 := same_new (o := .lst [V.bl true, .bl false]) (same_refl H4) hL
      have hA5 := hA4.same n5
      have Lp : L ≠ p := hA4.fresh hL
      have f5 : upd H4 L (.lst [V.bl true, .bl false]) L = some (.lst [V.bl true, .bl false]) := upd_same
      have ha5 := n5 _ _ ha
      have hw5 : WdsAt K (del (upd H4 L (.lst [V.bl true, .bl false])) p) tw.ws vs := hw.same (del_same_of n5)
      generalize upd H4 L (.lst [V.bl true, .bl false]) = H5 at n5 hA5 f5 ha5 hw5
      refine ⟨L, rfl, ⟨_, SqL.of f5⟩, ?_⟩
      refine for_list (xs := [.bl true, .bl false]) (fun _ σ H' => ∃ (t4 t5 t6 t7 : Option V), σ = [some (.ref a0), some (.ref p), some (.int (0 + (i : Int))), some (.ref a), t4, t5, t6, t7] ∧ HandAt H' p c cells ∧ Same (del H5 p) (del H' p)) ⟨_, _, _, _, rfl, hA5, same_refl _⟩ (fun i σ H' _ q => by obtain ⟨_, _, _, _, _, _, s⟩ := q; exact SqL.of (del_le _ _ (s _ _ (by rw [del_ne Lp]; exact f5)))) ?_ ?_
      · rintro j x σ H6 hj ⟨t4', t5', t6', t7', rfl, hA6, s6⟩
        match j, hj with
        | 0, hj =>
          cases hj
          refine ⟨_, rfl, _, rfl, ?_⟩
          refine ifT rfl ?_
          refine ⟨_, rfl, p, c, cells, rfl, hA6, fun k kv H7 hA7 s7 hkv ⟨ka, kd, ksz⟩ => ?_⟩
          have ksz : k.size < 32 := ksz
          refine ⟨kv, k, rfl, hkv.same del_le, ka, kd, by omega, ?_⟩
          have kp0 := kp_of ka kd ksz
          generalize kL k = L0 at kp0
          have s67 := same_trans s6 s7
          refine ⟨_, rfl, p, c, cells, 2, rfl, hA7, by decide, by decide, fun r H8 r0 r1 hA8 o8 => ⟨_, _, rfl, rfl, _, rfl, (by show -(2 ^ 62) ≤ 1 + r; omega), (by show 1 + r < 2 ^ 62; omega), ?_⟩⟩
          have s68 := same_trans s67 (del_off o8)
          refine for_range (fun i2 σ H' => ∃ (t6 : Option V) (Lx : List Nat), σ = [some (.ref a0), some (.ref p), some (.int (0 + (i : Int))), some (.ref a), some (.bl true), some (.str (mk Lx)), t6, t7'] ∧ KP i2 Lx ∧ HandAt H' p c cells ∧ Same (del H5 p) (del H' p)) ⟨_, L0, rfl, kp0, hA8, s68⟩ ?_ ?_
          · rintro i2 σ H9 hi2 ⟨t6'', Lx, rfl, kp, hA9, s9⟩
            have l9 := kp.two.2.2.1
            refine ⟨_, rfl, _, rfl, p, c, cells, Lx, rfl, hA9, by omega, fun L' H10 b hA10 s10 => ?_⟩
            exact ⟨_, L', rfl, kp.bent (by omega) b, hA10, same_trans s9 s10⟩
          · rintro σ H9 ⟨t6'', Lx, rfl, kp, hA9, s9⟩
            obtain ⟨FF, hin, hk1, hk2⟩ := kin_of (K := K) (H := H9) kp.two
            refine ⟨_, rfl, _, rfl, _, true, rfl, .inl ⟨rfl, FF, hin, hk1, fun r1' H10 s10 oc1 => ?_⟩⟩
            refine ⟨_, rfl, _, rfl, _, true, rfl, .inl ⟨rfl, FF, hin.same s10, hk2, fun r2 H11 s11 oc2 => ?_⟩⟩
            refine ⟨_, _, rfl, oc_twin (fun k v v' e h h' => ?_) (oc1.same s11 fun _ _ h => h.same s11) oc2, fun H12 s12 => ?_⟩
            · obtain ⟨q1, q2⟩ := isKind_back (hk1 k e).1
              exact th_twin q1 (by omega) h h'
            · refine ⟨_, rfl, ?_⟩
              refine ifF rfl ?_
              have s13 := same_trans s10 (same_trans s11 s12)
              exact ⟨_, _, _, _, rfl, hA9.same s13, same_trans s9 (del_same_of s13)⟩
        | 1, hj =>
          cases hj
          refine ⟨_, rfl, _, rfl, ?_⟩
          refine ifF rfl ?_
          have ha6 : H6 a = some (.tup vs) := del_le _ _ (s6 _ _ (by rw [del_ne pa]; exact ha5))
          refine ⟨_, rfl, _, tw, rfl, ⟨a, vs, rfl, ha6, (hw5.same s6).same del_le, by omega⟩, ok, dep_up (by decide) kd1, hl60, fun H7 s7' => ?_⟩
          have s67 := same_trans s6 (del_same_of (p := p) s7')
          have hA7 := hA6.same s7'
          generalize tw.tx = L0 at pp0
          refine ⟨_, rfl, p, c, cells, 2, rfl, hA7, by decide, by decide, fun r H8 r0 r1 hA8 o8 => ⟨_, _, rfl, rfl, _, rfl, (by show -(2 ^ 62) ≤ 1 + r; omega), (by show 1 + r < 2 ^ 62; omega), ?_⟩⟩
          have s68 := same_trans s67 (del_off o8)
          refine for_range (fun i2 σ H' => ∃ (t6 : Option V) (Lx : List Nat), σ = [some (.ref a0), some (.ref p), some (.int (0 + (i : Int))), some (.ref a), some (.bl false), some (.str (mk Lx)), t6, t7'] ∧ PP i2 Lx ∧ HandAt H' p c cells ∧ Same (del H5 p) (del H' p)) ⟨_, L0, rfl, pp0, hA8, s68⟩ ?_ ?_
          · rintro i2 σ H9 hi2 ⟨t6'', Lx, rfl, kp, hA9, s9⟩
            have l9 := kp.two.2.2.1
            refine ⟨_, rfl, _, rfl, p, c, cells, Lx, rfl, hA9, by omega, fun L' H10 b hA10 s10 => ?_⟩
            exact ⟨_, L', rfl, kp.bent (by omega) b, hA10, same_trans s9 s10⟩
          · rintro σ H9 ⟨t6'', Lx, rfl, kp, hA9, s9⟩
            obtain ⟨FF, hin, hk1, hk2⟩ := pin_of (K := K) (H := H9) kp.two
            refine ⟨_, rfl, _, rfl, _, false, rfl, .inr ⟨rfl, FF, hin, hk1, fun r1' H10 s10 oc1 => ?_⟩⟩
            refine ⟨_, rfl, _, rfl, _, false, rfl, .inr ⟨rfl, FF, hin.same s10, hk2, fun r2 H11 s11 oc2 => ?_⟩⟩
            refine ⟨_, _, rfl, oc_twin (fun k v v' e h h' => ?_) (oc1.same s11 fun _ _ h => h.same s11) oc2, fun H12 s12 => ?_⟩
            · obtain ⟨q1, q2⟩ := hk1 k e
              exact ws_twin q1 (by omega) h h'
            · refine ⟨_, rfl, ?_⟩
              refine ifF rfl ?_
              have s13 := same_trans s10 (same_trans s11 s12)
              exact ⟨_, _, _, _, rfl, hA9.same s13, same_trans s9 (del_same_of s13)⟩
        | j + 2, hj => simp at hj
      · rintro σ H6 ⟨t4', t5', t6', t7', rfl, hA6, s6⟩
        clear s6 hw5 ha5 f5 n5 hw ha txl pp0 fit8 kd1 ok hk ho
        refine ⟨_, rfl, (by show 1 ≤ sizeLine; decide), fun q1 hq1 => ⟨(by show 1 ≤ sizeLine; decide), fun q2 hq2 => fun q3 hq3 => ⟨(by show 0 ≤ sizeLine; decide), fun q4 hq4 => ?_⟩⟩⟩
        have b1 := same_new (o := .lst [V.str "a"]) (same_refl H6) hq1
        have c1 : upd H6 q1 (.lst [V.str "a"]) q1 = some (.lst [V.str "a"]) := upd_same
        generalize upd H6 q1 (.lst [V.str "a"]) = G1 at b1 c1 hq2 hq3 hq4 ⊢
        have b2 := same_new (o := .tup [V.str "a"]) (same_refl G1) hq2
        have c2 : upd G1 q2 (.tup [V.str "a"]) q2 = some (.tup [V.str "a"]) := upd_same
        generalize upd G1 q2 (.tup [V.str "a"]) = G2 at b2 c2 hq3 hq4 ⊢
        have b3 := same_new (o := .dK []) (same_refl G2) hq3
        have c3 : upd G2 q3 (.dK []) q3 = some (.dK []) := upd_same
        generalize upd G2 q3 (.dK []) = G3 at b3 c3 hq4 ⊢
        have b4 := same_new (o := .tup []) (same_refl G3) hq4
        have c4 : upd G3 q4 (.tup []) q4 = some (.tup []) := upd_same
        generalize upd G3 q4 (.tup []) = G4 at b4 c4 ⊢
        refine ⟨0, rfl, fun a5 x5 G5 b5 _ e5 => ?_⟩
        have c5 := e5 rfl
        refine ⟨_, _, rfl, rfl, ⟨by decide, by decide, by decide⟩, (by show 9 ≤ sizeLine; decide), fun q6 hq6 => ?_⟩
        have d4 := same_trans b4 b5
        have d3 := same_trans b3 d4
        have d2 := same_trans b2 d3
        have d1 := same_trans b1 d2
        have hA7 := hA6.same d1
        have b6 := same_new (o := .lst [V.non, .int 0, .bl true, .ref q1, .ref q2, .ref q3, .ref q4, .ref a5, .int (10 ^ (29 : Int).toNat)]) (same_refl G5) hq6
        refine ⟨p, c, q6, cells, _, rfl, hA7.same b6, SqL.of upd_same, hA7.fresh hq6, (by show 0 < 9; decide), (by show 9 < 1000; decide), fun k v H8 hk hA8 o8 => ?_⟩
        have np : ∀ b o, G5 b = some o → b ≠ p → H8 b = some o := fun b o e n => by rw [o8 b n]; exact b6 _ _ e
        have fr : ∀ {b : Addr} {G : Hp} {o : HO}, G b = some o → (∀ l, o ≠ .lst l ∨ True) → True := fun _ _ => trivial
        have q1p := hA6.fresh hq1
        have q2p := (hA6.same b1).fresh hq2
        have q3p := (hA6.same (same_trans b1 b2)).fresh hq3
        have q4p := (hA6.same (same_trans b1 (same_trans b2 b3))).fresh hq4
        have ns8 : NoSt K H8 v := by
          have hm := List.mem_of_getElem? hk
          (simp only [List.mem_cons, List.not_mem_nil, or_false] at hm)
          rcases hm with rfl | rfl | rfl | rfl | rfl | rfl | rfl | rfl | rfl
          · exact ⟨_, .base .non, kit_ty (r := false) (by decide +kernel)⟩
          · exact ⟨_, .base (.int 0), kit_ty (r := false) (by decide +kernel)⟩
          · exact ⟨_, .base (.bl true), kit_ty (r := false) (by decide +kernel)⟩
          · exact ⟨_, .base (.lst (np _ _ (d2 _ _ c1) q1p)), kit_ty (r := false) (by decide +kernel)⟩
          · exact ⟨_, .base (.tup (np _ _ (d3 _ _ c2) q2p)), kit_ty (r := false) (by decide +kernel)⟩
          · exact ⟨_, .base (.dK (np _ _ (d4 _ _ c3) q3p)), kit_ty (r := false) (by decide +kernel)⟩
          · exact ⟨_, .base (.tup (np _ _ (b5 _ _ c4) q4p)), kit_ty (r := false) (by decide +kernel)⟩
          · by_cases e : a5 = p
            · obtain ⟨l, hl'⟩ := hA8.some
              rw [e]
              exact ⟨_, .base (.lst hl'), kit_ty (r := false) (by decide +kernel)⟩
            · exact ⟨_, .base (.lst (np _ _ c5 e)), kit_ty (r := false) (by decide +kernel)⟩
          · exact ⟨_, .base (.int _), kit_ty (r := false) (by decide +kernel)⟩
        obtain ⟨sh, eq⟩ := neg_same
        refine ⟨_, rfl, v, true, rfl, .inl ⟨rfl, .inr (-1), .inr ⟨ns8, rfl⟩, fun k e => (by cases e), fun r1 H9 s9 oc1 => ?_⟩⟩
        refine ⟨_, rfl, (by show 2 ≤ sizeLine; decide), fun g1 hg1 => ?_⟩
        have s10 := same_new (o := .tup [V.str "text", .int (-1)]) (same_refl H9) hg1
        refine ⟨_, _, .tup (SqT.of (s10 _ _ oc1)) (.cons (.str _) (.cons (.int _) .nil)), .tup (SqT.of upd_same) (.cons (.str _) (.cons (.int _) .nil)), sh, sh, ?_⟩
        rw [eq]
        refine ⟨_, rfl, ?_⟩
        refine ifF rfl ?_
        have s810 := same_trans s9 s10
        refine ⟨_, rfl, v, false, rfl, .inr ⟨rfl, .inr (-1), .inr ⟨ns8.same s810, rfl⟩, fun k e => (by cases e), fun r2 H11 s11 oc2 => ?_⟩⟩
        refine ⟨_, rfl, (by show 2 ≤ sizeLine; decide), fun g2 hg2 => ?_⟩
        have s12 := same_new (o := .tup [V.str "text", .int (-1)]) (same_refl H11) hg2
        refine ⟨_, _, .tup (SqT.of (s12 _ _ oc2)) (.cons (.str _) (.cons (.int _) .nil)), .tup (SqT.of upd_same) (.cons (.str _) (.cons (.int _) .nil)), sh, sh, ?_⟩
        rw [eq]
        refine ⟨_, rfl, ?_⟩
        refine ifF rfl ?_
        exact ⟨_, _, _, _, _, _, rfl, hA8.same (same_trans s810 (same_trans s11 s12))⟩
    · rintro σ H2 ⟨t2, t3, t4, t5, t6, t7, rfl, hA2⟩
      exact kq H2
end
end LG

set_option Elab.async false
set_option linter.all false
set_option maxRecDepth 100000
set_option maxHeartbeats 5000000
namespace LG
open PySem L2
/-- a def of the text as the top has left it -/
def DefPack (K : PySem.W.Frag) (x : Str) (st : Stmt) (ps : List Str) : Prop := ∃ (f : Addr) (fd : FuncData), PySem.W.nsIn K mainGlobals x = some (some (.ref f)) ∧ Fun K x x st f fd ∧ Binds K fd ps []
theorem DefPack.fn {K : PySem.W.Frag} {h : Heap} {mg : Str → Option Value} {x : Str} {st : Stmt} {ps : List Str} (X : K.In h) (G : h.Ns mainGlobals mg) (d : DefPack K x st ps) : ∃ f fd, Fn K mg x st ps f fd := by
  obtain ⟨f, fd, a, F, b⟩ := d
  exact ⟨f, fd, F, b, PySem.W.mg_of X G a⟩
theorem def_mk {K : PySem.W.Frag} {x : Str} {st : Stmt} {ps : List Str} {f : Addr} {oc : Value} {od an : Option Addr} {osl : Array (Option Value)} {kV doc pm cdv ct : Value} (a : PySem.W.nsIn K mainGlobals x = some (some (.ref f)))
    (l : K.lookup f = some ⟨oc, od, .func (PySem.W.fnOf x x (defArgs st) (defBody st) (defScope st) .none kV doc pm an cdv ct), osl⟩) (c : PySem.W.codeIn K cdv x = true) (k : PySem.W.keepIn K (.ref f) = true)
    (h : ∀ (kV doc pm : Value) (an : Option Addr) (cdv ct : Value) (us : List Value), us.length = ps.length → bindArgs (PySem.W.fnOf x x (defArgs st) (defBody st) (defScope st) .none kV doc pm an cdv ct) ⟨us, []⟩ = pure (ps.zip us)) : DefPack K x st ps :=
  ⟨f, _, a, fun_mk l c k, (fun_mk l c k).binds h⟩
/-- an error class of the text as the top has left it -/
structure CF (K : PySem.W.Frag) (CE D : Addr) (nm : Str) : Prop where
  x : ∃ q N bs sn sub ab col dd k0 k1 k2 k3 k5, K.lookup D = some (excClassObj nm q D N bs [.ref CE, .type "ValueError", .type "Exception", .type "BaseException", .type "object"] true sn sub ab col dd k0 k1 k2 k3 k5 "ValueError.__new__")
  sa : PySem.W.findIn K (.ref D) "__setattr__" = some (some (.builtin "object.__setattr__"))
  ga : PySem.W.findIn K (.ref D) "__getattribute__" = some (some (.builtin "BaseException.__getattribute__"))
  gg : PySem.W.findIn K (.ref D) "__getattr__" = some none
  tyC : PySem.W.typeIn K (.ref D) = some (.type "type")
  kC : PySem.W.keepIn K (.ref D) = true
  haC : PySem.W.findIn K (.ref D) "__class__" = some (some (.builtin "object.__class__"))
theorem CF.cls {K : PySem.W.Frag} {CE C : Addr} {nm : Str} (h : CF K CE C nm) : ∃ cd, PySem.W.clsIn K C = some cd ∧ cd.name = nm ∧ cd.mro = [.ref C, .ref CE, .type "ValueError", .type "Exception", .type "BaseException", .type "object"] ∧ cd.hasDict = true := by
  obtain ⟨q, N, bs, sn, sub, ab, col, dd, k0, k1, k2, k3, k5, e⟩ := h.x
  refine ⟨_, by unfold PySem.W.clsIn; rw [e] <;> rfl, rfl, rfl, rfl⟩
theorem CF.ne {K : PySem.W.Frag} {CE C C' : Addr} {nm nm' : Str} (h : CF K CE C nm) (h' : CF K CE C' nm') (hn : nm ≠ nm') : C ≠ C' := fun z => by
  obtain ⟨cd, e, n, _⟩ := h.cls
  obtain ⟨cd', e', n', _⟩ := h'.cls
  rw [z, e'] at e
  cases e
  exact hn (n.symm.trans n')
theorem CF.mro {K : PySem.W.Frag} {CE C : Addr} {nm : Str} (h : CF K CE C nm) (b : Value) : PySem.W.mroIn K C b = some ([Value.ref C, .ref CE, .type "ValueError", .type "Exception", .type "BaseException", .type "object"].contains b) := by
  obtain ⟨cd, e, _, m, _⟩ := h.cls
  unfold PySem.W.mroIn
  rw [e, Option.bind_some, m]
  rfl
theorem CF.kitR {K : PySem.W.Frag} {CE C C' : Addr} {nm nm' : Str} (h : CF K CE C nm) (h' : CF K CE C' nm') : PySem.W.kitOne K (.ref C) (.ref C') = some (decide (C = C') || decide (C' = CE)) := by
  unfold PySem.W.kitOne
  by_cases e : C = C'
  · subst e
    rw [if_pos (beq_self_eq_true _), decide_eq_true rfl]
    rfl
  · have hbf : (Value.ref C == Value.ref C') = false := beq_eq_false_iff_ne.mpr fun z => e (Value.ref.inj z)
    rw [hbf, if_neg Bool.false_ne_true]
    obtain ⟨cd, ec, _⟩ := h'.cls
    show (if ((PySem.W.clsIn K C').isSome && PySem.W.typeIn K (.ref C') == some (.type "type")) = true then PySem.W.subIn K (.ref C) (.ref C') else none) = _
    rw [ec, h'.tyC, if_pos (by rfl)]
    show PySem.W.mroIn K C (.ref C') = _
    rw [h.mro]
    have e2 : ¬ C' = C := fun z => e z.symm
    by_cases e3 : C' = CE
    · subst e3; simp
    · simp [e, e2, e3]

theorem CF.errC {K : PySem.W.Frag} {CE C : Addr} {nm : Str} (h : CF K CE C nm) (hn : PySem.W.specialIn K (.builtin "object.__class__") "__get__" = some (some (.builtin "getset_descriptor.__get__"))) (ht : PySem.W.takesIn K (.builtin "object.__class__") = some true) : ErrC K C := by
  have exC : PySem.W.subIn K (.ref C) (.type "BaseException") = some true := (h.mro _).trans (by simp)
  have hd : PySem.W.hasDictIn K C = true := by
    obtain ⟨cd, e, _, _, d⟩ := h.cls
    unfold PySem.W.hasDictIn
    rw [e]
    exact d
  obtain ⟨q, N, bs, sn, sub, ab, col, dd, k0, k1, k2, k3, k5, e⟩ := h.x
  exact ⟨⟨⟨nm, q, N, bs, _, sn, sub, ab, col, dd, k0, k1, k2, k3, k5, e, (show PySem.HandSPX.refsVE [.type "ValueError", .type "Exception", .type "BaseException", .type "object"] = true by decide +kernel)⟩, h.sa, exC, h.tyC, h.kC⟩, ⟨h.ga, h.gg, exC, hd⟩, h.haC, ⟨hn, ht⟩, (h.mro _).trans (by simp)⟩
/-- a method as the top has left it -/
def MethPack (K : PySem.W.Frag) (C : Addr) (nm qual : Str) (st : Stmt) (ps : List Str) : Prop := ∃ (f : Addr) (fd : FuncData), PySem.W.findIn K (.ref C) nm = some (some (.ref f)) ∧ PySem.W.isFn K (.ref f) = true ∧ PySem.W.keepIn K (.ref f) = true ∧ Fun K nm qual st f fd ∧ Binds K fd ps []
theorem meth_mk {K : PySem.W.Frag} {C f : Addr} {nm qual : Str} {st : Stmt} {ps : List Str} {oc : Value} {od an : Option Addr} {osl : Array (Option Value)} {kV doc pm cdv ct : Value}
    (i : PySem.W.findIn K (.ref C) nm = some (some (.ref f))) (n : PySem.W.isFn K (.ref f) = true) (l : K.lookup f = some ⟨oc, od, .func (PySem.W.fnOf nm qual (defArgs st) (defBody st) (defScope st) .none kV doc pm an cdv ct), osl⟩) (c : PySem.W.codeIn K cdv qual = true) (k : PySem.W.keepIn K (.ref f) = true)
    (h : ∀ (kV doc pm : Value) (an : Option Addr) (cdv ct : Value) (us : List Value), us.length = ps.length → bindArgs (PySem.W.fnOf nm qual (defArgs st) (defBody st) (defScope st) .none kV doc pm an cdv ct) ⟨us, []⟩ = pure (ps.zip us)) : MethPack K C nm qual st ps :=
  ⟨f, _, i, n, k, fun_mk l c k, (fun_mk l c k).binds h⟩
/-- Reading as the top has left it -/
structure PkReading (K : PySem.W.Frag) (C : Addr) : Prop where
  a : PySem.W.nsIn K mainGlobals "Reading" = some (some (.ref C))
  cl : Cls K C
  n0 : NoAttr K C "_text"
  n1 : NoAttr K C "_at"
  mks : PySem.W.makesIn K C = true
  kc : PySem.W.keepIn K (.ref C) = true
  m0 : MethPack K C "__init__" "Reading.__init__" sRInit ["self", "text"]
  m1 : MethPack K C "_goes_on" "Reading._goes_on" sRGoes ["self", "sign"]
  m2 : MethPack K C "_is_letter" "Reading._is_letter" sRIsL ["self"]
  m3 : MethPack K C "_need" "Reading._need" sRNeed ["self", "signs"]
  m4 : MethPack K C "need_end" "Reading.need_end" sREnd ["self"]
  m5 : MethPack K C "_letter" "Reading._letter" sRLet ["self"]
  m6 : MethPack K C "_name" "Reading._name" sRName ["self"]
  m7 : MethPack K C "kind" "Reading.kind" sRKind ["self"]
  m8 : MethPack K C "program" "Reading.program" sRProg ["self"]
  m9 : MethPack K C "_take" "Reading._take" sRTake ["self"]
theorem pkReading_mk {K : PySem.W.Frag} {C : Addr} (a : PySem.W.nsIn K mainGlobals "Reading" = some (some (.ref C))) (pg : PySem.W.plainGet K C Str.empty = true) (hd : PySem.W.hasDictIn K C = true) (po : PySem.W.plainOver K C = true) (sa : PySem.W.findIn K (.ref C) "__setattr__" = some (some (.builtin "object.__setattr__")))
    (n0 : PySem.W.findIn K (.ref C) "_text" = some none) (n1 : PySem.W.findIn K (.ref C) "_at" = some none)  (mk : PySem.W.makesIn K C = true) (kc : PySem.W.keepIn K (.ref C) = true)
    (m0 : MethPack K C "__init__" "Reading.__init__" sRInit ["self", "text"]) (m1 : MethPack K C "_goes_on" "Reading._goes_on" sRGoes ["self", "sign"]) (m2 : MethPack K C "_is_letter" "Reading._is_letter" sRIsL ["self"]) (m3 : MethPack K C "_need" "Reading._need" sRNeed ["self", "signs"]) (m4 : MethPack K C "need_end" "Reading.need_end" sREnd ["self"]) (m5 : MethPack K C "_letter" "Reading._letter" sRLet ["self"]) (m6 : MethPack K C "_name" "Reading._name" sRName ["self"]) (m7 : MethPack K C "kind" "Reading.kind" sRKind ["self"]) (m8 : MethPack K C "program" "Reading.program" sRProg ["self"]) (m9 : MethPack K C "_take" "Reading._take" sRTake ["self"]) : ∃ C, PkReading K C :=
  ⟨C, a, ⟨pg, hd, po, sa⟩, n0, n1, mk, kc, m0, m1, m2, m3, m4, m5, m6, m7, m8, m9⟩
/-- BadText as the top has left it -/
def PkBadText (K : PySem.W.Frag) (CE : Addr) : Prop := ∃ (C fI : Addr) (fd : FuncData), PySem.W.nsIn K mainGlobals "BadText" = some (some (.ref C)) ∧ CF K CE C "BadText" ∧ Fun K "__init__" "BadText.__init__" sBtInit fI fd ∧ Binds K fd ["self", "index"] [] ∧
  PySem.W.findIn K (.ref C) "__init__" = some (some (.ref fI)) ∧ PySem.W.typeIn K (.ref fI) = some (.type "function") ∧ PySem.W.findIn K (.ref C) "index" = some none
theorem pkBadText_mk {K : PySem.W.Frag} {CE C fI : Addr} {q : Str} {N : Addr} {bs : List Value} {sn : List Str} {sub : List Value} {ab : Bool} {col : Option Bool} {dd : Option Addr} {k0 k1 k2 k3 k5 : Option Value}
    {oc : Value} {od an : Option Addr} {osl : Array (Option Value)} {kV doc pm cdv ct : Value} (a : PySem.W.nsIn K mainGlobals "BadText" = some (some (.ref C)))
    (x : K.lookup C = some (excClassObj "BadText" q C N bs [.ref CE, .type "ValueError", .type "Exception", .type "BaseException", .type "object"] true sn sub ab col dd k0 k1 k2 k3 k5 "ValueError.__new__"))
    (sa : PySem.W.findIn K (.ref C) "__setattr__" = some (some (.builtin "object.__setattr__"))) (ga : PySem.W.findIn K (.ref C) "__getattribute__" = some (some (.builtin "BaseException.__getattribute__"))) (gg : PySem.W.findIn K (.ref C) "__getattr__" = some none)
    (ty : PySem.W.typeIn K (.ref C) = some (.type "type")) (kC : PySem.W.keepIn K (.ref C) = true) (ha : PySem.W.findIn K (.ref C) "__class__" = some (some (.builtin "object.__class__")))
    (i : PySem.W.findIn K (.ref C) "__init__" = some (some (.ref fI))) (t : PySem.W.typeIn K (.ref fI) = some (.type "function"))
    (l : K.lookup fI = some ⟨oc, od, .func (PySem.W.fnOf "__init__" "BadText.__init__" (defArgs sBtInit) (defBody sBtInit) (defScope sBtInit) .none kV doc pm an cdv ct), osl⟩) (c : PySem.W.codeIn K cdv "BadText.__init__" = true) (k : PySem.W.keepIn K (.ref fI) = true) (no : PySem.W.findIn K (.ref C) "index" = some none) : PkBadText K CE :=
  ⟨C, fI, _, a, ⟨⟨q, N, bs, sn, sub, ab, col, dd, k0, k1, k2, k3, k5, x⟩, sa, ga, gg, ty, kC, ha⟩, fun_mk l c k, (fun_mk l c k).binds (fun _ _ _ _ _ _ us hl => match us, hl with | [_, _], _ => rfl), i, t, no⟩
def LawPack (K : PySem.W.Frag) : Prop := ∃ (f : Addr) (fd : FuncData), PySem.W.nsIn K mainGlobals "law" = some (some (.ref f)) ∧ Fun K "law" "law" sLaw f fd ∧ Binds K fd ["_law_script"] [] ∧ ∀ (s : Shared) (v : Value), BindsTo s fd ⟨[v], []⟩ [("_law_script", v)]
theorem law_mk {K : PySem.W.Frag} {f : Addr} {oc : Value} {od an : Option Addr} {osl : Array (Option Value)} {kV doc pm cdv ct : Value} (a : PySem.W.nsIn K mainGlobals "law" = some (some (.ref f)))
    (l : K.lookup f = some ⟨oc, od, .func (PySem.W.fnOf "law" "law" (defArgs sLaw) (defBody sLaw) (defScope sLaw) .none kV doc pm an cdv ct), osl⟩) (c : PySem.W.codeIn K cdv "law" = true) (k : PySem.W.keepIn K (.ref f) = true) : LawPack K :=
  ⟨f, _, a, fun_mk l c k, (fun_mk l c k).binds (fun _ _ _ _ _ _ us hl => match us, hl with | [_], _ => rfl), fun s v => .of_eq rfl⟩
theorem all_mk {l : PySem.W.OpenLaw} {w : World} {K : PySem.W.Frag} {h : Heap} {mg : Str → Option Value} {fa : Addr} {v0 v1 v2 v3 v4 v5 v6 v7 : Tok} (X : K.In h) (G : h.Ns mainGlobals mg) (hfa : mg "law" = some (.ref fa))
    {CE : Addr} {q : Str} {N : Addr} {bs : List Value} {sn : List Str} {sub : List Value} {ab : Bool} {col : Option Bool} {dd : Option Addr} {m0 m1 m2 m3 m5 : Option Value}
    (aE : PySem.W.nsIn K mainGlobals "CountsError" = some (some (.ref CE)))
    (xE : K.lookup CE = some (excClassObj "CountsError" q CE N bs [.type "ValueError", .type "Exception", .type "BaseException", .type "object"] true sn sub ab col dd m0 m1 m2 m3 m5 "ValueError.__new__"))
    (tE : PySem.W.typeIn K (.ref CE) = some (.type "type")) (sE : PySem.W.subIn K (.ref CE) (.type "BaseException") = some true) (hE : PySem.W.hasDictIn K CE = true)
    (hn : PySem.W.specialIn K (.builtin "object.__class__") "__get__" = some (some (.builtin "getset_descriptor.__get__"))) (ht : PySem.W.takesIn K (.builtin "object.__class__") = some true)
    (p_BadText : PkBadText K CE)
    (c_LAST_LETTER : PySem.W.nsIn K mainGlobals "LAST_LETTER" = some (some (.int 25 v0)))
    (c_MOST_LETTERS : PySem.W.nsIn K mainGlobals "MOST_LETTERS" = some (some (.int 60 v1)))
    (c_MOST_DEEP : PySem.W.nsIn K mainGlobals "MOST_DEEP" = some (some (.int 30 v2)))
    (c_NAME_LETTERS : PySem.W.nsIn K mainGlobals "NAME_LETTERS" = some (some (.str "abcdefghijklmnopqrstuvwxyz" v3)))
    (c_LONGEST_NAME : PySem.W.nsIn K mainGlobals "LONGEST_NAME" = some (some (.int 8 v4)))
    (c_USE : PySem.W.nsIn K mainGlobals "USE" = some (some (.str "@" v5)))
    (c_MOST_WORDS : PySem.W.nsIn K mainGlobals "MOST_WORDS" = some (some (.int 400 v6)))
    (c_NO_STRING : PySem.W.nsIn K mainGlobals "NO_STRING" = some (some (.int (-1) v7)))
    (d_is_integer : DefPack K "is_integer" sInteger ["thing"])
    (d_is_integer_within : DefPack K "is_integer_within" sWithin ["low", "high", "thing"])
    (d_is_pair : DefPack K "is_pair" sPair ["thing"])
    (d_is_letter : DefPack K "is_letter" sLetter ["thing"])
    (d_is_kind : DefPack K "is_kind" sKind ["thing"])
    (d_is_name : DefPack K "is_name" sName ["thing"])
    (d_is_made_of_words : DefPack K "is_made_of_words" sMade ["thing", "is_fit"])
    (d__is_fit_take : DefPack K "_is_fit_take" sFit ["word", "is_fit"])
    (d_is_program : DefPack K "is_program" sIsProg ["thing"])
    (d_read_kind : DefPack K "read_kind" sRdK ["text"])
    (d_read_program : DefPack K "read_program" sRdP ["text"])
    (d_kind_of_text : DefPack K "kind_of_text" sKOf ["text"])
    (d_program_of_text : DefPack K "program_of_text" sPOf ["text"])
    (d__law_hand : DefPack K "_law_hand" sHand ["_law_script"])
    (d__law_draw : DefPack K "_law_draw" sDraw ["_law_hand_here", "_law_many"])
    (d__law_some : DefPack K "_law_some" sSome ["_law_hand_here", "_law_things"])
    (d__law_shuffled : DefPack K "_law_shuffled" sShuf ["_law_hand_here", "_law_things"])
    (d__law_is : DefPack K "_law_is" sLIsT ["_law_told_here", "_law_due_here"])
    (d__law_deep : DefPack K "_law_deep" sDeep ["_law_kind_here"])
    (d__law_kind : DefPack K "_law_kind" sKd ["_law_hand_here", "_law_deep_here"])
    (d__law_ends : DefPack K "_law_ends" sLEnds ["_law_kind_here"])
    (d__law_known : DefPack K "_law_known" sKnown ["_law_hand_here", "_law_many"])
    (d__law_some_program : DefPack K "_law_some_program" sSomeP ["_law_hand_here", "_law_known_here", "_law_deep_here"])
    (d__law_spans : DefPack K "_law_spans" sSpans ["_law_words"])
    (d__law_heads : DefPack K "_law_heads" sHeads ["_law_inner", "_law_end", "_law_deep_here"])
    (d__law_fit : DefPack K "_law_fit" sLFit ["_law_hand_here", "_law_known_here", "_law_kind_here", "_law_deep_here"])
    (d__law_loose : DefPack K "_law_loose" sLoose ["_law_hand_here", "_law_names", "_law_deep_here"])
    (d__law_kind_text : DefPack K "_law_kind_text" sLKT ["_law_kind_here"])
    (d__law_text : DefPack K "_law_text" sLTx ["_law_words"])
    (d__law_signs : DefPack K "_law_signs" sLSig ["_law_text_here", "_law_at", "_law_signs_here"])
    (d__law_read_atom : DefPack K "_law_read_atom" sLAtm ["_law_text_here", "_law_at"])
    (d__law_read_kind : DefPack K "_law_read_kind" sLKnd ["_law_text_here", "_law_at"])
    (d__law_read_name : DefPack K "_law_read_name" sLNam ["_law_text_here", "_law_at"])
    (d__law_read_take : DefPack K "_law_read_take" sLTak ["_law_text_here", "_law_at"])
    (d__law_read_words : DefPack K "_law_read_words" sLWds ["_law_text_here", "_law_at"])
    (d__law_due : DefPack K "_law_due" sLDue ["_law_text_here", "_law_is_kind"])
    (d__law_told : DefPack K "_law_told" sLTold ["_law_text_here", "_law_is_kind"])
    (d__law_bent : DefPack K "_law_bent" sLBent ["_law_hand_here", "_law_text_here"])
    (p_Reading : ∃ C, PkReading K C)
    (pW : LawPack K)
    (z_abs : PySem.W.nsIn K mainGlobals "abs" = some none) (z_int : PySem.W.nsIn K mainGlobals "int" = some none) (z_len : PySem.W.nsIn K mainGlobals "len" = some none) (z_isinstance : PySem.W.nsIn K mainGlobals "isinstance" = some none) (z_all : PySem.W.nsIn K mainGlobals "all" = some none) (z_range : PySem.W.nsIn K mainGlobals "range" = some none) (z_tuple : PySem.W.nsIn K mainGlobals "tuple" = some none) (z_list : PySem.W.nsIn K mainGlobals "list" = some none) (z_dict : PySem.W.nsIn K mainGlobals "dict" = some none) (z_bool : PySem.W.nsIn K mainGlobals "bool" = some none) (z_str : PySem.W.nsIn K mainGlobals "str" = some none) (z_sorted : PySem.W.nsIn K mainGlobals "sorted" = some none) (z_max : PySem.W.nsIn K mainGlobals "max" = some none) (z_any : PySem.W.nsIn K mainGlobals "any" = some none) (z_reversed : PySem.W.nsIn K mainGlobals "reversed" = some none) (z_set : PySem.W.nsIn K mainGlobals "set" = some none) (z_enumerate : PySem.W.nsIn K mainGlobals "enumerate" = some none) (z_sum : PySem.W.nsIn K mainGlobals "sum" = some none) (z_ValueError : PySem.W.nsIn K mainGlobals "ValueError" = some none) :
    ∃ fd : FuncData, (∀ (s : Shared) (v : Value), BindsTo s fd ⟨[v], []⟩ [("_law_script", v)]) ∧ ∀ base : Heap, K.In base → base.Ns mainGlobals mg → FnOk l.prog w K mg base CX0 192 fa fd ["_law_script"] (spLaw K) := by
  obtain ⟨fw, fdw, aw, Fw, bb, bw⟩ := pW
  have e := hfa.symm.trans (PySem.W.mg_of X G aw)
  cases e
  obtain ⟨C_BadText, fI_BadText, fdI_BadText, a_BadText, CF_BadText, FI_BadText, bI_BadText, iI_BadText, tI_BadText, no_BadText⟩ := p_BadText
  obtain ⟨g_is_integer, gd_is_integer, D_is_integer⟩ := d_is_integer.fn X G
  obtain ⟨g_is_integer_within, gd_is_integer_within, D_is_integer_within⟩ := d_is_integer_within.fn X G
  obtain ⟨g_is_pair, gd_is_pair, D_is_pair⟩ := d_is_pair.fn X G
  obtain ⟨g_is_letter, gd_is_letter, D_is_letter⟩ := d_is_letter.fn X G
  obtain ⟨g_is_kind, gd_is_kind, D_is_kind⟩ := d_is_kind.fn X G
  obtain ⟨g_is_name, gd_is_name, D_is_name⟩ := d_is_name.fn X G
  obtain ⟨g_is_made_of_words, gd_is_made_of_words, D_is_made_of_words⟩ := d_is_made_of_words.fn X G
  obtain ⟨g__is_fit_take, gd__is_fit_take, D__is_fit_take⟩ := d__is_fit_take.fn X G
  obtain ⟨g_is_program, gd_is_program, D_is_program⟩ := d_is_program.fn X G
  obtain ⟨g_read_kind, gd_read_kind, D_read_kind⟩ := d_read_kind.fn X G
  obtain ⟨g_read_program, gd_read_program, D_read_program⟩ := d_read_program.fn X G
  obtain ⟨g_kind_of_text, gd_kind_of_text, D_kind_of_text⟩ := d_kind_of_text.fn X G
  obtain ⟨g_program_of_text, gd_program_of_text, D_program_of_text⟩ := d_program_of_text.fn X G
  obtain ⟨g__law_hand, gd__law_hand, D__law_hand⟩ := d__law_hand.fn X G
  obtain ⟨g__law_draw, gd__law_draw, D__law_draw⟩ := d__law_draw.fn X G
  obtain ⟨g__law_some, gd__law_some, D__law_some⟩ := d__law_some.fn X G
  obtain ⟨g__law_shuffled, gd__law_shuffled, D__law_shuffled⟩ := d__law_shuffled.fn X G
  obtain ⟨g__law_is, gd__law_is, D__law_is⟩ := d__law_is.fn X G
  obtain ⟨g__law_deep, gd__law_deep, D__law_deep⟩ := d__law_deep.fn X G
  obtain ⟨g__law_kind, gd__law_kind, D__law_kind⟩ := d__law_kind.fn X G
  obtain ⟨g__law_ends, gd__law_ends, D__law_ends⟩ := d__law_ends.fn X G
  obtain ⟨g__law_known, gd__law_known, D__law_known⟩ := d__law_known.fn X G
  obtain ⟨g__law_some_program, gd__law_some_program, D__law_some_program⟩ := d__law_some_program.fn X G
  obtain ⟨g__law_spans, gd__law_spans, D__law_spans⟩ := d__law_spans.fn X G
  obtain ⟨g__law_heads, gd__law_heads, D__law_heads⟩ := d__law_heads.fn X G
  obtain ⟨g__law_fit, gd__law_fit, D__law_fit⟩ := d__law_fit.fn X G
  obtain ⟨g__law_loose, gd__law_loose, D__law_loose⟩ := d__law_loose.fn X G
  obtain ⟨g__law_kind_text, gd__law_kind_text, D__law_kind_text⟩ := d__law_kind_text.fn X G
  obtain ⟨g__law_text, gd__law_text, D__law_text⟩ := d__law_text.fn X G
  obtain ⟨g__law_signs, gd__law_signs, D__law_signs⟩ := d__law_signs.fn X G
  obtain ⟨g__law_read_atom, gd__law_read_atom, D__law_read_atom⟩ := d__law_read_atom.fn X G
  obtain ⟨g__law_read_kind, gd__law_read_kind, D__law_read_kind⟩ := d__law_read_kind.fn X G
  obtain ⟨g__law_read_name, gd__law_read_name, D__law_read_name⟩ := d__law_read_name.fn X G
  obtain ⟨g__law_read_take, gd__law_read_take, D__law_read_take⟩ := d__law_read_take.fn X G
  obtain ⟨g__law_read_words, gd__law_read_words, D__law_read_words⟩ := d__law_read_words.fn X G
  obtain ⟨g__law_due, gd__law_due, D__law_due⟩ := d__law_due.fn X G
  obtain ⟨g__law_told, gd__law_told, D__law_told⟩ := d__law_told.fn X G
  obtain ⟨g__law_bent, gd__law_bent, D__law_bent⟩ := d__law_bent.fn X G
  obtain ⟨C_Reading, SP_Reading⟩ := p_Reading
  obtain ⟨f_Reading___init__, fd_Reading___init__, i_Reading___init__, n_Reading___init__, k_Reading___init__, F_Reading___init__, b_Reading___init__⟩ := SP_Reading.m0
  obtain ⟨f_Reading__goes_on, fd_Reading__goes_on, i_Reading__goes_on, n_Reading__goes_on, k_Reading__goes_on, F_Reading__goes_on, b_Reading__goes_on⟩ := SP_Reading.m1
  obtain ⟨f_Reading__is_letter, fd_Reading__is_letter, i_Reading__is_letter, n_Reading__is_letter, k_Reading__is_letter, F_Reading__is_letter, b_Reading__is_letter⟩ := SP_Reading.m2
  obtain ⟨f_Reading__need, fd_Reading__need, i_Reading__need, n_Reading__need, k_Reading__need, F_Reading__need, b_Reading__need⟩ := SP_Reading.m3
  obtain ⟨f_Reading_need_end, fd_Reading_need_end, i_Reading_need_end, n_Reading_need_end, k_Reading_need_end, F_Reading_need_end, b_Reading_need_end⟩ := SP_Reading.m4
  obtain ⟨f_Reading__letter, fd_Reading__letter, i_Reading__letter, n_Reading__letter, k_Reading__letter, F_Reading__letter, b_Reading__letter⟩ := SP_Reading.m5
  obtain ⟨f_Reading__name, fd_Reading__name, i_Reading__name, n_Reading__name, k_Reading__name, F_Reading__name, b_Reading__name⟩ := SP_Reading.m6
  obtain ⟨f_Reading_kind, fd_Reading_kind, i_Reading_kind, n_Reading_kind, k_Reading_kind, F_Reading_kind, b_Reading_kind⟩ := SP_Reading.m7
  obtain ⟨f_Reading_program, fd_Reading_program, i_Reading_program, n_Reading_program, k_Reading_program, F_Reading_program, b_Reading_program⟩ := SP_Reading.m8
  obtain ⟨f_Reading__take, fd_Reading__take, i_Reading__take, n_Reading__take, k_Reading__take, F_Reading__take, b_Reading__take⟩ := SP_Reading.m9
  have M_Reading : Mk K C_Reading f_Reading___init__ := ⟨SP_Reading.mks, i_Reading___init__, n_Reading___init__, SP_Reading.kc⟩
  have T : TxB mg := ⟨PySem.W.mg_none_of X G z_abs, PySem.W.mg_none_of X G z_int, PySem.W.mg_none_of X G z_len, PySem.W.mg_none_of X G z_isinstance, PySem.W.mg_none_of X G z_all, PySem.W.mg_none_of X G z_range⟩
  have T2 : TxD mg := ⟨PySem.W.mg_none_of X G z_tuple, PySem.W.mg_none_of X G z_list, PySem.W.mg_none_of X G z_dict, PySem.W.mg_none_of X G z_bool, PySem.W.mg_none_of X G z_str, PySem.W.mg_none_of X G z_sorted, PySem.W.mg_none_of X G z_max, PySem.W.mg_none_of X G z_any, PySem.W.mg_none_of X G z_reversed, PySem.W.mg_none_of X G z_set, PySem.W.mg_none_of X G z_enumerate, PySem.W.mg_none_of X G z_sum⟩
  refine ⟨fdw, bw, fun base _ _ => ?_⟩
  have TK : TxK mg := { toTxD := T2, last := ⟨_, PySem.W.mg_of X G c_LAST_LETTER⟩ }
  have TN : TxN mg := ⟨⟨_, PySem.W.mg_of X G c_NAME_LETTERS⟩, ⟨_, PySem.W.mg_of X G c_LONGEST_NAME⟩⟩
  have T3 : TxKK mg := { most := ⟨_, PySem.W.mg_of X G c_MOST_LETTERS⟩, deep := ⟨_, PySem.W.mg_of X G c_MOST_DEEP⟩ }
  have hu : ∃ u, mg "USE" = some (.str "@" u) := ⟨_, PySem.W.mg_of X G c_USE⟩
  have hm : ∃ u, mg "MOST_WORDS" = some (.int 400 u) := ⟨_, PySem.W.mg_of X G c_MOST_WORDS⟩
  have hs : ∃ u, mg "NO_STRING" = some (.int (-1) u) := ⟨_, PySem.W.mg_of X G c_NO_STRING⟩
  have B : BtT K mg C_BadText fI_BadText fdI_BadText := { err := CF_BadText.errC hn ht, no := no_BadText, m := PySem.W.mg_of X G a_BadText, F := FI_BadText, b := bI_BadText, i := iI_BadText, t := tI_BadText }
  have BE : BtE K mg C_BadText CE := {
    gE := PySem.W.mg_of X G aE
    exm := PySem.W.exm_ref sE hE tE ((CF_BadText.mro _).trans (by simp))
    k1 := by rw [CF_BadText.kitR CF_BadText, decide_eq_true rfl, Bool.true_or]
    k2 := by
      unfold PySem.W.kitOne
      rw [show (Value.ref C_BadText == Value.type "ValueError") = false from rfl, if_neg Bool.false_ne_true]
      show (if PySem.W.kitMeta "ValueError" = true then PySem.W.subIn K (.ref C_BadText) (.type "ValueError") else none) = _
      rw [if_pos (by decide +kernel)]
      exact (CF_BadText.mro _).trans (by simp)
    vE := PySem.W.mg_none_of X G z_ValueError }
  have RF : RdF K mg C_Reading _ _ _ _ _ _ _ _ _ _ _ _ _ _ _ _ _ _ _ _ sRKind sRProg sRTake := { R := ⟨SP_Reading.cl, SP_Reading.n0, SP_Reading.n1⟩, Mm := M_Reading, m := PySem.W.mg_of X G SP_Reading.a, F0 := F_Reading___init__, b0 := b_Reading___init__, FG := F_Reading__goes_on, bG := b_Reading__goes_on, mG := ⟨i_Reading__goes_on, n_Reading__goes_on, k_Reading__goes_on⟩, FI := F_Reading__is_letter, bI := b_Reading__is_letter, mI := ⟨i_Reading__is_letter, n_Reading__is_letter, k_Reading__is_letter⟩, FN := F_Reading__need, bN := b_Reading__need, mN := ⟨i_Reading__need, n_Reading__need, k_Reading__need⟩, FE := F_Reading_need_end, bE := b_Reading_need_end, mE := ⟨i_Reading_need_end, n_Reading_need_end, k_Reading_need_end⟩, FL := F_Reading__letter, bL := b_Reading__letter, mL := ⟨i_Reading__letter, n_Reading__letter, k_Reading__letter⟩, FM := F_Reading__name, bM := b_Reading__name, mM := ⟨i_Reading__name, n_Reading__name, k_Reading__name⟩, FK := F_Reading_kind, bK := b_Reading_kind, mK := ⟨i_Reading_kind, n_Reading_kind, k_Reading_kind⟩, FP := F_Reading_program, bP := b_Reading_program, mP := ⟨i_Reading_program, n_Reading_program, k_Reading_program⟩, FT := F_Reading__take, bT := b_Reading__take, mT := ⟨i_Reading__take, n_Reading__take, k_Reading__take⟩ }
  have RX := RdX.mk RF B
  have GKO := ok_kofX (P := l.prog) (base := base) (w := w) D_kind_of_text RX hs T T2 TN
  have GPO := ok_pofX (P := l.prog) (base := base) (w := w) D_program_of_text RX hs hu T T2 TN
  have GRK := ok_rdkX (P := l.prog) (base := base) (w := w) (fL := C_Reading) D_read_kind D_kind_of_text GKO D_is_kind D_is_letter D_is_integer_within D_is_integer D_is_pair T TK T3
  have GIP := ok_isprog (P := l.prog) (base := base) (w := w) D_is_program D_is_made_of_words D__is_fit_take D_is_pair D_is_name D_is_kind D_is_letter D_is_integer_within D_is_integer hm hu T TK T3 TN
  have GRP := ok_rdpX (P := l.prog) (base := base) (w := w) D_read_program D_program_of_text GPO D_is_program GIP
  have GTO := ok_ltold (P := l.prog) (base := base) (w := w) D__law_told D_read_kind GRK D_read_program GRP B BE T
  have GRec := ok_lrec (P := l.prog) (base := base) (w := w) (K := K) D__law_read_atom D__law_read_kind D__law_signs T T2 TK
  have GWd := ok_lwds (P := l.prog) (base := base) (w := w) (K := K) (R := 7) D__law_read_words D__law_read_take D__law_read_name D__law_read_atom D__law_read_kind D__law_signs T TK
  have GDU := ok_ldue (P := l.prog) (base := base) (w := w) (L := 190) D__law_due D__law_read_kind D__law_read_words (GRec 187).2 (GWd 125) (by decide) (by decide) T TK
  have GSP := ok_somepD (P := l.prog) (base := base) (w := w) D__law_some_program D__law_fit D__law_loose D__law_draw D__law_some D__law_kind D__law_ends D__law_heads T T2
  have GKN := ok_known (P := l.prog) (base := base) (w := w) D__law_known D__law_shuffled D__law_kind D__law_draw T T2
  have GLT := ok_ltx (P := l.prog) (base := base) (w := w) (d := 2) D__law_text D__law_spans D__law_kind_text T T2
  have GLK := ok_lkt (P := l.prog) (base := base) (w := w) D__law_kind_text T T2 4
  have GI := ok_lisT (P := l.prog) (base := base) (w := w) D__law_is T T2 33
  have GKD := ok_kd (P := l.prog) (base := base) (w := w) D__law_kind D__law_draw T 4
  have GB := ok_lbent (P := l.prog) (base := base) (w := w) (K := K) D__law_bent D__law_draw D__law_some T TK
  exact ok_law ⟨Fw, bb, hfa⟩ D__law_hand (ok_hand D__law_hand.F T) D__law_some_program GSP D__law_known GKN D__law_kind_text GLK D__law_kind GKD D__law_text GLT D__law_draw (ok_draw D__law_draw.F T) D__law_bent GB D__law_is GI D__law_told GTO D__law_due GDU D__law_some (ok_some D__law_some.F T D__law_draw.F D__law_draw.b D__law_draw.m) D__law_deep (ok_deepL D__law_deep T) T TK
theorem walk {l : PySem.W.OpenLaw} {q : Program} {loose : List Str} {XP : (Str → Option Value) → Heap → Prop} {YP : World → Heap → Prop} {d : DefRec} {K : Params → PySem.W.Frag} (hn : l.most = some 63) (hdf : d.params.defaults = [])
    (hY : ∀ (w : World) (h : Heap), YP w h → (K w.params).In h)
    (F : ∀ (w : World) (mg : Str → Option Value) (fa : Addr) (h : Heap), (K w.params).In h → h.Ns mainGlobals mg → mg d.name = some (.ref fa) →
      ∃ fd : FuncData, (∀ (s : Shared) (u : Value), BindsTo s fd ⟨[u], []⟩ [("_law_script", u)]) ∧ ∀ base : Heap, (K w.params).In base → base.Ns mainGlobals mg → FnOk l.prog w (K w.params) mg base CX0 192 fa fd ["_law_script"] (spLaw (K w.params))) :
    PySem.W.WalkO q loose XP YP l.row.toRowW d [] (fun f vs => PySem.call f vs) :=
  L2.walk_of (n := 63) (k := 192) (x := "_law_script") (CX := fun _ => CX0) (sp := fun w => spLaw (K w.params)) hn (by decide) hdf ⟨rfl, by decide, by decide⟩ hY F (fun _ _ a ns hl _ hS => ⟨a, ns, rfl, hS, hl, fun _ => rfl⟩) fun _ _ _ _ _ z => z
end LG

set_option Elab.async false
set_option linter.all false
set_option maxRecDepth 100000
set_option maxHeartbeats 0
namespace LG
open PySem L2
theorem fn_ty {K : PySem.W.Frag} {v : Value} (h : PySem.W.isFn K v = true) : PySem.W.typeIn K v = some (.type "function") := beq_iff_eq.mp h
theorem defB {K : PySem.W.Frag} {x : Str} {st : Stmt} {ps : List Str} (c1 : fDef x K = true)
    (c2 : ∃ oc od osl kV doc pm an cdv ct, K.lookup (He.fAd K (dG x st).at_) = some ⟨oc, od, .func (PySem.W.fnOf (dG x st).name (dG x st).qual (dG x st).params (dG x st).body (dG x st).scope .none kV doc pm an cdv ct), osl⟩ ∧ PySem.W.codeIn K cdv (dG x st).qual = true)
    (h : ∀ (kV doc pm : Value) (an : Option Addr) (cdv ct : Value) (us : List Value), us.length = ps.length → bindArgs (PySem.W.fnOf x x (defArgs st) (defBody st) (defScope st) .none kV doc pm an cdv ct) ⟨us, []⟩ = pure (ps.zip us)) : DefPack K x st ps := by
  obtain ⟨h1, h2⟩ := He.ba c1
  obtain ⟨_, _, _, _, _, _, _, _, _, l, c⟩ := c2
  exact def_mk (fGlo_ok h1) l c h2 h
theorem methB {K : PySem.W.Frag} {C m q : Str} {st : Stmt} {ps : List Str} (c1 : fMeth C m K = true)
    (c2 : ∃ oc od osl kV doc pm an cdv ct, K.lookup (He.fAd K (dM C m q st).at_) = some ⟨oc, od, .func (PySem.W.fnOf (dM C m q st).name (dM C m q st).qual (dM C m q st).params (dM C m q st).body (dM C m q st).scope .none kV doc pm an cdv ct), osl⟩ ∧ PySem.W.codeIn K cdv (dM C m q st).qual = true)
    (h : ∀ (kV doc pm : Value) (an : Option Addr) (cdv ct : Value) (us : List Value), us.length = ps.length → bindArgs (PySem.W.fnOf m q (defArgs st) (defBody st) (defScope st) .none kV doc pm an cdv ct) ⟨us, []⟩ = pure (ps.zip us)) : MethPack K (gl K C) m q st ps := by
  obtain ⟨h1, h2, h3⟩ := fMeth_ok c1
  obtain ⟨_, _, _, _, _, _, _, _, _, l, c⟩ := c2
  exact meth_mk h1 h2 l c h3 h
theorem lawB {K : PySem.W.Frag} (c1 : fDef "law" K = true)
    (c2 : ∃ oc od osl kV doc pm an cdv ct, K.lookup (He.fAd K (dG "law" sLaw).at_) = some ⟨oc, od, .func (PySem.W.fnOf (dG "law" sLaw).name (dG "law" sLaw).qual (dG "law" sLaw).params (dG "law" sLaw).body (dG "law" sLaw).scope .none kV doc pm an cdv ct), osl⟩ ∧ PySem.W.codeIn K cdv (dG "law" sLaw).qual = true) : LawPack K := by
  obtain ⟨h1, h2⟩ := He.ba c1
  obtain ⟨_, _, _, _, _, _, _, _, _, l, c⟩ := c2
  exact law_mk (fGlo_ok h1) l c h2
theorem all_B {l : PySem.W.OpenLaw} {w : World} {K : PySem.W.Frag} {h : Heap} {mg : Str → Option Value} {fa : Addr} (X : K.In h) (G : h.Ns mainGlobals mg) (hfa : mg "law" = some (.ref fa)) (c : SaysB hFs hFn K) :
    ∃ fd : FuncData, (∀ (s : Shared) (v : Value), BindsTo s fd ⟨[v], []⟩ [("_law_script", v)]) ∧ ∀ base : Heap, K.In base → base.Ns mainGlobals mg → FnOk l.prog w K mg base CX0 192 fa fd ["_law_script"] (spLaw K) := by
  obtain ⟨_, _, _, _, _, _, _, _, _, _, _, _, _, xE⟩ := fExc_ok (c.f 1 (f := fExc "CountsError" (fun _ => [.type "ValueError", .type "Exception", .type "BaseException", .type "object"])) rfl)
  obtain ⟨_, _, _, _, _, _, _, _, _, _, _, _, _, x_BadText⟩ := fExc_ok (c.f 8 (f := fExc "BadText" (fun K => [.ref (gl K "CountsError"), .type "ValueError", .type "Exception", .type "BaseException", .type "object"])) rfl)
  obtain ⟨i_BadText, n_BadText, k_BadText⟩ := fMeth_ok (c.f 15 (f := fMeth "BadText" "__init__") rfl)
  obtain ⟨_, _, _, _, _, _, _, _, _, l_BadText, c_BadText⟩ := c.d 0 (d := dM "BadText" "__init__" "BadText.__init__" (inClass (top 2) 0)) rfl
  obtain ⟨_, k_LAST_LETTER⟩ := fInt_ok (c.f 17 (f := fInt "LAST_LETTER" 25) rfl)
  obtain ⟨_, k_MOST_LETTERS⟩ := fInt_ok (c.f 18 (f := fInt "MOST_LETTERS" 60) rfl)
  obtain ⟨_, k_MOST_DEEP⟩ := fInt_ok (c.f 19 (f := fInt "MOST_DEEP" 30) rfl)
  obtain ⟨_, k_NAME_LETTERS⟩ := fStr_ok (c.f 20 (f := fStr "NAME_LETTERS" "abcdefghijklmnopqrstuvwxyz") rfl)
  obtain ⟨_, k_LONGEST_NAME⟩ := fInt_ok (c.f 21 (f := fInt "LONGEST_NAME" 8) rfl)
  obtain ⟨_, k_USE⟩ := fStr_ok (c.f 22 (f := fStr "USE" "@") rfl)
  obtain ⟨_, k_MOST_WORDS⟩ := fInt_ok (c.f 23 (f := fInt "MOST_WORDS" 400) rfl)
  obtain ⟨_, k_NO_STRING⟩ := fInt_ok (c.f 24 (f := fInt "NO_STRING" (-1)) rfl)
  obtain ⟨a_Reading, pg_Reading, hd_Reading, po_Reading, sa_Reading, mk_Reading, kc_Reading⟩ := fCls_ok (c.f 63 (f := fCls "Reading") rfl)
  exact all_mk X G hfa (fGlo_ok (c.f 0 (f := fGlo "CountsError") rfl))
    xE
    (fIs_ok (K := K) (a := fun K => PySem.W.typeIn K (.ref (gl K "CountsError"))) (b := fun K => some (.type "type")) (c.f 2 (f := fIs (fun K => PySem.W.typeIn K (.ref (gl K "CountsError"))) (fun K => some (.type "type"))) rfl))
    (fIs_ok (K := K) (a := fun K => PySem.W.subIn K (.ref (gl K "CountsError")) (.type "BaseException")) (b := fun K => some true) (c.f 3 (f := fIs (fun K => PySem.W.subIn K (.ref (gl K "CountsError")) (.type "BaseException")) (fun K => some true)) rfl))
    (fIs_ok (K := K) (a := fun K => PySem.W.hasDictIn K (gl K "CountsError")) (b := fun K => true) (c.f 4 (f := fIs (fun K => PySem.W.hasDictIn K (gl K "CountsError")) (fun K => true)) rfl))
    (fIs_ok (K := K) (a := fun K => PySem.W.specialIn K (.builtin "object.__class__") "__get__") (b := fun K => some (some (.builtin "getset_descriptor.__get__"))) (c.f 5 (f := fIs (fun K => PySem.W.specialIn K (.builtin "object.__class__") "__get__") (fun K => some (some (.builtin "getset_descriptor.__get__")))) rfl))
    (fIs_ok (K := K) (a := fun K => PySem.W.takesIn K (.builtin "object.__class__")) (b := fun K => some true) (c.f 6 (f := fIs (fun K => PySem.W.takesIn K (.builtin "object.__class__")) (fun K => some true)) rfl))
    (pkBadText_mk (fGlo_ok (c.f 7 (f := fGlo "BadText") rfl)) x_BadText (fIs_ok (K := K) (a := fun K => PySem.W.findIn K (.ref (gl K "BadText")) "__setattr__") (b := fun K => some (some (.builtin "object.__setattr__"))) (c.f 9 (f := fIs (fun K => PySem.W.findIn K (.ref (gl K "BadText")) "__setattr__") (fun K => some (some (.builtin "object.__setattr__")))) rfl)) (fIs_ok (K := K) (a := fun K => PySem.W.findIn K (.ref (gl K "BadText")) "__getattribute__") (b := fun K => some (some (.builtin "BaseException.__getattribute__"))) (c.f 10 (f := fIs (fun K => PySem.W.findIn K (.ref (gl K "BadText")) "__getattribute__") (fun K => some (some (.builtin "BaseException.__getattribute__")))) rfl)) (fIs_ok (K := K) (a := fun K => PySem.W.findIn K (.ref (gl K "BadText")) "__getattr__") (b := fun K => some none) (c.f 11 (f := fIs (fun K => PySem.W.findIn K (.ref (gl K "BadText")) "__getattr__") (fun K => some none)) rfl)) (fIs_ok (K := K) (a := fun K => PySem.W.typeIn K (.ref (gl K "BadText"))) (b := fun K => some (.type "type")) (c.f 12 (f := fIs (fun K => PySem.W.typeIn K (.ref (gl K "BadText"))) (fun K => some (.type "type"))) rfl)) (fIs_ok (K := K) (a := fun K => PySem.W.keepIn K (.ref (gl K "BadText"))) (b := fun K => true) (c.f 13 (f := fIs (fun K => PySem.W.keepIn K (.ref (gl K "BadText"))) (fun K => true)) rfl)) (fIs_ok (K := K) (a := fun K => PySem.W.findIn K (.ref (gl K "BadText")) "__class__") (b := fun K => some (some (.builtin "object.__class__"))) (c.f 14 (f := fIs (fun K => PySem.W.findIn K (.ref (gl K "BadText")) "__class__") (fun K => some (some (.builtin "object.__class__")))) rfl)) i_BadText (fn_ty n_BadText) l_BadText c_BadText k_BadText (fIs_ok (K := K) (a := fun K => PySem.W.findIn K (.ref (gl K "BadText")) "index") (b := fun K => some none) (c.f 16 (f := fIs (fun K => PySem.W.findIn K (.ref (gl K "BadText")) "index") (fun K => some none)) rfl)))
    k_LAST_LETTER
    k_MOST_LETTERS
    k_MOST_DEEP
    k_NAME_LETTERS
    k_LONGEST_NAME
    k_USE
    k_MOST_WORDS
    k_NO_STRING
    (defB (c.f 25 (f := fDef "is_integer") rfl) (c.d 1 (d := dG "is_integer" (top 6)) rfl) (fun _ _ _ _ _ _ us hl => match us, hl with | [_], _ => rfl))
    (defB (c.f 26 (f := fDef "is_integer_within") rfl) (c.d 2 (d := dG "is_integer_within" (top 7)) rfl) (fun _ _ _ _ _ _ us hl => match us, hl with | [_, _, _], _ => rfl))
    (defB (c.f 27 (f := fDef "is_pair") rfl) (c.d 3 (d := dG "is_pair" (top 8)) rfl) (fun _ _ _ _ _ _ us hl => match us, hl with | [_], _ => rfl))
    (defB (c.f 28 (f := fDef "is_letter") rfl) (c.d 4 (d := dG "is_letter" (top 13)) rfl) (fun _ _ _ _ _ _ us hl => match us, hl with | [_], _ => rfl))
    (defB (c.f 29 (f := fDef "is_kind") rfl) (c.d 5 (d := dG "is_kind" (top 14)) rfl) (fun _ _ _ _ _ _ us hl => match us, hl with | [_], _ => rfl))
    (defB (c.f 30 (f := fDef "is_name") rfl) (c.d 6 (d := dG "is_name" (top 18)) rfl) (fun _ _ _ _ _ _ us hl => match us, hl with | [_], _ => rfl))
    (defB (c.f 31 (f := fDef "is_made_of_words") rfl) (c.d 7 (d := dG "is_made_of_words" (top 21)) rfl) (fun _ _ _ _ _ _ us hl => match us, hl with | [_, _], _ => rfl))
    (defB (c.f 32 (f := fDef "_is_fit_take") rfl) (c.d 8 (d := dG "_is_fit_take" (top 22)) rfl) (fun _ _ _ _ _ _ us hl => match us, hl with | [_, _], _ => rfl))
    (defB (c.f 33 (f := fDef "is_program") rfl) (c.d 9 (d := dG "is_program" (top 25)) rfl) (fun _ _ _ _ _ _ us hl => match us, hl with | [_], _ => rfl))
    (defB (c.f 34 (f := fDef "read_kind") rfl) (c.d 10 (d := dG "read_kind" (top 28)) rfl) (fun _ _ _ _ _ _ us hl => match us, hl with | [_], _ => rfl))
    (defB (c.f 35 (f := fDef "read_program") rfl) (c.d 11 (d := dG "read_program" (top 29)) rfl) (fun _ _ _ _ _ _ us hl => match us, hl with | [_], _ => rfl))
    (defB (c.f 36 (f := fDef "kind_of_text") rfl) (c.d 12 (d := dG "kind_of_text" (top 30)) rfl) (fun _ _ _ _ _ _ us hl => match us, hl with | [_], _ => rfl))
    (defB (c.f 37 (f := fDef "program_of_text") rfl) (c.d 13 (d := dG "program_of_text" (top 31)) rfl) (fun _ _ _ _ _ _ us hl => match us, hl with | [_], _ => rfl))
    (defB (c.f 38 (f := fDef "_law_hand") rfl) (c.d 14 (d := dG "_law_hand" (top 34)) rfl) (fun _ _ _ _ _ _ us hl => match us, hl with | [_], _ => rfl))
    (defB (c.f 39 (f := fDef "_law_draw") rfl) (c.d 15 (d := dG "_law_draw" (top 35)) rfl) (fun _ _ _ _ _ _ us hl => match us, hl with | [_, _], _ => rfl))
    (defB (c.f 40 (f := fDef "_law_some") rfl) (c.d 16 (d := dG "_law_some" (top 36)) rfl) (fun _ _ _ _ _ _ us hl => match us, hl with | [_, _], _ => rfl))
    (defB (c.f 41 (f := fDef "_law_shuffled") rfl) (c.d 17 (d := dG "_law_shuffled" (top 37)) rfl) (fun _ _ _ _ _ _ us hl => match us, hl with | [_, _], _ => rfl))
    (defB (c.f 42 (f := fDef "_law_is") rfl) (c.d 18 (d := dG "_law_is" (top 38)) rfl) (fun _ _ _ _ _ _ us hl => match us, hl with | [_, _], _ => rfl))
    (defB (c.f 43 (f := fDef "_law_deep") rfl) (c.d 19 (d := dG "_law_deep" (top 39)) rfl) (fun _ _ _ _ _ _ us hl => match us, hl with | [_], _ => rfl))
    (defB (c.f 44 (f := fDef "_law_kind") rfl) (c.d 20 (d := dG "_law_kind" (top 40)) rfl) (fun _ _ _ _ _ _ us hl => match us, hl with | [_, _], _ => rfl))
    (defB (c.f 45 (f := fDef "_law_ends") rfl) (c.d 21 (d := dG "_law_ends" (top 41)) rfl) (fun _ _ _ _ _ _ us hl => match us, hl with | [_], _ => rfl))
    (defB (c.f 46 (f := fDef "_law_known") rfl) (c.d 22 (d := dG "_law_known" (top 42)) rfl) (fun _ _ _ _ _ _ us hl => match us, hl with | [_, _], _ => rfl))
    (defB (c.f 47 (f := fDef "_law_some_program") rfl) (c.d 23 (d := dG "_law_some_program" (top 43)) rfl) (fun _ _ _ _ _ _ us hl => match us, hl with | [_, _, _], _ => rfl))
    (defB (c.f 48 (f := fDef "_law_spans") rfl) (c.d 24 (d := dG "_law_spans" (top 44)) rfl) (fun _ _ _ _ _ _ us hl => match us, hl with | [_], _ => rfl))
    (defB (c.f 49 (f := fDef "_law_heads") rfl) (c.d 25 (d := dG "_law_heads" (top 45)) rfl) (fun _ _ _ _ _ _ us hl => match us, hl with | [_, _, _], _ => rfl))
    (defB (c.f 50 (f := fDef "_law_fit") rfl) (c.d 26 (d := dG "_law_fit" (top 46)) rfl) (fun _ _ _ _ _ _ us hl => match us, hl with | [_, _, _, _], _ => rfl))
    (defB (c.f 51 (f := fDef "_law_loose") rfl) (c.d 27 (d := dG "_law_loose" (top 47)) rfl) (fun _ _ _ _ _ _ us hl => match us, hl with | [_, _, _], _ => rfl))
    (defB (c.f 52 (f := fDef "_law_kind_text") rfl) (c.d 28 (d := dG "_law_kind_text" (top 48)) rfl) (fun _ _ _ _ _ _ us hl => match us, hl with | [_], _ => rfl))
    (defB (c.f 53 (f := fDef "_law_text") rfl) (c.d 29 (d := dG "_law_text" (top 49)) rfl) (fun _ _ _ _ _ _ us hl => match us, hl with | [_], _ => rfl))
    (defB (c.f 54 (f := fDef "_law_signs") rfl) (c.d 30 (d := dG "_law_signs" (top 50)) rfl) (fun _ _ _ _ _ _ us hl => match us, hl with | [_, _, _], _ => rfl))
    (defB (c.f 55 (f := fDef "_law_read_atom") rfl) (c.d 31 (d := dG "_law_read_atom" (top 51)) rfl) (fun _ _ _ _ _ _ us hl => match us, hl with | [_, _], _ => rfl))
    (defB (c.f 56 (f := fDef "_law_read_kind") rfl) (c.d 32 (d := dG "_law_read_kind" (top 52)) rfl) (fun _ _ _ _ _ _ us hl => match us, hl with | [_, _], _ => rfl))
    (defB (c.f 57 (f := fDef "_law_read_name") rfl) (c.d 33 (d := dG "_law_read_name" (top 53)) rfl) (fun _ _ _ _ _ _ us hl => match us, hl with | [_, _], _ => rfl))
    (defB (c.f 58 (f := fDef "_law_read_take") rfl) (c.d 34 (d := dG "_law_read_take" (top 54)) rfl) (fun _ _ _ _ _ _ us hl => match us, hl with | [_, _], _ => rfl))
    (defB (c.f 59 (f := fDef "_law_read_words") rfl) (c.d 35 (d := dG "_law_read_words" (top 55)) rfl) (fun _ _ _ _ _ _ us hl => match us, hl with | [_, _], _ => rfl))
    (defB (c.f 60 (f := fDef "_law_due") rfl) (c.d 36 (d := dG "_law_due" (top 56)) rfl) (fun _ _ _ _ _ _ us hl => match us, hl with | [_, _], _ => rfl))
    (defB (c.f 61 (f := fDef "_law_told") rfl) (c.d 37 (d := dG "_law_told" (top 57)) rfl) (fun _ _ _ _ _ _ us hl => match us, hl with | [_, _], _ => rfl))
    (defB (c.f 62 (f := fDef "_law_bent") rfl) (c.d 38 (d := dG "_law_bent" (top 58)) rfl) (fun _ _ _ _ _ _ us hl => match us, hl with | [_, _], _ => rfl))
    (pkReading_mk a_Reading pg_Reading hd_Reading po_Reading sa_Reading (fNo_ok (c.f 64 (f := fNo "Reading" "_text") rfl)) (fNo_ok (c.f 65 (f := fNo "Reading" "_at") rfl))  mk_Reading kc_Reading (methB (c.f 66 (f := fMeth "Reading" "__init__") rfl) (c.d 39 (d := dM "Reading" "__init__" "Reading.__init__" (inClass (top 32) 0)) rfl) (fun _ _ _ _ _ _ us hl => match us, hl with | [_, _], _ => rfl)) (methB (c.f 67 (f := fMeth "Reading" "_goes_on") rfl) (c.d 40 (d := dM "Reading" "_goes_on" "Reading._goes_on" (inClass (top 32) 1)) rfl) (fun _ _ _ _ _ _ us hl => match us, hl with | [_, _], _ => rfl)) (methB (c.f 68 (f := fMeth "Reading" "_is_letter") rfl) (c.d 41 (d := dM "Reading" "_is_letter" "Reading._is_letter" (inClass (top 32) 2)) rfl) (fun _ _ _ _ _ _ us hl => match us, hl with | [_], _ => rfl)) (methB (c.f 69 (f := fMeth "Reading" "_need") rfl) (c.d 42 (d := dM "Reading" "_need" "Reading._need" (inClass (top 32) 3)) rfl) (fun _ _ _ _ _ _ us hl => match us, hl with | [_, _], _ => rfl)) (methB (c.f 70 (f := fMeth "Reading" "need_end") rfl) (c.d 43 (d := dM "Reading" "need_end" "Reading.need_end" (inClass (top 32) 4)) rfl) (fun _ _ _ _ _ _ us hl => match us, hl with | [_], _ => rfl)) (methB (c.f 71 (f := fMeth "Reading" "_letter") rfl) (c.d 44 (d := dM "Reading" "_letter" "Reading._letter" (inClass (top 32) 5)) rfl) (fun _ _ _ _ _ _ us hl => match us, hl with | [_], _ => rfl)) (methB (c.f 72 (f := fMeth "Reading" "_name") rfl) (c.d 45 (d := dM "Reading" "_name" "Reading._name" (inClass (top 32) 6)) rfl) (fun _ _ _ _ _ _ us hl => match us, hl with | [_], _ => rfl)) (methB (c.f 73 (f := fMeth "Reading" "kind") rfl) (c.d 46 (d := dM "Reading" "kind" "Reading.kind" (inClass (top 32) 7)) rfl) (fun _ _ _ _ _ _ us hl => match us, hl with | [_], _ => rfl)) (methB (c.f 74 (f := fMeth "Reading" "program") rfl) (c.d 47 (d := dM "Reading" "program" "Reading.program" (inClass (top 32) 8)) rfl) (fun _ _ _ _ _ _ us hl => match us, hl with | [_], _ => rfl)) (methB (c.f 75 (f := fMeth "Reading" "_take") rfl) (c.d 48 (d := dM "Reading" "_take" "Reading._take" (inClass (top 32) 9)) rfl) (fun _ _ _ _ _ _ us hl => match us, hl with | [_], _ => rfl)))
    (lawB (c.f 76 (f := fDef "law") rfl) (c.d 49 (d := dG "law" (top 59)) rfl))
    (fFree_ok (c.f 77 (f := fFree "abs") rfl))
    (fFree_ok (c.f 78 (f := fFree "int") rfl))
    (fFree_ok (c.f 79 (f := fFree "len") rfl))
    (fFree_ok (c.f 80 (f := fFree "isinstance") rfl))
    (fFree_ok (c.f 81 (f := fFree "all") rfl))
    (fFree_ok (c.f 82 (f := fFree "range") rfl))
    (fFree_ok (c.f 83 (f := fFree "tuple") rfl))
    (fFree_ok (c.f 84 (f := fFree "list") rfl))
    (fFree_ok (c.f 85 (f := fFree "dict") rfl))
    (fFree_ok (c.f 86 (f := fFree "bool") rfl))
    (fFree_ok (c.f 87 (f := fFree "str") rfl))
    (fFree_ok (c.f 88 (f := fFree "sorted") rfl))
    (fFree_ok (c.f 89 (f := fFree "max") rfl))
    (fFree_ok (c.f 90 (f := fFree "any") rfl))
    (fFree_ok (c.f 91 (f := fFree "reversed") rfl))
    (fFree_ok (c.f 92 (f := fFree "set") rfl))
    (fFree_ok (c.f 93 (f := fFree "enumerate") rfl))
    (fFree_ok (c.f 94 (f := fFree "sum") rfl))
    (fFree_ok (c.f 95 (f := fFree "ValueError") rfl))
end LG
open PySem PySem.W PyProof.Rows
theorem PySem.Challenge.cw_usecounts_k11_whole_first_wrong_signs_holds : PySem.Challenge.rw_usecounts_k11_whole_first_wrong_signs.Holds := by
  w_on
  o_law
  refine HandSHeadRun.head_imp (r := OpenLaw.row PySem.Challenge.rw_usecounts_k11_whole_first_wrong_signs) (q := view (OpenLaw.row PySem.Challenge.rw_usecounts_k11_whole_first_wrong_signs).prog [59]) (H := LG.hHk) (ob := LG.hOb) (M := 60000) (loose := LG.hLoose) (d := HandSHeadRun.topDef (OpenLaw.row PySem.Challenge.rw_usecounts_k11_whole_first_wrong_signs).prog 59) (kwd := []) LG.hOb_eq
    LG.hRun (by kernel_rfl) (by kernel_rfl) (by kernel_rfl) (by rfl) (by first | assumption | decide +kernel) (by decide +kernel) ⟨rfl, rfl, rfl, rfl, rfl, by decide +kernel⟩ ?hw ?hc
  case hw => w_witness2
  case hc =>
    refine L2.walk_ofE (l := PySem.Challenge.rw_usecounts_k11_whole_first_wrong_signs) (n := 63) (k := 192) (x := "_law_script") (CX := L2.CX0) rfl (by decide) (by kernel_rfl) ⟨rfl, by decide, by decide⟩ ?F (fun _ _ _ _ z => z)
    intro w mg fa h Y G hmg0
    obtain ⟨K, KX, c⟩ := Y
    have hmg : mg ("law" : PySem.Str) = some (.ref fa) := by
      have e : (HandSHeadRun.topDef (OpenLaw.row PySem.Challenge.rw_usecounts_k11_whole_first_wrong_signs).prog 59).name = ("law" : PySem.Str) := by kernel_rfl
      rw [← e]
      exact hmg0
    obtain ⟨fd, hb, hF⟩ := LG.all_B (l := PySem.Challenge.rw_usecounts_k11_whole_first_wrong_signs) (w := w) KX G hmg c
    exact ⟨K, fd, LG.spLaw K, KX, hb, fun H a ns hl _ hS => ⟨a, ns, rfl, hS, hl, fun _ => rfl⟩, hF⟩
#print axioms PySem.Challenge.cw_usecounts_k11_whole_first_wrong_signs_holds
